
import PyProof.Rows.All
import Wide.All
import OpenK.AllK
import Wide.FinOn
import HandS.ForMost
import HandS.IsInst
import HandS.Walk
import HandS.Wide
import HandS.Codes
import HandS.Gcd
import HandS.Zip
import HandS.ForExc
import HandS.ExcInit
import HandS.ExcSuper
import HandS.ExcField
import HandS.Lambda
import HandS.HotCalls
import HandS.TryMany
import HandS.EndTab
import HandS.Star
import HandS.Defaults
import HandS.TryOnly
import KE.KMathG
import KE.KMathGC
import HandS.EndOwn
import HandS.Deep
import KE.KExcSuper
import KE.KSuper
import KE.KTryMore
import PySem.Challenge.RW_numbertypes_k03_common_divisors_and_mult
set_option Elab.async false
set_option linter.all false
set_option maxRecDepth 100000
set_option maxHeartbeats 4000000
namespace My
open PySem PySem.Spec PyProof.Rows L2
/-! ### the text by places -/
def topS (i : Nat) : Stmt := PySem.Challenge.pw_numbertypes_k03_common_divisors_and_mult.main.body.getD i (.Pass ⟨0, 0, 0, 0⟩)
abbrev s_is_int : Stmt := topS 7
abbrev N_is_int : List Str := ["value"]
theorem sc_is_int : FnScope N_is_int ["value"] (defScope s_is_int) := ⟨rfl, rfl, rfl, by decide +kernel, rfl, by decide +kernel, by decide +kernel⟩
abbrev s_common : Stmt := topS 8
abbrev N_common : List Str := ["numbers", "result", "number"]
theorem sc_common : FnScope N_common ["numbers"] (defScope s_common) := ⟨rfl, rfl, rfl, by decide +kernel, rfl, by decide +kernel, by decide +kernel⟩
abbrev s_multiple : Stmt := topS 9
abbrev N_multiple : List Str := ["numbers", "result", "number"]
theorem sc_multiple : FnScope N_multiple ["numbers"] (defScope s_multiple) := ⟨rfl, rfl, rfl, by decide +kernel, rfl, by decide +kernel, by decide +kernel⟩
abbrev s_divides : Stmt := topS 10
abbrev N_divides : List Str := ["one", "other"]
theorem sc_divides : FnScope N_divides ["one", "other"] (defScope s_divides) := ⟨rfl, rfl, rfl, by decide +kernel, rfl, by decide +kernel, by decide +kernel⟩
abbrev s_share : Stmt := topS 11
abbrev N_share : List Str := ["p", "q", "part"]
theorem sc_share : FnScope N_share ["p", "q"] (defScope s_share) := ⟨rfl, rfl, rfl, by decide +kernel, rfl, by decide +kernel, by decide +kernel⟩
abbrev s_l_bag : Stmt := topS 13
abbrev N_l_bag : List Str := ["_law_script", "_law_cells"]
theorem sc_l_bag : FnScope N_l_bag ["_law_script"] (defScope s_l_bag) := ⟨rfl, rfl, rfl, by decide +kernel, rfl, by decide +kernel, by decide +kernel⟩
abbrev s_l_draw : Stmt := topS 14
abbrev N_l_draw : List Str := ["_law_bag_here", "_law_many", "_law_cell", "_law_got_here"]
theorem sc_l_draw : FnScope N_l_draw ["_law_bag_here", "_law_many"] (defScope s_l_draw) := ⟨rfl, rfl, rfl, by decide +kernel, rfl, by decide +kernel, by decide +kernel⟩
abbrev s_l_pick : Stmt := topS 15
abbrev N_l_pick : List Str := ["_law_bag_here", "_law_some"]
theorem sc_l_pick : FnScope N_l_pick ["_law_bag_here", "_law_some"] (defScope s_l_pick) := ⟨rfl, rfl, rfl, by decide +kernel, rfl, by decide +kernel, by decide +kernel⟩
abbrev s_l_same : Stmt := topS 16
abbrev N_l_same : List Str := ["_law_found", "_law_due", "_law_a", "_law_b"]
theorem sc_l_same : FnScope N_l_same ["_law_found", "_law_due"] (defScope s_l_same) := ⟨rfl, rfl, rfl, by decide +kernel, rfl, by decide +kernel, by decide +kernel⟩
abbrev s_l_field : Stmt := topS 17
abbrev N_l_field : List Str := ["_law_e"]
theorem sc_l_field : FnScope N_l_field ["_law_e"] (defScope s_l_field) := ⟨rfl, rfl, rfl, by decide +kernel, rfl, by decide +kernel, by decide +kernel⟩
abbrev s_l_got : Stmt := topS 18
abbrev N_l_got : List Str := ["_law_ask", "_law_e"]
theorem sc_l_got : FnScope N_l_got ["_law_ask"] (defScope s_l_got) := ⟨rfl, rfl, rfl, by decide +kernel, rfl, by decide +kernel, by decide +kernel⟩
abbrev s_l_gcd : Stmt := topS 19
abbrev N_l_gcd : List Str := ["_law_a", "_law_b", "_law_left_z", "_law_right_z"]
theorem sc_l_gcd : FnScope N_l_gcd ["_law_a", "_law_b"] (defScope s_l_gcd) := ⟨rfl, rfl, rfl, by decide +kernel, rfl, by decide +kernel, by decide +kernel⟩
abbrev s_l_gcds : Stmt := topS 20
abbrev N_l_gcds : List Str := ["_law_numbers", "_law_found", "_law_number"]
theorem sc_l_gcds : FnScope N_l_gcds ["_law_numbers"] (defScope s_l_gcds) := ⟨rfl, rfl, rfl, by decide +kernel, rfl, by decide +kernel, by decide +kernel⟩
abbrev s_l_lcm : Stmt := topS 21
abbrev N_l_lcm : List Str := ["_law_a", "_law_b"]
theorem sc_l_lcm : FnScope N_l_lcm ["_law_a", "_law_b"] (defScope s_l_lcm) := ⟨rfl, rfl, rfl, by decide +kernel, rfl, by decide +kernel, by decide +kernel⟩
abbrev s_l_divides : Stmt := topS 22
abbrev N_l_divides : List Str := ["_law_a", "_law_b"]
theorem sc_l_divides : FnScope N_l_divides ["_law_a", "_law_b"] (defScope s_l_divides) := ⟨rfl, rfl, rfl, by decide +kernel, rfl, by decide +kernel, by decide +kernel⟩
abbrev s_l_share : Stmt := topS 23
abbrev N_l_share : List Str := ["_law_p", "_law_q", "_law_part"]
theorem sc_l_share : FnScope N_l_share ["_law_p", "_law_q"] (defScope s_l_share) := ⟨rfl, rfl, rfl, by decide +kernel, rfl, by decide +kernel, by decide +kernel⟩
abbrev s_law : Stmt := topS 24
abbrev N_law : List Str := ["_law_script", "_law_bag_here", "_law_turn", "_law_size", "_law_a", "_law_b", "_law_c", "_law_k", "_law_told", "_law_due", "_law_q", "_law_odd"]
theorem sc_law : FnScope N_law ["_law_script"] (defScope s_law) := ⟨rfl, rfl, rfl, by decide +kernel, rfl, by decide +kernel, by decide +kernel⟩
abbrev s_InvalidNumber_init : Stmt := inClass (topS 4) 0
abbrev s_NothingLeft_init : Stmt := inClass (topS 5) 0
structure Blt (mg : Str → Option Value) : Prop where
  IndexError : mg "IndexError" = none
  LookupError : mg "LookupError" = none
  ValueError : mg "ValueError" = none
  abs : mg "abs" = none
  all : mg "all" = none
  bool : mg "bool" = none
  int : mg "int" = none
  isinstance : mg "isinstance" = none
  len : mg "len" = none
  list : mg "list" = none
  range : mg "range" = none
  str : mg "str" = none
  tuple : mg "tuple" = none
  zip : mg "zip" = none
theorem bb_IndexError : bootBuiltins "IndexError" = some (.type "IndexError") := by decide +kernel
theorem bb_LookupError : bootBuiltins "LookupError" = some (.type "LookupError") := by decide +kernel
theorem bb_ValueError : bootBuiltins "ValueError" = some (.type "ValueError") := by decide +kernel
theorem bb_abs : bootBuiltins "abs" = some (.builtin "abs") := by decide +kernel
theorem bb_all : bootBuiltins "all" = some (.builtin "all") := by decide +kernel
theorem bb_bool : bootBuiltins "bool" = some (.type "bool") := by decide +kernel
theorem bb_int : bootBuiltins "int" = some (.type "int") := by decide +kernel
theorem bb_isinstance : bootBuiltins "isinstance" = some (.builtin "isinstance") := by decide +kernel
theorem bb_len : bootBuiltins "len" = some (.builtin "len") := by decide +kernel
theorem bb_list : bootBuiltins "list" = some (.type "list") := by decide +kernel
theorem bb_range : bootBuiltins "range" = some (.type "range") := by decide +kernel
theorem bb_str : bootBuiltins "str" = some (.type "str") := by decide +kernel
theorem bb_tuple : bootBuiltins "tuple" = some (.type "tuple") := by decide +kernel
theorem bb_zip : bootBuiltins "zip" = some (.type "zip") := by decide +kernel
/-! ### an own def by its name -/
structure Has (P : Program) (w : World) (K : PySem.W.Frag) (mg : Str → Option Value) (base : Heap) (k : Nat) (x : Str) (ps : List Str) (sp : Sp) : Prop where
  ex : ∃ (f : Addr) (fd : FuncData), FnOk P w K mg base CX0 k f fd ps sp ∧ mg x = some (.ref f) ∧ PySem.W.keepIn K (.ref f) = true ∧ Binds K fd ps []
structure Fn (K : PySem.W.Frag) (mg : Str → Option Value) (x : Str) (st : Stmt) (ps : List Str) : Prop where
  ex : ∃ (f : Addr) (fd : FuncData), Fun K x x st f fd ∧ mg x = some (.ref f) ∧ Binds K fd ps []
section
variable {X : Cx} {k : Nat} {x : Str} {ps : List Str} {sp : Sp} {p pos : Pos} {e : Expr} {es : List Expr} {t : TA}
theorem pe_own (h : Has X.prog X.w X.K X.mg X.base k x ps sp) (hr : Room k X.A) (hg : Gl X x) (ha : PA X (e :: es) t) (hdb : (x == ("__debug__" : Str)) = false := by decide)
    (he : starEach (e :: es) X.env = (false, eval e X.env) :: starEach es X.env := by rfl) (hpl : (backTo pos (starEach es X.env)).any (·.1) = false := by rfl) : PE X (.Call (.Name x p) (e :: es) [] pos) (tCall sp [] E0 t) := by
  obtain ⟨f, fd, F, m, kp, b⟩ := h.ex
  exact pe_call F hr hg m kp b .nil pass0 ha hdb he hpl
theorem pe_own0 (h : Has X.prog X.w X.K X.mg X.base k x ps sp) (hr : Room k X.A) (hg : Gl X x) (hdb : (x == ("__debug__" : Str)) = false := by decide) : PE X (.Call (.Name x p) [] [] pos) (tCall sp [] E0 tNil) := by
  obtain ⟨f, fd, F, m, kp, b⟩ := h.ex
  exact pe_call0 F hr hg m kp b .nil pass0 hdb
theorem pe_gstr {z : Str} (h : ∃ u, X.mg x = some (.str z u)) (hg : Gl X x) (hdb : (x == ("__debug__" : Str)) = false := by decide) : PE X (.Name x pos) (tC (.str z)) := by
  obtain ⟨u, h⟩ := h
  exact pe_glob hg h ⟨_, rfl⟩ hdb
theorem pe_gint {z : Int} (h : ∃ u, X.mg x = some (.int z u)) (hg : Gl X x) (hdb : (x == ("__debug__" : Str)) = false := by decide) : PE X (.Name x pos) (tC (.int z)) := by
  obtain ⟨u, h⟩ := h
  exact pe_glob hg h ⟨_, rfl⟩ hdb
theorem pe_gref {a : Addr} (h : X.mg x = some (.ref a)) (hg : Gl X x) (hdb : (x == ("__debug__" : Str)) = false := by decide) : PE X (.Name x pos) (tC (.ref a)) := pe_glob hg h rfl hdb
end
section
variable {P : Program} {w : World} {K : PySem.W.Frag} {mg : Str → Option Value} {base : Heap}
theorem Fn.has {x : Str} {st : Stmt} {N ps : List Str} {k : Nat} {sp : Sp} (F : Fn K mg x st ps) (S : FnScope N ps (defScope st)) (len : ∀ vs H Q E, sp vs H Q E → vs.length = ps.length)
    (hbody : ∀ (f : Addr) (cdv : Value) (A : Around) (outer : List Env) (s : Shared) (H : Hp) (vs : List V) (Q : VK) (E : XK), Room k (A.deeper (envOfC x (defScope st) s.heap.objs.size f cdv)) → sp vs H Q E →
      ∃ t, PSs (cxOf CX0 P w K mg base N x (defScope st) f cdv A outer s H E).nox (defBody st) t ∧ t { nx := fun _ H' => Q .non H', rt := Q } (start N vs) H) : Has P w K mg base (k + 1) x ps sp := by
  obtain ⟨f, fd, F, m, b⟩ := F.ex
  exact ⟨f, fd, F.ok S len (hbody f), m, F.kp, b⟩
end
/-! ### heaps -/
theorem same_upd {H : Hp} {p : Addr} {o : HO} (h : H p = none) : Same H (upd H p o) := fun b x e => by
  rw [upd_ne (ne_of_none e h)]
  exact e
/-- all that was tracked is as it was, but for b -/
def Kp (b : Addr) (H H' : Hp) : Prop := ∀ a o, a ≠ b → H a = some o → H' a = some o
theorem Kp.refl (b : Addr) (H : Hp) : Kp b H H := fun _ _ _ h => h
theorem Kp.trans {b : Addr} {H H1 H2 : Hp} (x : Kp b H H1) (y : Kp b H1 H2) : Kp b H H2 := fun a o n h => y a o n (x a o n h)
theorem Kp.of {b : Addr} {H H' : Hp} (s : Same H H') : Kp b H H' := fun a o _ h => s a o h
theorem Kp.upd {b : Addr} {H : Hp} {o : HO} : Kp b H (upd H b o) := fun a u n h => by rw [upd_ne n]; exact h
/-! ### the bag -/
structure BgAt (H : Hp) (b c : Addr) (ns : List Int) (i r m : Int) : Prop where
  hb : H b = some (.lst [.ref c, .int i, .int r, .int m])
  hc : H c = some (.lst (ns.map V.int))
  len : ns.length ≤ 63
  i0 : 0 ≤ i
  r0 : 0 ≤ r
  m0 : 0 ≤ m
  m1 : m < 2147483648
def Bg (H : Hp) (b c : Addr) : Prop := ∃ ns i r m, BgAt H b c ns i r m
theorem bg_ne {H : Hp} {b c : Addr} {x : V} {r : List V} {ns : List Int} {a : Addr} (hb : H b = some (.lst (.ref a :: r))) (hc : H c = some (.lst (ns.map V.int))) : c ≠ b := by
  refine ne_of hc hb fun e => ?_
  cases ns with
  | nil => cases e
  | cons n t => cases e
theorem BgAt.ne {H : Hp} {b c : Addr} {ns : List Int} {i r m : Int} (h : BgAt H b c ns i r m) : c ≠ b := bg_ne (x := .non) h.hb h.hc
theorem BgAt.put {H : Hp} {b c : Addr} {ns : List Int} {i r m i' r' m' : Int} (h : BgAt H b c ns i r m) (i0 : 0 ≤ i') (r0 : 0 ≤ r') (m0 : 0 ≤ m') (m1 : m' < 2147483648) :
    BgAt (upd H b (.lst [.ref c, .int i', .int r', .int m'])) b c ns i' r' m' := ⟨upd_same, by rw [upd_ne h.ne]; exact h.hc, h.len, i0, r0, m0, m1⟩
theorem Bg.same {H H' : Hp} {b c : Addr} (h : Bg H b c) (s : Same H H') : Bg H' b c := by
  obtain ⟨ns, i, r, m, h⟩ := h
  exact ⟨ns, i, r, m, s _ _ h.hb, s _ _ h.hc, h.len, h.i0, h.r0, h.m0, h.m1⟩
theorem Bg.kp {H H' : Hp} {b c d : Addr} (h : Bg H b c) (hd : d ≠ b) (hc : d ≠ c) (s : Kp d H H') : Bg H' b c := by
  obtain ⟨ns, i, r, m, h⟩ := h
  exact ⟨ns, i, r, m, s _ _ hd.symm h.hb, s _ _ hc.symm h.hc, h.len, h.i0, h.r0, h.m0, h.m1⟩
theorem cut63 {xs : List V} (h : xs.length ≤ 63) : cutV xs none (some 63) = xs := by
  unfold cutV
  rw [HT.sIx_none, show HT.sIx xs.length xs.length (some 63) = min 63 xs.length from HT.sIx_nat xs.length xs.length 63, List.drop_zero, Nat.sub_zero]
  exact List.take_of_length_le (by omega)
theorem at_ofG {α : Type} {xs : List α} {z : Int} {j : Nat} {v : α} (e : z = (j : Int)) (h : xs[j]? = some v) : atI xs z = some v := by
  rw [e]
  exact atI_nat h
def spBag (K : PySem.W.Frag) : Sp := fun vs H Q _ => ∃ (a : Addr) (ns : List Int), vs = [.ref a] ∧ SqL K H a (ns.map V.int) ∧ ns.length ≤ 63 ∧ ∀ (b c : Addr) (H' : Hp), Same H H' → H b = none → Bg H' b c → Q (.ref b) H'
def spDraw : Sp := fun vs H Q _ => ∃ (b c : Addr) (many : Int), vs = [.ref b, .int many] ∧ Bg H b c ∧ 1 ≤ many ∧ many < 2 ^ 200 ∧ ∀ (v : Int) (H' : Hp), 0 ≤ v → v < many → Kp b H H' → Bg H' b c → Q (.int v) H'
section
variable {P : Program} {w : World} {K : PySem.W.Frag} {mg : Str → Option Value} {base : Heap}
theorem ok_bag (F : Fn K mg "_law_bag" s_l_bag ["_law_script"]) (B : Blt mg) : Has P w K mg base 1 "_law_bag" ["_law_script"] (spBag K) := by
  refine F.has sc_l_bag (fun vs H Q E h => ?_) (fun f cdv A outer s H vs Q E hr h => ?_)
  · obtain ⟨a, ns, rfl, _⟩ := h
    rfl
  obtain ⟨a, ns, rfl, hS, hl, q⟩ := h
  refine ⟨_, (pss_cons (ps_set (i := 1) sc_l_bag.nd rfl (Or.inl rfl) (pe_callTy call_list_of (by rfl) B.list bb_list (pa_cons (pe_slice sl_list (pv 0) po_none (po_some pe_int)) pa_nil)))
      (pss_one (ps_ret (pe_lst (pa_cons (pv 1) (pa_cons pe_int (pa_cons pe_int (pa_cons (pe_op op_add pe_int (pe_op op_mul pe_int (pe_callB call_len (by rfl) B.len bb_len (pa_cons (pv 1) pa_nil)))) pa_nil)))))))), ?_⟩
  have hl' : (ns.map V.int).length ≤ 63 := by rw [List.length_map]; exact hl
  refine ⟨_, rfl, 63, rfl, a, _, rfl, hS, fun p hp => ?_⟩
  rw [cut63 hl']
  refine ⟨p, _, rfl, .inl (SqL.of upd_same), fun c hc => ?_⟩
  have sm : Same H (upd (upd H p (.lst (ns.map V.int))) c (.lst (ns.map V.int))) := (same_upd hp).trans (same_upd hc)
  refine ⟨_, rfl, _, rfl, .ref c, _, rfl, .inl ⟨_, SqL.of upd_same, rfl⟩, _, _, rfl, rfl, .inl ⟨by decide, by decide⟩, _, _, rfl, rfl, (by show 4 ≤ sizeLine; decide), fun b hb => ?_⟩
  refine q b c _ (sm.trans (same_upd hb)) (sm.free hb) ⟨ns, 0, 0, _, upd_same, ?_, hl, Int.le_refl _, Int.le_refl _, ?_, ?_⟩
  · rw [upd_ne (ne_of_none upd_same hb)]
    exact upd_same
  · omega
  · rw [List.length_map]
    omega
theorem div200 {y z : Int} (h : 1 ≤ z) (h2 : z < 2 ^ 200) : CDivW y z := by
  refine wide_div (b := 200) (by omega) ?_ (by decide) (by decide)
  omega
theorem ok_draw (F : Fn K mg "_law_draw" s_l_draw ["_law_bag_here", "_law_many"]) (B : Blt mg) : Has P w K mg base 1 "_law_draw" ["_law_bag_here", "_law_many"] spDraw := by
  refine F.has sc_l_draw (fun vs H Q E h => ?_) (fun f cdv A outer s H vs Q E hr h => ?_)
  · obtain ⟨a, c, ns, rfl, _⟩ := h
    rfl
  obtain ⟨b, c, many, rfl, hB, h1, h2, q⟩ := h
  refine ⟨_, (C8.pss_cut (ps_if (PW.pt (pw_and (pt_cmpR op_eq (pe_ix ix_list (pv 0) pe_int (fun _ _ => rfl)) pe_int (nomark _)) (pw_and1 (pt_cmpR op_lt (pe_ix ix_list (pv 0) pe_int (fun _ _ => rfl)) (pe_callB call_len (by rfl) B.len bb_len (pa_cons (pe_ix ix_list (pv 0) pe_int (fun _ _ => rfl)) pa_nil)) (nomark _)))))
        (pss_cons (ps_set (i := 2) sc_l_draw.nd rfl (Or.inl rfl) (pe_ix ix_list (pe_ix ix_list (pv 0) pe_int (fun _ _ => rfl)) (pe_ix ix_list (pv 0) pe_int (fun _ _ => rfl)) (fun _ _ => rfl)))
      (pss_cons (ps_asg (pe_op op_add (pe_ix ix_list (pv 0) pe_int (fun _ _ => rfl)) pe_int) (pg_sub (pv 0) pe_int set_list))
      (pss_one (ps_if (pt_cmpR op_ge (pe_callB call_abs (by rfl) B.abs bb_abs (pa_cons (pv 2) pa_nil)) (pe_op op_pow pe_int pe_int) (nomark _))
        (pss_one (ps_asg (pe_callB call_abs (by rfl) B.abs bb_abs (pa_cons (pv 2) pa_nil)) (pg_sub (pv 0) pe_int set_list)))
        (pss_one (ps_asg (pe_op op_mod (pe_callTy call_int1 (by rfl) B.int bb_int (pa_cons (pe_op op_add (pe_op op_add (pe_op op_mul (pe_ix ix_list (pv 0) pe_int (fun _ _ => rfl)) pe_int) (pe_op op_mul (pe_op op_mod (pe_callTy call_int1 (by rfl) B.int bb_int (pa_cons (pv 2) pa_nil)) pe_int) pe_int)) pe_int) pa_nil)) pe_int) (pg_sub (pv 0) pe_int set_list)))))))
        pss_nil)
      (pss_cons (ps_if (pt_cmpR op_gt (pe_ix ix_list (pv 0) pe_int (fun _ _ => rfl)) pe_int (nomark _))
        (pss_cons (ps_set (i := 3) sc_l_draw.nd rfl (Or.inl rfl) (pe_op op_mod (pe_callTy call_int1 (by rfl) B.int bb_int (pa_cons (pe_ix ix_list (pv 0) pe_int (fun _ _ => rfl)) pa_nil)) (pv 1)))
      (pss_cons (ps_asg (pe_op op_fdivW (pe_ix ix_list (pv 0) pe_int (fun _ _ => rfl)) (pv 1)) (pg_sub (pv 0) pe_int set_list))
      (pss_one (ps_ret (pv 3)))))
        pss_nil)
      (pss_cons (ps_asg (pe_op op_mod (pe_callTy call_int1 (by rfl) B.int bb_int (pa_cons (pe_op op_add (pe_op op_add (pe_op op_mul (pe_op op_mul (pe_ix ix_list (pv 0) pe_int (fun _ _ => rfl)) (pe_ix ix_list (pv 0) pe_int (fun _ _ => rfl))) pe_int) (pe_op op_mul (pe_ix ix_list (pv 0) pe_int (fun _ _ => rfl)) pe_int)) pe_int) pa_nil)) pe_int) (pg_sub (pv 0) pe_int set_list))
      (pss_one (ps_ret (pe_op op_mod (pe_callTy call_int1 (by rfl) B.int bb_int (pa_cons (pe_op op_fdiv (pe_ix ix_list (pv 0) pe_int (fun _ _ => rfl)) pe_int) pa_nil)) (pv 1))))))), ?_⟩
  refine ⟨fun σ' H' => ∃ y, σ' = [some (.ref b), some (.int many), y, none] ∧ Kp b H H' ∧ Bg H' b c, ?_, ?_⟩
  · obtain ⟨ns, i, r, m, g⟩ := hB
    refine ⟨_, rfl, b, _, 2, _, rfl, rfl, SqL.of g.hb, atI_nat (j := 2) rfl, rfl, _, rfl, ite2 (fun e => ?_) (fun e => ?_)⟩
    · refine ⟨_, rfl, b, _, 1, _, rfl, rfl, SqL.of g.hb, atI_nat (j := 1) rfl, _, rfl, b, _, 0, _, rfl, rfl, SqL.of g.hb, atI_nat (j := 0) rfl, .ref c, _, rfl, .inl ⟨_, SqL.of g.hc, rfl⟩, _, _, rfl, rfl, _, rfl, ite2 (fun e2 => ?_) (fun e2 => ?_)⟩
      · have hi : i < ((ns.map V.int).length : Int) := of_decide_eq_true e2
        rw [List.length_map] at hi
        have i0 := g.i0
        obtain ⟨x, hx⟩ : ∃ x : Int, atI (ns.map V.int) i = some (.int x) := by
          have hk : i.toNat < ns.length := by omega
          have ek : i = ((i.toNat : Nat) : Int) := by omega
          exact ⟨ns[i.toNat], at_of ek (by rw [List.getElem?_map]; simp [hk])⟩
        refine ⟨_, rfl, b, _, 0, _, rfl, rfl, SqL.of g.hb, atI_nat (j := 0) rfl, _, rfl, b, _, 1, _, rfl, rfl, SqL.of g.hb, atI_nat (j := 1) rfl, c, _, i, .int x, rfl, rfl, SqL.of g.hc, hx, ?_⟩
        refine ⟨_, rfl, b, _, 1, _, rfl, rfl, SqL.of g.hb, atI_nat (j := 1) rfl, _, _, rfl, rfl, _, rfl, b, _, 1, 1, rfl, rfl, g.hb, rfl, ?_⟩
        have g1 := g.put (i' := i + 1) (r' := r) (m' := m) (by omega) g.r0 g.m0 g.m1
        refine ⟨_, rfl, x, rfl, _, _, rfl, rfl, ⟨by decide, by decide, by decide⟩, _, _, rfl, rfl, _, rfl, ite2 (fun e3 => ?_) (fun e3 => ?_)⟩
        · refine ⟨_, rfl, x, rfl, _, rfl, b, _, 2, 2, rfl, rfl, g1.hb, rfl, ?_⟩
          refine ⟨_, rfl, Kp.upd.trans Kp.upd, ns, i + 1, _, m, g1.put g1.i0 ?_ g1.m0 g1.m1⟩
          split <;> omega
        · refine ⟨_, rfl, b, _, 3, _, rfl, rfl, SqL.of g1.hb, atI_nat (j := 3) rfl, _, _, rfl, rfl, .inr ⟨by decide, by decide⟩, _, rfl, .inl ⟨_, rfl, _, _, rfl, rfl, (show (0 : Int) < 1000171 by decide), _, _, rfl, rfl, .inr ⟨by decide, by decide⟩, _, _, rfl, rfl, _, _, rfl, rfl, .inl ⟨_, rfl, _, _, rfl, rfl, (show (0 : Int) < 2147483563 by decide), _, rfl, b, _, 3, 3, rfl, rfl, g1.hb, rfl, ?_⟩⟩⟩
          refine ⟨_, rfl, Kp.upd.trans Kp.upd, ns, i + 1, r, _, g1.put g1.i0 g1.r0 (Int.emod_nonneg _ (by decide)) ?_⟩
          have z := Int.emod_lt_of_pos (m * 41177 + x % 1000171 * 907 + 59) (show (0 : Int) < 2147483563 by decide)
          omega
      · exact ⟨_, rfl, Kp.refl _ _, ns, i, r, m, g⟩
    · exact ⟨_, rfl, Kp.refl _ _, ns, i, r, m, g⟩
  · rintro σ' H' ⟨y, rfl, kp, ns, i, r, m, g⟩
    refine ⟨_, rfl, b, _, 2, _, rfl, rfl, SqL.of g.hb, atI_nat (j := 2) rfl, _, _, rfl, rfl, _, rfl, ite2 (fun e => ?_) (fun e => ?_)⟩
    · have hm : 0 < many := by omega
      refine ⟨_, rfl, b, _, 2, _, rfl, rfl, SqL.of g.hb, atI_nat (j := 2) rfl, .inl ⟨_, rfl, _, rfl, _, _, rfl, rfl, hm, ?_⟩⟩
      refine ⟨_, rfl, b, _, 2, _, rfl, rfl, SqL.of g.hb, atI_nat (j := 2) rfl, _, rfl, _, _, rfl, rfl, div200 h1 h2, _, rfl, b, _, 2, 2, rfl, rfl, g.hb, rfl, ?_⟩
      have g1 := g.put (i' := i) (r' := r / many) (m' := m) g.i0 (Int.ediv_nonneg g.r0 (by omega)) g.m0 g.m1
      refine ⟨_, rfl, q _ _ (Int.emod_nonneg _ (by omega)) (Int.emod_lt_of_pos _ hm) (kp.trans Kp.upd) ⟨ns, i, _, m, g1⟩⟩
    · refine ⟨_, rfl, b, _, 3, _, rfl, rfl, SqL.of g.hb, atI_nat (j := 3) rfl, _, rfl, b, _, 3, _, rfl, rfl, SqL.of g.hb, atI_nat (j := 3) rfl, _, _, rfl, rfl, ?_, ?_⟩
      · have h3 := g.m0
        have h4 := g.m1
        exact .inl ⟨by omega, by omega⟩
      · refine ⟨_, _, rfl, rfl, .inr ⟨by decide, by decide⟩, _, rfl, b, _, 3, _, rfl, rfl, SqL.of g.hb, atI_nat (j := 3) rfl, _, _, rfl, rfl, .inr ⟨by decide, by decide⟩, _, _, rfl, rfl, _, _, rfl, rfl, .inl ⟨_, rfl, _, _, rfl, rfl, (show (0 : Int) < 2147483579 by decide), _, rfl, b, _, 3, 3, rfl, rfl, g.hb, rfl, ?_⟩⟩
        have z := Int.emod_lt_of_pos (m * m * 3 + m * 30089 + 1700047) (show (0 : Int) < 2147483579 by decide)
        have g1 := g.put (i' := i) (r' := r) (m' := (m * m * 3 + m * 30089 + 1700047) % 2147483579) g.i0 g.r0 (Int.emod_nonneg _ (by decide)) (by omega)
        have hm : 0 < many := by omega
        refine ⟨_, rfl, b, _, 3, _, rfl, rfl, SqL.of g1.hb, atI_nat (j := 3) rfl, _, _, rfl, rfl, ⟨by decide, by decide⟩, .inl ⟨_, rfl, _, rfl, _, _, rfl, rfl, hm, ?_⟩⟩
        exact q _ _ (Int.emod_nonneg _ (by omega)) (Int.emod_lt_of_pos _ hm) (kp.trans Kp.upd) ⟨ns, i, r, _, g1⟩
/-- an item of some list or sign of some text, by a draw -/
def spPick (K : PySem.W.Frag) : Sp := fun vs H Q _ => ∃ (b c : Addr) (x : V), vs = [.ref b, x] ∧ Bg H b c ∧
  ((∃ (a : Addr) (xs : List V), x = .ref a ∧ a ≠ b ∧ H a = some (.lst xs) ∧ xs ≠ [] ∧ xs.length ≤ 1000 ∧ ∀ (v : V) (H' : Hp), v ∈ xs → Kp b H H' → Bg H' b c → Q v H') ∨
   (∃ z : Str, x = .str z ∧ 0 < z.cps.size ∧ z.cps.size ≤ 1000 ∧ ∀ (d : Nat) (H' : Hp), d ∈ z.cps.toList → Kp b H H' → Bg H' b c → Q (.str ⟨#[d]⟩) H'))
theorem ok_pick (F : Fn K mg "_law_pick" s_l_pick ["_law_bag_here", "_law_some"]) (B : Blt mg) (G_l_draw : Has P w K mg base 1 "_law_draw" ["_law_bag_here", "_law_many"] spDraw) : Has P w K mg base 2 "_law_pick" ["_law_bag_here", "_law_some"] (spPick K) := by
  refine F.has sc_l_pick (fun vs H Q E h => ?_) (fun f cdv A outer s H vs Q E hr h => ?_)
  · obtain ⟨a, c, ns, rfl, _⟩ := h
    rfl
  obtain ⟨b, c, x, rfl, hB, h⟩ := h
  refine ⟨_, (pss_one (ps_ret (pe_ix ix_seq (pv 1) (pe_own G_l_draw (hr.mono (by decide)) (by rfl) (pa_cons (pv 0) (pa_cons (pe_callB call_len (by rfl) B.len bb_len (pa_cons (pv 1) pa_nil)) pa_nil))) (fun _ _ => rfl)))), ?_⟩
  rcases h with ⟨a, xs, rfl, hab, ha, hne, hlen, q⟩ | ⟨z, rfl, h0, hlen, q⟩
  · have hpos : 0 < xs.length := List.length_pos_iff.mpr hne
    refine ⟨_, rfl, _, rfl, _, rfl, .ref a, xs.length, rfl, .inl ⟨xs, SqL.of ha, rfl⟩, b, c, _, rfl, hB, by omega, by omega, fun v H' v0 v1 kp hB' => ?_⟩
    have hk : v.toNat < xs.length := by omega
    refine .inl ⟨a, xs, v, xs[v.toNat], rfl, rfl, SqL.of (kp _ _ hab ha), at_of (show v = ((v.toNat : Nat) : Int) by omega) (List.getElem?_eq_getElem hk), ?_⟩
    exact q _ _ (List.getElem_mem hk) kp hB'
  · refine ⟨_, rfl, _, rfl, _, rfl, .str z, z.length, rfl, ⟨by show z.cps.size ≤ sizeLine; exact Nat.le_of_lt (small1000 hlen), rfl⟩, b, c, _, rfl, hB, by show (1 : Int) ≤ (z.cps.size : Int); omega, by show (z.cps.size : Int) < 2 ^ 200; omega, fun v H' v0 v1 kp hB' => ?_⟩
    have hk : v.toNat < z.cps.toList.length := by
      have v1' : v < (z.cps.size : Int) := v1
      rw [Array.length_toList]
      omega
    refine .inr (.inr ⟨z, v, z.cps.toList[v.toNat], rfl, rfl, by show z.cps.size ≤ sizeLine; exact Nat.le_of_lt (small1000 hlen), at_ofG (show v = ((v.toNat : Nat) : Int) by omega) (List.getElem?_eq_getElem hk), ?_⟩)
    exact q _ _ (List.getElem_mem hk) kp hB'
end
/-! ### the same data -/
def leafV : V → Prop
  | .non => True
  | .bl _ => True
  | .int _ => True
  | .str _ => True
  | _ => False
/-- two values that stand for the same data, so deep at most -/
def Eqd (H : Hp) : Nat → V → V → Prop
  | 0 => fun _ _ => False
  | n + 1 => fun x y => (x = y ∧ leafV x) ∨
    (∃ (a b : Addr) (xs ys : List V), x = .ref a ∧ y = .ref b ∧ H a = some (.lst xs) ∧ H b = some (.lst ys) ∧ xs.length ≤ 1000 ∧ Paired (Eqd H n) xs ys) ∨
    (∃ (a b : Addr) (xs ys : List V), x = .ref a ∧ y = .ref b ∧ H a = some (.tup xs) ∧ H b = some (.tup ys) ∧ xs.length ≤ 1000 ∧ Paired (Eqd H n) xs ys)
theorem Eqd.leaf {H : Hp} {n : Nat} {x : V} (h : leafV x) : Eqd H (n + 1) x x := .inl ⟨rfl, h⟩
theorem Eqd.lst {H : Hp} {n : Nat} {a b : Addr} {xs ys : List V} (ha : H a = some (.lst xs)) (hb : H b = some (.lst ys)) (hl : xs.length ≤ 1000) (h : Paired (Eqd H n) xs ys) : Eqd H (n + 1) (.ref a) (.ref b) := .inr (.inl ⟨a, b, xs, ys, rfl, rfl, ha, hb, hl, h⟩)
theorem Eqd.tup {H : Hp} {n : Nat} {a b : Addr} {xs ys : List V} (ha : H a = some (.tup xs)) (hb : H b = some (.tup ys)) (hl : xs.length ≤ 1000) (h : Paired (Eqd H n) xs ys) : Eqd H (n + 1) (.ref a) (.ref b) := .inr (.inr ⟨a, b, xs, ys, rfl, rfl, ha, hb, hl, h⟩)
theorem Eqd.mono {H H' : Hp} (s : Same H H') : ∀ {n : Nat} {x y : V}, Eqd H n x y → Eqd H' n x y
  | 0, _, _, h => h
  | n + 1, x, y, h => by
    rcases h with h | ⟨a, b, xs, ys, h1, h2, h3, h4, h5, h6⟩ | ⟨a, b, xs, ys, h1, h2, h3, h4, h5, h6⟩
    · exact .inl h
    · exact .inr (.inl ⟨a, b, xs, ys, h1, h2, s _ _ h3, s _ _ h4, h5, Paired.mapP h6 fun _ _ z => Eqd.mono s z⟩)
    · exact .inr (.inr ⟨a, b, xs, ys, h1, h2, s _ _ h3, s _ _ h4, h5, Paired.mapP h6 fun _ _ z => Eqd.mono s z⟩)
theorem Eqd.up {H : Hp} : ∀ {n : Nat} {x y : V}, Eqd H n x y → Eqd H (n + 1) x y
  | 0, _, _, h => h.elim
  | n + 1, x, y, h => by
    rcases h with h | ⟨a, b, xs, ys, h1, h2, h3, h4, h5, h6⟩ | ⟨a, b, xs, ys, h1, h2, h3, h4, h5, h6⟩
    · exact .inl h
    · exact .inr (.inl ⟨a, b, xs, ys, h1, h2, h3, h4, h5, Paired.mapP h6 fun _ _ z => Eqd.up z⟩)
    · exact .inr (.inr ⟨a, b, xs, ys, h1, h2, h3, h4, h5, Paired.mapP h6 fun _ _ z => Eqd.up z⟩)
theorem paired_get {F : V → V → Prop} : ∀ {xs ys : List V} {i : Nat} {x y : V}, Paired F xs ys → xs[i]? = some x → ys[i]? = some y → F x y
  | _, _, i, x, y, .nil, hx, _ => by simp at hx
  | _, _, 0, x, y, .cons r _, hx, hy => by
    cases hx
    cases hy
    exact r
  | _, _, i + 1, x, y, .cons _ t, hx, hy => paired_get t (i := i) (by simpa using hx) (by simpa using hy)
theorem paired_len {F : V → V → Prop} : ∀ {xs ys : List V}, Paired F xs ys → xs.length = ys.length
  | _, _, .nil => rfl
  | _, _, .cons _ t => congrArg (· + 1) (paired_len t)
theorem paired_refl {F : V → V → Prop} : ∀ {xs : List V}, (∀ x ∈ xs, F x x) → Paired F xs xs
  | [], _ => .nil
  | x :: r, h => .cons (h x List.mem_cons_self) (paired_refl fun y hy => h y (List.mem_cons_of_mem _ hy))
/-- isinstance(x, T), T a built-in class -/
theorem is_b {K : PySem.W.Frag} {H : Hp} {x : V} {t T : String} {b : Bool} {Q : VK} (ty : TyX K H x (.type t)) (k : kitB t T = some b) (h : Q (.bl b) H) : rIsi K [x, .ty T] H Q :=
  ⟨x, .ty T, .type t, .type T, b, rfl, .ty _, ty, kit_ty k, h⟩
theorem ite_of {c : Prop} [Decidable c] {A B : Prop} (hc : c) (h : A) : if c then A else B := by
  rw [if_pos hc]
  exact h
theorem ite_no {c : Prop} [Decidable c] {A B : Prop} (hc : ¬ c) (h : B) : if c then A else B := by
  rw [if_neg hc]
  exact h
theorem tYes_ok {σ : L2.St} {H : Hp} {A B : Hp → Prop} (h : A H) : tYes σ H (fun b H3 => if b = true then A H3 else B H3) := by
  show (if true = true then A H else B H)
  rw [if_pos rfl]
  exact h
theorem walk_zipT {K : PySem.W.Frag} {a b : Addr} {xs ys : List V} {n : Nat} (hn : n = min xs.length ys.length) : Walk (RZ.ItzT K a b) n (fun H => SqT K H a xs ∧ SqT K H b ys) (YPair (fun i => xs[i]?) (fun i => ys[i]?)) := by
  subst hn
  refine ⟨fun i _ hi q => ?_, fun _ q => ⟨xs, ys, q.1, q.2, by omega⟩, fun i H v H' _ q y => ?_⟩
  · have h1 : i < xs.length := by omega
    have h2 : i < ys.length := by omega
    exact ⟨xs, ys, xs[i], ys[i], q.1, q.2, by simp [h1], by simp [h2]⟩
  · obtain ⟨T, x, z, h1, h2, h3, h4, h5⟩ := y
    exact ⟨T, x, z, h1, h2, h3, h4 xs q.1, h5 ys q.2⟩
def spSame (n : Nat) : Sp := fun vs H Q _ => ∃ x y : V, vs = [x, y] ∧ Eqd H n x y ∧ ∀ H', Same H H' → Q (.bl true) H'
section
variable {P : Program} {w : World} {K : PySem.W.Frag} {mg : Str → Option Value} {base : Heap}
theorem ok_same {n : Nat} (F : Fn K mg "_law_same" s_l_same ["_law_found", "_law_due"]) (B : Blt mg) (G_l_same : Has P w K mg base n "_law_same" ["_law_found", "_law_due"] (spSame n)) :
    Has P w K mg base (n + 1) "_law_same" ["_law_found", "_law_due"] (spSame (n + 1)) := by
  refine F.has sc_l_same (fun vs H Q E h => ?_) (fun f cdv A outer s H vs Q E hr h => ?_)
  · obtain ⟨a, ns, rfl, _⟩ := h
    rfl
  obtain ⟨x, y, rfl, h, q⟩ := h
  refine ⟨_, (pss_cons (ps_if (pt_val (pe_callB call_isi (by rfl) B.isinstance bb_isinstance (pa_cons (pv 1) (pa_cons (pe_bltn (v := .ty "list") (by rfl) B.list bb_list rfl) pa_nil))))
        (pss_one (ps_ret (pe_and (pe_callB call_isi (by rfl) B.isinstance bb_isinstance (pa_cons (pv 0) (pa_cons (pe_bltn (v := .ty "list") (by rfl) B.list bb_list rfl) pa_nil))) (pe_and (pe_cmpR op_eq (pe_callB call_len (by rfl) B.len bb_len (pa_cons (pv 0) pa_nil)) (pe_callB call_len (by rfl) B.len bb_len (pa_cons (pv 1) pa_nil)) (nomark _)) (pe_one (pe_callB (cr_all rfl) (by rfl) B.all bb_all (pa_cons (pe_lc (own := [("_law_a", 2), ("_law_b", 3)]) (g := gTup K 2 (gCons (gName 2) (gCons (gName 3) gNil))) (tt := tYes) (by rfl) sc_l_same.nd (RZ.pi_zipA (by rfl) B.zip (pa_cons (pv 0) (pa_cons (pv 1) pa_nil))) (blkOk_by (own := [("_law_a", 2), ("_law_b", 3)]) (N := N_l_same) (sc := defScope s_l_same) (by decide +kernel)) (fun _ _ _ _ _ => (pg_tup rfl (pgs_cons (pg_name (i := 2) sc_l_same.nd rfl (Or.inl rfl)) (pgs_cons (pg_name (i := 3) sc_l_same.nd rfl (Or.inl rfl)) pgs_nil)))) (fun _ _ _ _ _ => pts_nil) (fun _ _ _ _ _ => (pe_own G_l_same hr (by rfl) (pa_cons (pv 2) (pa_cons (pv 3) pa_nil))))) pa_nil)))))))
        pss_nil)
      (pss_cons (ps_if (pt_val (pe_callB call_isi (by rfl) B.isinstance bb_isinstance (pa_cons (pv 1) (pa_cons (pe_bltn (v := .ty "tuple") (by rfl) B.tuple bb_tuple rfl) pa_nil))))
        (pss_one (ps_ret (pe_and (pe_callB call_isi (by rfl) B.isinstance bb_isinstance (pa_cons (pv 0) (pa_cons (pe_bltn (v := .ty "tuple") (by rfl) B.tuple bb_tuple rfl) pa_nil))) (pe_and (pe_cmpR op_eq (pe_callB call_len (by rfl) B.len bb_len (pa_cons (pv 0) pa_nil)) (pe_callB call_len (by rfl) B.len bb_len (pa_cons (pv 1) pa_nil)) (nomark _)) (pe_one (pe_callB (cr_all rfl) (by rfl) B.all bb_all (pa_cons (pe_lc (own := [("_law_a", 2), ("_law_b", 3)]) (g := gTup K 2 (gCons (gName 2) (gCons (gName 3) gNil))) (tt := tYes) (by rfl) sc_l_same.nd (RZ.pi_zipA (by rfl) B.zip (pa_cons (pv 0) (pa_cons (pv 1) pa_nil))) (blkOk_by (own := [("_law_a", 2), ("_law_b", 3)]) (N := N_l_same) (sc := defScope s_l_same) (by decide +kernel)) (fun _ _ _ _ _ => (pg_tup rfl (pgs_cons (pg_name (i := 2) sc_l_same.nd rfl (Or.inl rfl)) (pgs_cons (pg_name (i := 3) sc_l_same.nd rfl (Or.inl rfl)) pgs_nil)))) (fun _ _ _ _ _ => pts_nil) (fun _ _ _ _ _ => (pe_own G_l_same hr (by rfl) (pa_cons (pv 2) (pa_cons (pv 3) pa_nil))))) pa_nil)))))))
        pss_nil)
      (pss_cons (ps_if (PW.pt (pw_or (pt_cmp (pc_isN (pv 1))) (pw_or1 (pt_cmp (pc_isN (pv 0))))))
        (pss_one (ps_ret (pe_and (pe_cmp (pc_isN (pv 1))) (pe_one (pe_cmp (pc_isN (pv 0)))))))
        pss_nil)
      (pss_cons (ps_if (PW.pt (pw_or (pt_val (pe_callB call_isi (by rfl) B.isinstance bb_isinstance (pa_cons (pv 1) (pa_cons (pe_bltn (v := .ty "bool") (by rfl) B.bool bb_bool rfl) pa_nil)))) (pw_or1 (pt_val (pe_callB call_isi (by rfl) B.isinstance bb_isinstance (pa_cons (pv 0) (pa_cons (pe_bltn (v := .ty "bool") (by rfl) B.bool bb_bool rfl) pa_nil)))))))
        (pss_one (ps_ret (pe_and (pe_callB call_isi (by rfl) B.isinstance bb_isinstance (pa_cons (pv 1) (pa_cons (pe_bltn (v := .ty "bool") (by rfl) B.bool bb_bool rfl) pa_nil))) (pe_and (pe_callB call_isi (by rfl) B.isinstance bb_isinstance (pa_cons (pv 0) (pa_cons (pe_bltn (v := .ty "bool") (by rfl) B.bool bb_bool rfl) pa_nil))) (pe_one (pe_cmpR op_eq (pv 0) (pv 1) (nomark _)))))))
        pss_nil)
      (pss_cons (ps_if (pt_val (pe_callB call_isi (by rfl) B.isinstance bb_isinstance (pa_cons (pv 1) (pa_cons (pe_bltn (v := .ty "int") (by rfl) B.int bb_int rfl) pa_nil))))
        (pss_one (ps_ret (pe_and (pe_callB call_isi (by rfl) B.isinstance bb_isinstance (pa_cons (pv 0) (pa_cons (pe_bltn (v := .ty "int") (by rfl) B.int bb_int rfl) pa_nil))) (pe_one (pe_cmpR op_eq (pv 0) (pv 1) (nomark _))))))
        pss_nil)
      (pss_one (ps_ret (pe_and (pe_callB call_isi (by rfl) B.isinstance bb_isinstance (pa_cons (pv 0) (pa_cons (pe_bltn (v := .ty "str") (by rfl) B.str bb_str rfl) pa_nil))) (pe_and (pe_callB call_isi (by rfl) B.isinstance bb_isinstance (pa_cons (pv 1) (pa_cons (pe_bltn (v := .ty "str") (by rfl) B.str bb_str rfl) pa_nil))) (pe_one (pe_cmpR op_eq (pv 0) (pv 1) (nomark _)))))))))))), ?_⟩
  rcases h with ⟨rfl, hx⟩ | ⟨a, b, xs, ys, rfl, rfl, ha, hb, hl, hp⟩ | ⟨a, b, xs, ys, rfl, rfl, ha, hb, hl, hp⟩
  · cases x with
    | non =>
      refine ⟨_, rfl, _, .ty "list", .type "NoneType", .type "list", false, rfl, .ty _, .base .non, kit_ty (by decide +kernel), _, rfl, iteF ?_⟩
      refine ⟨_, rfl, _, .ty "tuple", .type "NoneType", .type "tuple", false, rfl, .ty _, .base .non, kit_ty (by decide +kernel), _, rfl, iteF ?_⟩
      refine ⟨_, rfl, _, rfl, ite_of (decide_eq_true rfl) ?_⟩
      refine ⟨_, rfl, _, rfl, ite_of (decide_eq_true rfl) ⟨_, rfl, ?_⟩⟩
      exact q _ (Same.refl _)
    | bl x =>
      refine ⟨_, rfl, _, .ty "list", .type "bool", .type "list", false, rfl, .ty _, .base (.bl _), kit_ty (by decide +kernel), _, rfl, iteF ?_⟩
      refine ⟨_, rfl, _, .ty "tuple", .type "bool", .type "tuple", false, rfl, .ty _, .base (.bl _), kit_ty (by decide +kernel), _, rfl, iteF ?_⟩
      refine ⟨_, rfl, _, rfl, ite_no (by simp) ⟨_, rfl, _, rfl, ite_no (by simp) ?_⟩⟩
      refine ⟨_, rfl, _, .ty "bool", .type "bool", .type "bool", true, rfl, .ty _, .base (.bl _), kit_ty (by decide +kernel), _, rfl, iteT ?_⟩
      refine ⟨_, rfl, _, .ty "bool", .type "bool", .type "bool", true, rfl, .ty _, .base (.bl _), kit_ty (by decide +kernel), _, rfl, iteT ⟨_, rfl, _, .ty "bool", .type "bool", .type "bool", true, rfl, .ty _, .base (.bl _), kit_ty (by decide +kernel), _, rfl, iteT ⟨_, rfl, _, rfl, rfl, ?_⟩⟩⟩
      rw [decide_eq_true rfl]
      exact q _ (Same.refl _)
    | int x =>
      refine ⟨_, rfl, _, .ty "list", .type "int", .type "list", false, rfl, .ty _, .base (.int _), kit_ty (by decide +kernel), _, rfl, iteF ?_⟩
      refine ⟨_, rfl, _, .ty "tuple", .type "int", .type "tuple", false, rfl, .ty _, .base (.int _), kit_ty (by decide +kernel), _, rfl, iteF ?_⟩
      refine ⟨_, rfl, _, rfl, ite_no (by simp) ⟨_, rfl, _, rfl, ite_no (by simp) ?_⟩⟩
      refine ⟨_, rfl, _, .ty "bool", .type "int", .type "bool", false, rfl, .ty _, .base (.int _), kit_ty (by decide +kernel), _, rfl, iteF ⟨_, rfl, _, .ty "bool", .type "int", .type "bool", false, rfl, .ty _, .base (.int _), kit_ty (by decide +kernel), _, rfl, iteF ?_⟩⟩
      refine ⟨_, rfl, _, .ty "int", .type "int", .type "int", true, rfl, .ty _, .base (.int _), kit_ty (by decide +kernel), _, rfl, iteT ?_⟩
      refine ⟨_, rfl, _, .ty "int", .type "int", .type "int", true, rfl, .ty _, .base (.int _), kit_ty (by decide +kernel), _, rfl, iteT ⟨_, rfl, _, rfl, rfl, ?_⟩⟩
      rw [decide_eq_true rfl]
      exact q _ (Same.refl _)
    | str x =>
      refine ⟨_, rfl, _, .ty "list", .type "str", .type "list", false, rfl, .ty _, .base (.str _), kit_ty (by decide +kernel), _, rfl, iteF ?_⟩
      refine ⟨_, rfl, _, .ty "tuple", .type "str", .type "tuple", false, rfl, .ty _, .base (.str _), kit_ty (by decide +kernel), _, rfl, iteF ?_⟩
      refine ⟨_, rfl, _, rfl, ite_no (by simp) ⟨_, rfl, _, rfl, ite_no (by simp) ?_⟩⟩
      refine ⟨_, rfl, _, .ty "bool", .type "str", .type "bool", false, rfl, .ty _, .base (.str _), kit_ty (by decide +kernel), _, rfl, iteF ⟨_, rfl, _, .ty "bool", .type "str", .type "bool", false, rfl, .ty _, .base (.str _), kit_ty (by decide +kernel), _, rfl, iteF ?_⟩⟩
      refine ⟨_, rfl, _, .ty "int", .type "str", .type "int", false, rfl, .ty _, .base (.str _), kit_ty (by decide +kernel), _, rfl, iteF ?_⟩
      refine ⟨_, rfl, _, .ty "str", .type "str", .type "str", true, rfl, .ty _, .base (.str _), kit_ty (by decide +kernel), _, rfl, iteT ⟨_, rfl, _, .ty "str", .type "str", .type "str", true, rfl, .ty _, .base (.str _), kit_ty (by decide +kernel), _, rfl, iteT ⟨_, rfl, _, rfl, rfl, ?_⟩⟩⟩
      rw [decide_eq_true rfl]
      exact q _ (Same.refl _)
    | byt x => exact hx.elim
    | flt x => exact hx.elim
    | ref x => exact hx.elim
    | ty x => exact hx.elim
  · have hlen := paired_len hp
    refine ⟨_, rfl, _, .ty "list", .type "list", .type "list", true, rfl, .ty _, .base (.lst hb), kit_ty (by decide +kernel), _, rfl, iteT ?_⟩
    refine ⟨_, rfl, _, .ty "list", .type "list", .type "list", true, rfl, .ty _, .base (.lst ha), kit_ty (by decide +kernel), _, rfl, iteT ?_⟩
    refine ⟨_, rfl, .ref a, _, rfl, .inl ⟨xs, SqL.of ha, rfl⟩, _, rfl, .ref b, _, rfl, .inl ⟨ys, SqL.of hb, rfl⟩, rfl, _, rfl, ite_of (decide_eq_true (by rw [hlen])) ?_⟩
    refine ⟨_, rfl, _, rfl, a, b, xs, ys, rfl, .inl ⟨SqL.of ha, SqL.of hb, fun D hD => lc_it (walk_zip (K := K) (n := xs.length) (by omega)) (fun i H' => Same H H' ∧ H' D = some (.lst (List.replicate i (.bl true))))
      ⟨same_upd hD, upd_same⟩ (fun i H1 hi p => ⟨SqL.of (p.1 _ _ ha), SqL.of (p.1 _ _ hb)⟩) ?_ ?_⟩⟩
    · rintro i v H1 H2 hi ⟨s1, e1⟩ ⟨T, u, z, rfl, hT, rfl, hu, hz⟩
      refine ⟨T, [u, z], rfl, SqT.of upd_same, rfl, u, [z], rfl, z, [], rfl, rfl, rfl, tYes_ok ?_⟩
      refine ⟨_, rfl, _, rfl, u, z, rfl, (paired_get hp hu hz).mono (s1.trans (same_upd hT)), fun H3 s3 => ?_⟩
      refine ⟨_, s3 _ _ ((same_upd hT) _ _ e1), by rw [List.length_replicate]; exact small1000 (by omega), fun c o hc => ?_, ?_⟩
      · rw [upd_ne (ne_of_none hc hD)]
        exact s3 _ _ (same_upd hT _ _ (s1 _ _ hc))
      · rw [upd_same, List.replicate_succ']
    · rintro H1 ⟨s1, e1⟩
      refine ⟨D, List.replicate xs.length true, rfl, SqL.of (by rw [e1, List.map_replicate]), ?_⟩
      rw [show (List.replicate xs.length true).all id = true by simp]
      exact q _ s1
  · have hlen := paired_len hp
    refine ⟨_, rfl, _, .ty "list", .type "tuple", .type "list", false, rfl, .ty _, .base (.tup hb), kit_ty (by decide +kernel), _, rfl, iteF ?_⟩
    refine ⟨_, rfl, _, .ty "tuple", .type "tuple", .type "tuple", true, rfl, .ty _, .base (.tup hb), kit_ty (by decide +kernel), _, rfl, iteT ?_⟩
    refine ⟨_, rfl, _, .ty "tuple", .type "tuple", .type "tuple", true, rfl, .ty _, .base (.tup ha), kit_ty (by decide +kernel), _, rfl, iteT ?_⟩
    refine ⟨_, rfl, .ref a, _, rfl, .inr ⟨xs, SqT.of ha, rfl⟩, _, rfl, .ref b, _, rfl, .inr ⟨ys, SqT.of hb, rfl⟩, rfl, _, rfl, ite_of (decide_eq_true (by rw [hlen])) ?_⟩
    refine ⟨_, rfl, _, rfl, a, b, xs, ys, rfl, .inr ⟨SqT.of ha, SqT.of hb, fun D hD => lc_it (walk_zipT (K := K) (n := xs.length) (by omega)) (fun i H' => Same H H' ∧ H' D = some (.lst (List.replicate i (.bl true))))
      ⟨same_upd hD, upd_same⟩ (fun i H1 hi p => ⟨SqT.of (p.1 _ _ ha), SqT.of (p.1 _ _ hb)⟩) ?_ ?_⟩⟩
    · rintro i v H1 H2 hi ⟨s1, e1⟩ ⟨T, u, z, rfl, hT, rfl, hu, hz⟩
      refine ⟨T, [u, z], rfl, SqT.of upd_same, rfl, u, [z], rfl, z, [], rfl, rfl, rfl, tYes_ok ?_⟩
      refine ⟨_, rfl, _, rfl, u, z, rfl, (paired_get hp hu hz).mono (s1.trans (same_upd hT)), fun H3 s3 => ?_⟩
      refine ⟨_, s3 _ _ ((same_upd hT) _ _ e1), by rw [List.length_replicate]; exact small1000 (by omega), fun c o hc => ?_, ?_⟩
      · rw [upd_ne (ne_of_none hc hD)]
        exact s3 _ _ (same_upd hT _ _ (s1 _ _ hc))
      · rw [upd_same, List.replicate_succ']
    · rintro H1 ⟨s1, e1⟩
      refine ⟨D, List.replicate xs.length true, rfl, SqL.of (by rw [e1, List.map_replicate]), ?_⟩
      rw [show (List.replicate xs.length true).all id = true by simp]
      exact q _ s1
end
theorem no_same {P : Program} {w : World} {K : PySem.W.Frag} {mg : Str → Option Value} {base : Heap} {f : Addr} {fd : FuncData} {ps : List Str} {sp : Sp} (no : ∀ vs H Q E, ¬ sp vs H Q E) : FnOk P w K mg base CX0 0 f fd ps sp :=
  ⟨fun vs H Q E h => absurd h (no vs H Q E), fun A outer s H args us vs Q E _ _ _ _ h => absurd h (no vs H Q E)⟩
section
variable {P : Program} {w : World} {K : PySem.W.Frag} {mg : Str → Option Value} {base : Heap}
theorem all_same (F : Fn K mg "_law_same" s_l_same ["_law_found", "_law_due"]) (B : Blt mg) : ∀ n : Nat, Has P w K mg base n "_law_same" ["_law_found", "_law_due"] (spSame n)
  | 0 => by
    obtain ⟨f, fd, F, m, b⟩ := F.ex
    exact ⟨f, fd, no_same fun vs H Q E h => by obtain ⟨x, y, _, h, _⟩ := h; exact h, m, F.kp, b⟩
  | n + 1 => ok_same F B (all_same F B n)
end
/-! ### odd values -/
inductive OddV (H : Hp) (b : Addr) : V → Prop
  | non : OddV H b .non
  | bl (x : Bool) : OddV H b (.bl x)
  | s0 : OddV H b (.str "")
  | s1 : OddV H b (.str "A")
  | s2 : OddV H b (.str "in")
  | s3 : OddV H b (.str "a b")
  | s4 : OddV H b (.str "7")
  | t0 {p : Addr} : p ≠ b → H p = some (.tup []) → OddV H b (.ref p)
  | t1 {p : Addr} : p ≠ b → H p = some (.tup [.int 1]) → OddV H b (.ref p)
  | l0 {p : Addr} : p ≠ b → H p = some (.lst []) → OddV H b (.ref p)
  | l1 {p : Addr} : p ≠ b → H p = some (.lst [.str "a"]) → OddV H b (.ref p)
theorem OddV.kp {H H' : Hp} {b : Addr} {v : V} (h : OddV H b v) (k : Kp b H H') : OddV H' b v := by
  cases h with
  | non => exact .non
  | bl x => exact .bl x
  | s0 => exact .s0
  | s1 => exact .s1
  | s2 => exact .s2
  | s3 => exact .s3
  | s4 => exact .s4
  | t0 n h => exact .t0 n (k _ _ n h)
  | t1 n h => exact .t1 n (k _ _ n h)
  | l0 n h => exact .l0 n (k _ _ n h)
  | l1 n h => exact .l1 n (k _ _ n h)
def spOdd : Sp := fun vs H Q _ => ∃ b c : Addr, vs = [.ref b] ∧ Bg H b c ∧ ∀ (v : V) (H' : Hp), Kp b H H' → Bg H' b c → OddV H' b v → Q v H'
def spGcd : Sp := fun vs H Q _ => ∃ a b : Int, vs = [.int a, .int b] ∧ Q (.int ((Nat.gcd a.natAbs b.natAbs : Nat) : Int)) H
theorem abs_cast (i : Int) : (if i < 0 then -i else i) = ((i.natAbs : Nat) : Int) := by split <;> omega
theorem Bg.sel {H : Hp} {b c : Addr} (h : Bg H b c) : ∃ r : List V, H b = some (.lst (.ref c :: r)) := by
  obtain ⟨ns, i, r, m, g⟩ := h
  exact ⟨_, g.hb⟩
theorem Bg.ne_new {H : Hp} {b c p : Addr} (h : Bg H b c) (hp : H p = none) : p ≠ b := by
  obtain ⟨_, e⟩ := h.sel
  exact (ne_of_none e hp).symm
theorem Bg.ne_new2 {H : Hp} {b c p : Addr} (h : Bg H b c) (hp : H p = none) : p ≠ c := by
  obtain ⟨ns, i, r, m, g⟩ := h
  exact (ne_of_none g.hc hp).symm
section
variable {P : Program} {w : World} {K : PySem.W.Frag} {mg : Str → Option Value} {base : Heap}
theorem ok_gcd (F : Fn K mg "_law_gcd" s_l_gcd ["_law_a", "_law_b"]) (B : Blt mg) : Has P w K mg base 1 "_law_gcd" ["_law_a", "_law_b"] spGcd := by
  refine F.has sc_l_gcd (fun vs H Q E h => ?_) (fun f cdv A outer s H vs Q E hr h => ?_)
  · obtain ⟨a, b, rfl, _⟩ := h
    rfl
  obtain ⟨a, b, rfl, q⟩ := h
  refine ⟨_, (pss_cons (ps_par (i := 2) (j := 3) rfl sc_l_gcd.nd rfl rfl (by decide) rfl rfl (pa_cons (pe_callB call_abs (by rfl) B.abs bb_abs (pa_cons (pv 0) pa_nil)) (pa_cons (pe_callB call_abs (by rfl) B.abs bb_abs (pa_cons (pv 1) pa_nil)) pa_nil)) rfl)
      (pss_cons (ps_while PassesOwn.never (pt_cmpR op_gt (pv 3) pe_int (nomark _))
        (pss_one (ps_par (i := 2) (j := 3) rfl sc_l_gcd.nd rfl rfl (by decide) rfl rfl (pa_cons (pv 3) (pa_cons (pe_op op_mod (pe_callTy call_int1 (by rfl) B.int bb_int (pa_cons (pv 2) pa_nil)) (pv 3)) pa_nil)) rfl)))
      (pss_one (ps_ret (pv 2))))), ?_⟩
  refine ⟨_, rfl, a, rfl, _, rfl, b, rfl, _, _, rfl, ?_⟩
  rw [abs_cast, abs_cast]
  refine while_by (fun σ H' => ∃ l r : Nat, σ = [some (.int a), some (.int b), some (.int (l : Int)), some (.int (r : Int))] ∧ Nat.gcd l r = Nat.gcd a.natAbs b.natAbs ∧ H' = H)
    (fun σ _ => match σ with | [_, _, _, some (.int r)] => r.toNat | _ => 0) ⟨_, _, rfl, rfl, rfl⟩ ?_ ?_
  · rintro σ H' ⟨l, r, rfl, e, rfl⟩
    refine ⟨_, rfl, _, _, rfl, rfl, _, rfl, ite2 (fun c => ?_) (fun c => ?_)⟩
    · have hc : (0 : Int) < (r : Int) := of_decide_eq_true c
      have hc' : 0 < r := by omega
      refine ⟨_, rfl, _, rfl, .inl ⟨_, rfl, _, rfl, _, _, rfl, rfl, hc, _, _, rfl, ?_⟩⟩
      refine ⟨⟨r, l % r, rfl, ?_, rfl⟩, ?_⟩
      · rw [← e, Nat.gcd_comm r (l % r), ← Nat.gcd_rec, Nat.gcd_comm]
      · show ((l : Int) % (r : Int)).toNat < (r : Int).toNat
        have := Int.emod_lt_of_pos (l : Int) hc
        have := Int.emod_nonneg (l : Int) (show (r : Int) ≠ 0 by omega)
        omega
    · have hc : ¬ (0 : Int) < (r : Int) := of_decide_eq_false (Bool.eq_false_iff.mpr c)
      have r0 : r = 0 := by omega
      subst r0
      refine ⟨_, rfl, ?_⟩
      rw [Nat.gcd_zero_right] at e
      rw [e]
      exact q
  · rintro σ H' Q1 Q2 hq ⟨v, e, i, j, e1, e2, k, e3, z⟩
    exact ⟨v, e, i, j, e1, e2, k, e3, hq _ _ z⟩
end
/-! ### kinds of values -/
inductive Typ (H : Hp) : V → String → Prop
  | non : Typ H .non "NoneType"
  | bl (x : Bool) : Typ H (.bl x) "bool"
  | int (i : Int) : Typ H (.int i) "int"
  | str (z : Str) : Typ H (.str z) "str"
  | lst {a : Addr} {xs : List V} : H a = some (.lst xs) → Typ H (.ref a) "list"
  | tup {a : Addr} {xs : List V} : H a = some (.tup xs) → Typ H (.ref a) "tuple"
theorem Typ.tyx {K : PySem.W.Frag} {H : Hp} {x : V} {t : String} (h : Typ H x t) : TyX K H x (.type t) := by
  cases h with
  | non => exact .base .non
  | bl x => exact .base (.bl x)
  | int i => exact .base (.int i)
  | str z => exact .base (.str z)
  | lst h => exact .base (.lst h)
  | tup h => exact .base (.tup h)
theorem Typ.same {H H' : Hp} {x : V} {t : String} (h : Typ H x t) (s : Same H H') : Typ H' x t := by
  cases h with
  | non => exact .non
  | bl x => exact .bl x
  | int i => exact .int i
  | str z => exact .str z
  | lst h => exact .lst (s _ _ h)
  | tup h => exact .tup (s _ _ h)
theorem OddV.typ {H : Hp} {b : Addr} {v : V} (h : OddV H b v) : ∃ t, Typ H v t ∧ t ≠ "int" := by
  cases h with
  | non => exact ⟨_, .non, by decide⟩
  | bl x => exact ⟨_, .bl x, by decide⟩
  | s0 => exact ⟨_, .str _, by decide⟩
  | s1 => exact ⟨_, .str _, by decide⟩
  | s2 => exact ⟨_, .str _, by decide⟩
  | s3 => exact ⟨_, .str _, by decide⟩
  | s4 => exact ⟨_, .str _, by decide⟩
  | t0 n h => exact ⟨_, .tup h, by decide⟩
  | t1 n h => exact ⟨_, .tup h, by decide⟩
  | l0 n h => exact ⟨_, .lst h, by decide⟩
  | l1 n h => exact ⟨_, .lst h, by decide⟩
def isIntV : V → Bool
  | .int _ => true
  | _ => false
end My
/-! an own error whose __init__ says super().__init__(a text) and stores what it got and its code -/
namespace PySem
namespace ErrX
open PySem.W PySem.Calls PyProof.Rows PySem.HandSPX
/-- the statements of such an __init__: the field is called f, the code is q -/
def eArgs (f : Str) (p1 p2 : Pos) : Arguments := { posonlyargs := [], args := [{ arg := "self", annotation := none, pos := p1 }, { arg := f, annotation := none, pos := p2 }], vararg := none, kwonlyargs := [], kw_defaults := [], kwarg := none, defaults := [] }
def eBody (f msg q : Str) (k1 k2 : Nat) (a1 a2 a3 a4 a5 a6 b1 b2 b3 b4 c1 c2 c3 c4 : Pos) : List Stmt :=
  [.Expr (.Call (.Attribute (.Call (.Name "super" a1) [] [] a2) "__init__" a3) [.Constant (.str msg) k1 a4] [] a5) a6,
   .Assign [.Attribute (.Name "self" b1) f b2] (.Name f b3) b4,
   .Assign [.Attribute (.Name "self" c1) "code" c2] (.Constant (.str q) k2 c3) c4]
def eScope (f : Str) : Scope := { kind := .function, names := [(PySem.Str.ofString "self", .local), (f, .local), (PySem.Str.ofString "__class__", .free), (PySem.Str.ofString "super", .globalImplicit)], isGenerator := false, isCoroutine := false, more := [] }
/-- how the first statement's call is evaluated -/
def InitEval (msg : Str) (k1 : Nat) (a1 a2 a3 a4 a5 : Pos) : Prop := ∃ pl : Sem Bool, ∀ env : Env,
  eval (.Call (.Attribute (.Call (.Name "super" a1) [] [] a2) "__init__" a3) [.Constant (.str msg) k1 a4] [] a5) env = (do
    let ov ← attributeBase (.Call (.Name "super" a1) [] [] a2) "__init__" env (eval (.Call (.Name "super" a1) [] [] a2) env)
    standAt a3.atName
    let (g, first) ← holding [ov] (getMethod ov "__init__" pl)
    callWith a5 g first (backTo a5 (starEach [.Constant (.str msg) k1 a4] env)) [])
/-- what the written part says of the class at C, of its __init__ at fI, of the cell cc that holds the class, of the code object cd -/
structure ErrTxt (prog : Program) (K : Frag) (mg : Str → Option Value) (nm f q : Str) (C fI cc cd : Addr) : Prop where
  gC : mg nm = some (.ref C)
  gS : mg "super" = none
  cls : ∃ nm' q' N bs bm sn sub ab col dd k0 k1 k2 k3 k5, K.lookup C = some (excClassObj nm' q' C N bs bm true sn sub ab col dd k0 k1 k2 k3 k5 "ValueError.__new__") ∧ refsVE bm = true ∧ alongIn K "__init__" bm = some (some (.builtin "ValueError.__init__"))
  sa : findIn K (.ref C) "__setattr__" = some (some (.builtin "object.__setattr__"))
  ga : findIn K (.ref C) "__getattribute__" = some (some (.builtin "BaseException.__getattribute__"))
  gg : findIn K (.ref C) "__getattr__" = some none
  noF : findIn K (.ref C) f = some none
  noC : findIn K (.ref C) "code" = some none
  iC : findIn K (.ref C) "__init__" = some (some (.ref fI))
  tC : typeIn K (.ref fI) = some (.type "function")
  kC : keepIn K (.ref C) = true
  exC : subIn K (.ref C) (.type "BaseException") = some true
  veC : subIn K (.ref C) (.type "ValueError") = some true
  slf : mroIn K C (.ref C) = some true
  tyC : typeIn K (.ref C) = some (.type "type")
  hdC : hasDictIn K C = true
  opq : nsIn K cStatics "thirdparty.any" = some none
  cell : ∃ cl cld csl, K.lookup cc = some ⟨cl, cld, .cell (some (.ref C)), csl⟩
  code : ∃ ccl cdd vs ccs file tf, K.lookup cd = some ⟨ccl, cdd, .fields vs, ccs⟩ ∧ vs[2]? = some (.str file tf) ∧ ((prog.main.file : Str) == file) = true
  top : (prog.main.scope.names.lookup ("super" : Str)).isSome = false
  fn : ∃ (oc : Value) (od : Option Addr) (doc pm : Value) (an : Option Addr) (ct : Value) (osl : Array (Option Value)) (qual msg : Str) (k1 k2 : Nat) (p1 p2 a1 a2 a3 a4 a5 a6 b1 b2 b3 b4 c1 c2 c3 c4 : Pos),
    K.lookup fI = some ⟨oc, od, .func (ksFn "__init__" qual (eArgs f p1 p2) (eBody f msg q k1 k2 a1 a2 a3 a4 a5 a6 b1 b2 b3 b4 c1 c2 c3 c4) (eScope f) .none .none doc pm an (.ref cd) ct cc), osl⟩ ∧ codeIn K (.ref cd) qual = true ∧
    (∀ (s : Shared) (a b : Value), BindsTo s (ksFn "__init__" qual (eArgs f p1 p2) (eBody f msg q k1 k2 a1 a2 a3 a4 a5 a6 b1 b2 b3 b4 c1 c2 c3 c4) (eScope f) .none .none doc pm an (.ref cd) ct cc) ⟨[a, b], []⟩ [("self", a), (f, b)]) ∧ InitEval msg k1 a1 a2 a3 a4 a5
  nf : f ≠ "self" ∧ f ≠ "code" ∧ f ≠ "super" ∧ f ≠ "__class__" ∧ f ≠ "__debug__"
theorem kept_x {K : Frag} {h h' : Heap} {x : Addr} (X : K.In h) (hx : K.lookup x = none) (k : ∀ b o, b ≠ x → h.get? b = some o → h'.get? b = some o) : K.In h' := fun a o e =>
  k a o (fun z => by rw [z, hx] at e; cases e) (X a o e)
/-- what it leaves of a fresh exception at x -/
structure Made (h h' : Heap) (x C dx t1 : Addr) (f q : Str) (v : Value) : Prop where
  keep : ∀ b o, b ≠ x → h.get? b = some o → h'.get? b = some o
  obj : h'.get? x = some { cls := .ref C, dict := some dx, data := .fields #[.ref t1, .none, .none, .none, .bool false, .none] }
  dbig : h.objs.size ≤ dx
  dne : dx ≠ x
  ns : ∃ tk, h'.Ns1 dx (fun y => if y = "code" then some (.str q tk) else if y = f then some v else none)
section
variable {prog : Program} {w : World} {M : Model} {A : Around} {E : Value → Shared → Prop} {R : Result → Shared → Prop} {s : Shared} {K : Frag} {mg : Str → Option Value} {nm f q : Str} {C fI cc cd : Addr}
/-- the bound built-in __init__, called with one value -/
theorem mw_call {hp : Heap} {g : Array GenState} {d : Drawn} {t : Nat} {os : OsState} {u e t0 : Addr} {rest : List Value} {Q : Value → Shared → Prop} {nm' q' : Str} {N : Addr} {bs bm : List Value} {hdct : Bool} {sn : List Str} {sub : List Value} {ab : Bool} {col : Option Bool} {dd : Option Addr} {k0 k1 k2 k3 k5 : Option Value}
    (hC : hp.get? C = some (excClassObj nm' q' C N bs bm hdct sn sub ab col dd k0 k1 k2 k3 k5 "ValueError.__new__")) (he : hp.get? e = some (excO C t0)) (hu : hp.get? u = some (kxs_mw "ValueError.__init__" e)) (hrest : rest.length ≤ sizeLine)
    (hq : ∀ h' t1, (∀ b o, b ≠ e → hp.get? b = some o → h'.get? b = some o) → h'.get? e = some (excO C t1) → Q .none ⟨h', g, d, t, os⟩) :
    wpAny (model prog w) A (call (.ref u) rest) Q E ⟨hp, g, d, t, os⟩ := by
  refine wpAny_call (codeAny_of_tree ?_)
  show wpAny _ A.in1 (callAny (.ref u) ⟨rest, []⟩) _ _ _
  unfold callAny
  refine wpAny_bind (wpAny_load hu ?_)
  refine KFB.if_so rfl ?_
  refine wpAny_bind (ESX.check_bound F.excBase_ValueError hC he rfl ?_)
  refine wpAny_bind (wpAny_pure (wpAny_pure ⟨Code.quiet_builtin _ (by decide +kernel), codeAny_builtin F.excBase_ValueError.initEntry ?_⟩))
  rw [Around.under_plainId F.excBase_ValueError.init.plain _]
  wp_walk
  refine hq _ hp.objs.size (fun b o hb ho => ?_) ?_
  · rw [Heap.get?_update_other _ _ (Ne.symm hb)]
    exact Heap.get?_push_of_some _ ho
  · rw [Heap.get?_update_self _ (Heap.get?_push_of_some _ he) rfl]
    rfl
theorem err_init (T : ErrTxt prog K mg nm f q C fI cc cd) {x t0 : Addr} {v : Value} (X : K.In s.heap) (hG : s.heap.Ns mainGlobals mg) (hB : ∃ mb, s.heap.Ns builtinsNs mb ∧ mb "super" = some (.type "super")) (hlim : s.heap.NoLimit) (hx : s.heap.get? x = some (excO C t0)) (hnx : K.lookup x = none) (hroom : A.depth < recursionLimit)
    (hq : ∀ h' tk dx t1, Made s.heap h' x C dx t1 f q v → R (.ok (.ret .none)) { s with heap := h', toks := tk }) :
    codeAny (model prog w) A (.call (.ref fI) ⟨[.ref x, v], []⟩) R s := by
  obtain ⟨oc, od, doc, pm, an, ct, osl, qual, msg, k1, k2, p1, p2, a1, a2, a3, a4, a5, a6, b1, b2, b3, b4, c1, c2, c3, c4, ho, hcd, hbind, pl, hev⟩ := T.fn
  obtain ⟨nm', q', N, bs, bm, sn, sub, ab, col, dd, k0, k1', k2', k3, k5, hC, hbm, hal⟩ := T.cls
  obtain ⟨cl, cld, csl, hcell⟩ := T.cell
  obtain ⟨ccl, cdd, vs, ccs, file, tf, hcode, hvs, hfile⟩ := T.code
  obtain ⟨n1, n2, n3, n4, n5⟩ := T.nf
  have lk : (eScope f).names.lookup f = some .local := by
    show List.lookup f [(PySem.Str.ofString "self", NameKind.local), (f, .local), (PySem.Str.ofString "__class__", .free), (PySem.Str.ofString "super", .globalImplicit)] = some .local
    have e : (f == PySem.Str.ofString "self") = false := by simpa using n1
    simp only [List.lookup, e, beq_self_eq_true]
  refine ks_codeAny_call_defAt (binds := [("self", .ref x), (f, v)]) hroom (X _ _ ho) rfl hlim (codeRec_of X hcd) rfl (hbind _ _ _) ?_ ?_ (fun h₁ hns hk => ?_) rfl rfl rfl
  · intro y hy
    simp only [eScope, List.mem_cons, List.not_mem_nil, or_false] at hy
    rcases hy with rfl | rfl | rfl | rfl <;> (intro z; cases z)
  · intro y hy
    simp only [List.mem_cons, List.not_mem_nil, or_false] at hy
    rcases hy with rfl | rfl
    · rfl
    · exact lk
  have z1 : (PySem.Str.ofString "super" == f) = false := by simpa using n3.symm
  have z2 : (PySem.Str.ofString "__class__" == f) = false := by simpa using n4.symm
  have z3 : (PySem.Str.ofString "self" == f) = false := by simpa using n1.symm
  have z4 : (f == PySem.Str.ofString "self") = false := by simpa using n1
  have lkS : (eScope f).names.lookup ("super" : Str) = some .globalImplicit := by
    simp only [eScope, List.lookup, z1, show (PySem.Str.ofString "super" == PySem.Str.ofString "self") = false by decide +kernel, show (PySem.Str.ofString "super" == PySem.Str.ofString "__class__") = false by decide +kernel, beq_self_eq_true]
  have lkC : (eScope f).names.lookup ("__class__" : Str) = some .free := by
    simp only [eScope, List.lookup, z2, show (PySem.Str.ofString "__class__" == PySem.Str.ofString "self") = false by decide +kernel, beq_self_eq_true]
  have lkX : (eScope f).names.lookup ("self" : Str) = some .local := by
    simp only [eScope, List.lookup, beq_self_eq_true]
  have mS : List.lookup (PySem.Str.ofString "self") ([(PySem.Str.ofString "self", Value.ref x), (f, v)] : List (Str × Value)).reverse = some (.ref x) := by
    show List.lookup (PySem.Str.ofString "self") [(f, v), (PySem.Str.ofString "self", Value.ref x)] = _
    simp only [List.lookup, z3, beq_self_eq_true]
  have mF : List.lookup f ([(PySem.Str.ofString "self", Value.ref x), (f, v)] : List (Str × Value)).reverse = some v := by
    show List.lookup f [(f, v), (PySem.Str.ofString "self", Value.ref x)] = _
    simp only [List.lookup, beq_self_eq_true]
  refine ks_wpAt_execs_cons (ks_wpAt_Expr_any (ks_wpAt_MethodCall (pl := pl) ?_ (hev _)))
  have X₁ : K.In h₁ := X.keeps hk
  have hx₁ := hk _ _ hx
  refine ks_wpAt_super_base (of := ⟨oc, od, _, osl⟩) (oc := ⟨ccl, cdd, .fields vs, ccs⟩) lkS lkC rfl rfl (X₁ _ _ ho) rfl rfl rfl (X₁ _ _ hcode) rfl hvs hfile T.top ?_
  obtain ⟨mb, hmb, hsb⟩ := hB
  refine ks_loadName_global rfl lkS (loadGlobal_builtin (hG.keeps hk) T.gS (hmb.keeps hk) hsb ⟨rfl, ?_⟩)
  refine wpAny_loadName_free rfl lkC rfl ⟨_, X₁ _ _ hcell, rfl⟩ ?_
  refine wpAny_loadName_local rfl lkX hns mS ?_
  refine ks_wpAny_isType_cls (X₁ _ _ hC) rfl ⟨rfl, ?_⟩
  refine ks_wpAny_call_super (X₁ _ _ hC) rfl hx₁ rfl (fun c e => by cases e) (looks_mroIn X₁ T.slf) (fun h₂ hso k₂ => ?_)
  have X₂ : K.In h₂ := X₁.keeps k₂
  have hx₂ := k₂ _ _ hx₁
  have I₂ : InstAt h₂ x (excO C t0) C none := ⟨hx₂, rfl, rfl, trivial⟩
  have nxC : x ≠ C := fun z => by rw [z, hC] at hnx; cases hnx
  have hcl : clsIn K C = some { name := nm', bases := bs, mro := .ref C :: bm, ns := N, qualname := q', hasDict := true, slotNames := sn, subclasses := sub, abstract := ab, collection := col, hasDel := false } := by unfold clsIn; rw [hC] <;> rfl
  refine kxs_getMethod kxs_ValueError hso (looks_opaque X₂ T.opq) ((looks_clsIn X₂ hcl).andThen .now) (ESX.drop_own C bm) X₂ hal (I₂.type.andThen (looks_subIn X₂ T.veC)) nxC rfl ?_
  have hu : (h₂.push (kxs_mw "ValueError.__init__" x)).get? h₂.objs.size = some (kxs_mw "ValueError.__init__" x) := Heap.get?_push_at rfl rfl
  have k₃ : ∀ b o, h₂.get? b = some o → (h₂.push (kxs_mw "ValueError.__init__" x)).get? b = some o := fun b o e => Heap.get?_push_of_some _ e
  refine kxs_callWith (i := "ValueError.__init__") (x := x) rfl (evalArgs_plain ?_)
  refine Calls.spliced_cons (Calls.Constant_str (k := k1) (pos := a4) (Calls.spliced_nil ⟨hu, ?_⟩))
  have X₃ : K.In (h₂.push (kxs_mw "ValueError.__init__" x)) := X₂.keeps k₃
  refine mw_call (X₃ _ _ hC) (k₃ _ _ hx₂) hu (by show 1 ≤ sizeLine; decide) (fun h₄ t1 k₄ hx₄ => ?_)
  have keep₄ : ∀ b o, b ≠ x → s.heap.get? b = some o → h₄.get? b = some o := fun b o nb e => k₄ b o nb (k₃ b o (k₂ b o (hk b o e)))
  have X₄ : K.In h₄ := kept_x X hnx keep₄
  have hxL : s.heap.objs.size ≠ x := Nat.ne_of_gt (Heap.lt_size hx)
  obtain ⟨oL, es, ep, hL, rL⟩ := id hns
  have hns₄ : h₄.Ns s.heap.objs.size fun y => List.lookup y ([(PySem.Str.ofString "self", Value.ref x), (f, v)] : List (Str × Value)).reverse := ⟨oL, es, ep, k₄ _ _ hxL (k₃ _ _ (k₂ _ _ hL)), rL⟩
  have hLt : s.heap.objs.size < h₄.objs.size := Heap.lt_size (k₄ _ _ hxL (k₃ _ _ (k₂ _ _ hL)))
  -- self.f = f
  refine wpAt_of_wpAny (wpAny_execs_cons (plainObj_wpAny_Assign_Attribute ?_))
  refine ESX.ldL hns₄ mF (ESX.ldL hns₄ mS ?_ rfl lkX (by decide +kernel)) rfl lk (by simpa using n5)
  refine set_plain X₄ (ox := excO C t1) (od := none) ⟨hx₄, rfl, rfl, trivial⟩ T.sa ?_
  refine exc_osa X₄ hx₄ hcl (show refsVE (.ref C :: bm) = true from hbm) rfl T.noF (fun h₅ tk₅ dx k₅ dn dne hx₅ hn₅ => ?_)
  have keep₅ : ∀ b o, b ≠ x → s.heap.get? b = some o → h₅.get? b = some o := fun b o nb e => k₅ b o nb (keep₄ b o nb e)
  have X₅ : K.In h₅ := kept_x X hnx keep₅
  have hns₅ : h₅.Ns s.heap.objs.size fun y => List.lookup y ([(PySem.Str.ofString "self", Value.ref x), (f, v)] : List (Str × Value)).reverse := ⟨oL, es, ep, k₅ _ _ hxL (k₄ _ _ hxL (k₃ _ _ (k₂ _ _ hL))), rL⟩
  -- self.code = q
  refine wpAny_execs_cons (plainObj_wpAny_Assign_Attribute ?_)
  refine Calls.Constant_str (k := k2) (pos := c3) (ESX.ldL hns₅ mS ?_ rfl lkX (by decide +kernel))
  obtain ⟨oD, eD, pD, hD, rD⟩ := id hn₅
  refine set_plain X₅ (ox := { cls := .ref C, dict := some dx, data := .fields #[.ref t1, .none, .none, .none, .bool false, .none] }) (od := some oD) ⟨hx₅, rfl, rfl, hD⟩ T.sa ?_
  have hw : Within (fun y => if y = f then some v else none) [f] := fun y hy => by
    by_cases e : y = f
    · rw [e]
      exact List.mem_singleton.mpr rfl
    · exact absurd (show (if y = f then some v else none) = none from if_neg e) hy
  refine OEX.osa_old X₅ hx₅ hn₅ hw (by show 1 ≤ 1000; decide) hcl (show refsVE (.ref C :: bm) = true from hbm) rfl T.noC (fun h₆ tk₆ k₆ hn₆ => ?_)
  refine wpAny_execs_nil (hq h₆ tk₆ dx t1 ⟨fun b o nb e => ?_, k₆ _ _ dne.symm hx₅, Nat.le_trans (Nat.le_of_lt hLt) dn, dne, _, hn₆⟩)
  have nbd : b ≠ dx := Nat.ne_of_lt (Nat.lt_of_lt_of_le (Heap.lt_size e) (Nat.le_trans (Nat.le_of_lt hLt) dn))
  exact k₆ b o nbd (keep₅ b o nb e)
/-- a made error -/
structure Own (h h' : Heap) (e C d : Addr) (f q : Str) (v : Value) : Prop where
  keep : ∀ b o, h.get? b = some o → h'.get? b = some o
  new : h.objs.size ≤ e
  obj : ∃ oe vs, h'.get? e = some oe ∧ oe.cls = .ref C ∧ oe.dict = some d ∧ oe.data = .fields vs ∧ vs[1]? = some .none
  dbig : h.objs.size ≤ d
  dne : d ≠ e
  ns : ∃ tk, h'.Ns1 d (fun y => if y = "code" then some (.str q tk) else if y = f then some v else none)
theorem err_made (T : ErrTxt prog K mg nm f q C fI cc cd) {v : Value} (X : K.In s.heap) (hG : s.heap.Ns mainGlobals mg) (hB : ∃ mb, s.heap.Ns builtinsNs mb ∧ mb "super" = some (.type "super")) (hlim : s.heap.NoLimit) (hroom : A.depth + 1 < recursionLimit)
    (hq : ∀ h' tk e d, Own s.heap h' e C d f q v → R (.ok (.ret (.ref e))) { s with heap := h', toks := tk }) :
    codeAny (model prog w) A (.call (.ref C) ⟨[v], []⟩) R s := by
  obtain ⟨nm', q', N, bs, bm, sn, sub, ab, col, dd, k0, k1', k2', k3, k5, hC, hbm, hal⟩ := T.cls
  obtain ⟨hp, g, dr, tk, os⟩ := s
  have k : ∀ b o, hp.get? b = some o → ((hp.push (kdv_tup [v])).push (excO C hp.objs.size)).get? b = some o := fun b o e => Heap.get?_push_of_some _ (Heap.get?_push_of_some _ e)
  have hget : ((hp.push (kdv_tup [v])).push (excO C hp.objs.size)).get? (hp.objs.size + 1) = some (excO C hp.objs.size) := by heap_get
  have hnx : K.lookup (hp.objs.size + 1) = none := by
    cases e : K.lookup (hp.objs.size + 1) with
    | none => rfl
    | some o =>
      have z : hp.get? (hp.objs.size + 1) = some o := X _ _ e
      exact absurd (Nat.lt_of_succ_lt (Heap.lt_size z)) (Nat.lt_irrefl _)
  obtain ⟨mb, hmb, hsb⟩ := hB
  refine call_own F.excBase_ValueError (fun X => refsVE_contains X bm hbm) (X _ _ hC) (looks_findIn X T.iC) (fun self => bind_fn X self T.tC) (by show 1 ≤ sizeLine; decide) ?_
  refine err_init (s := ⟨(hp.push (kdv_tup [v])).push (excO C hp.objs.size), g, dr, tk, os⟩) T (X.keeps k) (hG.keeps k) ⟨mb, hmb.keeps k, hsb⟩ (hlim.keeps k) hget hnx (show A.depth + 1 < recursionLimit from hroom) fun h' tk' dx t1 M => ?_
  have old : ∀ b o, hp.get? b = some o → h'.get? b = some o := fun b o e => M.keep b o (Nat.ne_of_lt (Nat.lt_succ_of_lt (Heap.lt_size e))) (k b o e)
  have z : hp.objs.size + 1 + 1 ≤ dx := by
    have dn := M.dbig
    rw [Heap.size_push, Heap.size_push] at dn
    exact dn
  exact ⟨rfl, hq h' tk' (hp.objs.size + 1) dx ⟨old, Nat.le_succ _, ⟨_, _, M.obj, rfl, rfl, rfl, rfl⟩, Nat.le_trans (Nat.le_trans (Nat.le_succ _) (Nat.le_succ _)) z, M.dne, M.ns⟩⟩
end
end ErrX
end PySem
namespace My
open PySem PySem.Spec PyProof.Rows L2
abbrev errD (f q : Str) (v : V) : List (Str × V) := [("code", .str q), (f, v)]
theorem relO_err {v : V} {v' : Value} {f q : Str} {tk : Tok} (r : RelV v v') (g : Str) : RelO (List.lookup g (errD f q v)) (if g = "code" then some (.str q tk) else if g = f then some v' else none) := by
  by_cases hc : g = "code"
  · rw [if_pos hc]
    have e : List.lookup g (errD f q v) = some (.str q) := by
      subst hc
      simp [errD, List.lookup]
    rw [e]
    exact ⟨_, rfl⟩
  · rw [if_neg hc]
    have e1 : (g == ("code" : Str)) = false := by simpa using hc
    by_cases hf : g = f
    · rw [if_pos hf]
      have e : List.lookup g (errD f q v) = some v := by
        subst hf
        simp [errD, List.lookup, e1]
      rw [e]
      exact r
    · rw [if_neg hf]
      have e2 : (g == f) = false := by simpa using hf
      have e : List.lookup g (errD f q v) = none := by simp [errD, List.lookup, e1, e2]
      rw [e]
      trivial
section
variable {X : Cx} {C fI cc cd : Addr} {nm f q : Str}
/-- X(e), the error made -/
def tMkErr (C : Addr) (f q : Str) (ta : TA) : L2.St → Hp → XK → Prop := fun σ H Q => ta σ H fun vs H1 => ∃ v, vs = [v] ∧ ∀ d, H1 d = none → Q (.ref C) (some d) (upd H1 d (.xd (errD f q v)))
theorem pmk_err {a : Expr} {ta : TA} {p pos : Pos} {k : Nat} (T : ErrX.ErrTxt X.prog X.K X.mg nm f q C fI cc cd) (hr : Room k X.A) (ha : PA X [a] ta) (hg : Gl X nm) (hd : (nm == ("__debug__" : Str)) = false := by decide)
    (he : starEach (a :: []) X.env = (false, eval a X.env) :: starEach [] X.env := by rfl) (hpl : (backTo pos (starEach [] X.env)).any (·.1) = false := by rfl) :
    PMk X (.Call (.Name nm p) [a] [] pos) (tMkErr C f q ta) := by
  intro pins s σ H Q I h
  refine wpAny_Call_Name_kw (ld_glob I hg T.gC ?_ hd)
  refine PySem.W.callWith_K (h₀ := X.base) I.ok.mod.kin T.kC (thn (ha.run pos pins s σ H _ I h) fun us s1 hh => ?_) he hpl
  obtain ⟨vs, H1, I1, r1, v, ev, q1⟩ := hh
  subst ev
  refine ⟨I1.kIn, ?_⟩
  cases r1 with
  | cons rv rn =>
    rename_i v' us'
    cases rn
    have hlim := I1.nolimit
    obtain ⟨mb, hb1, hb2⟩ := I1.mod.blt
    have hB : ∃ mb, s1.heap.Ns builtinsNs mb ∧ mb "super" = some (.type "super") := ⟨mb, hb1.keeps I1.bk, (hb2 _ (by decide +kernel)).trans (by decide +kernel)⟩
    refine wpAny_call (ErrX.err_made T I1.kIn (I1.mod.glob.keeps I1.bk) hB hlim (by have := hr.dp; omega) fun h' tk' e d M => ?_)
    obtain ⟨hp, g, dr, tok, os⟩ := s1
    obtain ⟨oe, fv, hoe, hc, hdct, hdat, h1⟩ := M.obj
    obtain ⟨tk0, hns⟩ := M.ns
    obtain ⟨G', g1, g2⟩ := restrict h' fun b => decide (b ≠ e)
    have gk : ∀ b, b ≠ e → G'.get? b = h'.get? b := fun b hb => g1 b (decide_eq_true hb)
    have ge : G'.get? e = none := g2 e (by simp)
    have old : ∀ b o, hp.get? b = some o → G'.get? b = some o := fun b o z => (gk b (Nat.ne_of_lt (Nat.lt_of_lt_of_le (Heap.lt_size z) M.new))).trans (M.keep b o z)
    have ob : ObjOk X.prog X.w (upd H1 d (.xd (errD f q v))) G' d (.xd (errD f q v)) := ⟨_, hns.at (fun o z => (gk d M.dne).trans z), fun y => relO_err rv y⟩
    have J : Inv X pins σ (upd H1 d (.xd (errD f q v))) ⟨G', g, dr, tk', os⟩ := I1.laid (t' := tk') old M.dbig ob
    refine ⟨e, oe, fv, ⟨G', g, dr, tk', os⟩, _, .ref C, some d, rfl, J, fun b o z => ?_, ge, hoe, ⟨hc, hdct⟩, hdat, h1, ?_, rfl, I1.bare, raises_own T.exC T.tyC, q1 d (I1.hok.fresh M.dbig)⟩
    · by_cases hb : b = e
      · have z' : G'.get? b = some o := z
        rw [hb, ge] at z'
        cases z'
      · exact (gk b hb).symm.trans z
    · rw [upd_ne (Ne.symm M.dne)]
      exact I1.hok.fresh M.new
end
end My
namespace My
open PySem PySem.Spec PyProof.Rows L2
/-! ### a field of a caught exception, wherever it is pinned -/
def tXg (K : PySem.W.Frag) (a : Addr) (cls : Value) (d : Option Addr) (n : Str) (te : TE) : TE := fun σ H Q => te σ H fun x H1 => x = .ref a ∧
  ∃ (C dd : Addr) (fs : List (Str × V)) (v : V), cls = .ref C ∧ XfC K C ∧ PySem.W.findIn K (.ref C) n = some none ∧ d = some dd ∧ H1 dd = some (.xd fs) ∧ fs.lookup n = some v ∧ Q v H1
section
variable {X : Cx} {a : Addr} {oe : Obj} {cls : Value} {d : Option Addr} {e : Expr} {te : TE} {pos : Pos} {n : Str}
theorem pe_xg {K : PySem.W.Frag} (hp : (a, oe) ∈ X.pn) (hz : Zc cls d oe) (hf : ∃ vs, oe.data = .fields vs) (he : PE X e te) (hK : X.K = K := by rfl) (hb : attributeBase e n X.env (eval e X.env) = eval e X.env := by rfl) : PE X (.Attribute e n pos) (tXg K a cls d n te) := by
  subst hK
  constructor
  intro pins s σ H Q I h
  apply attr_of hb
  apply thn (he.run pins s σ H _ I h)
  rintro u s1 ⟨x, H1, I1, rx, rfl, C, dd, fs, v, rfl, T, hno, rfl, ea, l, q⟩
  obtain rfl : u = Value.ref a := rx
  have pn := (I1.pin (a, oe) (List.mem_append_left _ hp)).1
  obtain ⟨vs, hd⟩ := hf
  obtain ⟨mA, hns, hr⟩ : ObjOk X.prog X.w H1 s1.heap dd (.xd fs) := I1.hok dd _ ea
  obtain ⟨od, ho, hl⟩ := lookIn_ns hns
  have rn := hr n
  rw [l] at rn
  obtain ⟨u, hu, ru⟩ := RelO.some_of (v := v) (o := mA n) rn
  have at_ : PySem.W.InstAt s1.heap a oe C (some od) := ⟨pn, hz.1, by unfold PySem.W.notCls; rw [hd] <;> rfl, by rw [hz.2]; exact ho⟩
  exact HandSPX.exc_get I1.kIn at_ T.ga T.gg T.exC (PySem.W.findObj_own T.hdC hno rfl (by rw [hl, hu])) (handed_of ru) ⟨v, H1, I1.tok _, ru, q⟩
end
/-! ### an own def, called where an exception is pinned -/
structure FnP (P : Program) (w : World) (K : PySem.W.Frag) (mg : Str → Option Value) (base : Heap) (k : Nat) (f : Addr) (fd : FuncData) (ps : List Str) (sp : Addr × Obj → Sp) : Prop where
  len : ∀ p vs H Q E, sp p vs H Q E → vs.length = ps.length
  run : ∀ (A : Around) (outer : List Env) (s : Shared) (H : Hp) (args : Args) (us : List Value) (vs : List V) (Q : VK) (p : Addr × Obj), L2H.RoomH k A → L2H.PinOk outer H s p → Env0 P w K mg base A outer s H → BindsTo s fd args (ps.zip us) → Vals vs us → sp p vs H Q E0 →
    codeAny (model P w) A (.call (.ref f) args) (CR CX0 outer P w H s Q E0) s
section
variable {P : Program} {w : World} {K : PySem.W.Frag} {mg : Str → Option Value} {base : Heap}
theorem Fun.pinned {x qual : Str} {st : Stmt} {f : Addr} {fd : FuncData} {N ps : List Str} {k : Nat} {sp : Addr × Obj → Sp} (F : Fun K x qual st f fd) (S : FnScope N ps (defScope st)) (len : ∀ p vs H Q E, sp p vs H Q E → vs.length = ps.length)
    (hbody : ∀ (cdv : Value) (A : Around) (outer : List Env) (s : Shared) (H : Hp) (vs : List V) (Q : VK) (p : Addr × Obj), L2H.RoomH k (A.deeper (envOfC qual (defScope st) s.heap.objs.size f cdv)) → sp p vs H Q E0 →
      ∃ t, PSs (L2H.cxH CX0 P w K mg base N qual (defScope st) f cdv A outer s H E0 p) (defBody st) t ∧ t { nx := fun _ H' => Q .non H', rt := Q } (L2.start N vs) H) : FnP P w K mg base (k + 1) f fd ps sp := by
  obtain ⟨oc, od, kV, doc, pm, an, cdv, ct, osl, rfl, lk, hcd⟩ := F.ex
  constructor
  · exact len
  intro A outer s H args us vs Q p hr hpin e0 hb r hsp
  have hl := len _ _ _ _ _ hsp
  have KX : K.In s.heap := e0.mod.kin.keeps fun b o e => (e0.bs b o e).1
  have lim : s.heap.NoLimit := e0.mod.nolimit.keeps fun b o e => (e0.bs b o e).1
  have kinds : ∀ y ∈ ps.zip us, (defScope st).names.lookup y.1 = some .local ∨ ((defScope st).names.lookup y.1 = some .cell ∧ ((cellsFrom (s.heap.objs.size + 1) (defScope st).names []).lookup y.1).isSome = true) := by
    rintro ⟨n, v⟩ hy
    cases S.par n (List.of_mem_zip hy).1 with
    | inl q => exact .inl q
    | inr q => exact .inr ⟨q, PySem.W.cellsFrom_some _ _ _ (.inl q)⟩
  apply codeAny_call_function hr.depth (KX _ _ lk) rfl S.co S.gen rfl (PySem.W.codeRec_of KX hcd)
  apply hb
  apply wpAny_newFunctionEnv_cells S.kind kinds
  rintro env rfl s1 x
  refine ⟨lim.keeps x.toInCall.keep, codeAny_func ?_⟩
  obtain ⟨t, ht, hq⟩ := hbody cdv A outer s H vs Q p (hr.deeper _) hsp
  have I := L2H.inv_startH (CX := CX0) (E := E0) (f := f) (cd := cdv) S hpin e0 hl r x
  apply wpAny_mono (ht.run [] s1 (L2.start N vs) H _ I hq)
  · intro fl s' hs
    cases fl with
    | ret u =>
      obtain ⟨v, σ', H', J, rv, q⟩ := hs
      exact ⟨v, H', J.os, J.bare, J.base, J.hok, rv, q⟩
    | next =>
      obtain ⟨σ', H', J, q⟩ := hs
      exact ⟨V.non, H', J.os, J.bare, J.base, J.hok, rfl, q⟩
    | brk =>
      obtain ⟨_, _, _, q⟩ := hs
      exact q.elim
    | cont =>
      obtain ⟨_, _, _, q⟩ := hs
      exact q.elim
  · exact fun e s' hs => hs
end
structure HasP (P : Program) (w : World) (K : PySem.W.Frag) (mg : Str → Option Value) (base : Heap) (k : Nat) (x : Str) (ps : List Str) (sp : Addr × Obj → Sp) : Prop where
  ex : ∃ (f : Addr) (fd : FuncData), FnP P w K mg base k f fd ps sp ∧ mg x = some (.ref f) ∧ PySem.W.keepIn K (.ref f) = true ∧ Binds K fd ps []
section
variable {X : Cx} {k : Nat} {x : Str} {ps : List Str} {sp : Addr × Obj → Sp} {p : Addr × Obj} {ps1 pos : Pos} {e : Expr} {es : List Expr} {t : TA}
theorem pe_ownP (h : HasP X.prog X.w X.K X.mg X.base k x ps sp) (hr : L2H.RoomH k X.A) (hp : p ∈ X.pn) {sp1 : Sp} (hs : ∀ vs H Q, sp1 vs H Q E0 → sp p vs H Q E0) (hg : Gl X x) (ha : PA X (e :: es) t) (hdb : (x == ("__debug__" : Str)) = false := by decide)
    (he : starEach (e :: es) X.env = (false, eval e X.env) :: starEach es X.env := by rfl) (hpl : (backTo pos (starEach es X.env)).any (·.1) = false := by rfl) : PE X (.Call (.Name x ps1) (e :: es) [] pos) (tCall sp1 [] E0 t) := by
  obtain ⟨f, fd, F, m, kp, hb⟩ := h.ex
  constructor
  intro pins s σ H Q I h
  apply wpAny_Call_Name_kw (ld_glob I hg m ?_ hdb)
  apply PySem.W.callWith_K (h₀ := X.base) I.ok.mod.kin kp _ he hpl
  apply thn (ha.run pos pins s σ H _ I h)
  rintro us s1 ⟨vs, H1, I1, r, q⟩
  rw [List.append_nil] at q
  replace q := hs _ _ _ q
  refine ⟨I1.kIn, ?_⟩
  have b := hb s1 us I1.kIn (by rw [List.append_nil, ← r.length]; exact F.len _ _ _ _ _ q)
  rw [List.append_nil] at b
  have P1 := I1.pin p (List.mem_append_left _ hp)
  have pok : L2H.PinOk X.stack H1 s1 p := ⟨P1.1, P1.2.1, fun hm => (List.mem_cons.mp (I1.stkSub p.1 hm)).elim P1.2.2.1 P1.2.2.2.1, P1.2.2.2.2⟩
  apply wpAny_call
  apply codeAny_mono (F.run X.A X.stack s1 H1 ⟨us, []⟩ us vs Q p hr pok I1.env0 b r q)
  intro r s' hq
  cases r with
  | error e => exact (show False from hq).elim
  | ok fl =>
    cases fl with
    | ret u => exact I1.after hq
    | next => exact False.elim hq
    | brk => exact False.elim hq
    | cont => exact False.elim hq
end
/-! ### except (x1, x2, x3) as n, one of which always fits -/
theorem fly_push {B h : Heap} {l : List Env} {e : Addr} {Z : Obj → Prop} (x : HandSPX.FlyingZ B l e Z h) (o : Obj) : HandSPX.FlyingZ B l e Z (h.push o) := by
  have k : ∀ b u, h.get? b = some u → (h.push o).get? b = some u := fun b u z => Heap.get?_push_of_some _ z
  obtain ⟨x1, x2, x3, oe, vs, T, oT, ts, y1, y2, y3, y4, y5, y6, y7, y8, y9⟩ := x
  exact ⟨fun b u z => k b u (x1 b u z), x2, Heap.FunFrames.of_keeps (fun b u z _ => ⟨u, k b u z, rfl⟩) x3, oe, vs, T, oT, ts, k _ _ y1, y2, y3, y4, y5, y6, k _ _ y7, y8, y9⟩
def endsOff (i : Nat) (D : Ends) : Ends := { nx := fun σ' H' => D.nx (σ'.set i none) H', rt := D.rt, bk := fun σ' H' => D.bk (σ'.set i none) H', ct := fun σ' H' => D.ct (σ'.set i none) H' }
/-- the wish for an exception that some of the classes cs takes -/
def wTup (K : PySem.W.Frag) (cs : List Value) (len i : Nat) (ts : Addr → Value → Option Addr → TS) (D : Ends) : WX := fun cls d σ H => PySem.W.exmAny K cls cs = some true ∧ ∀ a, H a = none → σ.length = len → ts a cls d (endsOff i D) (σ.set i (some (.ref a))) H
section
variable {X : Cx} {x1 x2 x3 n : Str} {c1 c2 c3 : Value} {i j : Nat} {body suite : List Stmt} {b₀ : Stmt} {p1 p2 p3 p4 pos pos' : Pos} {tb : WX → TS} {ts : Addr → Value → Option Addr → TS}
theorem ps_try_tup3 (hs : X.stack = X.env :: X.outer) (hf : X.env.frame = some X.env.locals) (hN : X.N.Nodup) (hi : X.N[i]? = some n) (hln : X.env.kindOf n = some .local) (n1 : Names X x1 c1) (n2 : Names X x2 c2) (n3 : Names X x3 c3)
    (hb : ∀ (W : WX) (pn : List (Addr × Obj)) (xe : Value → Shared → Prop), Takes (X.tr pn xe) W → PassesOwn (model X.prog X.w) X.A X.env xe → PSs (X.tr pn xe) body (tb W))
    (hsu : ∀ (a : Addr) (oe : Obj) (cls : Value) (d : Option Addr) (pn : List (Addr × Obj)), Zc cls d oe → (∃ vs, oe.data = .fields vs) → PSs (X.suite a ((a, oe) :: pn)) (b₀ :: suite) (ts a cls d)) :
    PS X (.Try body [.ExceptHandler (some (.Tuple [.Name x1 p1, .Name x2 p2, .Name x3 p3] j p4)) (some n) (b₀ :: suite) pos'] [] [] pos) (fun D σ H => tb (wTup X.K [c1, c2, c3] X.N.length i ts D) D σ H) := by
  constructor
  intro pins s σ H D I h
  have ok := I.ok
  have hfr : X.A.frames = some (X.env :: X.outer) := by rw [ok.frames, hs]
  apply wpAny_Try_except
  generalize hh : ExceptHandler.ExceptHandler (some (Expr.Tuple [.Name x1 p1, .Name x2 p2, .Name x3 p3] j p4)) (some n) (b₀ :: suite) pos' = hd
  have run := (hb (wTup X.K [c1, c2, c3] X.N.length i ts D) (X.pn ++ pins) (fun e s₁ => wpAny (model X.prog X.w) X.A (noteFrame e X.env) (fun _ s₂ => wpAny (model X.prog X.w) X.A (setFlight e none) (fun _ s₃ =>
    wpAny (model X.prog X.w) X.A (handleBy e X.env [hd]) (SP X pins D) X.xe s₃) X.xe s₂) X.xe s₁) ?tk PassesOwn.looking).run [] s σ H D (I.toTry _) h
  case tk =>
    rintro u s' ⟨a, B, sI, pins', σ', H', cls, d, rfl, J', nb, up, sky, na, os, ag, hm, hyes⟩
    have J : Inv X pins σ' H' sI := J'.ofTry ok
    have sky' : Sky B (X.env :: X.outer) a (Zc cls d) X.env.locals s'.heap := by rw [← hs]; exact sky
    show wpAny (model X.prog X.w) X.A (noteFrame (.ref a) X.env) _ _ _
    apply Sky.land Zc.steady hfr hf sky'
    intro h3 fl3 up3
    obtain ⟨oe3, vs3, he3, hz3, hd3⟩ := fl3.there
    have out : a ∉ frs (X.env :: X.outer) := fun hm => by
      obtain ⟨_, o', e', hnf⟩ := fl3.2.2.1.mem hm
      rw [he3] at e'
      cases e'
      exact hnf _ hd3
    have nL : a ≠ X.env.locals := fun z => out (List.mem_filterMap.mpr ⟨X.env, List.mem_cons_self, by rw [hf, z]⟩)
    have nF : a ∉ X.fs := fun hm => by
      obtain ⟨e, he, q⟩ := List.mem_filterMap.mp hm
      exact out (List.mem_filterMap.mpr ⟨e, List.mem_cons_of_mem _ he, q⟩)
    have J3 : Inv X pins σ' H' { s' with heap := h3 } := J.landed nb fl3.1 (up.trans up3) os ag
    have S3 := J3.suite he3 hd3 na nL nF
    subst hh
    refine wpAny_handleBy_cons (codeAny_handlers_test ?_) (by intro q; cases q)
    have nm : ∀ {x : Str} {c : Value} {p : Pos} {Q : Value → Shared → Prop} {E : Value → Shared → Prop}, Names X x c → Q c { s' with heap := h3 } → wpAny (model X.prog X.w) (X.A.mark (some (.ref a))) (eval (.Name x p) X.env) Q E { s' with heap := h3 } := by
      rintro x c p Q E ⟨hg, hdbg, hm | ⟨hm, hv, hnn⟩⟩ q
      · exact ld_glob (X := X.suite a ((a, oe3) :: (X.pn ++ pins))) S3 hg hm q hdbg
      · exact ld_blt (X := X.suite a ((a, oe3) :: (X.pn ++ pins))) S3 hg hm hv q hnn hdbg
    apply wpAny_Tuple
    refine wpAny_items_cons (nm n1 (wpAny_items_cons (nm n2 (wpAny_items_cons (nm n3 (wpAny_items_nil ⟨by show 3 ≤ sizeLine; decide, ?_⟩))))))
    have fl5 := fly_push fl3 { cls := .type "tuple", data := .seq [c1, c2, c3].toArray }
    have up5 : s'.heap.UpToSlots (h3.push { cls := .type "tuple", data := .seq [c1, c2, c3].toArray }) := up3.trans (Heap.UpToSlots.of_keeps fun b o e => Heap.get?_push_of_some _ e)
    have J5 : Inv X pins σ' H' { s' with heap := h3.push { cls := .type "tuple", data := .seq [c1, c2, c3].toArray } } := J.landed nb fl5.1 (up.trans up5) os ag
    have LT : PySem.W.Looks (model X.prog X.w) (h3.push { cls := .type "tuple", data := .seq [c1, c2, c3].toArray }) (typeOf (.ref a)) cls := fun A Q E s k q => wpAny_typeOf_ref (k _ _ (Heap.get?_push_of_some _ he3)) (by rw [hz3.1]; exact q)
    have LM := PySem.W.exm_tup3 (M := model X.prog X.w) (J5.kIn) LT (Heap.get?_push_size _ rfl) hm
    apply LM.here
    apply codeAny_handlers_suite_as
    apply HandSPX.lands_againZ fl5
    intro h4 fl4 up4
    have J4 : Inv X pins σ' H' { s' with heap := h4 } := J.landed nb fl4.1 ((up.trans up5).trans up4) os ag
    obtain ⟨oe4, vs4, he4, hz4, hd4⟩ := fl4.there
    have S4 := J4.suite he4 hd4 na nL nF
    refine store_ok (X := X.suite a ((a, oe4) :: (X.pn ++ pins))) (v := .ref a) S4 hN hi (.inl hln) rfl (fun s5 S5 => ?_) (.inr hln)
    apply wpAny_mono ((hsu a oe4 cls d (X.pn ++ pins) hz4 ⟨_, hd4⟩).run [] s5 _ H' _ S5 (hyes a na J.len))
    · have off : ∀ {σ6 : L2.St} {H6 : Hp} {s6 : Shared} {Q : Shared → Prop}, Inv (X.suite a ((a, oe4) :: (X.pn ++ pins))) [] σ6 H6 s6 → (∀ s7, Inv X pins (σ6.set i none) H6 s7 → Q s7) →
          wpAny (model X.prog X.w) X.A (do bindName X.env n .none; unbindBehindTheSuite X.env n pos') (fun _ s7 => Q s7) X.xe s6 := fun S6 hq => gone_ok (S6.unsuite ok) hN hi hln hq
      intro f s6 hsp
      cases f with
      | ret u =>
        obtain ⟨v6, σ6, H6, S6, r6, q6⟩ := hsp
        exact off S6 fun s7 J7 => ⟨_, _, _, J7, r6, q6⟩
      | next =>
        obtain ⟨σ6, H6, S6, q6⟩ := hsp
        exact off S6 fun s7 J7 => ⟨_, _, J7, q6⟩
      | brk =>
        obtain ⟨σ6, H6, S6, q6⟩ := hsp
        exact off S6 fun s7 J7 => ⟨_, _, J7, q6⟩
      | cont =>
        obtain ⟨σ6, H6, S6, q6⟩ := hsp
        exact off S6 fun s7 J7 => ⟨_, _, J7, q6⟩
    · exact fun _ _ z => z.elim
  refine wpAny_mono run (fun f s1 hsp => ?_) (fun e s1 he => he)
  cases f with
  | next =>
    obtain ⟨σ', H', J', q⟩ := hsp
    exact wpAny_execs_nil ⟨σ', H', J'.ofTry ok, q⟩
  | ret u =>
    obtain ⟨v, σ', H', J', r, q⟩ := hsp
    exact ⟨v, σ', H', J'.ofTry ok, r, q⟩
  | brk =>
    obtain ⟨σ', H', J', q⟩ := hsp
    exact ⟨σ', H', J'.ofTry ok, q⟩
  | cont =>
    obtain ⟨σ', H', J', q⟩ := hsp
    exact ⟨σ', H', J'.ofTry ok, q⟩
end
end My
namespace My
open PySem PySem.Spec PyProof.Rows L2
/-! ### which field an error's code tells -/
abbrev cGiven : List V := [.str "InvalidNumber", .str "InvalidThing", .str "InvalidRing", .str "InvalidName", .str "InvalidOrder", .str "WrongCount"]
abbrev cAt : List V := [.str "InvalidTerm", .str "InvalidLine", .str "InvalidProduct", .str "InvalidCommand", .str "DegreeTooHigh", .str "NotWhole", .str "NotStraight", .str "NoUnit"]
abbrev cNumber : List V := [.str "NoInverse", .str "Unsound", .str "InUse", .str "Broken", .str "UnknownNumber"]
abbrev cName : List V := [.str "Unused", .str "DuplicateName", .str "UnknownName"]
abbrev cMost : List V := [.str "TooMany", .str "TooGreat", .str "Full"]
def fieldName (q : Str) : Option Str :=
  if inV (.str q) cGiven then some "given" else if inV (.str q) cAt then some "at" else if inV (.str q) cNumber then some "number" else if inV (.str q) cName then some "name" else if inV (.str q) cMost then some "most" else none
/-- an error of an own class at C, its dict fs: its code, the field that the code tells -/
structure ErrAt (K : PySem.W.Frag) (cls : Value) (d : Option Addr) (H : Hp) (q : Str) (v : V) : Prop where
  ex : ∃ (C dd : Addr) (fs : List (Str × V)) (f : Str), cls = .ref C ∧ XfC K C ∧ d = some dd ∧ H dd = some (.xd fs) ∧ PySem.W.findIn K (.ref C) "code" = some none ∧ fs.lookup ("code" : Str) = some (V.str q) ∧
    fieldName q = some f ∧ PySem.W.findIn K (.ref C) f = some none ∧ fs.lookup f = some v
theorem ErrAt.same {K : PySem.W.Frag} {cls : Value} {d : Option Addr} {H H' : Hp} {q : Str} {v : V} (h : ErrAt K cls d H q v) (s : Same H H') : ErrAt K cls d H' q v := by
  obtain ⟨C, dd, fs, f, a, b, c, e, r⟩ := h.ex
  exact ⟨C, dd, fs, f, a, b, c, s _ _ e, r⟩
def spField (K : PySem.W.Frag) (p : Addr × Obj) : Sp := fun vs H Q _ => ∃ (cls : Value) (d : Option Addr) (q : Str) (v : V), vs = [.ref p.1] ∧ Zc cls d p.2 ∧ (∃ ws, p.2.data = .fields ws) ∧ ErrAt K cls d H q v ∧ ∀ H', Same H H' → Q v H'
section
variable {P : Program} {w : World} {K : PySem.W.Frag} {mg : Str → Option Value} {base : Heap}
theorem ok_field (F : Fn K mg "_law_field" s_l_field ["_law_e"]) : HasP P w K mg base 1 "_law_field" ["_law_e"] (spField K) := by
  obtain ⟨f, fd, F, m, b⟩ := F.ex
  refine ⟨f, fd, Fun.pinned F sc_l_field (fun p vs H Q E h => ?_) (fun cdv A outer s H vs Q p hr h => ?_), m, F.kp, b⟩
  · obtain ⟨cls, d, q, v, rfl, _⟩ := h
    rfl
  obtain ⟨cls, d, q, v, rfl, hz, hf, er, hq⟩ := h
  refine ⟨_, (pss_cons (ps_if (pt_cmpR op_in_seq (pe_xg (K := K) (List.mem_cons_self) hz hf (pv 0)) (pe_lst (pa_cons pe_str (pa_cons pe_str (pa_cons pe_str (pa_cons pe_str (pa_cons pe_str (pa_cons pe_str pa_nil))))))) rfl)
        (pss_one (ps_ret (pe_xg (K := K) (List.mem_cons_self) hz hf (pv 0))))
        pss_nil)
      (pss_cons (ps_if (pt_cmpR op_in_seq (pe_xg (K := K) (List.mem_cons_self) hz hf (pv 0)) (pe_lst (pa_cons pe_str (pa_cons pe_str (pa_cons pe_str (pa_cons pe_str (pa_cons pe_str (pa_cons pe_str (pa_cons pe_str (pa_cons pe_str pa_nil))))))))) rfl)
        (pss_one (ps_ret (pe_xg (K := K) (List.mem_cons_self) hz hf (pv 0))))
        pss_nil)
      (pss_cons (ps_if (pt_cmpR op_in_seq (pe_xg (K := K) (List.mem_cons_self) hz hf (pv 0)) (pe_lst (pa_cons pe_str (pa_cons pe_str (pa_cons pe_str (pa_cons pe_str (pa_cons pe_str pa_nil)))))) rfl)
        (pss_one (ps_ret (pe_xg (K := K) (List.mem_cons_self) hz hf (pv 0))))
        pss_nil)
      (pss_cons (ps_if (pt_cmpR op_in_seq (pe_xg (K := K) (List.mem_cons_self) hz hf (pv 0)) (pe_lst (pa_cons pe_str (pa_cons pe_str (pa_cons pe_str pa_nil)))) rfl)
        (pss_one (ps_ret (pe_xg (K := K) (List.mem_cons_self) hz hf (pv 0))))
        pss_nil)
      (pss_cons (ps_if (pt_cmpR op_in_seq (pe_xg (K := K) (List.mem_cons_self) hz hf (pv 0)) (pe_lst (pa_cons pe_str (pa_cons pe_str (pa_cons pe_str pa_nil)))) rfl)
        (pss_one (ps_ret (pe_xg (K := K) (List.mem_cons_self) hz hf (pv 0))))
        pss_nil)
      (pss_cons (ps_if (pt_cmpR op_eq (pe_xg (K := K) (List.mem_cons_self) hz hf (pv 0)) pe_str (nomark _))
        (pss_one (ps_ret (pe_tup (pa_cons (pe_xg (K := K) (List.mem_cons_self) hz hf (pv 0)) (pa_cons (pe_xg (K := K) (List.mem_cons_self) hz hf (pv 0)) pa_nil)))))
        pss_nil)
      (pss_cons (ps_if (pt_cmpR op_eq (pe_xg (K := K) (List.mem_cons_self) hz hf (pv 0)) pe_str (nomark _))
        (pss_one (ps_ret (pe_xg (K := K) (List.mem_cons_self) hz hf (pv 0))))
        pss_nil)
      (pss_cons (ps_if (pt_cmpR op_eq (pe_xg (K := K) (List.mem_cons_self) hz hf (pv 0)) pe_str (nomark _))
        (pss_one (ps_ret (pe_xg (K := K) (List.mem_cons_self) hz hf (pv 0))))
        pss_nil)
      (pss_one (ps_ret (pe_ifExp (pt_cmpR op_eq (pe_xg (K := K) (List.mem_cons_self) hz hf (pv 0)) pe_str (nomark _)) (pe_xg (K := K) (List.mem_cons_self) hz hf (pv 0)) pe_non))))))))))), ?_⟩
  obtain ⟨C, dd, fs, fn, rfl, T, rfl, hd, noC, lC, hfn, noF, lF⟩ := er.ex
  have step : ∀ {H' : Hp} {l : Addr} {o : HO}, H' dd = some (.xd fs) → H' l = none → upd H' l o dd = some (.xd fs) := fun e n => by rw [upd_ne (ne_of_none e n)]; exact e
  unfold fieldName at hfn
  refine ⟨_, rfl, rfl, C, dd, fs, _, rfl, T, noC, rfl, hd, lC, (by show 6 ≤ sizeLine; decide), fun l1 h1 => ⟨l1, cGiven, rfl, .inl (SqL.of upd_same), rfl, rfl, ?_⟩⟩
  have d1 := step (o := .lst cGiven) hd h1
  have m1 : Same H (upd H l1 (.lst cGiven)) := same_upd h1
  cases i1 : inV (.str q) cGiven with
  | true =>
    rw [i1] at hfn
    cases hfn
    exact ⟨_, rfl, iteT ⟨_, rfl, rfl, C, dd, fs, _, rfl, T, noF, rfl, d1, lF, hq _ m1⟩⟩
  | false =>
  rw [i1] at hfn
  refine ⟨_, rfl, iteF ?_⟩
  refine ⟨_, rfl, rfl, C, dd, fs, _, rfl, T, noC, rfl, d1, lC, (by show 8 ≤ sizeLine; decide), fun l2 h2 => ⟨l2, cAt, rfl, .inl (SqL.of upd_same), rfl, rfl, ?_⟩⟩
  have d2 := step (o := .lst cAt) d1 h2
  have m2 := m1.trans (same_upd (o := .lst cAt) h2)
  cases i2 : inV (.str q) cAt with
  | true =>
    rw [i2] at hfn
    cases hfn
    exact ⟨_, rfl, iteT ⟨_, rfl, rfl, C, dd, fs, _, rfl, T, noF, rfl, d2, lF, hq _ m2⟩⟩
  | false =>
  rw [i2] at hfn
  refine ⟨_, rfl, iteF ?_⟩
  refine ⟨_, rfl, rfl, C, dd, fs, _, rfl, T, noC, rfl, d2, lC, (by show 5 ≤ sizeLine; decide), fun l3 h3 => ⟨l3, cNumber, rfl, .inl (SqL.of upd_same), rfl, rfl, ?_⟩⟩
  have d3 := step (o := .lst cNumber) d2 h3
  have m3 := m2.trans (same_upd (o := .lst cNumber) h3)
  cases i3 : inV (.str q) cNumber with
  | true =>
    rw [i3] at hfn
    cases hfn
    exact ⟨_, rfl, iteT ⟨_, rfl, rfl, C, dd, fs, _, rfl, T, noF, rfl, d3, lF, hq _ m3⟩⟩
  | false =>
  rw [i3] at hfn
  refine ⟨_, rfl, iteF ?_⟩
  refine ⟨_, rfl, rfl, C, dd, fs, _, rfl, T, noC, rfl, d3, lC, (by show 3 ≤ sizeLine; decide), fun l4 h4 => ⟨l4, cName, rfl, .inl (SqL.of upd_same), rfl, rfl, ?_⟩⟩
  have d4 := step (o := .lst cName) d3 h4
  have m4 := m3.trans (same_upd (o := .lst cName) h4)
  cases i4 : inV (.str q) cName with
  | true =>
    rw [i4] at hfn
    cases hfn
    exact ⟨_, rfl, iteT ⟨_, rfl, rfl, C, dd, fs, _, rfl, T, noF, rfl, d4, lF, hq _ m4⟩⟩
  | false =>
  rw [i4] at hfn
  refine ⟨_, rfl, iteF ?_⟩
  refine ⟨_, rfl, rfl, C, dd, fs, _, rfl, T, noC, rfl, d4, lC, (by show 3 ≤ sizeLine; decide), fun l5 h5 => ⟨l5, cMost, rfl, .inl (SqL.of upd_same), rfl, rfl, ?_⟩⟩
  have d5 := step (o := .lst cMost) d4 h5
  have m5 := m4.trans (same_upd (o := .lst cMost) h5)
  cases i5 : inV (.str q) cMost with
  | true =>
    rw [i5] at hfn
    cases hfn
    exact ⟨_, rfl, iteT ⟨_, rfl, rfl, C, dd, fs, _, rfl, T, noF, rfl, d5, lF, hq _ m5⟩⟩
  | false =>
  rw [i5] at hfn
  cases hfn
end
/-! ### ask and tell: a value with no code, or an error's code and field -/
/-- what is wished of the exceptions that ask() lets out -/
def ErrWish (K : PySem.W.Frag) (cs : List Value) (Q : VK) : XK := fun cls d H => PySem.W.exmAny K cls cs = some true ∧ ∃ (q : Str) (v : V), ErrAt K cls d H q v ∧ ∀ H2 p, Same H H2 → H2 p = none → Q (.ref p) (upd H2 p (.tup [.str q, v]))
def spField1 (K : PySem.W.Frag) (a : Addr) (cls : Value) (d : Option Addr) : Sp := fun vs H Q _ => ∃ (q : Str) (v : V), vs = [.ref a] ∧ ErrAt K cls d H q v ∧ ∀ H', Same H H' → Q v H'
theorem pe_fld {Y : Cx} (K : PySem.W.Frag) {a : Addr} {oe : Obj} {cls : Value} {d : Option Addr} {ps1 pos : Pos} {e : Expr} {es : List Expr} {t : TA} (G : HasP Y.prog Y.w Y.K Y.mg Y.base 1 "_law_field" ["_law_e"] (spField Y.K)) (hr : L2H.RoomH 1 Y.A) (hp : (a, oe) ∈ Y.pn)
    (hz : Zc cls d oe) (hf : ∃ vs, oe.data = .fields vs) (hg : Gl Y "_law_field") (ha : PA Y (e :: es) t) (hK : Y.K = K := by rfl) (he : starEach (e :: es) Y.env = (false, eval e Y.env) :: starEach es Y.env := by rfl) (hpl : (backTo pos (starEach es Y.env)).any (·.1) = false := by rfl) :
    PE Y (.Call (.Name "_law_field" ps1) (e :: es) [] pos) (tCall (spField1 K a cls d) [] E0 t) := by
  subst hK
  exact pe_ownP G hr hp (fun vs H Q ⟨q, v, e, r⟩ => ⟨cls, d, q, v, e, hz, hf, r⟩) hg ha (by decide) he hpl
def TGot (K : PySem.W.Frag) (cs : List Value) : (XK → Hp → VK → Prop) → Hp → VK → Prop := fun tl H Q => tl (ErrWish K cs Q) H fun v H1 => 2 ≤ sizeLine ∧ ∀ p, H1 p = none → Q (.ref p) (upd H1 p (.tup [.str "", v]))
section
variable {X : Cx}
theorem got_gives {g : Addr} {cdg : Value} {q : Str} {C1 C2 C3 : Value} {k : Nat} (hr : Room (k + 2) X.A) (G_l_field : HasP X.prog X.w X.K X.mg X.base 1 "_law_field" ["_law_e"] (spField X.K)) (m1 : X.mg "RingError" = some C1) (m2 : X.mg "Missing" = some C2) (m3 : X.mg "NothingLeft" = some C3) :
    LamX.GivesTo X N_l_got "_law_got" (defScope s_l_got) g cdg (defBody s_l_got) "_law_ask" q (TGot X.K [C1, C2, C3]) := by
  intro f c' s H Q tl act hc h
  have hr1 : Room (k + 1) (X.A.deeper (envOfC "_law_got" (defScope s_l_got) s.heap.objs.size g cdg)) := hr.deeper _
  have hr2 : ∀ a : Addr, L2H.RoomH 1 ((X.A.deeper (envOfC "_law_got" (defScope s_l_got) s.heap.objs.size g cdg)).mark (some (.ref a))) := fun a => by
    have r := hr1.mono (Nat.succ_le_succ (Nat.zero_le k))
    exact ⟨r.dp, r.un⟩
  refine ⟨_, pss_one (ps_try_tup3 (X := (cxOf C8.CX0 X.prog X.w X.K X.mg X.base N_l_got "_law_got" (defScope s_l_got) g cdg X.A X.stack s H C8.E0).nox) (i := 1) (c1 := C1) (c2 := C2) (c3 := C3)
      (tb := fun W D σ H => ∃ Ech : XK, (∀ cls d σ' H', Ech cls d H' → W cls d σ' H') ∧ σ[0]? = some (some (.ref f)) ∧ H c' = some (LamX.CodeO c' q) ∧ tl Ech H (fun v H1 => 2 ≤ sizeLine ∧ ∀ p, H1 p = none → D.rt (.ref p) (upd H1 p (.tup [.str "", v]))))
      rfl rfl sc_l_got.nd rfl rfl ⟨rfl, by decide, .inl m1⟩ ⟨rfl, by decide, .inl m2⟩ ⟨rfl, by decide, .inl m3⟩ (fun W pn xe tk _ => ?_) (fun a oe cls d pn hz hf => pss_one (ps_ret (pe_tup (pa_cons (pe_xg (K := X.K) (List.mem_cons_self) hz hf (pv 1)) (pa_cons (pe_fld (Y := Cx.suite (cxOf C8.CX0 X.prog X.w X.K X.mg X.base N_l_got "_law_got" (defScope s_l_got) g cdg X.A X.stack s H C8.E0).nox a ((a, oe) :: pn)) X.K G_l_field (hr2 a) (List.mem_cons_self) hz hf rfl (pa_cons (pv 1) pa_nil)) pa_nil)))))), ?_⟩
  · constructor
    intro pins s' σ H' D I h'
    obtain ⟨Ech, hW, h1, h2, h3⟩ := h'
    have hp := fun p1 p2 => act W pn xe Ech p1 p2 tk hW
    exact (pss_one (ps_ret (pe_tup (pa_cons pe_str (pa_cons (hp _ _) pa_nil))))).run pins s' σ H' D I ⟨h1, h2, h3⟩
  · refine ⟨ErrWish X.K [C1, C2, C3] Q, fun cls d σ' H' ⟨hm, qq, v, er, hQ⟩ => ⟨hm, fun a na hl => ?_⟩, rfl, hc, h⟩
    obtain ⟨C, dd, fs, fn, rfl, T, rfl, hd, noC, lC, hfn, noF, lF⟩ := er.ex
    have hv : (σ'.set 1 (some (.ref a)))[1]? = some (some (V.ref a)) := List.getElem?_set_self (by rw [hl]; show 1 < N_l_got.length; decide)
    exact ⟨_, hv, rfl, C, dd, fs, _, rfl, T, noC, rfl, hd, lC, _, hv, qq, v, rfl, er, fun H2 s2 => ⟨by show 2 ≤ sizeLine; decide, fun p hp => hQ H2 p s2 hp⟩⟩
end
end My
namespace My
open PySem PySem.Spec PyProof.Rows L2
/-! ### math.lcm -/
def rLcm : List V → Hp → VK → Prop := fun vs H Q => ∃ a b : Int, vs = [.int a, .int b] ∧ a.natAbs < 2 ^ 200 ∧ b.natAbs < 2 ^ 200 ∧ Q (.int ((Nat.lcm a.natAbs b.natAbs : Nat) : Int)) H
theorem lcm_le (m n : Nat) : Nat.lcm m n ≤ m * n := by
  unfold Nat.lcm
  exact Nat.div_le_self _ _
theorem cr_lcm {X : Cx} : CallR X (.builtin "math.lcm") rLcm := by
  intro pins s σ H vs us Q I r h
  obtain ⟨a, b, rfl, ha, hb, q⟩ := h
  obtain ⟨t, u, rfl⟩ := Vals.int2 r
  have h1 : (max 1 a.natAbs).log2 ≤ 199 := PySem.W.mg_log (by show max 1 a.natAbs < 2 ^ 200; omega)
  have h2 : (max a.natAbs b.natAbs).log2 ≤ 199 := PySem.W.mg_log (by show max a.natAbs b.natAbs < 2 ^ 200; omega)
  have e1 : Nat.lcm 1 a.natAbs = a.natAbs := PySem.W.mc_lcm_one _
  have hm : a.natAbs.lcm b.natAbs < 2 ^ 400 := by
    refine Nat.lt_of_le_of_lt (lcm_le _ _) ?_
    rw [show (400 : Nat) = 200 + 200 from rfl, Nat.pow_add]
    exact Nat.mul_lt_mul'' ha hb
  have h3 : (a.natAbs.lcm b.natAbs).log2 ≤ 399 := PySem.W.mg_log hm
  have hsz : ((((Nat.lcm 1 a.natAbs).lcm b.natAbs : Nat) : Int)).natAbs.log2 < bitsLine := by
    rw [e1, Int.natAbs_natCast]
    refine Nat.lt_of_le_of_lt h3 ?_
    decide
  refine PySem.call_function_meets PySem.W.MGF.kind_lcm PySem.W.MGF.plain_lcm PySem.W.MGF.entry_lcm (PySem.W.MGF.args_lcm _ _) (PySem.W.mg_run_lcm a t b u (by omega) (by omega) hsz).meets ?_
  rw [e1]
  exact ⟨.int _, H, I.tok _, ⟨_, rfl⟩, q⟩
end My
namespace My
open PySem PySem.Spec PyProof.Rows L2
structure Txt (mg : Str → Option Value) : Prop where
  m_gcd : mg "gcd" = some (.builtin "math.gcd")
  m_lcm : mg "lcm" = some (.builtin "math.lcm")
/-! ### a def by its positional values -/
structure HasR (P : Program) (w : World) (K : PySem.W.Frag) (mg : Str → Option Value) (base : Heap) (k : Nat) (x : Str) (sp : Sp) : Prop where
  ex : ∃ f : Addr, FnR P w K mg base CX0 k f sp ∧ mg x = some (.ref f) ∧ PySem.W.keepIn K (.ref f) = true
section
variable {X : Cx} {k : Nat} {x : Str} {sp : Sp} {p pos : Pos} {e : Expr} {es : List Expr} {t : TA}
theorem pe_ownR (h : HasR X.prog X.w X.K X.mg X.base k x sp) (hr : Room k X.A) (hg : Gl X x) (ha : PA X (e :: es) t) (hdb : (x == ("__debug__" : Str)) = false := by decide)
    (he : starEach (e :: es) X.env = (false, eval e X.env) :: starEach es X.env := by rfl) (hpl : (backTo pos (starEach es X.env)).any (·.1) = false := by rfl) : PE X (.Call (.Name x p) (e :: es) [] pos) (fun σ H Q => t σ H fun vs H1 => sp vs H1 Q E0) := by
  obtain ⟨f, F, m, kp⟩ := h.ex
  constructor
  intro pins s σ H Q I h
  apply wpAny_Call_Name_kw (ld_glob I hg m ?_ hdb)
  apply PySem.W.callWith_K (h₀ := X.base) I.ok.mod.kin kp _ he hpl
  apply thn (ha.run pos pins s σ H _ I h)
  rintro us s1 ⟨vs, H1, I1, r, q⟩
  exact ⟨I1.kIn, wpAny_call (run_fnR F hr pass0 I1 r q)⟩
theorem pe_ownR0 (h : HasR X.prog X.w X.K X.mg X.base k x sp) (hr : Room k X.A) (hg : Gl X x) (hdb : (x == ("__debug__" : Str)) = false := by decide) : PE X (.Call (.Name x p) [] [] pos) (fun σ H Q => sp [] H Q E0) := by
  obtain ⟨f, F, m, kp⟩ := h.ex
  constructor
  intro pins s σ H Q I h
  apply wpAny_Call_Name_kw (ld_glob I hg m ?_ hdb)
  exact PySem.W.callWith_K0 I.kIn kp (wpAny_call (run_fnR F hr pass0 I .nil h))
end
def spIsInt : Sp := fun vs H Q _ => ∃ (x : V) (t : String), vs = [x] ∧ Typ H x t ∧ Q (.bl (isIntV x)) H
def gcdI (a b : Int) : Int := ((Nat.gcd a.natAbs b.natAbs : Nat) : Int)
def lcmI (a b : Int) : Int := ((Nat.lcm a.natAbs b.natAbs : Nat) : Int)
theorem fold_take {f : Int → Int → Int} {z m : Int} {ns : List Int} {i : Nat} (h : ns[i]? = some m) : (ns.take (i + 1)).foldl f z = f ((ns.take i).foldl f z) m := by
  rw [List.take_add_one, h, List.foldl_append]
  rfl
theorem at_ints {ns : List Int} {i : Nat} {x : V} (h : (ns.map V.int)[i]? = some x) : ∃ m, ns[i]? = some m ∧ x = .int m := by
  rw [List.getElem?_map] at h
  cases hi : ns[i]? with
  | none => rw [hi] at h; cases h
  | some m =>
    rw [hi] at h
    cases h
    exact ⟨m, rfl, rfl⟩
theorem lcm_fold : ∀ (i : Nat) (ns : List Int), ns.length ≤ 3 → (∀ n ∈ ns, n.natAbs < 2 ^ 60) → ((ns.take i).foldl lcmI 1).natAbs ≤ 2 ^ (60 * i)
  | 0, ns, _, _ => by rw [List.take_zero]; decide
  | i + 1, ns, h, hb => by
    have ih := lcm_fold i ns h hb
    cases hi : ns[i]? with
    | none =>
      rw [List.take_add_one, hi]
      simp only [Option.toList_none, List.append_nil]
      exact Nat.le_trans ih (Nat.pow_le_pow_right (by decide) (by omega))
    | some m =>
      rw [fold_take hi]
      have hm := hb m (List.mem_of_getElem? hi)
      show ((Nat.lcm _ m.natAbs : Nat) : Int).natAbs ≤ _
      rw [Int.natAbs_natCast]
      refine Nat.le_trans (lcm_le _ _) ?_
      rw [show 60 * (i + 1) = 60 * i + 60 from rfl, Nat.pow_add]
      exact Nat.mul_le_mul ih (Nat.le_of_lt hm)
def spFold (f : Int → Int → Int) (z : Int) : Sp := fun vs H Q _ => ∃ ns : List Int, vs = ns.map V.int ∧ ns.length ≤ 3 ∧ (∀ n ∈ ns, n.natAbs < 2 ^ 60) ∧ ∀ H', Same H H' → Q (.int (ns.foldl f z)) H'
def spTup (f : Int → Int → Int) (z : Int) : Sp := fun vs H Q _ => ∃ (p : Addr) (ns : List Int), vs = [.ref p] ∧ H p = some (.tup (ns.map V.int)) ∧ ns.length ≤ 3 ∧ (∀ n ∈ ns, n.natAbs < 2 ^ 60) ∧ Q (.int (ns.foldl f z)) H
def spDiv : Sp := fun vs H Q _ => ∃ a b : Int, vs = [.int a, .int b] ∧ Q (.bl (if a = 0 then decide (V.int b = V.int 0) else decide (V.int (b.fmod a) = V.int 0))) H
def spLcm : Sp := fun vs H Q _ => ∃ a b : Int, vs = [.int a, .int b] ∧ a.natAbs < 2 ^ 150 ∧ b.natAbs < 2 ^ 60 ∧ Q (.int (lcmI a b)) H
def spGcds (K : PySem.W.Frag) : Sp := fun vs H Q _ => ∃ (p : Addr) (ns : List Int), vs = [.ref p] ∧ SqL K H p (ns.map V.int) ∧ Q (.int (ns.foldl gcdI 0)) H
def spLShare : Sp := fun vs H Q _ => ∃ p q : Int, vs = [.int p, .int q] ∧ 1 ≤ q ∧ q < 2 ^ 60 ∧ ∀ t, H t = none → Q (.ref t) (upd H t (.tup [.int (p / gcdI p q), .int (q / gcdI p q)]))
/-- the share in lowest terms, or the error of a denominator that is none or below 1 -/
def spShare (CE : Addr) : Sp := fun vs H Q E => (∃ p q : Int, vs = [.int p, .int q] ∧ 1 ≤ q ∧ q < 2 ^ 60 ∧ ∀ t, H t = none → Q (.ref t) (upd H t (.tup [.int (p / gcdI p q), .int (q / gcdI p q)]))) ∨
  ∃ (p x : V) (ty : String), vs = [p, x] ∧ Typ H x ty ∧ (∀ i : Int, x = .int i → i < 1) ∧ ∀ d, H d = none → E (.ref CE) (some d) (upd H d (.xd (errD "given" "InvalidNumber" x)))
section
variable {P : Program} {w : World} {K : PySem.W.Frag} {mg : Str → Option Value} {base : Heap}
theorem gcdI_pos {a b : Int} (h : b ≠ 0) : (0 : Int) < gcdI a b := by
  unfold gcdI
  have := Nat.gcd_pos_of_pos_right a.natAbs (Int.natAbs_pos.mpr h)
  omega
theorem lcm_as {a b : Int} (h : b ≠ 0) : (((a / ((Nat.gcd a.natAbs b.natAbs : Nat) : Int) * b).natAbs : Nat) : Int) = lcmI a b := by
  have g0 : (0 : Nat) < Nat.gcd a.natAbs b.natAbs := Nat.gcd_pos_of_pos_right _ (Int.natAbs_pos.mpr h)
  have hd : ((Nat.gcd a.natAbs b.natAbs : Nat) : Int) ∣ a := Int.natAbs_dvd_natAbs.mp (show Nat.gcd a.natAbs b.natAbs ∣ a.natAbs from Nat.gcd_dvd_left _ _)
  obtain ⟨k, hk⟩ := hd
  unfold lcmI
  congr 1
  obtain ⟨g, hg⟩ : ∃ g, g = Nat.gcd a.natAbs b.natAbs := ⟨_, rfl⟩
  unfold Nat.lcm
  rw [← hg] at hk g0 ⊢
  have e1 : a / (g : Int) = k := by
    rw [hk]
    exact Int.mul_ediv_cancel_left _ (by omega)
  have e2 : a.natAbs = g * k.natAbs := by
    rw [hk, Int.natAbs_mul, Int.natAbs_natCast]
  rw [e1, Int.natAbs_mul, e2, Nat.mul_assoc, Nat.mul_div_cancel_left _ g0]
theorem gcdI_le {a b : Int} (h : 0 < b) : gcdI a b ≤ b := by
  unfold gcdI
  have := Nat.le_of_dvd (by omega : 0 < b.natAbs) (Nat.gcd_dvd_right a.natAbs b.natAbs)
  omega
theorem divW {y z : Int} (h : 0 < z) (h2 : z < 2 ^ 160) : CDivW y z := by
  refine wide_div (b := 160) (by omega) ?_ (by decide) (by decide)
  omega
theorem ok_is_int (F : Fn K mg "is_int" s_is_int ["value"]) (B : Blt mg) : Has P w K mg base 1 "is_int" ["value"] spIsInt := by
  refine F.has sc_is_int (fun vs H Q E h => ?_) (fun f cdv A outer s H vs Q E hr h => ?_)
  · obtain ⟨a, t, rfl, _⟩ := h
    rfl
  obtain ⟨x, t, rfl, ht, q⟩ := h
  refine ⟨_, (pss_one (ps_ret (pe_and (pe_callB call_isi (by rfl) B.isinstance bb_isinstance (pa_cons (pv 0) (pa_cons (pe_bltn (v := .ty "int") (by rfl) B.int bb_int rfl) pa_nil))) (pe_one (pe_not (pe_callB call_isi (by rfl) B.isinstance bb_isinstance (pa_cons (pv 0) (pa_cons (pe_bltn (v := .ty "bool") (by rfl) B.bool bb_bool rfl) pa_nil)))))))), ?_⟩
  have ty := ht.tyx (K := K)
  cases ht with
  | non =>
    refine ⟨_, rfl, _, .ty "int", _, .type "int", false, rfl, .ty _, ty, kit_ty (by decide +kernel), _, rfl, iteF ?_⟩
    exact q
  | bl x =>
    refine ⟨_, rfl, _, .ty "int", _, .type "int", true, rfl, .ty _, ty, kit_ty (by decide +kernel), _, rfl, iteT ?_⟩
    refine ⟨_, rfl, _, .ty "bool", _, .type "bool", true, rfl, .ty _, ty, kit_ty (by decide +kernel), _, rfl, ?_⟩
    exact q
  | int i =>
    refine ⟨_, rfl, _, .ty "int", _, .type "int", true, rfl, .ty _, ty, kit_ty (by decide +kernel), _, rfl, iteT ?_⟩
    refine ⟨_, rfl, _, .ty "bool", _, .type "bool", false, rfl, .ty _, ty, kit_ty (by decide +kernel), _, rfl, ?_⟩
    exact q
  | str z =>
    refine ⟨_, rfl, _, .ty "int", _, .type "int", false, rfl, .ty _, ty, kit_ty (by decide +kernel), _, rfl, iteF ?_⟩
    exact q
  | lst h =>
    refine ⟨_, rfl, _, .ty "int", _, .type "int", false, rfl, .ty _, ty, kit_ty (by decide +kernel), _, rfl, iteF ?_⟩
    exact q
  | tup h =>
    refine ⟨_, rfl, _, .ty "int", _, .type "int", false, rfl, .ty _, ty, kit_ty (by decide +kernel), _, rfl, iteF ?_⟩
    exact q
theorem ok_common (F : ∃ (f : Addr) (fd : FuncData), Fun K "common" "common" s_common f fd ∧ mg "common" = some (.ref f)) (T : Txt mg) : HasR P w K mg base 1 "common" (spFold gcdI 0) := by
  obtain ⟨f, fd, F, m⟩ := F
  have kp := F.kp
  obtain ⟨oc, od, kV, doc, pm, an, cdv, ct, osl, rfl, lk, hcd⟩ := F.ex
  have R := StX.fn_star (P := P) (w := w) (mg := mg) (base := base) (CX := CX0) (k := 0) (sp := spTup gcdI 0) (ps := []) (pv := "numbers") (N := N_common) lk hcd sc_common StX.cxUp_none (fun us rest hl => match us, rest, hl with | [], [], _ => rfl | [], _ :: _, _ => rfl) (fun A outer s H vs Q E hr h => by
    obtain ⟨p, ns, rfl, hp, hl, hb, q⟩ := h
    refine ⟨_, PSs.nox (pss_cons (ps_set (i := 1) sc_common.nd rfl (Or.inl rfl) pe_int)
      (pss_cons (ps_for PassesOwn.never rfl (pi_tup (pv 0)) (pg_name (i := 2) sc_common.nd rfl (Or.inl rfl))
        (pss_one (ps_set (i := 1) sc_common.nd rfl (Or.inl rfl) (pe_callBfun cr_gcd (by rfl) T.m_gcd (pa_cons (pv 1) (pa_cons (pv 2) pa_nil))))))
      (pss_one (ps_ret (pv 1))))), ?_⟩
    refine ⟨_, rfl, p, rfl, ⟨_, SqT.of hp⟩, for_tup (fun i σ H' => ∃ y, σ = [some (.ref p), some (.int ((ns.take i).foldl gcdI 0)), y] ∧ H' = H) ⟨none, rfl, rfl⟩ (fun i σ H' _ ⟨_, _, e⟩ => e ▸ SqT.of hp) ?_ ?_⟩
    · rintro i x σ H' hx ⟨y, rfl, rfl⟩
      obtain ⟨m, hm, rfl⟩ := at_ints hx
      refine ⟨_, rfl, _, rfl, _, _, rfl, some (.int m), ?_, rfl⟩
      rw [fold_take hm]
      rfl
    · rintro σ H' ⟨y, rfl, rfl⟩
      rw [List.length_map, List.take_length]
      exact ⟨_, rfl, q⟩)
  refine ⟨f, R.imp fun vs H Q E ⟨ns, ev, hl, hb, q⟩ => ⟨[], vs, rfl, rfl, ?_, fun p hp => ⟨p, ns, rfl, ?_, hl, hb, q _ (same_upd hp)⟩⟩, m, kp⟩
  · rw [ev, List.length_map]
    exact Nat.le_trans hl (by decide)
  · rw [ev]
    exact upd_same
theorem ok_multiple (F : ∃ (f : Addr) (fd : FuncData), Fun K "multiple" "multiple" s_multiple f fd ∧ mg "multiple" = some (.ref f)) (T : Txt mg) : HasR P w K mg base 1 "multiple" (spFold lcmI 1) := by
  obtain ⟨f, fd, F, m⟩ := F
  have kp := F.kp
  obtain ⟨oc, od, kV, doc, pm, an, cdv, ct, osl, rfl, lk, hcd⟩ := F.ex
  have R := StX.fn_star (P := P) (w := w) (mg := mg) (base := base) (CX := CX0) (k := 0) (sp := spTup lcmI 1) (ps := []) (pv := "numbers") (N := N_multiple) lk hcd sc_multiple StX.cxUp_none (fun us rest hl => match us, rest, hl with | [], [], _ => rfl | [], _ :: _, _ => rfl) (fun A outer s H vs Q E hr h => by
    obtain ⟨p, ns, rfl, hp, hl, hb, q⟩ := h
    refine ⟨_, PSs.nox (pss_cons (ps_set (i := 1) sc_multiple.nd rfl (Or.inl rfl) pe_int)
      (pss_cons (ps_for PassesOwn.never rfl (pi_tup (pv 0)) (pg_name (i := 2) sc_multiple.nd rfl (Or.inl rfl))
        (pss_one (ps_set (i := 1) sc_multiple.nd rfl (Or.inl rfl) (pe_callBfun cr_lcm (by rfl) T.m_lcm (pa_cons (pv 1) (pa_cons (pv 2) pa_nil))))))
      (pss_one (ps_ret (pv 1))))), ?_⟩
    refine ⟨_, rfl, p, rfl, ⟨_, SqT.of hp⟩, for_tup (fun i σ H' => ∃ y, σ = [some (.ref p), some (.int ((ns.take i).foldl lcmI 1)), y] ∧ H' = H) ⟨none, rfl, rfl⟩ (fun i σ H' _ ⟨_, _, e⟩ => e ▸ SqT.of hp) ?_ ?_⟩
    · rintro i x σ H' hx ⟨y, rfl, rfl⟩
      obtain ⟨m, hm, rfl⟩ := at_ints hx
      have hk : i < 3 := by
        have := (List.getElem?_eq_some_iff.mp hm).1
        omega
      have b1 := lcm_fold i ns hl hb
      have b2 := hb m (List.mem_of_getElem? hm)
      refine ⟨_, rfl, _, rfl, _, _, rfl, Nat.lt_of_le_of_lt b1 (Nat.pow_lt_pow_right (by decide) (by omega)), Nat.lt_trans b2 (Nat.pow_lt_pow_right (by decide) (by decide)), some (.int m), ?_, rfl⟩
      rw [fold_take hm]
      rfl
    · rintro σ H' ⟨y, rfl, rfl⟩
      rw [List.length_map, List.take_length]
      exact ⟨_, rfl, q⟩)
  refine ⟨f, R.imp fun vs H Q E ⟨ns, ev, hl, hb, q⟩ => ⟨[], vs, rfl, rfl, ?_, fun p hp => ⟨p, ns, rfl, ?_, hl, hb, q _ (same_upd hp)⟩⟩, m, kp⟩
  · rw [ev, List.length_map]
    exact Nat.le_trans hl (by decide)
  · rw [ev]
    exact upd_same
theorem ok_divides (F : Fn K mg "divides" s_divides ["one", "other"]) : Has P w K mg base 1 "divides" ["one", "other"] spDiv := by
  refine F.has sc_divides (fun vs H Q E h => ?_) (fun f cdv A outer s H vs Q E hr h => ?_)
  · obtain ⟨a, b, rfl, _⟩ := h
    rfl
  obtain ⟨a, b, rfl, q⟩ := h
  refine ⟨_, (pss_cons (ps_if (pt_cmpR op_eq (pv 0) pe_int (nomark _))
        (pss_one (ps_ret (pe_cmpR op_eq (pv 1) pe_int (nomark _))))
        pss_nil)
      (pss_one (ps_ret (pe_cmpR op_eq (pe_op op_modN (pv 1) (pv 0)) pe_int (nomark _))))), ?_⟩
  refine ⟨_, rfl, rfl, _, rfl, ?_⟩
  by_cases h0 : a = 0
  · rw [if_pos h0] at q
    exact ite_of (decide_eq_true (by rw [h0])) ⟨_, rfl, rfl, q⟩
  · rw [if_neg h0] at q
    refine ite_no (fun z => h0 ?_) ⟨_, rfl, _, rfl, _, _, rfl, rfl, h0, rfl, q⟩
    have z' : V.int a = V.int 0 := of_decide_eq_true z
    injection z'
theorem ok_l_divides (F : Fn K mg "_law_divides" s_l_divides ["_law_a", "_law_b"]) (B : Blt mg) : Has P w K mg base 1 "_law_divides" ["_law_a", "_law_b"] spDiv := by
  refine F.has sc_l_divides (fun vs H Q E h => ?_) (fun f cdv A outer s H vs Q E hr h => ?_)
  · obtain ⟨a, b, rfl, _⟩ := h
    rfl
  obtain ⟨a, b, rfl, q⟩ := h
  refine ⟨_, (pss_one (ps_ret (pe_ifExp (pt_cmpR op_eq (pv 0) pe_int (nomark _)) (pe_cmpR op_eq (pv 1) pe_int (nomark _)) (pe_cmpR op_eq (pe_op op_modN (pe_callTy call_int1 (by rfl) B.int bb_int (pa_cons (pv 1) pa_nil)) (pv 0)) pe_int (nomark _))))), ?_⟩
  refine ⟨_, rfl, rfl, _, rfl, ?_⟩
  by_cases h0 : a = 0
  · rw [if_pos h0] at q
    exact ite_of (decide_eq_true (by rw [h0])) ⟨_, rfl, rfl, q⟩
  · rw [if_neg h0] at q
    refine ite_no (fun z => h0 ?_) ⟨_, rfl, .inl ⟨_, rfl, _, rfl, _, _, rfl, rfl, h0, rfl, q⟩⟩
    have z' : V.int a = V.int 0 := of_decide_eq_true z
    injection z'
theorem ok_l_gcds (F : Fn K mg "_law_gcds" s_l_gcds ["_law_numbers"]) (G_l_gcd : Has P w K mg base 1 "_law_gcd" ["_law_a", "_law_b"] spGcd) : Has P w K mg base 2 "_law_gcds" ["_law_numbers"] (spGcds K) := by
  refine F.has sc_l_gcds (fun vs H Q E h => ?_) (fun f cdv A outer s H vs Q E hr h => ?_)
  · obtain ⟨a, b, rfl, _⟩ := h
    rfl
  obtain ⟨p, ns, rfl, hS, q⟩ := h
  refine ⟨_, (pss_cons (ps_set (i := 1) sc_l_gcds.nd rfl (Or.inl rfl) pe_int)
      (pss_cons (ps_for PassesOwn.never rfl (pi_list (pv 0)) (pg_name (i := 2) sc_l_gcds.nd rfl (Or.inl rfl))
        (pss_one (ps_set (i := 1) sc_l_gcds.nd rfl (Or.inl rfl) (pe_own G_l_gcd (hr.mono (by decide)) (by rfl) (pa_cons (pv 1) (pa_cons (pv 2) pa_nil))))))
      (pss_one (ps_ret (pv 1))))), ?_⟩
  refine ⟨_, rfl, p, rfl, ⟨_, hS⟩, for_list (fun i σ H' => ∃ y, σ = [some (.ref p), some (.int ((ns.take i).foldl gcdI 0)), y] ∧ H' = H) ⟨none, rfl, rfl⟩ (fun i σ H' _ ⟨_, _, e⟩ => e ▸ hS) ?_ ?_⟩
  · rintro i x σ H' hx ⟨y, rfl, rfl⟩
    obtain ⟨m, hm, rfl⟩ := at_ints hx
    refine ⟨_, rfl, _, rfl, _, _, rfl, some (.int m), ?_, rfl⟩
    rw [fold_take hm]
    rfl
  · rintro σ H' ⟨y, rfl, rfl⟩
    rw [List.length_map, List.take_length]
    exact ⟨_, rfl, q⟩
theorem ok_l_lcm (F : Fn K mg "_law_lcm" s_l_lcm ["_law_a", "_law_b"]) (B : Blt mg) (G_l_gcd : Has P w K mg base 1 "_law_gcd" ["_law_a", "_law_b"] spGcd) : Has P w K mg base 2 "_law_lcm" ["_law_a", "_law_b"] spLcm := by
  refine F.has sc_l_lcm (fun vs H Q E h => ?_) (fun f cdv A outer s H vs Q E hr h => ?_)
  · obtain ⟨a, b, rfl, _⟩ := h
    rfl
  obtain ⟨a, b, rfl, ha, hb, q⟩ := h
  refine ⟨_, (pss_one (ps_ret (pe_ifExp (PW.pt (pw_or (pt_cmpR op_eq (pv 0) pe_int (nomark _)) (pw_or1 (pt_cmpR op_eq (pv 1) pe_int (nomark _))))) pe_int (pe_callB call_abs (by rfl) B.abs bb_abs (pa_cons (pe_op op_mul (pe_op op_fdivW (pv 0) (pe_own G_l_gcd (hr.mono (by decide)) (by rfl) (pa_cons (pv 0) (pa_cons (pv 1) pa_nil)))) (pv 1)) pa_nil))))), ?_⟩
  refine ⟨_, rfl, rfl, _, rfl, ?_⟩
  by_cases h0 : a = 0
  · subst h0
    refine ite_of (decide_eq_true rfl) ?_
    rw [show lcmI 0 b = 0 by unfold lcmI; simp] at q
    exact q
  · refine ite_no (fun z => h0 (by have z' : V.int a = V.int 0 := of_decide_eq_true z; injection z')) ⟨_, rfl, rfl, _, rfl, ?_⟩
    by_cases hb0 : b = 0
    · subst hb0
      refine ite_of (decide_eq_true rfl) ?_
      rw [show lcmI a 0 = 0 by unfold lcmI; simp] at q
      exact q
    · refine ite_no (fun z => hb0 (by have z' : V.int b = V.int 0 := of_decide_eq_true z; injection z')) ?_
      have g0 : (0 : Int) < gcdI a b := gcdI_pos hb0
      have g1 : gcdI a b < 2 ^ 160 := by
        have : Nat.gcd a.natAbs b.natAbs ≤ b.natAbs := Nat.le_of_dvd (Int.natAbs_pos.mpr hb0) (Nat.gcd_dvd_right _ _)
        unfold gcdI
        omega
      refine ⟨_, rfl, _, rfl, _, rfl, _, _, rfl, _, _, rfl, rfl, divW g0 g1, _, rfl, _, _, rfl, rfl, .inr ⟨by omega, by omega⟩, _, rfl, ?_⟩
      rw [abs_cast, lcm_as hb0]
      exact q
theorem ok_l_share (F : Fn K mg "_law_share" s_l_share ["_law_p", "_law_q"]) (G_l_gcd : Has P w K mg base 1 "_law_gcd" ["_law_a", "_law_b"] spGcd) : Has P w K mg base 2 "_law_share" ["_law_p", "_law_q"] spLShare := by
  refine F.has sc_l_share (fun vs H Q E h => ?_) (fun f cdv A outer s H vs Q E hr h => ?_)
  · obtain ⟨a, b, rfl, _⟩ := h
    rfl
  obtain ⟨p, qq, rfl, h1, h2, q⟩ := h
  refine ⟨_, (pss_cons (ps_set (i := 2) sc_l_share.nd rfl (Or.inl rfl) (pe_own G_l_gcd (hr.mono (by decide)) (by rfl) (pa_cons (pv 0) (pa_cons (pv 1) pa_nil))))
      (pss_one (ps_ret (pe_tup (pa_cons (pe_op op_fdivW (pv 0) (pv 2)) (pa_cons (pe_op op_fdivW (pv 1) (pv 2)) pa_nil)))))), ?_⟩
  have g0 : (0 : Int) < gcdI p qq := gcdI_pos (by omega)
  have g1 : gcdI p qq ≤ qq := gcdI_le (by omega)
  refine ⟨_, rfl, _, rfl, _, _, rfl, _, rfl, _, rfl, _, _, rfl, rfl, divW g0 (Int.lt_of_le_of_lt g1 (by omega)), _, rfl, _, rfl, _, _, rfl, rfl, divW g0 (Int.lt_of_le_of_lt g1 (by omega)), (by show 2 ≤ sizeLine; decide), fun t ht => q t ht⟩
end
end My
namespace My
open PySem PySem.Spec PyProof.Rows L2
/-! ### share(p, q=1) -/
structure HasSh (P : Program) (w : World) (K : PySem.W.Frag) (mg : Str → Option Value) (base : Heap) (CE : Addr) : Prop where
  ex : ∃ (f : Addr) (fd : FuncData), FnOk P w K mg base (L2.CX P w) 2 f fd ["p", "q"] (spShare CE) ∧ mg "share" = some (.ref f) ∧ PySem.W.keepIn K (.ref f) = true ∧ Binds K fd ["p", "q"] [] ∧ (∃ ds, Vals [V.int 1] ds ∧ Binds K fd ["p", "q"] ds) ∧
    ∀ (s : Shared) (a b : Value), K.In s.heap → BindsTo s fd ⟨[], [("p", a), ("q", b)]⟩ [("p", a), ("q", b)]
section
variable {X : Cx} {CE : Addr} {p pos : Pos} {e1 e2 : Expr} {kws : List Keyword} {t : TA}
theorem pe_share2 {E : XK} (h : HasSh X.prog X.w X.K X.mg X.base CE) (hx : Passes (L2.CX X.prog X.w) X E) (hr : Room 2 X.A) (hg : Gl X "share") (ha : PA X [e1, e2] t)
    (he : starEach [e1, e2] X.env = (false, eval e1 X.env) :: starEach [e2] X.env := by rfl) (hpl : (backTo pos (starEach [e2] X.env)).any (·.1) = false := by rfl) : PE X (.Call (.Name "share" p) [e1, e2] [] pos) (tCall (spShare CE) [] E t) := by
  obtain ⟨f, fd, F, m, kp, b, _⟩ := h.ex
  exact pe_call F hr hg m kp b .nil hx ha (by decide) he hpl
theorem pe_share1 (h : HasSh X.prog X.w X.K X.mg X.base CE) (hr : Room 2 X.A) (hg : Gl X "share") (ha : PA X [e1] t)
    (he : starEach [e1] X.env = (false, eval e1 X.env) :: starEach [] X.env := by rfl) (hpl : (backTo pos (starEach [] X.env)).any (·.1) = false := by rfl) : PE X (.Call (.Name "share" p) [e1] [] pos) (tCall (spShare CE) [.int 1] E0 t) := by
  obtain ⟨f, fd, F, m, kp, _, ⟨ds, hd, b⟩, _⟩ := h.ex
  exact pe_call F hr hg m kp b hd passL ha (by decide) he hpl
theorem pe_shareK (h : HasSh X.prog X.w X.K X.mg X.base CE) (hr : Room 2 X.A) (hg : Gl X "share") (hkw : PK X kws t) (hall : (backToKw pos (keywordEach kws X.env)).all (·.1.isSome) = true := by rfl)
    (hks : (backToKw pos (keywordEach kws X.env)).filterMap (·.1) = [("p" : Str), ("q" : Str)] := by rfl) (hpl : ((backTo pos (starEach [] X.env)).any (·.1) || (backToKw pos (keywordEach kws X.env)).any (·.1.isNone)) = false := by rfl) :
    PE X (.Call (.Name "share" p) [] kws pos) (fun σ H Q => t σ H fun zs H1 => zs.length = 2 ∧ spShare CE zs H1 Q E0) := by
  obtain ⟨f, fd, F, m, kp, _, _, b⟩ := h.ex
  constructor
  intro pins s σ H Q I h
  apply wpAny_Call_Name_kw (ld_glob I hg m ?_ (by decide))
  apply PySem.W.callWith_KW0 (h₀ := X.base) I.ok.mod.kin kp hall _ hpl
  apply thn (hkw.run pos pins s σ H _ I h)
  rintro us s1 ⟨zs, H1, I1, rz, hl, q⟩
  refine ⟨I1.kIn, ?_⟩
  rw [hks]
  cases rz with
  | nil => cases hl
  | cons r1 rz =>
    cases rz with
    | nil => cases hl
    | cons r2 rz =>
      cases rz with
      | cons r3 rz => cases hl
      | nil =>
        apply wpAny_call
        apply codeAny_mono (F.run X.A X.stack s1 H1 ⟨[], [("p", _), ("q", _)]⟩ [_, _] [_, _] Q E0 hr I1.env0 (b s1 _ _ I1.kIn) (.cons r1 (.cons r2 .nil)) q)
        intro r s' hq
        cases r with
        | error e => exact passL pins σ H1 s1 e s' I1 hq
        | ok fl =>
          cases fl with
          | ret u => exact I1.after hq
          | next => exact False.elim hq
          | brk => exact False.elim hq
          | cont => exact False.elim hq
end
section
variable {P : Program} {w : World} {K : PySem.W.Frag} {mg : Str → Option Value} {base : Heap}
theorem ok_share {CE fI cc cd f : Addr} {fd : FuncData} (D : FunD K "share" "share" (defArgs s_share) (defBody s_share) (defScope s_share) [.int 1] [] f fd) (hm : mg "share" = some (.ref f)) (T : Txt mg)
    (E_InvalidNumber : ErrX.ErrTxt P K mg "InvalidNumber" "given" "InvalidNumber" CE fI cc cd) (G_is_int : Has P w K mg base 1 "is_int" ["value"] spIsInt) : HasSh P w K mg base CE := by
  refine ⟨f, fd, D.ok sc_share (fun vs H Q E h => ?_) (fun cdv A outer s H vs Q E hr h => ?_), hm, D.kp, ?_, ?_, ?_⟩
  · rcases h with ⟨n, v, rfl, _⟩ | ⟨x, t, y, rfl, _⟩
    · rfl
    · rfl
  · have TK : Takes (cxOf (L2.CX P w) P w K mg base N_share "share" (defScope s_share) f cdv A outer s H E) (fun cls d _ H => E cls d H) := takes_of rfl rfl rfl rfl
    refine ⟨_, (pss_cons (ps_if (PW.pt (pw_or (pt_not (pt_val (pe_own G_is_int (hr.mono (by decide)) (by rfl) (pa_cons (pv 1) pa_nil)))) (pw_or1 (pt_cmpR op_lt (pv 1) pe_int (nomark _)))))
        (pss_one (ps_raise rfl TK (pmk_err E_InvalidNumber hr (pa_cons (pv 1) pa_nil) (by rfl))))
        pss_nil)
      (pss_cons (ps_set (i := 2) sc_share.nd rfl (Or.inl rfl) (pe_callBfun cr_gcd (by rfl) T.m_gcd (pa_cons (pv 0) (pa_cons (pv 1) pa_nil))))
      (pss_one (ps_ret (pe_tup (pa_cons (pe_op op_fdivW (pv 0) (pv 2)) (pa_cons (pe_op op_fdivW (pv 1) (pv 2)) pa_nil))))))), ?_⟩
    rcases h with ⟨pp, qq, rfl, h1, h2, q⟩ | ⟨pp, x, ty, rfl, ht, hn, q⟩
    · refine ⟨_, rfl, _, "int", rfl, .int _, ?_⟩
      have g0 : (0 : Int) < gcdI pp qq := gcdI_pos (by omega)
      have g1 : gcdI pp qq ≤ qq := gcdI_le (by omega)
      refine ⟨_, rfl, iteF ⟨_, rfl, _, _, rfl, rfl, _, rfl, ite_no (by simp; omega) ?_⟩⟩
      refine ⟨_, rfl, _, rfl, _, _, rfl, _, rfl, _, rfl, _, _, rfl, rfl, divW g0 (Int.lt_of_le_of_lt g1 (by omega)), _, rfl, _, rfl, _, _, rfl, rfl, divW g0 (Int.lt_of_le_of_lt g1 (by omega)), (by show 2 ≤ sizeLine; decide), fun t ht => q t ht⟩
    · refine ⟨_, rfl, x, ty, rfl, ht, ?_⟩
      cases hx : isIntV x with
      | false => exact ⟨_, rfl, iteT ⟨_, rfl, x, rfl, q⟩⟩
      | true =>
        cases x with
        | int i =>
          have := hn i rfl
          exact ⟨_, rfl, iteF ⟨_, rfl, _, _, rfl, rfl, _, rfl, ite_of (decide_eq_true this) ⟨_, rfl, _, rfl, q⟩⟩⟩
        | _ => cases hx
  · obtain ⟨ds, hd, b⟩ := FunD.binds1 D (ps := ["p", "q"]) 2 1 (by simp) rfl (fun _ _ _ _ _ _ _ us its h1 h2 => match us, its, h1, h2 with | [_, _], [_], _, _ => ⟨_, rfl, rfl⟩)
    cases hd
    exact b
  · exact FunD.binds1 D (ps := ["p", "q"]) 1 0 (by simp) rfl (fun _ _ _ _ _ _ _ us its h1 h2 => match us, its, h1, h2 with | [_], [_], _, _ => ⟨_, rfl, rfl⟩)
  · intro s a b X
    obtain ⟨oc, od, dV, kV, doc, pm, an, cdv, ct, osl, rfl, lk, hcd, hD, hK⟩ := D.ex
    rcases hD with ⟨e, _⟩ | ⟨_, T, o, its, m, rfl, lT, oT, rT⟩
    · cases e
    · cases rT with
      | cons r1 r2 =>
        cases r2
        refine BindsTo.of_looks fun M => ?_
        obtain ⟨k, e1, e2⟩ : ∃ k, bindArgs (PySem.W.fnOf "share" "share" (defArgs s_share) (defBody s_share) (defScope s_share) (.ref T) kV doc pm an cdv ct) ⟨[], [(("p" : Str), a), (("q" : Str), b)]⟩ = seqItems? (.ref T) >>= k ∧ k (some [_].toArray) = pure [(("p" : Str), a), (("q" : Str), b)] := ⟨_, rfl, rfl⟩
        rw [e1]
        exact looks_items X lT oT (.of_pure e2)
end
end My
namespace My
open PySem PySem.Spec PyProof.Rows L2
/-! ### the law -/
theorem tabs_kp {H H' : Hp} {b P : Addr} {q : Str} {xs : List V} (h : LamX.TabS H P q) (hb : H b = some (.lst xs)) (k : Kp b H H') : LamX.TabS H' P q := by
  obtain ⟨ps, e, t, a⟩ := h
  refine ⟨ps, k _ _ (ne_of e hb fun z => by cases z) e, t, fun pos cv hc => ?_⟩
  obtain ⟨c, ec, hco⟩ := a pos cv hc
  exact ⟨c, ec, k _ _ (ne_of hco hb fun z => by unfold LamX.CodeO at z; cases z) hco⟩
def spLaw (K : PySem.W.Frag) (P : Addr) : Sp := fun vs H Q _ => ∃ (a : Addr) (ns : List Int), vs = [.ref a] ∧ SqL K H a (ns.map V.int) ∧ ns.length ≤ 63 ∧ H P = some (.tbl #[]) ∧ ∀ H', Q (.bl true) H'
section
variable {X : Cx}
/-- _law_got(lambda: body) -/
theorem pe_got {c P : Addr} {k : Nat} {cs : List Value} {params : Arguments} {body : Expr} {scope : Scope} {t : XK → TE} {p lpos pos : Pos} (F : Fn X.K X.mg "_law_got" s_l_got ["_law_ask"])
    (GV : ∀ (g : Addr) (cdv : Value), LamX.GivesTo X N_l_got "_law_got" (defScope s_l_got) g cdv (defBody s_l_got) "_law_ask" (X.env.qual ++ "<lambda>") (TGot X.K cs))
    (TB : LamX.TabB X.base X.mg c P) (hcode : X.env.code = .ref c) (hr : Room (k + 2) X.A) (hg : Gl X "_law_got") (L : LamX.LamS X.env.scope scope) (hdef : defaultsOf params X.env = ([], []))
    (hbind : ∀ (q : Str) (cl : List (Str × Addr)) (pm cv ctv : Value), bindArgs (PySem.W.kla_fn "<lambda>" q params body scope cl pm cv ctv) ⟨[], []⟩ = pure [])
    (hbody : ∀ (A : Around) (outer : List Env) (s : Shared) (H : Hp) (E : XK) (f c' : Addr), Room k (A.deeper (LamX.lamEnv X scope s.heap.objs.size f c')) → PE (LamX.lamCx X A outer s H E scope f c') body (t E)) :
    PE X (.Call (.Name "_law_got" p) [.Lambda params body scope lpos] [] pos) (LamX.tLam [(P, X.env.qual ++ "<lambda>")] (TGot X.K cs) t) := by
  obtain ⟨g, fd, F, m, b⟩ := F.ex
  have kp := F.kp
  obtain ⟨oc, od, kV, doc, pm, an, cdv, ct, osl, rfl, lk, hcd⟩ := F.ex
  exact LamX.pe_lamcall hg m kp lk hcd b sc_l_got rfl (Or.inl rfl) (GV g cdv) TB hcode List.mem_cons_self (fun p hp _ => by rw [List.mem_singleton.mp hp]) hr L hdef hbind hbody
end
theorem gcd_0 {a : Int} : gcdI 0 a = if a < 0 then -a else a := by
  rw [abs_cast]
  unfold gcdI
  simp
theorem gcd_gcd0 {a b : Int} : gcdI (gcdI 0 a) b = gcdI a b := by
  unfold gcdI
  simp
theorem lcm_1 {a : Int} : lcmI 1 a = if a < 0 then -a else a := by
  rw [abs_cast]
  unfold lcmI
  simp [Nat.lcm]
theorem lcm_lcm1 {a b : Int} : lcmI (lcmI 1 a) b = lcmI a b := by
  unfold lcmI
  simp [Nat.lcm]
section
variable {P : Program} {w : World} {K : PySem.W.Frag} {mg : Str → Option Value} {base : Heap}
theorem ok_law {f c Pt CE : Addr} {C1 C2 C3 oc kV doc pm ct : Value} {an od : Option Addr} {osl : Array (Option Value)}
    (lk : K.lookup f = some ⟨oc, od, .func (PySem.W.fnOf "law" "law" (defArgs s_law) (defBody s_law) (defScope s_law) .none kV doc pm an (.ref c) ct), osl⟩) (hcd : PySem.W.codeIn K (.ref c) "law" = true)
    (TB : LamX.TabB base mg c Pt) (m1 : mg "RingError" = some C1) (m2 : mg "Missing" = some C2) (m3 : mg "NothingLeft" = some C3) (hm : PySem.W.exmAny K (.ref CE) [C1, C2, C3] = some true)
    (xf : XfC K CE) (noC : PySem.W.findIn K (.ref CE) "code" = some none) (noG : PySem.W.findIn K (.ref CE) "given" = some none)
    (B : Blt mg) (T : Txt mg) (G_l_bag : Has P w K mg base 1 "_law_bag" ["_law_script"] (spBag K)) (G_l_draw : Has P w K mg base 1 "_law_draw" ["_law_bag_here", "_law_many"] spDraw) (G_l_pick : Has P w K mg base 2 "_law_pick" ["_law_bag_here", "_law_some"] (spPick K))
    (G_l_same : Has P w K mg base 4 "_law_same" ["_law_found", "_law_due"] (spSame 4)) (G_l_field : HasP P w K mg base 1 "_law_field" ["_law_e"] (spField K)) (F_got : Fn K mg "_law_got" s_l_got ["_law_ask"])
    (G_l_gcd : Has P w K mg base 1 "_law_gcd" ["_law_a", "_law_b"] spGcd) (G_l_gcds : Has P w K mg base 2 "_law_gcds" ["_law_numbers"] (spGcds K)) (G_l_lcm : Has P w K mg base 2 "_law_lcm" ["_law_a", "_law_b"] spLcm)
    (G_l_divides : Has P w K mg base 1 "_law_divides" ["_law_a", "_law_b"] spDiv) (G_l_share : Has P w K mg base 2 "_law_share" ["_law_p", "_law_q"] spLShare)
    (G_common : HasR P w K mg base 1 "common" (spFold gcdI 0)) (G_multiple : HasR P w K mg base 1 "multiple" (spFold lcmI 1)) (G_divides : Has P w K mg base 1 "divides" ["one", "other"] spDiv) (G_share : HasSh P w K mg base CE) :
    FnOk P w K mg base CX0 6 f (PySem.W.fnOf "law" "law" (defArgs s_law) (defBody s_law) (defScope s_law) .none kV doc pm an (.ref c) ct) ["_law_script"] (spLaw K Pt) := by
  refine fn_of lk hcd sc_law (fun vs H Q E h => ?_) (fun A outer s H vs Q E hr h => ?_)
  · obtain ⟨a, t, rfl, _⟩ := h
    rfl
  obtain ⟨a, ns, rfl, hS, hl, hP, q⟩ := h
  have hcode : (cxOf CX0 P w K mg base N_law "law" (defScope s_law) f (.ref c) A outer s H E).nox.env.code = .ref c := rfl
  have GV : ∀ (q : Str) (g : Addr) (cdv : Value), LamX.GivesTo (cxOf CX0 P w K mg base N_law "law" (defScope s_law) f (.ref c) A outer s H E).nox N_l_got "_law_got" (defScope s_l_got) g cdv (defBody s_l_got) "_law_ask" q (TGot K [C1, C2, C3]) :=
    fun q g cdv => got_gives (k := 3) hr G_l_field m1 m2 m3
  have main : ∃ t, PSs (cxOf CX0 P w K mg base N_law "law" (defScope s_law) f (.ref c) A outer s H E).nox (defBody s_law) t ∧ t { nx := fun _ H' => Q .non H', rt := Q } (L2.start N_law [.ref a]) H := by
    refine ⟨_, (pss_cons (ps_set (i := 1) sc_law.nd rfl (Or.inr rfl) (pe_own G_l_bag (hr.mono (by decide)) (by rfl) (pa_cons (pv 0) pa_nil)))
      (pss_cons (ps_for PassesOwn.never rfl (pi_range1 (by rfl) B.range (pa_cons pe_int pa_nil)) (pg_name (i := 2) sc_law.nd rfl (Or.inl rfl))
        (pss_cons (ps_set (i := 3) sc_law.nd rfl (Or.inr rfl) (pe_own G_l_pick (hr.mono (by decide)) (by rfl) (pa_cons (pv 1) (pa_cons (pe_lst (pa_cons pe_int (pa_cons pe_int (pa_cons pe_int (pa_cons (pe_op op_pow pe_int pe_int) (pa_cons (pe_op op_pow pe_int pe_int) pa_nil)))))) pa_nil))))
      (pss_cons (ps_asg (pe_lc (own := [("_law_k", 7)]) (g := gName 7) (tt := tYes) (by rfl) sc_law.nd (pi_range1 (by rfl) B.range (pa_cons pe_int pa_nil)) (blkOk_by (own := [("_law_k", 7)]) (N := N_law) (sc := defScope s_law) (by decide +kernel)) (fun _ _ _ _ _ => (pg_name (i := 7) sc_law.nd rfl (Or.inl rfl))) (fun _ _ _ _ _ => pts_nil) (fun _ _ _ _ _ => (pe_op op_mul (pe_own G_l_pick (hr.mono (by decide)) (by rfl) (pa_cons (pv 1) (pa_cons (pe_lst (pa_cons pe_int (pa_cons pe_int (pa_cons (pe_un un_neg pe_int) (pa_cons pe_int (pa_cons pe_int (pa_cons (pe_un un_neg pe_int) pa_nil))))))) pa_nil))) (pe_own G_l_draw (hr.mono (by decide)) (by rfl) (pa_cons (pv 1) (pa_cons (pv 3) pa_nil)))))) (pg_lst rfl (pgs_cons (pg_name (i := 4) sc_law.nd rfl (Or.inr rfl)) (pgs_cons (pg_name (i := 5) sc_law.nd rfl (Or.inl rfl)) (pgs_cons (pg_name (i := 6) sc_law.nd rfl (Or.inl rfl)) pgs_nil)))))
      (pss_cons (ps_set (i := 8) sc_law.nd rfl (Or.inl rfl) (pe_lst (pa_cons (pe_ownR0 G_common (hr.mono (by decide)) (by rfl)) (pa_cons (pe_ownR G_common (hr.mono (by decide)) (by rfl) (pa_cons (pv 4) pa_nil)) (pa_cons (pe_ownR G_common (hr.mono (by decide)) (by rfl) (pa_cons (pv 4) (pa_cons (pv 5) pa_nil))) (pa_cons (pe_ownR G_common (hr.mono (by decide)) (by rfl) (pa_cons (pv 4) (pa_cons (pv 5) (pa_cons (pv 6) pa_nil)))) (pa_cons (pe_ownR0 G_multiple (hr.mono (by decide)) (by rfl)) (pa_cons (pe_ownR G_multiple (hr.mono (by decide)) (by rfl) (pa_cons (pv 4) pa_nil)) (pa_cons (pe_ownR G_multiple (hr.mono (by decide)) (by rfl) (pa_cons (pv 4) (pa_cons (pv 5) pa_nil))) (pa_cons (pe_ownR G_multiple (hr.mono (by decide)) (by rfl) (pa_cons (pv 4) (pa_cons (pv 5) (pa_cons (pv 6) pa_nil)))) pa_nil))))))))))
      (pss_cons (ps_set (i := 9) sc_law.nd rfl (Or.inl rfl) (pe_lst (pa_cons pe_int (pa_cons (pe_callB call_abs (by rfl) B.abs bb_abs (pa_cons (pv 4) pa_nil)) (pa_cons (pe_own G_l_gcd (hr.mono (by decide)) (by rfl) (pa_cons (pv 4) (pa_cons (pv 5) pa_nil))) (pa_cons (pe_own G_l_gcds (hr.mono (by decide)) (by rfl) (pa_cons (pe_lst (pa_cons (pv 4) (pa_cons (pv 5) (pa_cons (pv 6) pa_nil)))) pa_nil)) (pa_cons pe_int (pa_cons (pe_callB call_abs (by rfl) B.abs bb_abs (pa_cons (pv 4) pa_nil)) (pa_cons (pe_own G_l_lcm (hr.mono (by decide)) (by rfl) (pa_cons (pv 4) (pa_cons (pv 5) pa_nil))) (pa_cons (pe_own G_l_lcm (hr.mono (by decide)) (by rfl) (pa_cons (pe_own G_l_lcm (hr.mono (by decide)) (by rfl) (pa_cons (pv 4) (pa_cons (pv 5) pa_nil))) (pa_cons (pv 6) pa_nil))) pa_nil))))))))))
      (pss_cons (ps_if (pt_not (pt_val (pe_own G_l_same (hr.mono (by decide)) (by rfl) (pa_cons (pv 8) (pa_cons (pv 9) pa_nil)))))
        (pss_one (ps_ret pe_bl))
        pss_nil)
      (pss_cons (ps_if (pt_not (pt_val (pe_own G_l_same (hr.mono (by decide)) (by rfl) (pa_cons (pe_lst (pa_cons (pe_own G_divides (hr.mono (by decide)) (by rfl) (pa_cons (pv 4) (pa_cons (pv 5) pa_nil))) (pa_cons (pe_own G_divides (hr.mono (by decide)) (by rfl) (pa_cons (pv 4) (pa_cons (pe_op op_mul (pv 4) (pv 5)) pa_nil))) (pa_cons (pe_own G_divides (hr.mono (by decide)) (by rfl) (pa_cons pe_int (pa_cons (pv 4) pa_nil))) (pa_cons (pe_own G_divides (hr.mono (by decide)) (by rfl) (pa_cons (pv 4) (pa_cons pe_int pa_nil))) (pa_cons (pe_own G_divides (hr.mono (by decide)) (by rfl) (pa_cons pe_int (pa_cons (pv 4) pa_nil))) pa_nil)))))) (pa_cons (pe_lst (pa_cons (pe_own G_l_divides (hr.mono (by decide)) (by rfl) (pa_cons (pv 4) (pa_cons (pv 5) pa_nil))) (pa_cons pe_bl (pa_cons (pe_cmpR op_eq (pv 4) pe_int (nomark _)) (pa_cons pe_bl (pa_cons pe_bl pa_nil)))))) pa_nil)))))
        (pss_one (ps_ret pe_bl))
        pss_nil)
      (pss_cons (ps_set (i := 10) sc_law.nd rfl (Or.inl rfl) (pe_op op_add pe_int (pe_own G_l_draw (hr.mono (by decide)) (by rfl) (pa_cons (pv 1) (pa_cons (pv 3) pa_nil)))))
      (pss_cons (ps_if (pt_not (pt_val (pe_own G_l_same (hr.mono (by decide)) (by rfl) (pa_cons (pe_lst (pa_cons (pe_share2 G_share passL (hr.mono (by decide)) (by rfl) (pa_cons (pv 4) (pa_cons (pv 10) pa_nil))) (pa_cons (pe_share1 G_share (hr.mono (by decide)) (by rfl) (pa_cons (pv 4) pa_nil)) (pa_cons (pe_share2 G_share passL (hr.mono (by decide)) (by rfl) (pa_cons (pe_op op_mul (pv 10) (pv 4)) (pa_cons (pv 10) pa_nil))) (pa_cons (pe_shareK G_share (hr.mono (by decide)) (by rfl) (pk_cons (pv 4) (pk_cons (pv 10) pk_nil))) pa_nil))))) (pa_cons (pe_lst (pa_cons (pe_own G_l_share (hr.mono (by decide)) (by rfl) (pa_cons (pv 4) (pa_cons (pv 10) pa_nil))) (pa_cons (pe_tup (pa_cons (pv 4) (pa_cons pe_int pa_nil))) (pa_cons (pe_tup (pa_cons (pv 4) (pa_cons pe_int pa_nil))) (pa_cons (pe_own G_l_share (hr.mono (by decide)) (by rfl) (pa_cons (pv 4) (pa_cons (pv 10) pa_nil))) pa_nil))))) pa_nil)))))
        (pss_one (ps_ret pe_bl))
        pss_nil)
      (pss_cons (ps_set (i := 11) sc_law.nd rfl (Or.inr rfl) (pe_own G_l_pick (hr.mono (by decide)) (by rfl) (pa_cons (pv 1) (pa_cons (pe_lst (pa_cons pe_int (pa_cons (pe_un un_neg pe_int) (pa_cons (pe_un un_neg (pv 10)) (pa_cons pe_bl (pa_cons pe_non (pa_cons pe_str (pa_cons (pe_tup (pa_cons pe_int pa_nil)) pa_nil)))))))) pa_nil))))
      (pss_one (ps_if (pt_not (pt_val (pe_own G_l_same (hr.mono (by decide)) (by rfl) (pa_cons (pe_got F_got (GV _) TB hcode hr (by rfl) (LamX.lamS_by (by rfl)) (by rfl) (fun _ _ _ _ _ => rfl) (fun A outer s H E f c' hr' => pe_share2 G_share (passes_call (takes_of rfl rfl rfl rfl) fun _ _ _ _ h => h) (hr'.mono (by decide)) (by rfl) (pa_cons (pv 4) (pa_cons (pv 11) pa_nil)))) (pa_cons (pe_tup (pa_cons pe_str (pa_cons (pv 11) pa_nil))) pa_nil)))))
        (pss_one (ps_ret pe_bl))
        pss_nil))))))))))))
      (pss_one (ps_ret pe_bl)))), ?_⟩
    refine ⟨_, rfl, a, ns, rfl, hS, hl, fun b cc H0 s0 nb B0 => ?_⟩
    obtain ⟨lq, hlq⟩ : ∃ lq : Str, lq = (cxOf CX0 P w K mg base N_law "law" (defScope s_law) f (.ref c) A outer s H E).nox.env.qual ++ "<lambda>" := ⟨_, rfl⟩
    have T0 : LamX.TabS H0 Pt lq := (LamX.TabS.nil hP).ext s0
    refine ⟨8, rfl, by decide, by decide, for_range (n := 8) (fun i σ H' => ∃ y2 y3 y4 y5 y6 y7 y8 y9 y10 y11, σ = [some (.ref a), some (.ref b), y2, y3, y4, y5, y6, y7, y8, y9, y10, y11] ∧ Bg H' b cc ∧ LamX.TabS H' Pt lq)
      ⟨none, none, none, none, none, none, none, none, none, none, rfl, B0, T0⟩ ?_ (fun σ H' _ => q _)⟩
    rintro i σ H0 hi ⟨y2, y3, y4, y5, y6, y7, y8, y9, y10, y11, rfl, B0, T0⟩
    have keepT : ∀ {H1 H2 : Hp}, Bg H1 b cc → LamX.TabS H1 Pt lq → Kp b H1 H2 → LamX.TabS H2 Pt lq := fun hB hT k => by
      obtain ⟨r, e⟩ := hB.sel
      exact tabs_kp hT e k
    -- size
    refine ⟨_, rfl, _, _, rfl, rfl, ⟨by decide, by decide, by decide⟩, _, _, rfl, rfl, ⟨by decide, by decide, by decide⟩, (by show 5 ≤ sizeLine; decide), fun l0 n0 => ?_⟩
    refine ⟨b, cc, .ref l0, rfl, B0.same (same_upd n0), .inl ⟨l0, _, rfl, B0.ne_new n0, upd_same, by simp, (by show 5 ≤ 1000; decide), fun sz H1 hsz k1 B1 => ?_⟩⟩
    have T1 := keepT (B0.same (same_upd n0)) (T0.ext (same_upd n0)) k1
    obtain ⟨m, rfl, m1', m2'⟩ : ∃ m : Int, sz = .int m ∧ 1 ≤ m ∧ m ≤ 100000000000000 := by
      simp only [List.mem_cons, List.not_mem_nil, or_false] at hsz
      rcases hsz with rfl | rfl | rfl | rfl | rfl
      · exact ⟨3, rfl, by decide, by decide⟩
      · exact ⟨12, rfl, by decide, by decide⟩
      · exact ⟨60, rfl, by decide, by decide⟩
      · exact ⟨1000000000, rfl, by decide, by decide⟩
      · exact ⟨100000000000000, rfl, by decide, by decide⟩
    -- a, b and c
    refine ⟨3, rfl, by decide, by decide, fun D hD => lc_it walk_range (fun i H' => ∃ zs : List Int, zs.length = i ∧ (∀ z ∈ zs, z.natAbs < 2 ^ 50) ∧ Kp b H1 H' ∧ Bg H' b cc ∧ H' D = some (.lst (zs.map V.int)))
      ⟨[], rfl, by simp, Kp.of (same_upd hD), B1.same (same_upd hD), upd_same⟩ (fun _ _ _ _ => True.intro) ?_ ?_⟩
    · rintro j v Ha Hb hj ⟨zs, rfl, hz, ka, Ba, ea⟩ ⟨rfl, rfl⟩
      refine ⟨rfl, tYes_ok ?_⟩
      refine ⟨_, rfl, _, rfl, _, rfl, (by show 6 ≤ sizeLine; decide), fun l2 n2 => ?_⟩
      refine ⟨b, cc, .ref l2, rfl, Ba.same (same_upd n2), .inl ⟨l2, _, rfl, Ba.ne_new n2, upd_same, by simp, (by show 6 ≤ 1000; decide), fun sg Hc hsg kc Bc => ?_⟩⟩
      obtain ⟨g, rfl, hg⟩ : ∃ g : Int, sg = .int g ∧ g.natAbs ≤ 6 := by
        simp only [List.mem_cons, List.not_mem_nil, or_false] at hsg
        rcases hsg with rfl | rfl | rfl | rfl | rfl | rfl
        · exact ⟨0, rfl, by decide⟩
        · exact ⟨1, rfl, by decide⟩
        · exact ⟨-1, rfl, by decide⟩
        · exact ⟨1, rfl, by decide⟩
        · exact ⟨2, rfl, by decide⟩
        · exact ⟨-6, rfl, by decide⟩
      refine ⟨_, rfl, _, rfl, b, cc, m, rfl, Bc, m1', by omega, fun v Hd v0 v9 kd Bd => ⟨_, _, rfl, rfl, .inl ⟨by omega, by omega⟩, ?_⟩⟩
      have hDb : D ≠ b := B1.ne_new hD
      have ed := kd _ _ hDb (kc _ _ hDb ((same_upd n2) _ _ ea))
      have kk : Kp b H1 Hd := ka.trans ((Kp.of (same_upd n2)).trans (kc.trans kd))
      refine ⟨_, ed, by rw [List.length_map]; exact small1000 (by omega), zs ++ [g * v], by rw [List.length_append]; rfl, ?_, ?_, Bd.kp hDb (B1.ne_new2 hD) Kp.upd, ?_⟩
      · intro z hz'
        rcases List.mem_append.mp hz' with h | h
        · exact hz z h
        · rw [List.mem_singleton.mp h, Int.natAbs_mul]
          have : g.natAbs * v.natAbs ≤ 6 * 100000000000000 := Nat.mul_le_mul hg (by omega)
          omega
      · intro x o hx ho
        rw [upd_ne (ne_of_none ho hD)]
        exact kk _ _ hx ho
      · rw [upd_same, List.map_append]
        rfl
    rintro H2 ⟨zs, hzl, hz, k2, B2, e2⟩
    have T2 := keepT B1 T1 k2
    obtain ⟨va, vb, vc, rfl⟩ : ∃ va vb vc : Int, zs = [va, vb, vc] := by
      have hl3 : zs.length = 3 := hzl
      match zs, hl3 with
      | [x, y, z], _ => exact ⟨x, y, z, rfl⟩
    have ha : va.natAbs < 2 ^ 50 := hz va (by simp)
    have hb : vb.natAbs < 2 ^ 50 := hz vb (by simp)
    have hc : vc.natAbs < 2 ^ 50 := hz vc (by simp)
    refine ⟨D, _, rfl, SqL.of e2, rfl, _, _, rfl, _, _, rfl, _, _, rfl, rfl, ?_⟩
    -- told
    have bd1 : ∀ n ∈ [va], n.natAbs < 2 ^ 60 := fun n hn => by
      simp only [List.mem_cons, List.not_mem_nil, or_false] at hn
      rcases hn with rfl <;> omega
    have bd2 : ∀ n ∈ [va, vb], n.natAbs < 2 ^ 60 := fun n hn => by
      simp only [List.mem_cons, List.not_mem_nil, or_false] at hn
      rcases hn with rfl | rfl <;> omega
    have bd3 : ∀ n ∈ [va, vb, vc], n.natAbs < 2 ^ 60 := fun n hn => by
      simp only [List.mem_cons, List.not_mem_nil, or_false] at hn
      rcases hn with rfl | rfl | rfl <;> omega
    refine ⟨[], rfl, by decide, (fun n hn => absurd hn (by simp)), fun A1 a1 => ?_⟩
    refine ⟨_, rfl, [va], rfl, Nat.le_of_ble_eq_true rfl, bd1, fun A2 a2 => ?_⟩
    refine ⟨_, rfl, _, rfl, [va, vb], rfl, Nat.le_of_ble_eq_true rfl, bd2, fun A3 a3 => ?_⟩
    refine ⟨_, rfl, _, rfl, _, rfl, [va, vb, vc], rfl, Nat.le_of_ble_eq_true rfl, bd3, fun A4 a4 => ?_⟩
    refine ⟨[], rfl, by decide, (fun n hn => absurd hn (by simp)), fun A5 a5 => ?_⟩
    refine ⟨_, rfl, [va], rfl, Nat.le_of_ble_eq_true rfl, bd1, fun A6 a6 => ?_⟩
    refine ⟨_, rfl, _, rfl, [va, vb], rfl, Nat.le_of_ble_eq_true rfl, bd2, fun A7 a7 => ?_⟩
    refine ⟨_, rfl, _, rfl, _, rfl, [va, vb, vc], rfl, Nat.le_of_ble_eq_true rfl, bd3, fun A8 a8 => ?_⟩
    refine ⟨(by show 8 ≤ sizeLine; decide), fun l1 n1 => ?_⟩
    have u1 := same_upd (o := .lst [.int ([].foldl gcdI 0), .int ([va].foldl gcdI 0), .int ([va, vb].foldl gcdI 0), .int ([va, vb, vc].foldl gcdI 0), .int ([].foldl lcmI 1), .int ([va].foldl lcmI 1), .int ([va, vb].foldl lcmI 1), .int ([va, vb, vc].foldl lcmI 1)]) n1
    have S2 : Same H2 (upd A8 l1 (.lst [.int ([].foldl gcdI 0), .int ([va].foldl gcdI 0), .int ([va, vb].foldl gcdI 0), .int ([va, vb, vc].foldl gcdI 0), .int ([].foldl lcmI 1), .int ([va].foldl lcmI 1), .int ([va, vb].foldl lcmI 1), .int ([va, vb, vc].foldl lcmI 1)])) :=
      a1.trans (a2.trans (a3.trans (a4.trans (a5.trans (a6.trans (a7.trans (a8.trans u1)))))))
    have B3 := B2.same S2
    have T3 := T2.ext S2
    obtain ⟨H3, hH3⟩ : ∃ H3, H3 = upd A8 l1 (.lst [.int ([].foldl gcdI 0), .int ([va].foldl gcdI 0), .int ([va, vb].foldl gcdI 0), .int ([va, vb, vc].foldl gcdI 0), .int ([].foldl lcmI 1), .int ([va].foldl lcmI 1), .int ([va, vb].foldl lcmI 1), .int ([va, vb, vc].foldl lcmI 1)]) := ⟨_, rfl⟩
    have el1 : H3 l1 = some (.lst [.int ([].foldl gcdI 0), .int ([va].foldl gcdI 0), .int ([va, vb].foldl gcdI 0), .int ([va, vb, vc].foldl gcdI 0), .int ([].foldl lcmI 1), .int ([va].foldl lcmI 1), .int ([va, vb].foldl lcmI 1), .int ([va, vb, vc].foldl lcmI 1)]) := by
      rw [hH3]
      exact upd_same
    rw [← hH3] at B3 T3
    clear S2 u1
    -- due
    refine ⟨_, rfl, va, rfl, _, rfl, _, rfl, va, vb, rfl, _, rfl, _, rfl, _, rfl, (by show 3 ≤ sizeLine; decide), fun l2 n2 => ?_⟩
    rw [← hH3] at n2 ⊢
    refine ⟨l2, [va, vb, vc], rfl, SqL.of upd_same, _, rfl, va, rfl, ?_⟩
    refine ⟨_, rfl, _, rfl, va, vb, rfl, by omega, by omega, ?_⟩
    have hl2 : (lcmI va vb).natAbs < 2 ^ 150 := by
      unfold lcmI
      rw [Int.natAbs_natCast]
      refine Nat.lt_of_le_of_lt (lcm_le _ _) ?_
      have := Nat.mul_le_mul (Nat.le_of_lt ha) (Nat.le_of_lt hb)
      omega
    refine ⟨_, rfl, _, rfl, va, vb, rfl, by omega, by omega, _, rfl, lcmI va vb, vc, rfl, hl2, by omega, ?_⟩
    refine ⟨(by show 8 ≤ sizeLine; decide), fun l3 n3 => ?_⟩
    have due : ([.int 0, .int (if va < 0 then -va else va), .int ((Nat.gcd va.natAbs vb.natAbs : Nat) : Int), .int ([va, vb, vc].foldl gcdI 0), .int 1, .int (if va < 0 then -va else va), .int (lcmI va vb), .int (lcmI (lcmI va vb) vc)] : List V) =
        [.int ([].foldl gcdI 0), .int ([va].foldl gcdI 0), .int ([va, vb].foldl gcdI 0), .int ([va, vb, vc].foldl gcdI 0), .int ([].foldl lcmI 1), .int ([va].foldl lcmI 1), .int ([va, vb].foldl lcmI 1), .int ([va, vb, vc].foldl lcmI 1)] := by
      simp only [List.foldl_cons, List.foldl_nil]
      rw [lcm_lcm1, gcd_gcd0, gcd_0, lcm_1]
      rfl
    have x2 := same_upd (o := .lst [.int va, .int vb, .int vc]) n2
    have x3 := same_upd (o := .lst [.int 0, .int (if va < 0 then -va else va), .int ((Nat.gcd va.natAbs vb.natAbs : Nat) : Int), .int ([va, vb, vc].foldl gcdI 0), .int 1, .int (if va < 0 then -va else va), .int (lcmI va vb), .int (lcmI (lcmI va vb) vc)]) n3
    refine ⟨_, rfl, _, rfl, .ref l1, .ref l3, rfl, Eqd.lst (x3 _ _ (x2 _ _ el1)) (upd_same.trans (congrArg (fun z => some (HO.lst z)) due)) (by show 8 ≤ 1000; decide) (paired_refl fun x hx => ?_), fun H4 s4 => ⟨_, rfl, iteF ?_⟩⟩
    · simp only [List.mem_cons, List.not_mem_nil, or_false] at hx
      rcases hx with rfl | rfl | rfl | rfl | rfl | rfl | rfl | rfl <;> exact Eqd.leaf True.intro
    have S4 : Same H3 H4 := x2.trans (x3.trans s4)
    have B4 := B3.same S4
    have T4 := T3.ext S4
    clear S4 s4 x3 x2 due el1 hH3
    -- divides
    refine ⟨_, rfl, _, rfl, va, vb, rfl, ?_⟩
    refine ⟨_, rfl, _, rfl, _, rfl, _, _, rfl, rfl, .inl ⟨by omega, by omega⟩, va, va * vb, rfl, ?_⟩
    refine ⟨_, rfl, 0, va, rfl, ?_⟩
    refine ⟨_, rfl, va, 0, rfl, ?_⟩
    refine ⟨_, rfl, 1, va, rfl, ?_⟩
    refine ⟨(by show 5 ≤ sizeLine; decide), fun l4 n4 => ?_⟩
    refine ⟨_, rfl, _, rfl, va, vb, rfl, ?_⟩
    refine ⟨_, rfl, rfl, ?_⟩
    refine ⟨(by show 5 ≤ sizeLine; decide), fun l5 n5 => ?_⟩
    have dv : ([.bl (if va = 0 then decide (V.int vb = V.int 0) else decide (V.int (vb.fmod va) = V.int 0)), .bl true, .bl (decide (V.int va = V.int 0)), .bl true, .bl true] : List V) =
        [.bl (if va = 0 then decide (V.int vb = V.int 0) else decide (V.int (vb.fmod va) = V.int 0)), .bl (if va = 0 then decide (V.int (va * vb) = V.int 0) else decide (V.int ((va * vb).fmod va) = V.int 0)),
          .bl (if (0 : Int) = 0 then decide (V.int va = V.int 0) else decide (V.int (va.fmod 0) = V.int 0)), .bl (if va = 0 then decide (V.int 0 = V.int 0) else decide (V.int ((0 : Int).fmod va) = V.int 0)), .bl (if (1 : Int) = 0 then decide (V.int va = V.int 0) else decide (V.int (va.fmod 1) = V.int 0))] := by
      have e1 : (if va = 0 then decide (V.int (va * vb) = V.int 0) else decide (V.int ((va * vb).fmod va) = V.int 0)) = true := by
        by_cases z : va = 0
        · rw [if_pos z, z, Int.zero_mul]; exact decide_eq_true rfl
        · rw [if_neg z, Int.mul_fmod_right]; exact decide_eq_true rfl
      have e2 : (if va = 0 then decide (V.int 0 = V.int 0) else decide (V.int ((0 : Int).fmod va) = V.int 0)) = true := by
        by_cases z : va = 0
        · rw [if_pos z]; exact decide_eq_true rfl
        · rw [if_neg z, Int.zero_fmod]; exact decide_eq_true rfl
      have e3 : (if (1 : Int) = 0 then decide (V.int va = V.int 0) else decide (V.int (va.fmod 1) = V.int 0)) = true := by
        rw [if_neg (by decide), Int.fmod_one]; exact decide_eq_true rfl
      rw [e1, e2, e3, if_pos rfl]
    have x4 := same_upd (o := .lst [.bl (if va = 0 then decide (V.int vb = V.int 0) else decide (V.int (vb.fmod va) = V.int 0)), .bl (if va = 0 then decide (V.int (va * vb) = V.int 0) else decide (V.int ((va * vb).fmod va) = V.int 0)),
          .bl (if (0 : Int) = 0 then decide (V.int va = V.int 0) else decide (V.int (va.fmod 0) = V.int 0)), .bl (if va = 0 then decide (V.int 0 = V.int 0) else decide (V.int ((0 : Int).fmod va) = V.int 0)), .bl (if (1 : Int) = 0 then decide (V.int va = V.int 0) else decide (V.int (va.fmod 1) = V.int 0))]) n4
    have x5 := same_upd (o := .lst [.bl (if va = 0 then decide (V.int vb = V.int 0) else decide (V.int (vb.fmod va) = V.int 0)), .bl true, .bl (decide (V.int va = V.int 0)), .bl true, .bl true]) n5
    refine ⟨.ref l4, .ref l5, rfl, Eqd.lst (x5 _ _ upd_same) (upd_same.trans (congrArg (fun z => some (HO.lst z)) dv)) (by show 5 ≤ 1000; decide) (paired_refl fun x hx => ?_), fun H5 s5 => ⟨_, rfl, iteF ?_⟩⟩
    · simp only [List.mem_cons, List.not_mem_nil, or_false] at hx
      rcases hx with rfl | rfl | rfl | rfl | rfl <;> exact Eqd.leaf True.intro
    have S5 : Same H4 H5 := x4.trans (x5.trans s5)
    have B5 := B4.same S5
    have T5 := T4.ext S5
    clear S5 s5 x4 x5 dv
    -- q
    refine ⟨_, rfl, _, rfl, b, cc, m, rfl, B5, m1', by omega, fun v H6 v0 v9 k6 B6 => ⟨_, _, rfl, rfl, ?_⟩⟩
    have T6 := keepT B5 T5 k6
    have q1 : 1 ≤ 1 + v := by omega
    have q2 : 1 + v < 2 ^ 60 := by omega
    -- shares
    refine ⟨_, rfl, _, rfl, .inl ⟨va, 1 + v, rfl, q1, q2, fun t1 c1 => ?_⟩⟩
    refine ⟨_, rfl, .inl ⟨va, 1, rfl, by decide, by decide, fun t2 c2 => ?_⟩⟩
    refine ⟨_, rfl, _, rfl, _, _, rfl, rfl, .inl ⟨by omega, by omega⟩, _, rfl, .inl ⟨(1 + v) * va, 1 + v, rfl, q1, q2, fun t3 c3 => ?_⟩⟩
    refine ⟨_, rfl, _, rfl, rfl, .inl ⟨va, 1 + v, rfl, q1, q2, fun t4 c4 => ?_⟩⟩
    refine ⟨(by show 4 ≤ sizeLine; decide), fun l6 n6 => ?_⟩
    refine ⟨_, rfl, _, rfl, va, 1 + v, rfl, q1, q2, fun t5 c5 => ?_⟩
    refine ⟨_, rfl, (by show 2 ≤ sizeLine; decide), fun t6 c6 => ?_⟩
    refine ⟨_, rfl, (by show 2 ≤ sizeLine; decide), fun t7 c7 => ?_⟩
    refine ⟨_, rfl, _, rfl, va, 1 + v, rfl, q1, q2, fun t8 c8 => ?_⟩
    refine ⟨(by show 4 ≤ sizeLine; decide), fun l7 n7 => ?_⟩
    have e1 : [V.int (va / gcdI va 1), V.int (1 / gcdI va 1)] = [V.int va, V.int 1] := by
      rw [show gcdI va 1 = 1 by unfold gcdI; simp]
      simp
    have e2 : [V.int ((1 + v) * va / gcdI ((1 + v) * va) (1 + v)), V.int ((1 + v) / gcdI ((1 + v) * va) (1 + v))] = [V.int va, V.int 1] := by
      have g : gcdI ((1 + v) * va) (1 + v) = 1 + v := by
        unfold gcdI
        rw [Int.natAbs_mul, Nat.gcd_comm, Nat.gcd_mul_right_right]
        omega
      rw [g, Int.mul_ediv_cancel_left _ (by omega), Int.ediv_self (by omega)]
    have w1 := same_upd (o := .tup [.int (va / gcdI va (1 + v)), .int ((1 + v) / gcdI va (1 + v))]) c1
    have w2 := same_upd (o := .tup [.int (va / gcdI va 1), .int (1 / gcdI va 1)]) c2
    have w3 := same_upd (o := .tup [.int ((1 + v) * va / gcdI ((1 + v) * va) (1 + v)), .int ((1 + v) / gcdI ((1 + v) * va) (1 + v))]) c3
    have w4 := same_upd (o := .tup [.int (va / gcdI va (1 + v)), .int ((1 + v) / gcdI va (1 + v))]) c4
    have w5 := same_upd (o := .lst [.ref t1, .ref t2, .ref t3, .ref t4]) n6
    have w6 := same_upd (o := .tup [.int (va / gcdI va (1 + v)), .int ((1 + v) / gcdI va (1 + v))]) c5
    have w7 := same_upd (o := .tup [.int va, .int 1]) c6
    have w8 := same_upd (o := .tup [.int va, .int 1]) c7
    have w9 := same_upd (o := .tup [.int (va / gcdI va (1 + v)), .int ((1 + v) / gcdI va (1 + v))]) c8
    have w10 := same_upd (o := .lst [.ref t5, .ref t6, .ref t7, .ref t8]) n7
    have z10 := w10
    have z9 := w9.trans z10
    have z8 := w8.trans z9
    have z7 := w7.trans z8
    have z6 := w6.trans z7
    have z5 := w5.trans z6
    have z4 := w4.trans z5
    have z3 := w3.trans z4
    have z2 := w2.trans z3
    have z1 := w1.trans z2
    have leaf2 : ∀ {Hx : Hp} {x y : V}, leafV x → leafV y → Paired (Eqd Hx 2) [x, y] [x, y] := fun {Hx x y} h1 h2 => paired_refl fun z hz => by
      simp only [List.mem_cons, List.not_mem_nil, or_false] at hz
      rcases hz with rfl | rfl
      · exact Eqd.leaf h1
      · exact Eqd.leaf h2
    refine ⟨.ref l6, .ref l7, rfl, Eqd.lst (z6 _ _ upd_same) upd_same (by show 4 ≤ 1000; decide) (.cons (Eqd.tup (z2 _ _ upd_same) (z7 _ _ upd_same) (by show 2 ≤ 1000; decide) (leaf2 True.intro True.intro))
      (.cons (Eqd.tup (z3 _ _ upd_same) ((z8 _ _ upd_same).trans (congrArg (fun z => some (HO.tup z)) e1.symm)) (by show 2 ≤ 1000; decide) (leaf2 True.intro True.intro))
      (.cons (Eqd.tup (z4 _ _ upd_same) ((z9 _ _ upd_same).trans (congrArg (fun z => some (HO.tup z)) e2.symm)) (by show 2 ≤ 1000; decide) (leaf2 True.intro True.intro))
      (.cons (Eqd.tup (z5 _ _ upd_same) (z10 _ _ upd_same) (by show 2 ≤ 1000; decide) (leaf2 True.intro True.intro)) .nil)))), fun H7 s7 => ⟨_, rfl, iteF ?_⟩⟩
    have S7 : Same H6 H7 := z1.trans s7
    have B7 := B6.same S7
    have T7 := T6.ext S7
    clear S7 s7 z1 z2 z3 z4 z5 z6 z7 z8 z9 z10 w1 w2 w3 w4 w5 w6 w7 w8 w9 w10 e1 e2 leaf2
    -- odd
    refine ⟨_, rfl, _, rfl, _, rfl, _, rfl, (by show 1 ≤ sizeLine; decide), fun tt nt => ⟨(by show 7 ≤ sizeLine; decide), fun l8 n8 => ?_⟩⟩
    have o1 := same_upd (o := .tup [.int 1]) nt
    have o2 := same_upd (o := .lst [.int 0, .int (-1), .int (-(1 + v)), .bl true, .non, .str "1", .ref tt]) n8
    have o3 := o1.trans o2
    refine ⟨b, cc, .ref l8, rfl, B7.same o3, .inl ⟨l8, _, rfl, (B7.same o1).ne_new n8, upd_same, by simp, (by show 7 ≤ 1000; decide), fun od H8 hod k8 B8 => ?_⟩⟩
    have T8 := keepT (B7.same o3) (T7.ext o3) k8
    have ett : H8 tt = some (.tup [.int 1]) := k8 _ _ (B7.ne_new nt) (o2 _ _ upd_same)
    obtain ⟨ty, hty, heq, hno⟩ : ∃ ty, (∀ Hx, Hx tt = some (.tup [.int 1]) → Typ Hx od ty) ∧ (∀ Hx, Hx tt = some (.tup [.int 1]) → Eqd Hx 3 od od) ∧ ∀ z : Int, od = .int z → z < 1 := by
      simp only [List.mem_cons, List.not_mem_nil, or_false] at hod
      rcases hod with rfl | rfl | rfl | rfl | rfl | rfl | rfl
      · exact ⟨_, fun _ _ => .int _, fun _ _ => Eqd.leaf True.intro, fun z e => by injection e with e; omega⟩
      · exact ⟨_, fun _ _ => .int _, fun _ _ => Eqd.leaf True.intro, fun z e => by injection e with e; omega⟩
      · exact ⟨_, fun _ _ => .int _, fun _ _ => Eqd.leaf True.intro, fun z e => by injection e with e; omega⟩
      · exact ⟨_, fun _ _ => .bl _, fun _ _ => Eqd.leaf True.intro, fun z e => by cases e⟩
      · exact ⟨_, fun _ _ => .non, fun _ _ => Eqd.leaf True.intro, fun z e => by cases e⟩
      · exact ⟨_, fun _ _ => .str _, fun _ _ => Eqd.leaf True.intro, fun z e => by cases e⟩
      · exact ⟨_, fun _ h => .tup h, fun _ h => Eqd.tup h h (by show 1 ≤ 1000; decide) (paired_refl fun z hz => by rw [List.mem_singleton.mp hz]; exact Eqd.leaf True.intro), fun z e => by cases e⟩
    -- what share says to it
    refine ⟨fun p hp => by rw [List.mem_singleton.mp hp, ← hlq]; exact T8, fun H10 eN T10 => ?_⟩
    have T10' : LamX.TabS H10 Pt lq := by
      rw [hlq]
      exact T10 _ List.mem_cons_self
    clear T10
    have B10 : Bg H10 b cc := by
      obtain ⟨ns, i, r, m, g⟩ := B8
      exact ⟨ns, i, r, m, eN _ _ g.hb (fun ps z => by cases z), eN _ _ g.hc (fun ps z => by cases z), g.len, g.i0, g.r0, g.m0, g.m1⟩
    have et10 : H10 tt = some (.tup [.int 1]) := eN _ _ ett (fun ps z => by cases z)
    refine ⟨_, rfl, _, rfl, .inr ⟨_, od, ty, rfl, hty _ et10, hno, fun d hd => ⟨hm, "InvalidNumber", od, ⟨CE, d, _, "given", rfl, xf, rfl, upd_same, noC, rfl, by decide +kernel, noG, rfl⟩, fun H11 p s11 hp => ?_⟩⟩⟩
    refine ⟨_, rfl, (by show 2 ≤ sizeLine; decide), fun t9 nt9 => ?_⟩
    have y1 := same_upd (o := .tup [.str "InvalidNumber", od]) hp
    have y2 := same_upd (o := .tup [.str "InvalidNumber", od]) nt9
    have et11 := (same_upd hd).trans (s11.trans (y1.trans y2)) _ _ et10
    refine ⟨.ref p, .ref t9, rfl, Eqd.tup (y2 _ _ upd_same) upd_same (by show 2 ≤ 1000; decide) (.cons (Eqd.leaf True.intro) (.cons (heq _ et11) .nil)), fun H12 s12 => ⟨_, rfl, iteF ?_⟩⟩
    have S12 : Same H10 H12 := (same_upd hd).trans (s11.trans (y1.trans (y2.trans s12)))
    exact ⟨_, _, _, _, _, _, _, _, _, _, rfl, B10.same S12, T10'.ext S12⟩
  obtain ⟨t, ht, hq⟩ := main
  exact ⟨t, ht.nox, hq⟩
end
end My
namespace My
open PySem PySem.Spec PyProof.Rows L2
theorem all_mk {l : PySem.W.OpenLaw} {w : World} {K : PySem.W.Frag} {h : Heap} {mg : Str → Option Value} {fa : Addr} (X : K.In h) (G : h.Ns mainGlobals mg) (hfa : mg "law" = some (.ref fa))
    {f1 : Addr} {od1 an1 : Option Addr} {sl1 : Array (Option Value)} {oc1 kV1 dc1 pm1 cd1 ct1 : Value} {f2 : Addr} {od2 an2 : Option Addr} {sl2 : Array (Option Value)} {oc2 kV2 dc2 pm2 cd2 ct2 : Value} {f3 : Addr} {od3 an3 : Option Addr} {sl3 : Array (Option Value)} {oc3 kV3 dc3 pm3 cd3 ct3 : Value} {f4 : Addr} {od4 an4 : Option Addr} {sl4 : Array (Option Value)} {oc4 kV4 dc4 pm4 cd4 ct4 : Value} {f5 : Addr} {od5 an5 : Option Addr} {sl5 : Array (Option Value)} {oc5 kV5 dc5 pm5 cd5 ct5 : Value} {T5 : Addr} {oT5 : Option Addr} {nT5 : Nat} {sT5 : Array (Option Value)} {ud5_0 : Tok} {f6 : Addr} {od6 an6 : Option Addr} {sl6 : Array (Option Value)} {oc6 kV6 dc6 pm6 cd6 ct6 : Value} {f7 : Addr} {od7 an7 : Option Addr} {sl7 : Array (Option Value)} {oc7 kV7 dc7 pm7 cd7 ct7 : Value} {f8 : Addr} {od8 an8 : Option Addr} {sl8 : Array (Option Value)} {oc8 kV8 dc8 pm8 cd8 ct8 : Value} {f9 : Addr} {od9 an9 : Option Addr} {sl9 : Array (Option Value)} {oc9 kV9 dc9 pm9 cd9 ct9 : Value} {f10 : Addr} {od10 an10 : Option Addr} {sl10 : Array (Option Value)} {oc10 kV10 dc10 pm10 cd10 ct10 : Value} {f11 : Addr} {od11 an11 : Option Addr} {sl11 : Array (Option Value)} {oc11 kV11 dc11 pm11 cd11 ct11 : Value} {f12 : Addr} {od12 an12 : Option Addr} {sl12 : Array (Option Value)} {oc12 kV12 dc12 pm12 cd12 ct12 : Value} {f13 : Addr} {od13 an13 : Option Addr} {sl13 : Array (Option Value)} {oc13 kV13 dc13 pm13 cd13 ct13 : Value} {f14 : Addr} {od14 an14 : Option Addr} {sl14 : Array (Option Value)} {oc14 kV14 dc14 pm14 cd14 ct14 : Value} {f15 : Addr} {od15 an15 : Option Addr} {sl15 : Array (Option Value)} {oc15 kV15 dc15 pm15 cd15 ct15 : Value} {f16 : Addr} {od16 an16 : Option Addr} {sl16 : Array (Option Value)} {oc16 kV16 dc16 pm16 cd16 ct16 : Value} {f17 : Addr} {od17 an17 : Option Addr} {sl17 : Array (Option Value)} {oc17 kV17 dc17 pm17 cd17 ct17 : Value} {C_InvalidNumber f_InvalidNumber x_InvalidNumber d_InvalidNumber N_InvalidNumber : Addr} {nm_InvalidNumber qn_InvalidNumber ql_InvalidNumber ms_InvalidNumber fl_InvalidNumber : Str} {bs_InvalidNumber bm_InvalidNumber sub_InvalidNumber : List Value} {sn_InvalidNumber : List Str} {ab_InvalidNumber : Bool} {col_InvalidNumber : Option Bool} {dd_InvalidNumber od_InvalidNumber an_InvalidNumber cdd_InvalidNumber cld_InvalidNumber : Option Addr} {v0_InvalidNumber v1_InvalidNumber v2_InvalidNumber v3_InvalidNumber v5_InvalidNumber : Option Value} {oc_InvalidNumber dc_InvalidNumber pm_InvalidNumber ct_InvalidNumber ccl_InvalidNumber cl_InvalidNumber : Value} {os_InvalidNumber ccs_InvalidNumber csl_InvalidNumber : Array (Option Value)} {vs_InvalidNumber : Array Value} {tf_InvalidNumber : Tok} {n1_InvalidNumber n2_InvalidNumber : Nat} {p1_InvalidNumber p2_InvalidNumber a1_InvalidNumber a2_InvalidNumber a3_InvalidNumber a4_InvalidNumber a5_InvalidNumber a6_InvalidNumber b1_InvalidNumber b2_InvalidNumber b3_InvalidNumber b4_InvalidNumber c1_InvalidNumber c2_InvalidNumber c3_InvalidNumber c4_InvalidNumber : Pos} {g_RingError : Value} {g_Missing : Value} {g_NothingLeft : Value}
    {cL PL : Addr} {eL : Value} {ddL : Option Addr} {vsL : Array Value} {slL : Array (Option Value)}
    (z_super : PySem.W.nsIn K mainGlobals "super" = some none) (opq : PySem.W.nsIn K PySem.cStatics "thirdparty.any" = some none) (topSuper : (l.prog.main.scope.names.lookup ("super" : Str)).isSome = false)
    (a1 : PySem.W.nsIn K mainGlobals "is_int" = some (some (.ref f1))) (l1 : K.lookup f1 = some ⟨oc1, od1, .func (PySem.W.fnOf "is_int" "is_int" (defArgs s_is_int) (defBody s_is_int) (defScope s_is_int) .none kV1 dc1 pm1 an1 cd1 ct1), sl1⟩) (c1 : PySem.W.codeIn K cd1 "is_int" = true) (k1 : PySem.W.keepIn K (.ref f1) = true)
    (a2 : PySem.W.nsIn K mainGlobals "common" = some (some (.ref f2))) (l2 : K.lookup f2 = some ⟨oc2, od2, .func (PySem.W.fnOf "common" "common" (defArgs s_common) (defBody s_common) (defScope s_common) .none kV2 dc2 pm2 an2 cd2 ct2), sl2⟩) (c2 : PySem.W.codeIn K cd2 "common" = true) (k2 : PySem.W.keepIn K (.ref f2) = true)
    (a3 : PySem.W.nsIn K mainGlobals "multiple" = some (some (.ref f3))) (l3 : K.lookup f3 = some ⟨oc3, od3, .func (PySem.W.fnOf "multiple" "multiple" (defArgs s_multiple) (defBody s_multiple) (defScope s_multiple) .none kV3 dc3 pm3 an3 cd3 ct3), sl3⟩) (c3 : PySem.W.codeIn K cd3 "multiple" = true) (k3 : PySem.W.keepIn K (.ref f3) = true)
    (a4 : PySem.W.nsIn K mainGlobals "divides" = some (some (.ref f4))) (l4 : K.lookup f4 = some ⟨oc4, od4, .func (PySem.W.fnOf "divides" "divides" (defArgs s_divides) (defBody s_divides) (defScope s_divides) .none kV4 dc4 pm4 an4 cd4 ct4), sl4⟩) (c4 : PySem.W.codeIn K cd4 "divides" = true) (k4 : PySem.W.keepIn K (.ref f4) = true)
    (a5 : PySem.W.nsIn K mainGlobals "share" = some (some (.ref f5))) (l5 : K.lookup f5 = some ⟨oc5, od5, .func (PySem.W.fnOf "share" "share" (defArgs s_share) (defBody s_share) (defScope s_share) (.ref T5) kV5 dc5 pm5 an5 cd5 ct5), sl5⟩) (c5 : PySem.W.codeIn K cd5 "share" = true) (k5 : PySem.W.keepIn K (.ref f5) = true)
    (t5 : K.lookup T5 = some ⟨.type "tuple", oT5, .seq #[.int 1 ud5_0] nT5, sT5⟩)
    (a6 : PySem.W.nsIn K mainGlobals "_law_bag" = some (some (.ref f6))) (l6 : K.lookup f6 = some ⟨oc6, od6, .func (PySem.W.fnOf "_law_bag" "_law_bag" (defArgs s_l_bag) (defBody s_l_bag) (defScope s_l_bag) .none kV6 dc6 pm6 an6 cd6 ct6), sl6⟩) (c6 : PySem.W.codeIn K cd6 "_law_bag" = true) (k6 : PySem.W.keepIn K (.ref f6) = true)
    (a7 : PySem.W.nsIn K mainGlobals "_law_draw" = some (some (.ref f7))) (l7 : K.lookup f7 = some ⟨oc7, od7, .func (PySem.W.fnOf "_law_draw" "_law_draw" (defArgs s_l_draw) (defBody s_l_draw) (defScope s_l_draw) .none kV7 dc7 pm7 an7 cd7 ct7), sl7⟩) (c7 : PySem.W.codeIn K cd7 "_law_draw" = true) (k7 : PySem.W.keepIn K (.ref f7) = true)
    (a8 : PySem.W.nsIn K mainGlobals "_law_pick" = some (some (.ref f8))) (l8 : K.lookup f8 = some ⟨oc8, od8, .func (PySem.W.fnOf "_law_pick" "_law_pick" (defArgs s_l_pick) (defBody s_l_pick) (defScope s_l_pick) .none kV8 dc8 pm8 an8 cd8 ct8), sl8⟩) (c8 : PySem.W.codeIn K cd8 "_law_pick" = true) (k8 : PySem.W.keepIn K (.ref f8) = true)
    (a9 : PySem.W.nsIn K mainGlobals "_law_same" = some (some (.ref f9))) (l9 : K.lookup f9 = some ⟨oc9, od9, .func (PySem.W.fnOf "_law_same" "_law_same" (defArgs s_l_same) (defBody s_l_same) (defScope s_l_same) .none kV9 dc9 pm9 an9 cd9 ct9), sl9⟩) (c9 : PySem.W.codeIn K cd9 "_law_same" = true) (k9 : PySem.W.keepIn K (.ref f9) = true)
    (a10 : PySem.W.nsIn K mainGlobals "_law_field" = some (some (.ref f10))) (l10 : K.lookup f10 = some ⟨oc10, od10, .func (PySem.W.fnOf "_law_field" "_law_field" (defArgs s_l_field) (defBody s_l_field) (defScope s_l_field) .none kV10 dc10 pm10 an10 cd10 ct10), sl10⟩) (c10 : PySem.W.codeIn K cd10 "_law_field" = true) (k10 : PySem.W.keepIn K (.ref f10) = true)
    (a11 : PySem.W.nsIn K mainGlobals "_law_got" = some (some (.ref f11))) (l11 : K.lookup f11 = some ⟨oc11, od11, .func (PySem.W.fnOf "_law_got" "_law_got" (defArgs s_l_got) (defBody s_l_got) (defScope s_l_got) .none kV11 dc11 pm11 an11 cd11 ct11), sl11⟩) (c11 : PySem.W.codeIn K cd11 "_law_got" = true) (k11 : PySem.W.keepIn K (.ref f11) = true)
    (a12 : PySem.W.nsIn K mainGlobals "_law_gcd" = some (some (.ref f12))) (l12 : K.lookup f12 = some ⟨oc12, od12, .func (PySem.W.fnOf "_law_gcd" "_law_gcd" (defArgs s_l_gcd) (defBody s_l_gcd) (defScope s_l_gcd) .none kV12 dc12 pm12 an12 cd12 ct12), sl12⟩) (c12 : PySem.W.codeIn K cd12 "_law_gcd" = true) (k12 : PySem.W.keepIn K (.ref f12) = true)
    (a13 : PySem.W.nsIn K mainGlobals "_law_gcds" = some (some (.ref f13))) (l13 : K.lookup f13 = some ⟨oc13, od13, .func (PySem.W.fnOf "_law_gcds" "_law_gcds" (defArgs s_l_gcds) (defBody s_l_gcds) (defScope s_l_gcds) .none kV13 dc13 pm13 an13 cd13 ct13), sl13⟩) (c13 : PySem.W.codeIn K cd13 "_law_gcds" = true) (k13 : PySem.W.keepIn K (.ref f13) = true)
    (a14 : PySem.W.nsIn K mainGlobals "_law_lcm" = some (some (.ref f14))) (l14 : K.lookup f14 = some ⟨oc14, od14, .func (PySem.W.fnOf "_law_lcm" "_law_lcm" (defArgs s_l_lcm) (defBody s_l_lcm) (defScope s_l_lcm) .none kV14 dc14 pm14 an14 cd14 ct14), sl14⟩) (c14 : PySem.W.codeIn K cd14 "_law_lcm" = true) (k14 : PySem.W.keepIn K (.ref f14) = true)
    (a15 : PySem.W.nsIn K mainGlobals "_law_divides" = some (some (.ref f15))) (l15 : K.lookup f15 = some ⟨oc15, od15, .func (PySem.W.fnOf "_law_divides" "_law_divides" (defArgs s_l_divides) (defBody s_l_divides) (defScope s_l_divides) .none kV15 dc15 pm15 an15 cd15 ct15), sl15⟩) (c15 : PySem.W.codeIn K cd15 "_law_divides" = true) (k15 : PySem.W.keepIn K (.ref f15) = true)
    (a16 : PySem.W.nsIn K mainGlobals "_law_share" = some (some (.ref f16))) (l16 : K.lookup f16 = some ⟨oc16, od16, .func (PySem.W.fnOf "_law_share" "_law_share" (defArgs s_l_share) (defBody s_l_share) (defScope s_l_share) .none kV16 dc16 pm16 an16 cd16 ct16), sl16⟩) (c16 : PySem.W.codeIn K cd16 "_law_share" = true) (k16 : PySem.W.keepIn K (.ref f16) = true)
    (a17 : PySem.W.nsIn K mainGlobals "law" = some (some (.ref f17))) (l17 : K.lookup f17 = some ⟨oc17, od17, .func (PySem.W.fnOf "law" "law" (defArgs s_law) (defBody s_law) (defScope s_law) .none kV17 dc17 pm17 an17 cd17 ct17), sl17⟩) (c17 : PySem.W.codeIn K cd17 "law" = true) (k17 : PySem.W.keepIn K (.ref f17) = true)
    (z_IndexError : PySem.W.nsIn K mainGlobals "IndexError" = some none)
    (z_LookupError : PySem.W.nsIn K mainGlobals "LookupError" = some none)
    (z_ValueError : PySem.W.nsIn K mainGlobals "ValueError" = some none)
    (z_abs : PySem.W.nsIn K mainGlobals "abs" = some none)
    (z_all : PySem.W.nsIn K mainGlobals "all" = some none)
    (z_bool : PySem.W.nsIn K mainGlobals "bool" = some none)
    (z_int : PySem.W.nsIn K mainGlobals "int" = some none)
    (z_isinstance : PySem.W.nsIn K mainGlobals "isinstance" = some none)
    (z_len : PySem.W.nsIn K mainGlobals "len" = some none)
    (z_list : PySem.W.nsIn K mainGlobals "list" = some none)
    (z_range : PySem.W.nsIn K mainGlobals "range" = some none)
    (z_str : PySem.W.nsIn K mainGlobals "str" = some none)
    (z_tuple : PySem.W.nsIn K mainGlobals "tuple" = some none)
    (z_zip : PySem.W.nsIn K mainGlobals "zip" = some none)
    (m_gcd : PySem.W.nsIn K mainGlobals "gcd" = some (some (.builtin "math.gcd")))
    (m_lcm : PySem.W.nsIn K mainGlobals "lcm" = some (some (.builtin "math.lcm")))
    (ea_InvalidNumber : PySem.W.nsIn K mainGlobals "InvalidNumber" = some (some (.ref C_InvalidNumber)))
    (eb_InvalidNumber : K.lookup C_InvalidNumber = some (excClassObj nm_InvalidNumber qn_InvalidNumber C_InvalidNumber N_InvalidNumber bs_InvalidNumber bm_InvalidNumber true sn_InvalidNumber sub_InvalidNumber ab_InvalidNumber col_InvalidNumber dd_InvalidNumber v0_InvalidNumber v1_InvalidNumber v2_InvalidNumber v3_InvalidNumber v5_InvalidNumber "ValueError.__new__"))
    (ec_InvalidNumber : PySem.HandSPX.refsVE bm_InvalidNumber = true)
    (ed_InvalidNumber : PySem.W.alongIn K "__init__" bm_InvalidNumber = some (some (.builtin "ValueError.__init__")))
    (ee_InvalidNumber : PySem.W.findIn K (.ref C_InvalidNumber) "__setattr__" = some (some (.builtin "object.__setattr__")))
    (ef_InvalidNumber : PySem.W.findIn K (.ref C_InvalidNumber) "__getattribute__" = some (some (.builtin "BaseException.__getattribute__")))
    (eg_InvalidNumber : PySem.W.findIn K (.ref C_InvalidNumber) "__getattr__" = some none)
    (eh_InvalidNumber : PySem.W.findIn K (.ref C_InvalidNumber) "given" = some none)
    (ei_InvalidNumber : PySem.W.findIn K (.ref C_InvalidNumber) "code" = some none)
    (ej_InvalidNumber : PySem.W.findIn K (.ref C_InvalidNumber) "__init__" = some (some (.ref f_InvalidNumber)))
    (ek_InvalidNumber : PySem.W.typeIn K (.ref f_InvalidNumber) = some (.type "function"))
    (el_InvalidNumber : PySem.W.keepIn K (.ref C_InvalidNumber) = true)
    (em_InvalidNumber : PySem.W.subIn K (.ref C_InvalidNumber) (.type "BaseException") = some true)
    (en_InvalidNumber : PySem.W.subIn K (.ref C_InvalidNumber) (.type "ValueError") = some true)
    (eo_InvalidNumber : PySem.W.mroIn K C_InvalidNumber (.ref C_InvalidNumber) = some true)
    (ep_InvalidNumber : PySem.W.typeIn K (.ref C_InvalidNumber) = some (.type "type"))
    (eq_InvalidNumber : PySem.W.hasDictIn K C_InvalidNumber = true)
    (er_InvalidNumber : K.lookup f_InvalidNumber = some ⟨oc_InvalidNumber, od_InvalidNumber, .func (PySem.W.ksFn "__init__" ql_InvalidNumber (PySem.ErrX.eArgs "given" p1_InvalidNumber p2_InvalidNumber) (PySem.ErrX.eBody "given" ms_InvalidNumber "InvalidNumber" n1_InvalidNumber n2_InvalidNumber a1_InvalidNumber a2_InvalidNumber a3_InvalidNumber a4_InvalidNumber a5_InvalidNumber a6_InvalidNumber b1_InvalidNumber b2_InvalidNumber b3_InvalidNumber b4_InvalidNumber c1_InvalidNumber c2_InvalidNumber c3_InvalidNumber c4_InvalidNumber) (PySem.ErrX.eScope "given") .none .none dc_InvalidNumber pm_InvalidNumber an_InvalidNumber (.ref d_InvalidNumber) ct_InvalidNumber x_InvalidNumber), os_InvalidNumber⟩)
    (es_InvalidNumber : PySem.W.codeIn K (.ref d_InvalidNumber) ql_InvalidNumber = true)
    (et_InvalidNumber : K.lookup x_InvalidNumber = some ⟨cl_InvalidNumber, cld_InvalidNumber, .cell (some (.ref C_InvalidNumber)), csl_InvalidNumber⟩)
    (eu_InvalidNumber : K.lookup d_InvalidNumber = some ⟨ccl_InvalidNumber, cdd_InvalidNumber, .fields vs_InvalidNumber, ccs_InvalidNumber⟩)
    (ev_InvalidNumber : vs_InvalidNumber[2]? = some (.str fl_InvalidNumber tf_InvalidNumber))
    (ex_InvalidNumber : PySem.ErrX.InitEval ms_InvalidNumber n1_InvalidNumber a1_InvalidNumber a2_InvalidNumber a3_InvalidNumber a4_InvalidNumber a5_InvalidNumber)
    (ew_InvalidNumber : ((l.prog.main.file : Str) == fl_InvalidNumber) = true)
    (m_RingError : PySem.W.nsIn K mainGlobals "RingError" = some (some g_RingError))
    (m_Missing : PySem.W.nsIn K mainGlobals "Missing" = some (some g_Missing))
    (m_NothingLeft : PySem.W.nsIn K mainGlobals "NothingLeft" = some (some g_NothingLeft))
    (lcd : cd17 = .ref cL) (lC : K.lookup cL = some ⟨eL, ddL, .fields vsL, slL⟩) (lT : vsL[11]? = some (.ref PL)) (lP : h.get? PL = some { cls := .none, data := .fields #[] }) (lN : K.lookup PL = none) (lH : PySem.W.codeHdIn K cL PL = true) (hm : PySem.W.exmAny K (.ref C_InvalidNumber) [g_RingError, g_Missing, g_NothingLeft] = some true) :
    LamX.LawAtS l w K CX0 6 63 "_law_script" mg fa h := by
  have F_is_int := fun_mk (st := s_is_int) l1 c1 k1
  have b_is_int := F_is_int.binds (ps := ["value"]) fun _ _ _ _ _ _ us hl => match us, hl with | [_], _ => rfl
  have A_is_int : Fn K mg "is_int" s_is_int ["value"] := ⟨_, _, F_is_int, PySem.W.mg_of X G a1, b_is_int⟩
  have F_common := fun_mk (st := s_common) l2 c2 k2
  have F_multiple := fun_mk (st := s_multiple) l3 c3 k3
  have F_divides := fun_mk (st := s_divides) l4 c4 k4
  have b_divides := F_divides.binds (ps := ["one", "other"]) fun _ _ _ _ _ _ us hl => match us, hl with | [_, _], _ => rfl
  have A_divides : Fn K mg "divides" s_divides ["one", "other"] := ⟨_, _, F_divides, PySem.W.mg_of X G a4, b_divides⟩
  have D_share : FunD K "share" "share" (defArgs s_share) (defBody s_share) (defScope s_share) [.int 1] [] f5 _ := ⟨⟨_, _, _, _, _, _, _, _, _, _, rfl, l5, c5, .inr ⟨by simp, T5, _, _, _, rfl, t5, rfl, (.cons ⟨_, rfl⟩ .nil)⟩, .inl rfl⟩, k5⟩
  have F_l_bag := fun_mk (st := s_l_bag) l6 c6 k6
  have b_l_bag := F_l_bag.binds (ps := ["_law_script"]) fun _ _ _ _ _ _ us hl => match us, hl with | [_], _ => rfl
  have A_l_bag : Fn K mg "_law_bag" s_l_bag ["_law_script"] := ⟨_, _, F_l_bag, PySem.W.mg_of X G a6, b_l_bag⟩
  have F_l_draw := fun_mk (st := s_l_draw) l7 c7 k7
  have b_l_draw := F_l_draw.binds (ps := ["_law_bag_here", "_law_many"]) fun _ _ _ _ _ _ us hl => match us, hl with | [_, _], _ => rfl
  have A_l_draw : Fn K mg "_law_draw" s_l_draw ["_law_bag_here", "_law_many"] := ⟨_, _, F_l_draw, PySem.W.mg_of X G a7, b_l_draw⟩
  have F_l_pick := fun_mk (st := s_l_pick) l8 c8 k8
  have b_l_pick := F_l_pick.binds (ps := ["_law_bag_here", "_law_some"]) fun _ _ _ _ _ _ us hl => match us, hl with | [_, _], _ => rfl
  have A_l_pick : Fn K mg "_law_pick" s_l_pick ["_law_bag_here", "_law_some"] := ⟨_, _, F_l_pick, PySem.W.mg_of X G a8, b_l_pick⟩
  have F_l_same := fun_mk (st := s_l_same) l9 c9 k9
  have b_l_same := F_l_same.binds (ps := ["_law_found", "_law_due"]) fun _ _ _ _ _ _ us hl => match us, hl with | [_, _], _ => rfl
  have A_l_same : Fn K mg "_law_same" s_l_same ["_law_found", "_law_due"] := ⟨_, _, F_l_same, PySem.W.mg_of X G a9, b_l_same⟩
  have F_l_field := fun_mk (st := s_l_field) l10 c10 k10
  have b_l_field := F_l_field.binds (ps := ["_law_e"]) fun _ _ _ _ _ _ us hl => match us, hl with | [_], _ => rfl
  have A_l_field : Fn K mg "_law_field" s_l_field ["_law_e"] := ⟨_, _, F_l_field, PySem.W.mg_of X G a10, b_l_field⟩
  have F_l_got := fun_mk (st := s_l_got) l11 c11 k11
  have b_l_got := F_l_got.binds (ps := ["_law_ask"]) fun _ _ _ _ _ _ us hl => match us, hl with | [_], _ => rfl
  have A_l_got : Fn K mg "_law_got" s_l_got ["_law_ask"] := ⟨_, _, F_l_got, PySem.W.mg_of X G a11, b_l_got⟩
  have F_l_gcd := fun_mk (st := s_l_gcd) l12 c12 k12
  have b_l_gcd := F_l_gcd.binds (ps := ["_law_a", "_law_b"]) fun _ _ _ _ _ _ us hl => match us, hl with | [_, _], _ => rfl
  have A_l_gcd : Fn K mg "_law_gcd" s_l_gcd ["_law_a", "_law_b"] := ⟨_, _, F_l_gcd, PySem.W.mg_of X G a12, b_l_gcd⟩
  have F_l_gcds := fun_mk (st := s_l_gcds) l13 c13 k13
  have b_l_gcds := F_l_gcds.binds (ps := ["_law_numbers"]) fun _ _ _ _ _ _ us hl => match us, hl with | [_], _ => rfl
  have A_l_gcds : Fn K mg "_law_gcds" s_l_gcds ["_law_numbers"] := ⟨_, _, F_l_gcds, PySem.W.mg_of X G a13, b_l_gcds⟩
  have F_l_lcm := fun_mk (st := s_l_lcm) l14 c14 k14
  have b_l_lcm := F_l_lcm.binds (ps := ["_law_a", "_law_b"]) fun _ _ _ _ _ _ us hl => match us, hl with | [_, _], _ => rfl
  have A_l_lcm : Fn K mg "_law_lcm" s_l_lcm ["_law_a", "_law_b"] := ⟨_, _, F_l_lcm, PySem.W.mg_of X G a14, b_l_lcm⟩
  have F_l_divides := fun_mk (st := s_l_divides) l15 c15 k15
  have b_l_divides := F_l_divides.binds (ps := ["_law_a", "_law_b"]) fun _ _ _ _ _ _ us hl => match us, hl with | [_, _], _ => rfl
  have A_l_divides : Fn K mg "_law_divides" s_l_divides ["_law_a", "_law_b"] := ⟨_, _, F_l_divides, PySem.W.mg_of X G a15, b_l_divides⟩
  have F_l_share := fun_mk (st := s_l_share) l16 c16 k16
  have b_l_share := F_l_share.binds (ps := ["_law_p", "_law_q"]) fun _ _ _ _ _ _ us hl => match us, hl with | [_, _], _ => rfl
  have A_l_share : Fn K mg "_law_share" s_l_share ["_law_p", "_law_q"] := ⟨_, _, F_l_share, PySem.W.mg_of X G a16, b_l_share⟩
  have F_law := fun_mk (st := s_law) l17 c17 k17
  have b_law := F_law.binds (ps := ["_law_script"]) fun _ _ _ _ _ _ us hl => match us, hl with | [_], _ => rfl
  have A_law : Fn K mg "law" s_law ["_law_script"] := ⟨_, _, F_law, PySem.W.mg_of X G a17, b_law⟩
  have B : Blt mg := ⟨PySem.W.mg_none_of X G z_IndexError, PySem.W.mg_none_of X G z_LookupError, PySem.W.mg_none_of X G z_ValueError, PySem.W.mg_none_of X G z_abs, PySem.W.mg_none_of X G z_all, PySem.W.mg_none_of X G z_bool, PySem.W.mg_none_of X G z_int, PySem.W.mg_none_of X G z_isinstance, PySem.W.mg_none_of X G z_len, PySem.W.mg_none_of X G z_list, PySem.W.mg_none_of X G z_range, PySem.W.mg_none_of X G z_str, PySem.W.mg_none_of X G z_tuple, PySem.W.mg_none_of X G z_zip⟩
  have E_InvalidNumber : PySem.ErrX.ErrTxt l.prog K mg "InvalidNumber" "given" "InvalidNumber" C_InvalidNumber f_InvalidNumber x_InvalidNumber d_InvalidNumber := ⟨PySem.W.mg_of X G ea_InvalidNumber, PySem.W.mg_none_of X G z_super, ⟨_, _, _, _, _, _, _, _, _, _, _, _, _, _, _, eb_InvalidNumber, ec_InvalidNumber, ed_InvalidNumber⟩, ee_InvalidNumber, ef_InvalidNumber, eg_InvalidNumber, eh_InvalidNumber, ei_InvalidNumber, ej_InvalidNumber, ek_InvalidNumber, el_InvalidNumber, em_InvalidNumber, en_InvalidNumber, eo_InvalidNumber, ep_InvalidNumber, eq_InvalidNumber, opq, ⟨_, _, _, et_InvalidNumber⟩, ⟨_, _, _, _, _, _, eu_InvalidNumber, ev_InvalidNumber, ew_InvalidNumber⟩, topSuper, ⟨_, _, _, _, _, _, _, _, _, _, _, _, _, _, _, _, _, _, _, _, _, _, _, _, _, _, _, er_InvalidNumber, es_InvalidNumber, fun s a b => .of_eq rfl, ex_InvalidNumber⟩, by decide, by decide, by decide, by decide, by decide⟩
  have xf_InvalidNumber : XfC K C_InvalidNumber := ⟨ef_InvalidNumber, eg_InvalidNumber, em_InvalidNumber, eq_InvalidNumber⟩
  have T : Txt mg := ⟨PySem.W.mg_of X G m_gcd, PySem.W.mg_of X G m_lcm⟩
  have e := hfa.symm.trans (PySem.W.mg_of X G a17)
  cases e
  refine ⟨PySem.W.fnOf "law" "law" (defArgs s_law) (defBody s_law) (defScope s_law) .none kV17 dc17 pm17 an17 cd17 ct17, [(cL, PL)], spLaw K PL, fun p hp => ?_, fun p hp => ?_, fun p hp => ?_, fun s v => .of_eq rfl, fun H a ns hl _ hT hS => ⟨a, ns, rfl, hS, hl, hT _ List.mem_cons_self, fun _ => rfl⟩, fun base _ _ hB => ?_⟩
  · rw [List.mem_singleton.mp hp]
    exact lP
  · rw [List.mem_singleton.mp hp]
    exact lN
  · rw [List.mem_singleton.mp hp]
    exact PySem.W.codeHd_of_K X lH
  subst lcd
  have G1 := ok_draw (P := l.prog) (w := w) (base := base) A_l_draw B
  have G2 := ok_pick A_l_pick B G1
  have G3 := ok_is_int (P := l.prog) (w := w) (base := base) A_is_int B
  have G4 := ok_gcd (P := l.prog) (w := w) (base := base) A_l_gcd B
  exact ok_law l17 c17 (hB _ List.mem_cons_self) (PySem.W.mg_of X G m_RingError) (PySem.W.mg_of X G m_Missing) (PySem.W.mg_of X G m_NothingLeft) hm xf_InvalidNumber ei_InvalidNumber eh_InvalidNumber B T (ok_bag A_l_bag B) G1 G2 (all_same A_l_same B 4) (ok_field A_l_field) A_l_got
    G4 (ok_l_gcds A_l_gcds G4) (ok_l_lcm A_l_lcm B G4) (ok_l_divides A_l_divides B) (ok_l_share A_l_share G4)
    (ok_common ⟨_, _, F_common, PySem.W.mg_of X G a2⟩ T) (ok_multiple ⟨_, _, F_multiple, PySem.W.mg_of X G a3⟩ T) (ok_divides A_divides) (ok_share D_share (PySem.W.mg_of X G a5) T E_InvalidNumber G3)
end My
open PySem PySem.W PyProof.Rows
set_option maxRecDepth 100000 in
set_option maxHeartbeats 0 in
theorem PySem.Challenge.cw_numbertypes_k03_common_divisors_and_mult_holds : PySem.Challenge.rw_numbertypes_k03_common_divisors_and_mult.Holds := by
  w_on; o_law; k_head; (case hw => w_witness2)
  k_fill
  refine LamX.walk_ofTs (l := PySem.Challenge.rw_numbertypes_k03_common_divisors_and_mult) (n := 63) (k := 6) (x := "_law_script") (CX := fun _ => L2.CX0) rfl (by decide) rfl ⟨rfl, by decide, by decide⟩ (fun w h Y => PySem.W.km_in_of Y) ?F (fun _ _ _ _ _ h => h)
  case F =>
    intro w mg fa h Y KX G hmg
    refine' My.all_mk KX G hmg ?z_super ?opq ?topSuper ?a1 ?l1 ?c1 ?k1 ?a2 ?l2 ?c2 ?k2 ?a3 ?l3 ?c3 ?k3 ?a4 ?l4 ?c4 ?k4 ?a5 ?l5 ?c5 ?k5 ?t5 ?a6 ?l6 ?c6 ?k6 ?a7 ?l7 ?c7 ?k7 ?a8 ?l8 ?c8 ?k8 ?a9 ?l9 ?c9 ?k9 ?a10 ?l10 ?c10 ?k10 ?a11 ?l11 ?c11 ?k11 ?a12 ?l12 ?c12 ?k12 ?a13 ?l13 ?c13 ?k13 ?a14 ?l14 ?c14 ?k14 ?a15 ?l15 ?c15 ?k15 ?a16 ?l16 ?c16 ?k16 ?a17 ?l17 ?c17 ?k17 ?z_IndexError ?z_LookupError ?z_ValueError ?z_abs ?z_all ?z_bool ?z_int ?z_isinstance ?z_len ?z_list ?z_range ?z_str ?z_tuple ?z_zip ?m_gcd ?m_lcm ?ea_InvalidNumber ?eb_InvalidNumber ?ec_InvalidNumber ?ed_InvalidNumber ?ee_InvalidNumber ?ef_InvalidNumber ?eg_InvalidNumber ?eh_InvalidNumber ?ei_InvalidNumber ?ej_InvalidNumber ?ek_InvalidNumber ?el_InvalidNumber ?em_InvalidNumber ?en_InvalidNumber ?eo_InvalidNumber ?ep_InvalidNumber ?eq_InvalidNumber ?er_InvalidNumber ?es_InvalidNumber ?et_InvalidNumber ?eu_InvalidNumber ?ev_InvalidNumber ?ex_InvalidNumber ?ew_InvalidNumber ?m_RingError ?m_Missing ?m_NothingLeft ?lcd ?lC ?lT ?lP ?lN ?lH ?hm
    (case z_super => k_is)
    (case opq => k_is)
    (case a1 => k_is)
    (case l1 => k_is)
    (case c1 => k_is)
    (case k1 => k_is)
    (case a2 => k_is)
    (case l2 => k_is)
    (case c2 => k_is)
    (case k2 => k_is)
    (case a3 => k_is)
    (case l3 => k_is)
    (case c3 => k_is)
    (case k3 => k_is)
    (case a4 => k_is)
    (case l4 => k_is)
    (case c4 => k_is)
    (case k4 => k_is)
    (case a5 => k_is)
    (case l5 => k_is)
    (case c5 => k_is)
    (case k5 => k_is)
    (case t5 => k_is)
    (case a6 => k_is)
    (case l6 => k_is)
    (case c6 => k_is)
    (case k6 => k_is)
    (case a7 => k_is)
    (case l7 => k_is)
    (case c7 => k_is)
    (case k7 => k_is)
    (case a8 => k_is)
    (case l8 => k_is)
    (case c8 => k_is)
    (case k8 => k_is)
    (case a9 => k_is)
    (case l9 => k_is)
    (case c9 => k_is)
    (case k9 => k_is)
    (case a10 => k_is)
    (case l10 => k_is)
    (case c10 => k_is)
    (case k10 => k_is)
    (case a11 => k_is)
    (case l11 => k_is)
    (case c11 => k_is)
    (case k11 => k_is)
    (case a12 => k_is)
    (case l12 => k_is)
    (case c12 => k_is)
    (case k12 => k_is)
    (case a13 => k_is)
    (case l13 => k_is)
    (case c13 => k_is)
    (case k13 => k_is)
    (case a14 => k_is)
    (case l14 => k_is)
    (case c14 => k_is)
    (case k14 => k_is)
    (case a15 => k_is)
    (case l15 => k_is)
    (case c15 => k_is)
    (case k15 => k_is)
    (case a16 => k_is)
    (case l16 => k_is)
    (case c16 => k_is)
    (case k16 => k_is)
    (case a17 => k_is)
    (case l17 => k_is)
    (case c17 => k_is)
    (case k17 => k_is)
    (case z_IndexError => k_is)
    (case z_LookupError => k_is)
    (case z_ValueError => k_is)
    (case z_abs => k_is)
    (case z_all => k_is)
    (case z_bool => k_is)
    (case z_int => k_is)
    (case z_isinstance => k_is)
    (case z_len => k_is)
    (case z_list => k_is)
    (case z_range => k_is)
    (case z_str => k_is)
    (case z_tuple => k_is)
    (case z_zip => k_is)
    (case m_gcd => k_is)
    (case m_lcm => k_is)
    (case m_RingError => k_is)
    (case m_Missing => k_is)
    (case m_NothingLeft => k_is)
    (case topSuper => kernel_rfl)
    (case ea_InvalidNumber => k_is)
    (case eb_InvalidNumber => k_is)
    (case ec_InvalidNumber => first | rfl | kernel_rfl)
    (case ed_InvalidNumber => kernel_rfl)
    (case ee_InvalidNumber => k_is)
    (case ef_InvalidNumber => k_is)
    (case eg_InvalidNumber => k_is)
    (case eh_InvalidNumber => k_is)
    (case ei_InvalidNumber => k_is)
    (case ej_InvalidNumber => k_is)
    (case ek_InvalidNumber => k_is)
    (case el_InvalidNumber => k_is)
    (case em_InvalidNumber => k_is)
    (case en_InvalidNumber => k_is)
    (case eo_InvalidNumber => k_is)
    (case ep_InvalidNumber => k_is)
    (case eq_InvalidNumber => k_is)
    (case er_InvalidNumber => k_is)
    (case es_InvalidNumber => k_is)
    (case et_InvalidNumber => k_is)
    (case eu_InvalidNumber => k_is)
    (case ev_InvalidNumber => rfl)
    (case ex_InvalidNumber => exact ⟨_, fun env => rfl⟩)
    (case ew_InvalidNumber => kernel_rfl)
    (case lcd => rfl)
    (case lC => k_is)
    (case lT => rfl)
    (case lP => exact PySem.W.km_tabs_of Y _ List.mem_cons_self)
    (case lN => kernel_rfl)
    (case lH => kernel_rfl)
    (case hm => kernel_rfl)
