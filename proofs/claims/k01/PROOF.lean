
import PyProof.Rows.All
import Wide.All
import OpenK.AllK
import Wide.FinOn
import HandS.ForMost
import HandS.IsInst
import HandS.Walk
import HandS.Wide
import HandS.Codes
import HandS.Gcd
import HandS.Zip
import KE.OsRunLaw
import HandS.ForExc
import HandS.ExcInit
import HandS.ExcSuper
import HandS.ExcField
import HandS.ExcValue
import HandS.ExcIs
import HandS.Lambda
import HandS.HotCalls
import HandS.TryMany
import HandS.EndTab
import HandS.ClsMeth
import HandS.Star
import HandS.Property
import HandS.Defaults
import HandS.MakeKw
import HandS.MakeKwOnly
import HandS.OwnEq
import HandS.FStr
import HandS.Text
import HandS.EndOwn
import HandS.Deep
import KE.KExcSuper
import KE.KSuper
import KE.KTryMore
import KE.KExcInit
import KE.KExcIs
import PySem.Challenge.RW_numbertypes_k01_errors_and_their_classes
set_option Elab.async false
set_option linter.all false
set_option maxRecDepth 100000
set_option maxHeartbeats 4000000
namespace My
open PySem PySem.Spec PyProof.Rows L2
/-! ### the text by places -/
def topS (i : Nat) : Stmt := PySem.Challenge.pw_numbertypes_k01_errors_and_their_classes.main.body.getD i (.Pass ⟨0, 0, 0, 0⟩)
abbrev s_l_bag : Stmt := topS 36
abbrev N_l_bag : List Str := ["_law_script", "_law_cells"]
theorem sc_l_bag : FnScope N_l_bag ["_law_script"] (defScope s_l_bag) := ⟨rfl, rfl, rfl, by decide +kernel, rfl, by decide +kernel, by decide +kernel⟩
abbrev s_l_draw : Stmt := topS 37
abbrev N_l_draw : List Str := ["_law_bag_here", "_law_many", "_law_cell", "_law_got"]
theorem sc_l_draw : FnScope N_l_draw ["_law_bag_here", "_law_many"] (defScope s_l_draw) := ⟨rfl, rfl, rfl, by decide +kernel, rfl, by decide +kernel, by decide +kernel⟩
abbrev s_l_pick : Stmt := topS 38
abbrev N_l_pick : List Str := ["_law_bag_here", "_law_some"]
theorem sc_l_pick : FnScope N_l_pick ["_law_bag_here", "_law_some"] (defScope s_l_pick) := ⟨rfl, rfl, rfl, by decide +kernel, rfl, by decide +kernel, by decide +kernel⟩
abbrev s_l_same : Stmt := topS 39
abbrev N_l_same : List Str := ["_law_found", "_law_due", "_law_a", "_law_b"]
theorem sc_l_same : FnScope N_l_same ["_law_found", "_law_due"] (defScope s_l_same) := ⟨rfl, rfl, rfl, by decide +kernel, rfl, by decide +kernel, by decide +kernel⟩
abbrev s_l_field : Stmt := topS 40
abbrev N_l_field : List Str := ["_law_e"]
theorem sc_l_field : FnScope N_l_field ["_law_e"] (defScope s_l_field) := ⟨rfl, rfl, rfl, by decide +kernel, rfl, by decide +kernel, by decide +kernel⟩
abbrev s_l_odd : Stmt := topS 41
abbrev N_l_odd : List Str := ["_law_bag_here"]
theorem sc_l_odd : FnScope N_l_odd ["_law_bag_here"] (defScope s_l_odd) := ⟨rfl, rfl, rfl, by decide +kernel, rfl, by decide +kernel, by decide +kernel⟩
abbrev s_l_by_word : Stmt := topS 42
abbrev N_l_by_word : List Str := ["_law_one", "_law_two", "_law_made", "_law_e"]
theorem sc_l_by_word : FnScope N_l_by_word ["_law_one", "_law_two"] (defScope s_l_by_word) := ⟨rfl, rfl, rfl, by decide +kernel, rfl, by decide +kernel, by decide +kernel⟩
abbrev s_law : Stmt := topS 43
abbrev N_law : List Str := ["_law_script", "_law_bag_here", "_law_one", "_law_two", "_law_made", "_law_codes", "_law_fields", "_law_e", "_law_k", "_law_late", "_law_kinds", "_law_first"]
theorem sc_law : FnScope N_law ["_law_script"] (defScope s_law) := ⟨rfl, rfl, rfl, by decide +kernel, rfl, by decide +kernel, by decide +kernel⟩
abbrev s_InvalidNumber_init : Stmt := inClass (topS 3) 0
abbrev s_InvalidThing_init : Stmt := inClass (topS 4) 0
abbrev s_InvalidRing_init : Stmt := inClass (topS 5) 0
abbrev s_InvalidTable_init : Stmt := inClass (topS 6) 0
abbrev s_InvalidName_init : Stmt := inClass (topS 7) 0
abbrev s_InvalidTerm_init : Stmt := inClass (topS 8) 0
abbrev s_InvalidHead_init : Stmt := inClass (topS 9) 0
abbrev s_InvalidStep_init : Stmt := inClass (topS 10) 0
abbrev s_InvalidText_init : Stmt := inClass (topS 11) 0
abbrev s_InvalidLine_init : Stmt := inClass (topS 12) 0
abbrev s_InvalidProduct_init : Stmt := inClass (topS 13) 0
abbrev s_InvalidOrder_init : Stmt := inClass (topS 14) 0
abbrev s_InvalidCommand_init : Stmt := inClass (topS 15) 0
abbrev s_DegreeTooHigh_init : Stmt := inClass (topS 16) 0
abbrev s_NoInverse_init : Stmt := inClass (topS 17) 0
abbrev s_NotCommuting_init : Stmt := inClass (topS 18) 0
abbrev s_NotWhole_init : Stmt := inClass (topS 19) 0
abbrev s_NotStraight_init : Stmt := inClass (topS 20) 0
abbrev s_NoUnit_init : Stmt := inClass (topS 21) 0
abbrev s_Unused_init : Stmt := inClass (topS 22) 0
abbrev s_WrongCount_init : Stmt := inClass (topS 23) 0
abbrev s_TooMany_init : Stmt := inClass (topS 24) 0
abbrev s_TooGreat_init : Stmt := inClass (topS 25) 0
abbrev s_EmptyRealm_init : Stmt := inClass (topS 26) 0
abbrev s_Unsound_init : Stmt := inClass (topS 27) 0
abbrev s_DuplicateName_init : Stmt := inClass (topS 28) 0
abbrev s_InUse_init : Stmt := inClass (topS 29) 0
abbrev s_Broken_init : Stmt := inClass (topS 30) 0
abbrev s_Full_init : Stmt := inClass (topS 31) 0
abbrev s_UnknownName_init : Stmt := inClass (topS 32) 0
abbrev s_UnknownNumber_init : Stmt := inClass (topS 33) 0
abbrev s_NothingLeft_init : Stmt := inClass (topS 34) 0
structure Blt (mg : Str → Option Value) : Prop where
  IndexError : mg "IndexError" = none
  LookupError : mg "LookupError" = none
  ValueError : mg "ValueError" = none
  abs : mg "abs" = none
  all : mg "all" = none
  bool : mg "bool" = none
  int : mg "int" = none
  isinstance : mg "isinstance" = none
  len : mg "len" = none
  list : mg "list" = none
  range : mg "range" = none
  str : mg "str" = none
  tuple : mg "tuple" = none
  zip : mg "zip" = none
theorem bb_IndexError : bootBuiltins "IndexError" = some (.type "IndexError") := by decide +kernel
theorem bb_LookupError : bootBuiltins "LookupError" = some (.type "LookupError") := by decide +kernel
theorem bb_ValueError : bootBuiltins "ValueError" = some (.type "ValueError") := by decide +kernel
theorem bb_abs : bootBuiltins "abs" = some (.builtin "abs") := by decide +kernel
theorem bb_all : bootBuiltins "all" = some (.builtin "all") := by decide +kernel
theorem bb_bool : bootBuiltins "bool" = some (.type "bool") := by decide +kernel
theorem bb_int : bootBuiltins "int" = some (.type "int") := by decide +kernel
theorem bb_isinstance : bootBuiltins "isinstance" = some (.builtin "isinstance") := by decide +kernel
theorem bb_len : bootBuiltins "len" = some (.builtin "len") := by decide +kernel
theorem bb_list : bootBuiltins "list" = some (.type "list") := by decide +kernel
theorem bb_range : bootBuiltins "range" = some (.type "range") := by decide +kernel
theorem bb_str : bootBuiltins "str" = some (.type "str") := by decide +kernel
theorem bb_tuple : bootBuiltins "tuple" = some (.type "tuple") := by decide +kernel
theorem bb_zip : bootBuiltins "zip" = some (.type "zip") := by decide +kernel
/-! ### an own def by its name -/
structure Has (P : Program) (w : World) (K : PySem.W.Frag) (mg : Str → Option Value) (base : Heap) (k : Nat) (x : Str) (ps : List Str) (sp : Sp) : Prop where
  ex : ∃ (f : Addr) (fd : FuncData), FnOk P w K mg base CX0 k f fd ps sp ∧ mg x = some (.ref f) ∧ PySem.W.keepIn K (.ref f) = true ∧ Binds K fd ps []
structure Fn (K : PySem.W.Frag) (mg : Str → Option Value) (x : Str) (st : Stmt) (ps : List Str) : Prop where
  ex : ∃ (f : Addr) (fd : FuncData), Fun K x x st f fd ∧ mg x = some (.ref f) ∧ Binds K fd ps []
section
variable {X : Cx} {k : Nat} {x : Str} {ps : List Str} {sp : Sp} {p pos : Pos} {e : Expr} {es : List Expr} {t : TA}
theorem pe_own (h : Has X.prog X.w X.K X.mg X.base k x ps sp) (hr : Room k X.A) (hg : Gl X x) (ha : PA X (e :: es) t) (hdb : (x == ("__debug__" : Str)) = false := by decide)
    (he : starEach (e :: es) X.env = (false, eval e X.env) :: starEach es X.env := by rfl) (hpl : (backTo pos (starEach es X.env)).any (·.1) = false := by rfl) : PE X (.Call (.Name x p) (e :: es) [] pos) (tCall sp [] E0 t) := by
  obtain ⟨f, fd, F, m, kp, b⟩ := h.ex
  exact pe_call F hr hg m kp b .nil pass0 ha hdb he hpl
theorem pe_own0 (h : Has X.prog X.w X.K X.mg X.base k x ps sp) (hr : Room k X.A) (hg : Gl X x) (hdb : (x == ("__debug__" : Str)) = false := by decide) : PE X (.Call (.Name x p) [] [] pos) (tCall sp [] E0 tNil) := by
  obtain ⟨f, fd, F, m, kp, b⟩ := h.ex
  exact pe_call0 F hr hg m kp b .nil pass0 hdb
theorem pe_gstr {z : Str} (h : ∃ u, X.mg x = some (.str z u)) (hg : Gl X x) (hdb : (x == ("__debug__" : Str)) = false := by decide) : PE X (.Name x pos) (tC (.str z)) := by
  obtain ⟨u, h⟩ := h
  exact pe_glob hg h ⟨_, rfl⟩ hdb
theorem pe_gint {z : Int} (h : ∃ u, X.mg x = some (.int z u)) (hg : Gl X x) (hdb : (x == ("__debug__" : Str)) = false := by decide) : PE X (.Name x pos) (tC (.int z)) := by
  obtain ⟨u, h⟩ := h
  exact pe_glob hg h ⟨_, rfl⟩ hdb
theorem pe_gref {a : Addr} (h : X.mg x = some (.ref a)) (hg : Gl X x) (hdb : (x == ("__debug__" : Str)) = false := by decide) : PE X (.Name x pos) (tC (.ref a)) := pe_glob hg h rfl hdb
end
section
variable {P : Program} {w : World} {K : PySem.W.Frag} {mg : Str → Option Value} {base : Heap}
theorem Fn.has {x : Str} {st : Stmt} {N ps : List Str} {k : Nat} {sp : Sp} (F : Fn K mg x st ps) (S : FnScope N ps (defScope st)) (len : ∀ vs H Q E, sp vs H Q E → vs.length = ps.length)
    (hbody : ∀ (f : Addr) (cdv : Value) (A : Around) (outer : List Env) (s : Shared) (H : Hp) (vs : List V) (Q : VK) (E : XK), Room k (A.deeper (envOfC x (defScope st) s.heap.objs.size f cdv)) → sp vs H Q E →
      ∃ t, PSs (cxOf CX0 P w K mg base N x (defScope st) f cdv A outer s H E).nox (defBody st) t ∧ t { nx := fun _ H' => Q .non H', rt := Q } (start N vs) H) : Has P w K mg base (k + 1) x ps sp := by
  obtain ⟨f, fd, F, m, b⟩ := F.ex
  exact ⟨f, fd, F.ok S len (hbody f), m, F.kp, b⟩
end
/-! ### heaps -/
theorem same_upd {H : Hp} {p : Addr} {o : HO} (h : H p = none) : Same H (upd H p o) := fun b x e => by
  rw [upd_ne (ne_of_none e h)]
  exact e
/-- all that was tracked is as it was, but for b -/
def Kp (b : Addr) (H H' : Hp) : Prop := ∀ a o, a ≠ b → H a = some o → H' a = some o
theorem Kp.refl (b : Addr) (H : Hp) : Kp b H H := fun _ _ _ h => h
theorem Kp.trans {b : Addr} {H H1 H2 : Hp} (x : Kp b H H1) (y : Kp b H1 H2) : Kp b H H2 := fun a o n h => y a o n (x a o n h)
theorem Kp.of {b : Addr} {H H' : Hp} (s : Same H H') : Kp b H H' := fun a o _ h => s a o h
theorem Kp.upd {b : Addr} {H : Hp} {o : HO} : Kp b H (upd H b o) := fun a u n h => by rw [upd_ne n]; exact h
/-! ### the bag -/
structure BgAt (H : Hp) (b c : Addr) (ns : List Int) (i r m : Int) : Prop where
  hb : H b = some (.lst [.ref c, .int i, .int r, .int m])
  hc : H c = some (.lst (ns.map V.int))
  len : ns.length ≤ 63
  i0 : 0 ≤ i
  r0 : 0 ≤ r
  m0 : 0 ≤ m
  m1 : m < 2147483648
def Bg (H : Hp) (b c : Addr) : Prop := ∃ ns i r m, BgAt H b c ns i r m
theorem bg_ne {H : Hp} {b c : Addr} {x : V} {r : List V} {ns : List Int} {a : Addr} (hb : H b = some (.lst (.ref a :: r))) (hc : H c = some (.lst (ns.map V.int))) : c ≠ b := by
  refine ne_of hc hb fun e => ?_
  cases ns with
  | nil => cases e
  | cons n t => cases e
theorem BgAt.ne {H : Hp} {b c : Addr} {ns : List Int} {i r m : Int} (h : BgAt H b c ns i r m) : c ≠ b := bg_ne (x := .non) h.hb h.hc
theorem BgAt.put {H : Hp} {b c : Addr} {ns : List Int} {i r m i' r' m' : Int} (h : BgAt H b c ns i r m) (i0 : 0 ≤ i') (r0 : 0 ≤ r') (m0 : 0 ≤ m') (m1 : m' < 2147483648) :
    BgAt (upd H b (.lst [.ref c, .int i', .int r', .int m'])) b c ns i' r' m' := ⟨upd_same, by rw [upd_ne h.ne]; exact h.hc, h.len, i0, r0, m0, m1⟩
theorem Bg.same {H H' : Hp} {b c : Addr} (h : Bg H b c) (s : Same H H') : Bg H' b c := by
  obtain ⟨ns, i, r, m, h⟩ := h
  exact ⟨ns, i, r, m, s _ _ h.hb, s _ _ h.hc, h.len, h.i0, h.r0, h.m0, h.m1⟩
theorem Bg.kp {H H' : Hp} {b c d : Addr} (h : Bg H b c) (hd : d ≠ b) (hc : d ≠ c) (s : Kp d H H') : Bg H' b c := by
  obtain ⟨ns, i, r, m, h⟩ := h
  exact ⟨ns, i, r, m, s _ _ hd.symm h.hb, s _ _ hc.symm h.hc, h.len, h.i0, h.r0, h.m0, h.m1⟩
theorem cut63 {xs : List V} (h : xs.length ≤ 63) : cutV xs none (some 63) = xs := by
  unfold cutV
  rw [HT.sIx_none, show HT.sIx xs.length xs.length (some 63) = min 63 xs.length from HT.sIx_nat xs.length xs.length 63, List.drop_zero, Nat.sub_zero]
  exact List.take_of_length_le (by omega)
theorem at_ofG {α : Type} {xs : List α} {z : Int} {j : Nat} {v : α} (e : z = (j : Int)) (h : xs[j]? = some v) : atI xs z = some v := by
  rw [e]
  exact atI_nat h
def spBag (K : PySem.W.Frag) : Sp := fun vs H Q _ => ∃ (a : Addr) (ns : List Int), vs = [.ref a] ∧ SqL K H a (ns.map V.int) ∧ ns.length ≤ 63 ∧ ∀ (b c : Addr) (H' : Hp), Same H H' → H b = none → Bg H' b c → Q (.ref b) H'
def spDraw : Sp := fun vs H Q _ => ∃ (b c : Addr) (many : Int), vs = [.ref b, .int many] ∧ Bg H b c ∧ 1 ≤ many ∧ many < 2 ^ 200 ∧ ∀ (v : Int) (H' : Hp), 0 ≤ v → v < many → Kp b H H' → Bg H' b c → Q (.int v) H'
section
variable {P : Program} {w : World} {K : PySem.W.Frag} {mg : Str → Option Value} {base : Heap}
theorem ok_bag (F : Fn K mg "_law_bag" s_l_bag ["_law_script"]) (B : Blt mg) : Has P w K mg base 1 "_law_bag" ["_law_script"] (spBag K) := by
  refine F.has sc_l_bag (fun vs H Q E h => ?_) (fun f cdv A outer s H vs Q E hr h => ?_)
  · obtain ⟨a, ns, rfl, _⟩ := h
    rfl
  obtain ⟨a, ns, rfl, hS, hl, q⟩ := h
  refine ⟨_, (pss_cons (ps_set (i := 1) sc_l_bag.nd rfl (Or.inl rfl) (pe_callTy call_list_of (by rfl) B.list bb_list (pa_cons (pe_slice sl_list (pv 0) po_none (po_some pe_int)) pa_nil)))
      (pss_one (ps_ret (pe_lst (pa_cons (pv 1) (pa_cons pe_int (pa_cons pe_int (pa_cons (pe_op op_add pe_int (pe_op op_mul pe_int (pe_callB call_len (by rfl) B.len bb_len (pa_cons (pv 1) pa_nil)))) pa_nil)))))))), ?_⟩
  have hl' : (ns.map V.int).length ≤ 63 := by rw [List.length_map]; exact hl
  refine ⟨_, rfl, 63, rfl, a, _, rfl, hS, fun p hp => ?_⟩
  rw [cut63 hl']
  refine ⟨p, _, rfl, .inl (SqL.of upd_same), fun c hc => ?_⟩
  have sm : Same H (upd (upd H p (.lst (ns.map V.int))) c (.lst (ns.map V.int))) := (same_upd hp).trans (same_upd hc)
  refine ⟨_, rfl, _, rfl, .ref c, _, rfl, .inl ⟨_, SqL.of upd_same, rfl⟩, _, _, rfl, rfl, .inl ⟨by decide, by decide⟩, _, _, rfl, rfl, (by show 4 ≤ sizeLine; decide), fun b hb => ?_⟩
  refine q b c _ (sm.trans (same_upd hb)) (sm.free hb) ⟨ns, 0, 0, _, upd_same, ?_, hl, Int.le_refl _, Int.le_refl _, ?_, ?_⟩
  · rw [upd_ne (ne_of_none upd_same hb)]
    exact upd_same
  · omega
  · rw [List.length_map]
    omega
theorem div200 {y z : Int} (h : 1 ≤ z) (h2 : z < 2 ^ 200) : CDivW y z := by
  refine wide_div (b := 200) (by omega) ?_ (by decide) (by decide)
  omega
theorem ok_draw (F : Fn K mg "_law_draw" s_l_draw ["_law_bag_here", "_law_many"]) (B : Blt mg) : Has P w K mg base 1 "_law_draw" ["_law_bag_here", "_law_many"] spDraw := by
  refine F.has sc_l_draw (fun vs H Q E h => ?_) (fun f cdv A outer s H vs Q E hr h => ?_)
  · obtain ⟨a, c, ns, rfl, _⟩ := h
    rfl
  obtain ⟨b, c, many, rfl, hB, h1, h2, q⟩ := h
  refine ⟨_, (C8.pss_cut (ps_if (PW.pt (pw_and (pt_cmpR op_eq (pe_ix ix_list (pv 0) pe_int (fun _ _ => rfl)) pe_int (nomark _)) (pw_and1 (pt_cmpR op_lt (pe_ix ix_list (pv 0) pe_int (fun _ _ => rfl)) (pe_callB call_len (by rfl) B.len bb_len (pa_cons (pe_ix ix_list (pv 0) pe_int (fun _ _ => rfl)) pa_nil)) (nomark _)))))
        (pss_cons (ps_set (i := 2) sc_l_draw.nd rfl (Or.inl rfl) (pe_ix ix_list (pe_ix ix_list (pv 0) pe_int (fun _ _ => rfl)) (pe_ix ix_list (pv 0) pe_int (fun _ _ => rfl)) (fun _ _ => rfl)))
      (pss_cons (ps_asg (pe_op op_add (pe_ix ix_list (pv 0) pe_int (fun _ _ => rfl)) pe_int) (pg_sub (pv 0) pe_int set_list))
      (pss_one (ps_if (pt_cmpR op_ge (pe_callB call_abs (by rfl) B.abs bb_abs (pa_cons (pv 2) pa_nil)) (pe_op op_pow pe_int pe_int) (nomark _))
        (pss_one (ps_asg (pe_callB call_abs (by rfl) B.abs bb_abs (pa_cons (pv 2) pa_nil)) (pg_sub (pv 0) pe_int set_list)))
        (pss_one (ps_asg (pe_op op_mod (pe_callTy call_int1 (by rfl) B.int bb_int (pa_cons (pe_op op_add (pe_op op_add (pe_op op_mul (pe_ix ix_list (pv 0) pe_int (fun _ _ => rfl)) pe_int) (pe_op op_mul (pe_op op_mod (pe_callTy call_int1 (by rfl) B.int bb_int (pa_cons (pv 2) pa_nil)) pe_int) pe_int)) pe_int) pa_nil)) pe_int) (pg_sub (pv 0) pe_int set_list)))))))
        pss_nil)
      (pss_cons (ps_if (pt_cmpR op_gt (pe_ix ix_list (pv 0) pe_int (fun _ _ => rfl)) pe_int (nomark _))
        (pss_cons (ps_set (i := 3) sc_l_draw.nd rfl (Or.inl rfl) (pe_op op_mod (pe_callTy call_int1 (by rfl) B.int bb_int (pa_cons (pe_ix ix_list (pv 0) pe_int (fun _ _ => rfl)) pa_nil)) (pv 1)))
      (pss_cons (ps_asg (pe_op op_fdivW (pe_ix ix_list (pv 0) pe_int (fun _ _ => rfl)) (pv 1)) (pg_sub (pv 0) pe_int set_list))
      (pss_one (ps_ret (pv 3)))))
        pss_nil)
      (pss_cons (ps_asg (pe_op op_mod (pe_callTy call_int1 (by rfl) B.int bb_int (pa_cons (pe_op op_add (pe_op op_add (pe_op op_mul (pe_op op_mul (pe_ix ix_list (pv 0) pe_int (fun _ _ => rfl)) (pe_ix ix_list (pv 0) pe_int (fun _ _ => rfl))) pe_int) (pe_op op_mul (pe_ix ix_list (pv 0) pe_int (fun _ _ => rfl)) pe_int)) pe_int) pa_nil)) pe_int) (pg_sub (pv 0) pe_int set_list))
      (pss_one (ps_ret (pe_op op_mod (pe_callTy call_int1 (by rfl) B.int bb_int (pa_cons (pe_op op_fdiv (pe_ix ix_list (pv 0) pe_int (fun _ _ => rfl)) pe_int) pa_nil)) (pv 1))))))), ?_⟩
  refine ⟨fun σ' H' => ∃ y, σ' = [some (.ref b), some (.int many), y, none] ∧ Kp b H H' ∧ Bg H' b c, ?_, ?_⟩
  · obtain ⟨ns, i, r, m, g⟩ := hB
    refine ⟨_, rfl, b, _, 2, _, rfl, rfl, SqL.of g.hb, atI_nat (j := 2) rfl, rfl, _, rfl, ite2 (fun e => ?_) (fun e => ?_)⟩
    · refine ⟨_, rfl, b, _, 1, _, rfl, rfl, SqL.of g.hb, atI_nat (j := 1) rfl, _, rfl, b, _, 0, _, rfl, rfl, SqL.of g.hb, atI_nat (j := 0) rfl, .ref c, _, rfl, .inl ⟨_, SqL.of g.hc, rfl⟩, _, _, rfl, rfl, _, rfl, ite2 (fun e2 => ?_) (fun e2 => ?_)⟩
      · have hi : i < ((ns.map V.int).length : Int) := of_decide_eq_true e2
        rw [List.length_map] at hi
        have i0 := g.i0
        obtain ⟨x, hx⟩ : ∃ x : Int, atI (ns.map V.int) i = some (.int x) := by
          have hk : i.toNat < ns.length := by omega
          have ek : i = ((i.toNat : Nat) : Int) := by omega
          exact ⟨ns[i.toNat], at_of ek (by rw [List.getElem?_map]; simp [hk])⟩
        refine ⟨_, rfl, b, _, 0, _, rfl, rfl, SqL.of g.hb, atI_nat (j := 0) rfl, _, rfl, b, _, 1, _, rfl, rfl, SqL.of g.hb, atI_nat (j := 1) rfl, c, _, i, .int x, rfl, rfl, SqL.of g.hc, hx, ?_⟩
        refine ⟨_, rfl, b, _, 1, _, rfl, rfl, SqL.of g.hb, atI_nat (j := 1) rfl, _, _, rfl, rfl, _, rfl, b, _, 1, 1, rfl, rfl, g.hb, rfl, ?_⟩
        have g1 := g.put (i' := i + 1) (r' := r) (m' := m) (by omega) g.r0 g.m0 g.m1
        refine ⟨_, rfl, x, rfl, _, _, rfl, rfl, ⟨by decide, by decide, by decide⟩, _, _, rfl, rfl, _, rfl, ite2 (fun e3 => ?_) (fun e3 => ?_)⟩
        · refine ⟨_, rfl, x, rfl, _, rfl, b, _, 2, 2, rfl, rfl, g1.hb, rfl, ?_⟩
          refine ⟨_, rfl, Kp.upd.trans Kp.upd, ns, i + 1, _, m, g1.put g1.i0 ?_ g1.m0 g1.m1⟩
          split <;> omega
        · refine ⟨_, rfl, b, _, 3, _, rfl, rfl, SqL.of g1.hb, atI_nat (j := 3) rfl, _, _, rfl, rfl, .inr ⟨by decide, by decide⟩, _, rfl, .inl ⟨_, rfl, _, _, rfl, rfl, (show (0 : Int) < 1000171 by decide), _, _, rfl, rfl, .inr ⟨by decide, by decide⟩, _, _, rfl, rfl, _, _, rfl, rfl, .inl ⟨_, rfl, _, _, rfl, rfl, (show (0 : Int) < 2147483563 by decide), _, rfl, b, _, 3, 3, rfl, rfl, g1.hb, rfl, ?_⟩⟩⟩
          refine ⟨_, rfl, Kp.upd.trans Kp.upd, ns, i + 1, r, _, g1.put g1.i0 g1.r0 (Int.emod_nonneg _ (by decide)) ?_⟩
          have z := Int.emod_lt_of_pos (m * 41177 + x % 1000171 * 907 + 59) (show (0 : Int) < 2147483563 by decide)
          omega
      · exact ⟨_, rfl, Kp.refl _ _, ns, i, r, m, g⟩
    · exact ⟨_, rfl, Kp.refl _ _, ns, i, r, m, g⟩
  · rintro σ' H' ⟨y, rfl, kp, ns, i, r, m, g⟩
    refine ⟨_, rfl, b, _, 2, _, rfl, rfl, SqL.of g.hb, atI_nat (j := 2) rfl, _, _, rfl, rfl, _, rfl, ite2 (fun e => ?_) (fun e => ?_)⟩
    · have hm : 0 < many := by omega
      refine ⟨_, rfl, b, _, 2, _, rfl, rfl, SqL.of g.hb, atI_nat (j := 2) rfl, .inl ⟨_, rfl, _, rfl, _, _, rfl, rfl, hm, ?_⟩⟩
      refine ⟨_, rfl, b, _, 2, _, rfl, rfl, SqL.of g.hb, atI_nat (j := 2) rfl, _, rfl, _, _, rfl, rfl, div200 h1 h2, _, rfl, b, _, 2, 2, rfl, rfl, g.hb, rfl, ?_⟩
      have g1 := g.put (i' := i) (r' := r / many) (m' := m) g.i0 (Int.ediv_nonneg g.r0 (by omega)) g.m0 g.m1
      refine ⟨_, rfl, q _ _ (Int.emod_nonneg _ (by omega)) (Int.emod_lt_of_pos _ hm) (kp.trans Kp.upd) ⟨ns, i, _, m, g1⟩⟩
    · refine ⟨_, rfl, b, _, 3, _, rfl, rfl, SqL.of g.hb, atI_nat (j := 3) rfl, _, rfl, b, _, 3, _, rfl, rfl, SqL.of g.hb, atI_nat (j := 3) rfl, _, _, rfl, rfl, ?_, ?_⟩
      · have h3 := g.m0
        have h4 := g.m1
        exact .inl ⟨by omega, by omega⟩
      · refine ⟨_, _, rfl, rfl, .inr ⟨by decide, by decide⟩, _, rfl, b, _, 3, _, rfl, rfl, SqL.of g.hb, atI_nat (j := 3) rfl, _, _, rfl, rfl, .inr ⟨by decide, by decide⟩, _, _, rfl, rfl, _, _, rfl, rfl, .inl ⟨_, rfl, _, _, rfl, rfl, (show (0 : Int) < 2147483579 by decide), _, rfl, b, _, 3, 3, rfl, rfl, g.hb, rfl, ?_⟩⟩
        have z := Int.emod_lt_of_pos (m * m * 3 + m * 30089 + 1700047) (show (0 : Int) < 2147483579 by decide)
        have g1 := g.put (i' := i) (r' := r) (m' := (m * m * 3 + m * 30089 + 1700047) % 2147483579) g.i0 g.r0 (Int.emod_nonneg _ (by decide)) (by omega)
        have hm : 0 < many := by omega
        refine ⟨_, rfl, b, _, 3, _, rfl, rfl, SqL.of g1.hb, atI_nat (j := 3) rfl, _, _, rfl, rfl, ⟨by decide, by decide⟩, .inl ⟨_, rfl, _, rfl, _, _, rfl, rfl, hm, ?_⟩⟩
        exact q _ _ (Int.emod_nonneg _ (by omega)) (Int.emod_lt_of_pos _ hm) (kp.trans Kp.upd) ⟨ns, i, r, _, g1⟩
/-- an item of some list or sign of some text, by a draw -/
def spPick (K : PySem.W.Frag) : Sp := fun vs H Q _ => ∃ (b c : Addr) (x : V), vs = [.ref b, x] ∧ Bg H b c ∧
  ((∃ (a : Addr) (xs : List V), x = .ref a ∧ a ≠ b ∧ H a = some (.lst xs) ∧ xs ≠ [] ∧ xs.length ≤ 1000 ∧ ∀ (v : V) (H' : Hp), v ∈ xs → Kp b H H' → Bg H' b c → Q v H') ∨
   (∃ z : Str, x = .str z ∧ 0 < z.cps.size ∧ z.cps.size ≤ 1000 ∧ ∀ (d : Nat) (H' : Hp), d ∈ z.cps.toList → Kp b H H' → Bg H' b c → Q (.str ⟨#[d]⟩) H'))
theorem ok_pick (F : Fn K mg "_law_pick" s_l_pick ["_law_bag_here", "_law_some"]) (B : Blt mg) (G_l_draw : Has P w K mg base 1 "_law_draw" ["_law_bag_here", "_law_many"] spDraw) : Has P w K mg base 2 "_law_pick" ["_law_bag_here", "_law_some"] (spPick K) := by
  refine F.has sc_l_pick (fun vs H Q E h => ?_) (fun f cdv A outer s H vs Q E hr h => ?_)
  · obtain ⟨a, c, ns, rfl, _⟩ := h
    rfl
  obtain ⟨b, c, x, rfl, hB, h⟩ := h
  refine ⟨_, (pss_one (ps_ret (pe_ix ix_seq (pv 1) (pe_own G_l_draw (hr.mono (by decide)) (by rfl) (pa_cons (pv 0) (pa_cons (pe_callB call_len (by rfl) B.len bb_len (pa_cons (pv 1) pa_nil)) pa_nil))) (fun _ _ => rfl)))), ?_⟩
  rcases h with ⟨a, xs, rfl, hab, ha, hne, hlen, q⟩ | ⟨z, rfl, h0, hlen, q⟩
  · have hpos : 0 < xs.length := List.length_pos_iff.mpr hne
    refine ⟨_, rfl, _, rfl, _, rfl, .ref a, xs.length, rfl, .inl ⟨xs, SqL.of ha, rfl⟩, b, c, _, rfl, hB, by omega, by omega, fun v H' v0 v1 kp hB' => ?_⟩
    have hk : v.toNat < xs.length := by omega
    refine .inl ⟨a, xs, v, xs[v.toNat], rfl, rfl, SqL.of (kp _ _ hab ha), at_of (show v = ((v.toNat : Nat) : Int) by omega) (List.getElem?_eq_getElem hk), ?_⟩
    exact q _ _ (List.getElem_mem hk) kp hB'
  · refine ⟨_, rfl, _, rfl, _, rfl, .str z, z.length, rfl, ⟨by show z.cps.size ≤ sizeLine; exact Nat.le_of_lt (small1000 hlen), rfl⟩, b, c, _, rfl, hB, by show (1 : Int) ≤ (z.cps.size : Int); omega, by show (z.cps.size : Int) < 2 ^ 200; omega, fun v H' v0 v1 kp hB' => ?_⟩
    have hk : v.toNat < z.cps.toList.length := by
      have v1' : v < (z.cps.size : Int) := v1
      rw [Array.length_toList]
      omega
    refine .inr (.inr ⟨z, v, z.cps.toList[v.toNat], rfl, rfl, by show z.cps.size ≤ sizeLine; exact Nat.le_of_lt (small1000 hlen), at_ofG (show v = ((v.toNat : Nat) : Int) by omega) (List.getElem?_eq_getElem hk), ?_⟩)
    exact q _ _ (List.getElem_mem hk) kp hB'
end
/-! ### the same data -/
def leafV : V → Prop
  | .non => True
  | .bl _ => True
  | .int _ => True
  | .str _ => True
  | _ => False
/-- two values that stand for the same data, so deep at most -/
def Eqd (H : Hp) : Nat → V → V → Prop
  | 0 => fun _ _ => False
  | n + 1 => fun x y => (x = y ∧ leafV x) ∨
    (∃ (a b : Addr) (xs ys : List V), x = .ref a ∧ y = .ref b ∧ H a = some (.lst xs) ∧ H b = some (.lst ys) ∧ xs.length ≤ 1000 ∧ Paired (Eqd H n) xs ys) ∨
    (∃ (a b : Addr) (xs ys : List V), x = .ref a ∧ y = .ref b ∧ H a = some (.tup xs) ∧ H b = some (.tup ys) ∧ xs.length ≤ 1000 ∧ Paired (Eqd H n) xs ys)
theorem Eqd.leaf {H : Hp} {n : Nat} {x : V} (h : leafV x) : Eqd H (n + 1) x x := .inl ⟨rfl, h⟩
theorem Eqd.lst {H : Hp} {n : Nat} {a b : Addr} {xs ys : List V} (ha : H a = some (.lst xs)) (hb : H b = some (.lst ys)) (hl : xs.length ≤ 1000) (h : Paired (Eqd H n) xs ys) : Eqd H (n + 1) (.ref a) (.ref b) := .inr (.inl ⟨a, b, xs, ys, rfl, rfl, ha, hb, hl, h⟩)
theorem Eqd.tup {H : Hp} {n : Nat} {a b : Addr} {xs ys : List V} (ha : H a = some (.tup xs)) (hb : H b = some (.tup ys)) (hl : xs.length ≤ 1000) (h : Paired (Eqd H n) xs ys) : Eqd H (n + 1) (.ref a) (.ref b) := .inr (.inr ⟨a, b, xs, ys, rfl, rfl, ha, hb, hl, h⟩)
theorem Eqd.mono {H H' : Hp} (s : Same H H') : ∀ {n : Nat} {x y : V}, Eqd H n x y → Eqd H' n x y
  | 0, _, _, h => h
  | n + 1, x, y, h => by
    rcases h with h | ⟨a, b, xs, ys, h1, h2, h3, h4, h5, h6⟩ | ⟨a, b, xs, ys, h1, h2, h3, h4, h5, h6⟩
    · exact .inl h
    · exact .inr (.inl ⟨a, b, xs, ys, h1, h2, s _ _ h3, s _ _ h4, h5, Paired.mapP h6 fun _ _ z => Eqd.mono s z⟩)
    · exact .inr (.inr ⟨a, b, xs, ys, h1, h2, s _ _ h3, s _ _ h4, h5, Paired.mapP h6 fun _ _ z => Eqd.mono s z⟩)
theorem Eqd.up {H : Hp} : ∀ {n : Nat} {x y : V}, Eqd H n x y → Eqd H (n + 1) x y
  | 0, _, _, h => h.elim
  | n + 1, x, y, h => by
    rcases h with h | ⟨a, b, xs, ys, h1, h2, h3, h4, h5, h6⟩ | ⟨a, b, xs, ys, h1, h2, h3, h4, h5, h6⟩
    · exact .inl h
    · exact .inr (.inl ⟨a, b, xs, ys, h1, h2, h3, h4, h5, Paired.mapP h6 fun _ _ z => Eqd.up z⟩)
    · exact .inr (.inr ⟨a, b, xs, ys, h1, h2, h3, h4, h5, Paired.mapP h6 fun _ _ z => Eqd.up z⟩)
theorem paired_get {F : V → V → Prop} : ∀ {xs ys : List V} {i : Nat} {x y : V}, Paired F xs ys → xs[i]? = some x → ys[i]? = some y → F x y
  | _, _, i, x, y, .nil, hx, _ => by simp at hx
  | _, _, 0, x, y, .cons r _, hx, hy => by
    cases hx
    cases hy
    exact r
  | _, _, i + 1, x, y, .cons _ t, hx, hy => paired_get t (i := i) (by simpa using hx) (by simpa using hy)
theorem paired_len {F : V → V → Prop} : ∀ {xs ys : List V}, Paired F xs ys → xs.length = ys.length
  | _, _, .nil => rfl
  | _, _, .cons _ t => congrArg (· + 1) (paired_len t)
theorem paired_refl {F : V → V → Prop} : ∀ {xs : List V}, (∀ x ∈ xs, F x x) → Paired F xs xs
  | [], _ => .nil
  | x :: r, h => .cons (h x List.mem_cons_self) (paired_refl fun y hy => h y (List.mem_cons_of_mem _ hy))
/-- isinstance(x, T), T a built-in class -/
theorem is_b {K : PySem.W.Frag} {H : Hp} {x : V} {t T : String} {b : Bool} {Q : VK} (ty : TyX K H x (.type t)) (k : kitB t T = some b) (h : Q (.bl b) H) : rIsi K [x, .ty T] H Q :=
  ⟨x, .ty T, .type t, .type T, b, rfl, .ty _, ty, kit_ty k, h⟩
theorem ite_of {c : Prop} [Decidable c] {A B : Prop} (hc : c) (h : A) : if c then A else B := by
  rw [if_pos hc]
  exact h
theorem ite_no {c : Prop} [Decidable c] {A B : Prop} (hc : ¬ c) (h : B) : if c then A else B := by
  rw [if_neg hc]
  exact h
theorem tYes_ok {σ : L2.St} {H : Hp} {A B : Hp → Prop} (h : A H) : tYes σ H (fun b H3 => if b = true then A H3 else B H3) := by
  show (if true = true then A H else B H)
  rw [if_pos rfl]
  exact h
theorem walk_zipT {K : PySem.W.Frag} {a b : Addr} {xs ys : List V} {n : Nat} (hn : n = min xs.length ys.length) : Walk (RZ.ItzT K a b) n (fun H => SqT K H a xs ∧ SqT K H b ys) (YPair (fun i => xs[i]?) (fun i => ys[i]?)) := by
  subst hn
  refine ⟨fun i _ hi q => ?_, fun _ q => ⟨xs, ys, q.1, q.2, by omega⟩, fun i H v H' _ q y => ?_⟩
  · have h1 : i < xs.length := by omega
    have h2 : i < ys.length := by omega
    exact ⟨xs, ys, xs[i], ys[i], q.1, q.2, by simp [h1], by simp [h2]⟩
  · obtain ⟨T, x, z, h1, h2, h3, h4, h5⟩ := y
    exact ⟨T, x, z, h1, h2, h3, h4 xs q.1, h5 ys q.2⟩
def spSame (n : Nat) : Sp := fun vs H Q _ => ∃ x y : V, vs = [x, y] ∧ Eqd H n x y ∧ ∀ H', Same H H' → Q (.bl true) H'
section
variable {P : Program} {w : World} {K : PySem.W.Frag} {mg : Str → Option Value} {base : Heap}
theorem ok_same {n : Nat} (F : Fn K mg "_law_same" s_l_same ["_law_found", "_law_due"]) (B : Blt mg) (G_l_same : Has P w K mg base n "_law_same" ["_law_found", "_law_due"] (spSame n)) :
    Has P w K mg base (n + 1) "_law_same" ["_law_found", "_law_due"] (spSame (n + 1)) := by
  refine F.has sc_l_same (fun vs H Q E h => ?_) (fun f cdv A outer s H vs Q E hr h => ?_)
  · obtain ⟨a, ns, rfl, _⟩ := h
    rfl
  obtain ⟨x, y, rfl, h, q⟩ := h
  refine ⟨_, (pss_cons (ps_if (pt_val (pe_callB call_isi (by rfl) B.isinstance bb_isinstance (pa_cons (pv 1) (pa_cons (pe_bltn (v := .ty "list") (by rfl) B.list bb_list rfl) pa_nil))))
        (pss_one (ps_ret (pe_and (pe_callB call_isi (by rfl) B.isinstance bb_isinstance (pa_cons (pv 0) (pa_cons (pe_bltn (v := .ty "list") (by rfl) B.list bb_list rfl) pa_nil))) (pe_and (pe_cmpR op_eq (pe_callB call_len (by rfl) B.len bb_len (pa_cons (pv 0) pa_nil)) (pe_callB call_len (by rfl) B.len bb_len (pa_cons (pv 1) pa_nil)) (nomark _)) (pe_one (pe_callB (cr_all rfl) (by rfl) B.all bb_all (pa_cons (pe_lc (own := [("_law_a", 2), ("_law_b", 3)]) (g := gTup K 2 (gCons (gName 2) (gCons (gName 3) gNil))) (tt := tYes) (by rfl) sc_l_same.nd (RZ.pi_zipA (by rfl) B.zip (pa_cons (pv 0) (pa_cons (pv 1) pa_nil))) (blkOk_by (own := [("_law_a", 2), ("_law_b", 3)]) (N := N_l_same) (sc := defScope s_l_same) (by decide +kernel)) (fun _ _ _ _ _ => (pg_tup rfl (pgs_cons (pg_name (i := 2) sc_l_same.nd rfl (Or.inl rfl)) (pgs_cons (pg_name (i := 3) sc_l_same.nd rfl (Or.inl rfl)) pgs_nil)))) (fun _ _ _ _ _ => pts_nil) (fun _ _ _ _ _ => (pe_own G_l_same hr (by rfl) (pa_cons (pv 2) (pa_cons (pv 3) pa_nil))))) pa_nil)))))))
        pss_nil)
      (pss_cons (ps_if (pt_val (pe_callB call_isi (by rfl) B.isinstance bb_isinstance (pa_cons (pv 1) (pa_cons (pe_bltn (v := .ty "tuple") (by rfl) B.tuple bb_tuple rfl) pa_nil))))
        (pss_one (ps_ret (pe_and (pe_callB call_isi (by rfl) B.isinstance bb_isinstance (pa_cons (pv 0) (pa_cons (pe_bltn (v := .ty "tuple") (by rfl) B.tuple bb_tuple rfl) pa_nil))) (pe_and (pe_cmpR op_eq (pe_callB call_len (by rfl) B.len bb_len (pa_cons (pv 0) pa_nil)) (pe_callB call_len (by rfl) B.len bb_len (pa_cons (pv 1) pa_nil)) (nomark _)) (pe_one (pe_callB (cr_all rfl) (by rfl) B.all bb_all (pa_cons (pe_lc (own := [("_law_a", 2), ("_law_b", 3)]) (g := gTup K 2 (gCons (gName 2) (gCons (gName 3) gNil))) (tt := tYes) (by rfl) sc_l_same.nd (RZ.pi_zipA (by rfl) B.zip (pa_cons (pv 0) (pa_cons (pv 1) pa_nil))) (blkOk_by (own := [("_law_a", 2), ("_law_b", 3)]) (N := N_l_same) (sc := defScope s_l_same) (by decide +kernel)) (fun _ _ _ _ _ => (pg_tup rfl (pgs_cons (pg_name (i := 2) sc_l_same.nd rfl (Or.inl rfl)) (pgs_cons (pg_name (i := 3) sc_l_same.nd rfl (Or.inl rfl)) pgs_nil)))) (fun _ _ _ _ _ => pts_nil) (fun _ _ _ _ _ => (pe_own G_l_same hr (by rfl) (pa_cons (pv 2) (pa_cons (pv 3) pa_nil))))) pa_nil)))))))
        pss_nil)
      (pss_cons (ps_if (PW.pt (pw_or (pt_cmp (pc_isN (pv 1))) (pw_or1 (pt_cmp (pc_isN (pv 0))))))
        (pss_one (ps_ret (pe_and (pe_cmp (pc_isN (pv 1))) (pe_one (pe_cmp (pc_isN (pv 0)))))))
        pss_nil)
      (pss_cons (ps_if (PW.pt (pw_or (pt_val (pe_callB call_isi (by rfl) B.isinstance bb_isinstance (pa_cons (pv 1) (pa_cons (pe_bltn (v := .ty "bool") (by rfl) B.bool bb_bool rfl) pa_nil)))) (pw_or1 (pt_val (pe_callB call_isi (by rfl) B.isinstance bb_isinstance (pa_cons (pv 0) (pa_cons (pe_bltn (v := .ty "bool") (by rfl) B.bool bb_bool rfl) pa_nil)))))))
        (pss_one (ps_ret (pe_and (pe_callB call_isi (by rfl) B.isinstance bb_isinstance (pa_cons (pv 1) (pa_cons (pe_bltn (v := .ty "bool") (by rfl) B.bool bb_bool rfl) pa_nil))) (pe_and (pe_callB call_isi (by rfl) B.isinstance bb_isinstance (pa_cons (pv 0) (pa_cons (pe_bltn (v := .ty "bool") (by rfl) B.bool bb_bool rfl) pa_nil))) (pe_one (pe_cmpR op_eq (pv 0) (pv 1) (nomark _)))))))
        pss_nil)
      (pss_cons (ps_if (pt_val (pe_callB call_isi (by rfl) B.isinstance bb_isinstance (pa_cons (pv 1) (pa_cons (pe_bltn (v := .ty "int") (by rfl) B.int bb_int rfl) pa_nil))))
        (pss_one (ps_ret (pe_and (pe_callB call_isi (by rfl) B.isinstance bb_isinstance (pa_cons (pv 0) (pa_cons (pe_bltn (v := .ty "int") (by rfl) B.int bb_int rfl) pa_nil))) (pe_one (pe_cmpR op_eq (pv 0) (pv 1) (nomark _))))))
        pss_nil)
      (pss_one (ps_ret (pe_and (pe_callB call_isi (by rfl) B.isinstance bb_isinstance (pa_cons (pv 0) (pa_cons (pe_bltn (v := .ty "str") (by rfl) B.str bb_str rfl) pa_nil))) (pe_and (pe_callB call_isi (by rfl) B.isinstance bb_isinstance (pa_cons (pv 1) (pa_cons (pe_bltn (v := .ty "str") (by rfl) B.str bb_str rfl) pa_nil))) (pe_one (pe_cmpR op_eq (pv 0) (pv 1) (nomark _)))))))))))), ?_⟩
  rcases h with ⟨rfl, hx⟩ | ⟨a, b, xs, ys, rfl, rfl, ha, hb, hl, hp⟩ | ⟨a, b, xs, ys, rfl, rfl, ha, hb, hl, hp⟩
  · cases x with
    | non =>
      refine ⟨_, rfl, _, .ty "list", .type "NoneType", .type "list", false, rfl, .ty _, .base .non, kit_ty (by decide +kernel), _, rfl, iteF ?_⟩
      refine ⟨_, rfl, _, .ty "tuple", .type "NoneType", .type "tuple", false, rfl, .ty _, .base .non, kit_ty (by decide +kernel), _, rfl, iteF ?_⟩
      refine ⟨_, rfl, _, rfl, ite_of (decide_eq_true rfl) ?_⟩
      refine ⟨_, rfl, _, rfl, ite_of (decide_eq_true rfl) ⟨_, rfl, ?_⟩⟩
      exact q _ (Same.refl _)
    | bl x =>
      refine ⟨_, rfl, _, .ty "list", .type "bool", .type "list", false, rfl, .ty _, .base (.bl _), kit_ty (by decide +kernel), _, rfl, iteF ?_⟩
      refine ⟨_, rfl, _, .ty "tuple", .type "bool", .type "tuple", false, rfl, .ty _, .base (.bl _), kit_ty (by decide +kernel), _, rfl, iteF ?_⟩
      refine ⟨_, rfl, _, rfl, ite_no (by simp) ⟨_, rfl, _, rfl, ite_no (by simp) ?_⟩⟩
      refine ⟨_, rfl, _, .ty "bool", .type "bool", .type "bool", true, rfl, .ty _, .base (.bl _), kit_ty (by decide +kernel), _, rfl, iteT ?_⟩
      refine ⟨_, rfl, _, .ty "bool", .type "bool", .type "bool", true, rfl, .ty _, .base (.bl _), kit_ty (by decide +kernel), _, rfl, iteT ⟨_, rfl, _, .ty "bool", .type "bool", .type "bool", true, rfl, .ty _, .base (.bl _), kit_ty (by decide +kernel), _, rfl, iteT ⟨_, rfl, _, rfl, rfl, ?_⟩⟩⟩
      rw [decide_eq_true rfl]
      exact q _ (Same.refl _)
    | int x =>
      refine ⟨_, rfl, _, .ty "list", .type "int", .type "list", false, rfl, .ty _, .base (.int _), kit_ty (by decide +kernel), _, rfl, iteF ?_⟩
      refine ⟨_, rfl, _, .ty "tuple", .type "int", .type "tuple", false, rfl, .ty _, .base (.int _), kit_ty (by decide +kernel), _, rfl, iteF ?_⟩
      refine ⟨_, rfl, _, rfl, ite_no (by simp) ⟨_, rfl, _, rfl, ite_no (by simp) ?_⟩⟩
      refine ⟨_, rfl, _, .ty "bool", .type "int", .type "bool", false, rfl, .ty _, .base (.int _), kit_ty (by decide +kernel), _, rfl, iteF ⟨_, rfl, _, .ty "bool", .type "int", .type "bool", false, rfl, .ty _, .base (.int _), kit_ty (by decide +kernel), _, rfl, iteF ?_⟩⟩
      refine ⟨_, rfl, _, .ty "int", .type "int", .type "int", true, rfl, .ty _, .base (.int _), kit_ty (by decide +kernel), _, rfl, iteT ?_⟩
      refine ⟨_, rfl, _, .ty "int", .type "int", .type "int", true, rfl, .ty _, .base (.int _), kit_ty (by decide +kernel), _, rfl, iteT ⟨_, rfl, _, rfl, rfl, ?_⟩⟩
      rw [decide_eq_true rfl]
      exact q _ (Same.refl _)
    | str x =>
      refine ⟨_, rfl, _, .ty "list", .type "str", .type "list", false, rfl, .ty _, .base (.str _), kit_ty (by decide +kernel), _, rfl, iteF ?_⟩
      refine ⟨_, rfl, _, .ty "tuple", .type "str", .type "tuple", false, rfl, .ty _, .base (.str _), kit_ty (by decide +kernel), _, rfl, iteF ?_⟩
      refine ⟨_, rfl, _, rfl, ite_no (by simp) ⟨_, rfl, _, rfl, ite_no (by simp) ?_⟩⟩
      refine ⟨_, rfl, _, .ty "bool", .type "str", .type "bool", false, rfl, .ty _, .base (.str _), kit_ty (by decide +kernel), _, rfl, iteF ⟨_, rfl, _, .ty "bool", .type "str", .type "bool", false, rfl, .ty _, .base (.str _), kit_ty (by decide +kernel), _, rfl, iteF ?_⟩⟩
      refine ⟨_, rfl, _, .ty "int", .type "str", .type "int", false, rfl, .ty _, .base (.str _), kit_ty (by decide +kernel), _, rfl, iteF ?_⟩
      refine ⟨_, rfl, _, .ty "str", .type "str", .type "str", true, rfl, .ty _, .base (.str _), kit_ty (by decide +kernel), _, rfl, iteT ⟨_, rfl, _, .ty "str", .type "str", .type "str", true, rfl, .ty _, .base (.str _), kit_ty (by decide +kernel), _, rfl, iteT ⟨_, rfl, _, rfl, rfl, ?_⟩⟩⟩
      rw [decide_eq_true rfl]
      exact q _ (Same.refl _)
    | byt x => exact hx.elim
    | flt x => exact hx.elim
    | ref x => exact hx.elim
    | ty x => exact hx.elim
  · have hlen := paired_len hp
    refine ⟨_, rfl, _, .ty "list", .type "list", .type "list", true, rfl, .ty _, .base (.lst hb), kit_ty (by decide +kernel), _, rfl, iteT ?_⟩
    refine ⟨_, rfl, _, .ty "list", .type "list", .type "list", true, rfl, .ty _, .base (.lst ha), kit_ty (by decide +kernel), _, rfl, iteT ?_⟩
    refine ⟨_, rfl, .ref a, _, rfl, .inl ⟨xs, SqL.of ha, rfl⟩, _, rfl, .ref b, _, rfl, .inl ⟨ys, SqL.of hb, rfl⟩, rfl, _, rfl, ite_of (decide_eq_true (by rw [hlen])) ?_⟩
    refine ⟨_, rfl, _, rfl, a, b, xs, ys, rfl, .inl ⟨SqL.of ha, SqL.of hb, fun D hD => lc_it (walk_zip (K := K) (n := xs.length) (by omega)) (fun i H' => Same H H' ∧ H' D = some (.lst (List.replicate i (.bl true))))
      ⟨same_upd hD, upd_same⟩ (fun i H1 hi p => ⟨SqL.of (p.1 _ _ ha), SqL.of (p.1 _ _ hb)⟩) ?_ ?_⟩⟩
    · rintro i v H1 H2 hi ⟨s1, e1⟩ ⟨T, u, z, rfl, hT, rfl, hu, hz⟩
      refine ⟨T, [u, z], rfl, SqT.of upd_same, rfl, u, [z], rfl, z, [], rfl, rfl, rfl, tYes_ok ?_⟩
      refine ⟨_, rfl, _, rfl, u, z, rfl, (paired_get hp hu hz).mono (s1.trans (same_upd hT)), fun H3 s3 => ?_⟩
      refine ⟨_, s3 _ _ ((same_upd hT) _ _ e1), by rw [List.length_replicate]; exact small1000 (by omega), fun c o hc => ?_, ?_⟩
      · rw [upd_ne (ne_of_none hc hD)]
        exact s3 _ _ (same_upd hT _ _ (s1 _ _ hc))
      · rw [upd_same, List.replicate_succ']
    · rintro H1 ⟨s1, e1⟩
      refine ⟨D, List.replicate xs.length true, rfl, SqL.of (by rw [e1, List.map_replicate]), ?_⟩
      rw [show (List.replicate xs.length true).all id = true by simp]
      exact q _ s1
  · have hlen := paired_len hp
    refine ⟨_, rfl, _, .ty "list", .type "tuple", .type "list", false, rfl, .ty _, .base (.tup hb), kit_ty (by decide +kernel), _, rfl, iteF ?_⟩
    refine ⟨_, rfl, _, .ty "tuple", .type "tuple", .type "tuple", true, rfl, .ty _, .base (.tup hb), kit_ty (by decide +kernel), _, rfl, iteT ?_⟩
    refine ⟨_, rfl, _, .ty "tuple", .type "tuple", .type "tuple", true, rfl, .ty _, .base (.tup ha), kit_ty (by decide +kernel), _, rfl, iteT ?_⟩
    refine ⟨_, rfl, .ref a, _, rfl, .inr ⟨xs, SqT.of ha, rfl⟩, _, rfl, .ref b, _, rfl, .inr ⟨ys, SqT.of hb, rfl⟩, rfl, _, rfl, ite_of (decide_eq_true (by rw [hlen])) ?_⟩
    refine ⟨_, rfl, _, rfl, a, b, xs, ys, rfl, .inr ⟨SqT.of ha, SqT.of hb, fun D hD => lc_it (walk_zipT (K := K) (n := xs.length) (by omega)) (fun i H' => Same H H' ∧ H' D = some (.lst (List.replicate i (.bl true))))
      ⟨same_upd hD, upd_same⟩ (fun i H1 hi p => ⟨SqT.of (p.1 _ _ ha), SqT.of (p.1 _ _ hb)⟩) ?_ ?_⟩⟩
    · rintro i v H1 H2 hi ⟨s1, e1⟩ ⟨T, u, z, rfl, hT, rfl, hu, hz⟩
      refine ⟨T, [u, z], rfl, SqT.of upd_same, rfl, u, [z], rfl, z, [], rfl, rfl, rfl, tYes_ok ?_⟩
      refine ⟨_, rfl, _, rfl, u, z, rfl, (paired_get hp hu hz).mono (s1.trans (same_upd hT)), fun H3 s3 => ?_⟩
      refine ⟨_, s3 _ _ ((same_upd hT) _ _ e1), by rw [List.length_replicate]; exact small1000 (by omega), fun c o hc => ?_, ?_⟩
      · rw [upd_ne (ne_of_none hc hD)]
        exact s3 _ _ (same_upd hT _ _ (s1 _ _ hc))
      · rw [upd_same, List.replicate_succ']
    · rintro H1 ⟨s1, e1⟩
      refine ⟨D, List.replicate xs.length true, rfl, SqL.of (by rw [e1, List.map_replicate]), ?_⟩
      rw [show (List.replicate xs.length true).all id = true by simp]
      exact q _ s1
end
theorem no_same {P : Program} {w : World} {K : PySem.W.Frag} {mg : Str → Option Value} {base : Heap} {f : Addr} {fd : FuncData} {ps : List Str} {sp : Sp} (no : ∀ vs H Q E, ¬ sp vs H Q E) : FnOk P w K mg base CX0 0 f fd ps sp :=
  ⟨fun vs H Q E h => absurd h (no vs H Q E), fun A outer s H args us vs Q E _ _ _ _ h => absurd h (no vs H Q E)⟩
section
variable {P : Program} {w : World} {K : PySem.W.Frag} {mg : Str → Option Value} {base : Heap}
theorem all_same (F : Fn K mg "_law_same" s_l_same ["_law_found", "_law_due"]) (B : Blt mg) : ∀ n : Nat, Has P w K mg base n "_law_same" ["_law_found", "_law_due"] (spSame n)
  | 0 => by
    obtain ⟨f, fd, F, m, b⟩ := F.ex
    exact ⟨f, fd, no_same fun vs H Q E h => by obtain ⟨x, y, _, h, _⟩ := h; exact h, m, F.kp, b⟩
  | n + 1 => ok_same F B (all_same F B n)
end
/-! ### odd values -/
inductive OddV (H : Hp) (b : Addr) : V → Prop
  | non : OddV H b .non
  | bl (x : Bool) : OddV H b (.bl x)
  | s0 : OddV H b (.str "")
  | s1 : OddV H b (.str "A")
  | s2 : OddV H b (.str "in")
  | s3 : OddV H b (.str "a b")
  | s4 : OddV H b (.str "7")
  | t0 {p : Addr} : p ≠ b → H p = some (.tup []) → OddV H b (.ref p)
  | t1 {p : Addr} : p ≠ b → H p = some (.tup [.int 1]) → OddV H b (.ref p)
  | l0 {p : Addr} : p ≠ b → H p = some (.lst []) → OddV H b (.ref p)
  | l1 {p : Addr} : p ≠ b → H p = some (.lst [.str "a"]) → OddV H b (.ref p)
theorem OddV.kp {H H' : Hp} {b : Addr} {v : V} (h : OddV H b v) (k : Kp b H H') : OddV H' b v := by
  cases h with
  | non => exact .non
  | bl x => exact .bl x
  | s0 => exact .s0
  | s1 => exact .s1
  | s2 => exact .s2
  | s3 => exact .s3
  | s4 => exact .s4
  | t0 n h => exact .t0 n (k _ _ n h)
  | t1 n h => exact .t1 n (k _ _ n h)
  | l0 n h => exact .l0 n (k _ _ n h)
  | l1 n h => exact .l1 n (k _ _ n h)
def spOdd : Sp := fun vs H Q _ => ∃ b c : Addr, vs = [.ref b] ∧ Bg H b c ∧ ∀ (v : V) (H' : Hp), Kp b H H' → Bg H' b c → OddV H' b v → Q v H'
def spGcd : Sp := fun vs H Q _ => ∃ a b : Int, vs = [.int a, .int b] ∧ Q (.int ((Nat.gcd a.natAbs b.natAbs : Nat) : Int)) H
theorem abs_cast (i : Int) : (if i < 0 then -i else i) = ((i.natAbs : Nat) : Int) := by split <;> omega
theorem Bg.sel {H : Hp} {b c : Addr} (h : Bg H b c) : ∃ r : List V, H b = some (.lst (.ref c :: r)) := by
  obtain ⟨ns, i, r, m, g⟩ := h
  exact ⟨_, g.hb⟩
theorem Bg.ne_new {H : Hp} {b c p : Addr} (h : Bg H b c) (hp : H p = none) : p ≠ b := by
  obtain ⟨_, e⟩ := h.sel
  exact (ne_of_none e hp).symm
theorem Bg.ne_new2 {H : Hp} {b c p : Addr} (h : Bg H b c) (hp : H p = none) : p ≠ c := by
  obtain ⟨ns, i, r, m, g⟩ := h
  exact (ne_of_none g.hc hp).symm
section
variable {P : Program} {w : World} {K : PySem.W.Frag} {mg : Str → Option Value} {base : Heap}
theorem ok_odd (F : Fn K mg "_law_odd" s_l_odd ["_law_bag_here"]) (B : Blt mg) (G_l_pick : Has P w K mg base 2 "_law_pick" ["_law_bag_here", "_law_some"] (spPick K)) : Has P w K mg base 3 "_law_odd" ["_law_bag_here"] spOdd := by
  refine F.has sc_l_odd (fun vs H Q E h => ?_) (fun f cdv A outer s H vs Q E hr h => ?_)
  · obtain ⟨a, c, rfl, _⟩ := h
    rfl
  obtain ⟨b, c, rfl, hB, q⟩ := h
  refine ⟨_, (pss_one (ps_ret (pe_own G_l_pick (hr.mono (by decide)) (by rfl) (pa_cons (pv 0) (pa_cons (pe_lst (pa_cons pe_non (pa_cons pe_bl (pa_cons pe_bl (pa_cons pe_str (pa_cons pe_str (pa_cons pe_str (pa_cons pe_str (pa_cons (pe_tup pa_nil) (pa_cons (pe_tup (pa_cons pe_int pa_nil)) (pa_cons (pe_lst pa_nil) (pa_cons (pe_lst (pa_cons pe_str pa_nil)) (pa_cons pe_str pa_nil))))))))))))) pa_nil))))), ?_⟩
  refine ⟨_, rfl, (by show 0 ≤ sizeLine; decide), fun p1 h1 => ⟨(by show 1 ≤ sizeLine; decide), fun p2 h2 => ⟨(by show 0 ≤ sizeLine; decide), fun p3 h3 => ⟨(by show 1 ≤ sizeLine; decide), fun p4 h4 => ⟨(by show 12 ≤ sizeLine; decide), fun l hl => ?_⟩⟩⟩⟩⟩
  have s1 : Same H (upd H p1 (.tup [])) := same_upd h1
  have s2 := same_upd (o := .tup [.int 1]) h2
  have s3 := same_upd (o := .lst []) h3
  have s4 := same_upd (o := .lst [.str "a"]) h4
  have s5 := same_upd (o := .lst [.non, .bl true, .bl false, .str "", .str "A", .str "in", .str "a b", .ref p1, .ref p2, .ref p3, .ref p4, .str "7"]) hl
  have n1 := hB.ne_new h1
  have n2 := (hB.same s1).ne_new h2
  have n3 := (hB.same (s1.trans s2)).ne_new h3
  have n4 := (hB.same (s1.trans (s2.trans s3))).ne_new h4
  have n5 := (hB.same (s1.trans (s2.trans (s3.trans s4)))).ne_new hl
  have sa := s1.trans (s2.trans (s3.trans (s4.trans s5)))
  refine ⟨b, c, .ref l, rfl, hB.same sa, .inl ⟨l, _, rfl, n5, upd_same, by simp, (by show 12 ≤ 1000; decide), fun v H' hv kp hB' => ?_⟩⟩
  refine q v H' ((Kp.of sa).trans kp) hB' (OddV.kp ?_ kp)
  simp only [List.mem_cons, List.not_mem_nil, or_false] at hv
  rcases hv with rfl | rfl | rfl | rfl | rfl | rfl | rfl | rfl | rfl | rfl | rfl | rfl
  · exact .non
  · exact .bl true
  · exact .bl false
  · exact .s0
  · exact .s1
  · exact .s2
  · exact .s3
  · exact .t0 n1 (s5 _ _ (s4 _ _ (s3 _ _ (s2 _ _ upd_same))))
  · exact .t1 n2 (s5 _ _ (s4 _ _ (s3 _ _ upd_same)))
  · exact .l0 n3 (s5 _ _ (s4 _ _ upd_same))
  · exact .l1 n4 (s5 _ _ upd_same)
  · exact .s4
end
/-! ### kinds of values -/
inductive Typ (H : Hp) : V → String → Prop
  | non : Typ H .non "NoneType"
  | bl (x : Bool) : Typ H (.bl x) "bool"
  | int (i : Int) : Typ H (.int i) "int"
  | str (z : Str) : Typ H (.str z) "str"
  | lst {a : Addr} {xs : List V} : H a = some (.lst xs) → Typ H (.ref a) "list"
  | tup {a : Addr} {xs : List V} : H a = some (.tup xs) → Typ H (.ref a) "tuple"
theorem Typ.tyx {K : PySem.W.Frag} {H : Hp} {x : V} {t : String} (h : Typ H x t) : TyX K H x (.type t) := by
  cases h with
  | non => exact .base .non
  | bl x => exact .base (.bl x)
  | int i => exact .base (.int i)
  | str z => exact .base (.str z)
  | lst h => exact .base (.lst h)
  | tup h => exact .base (.tup h)
theorem Typ.same {H H' : Hp} {x : V} {t : String} (h : Typ H x t) (s : Same H H') : Typ H' x t := by
  cases h with
  | non => exact .non
  | bl x => exact .bl x
  | int i => exact .int i
  | str z => exact .str z
  | lst h => exact .lst (s _ _ h)
  | tup h => exact .tup (s _ _ h)
theorem OddV.typ {H : Hp} {b : Addr} {v : V} (h : OddV H b v) : ∃ t, Typ H v t ∧ t ≠ "int" := by
  cases h with
  | non => exact ⟨_, .non, by decide⟩
  | bl x => exact ⟨_, .bl x, by decide⟩
  | s0 => exact ⟨_, .str _, by decide⟩
  | s1 => exact ⟨_, .str _, by decide⟩
  | s2 => exact ⟨_, .str _, by decide⟩
  | s3 => exact ⟨_, .str _, by decide⟩
  | s4 => exact ⟨_, .str _, by decide⟩
  | t0 n h => exact ⟨_, .tup h, by decide⟩
  | t1 n h => exact ⟨_, .tup h, by decide⟩
  | l0 n h => exact ⟨_, .lst h, by decide⟩
  | l1 n h => exact ⟨_, .lst h, by decide⟩
def isIntV : V → Bool
  | .int _ => true
  | _ => false
end My
/-! own errors over a built-in class: super().__init__(a text), the fields, the code -/
namespace PySem
namespace ErrG
open PySem.W PySem.Calls PyProof.Rows PySem.HandSPX Builtin Builtin.ObjectAttr
def refsT (tail : List Value) : List Value → Bool
  | .ref _ :: r => refsT tail r
  | l => l == tail
theorem refsT_cases (tail : List Value) : ∀ l : List Value, refsT tail l = true → (∃ c r, l = .ref c :: r ∧ refsT tail r = true) ∨ l = tail
  | [], e => .inr (beq_iff_eq.mp e)
  | .ref c :: r, e => .inl ⟨c, r, rfl, e⟩
  | .none :: _, e => .inr (beq_iff_eq.mp e)
  | .ellipsis :: _, e => .inr (beq_iff_eq.mp e)
  | .notImplemented :: _, e => .inr (beq_iff_eq.mp e)
  | .bool _ :: _, e => .inr (beq_iff_eq.mp e)
  | .int _ _ :: _, e => .inr (beq_iff_eq.mp e)
  | .float _ _ :: _, e => .inr (beq_iff_eq.mp e)
  | .str _ _ :: _, e => .inr (beq_iff_eq.mp e)
  | .bytes _ _ :: _, e => .inr (beq_iff_eq.mp e)
  | .type _ :: _, e => .inr (beq_iff_eq.mp e)
  | .builtin _ :: _, e => .inr (beq_iff_eq.mp e)
/-- what is asked of the built-in class -/
structure BaseB (B newId initId : String) (tail : List Value) : Prop where
  F : ExcBaseFacts B newId initId tail
  KF : KxsFacts B initId
  pass : ∀ self, refuseLoop self "__setattr__" tail = pure ()
  ob : tail.contains (.type "object") = true
  ne : tail.isEmpty = false
  qi : initId.startsWith "lifetime." = false
theorem bVE : BaseB "ValueError" "ValueError.__new__" "ValueError.__init__" [.type "ValueError", .type "Exception", .type "BaseException", .type "object"] := ⟨F.excBase_ValueError, kxs_ValueError, F.store_ValueError.passes, by decide +kernel, rfl, by decide +kernel⟩
theorem bLE : BaseB "LookupError" "LookupError.__new__" "LookupError.__init__" [.type "LookupError", .type "Exception", .type "BaseException", .type "object"] := ⟨F.excBase_LookupError, kxs_LookupError, fun self => by kernel_rfl, by decide +kernel, rfl, by decide +kernel⟩
theorem bIE : BaseB "IndexError" "IndexError.__new__" "IndexError.__init__" [.type "IndexError", .type "LookupError", .type "Exception", .type "BaseException", .type "object"] := ⟨F.excBase_IndexError, kxs_IndexError, fun self => by kernel_rfl, by decide +kernel, rfl, by decide +kernel⟩
section
variable {B newId initId : String} {tail : List Value}
theorem refsT_pass (b : BaseB B newId initId tail) (self : Value) : ∀ l : List Value, refsT tail l = true → refuseLoop self "__setattr__" l = pure () := by
  intro l
  induction l with
  | nil =>
    intro e
    rcases refsT_cases tail [] e with ⟨c, r, q, _⟩ | q
    · cases q
    · have := b.ne
      rw [← q] at this
      cases this
  | cons a r ih =>
    intro e
    rcases refsT_cases tail (a :: r) e with ⟨c, r', q, h⟩ | q
    · obtain ⟨rfl, rfl⟩ := List.cons.inj q
      rw [refuseLoop_ref]; exact ih h
    · rw [q]; exact b.pass self
theorem refsT_contains (b : BaseB B newId initId tail) (X : String) : ∀ l : List Value, refsT tail l = true → l.contains (.type X) = tail.contains (.type X) := by
  intro l
  induction l with
  | nil =>
    intro e
    rcases refsT_cases tail [] e with ⟨c, r, q, _⟩ | q
    · cases q
    · rw [← q]
  | cons a r ih =>
    intro e
    rcases refsT_cases tail (a :: r) e with ⟨c, r', q, h⟩ | q
    · obtain ⟨rfl, rfl⟩ := List.cons.inj q
      rw [List.contains_cons, ih h]; rfl
    · rw [q]
theorem refsT_ne (b : BaseB B newId initId tail) {l : List Value} (e : refsT tail l = true) : l.isEmpty = false := by
  cases l with
  | nil =>
    rcases refsT_cases tail [] e with ⟨c, r, q, _⟩ | q
    · cases q
    · rw [q]; exact b.ne
  | cons _ _ => rfl
variable {prog : Program} {w : World} {A : Around} {R : Result → Shared → Prop} {hp : Heap} {g : Array GenState} {d : Drawn} {t : Nat} {os : OsState}
/-- the first field: a new dict -/
theorem osa_first (b : BaseB B newId initId tail) {K : W.Frag} {name : Str} {tk : Tok} {v : Value} {x C : Addr} {fv : Array Value} {cd : ClassData}
    (X : K.In hp) (hx : hp.get? x = some { cls := .ref C, data := .fields fv }) (hcd : W.clsIn K C = some cd) (hm : refsT tail cd.mro = true) (hh : cd.hasDict = true) (ha : W.findIn K (.ref C) name = some none)
    (hq : ∀ h' tk' dx, (∀ b o, b ≠ x → hp.get? b = some o → h'.get? b = some o) → hp.objs.size ≤ dx → dx ≠ x → h'.get? x = some { cls := .ref C, dict := some dx, data := .fields fv } →
      h'.Ns1 dx (fun y => if y = name then some v else none) → R (.ok (.ret .none)) ⟨h', g, d, tk', os⟩) :
    codeAny (model prog w) A (.call (.builtin "object.__setattr__") ⟨[.ref x, .str name tk, v], []⟩) R ⟨hp, g, d, t, os⟩ := by
  have I : W.InstAt hp x { cls := .ref C, data := .fields fv } C none := ⟨hx, rfl, rfl, trivial⟩
  have SF := F.store_object
  have ne := refsT_ne b hm
  have hob : cd.mro.contains (.type "object") = true := (refsT_contains b "object" _ hm).trans b.ob
  have hxs : x ≠ hp.objs.size := Nat.ne_of_lt (Heap.lt_size hx)
  have sub : W.Looks (model prog w) hp (isInstance (.ref x) (.type "object")) true := I.type.andThen (W.looks_mroIn X (by unfold W.mroIn; rw [hcd, Option.bind_some, if_neg (by rw [ne]; decide), hob]))
  refine codeAny_call_builtin SF.slot.plain SF.entry (@W.check_slot (model prog w) _ _ ⟨hp, g, d, t, os⟩ "object.__setattr__" "object" "__setattr__" (.ref x) [.str name tk, v] [] _ SF.kind SF.split sub (SF.args (.ref x) (.str name tk) v) ?_)
  have hmr : W.Looks (model prog w) hp (mroOf (.ref C)) cd.mro := (W.looks_clsIn X hcd).andThen .now
  have L3 : W.Looks (model prog w) hp (storeTaker? none) none := .now
  have hcls : W.Looks (model prog w) hp (classData C) cd := W.looks_clsIn X hcd
  rw [W.osa_eq, refuse_eq]
  refine wpAny_bind (wpAny_bind (I.type.at (wpAny_bind (hmr.at ?_))))
  rw [refsT_pass b _ _ hm]
  refine wpAny_pure (wpAny_bind (I.type.at (wpAny_bind ((W.looks_findIn X ha).at (wpAny_bind (L3.at ?_))))))
  show wpAny _ _ (storeInOwnDict (.ref x) (.ref C) (.str name tk) name v false) _ _ _
  obtain ⟨nm, bs, mro, ns, qn, hd, sn, sb, ab, col, del⟩ := cd
  dsimp only at hh
  subst hh
  unfold storeInOwnDict ownDictForStores
  repeat (first | with_reducible refine store_in_new ?_ ?_ | with_reducible refine wpAny_loadPart_at hx ?_ | with_reducible refine hcls.at ?_ | wp_step)
  · exact ⟨_, #[], _, (Heap.get?_update_ne _ _ _ _ hxs.symm).trans (Heap.get?_push_at rfl rfl), rfl, fun e he => absurd he (by simp), fun _ => rfl⟩
  · intro h' tk' hn' hs
    have hx₁ : (hp.push { cls := .type "dict", data := .dict #[] }).get? x = some { cls := .ref C, data := .fields fv } := Heap.get?_push_of_some _ hx
    refine hq h' tk' hp.objs.size (fun b o hb ho => ?_) (Nat.le_refl _) hxs.symm ?_ hn'
    · exact (hs.2 b (Nat.ne_of_lt (Heap.lt_size ho))).trans ((Heap.get?_update_ne _ _ _ _ hb).trans (Heap.get?_push_of_some _ ho))
    · exact (hs.2 x hxs).trans (Heap.get?_update_self _ hx₁ rfl)
/-- a further field -/
theorem osa_next (b : BaseB B newId initId tail) {K : W.Frag} {name : Str} {tk : Tok} {v : Value} {x C dx : Addr} {fv : Array Value} {cd : ClassData} {m0 : Str → Option Value} {nl : List Str}
    (X : K.In hp) (hx : hp.get? x = some { cls := .ref C, dict := some dx, data := .fields fv }) (hns : hp.Ns1 dx m0) (hw : Within m0 nl) (hz : nl.length ≤ 1000) (hcd : W.clsIn K C = some cd) (hm : refsT tail cd.mro = true) (hh : cd.hasDict = true)
    (ha : W.findIn K (.ref C) name = some none)
    (hq : ∀ h' tk', (∀ b o, b ≠ dx → hp.get? b = some o → h'.get? b = some o) → h'.Ns1 dx (fun y => if y = name then some v else m0 y) → R (.ok (.ret .none)) ⟨h', g, d, tk', os⟩) :
    codeAny (model prog w) A (.call (.builtin "object.__setattr__") ⟨[.ref x, .str name tk, v], []⟩) R ⟨hp, g, d, t, os⟩ := by
  obtain ⟨oD, esD, epD, hoD, hdD, _⟩ := hns.count hw
  have I : W.InstAt hp x { cls := .ref C, dict := some dx, data := .fields fv } C (some oD) := ⟨hx, rfl, rfl, hoD⟩
  have SF := F.store_object
  have ne := refsT_ne b hm
  have hob : cd.mro.contains (.type "object") = true := (refsT_contains b "object" _ hm).trans b.ob
  have sub : W.Looks (model prog w) hp (isInstance (.ref x) (.type "object")) true := I.type.andThen (W.looks_mroIn X (by unfold W.mroIn; rw [hcd, Option.bind_some, if_neg (by rw [ne]; decide), hob]))
  refine codeAny_call_builtin SF.slot.plain SF.entry (@W.check_slot (model prog w) _ _ ⟨hp, g, d, t, os⟩ "object.__setattr__" "object" "__setattr__" (.ref x) [.str name tk, v] [] _ SF.kind SF.split sub (SF.args (.ref x) (.str name tk) v) ?_)
  have hmr : W.Looks (model prog w) hp (mroOf (.ref C)) cd.mro := (W.looks_clsIn X hcd).andThen .now
  have L3 : W.Looks (model prog w) hp (storeTaker? none) none := .now
  have hcls : W.Looks (model prog w) hp (classData C) cd := W.looks_clsIn X hcd
  rw [W.osa_eq, refuse_eq]
  refine wpAny_bind (wpAny_bind (I.type.at (wpAny_bind (hmr.at ?_))))
  rw [refsT_pass b _ _ hm]
  refine wpAny_pure (wpAny_bind (I.type.at (wpAny_bind ((W.looks_findIn X ha).at (wpAny_bind (L3.at ?_))))))
  show wpAny _ _ (storeInOwnDict (.ref x) (.ref C) (.str name tk) name v false) _ _ _
  obtain ⟨nm, bs, mro, ns, qn, hd, sn, sb, ab, col, del⟩ := cd
  dsimp only at hh
  subst hh
  unfold storeInOwnDict ownDictForStores
  repeat (first | with_reducible refine OEX.store_in_old hns hw hz ?_ | with_reducible refine wpAny_loadPart_at hx ?_ | with_reducible refine hcls.at ?_ | wp_step)
  intro h' tk' hn' hs
  exact hq h' tk' (fun b o hb ho => (hs.2 b hb).trans ho) hn'
end
/-- the statements behind super().__init__: the fields fs, then the code q -/
inductive Sts (q : Str) : List Str → List Stmt → Prop
  | last {k : Nat} {c1 c2 c3 c4 : Pos} : Sts q [] [.Assign [.Attribute (.Name "self" c1) "code" c2] (.Constant (.str q) k c3) c4]
  | fld {f : Str} {fs : List Str} {sts : List Stmt} {b1 b2 b3 b4 : Pos} (r : Sts q fs sts) : Sts q (f :: fs) (.Assign [.Attribute (.Name "self" b1) f b2] (.Name f b3) b4 :: sts)
/-- how the first statement's call is evaluated -/
def InitEval (msg : Str) (k1 : Nat) (a1 a2 a3 a4 a5 : Pos) : Prop := ∃ pl : Sem Bool, ∀ env : Env,
  eval (.Call (.Attribute (.Call (.Name "super" a1) [] [] a2) "__init__" a3) [.Constant (.str msg) k1 a4] [] a5) env = (do
    let ov ← attributeBase (.Call (.Name "super" a1) [] [] a2) "__init__" env (eval (.Call (.Name "super" a1) [] [] a2) env)
    standAt a3.atName
    let (g, first) ← holding [ov] (getMethod ov "__init__" pl)
    callWith a5 g first (backTo a5 (starEach [.Constant (.str msg) k1 a4] env)) [])
/-- what the written part says of the class at C, of its __init__ at fI -/
structure ErrC (prog : Program) (K : Frag) (mg : Str → Option Value) (nm : Str) (B newId initId : String) (tail : List Value) (C fI cc cd : Addr) : Prop where
  gC : mg nm = some (.ref C)
  gS : mg "super" = none
  cls : ∃ nm' q' N bs bm sn sub ab col dd k0 k1 k2 k3 k5, K.lookup C = some (excClassObj nm' q' C N bs bm true sn sub ab col dd k0 k1 k2 k3 k5 newId) ∧ refsT tail bm = true ∧ alongIn K "__init__" bm = some (some (.builtin initId))
  sa : findIn K (.ref C) "__setattr__" = some (some (.builtin "object.__setattr__"))
  noC : findIn K (.ref C) "code" = some none
  iC : findIn K (.ref C) "__init__" = some (some (.ref fI))
  tC : typeIn K (.ref fI) = some (.type "function")
  kC : keepIn K (.ref C) = true
  bC : subIn K (.ref C) (.type B) = some true
  slf : mroIn K C (.ref C) = some true
  opq : nsIn K cStatics "thirdparty.any" = some none
  cell : ∃ cl cld csl, K.lookup cc = some ⟨cl, cld, .cell (some (.ref C)), csl⟩
  code : ∃ ccl cdd vs ccs file tf, K.lookup cd = some ⟨ccl, cdd, .fields vs, ccs⟩ ∧ vs[2]? = some (.str file tf) ∧ ((prog.main.file : Str) == file) = true
  top : (prog.main.scope.names.lookup ("super" : Str)).isSome = false
/-- the __init__ itself -/
structure InitF (K : Frag) (fs : List Str) (q : Str) (C fI cc cd : Addr) : Prop where
  ex : ∃ (oc : Value) (od : Option Addr) (doc pm : Value) (an : Option Addr) (ct : Value) (osl : Array (Option Value)) (qual msg : Str) (k1 : Nat) (a1 a2 a3 a4 a5 a6 : Pos) (args : Arguments) (a0 : Arg) (ar : List Arg) (scope : Scope) (sts : List Stmt),
    K.lookup fI = some ⟨oc, od, .func (ksFn "__init__" qual args (.Expr (.Call (.Attribute (.Call (.Name "super" a1) [] [] a2) "__init__" a3) [.Constant (.str msg) k1 a4] [] a5) a6 :: sts) scope .none .none doc pm an (.ref cd) ct cc), osl⟩ ∧ codeIn K (.ref cd) qual = true ∧
    Sts q fs sts ∧ InitEval msg k1 a1 a2 a3 a4 a5 ∧ args.args = a0 :: ar ∧ args.posonlyargs = [] ∧ a0.arg = "self" ∧
    (∀ y ∈ scope.names, y.2 ≠ .cell) ∧ scope.kind = .function ∧ scope.isCoroutine = false ∧ scope.isGenerator = false ∧
    scope.names.lookup ("super" : Str) = some .globalImplicit ∧ scope.names.lookup ("__class__" : Str) = some .free ∧ scope.names.lookup ("self" : Str) = some .local ∧ (∀ f ∈ fs, scope.names.lookup f = some .local)
  noF : ∀ f ∈ fs, findIn K (.ref C) f = some none ∧ (f == ("__debug__" : Str)) = false
end ErrG
end PySem
namespace PySem
namespace ErrG
open PySem.W PySem.Calls PyProof.Rows PySem.HandSPX
theorem kept_x {K : Frag} {h h' : Heap} {x : Addr} (X : K.In h) (hx : K.lookup x = none) (k : ∀ b o, b ≠ x → h.get? b = some o → h'.get? b = some o) : K.In h' := fun a o e =>
  k a o (fun z => by rw [z, hx] at e; cases e) (X a o e)
theorem lk_of {k : Str} {v : Value} : ∀ {l : List (Str × Value)}, (l.map (·.1)).Nodup → (k, v) ∈ l → l.lookup k = some v
  | [], _, h => by cases h
  | (a, b) :: r, nd, hm => by
    rw [List.map_cons, List.nodup_cons] at nd
    rcases List.mem_cons.mp hm with e | hm'
    · cases e
      simp [List.lookup]
    · have ne : (k == a) = false := by
        rw [beq_eq_false_iff_ne]
        intro z
        subst z
        exact nd.1 (List.mem_map.mpr ⟨_, hm', rfl⟩)
      simp only [List.lookup, ne]
      exact lk_of nd.2 hm'
def putM (m : Str → Option Value) (f : Str) (v : Value) : Str → Option Value := fun y => if y = f then some v else m y
def endM : (Str → Option Value) → List (Str × Value) → (Str → Option Value)
  | m, [] => m
  | m, (f, v) :: r => endM (putM m f v) r
abbrev xob (C dx t1 : Addr) : Obj := { cls := .ref C, dict := some dx, data := .fields #[.ref t1, .none, .none, .none, .bool false, .none] }
section
variable {B newId initId : String} {tail : List Value} {prog : Program} {w : World} {A : Around} {E : Value → Shared → Prop} {K : Frag} {cd : ClassData} {C x : Addr} {env : Env} {mL : Str → Option Value} {q : Str} {Q : Flow → Shared → Prop}
theorem run_next {dx t1 : Addr} (b : BaseB B newId initId tail) (hcd : clsIn K C = some cd) (hm : refsT tail cd.mro = true) (hh : cd.hasDict = true) (sa : findIn K (.ref C) "__setattr__" = some (some (.builtin "object.__setattr__")))
    (noC : findIn K (.ref C) "code" = some none) (hdx : K.lookup dx = none) (hdL : env.locals ≠ dx) (hxd : x ≠ dx) (hk : env.scope.kind = .function) (lkS : env.kindOf "self" = some .local) (mS : mL "self" = some (.ref x)) {fs : List Str} {sts : List Stmt} (h : Sts q fs sts) :
    ∀ {vs : List Value} {s : Shared} {m0 : Str → Option Value} {nl : List Str}, K.In s.heap → s.heap.get? x = some (xob C dx t1) → s.heap.Ns1 dx m0 → Within m0 nl → nl.length + fs.length ≤ 900 → s.heap.Ns env.locals mL →
      (∀ f ∈ fs, findIn K (.ref C) f = some none ∧ (f == ("__debug__" : Str)) = false ∧ env.kindOf f = some .local) → vs.length = fs.length → (∀ p ∈ fs.zip vs, mL p.1 = some p.2) →
      (∀ h' tk tq, (∀ b o, b ≠ dx → s.heap.get? b = some o → h'.get? b = some o) → h'.Ns1 dx (putM (endM m0 (fs.zip vs)) "code" (.str q tq)) → Q .next { s with heap := h', toks := tk }) →
      wpAny (model prog w) A (execs sts env) Q E s := by
  induction h with
  | last =>
    intro vs s m0 nl X hx hn hw hz hns _ hl _ hq
    refine wpAny_execs_cons (plainObj_wpAny_Assign_Attribute ?_)
    refine Calls.Constant_str (ESX.ldL hns mS ?_ hk lkS (by decide +kernel))
    obtain ⟨oD, eD, pD, hD, rD⟩ := id hn
    refine set_plain X (ox := xob C dx t1) (od := some oD) ⟨hx, rfl, rfl, hD⟩ sa ?_
    refine osa_next b X hx hn hw (by omega) hcd hm hh noC fun h' tk' k hn' => ?_
    refine wpAny_execs_nil (hq h' tk' s.toks k ?_)
    have e : vs = [] := List.length_eq_zero_iff.mp hl
    subst e
    exact hn'
  | @fld f fs sts b1 b2 b3 b4 r ih =>
    intro vs s m0 nl X hx hn hw hz hns hf hl hv hq
    match vs, hl with
    | v :: vs, hl =>
    obtain ⟨f1, f2, f3⟩ := hf f List.mem_cons_self
    refine wpAny_execs_cons (plainObj_wpAny_Assign_Attribute ?_)
    refine ESX.ldL hns (hv (f, v) List.mem_cons_self) (ESX.ldL hns mS ?_ hk lkS (by decide +kernel)) hk f3 f2
    obtain ⟨oD, eD, pD, hD, rD⟩ := id hn
    refine set_plain X (ox := xob C dx t1) (od := some oD) ⟨hx, rfl, rfl, hD⟩ sa ?_
    refine osa_next b X hx hn hw (by omega) hcd hm hh f1 fun h' tk' k hn' => ?_
    obtain ⟨oL, es, ep, hL, rL⟩ := id hns
    refine ih (vs := vs) (m0 := putM m0 f v) (nl := f :: nl) (kept_x X hdx k) (k _ _ hxd hx) hn' (Within.cons f v hw) (by simp at hz ⊢; omega) ⟨oL, es, ep, k _ _ hdL hL, rL⟩ (fun g hg => hf g (List.mem_cons_of_mem _ hg)) (by simpa using hl)
      (fun p hp => hv p (List.mem_cons_of_mem _ hp)) fun h'' tk tq k2 hn2 => ?_
    exact hq h'' tk tq (fun b' o nb e => k2 b' o nb (k b' o nb e)) hn2
theorem run_first {t1 : Addr} (b : BaseB B newId initId tail) (hcd : clsIn K C = some cd) (hm : refsT tail cd.mro = true) (hh : cd.hasDict = true) (sa : findIn K (.ref C) "__setattr__" = some (some (.builtin "object.__setattr__")))
    (noC : findIn K (.ref C) "code" = some none) (hnx : K.lookup x = none) (hLx : env.locals ≠ x) (hk : env.scope.kind = .function) (lkS : env.kindOf "self" = some .local) (mS : mL "self" = some (.ref x)) {fs : List Str} {sts : List Stmt} (h : Sts q fs sts)
    {vs : List Value} {s : Shared} (X : K.In s.heap) (hx : s.heap.get? x = some (excO C t1)) (hz : fs.length ≤ 800) (hns : s.heap.Ns env.locals mL)
    (hf : ∀ f ∈ fs, findIn K (.ref C) f = some none ∧ (f == ("__debug__" : Str)) = false ∧ env.kindOf f = some .local) (hl : vs.length = fs.length) (hv : ∀ p ∈ fs.zip vs, mL p.1 = some p.2)
    (hq : ∀ h' tk tq dx, (∀ b o, b ≠ x → s.heap.get? b = some o → h'.get? b = some o) → h'.get? x = some (xob C dx t1) → s.heap.objs.size ≤ dx → dx ≠ x → h'.Ns1 dx (putM (endM (fun _ => none) (fs.zip vs)) "code" (.str q tq)) → Q .next { s with heap := h', toks := tk }) :
    wpAny (model prog w) A (execs sts env) Q E s := by
  obtain ⟨oL, es, ep, hL, rL⟩ := id hns
  have hLs := Heap.lt_size hL
  have fresh : ∀ dx, s.heap.objs.size ≤ dx → K.lookup dx = none := fun dx hd => by
    cases e : K.lookup dx with
    | none => rfl
    | some o => exact absurd (Heap.lt_size (X _ _ e)) (Nat.not_lt.mpr hd)
  cases h with
  | last =>
    refine wpAny_execs_cons (plainObj_wpAny_Assign_Attribute ?_)
    refine Calls.Constant_str (ESX.ldL hns mS ?_ hk lkS (by decide +kernel))
    refine set_plain X (ox := excO C t1) (od := none) ⟨hx, rfl, rfl, trivial⟩ sa ?_
    refine osa_first b X hx hcd hm hh noC fun h' tk' dx k dn dne hx' hn' => ?_
    refine wpAny_execs_nil (hq h' tk' s.toks dx k hx' dn dne ?_)
    have e : vs = [] := List.length_eq_zero_iff.mp hl
    subst e
    exact hn'
  | @fld f fs sts b1 b2 b3 b4 r =>
    match vs, hl with
    | v :: vs, hl =>
    obtain ⟨f1, f2, f3⟩ := hf f List.mem_cons_self
    refine wpAny_execs_cons (plainObj_wpAny_Assign_Attribute ?_)
    refine ESX.ldL hns (hv (f, v) List.mem_cons_self) (ESX.ldL hns mS ?_ hk lkS (by decide +kernel)) hk f3 f2
    refine set_plain X (ox := excO C t1) (od := none) ⟨hx, rfl, rfl, trivial⟩ sa ?_
    refine osa_first b X hx hcd hm hh f1 fun h' tk' dx k dn dne hx' hn' => ?_
    refine run_next (dx := dx) (t1 := t1) (mL := mL) b hcd hm hh sa noC (fresh dx dn) (Nat.ne_of_lt (Nat.lt_of_lt_of_le hLs dn)) dne.symm hk lkS mS r (vs := vs) (m0 := putM (fun _ => none) f v) (nl := [f]) (kept_x X hnx k) hx' hn' (Within.cons f v Within.nil) (by simp at hz ⊢; omega)
      ⟨oL, es, ep, k _ _ hLx hL, rL⟩ (fun g hg => hf g (List.mem_cons_of_mem _ hg)) (by simpa using hl) (fun p hp => hv p (List.mem_cons_of_mem _ hp)) fun h'' tk tq k2 hn2 => ?_
    refine hq h'' tk tq dx (fun b' o nb e => k2 b' o (Nat.ne_of_lt (Nat.lt_of_lt_of_le (Heap.lt_size e) dn)) (k b' o nb e)) (k2 _ _ dne.symm hx') dn dne hn2
end
section
variable {prog : Program} {w : World} {A : Around} {E : Value → Shared → Prop} {R : Result → Shared → Prop} {s : Shared} {K : Frag} {mg : Str → Option Value} {nm q : Str} {fs : List Str} {B newId initId : String} {tail : List Value} {C fI cc cd : Addr}
/-- the bound built-in __init__, called with one value -/
theorem mw_call (b : BaseB B newId initId tail) {hp : Heap} {g : Array GenState} {d : Drawn} {t : Nat} {os : OsState} {u e t0 : Addr} {rest : List Value} {Q : Value → Shared → Prop} {nm' q' : Str} {N : Addr} {bs bm : List Value} {hdct : Bool} {sn : List Str} {sub : List Value} {ab : Bool} {col : Option Bool} {dd : Option Addr} {k0 k1 k2 k3 k5 : Option Value}
    (hC : hp.get? C = some (excClassObj nm' q' C N bs bm hdct sn sub ab col dd k0 k1 k2 k3 k5 newId)) (he : hp.get? e = some (excO C t0)) (hu : hp.get? u = some (kxs_mw initId e)) (hrest : rest.length ≤ sizeLine)
    (hq : ∀ h' t1, (∀ b o, b ≠ e → hp.get? b = some o → h'.get? b = some o) → h'.get? e = some (excO C t1) → Q .none ⟨h', g, d, t, os⟩) :
    wpAny (model prog w) A (call (.ref u) rest) Q E ⟨hp, g, d, t, os⟩ := by
  refine wpAny_call (codeAny_of_tree ?_)
  show wpAny _ A.in1 (callAny (.ref u) ⟨rest, []⟩) _ _ _
  unfold callAny
  refine wpAny_bind (wpAny_load hu ?_)
  refine KFB.if_so rfl ?_
  refine wpAny_bind (ESX.check_bound b.F hC he rfl ?_)
  refine wpAny_bind (wpAny_pure (wpAny_pure ⟨Code.quiet_builtin _ b.qi, codeAny_builtin b.F.initEntry ?_⟩))
  rw [Around.under_plainId b.F.init.plain _]
  wp_walk
  refine hq _ hp.objs.size (fun b o hb ho => ?_) ?_
  · rw [Heap.get?_update_other _ _ (Ne.symm hb)]
    exact Heap.get?_push_of_some _ ho
  · rw [Heap.get?_update_self _ (Heap.get?_push_of_some _ he) rfl]
    rfl
/-- what __init__ leaves of a fresh exception at x -/
structure Made (h h' : Heap) (x C dx t1 : Addr) (ps : List (Str × Value)) (q : Str) : Prop where
  keep : ∀ b o, b ≠ x → h.get? b = some o → h'.get? b = some o
  obj : h'.get? x = some (xob C dx t1)
  dbig : h.objs.size ≤ dx
  dne : dx ≠ x
  ns : ∃ tk, h'.Ns1 dx (putM (endM (fun _ => none) ps) "code" (.str q tk))
theorem err_init (b : BaseB B newId initId tail) (T : ErrC prog K mg nm B newId initId tail C fI cc cd) (IF : InitF K fs q C fI cc cd) {x t0 : Addr} {vs : List Value} {kws : List (Str × Value)} {pos : List Value} (X : K.In s.heap) (hG : s.heap.Ns mainGlobals mg) (hB : ∃ mb, s.heap.Ns builtinsNs mb ∧ mb "super" = some (.type "super")) (hlim : s.heap.NoLimit) (hx : s.heap.get? x = some (excO C t0)) (hnx : K.lookup x = none) (hroom : A.depth < recursionLimit)
    (hz : fs.length ≤ 800) (hl : vs.length = fs.length) (nd : (("self" : Str) :: fs).Nodup) (hbind : ∀ o fd, K.lookup fI = some o → o.data = .func fd → BindsTo s fd ⟨.ref x :: pos, kws⟩ (("self", Value.ref x) :: fs.zip vs : List (Str × Value)))
    (hq : ∀ h' tk dx t1, Made s.heap h' x C dx t1 (fs.zip vs) q → R (.ok (.ret .none)) { s with heap := h', toks := tk }) :
    codeAny (model prog w) A (.call (.ref fI) ⟨.ref x :: pos, kws⟩) R s := by
  obtain ⟨oc, od, doc, pm, an, ct, osl, qual, msg, k1, a1, a2, a3, a4, a5, a6, args, a0, ar, scope, sts, ho, hcd, hsts, ⟨pl, hev⟩, hargs, hpos, ha0, hcells, hkind, hco, hgen, lkS, lkC, lkX, lkF⟩ := IF.ex
  obtain ⟨nm', q', N, bs, bm, sn, sub, ab, col, dd, k0, k1', k2', k3, k5, hC, hbm, hal⟩ := T.cls
  obtain ⟨cl, cld, csl, hcell⟩ := T.cell
  obtain ⟨ccl, cdd, cvs, ccs, file, tf, hcode, hvs, hfile⟩ := T.code
  have zmap : (fs.zip vs).map (·.1) = fs := List.map_fst_zip (by omega)
  have ndz : (((("self" : Str), Value.ref x) :: fs.zip vs).map (·.1)).Nodup := by
    rw [List.map_cons, zmap]
    exact nd
  refine ks_codeAny_call_defAt (binds := (("self" : Str), Value.ref x) :: fs.zip vs) hroom (X _ _ ho) rfl hlim (codeRec_of X hcd) rfl (hbind _ _ ho rfl) hcells ?_ (fun h₁ hns hk => ?_) hco hgen hkind
  · intro y hy
    rcases List.mem_cons.mp hy with rfl | hy
    · exact lkX
    · exact lkF _ (List.of_mem_zip hy).1
  generalize hbd : ((("self" : Str), Value.ref x) :: fs.zip vs) = bd at hns ndz ⊢
  have all : ∀ k v, (k, v) ∈ bd → List.lookup k bd.reverse = some v := fun k v hm => lk_of (by rw [List.map_reverse]; exact List.pairwise_reverse.mpr (ndz.imp fun h => Ne.symm h)) (List.mem_reverse.mpr hm)
  have mS : List.lookup ("self" : Str) bd.reverse = some (.ref x) := all _ _ (by rw [← hbd]; exact List.mem_cons_self)
  have mF : ∀ p ∈ fs.zip vs, List.lookup p.1 bd.reverse = some p.2 := fun p hp => all _ _ (by rw [← hbd]; exact List.mem_cons_of_mem _ hp)
  refine ks_wpAt_execs_cons (ks_wpAt_Expr_any (ks_wpAt_MethodCall (pl := pl) ?_ (hev _)) (hi := by show interactive _ = false; unfold interactive; show (decide (scope.kind = .module) && _) = false; rw [hkind]; rfl))
  have X₁ : K.In h₁ := X.keeps hk
  have hx₁ := hk _ _ hx
  refine ks_wpAt_super_base (ar := a0) (of := ⟨oc, od, _, osl⟩) (oc := ⟨ccl, cdd, .fields cvs, ccs⟩) lkS lkC rfl rfl (X₁ _ _ ho) rfl (by show (args.posonlyargs ++ args.args).head? = _; rw [hpos, hargs]; rfl) rfl (X₁ _ _ hcode) rfl hvs hfile T.top ?_
  obtain ⟨mb, hmb, hsb⟩ := hB
  refine ks_loadName_global hkind lkS (loadGlobal_builtin (hG.keeps hk) T.gS (hmb.keeps hk) hsb ⟨rfl, ?_⟩)
  refine wpAny_loadName_free hkind lkC rfl ⟨_, X₁ _ _ hcell, rfl⟩ ?_
  rw [ha0]
  refine wpAny_loadName_local hkind lkX hns mS ?_
  refine ks_wpAny_isType_cls (X₁ _ _ hC) rfl ⟨rfl, ?_⟩
  refine ks_wpAny_call_super (X₁ _ _ hC) rfl hx₁ rfl (fun c e => by cases e) (looks_mroIn X₁ T.slf) (fun h₂ hso k₂ => ?_)
  have X₂ : K.In h₂ := X₁.keeps k₂
  have hx₂ := k₂ _ _ hx₁
  have I₂ : InstAt h₂ x (excO C t0) C none := ⟨hx₂, rfl, rfl, trivial⟩
  have nxC : x ≠ C := fun z => by rw [z, hC] at hnx; cases hnx
  have hcl : clsIn K C = some { name := nm', bases := bs, mro := .ref C :: bm, ns := N, qualname := q', hasDict := true, slotNames := sn, subclasses := sub, abstract := ab, collection := col, hasDel := false } := by unfold clsIn; rw [hC] <;> rfl
  refine kxs_getMethod b.KF hso (looks_opaque X₂ T.opq) ((looks_clsIn X₂ hcl).andThen .now) (ESX.drop_own C bm) X₂ hal (I₂.type.andThen (looks_subIn X₂ T.bC)) nxC rfl ?_
  have hu : (h₂.push (kxs_mw initId x)).get? h₂.objs.size = some (kxs_mw initId x) := Heap.get?_push_at rfl rfl
  have k₃ : ∀ b o, h₂.get? b = some o → (h₂.push (kxs_mw initId x)).get? b = some o := fun b o e => Heap.get?_push_of_some _ e
  refine kxs_callWith (i := initId) (x := x) rfl (evalArgs_plain ?_)
  refine Calls.spliced_cons (Calls.Constant_str (k := k1) (pos := a4) (Calls.spliced_nil ⟨hu, ?_⟩))
  have X₃ : K.In (h₂.push (kxs_mw initId x)) := X₂.keeps k₃
  refine mw_call b (X₃ _ _ hC) (k₃ _ _ hx₂) hu (by show 1 ≤ sizeLine; decide) (fun h₄ t1 k₄ hx₄ => ?_)
  have keep₄ : ∀ b o, b ≠ x → s.heap.get? b = some o → h₄.get? b = some o := fun b o nb e => k₄ b o nb (k₃ b o (k₂ b o (hk b o e)))
  have X₄ : K.In h₄ := kept_x X hnx keep₄
  have hxL : s.heap.objs.size ≠ x := Nat.ne_of_gt (Heap.lt_size hx)
  obtain ⟨oL, es, ep, hL, rL⟩ := id hns
  have hns₄ : h₄.Ns s.heap.objs.size fun y => List.lookup y bd.reverse := ⟨oL, es, ep, k₄ _ _ hxL (k₃ _ _ (k₂ _ _ hL)), rL⟩
  have hLt : s.heap.objs.size < h₄.objs.size := Heap.lt_size (k₄ _ _ hxL (k₃ _ _ (k₂ _ _ hL)))
  refine wpAt_of_wpAny ?_
  refine run_first (env := callEnv (ksFn "__init__" qual args (.Expr (.Call (.Attribute (.Call (.Name "super" a1) [] [] a2) "__init__" a3) [.Constant (.str msg) k1 a4] [] a5) a6 :: sts) scope .none .none doc pm an (.ref cd) ct cc) s.heap.objs.size fI) (C := C) (x := x) (t1 := t1) (mL := fun y => List.lookup y bd.reverse) b hcl (show refsT tail (.ref C :: bm) = true from hbm) rfl T.sa T.noC hnx hxL hkind lkX mS hsts (vs := vs) X₄ hx₄ hz hns₄ (fun f hf => ⟨(IF.noF f hf).1, (IF.noF f hf).2, lkF f hf⟩) hl mF ?_
  intro h' tk tq dx k hx' dn dne hn
  exact hq h' tk dx t1 ⟨fun b o nb e => k b o nb (keep₄ b o nb e), hx', Nat.le_trans (Nat.le_of_lt hLt) dn, dne, _, hn⟩
end
end ErrG
end PySem
namespace PySem
namespace ErrG
open PySem.W PySem.Calls PyProof.Rows PySem.HandSPX Builtin Builtin.ObjectAttr
/-! ### the making, also with keywords -/
section
variable {M : Model} {A : Around} {E : Value → Shared → Prop} {h : Heap} {g : Array GenState} {d : Drawn} {t : Nat} {os : OsState}
variable {nm q : Str} {C N : Addr} {bs bm bmB : List Value} {hdct : Bool} {sn : List Str} {sub : List Value} {ab : Bool} {col : Option Bool} {dd : Option Addr} {k0 k1 k2 k3 k5 : Option Value} {B newId initId : String} {kw : List (Str × Value)}
theorem check_new_kw (F : ExcBaseFacts B newId initId bmB) (hT : ∀ X : String, bm.contains (.type X) = bmB.contains (.type X)) {rest : List Value} {Q : Unit → Shared → Prop}
    (hC : h.get? C = some (excClassObj nm q C N bs bm hdct sn sub ab col dd k0 k1 k2 k3 k5 newId)) (hq : Q () ⟨h, g, d, t, os⟩) : wpAny M A (checkBuiltinCall newId ⟨.ref C :: rest, kw⟩) Q E ⟨h, g, d, t, os⟩ := by
  have hcont : (Value.ref C :: bm).contains (.type B) = true := by rw [List.contains_cons, hT, F.hasB, Bool.or_true]
  have hstar := F.noStar
  simp only [checkBuiltinCall, F.newKind, F.newSplit, F.newRow]
  repeat (first | refine wpAny_loadPart_at hC ?_ | (refine wpAny_isSubtype_exc hC ?_; rw [hcont]) | refine wpAny_staticBase_exc hC ?_ | refine wpAny_madeBy_exc hC ?_ | simp only [bne_self_eq_false, Bool.false_eq_true, if_false] | wp_step)
  exact hq
end
section
variable {prog : Program} {w : World} {A : Around} {E : Value → Shared → Prop} {R : Result → Shared → Prop} {h : Heap} {g : Array GenState} {d : Drawn} {t : Nat} {os : OsState}
variable {nm q : Str} {C N : Addr} {bs bm bmB : List Value} {hdct : Bool} {sn : List Str} {sub : List Value} {ab : Bool} {col : Option Bool} {dd : Option Addr} {k0 k1 k2 k3 k5 : Option Value} {B newId initId : String} {kw : List (Str × Value)}
theorem new_kw (F : ExcBaseFacts B newId initId bmB) (hT : ∀ X : String, bm.contains (.type X) = bmB.contains (.type X)) {rest : List Value}
    (hC : h.get? C = some (excClassObj nm q C N bs bm hdct sn sub ab col dd k0 k1 k2 k3 k5 newId))
    (hq : R (.ok (.ret (.ref (h.objs.size + 1)))) ⟨(h.push { cls := .type "tuple", data := .seq rest.toArray }).push
      { cls := .ref C, data := .fields #[.ref h.objs.size, .none, .none, .none, .bool false, .none] }, g, d, t, os⟩) (hrest : rest.length ≤ sizeLine) :
    codeAny (model prog w) A (.builtin newId ⟨.ref C :: rest, kw⟩) R ⟨h, g, d, t, os⟩ := by
  have hends := F.ends
  have hcB : (Value.ref C :: bm).contains (.type B) = true := by rw [List.contains_cons, hT, F.hasB, Bool.or_true]
  have hcA : (Value.ref C :: bm).contains (.type "AttributeError") = false := by rw [List.contains_cons, hT, F.noAttr]; rfl
  have hcN : (Value.ref C :: bm).contains (.type "NameError") = false := by rw [List.contains_cons, hT, F.noName]; rfl
  refine codeAny_builtinAt F.entry ?_
  unfold Builtin.«BaseException.__new__»
  refine wpAt_bind ?_
  show wpAt _ _ _ (stack >>= _) _ _ _
  refine wpAt_bind (wpAt_stack fun p below => wpAt_of_wpAny ?_)
  wp_walk
  refine wpAt_of_wpAny ?_
  rw [F.owner]
  repeat (first | with_reducible refine wpAny_madeHere_exc F.canon hC ?_ | with_reducible refine wpAny_loadPart_at hC ?_ | (with_reducible refine wpAny_isSubtype_exc hC ?_; first | rw [hcB] | rw [hcA] | rw [hcN]) | wp_step)
  show R _ _
  rw [Heap.size_push]
  exact hq
theorem type_call_kw (F : ExcBaseFacts B newId initId bmB) (hT : ∀ X : String, bm.contains (.type X) = bmB.contains (.type X)) {rest : List Value} {fI : Addr} {Q : Fin → Shared → Prop}
    (hC : h.get? C = some (excClassObj nm q C N bs bm hdct sn sub ab col dd k0 k1 k2 k3 k5 newId))
    (hi : W.Looks (model prog w) h (typeLookup (.ref C) "__init__") (some (.ref fI))) (hb : ∀ self, W.Looks (model prog w) h (bindSpecial (.ref fI) self) (.ref fI, [self])) (hrest : rest.length ≤ sizeLine)
    (hq : codeAny (model prog w) A (.call (.ref fI) ⟨.ref (h.objs.size + 1) :: rest, kw⟩)
      (fun r s' => match r with | .ok (.ret v) => v = .none ∧ Q (.done (.ret (.ref (h.objs.size + 1)))) s' | .ok _ => False | .error e => E e s')
      ⟨(h.push (W.kdv_tup rest)).push (excO C h.objs.size), g, d, t, os⟩) :
    wpAny (model prog w) A (Builtin.«type.__call__» ⟨.ref C :: rest, kw⟩) Q E ⟨h, g, d, t, os⟩ := by
  repeat (first | with_reducible refine wpAny_loadPart_at hC ?_ | with_reducible refine wpAny_madeBy_exc hC ?_ | wp_step)
  refine codeAny_call_builtin_code (Code.quiet_builtin _ F.quiet) (check_new_kw F hT hC ?_)
  refine new_kw F hT hC ?_ hrest
  show wpAny _ _ _ _ _ _
  have k : ∀ b o, h.get? b = some o → ((h.push (W.kdv_tup rest)).push (excO C h.objs.size)).get? b = some o := fun b o e => Heap.get?_push_of_some _ (Heap.get?_push_of_some _ e)
  have hC₁ := k _ _ hC
  have hget : ((h.push (W.kdv_tup rest)).push (excO C h.objs.size)).get? (h.objs.size + 1) = some (excO C h.objs.size) := by heap_get
  have hcC : (Value.ref C :: bm).contains (.ref C) = true := by simp
  have i1 := hi.keeps k
  have b1 := (hb (.ref (h.objs.size + 1))).keeps k
  unfold isInstance
  repeat (first | with_reducible refine wpAny_loadPart_at hget ?_ | (with_reducible refine wpAny_isSubtype_exc hC₁ ?_; rw [hcC]) | wp_step)
  show wpAny _ _ (typeLookup (.ref C) _) _ _ _
  refine i1.at ?_
  refine wpAny_holding (wpAny_bind (b1.at ?_))
  refine wpAny_bind (wpAny_call (codeAny_mono hq fun r s' z => ?_))
  rcases r with e | (v | _ | _ | _) <;> first | exact z | exact z.elim | skip
  obtain ⟨rfl, z⟩ := z
  first
    | exact wpAny_pure (wpAny_pure z)
    | (wp_walk; exact z)
theorem check_type_call_kw {M : Model} {rest : List Value} {Q : Unit → Shared → Prop} {E : Value → Shared → Prop} (hC : h.get? C = some (excClassObj nm q C N bs bm hdct sn sub ab col dd k0 k1 k2 k3 k5 newId))
    (hq : Q () ⟨h, g, d, t, os⟩) : wpAny M A (checkBuiltinCall "type.__call__" ⟨.ref C :: rest, kw⟩) Q E ⟨h, g, d, t, os⟩ := by
  have f3 := tc_sub
  have hT : (⟨h, g, d, t, os⟩ : Shared).TypeIs (.ref C) "type" := ⟨_, hC, rfl⟩
  simp only [checkBuiltinCall, tc_kind, tc_split]
  repeat (any_goals (first | assumption | with_reducible refine wpAny_loadPart_at hC ?_ | with_reducible refine wpAny_onRaise ?_ | with_reducible refine wpAny_map ?_ | wp_step))
theorem call_kw (F : ExcBaseFacts B newId initId bmB) (hT : ∀ X : String, bm.contains (.type X) = bmB.contains (.type X)) {rest : List Value} {fI : Addr}
    (hC : h.get? C = some (excClassObj nm q C N bs bm hdct sn sub ab col dd k0 k1 k2 k3 k5 newId))
    (hi : W.Looks (model prog w) h (typeLookup (.ref C) "__init__") (some (.ref fI))) (hb : ∀ self, W.Looks (model prog w) h (bindSpecial (.ref fI) self) (.ref fI, [self])) (hrest : rest.length ≤ sizeLine)
    (hq : codeAny (model prog w) (A.under (.builtin "type.__call__" ⟨.ref C :: rest, kw⟩)) (.call (.ref fI) ⟨.ref (h.objs.size + 1) :: rest, kw⟩) (W.InitBack (h.objs.size + 1) R)
      ⟨(h.push (W.kdv_tup rest)).push (excO C h.objs.size), g, d, t, os⟩) :
    codeAny (model prog w) A (.call (.ref C) ⟨rest, kw⟩) R ⟨h, g, d, t, os⟩ := by
  have f1 := tc_lookup
  have f2 := tc_bind (.ref C)
  have hTy : (⟨h, g, d, t, os⟩ : Shared).TypeIs (.ref C) "type" := ⟨_, hC, rfl⟩
  refine codeAny_of_tree ?_
  show wpAny _ _ (callAny (.ref C) _) _ _ _
  repeat (any_goals (first | assumption | with_reducible refine wpAny_loadPart_at hC ?_ | wp_step))
  refine ⟨rfl, ?_⟩
  refine codeAny_call_builtin_at (Code.quiet_builtin _ (by decide +kernel)) entry_typeCall (check_type_call_kw hC (type_call_kw F hT hC hi hb hrest ?_))
  refine codeAny_mono hq fun r s' z => ?_
  rcases r with e | (v | _ | _ | _) <;> exact z
end
end ErrG
end PySem
/-! own errors as values: made, their attributes read, told by isinstance -/
namespace PySem
namespace ErrG
open PySem.W PySem.Calls PyProof.Rows PySem.HandSPX
structure Own (h h' : Heap) (e C d : Addr) (ps : List (Str × Value)) (q : Str) : Prop where
  keep : ∀ b o, h.get? b = some o → h'.get? b = some o
  new : h.objs.size ≤ e
  obj : ∃ t1, h'.get? e = some (xob C d t1)
  dbig : h.objs.size ≤ d
  dne : d ≠ e
  ns : ∃ tk, h'.Ns1 d (putM (endM (fun _ => none) ps) "code" (.str q tk))
/-- how the __init__ at fI binds: n values and keywords ks -/
def BindF (K : Frag) (fI : Addr) (fs : List Str) (n : Nat) (ks : List Str) (g : List Value → List Value → List Value) : Prop :=
  ∀ (s : Shared) (x : Addr) (us ws : List Value), us.length = n → ws.length = ks.length → (g us ws).length = fs.length ∧ ∀ o fd, K.lookup fI = some o → o.data = .func fd → BindsTo s fd ⟨.ref x :: us, ks.zip ws⟩ (("self", Value.ref x) :: fs.zip (g us ws) : List (Str × Value))
section
variable {prog : Program} {w : World} {A : Around} {E : Value → Shared → Prop} {R : Result → Shared → Prop} {s : Shared} {K : Frag} {mg : Str → Option Value} {nm q : Str} {fs : List Str} {B newId initId : String} {tail : List Value} {C fI cc cd : Addr}
theorem err_made (b : BaseB B newId initId tail) (T : ErrC prog K mg nm B newId initId tail C fI cc cd) (IF : InitF K fs q C fI cc cd) {us ws : List Value} {ks : List Str} {n : Nat} {gv : List Value → List Value → List Value} (X : K.In s.heap) (hG : s.heap.Ns mainGlobals mg) (hB : ∃ mb, s.heap.Ns builtinsNs mb ∧ mb "super" = some (.type "super")) (hlim : s.heap.NoLimit) (hroom : A.depth + 1 < recursionLimit)
    (hz : fs.length ≤ 800) (nd : (("self" : Str) :: fs).Nodup) (bf : BindF K fI fs n ks gv) (hn : us.length = n) (hw : ws.length = ks.length) (hus : us.length ≤ sizeLine)
    (hq : ∀ h' tk e d, Own s.heap h' e C d (fs.zip (gv us ws)) q → R (.ok (.ret (.ref e))) { s with heap := h', toks := tk }) :
    codeAny (model prog w) A (.call (.ref C) ⟨us, ks.zip ws⟩) R s := by
  obtain ⟨nm', q', N, bs, bm, sn, sub, ab, col, dd, k0, k1', k2', k3, k5, hC, hbm, hal⟩ := T.cls
  obtain ⟨hp, g, dr, tk, os⟩ := s
  have k : ∀ b o, hp.get? b = some o → ((hp.push (kdv_tup us)).push (excO C hp.objs.size)).get? b = some o := fun b o e => Heap.get?_push_of_some _ (Heap.get?_push_of_some _ e)
  have hget : ((hp.push (kdv_tup us)).push (excO C hp.objs.size)).get? (hp.objs.size + 1) = some (excO C hp.objs.size) := by heap_get
  have hnx : K.lookup (hp.objs.size + 1) = none := by
    cases e : K.lookup (hp.objs.size + 1) with
    | none => rfl
    | some o =>
      have z : hp.get? (hp.objs.size + 1) = some o := X _ _ e
      exact absurd (Nat.lt_of_succ_lt (Heap.lt_size z)) (Nat.lt_irrefl _)
  obtain ⟨mb, hmb, hsb⟩ := hB
  refine call_kw b.F (fun X => refsT_contains b X bm hbm) (X _ _ hC) (looks_findIn X T.iC) (fun self => bind_fn X self T.tC) hus ?_
  obtain ⟨hl, hbd⟩ := bf ⟨(hp.push (kdv_tup us)).push (excO C hp.objs.size), g, dr, tk, os⟩ (hp.objs.size + 1) us ws hn hw
  refine err_init (s := ⟨(hp.push (kdv_tup us)).push (excO C hp.objs.size), g, dr, tk, os⟩) b T IF (X.keeps k) (hG.keeps k) ⟨mb, hmb.keeps k, hsb⟩ (hlim.keeps k) hget hnx (show A.depth + 1 < recursionLimit from hroom) hz hl nd hbd fun h' tk' dx t1 M => ?_
  have old : ∀ b o, hp.get? b = some o → h'.get? b = some o := fun b o e => M.keep b o (Nat.ne_of_lt (Nat.lt_succ_of_lt (Heap.lt_size e))) (k b o e)
  have z : hp.objs.size + 1 + 1 ≤ dx := by
    have dn := M.dbig
    rw [Heap.size_push, Heap.size_push] at dn
    exact dn
  exact ⟨rfl, hq h' tk' (hp.objs.size + 1) dx ⟨old, Nat.le_succ _, ⟨t1, M.obj⟩, Nat.le_trans (Nat.le_trans (Nat.le_succ _) (Nat.le_succ _)) z, M.dne, M.ns⟩⟩
end
end ErrG
end PySem
namespace My
open PySem PySem.Spec PyProof.Rows L2
theorem relO_end : ∀ {l : List (Str × V)} {l' : List (Str × Value)} {acc : List (Str × V)} {m : Str → Option Value}, KV l l' → (∀ y, RelO (acc.lookup y) (m y)) → ∀ y, RelO ((l.reverse ++ acc).lookup y) (ErrG.endM m l' y)
  | [], _, acc, m, .nil, r => r
  | (f, v) :: l, _, acc, m, .cons (a := _) (b := (f', u)) z t, r => fun y => by
    obtain ⟨z1, z2⟩ := z
    dsimp only at z1 z2
    subst z1
    have e : ((f, v) :: l).reverse ++ acc = l.reverse ++ ((f, v) :: acc) := by simp
    rw [e]
    exact relO_end (m := ErrG.putM m f u) t (fun y => relO_put z2 r y) y
theorem kv_zip : ∀ {fs : List Str} {vs : List V} {us : List Value}, Vals vs us → KV (fs.zip vs) (fs.zip us)
  | [], _, _, _ => by simp only [List.zip_nil_left]; exact .nil
  | _ :: _, _, _, .nil => .nil
  | f :: fs, _, _, .cons r t => .cons ⟨rfl, r⟩ (kv_zip t)
abbrev errV (fs : List Str) (q : Str) (vs : List V) : List (Str × V) := ("code", .str q) :: ((fs.zip vs).reverse ++ [])
/-- an own error held as a value -/
structure EV (K : PySem.W.Frag) (H : Hp) (v : V) (C : Addr) (q : Str) (l : List (Str × V)) : Prop where
  ex : ∃ e d : Addr, v = .ref e ∧ H e = some (exo e C (some d)) ∧ H d = some (.xd (("code", .str q) :: l))
theorem EV.same {K : PySem.W.Frag} {H H' : Hp} {v : V} {C : Addr} {q : Str} {l : List (Str × V)} (h : EV K H v C q l) (s : Same H H') : EV K H' v C q l := by
  obtain ⟨e, d, a, b, c⟩ := h.ex
  exact ⟨e, d, a, s _ _ b, s _ _ c⟩
/-- what an error class says -/
structure ErrK (P : Program) (K : PySem.W.Frag) (mg : Str → Option Value) (nm q : Str) (fs ks : List Str) (gL : List Value → List Value) (C : Addr) : Prop where
  ex : ∃ B newId initId tail fI cc cd, ErrG.BaseB B newId initId tail ∧ ErrG.ErrC P K mg nm B newId initId tail C fI cc cd ∧ ErrG.InitF K fs q C fI cc cd ∧ fs.length ≤ 800 ∧ (("self" : Str) :: fs).Nodup ∧ ErrG.BindF K fI fs fs.length [] (fun us _ => us) ∧ ErrG.BindF K fI fs 0 ks (fun _ ws => gL ws)
/-- X(e, ..) as a value -/
def tMkV (C : Addr) (q : Str) (fs : List Str) (n : Nat) (t : TA) : TE := fun σ H Q => t σ H fun vs H2 => vs.length = n ∧ ∀ e d, H2 e = none → H2 d = none → d ≠ e →
  Q (.ref e) (upd (upd H2 d (.xd (errV fs q vs))) e (exo e C (some d)))
/-- X(k = v, ..) as a value -/
def tMkVK (C : Addr) (q : Str) (fs : List Str) (m : Nat) (g : List V → List V) (tk : TA) : TE := fun σ H Q => tk σ H fun zs H2 => zs.length = m ∧ ∀ e d, H2 e = none → H2 d = none → d ≠ e →
  Q (.ref e) (upd (upd H2 d (.xd (errV fs q (g zs)))) e (exo e C (some d)))
section
variable {X : Cx} {C fI cc cd : Addr} {nm q : Str} {fs ks : List Str} {B newId initId : String} {tail : List Value} {k n : Nat}
theorem run_mkV {pins : List (Addr × Obj)} {σ : L2.St} {H : Hp} {s : Shared} {Q : VK} {us ws : List Value} {vs : List V} {gv : List Value → List Value → List Value} (b : ErrG.BaseB B newId initId tail) (T : ErrG.ErrC X.prog X.K X.mg nm B newId initId tail C fI cc cd) (IF : ErrG.InitF X.K fs q C fI cc cd)
    (hz : fs.length ≤ 800) (nd : (("self" : Str) :: fs).Nodup) (bf : ErrG.BindF X.K fI fs n ks gv) (hr : Room k X.A) (I : Inv X pins σ H s) (hn : us.length = n) (hw : ws.length = ks.length) (hus : us.length ≤ sizeLine) (rv : Vals vs (gv us ws))
    (h : ∀ e d, H e = none → H d = none → d ≠ e → Q (.ref e) (upd (upd H d (.xd (errV fs q vs))) e (exo e C (some d)))) :
    wpAny (model X.prog X.w) X.A (call (.ref C) us (ks.zip ws)) (EP X pins σ Q) X.xe s := by
  have hlim := I.nolimit
  obtain ⟨mb, hb1, hb2⟩ := I.mod.blt
  have hB : ∃ mb, s.heap.Ns builtinsNs mb ∧ mb "super" = some (.type "super") := ⟨mb, hb1.keeps I.bk, (hb2 _ (by decide +kernel)).trans (by decide +kernel)⟩
  refine wpAny_call (ErrG.err_made b T IF I.kIn (I.mod.glob.keeps I.bk) hB hlim (by have := hr.dp; omega) hz nd bf hn hw hus fun h' tk' e d M => ?_)
  obtain ⟨hp, g, dr, tok, os⟩ := s
  obtain ⟨t1, hoe⟩ := M.obj
  obtain ⟨tk0, hns⟩ := M.ns
  obtain ⟨G', g1, g2⟩ := restrict h' fun b => decide (b ≠ e)
  have gk : ∀ b, b ≠ e → G'.get? b = h'.get? b := fun b hb => g1 b (decide_eq_true hb)
  have ge : G'.get? e = none := g2 e (by simp)
  have old : ∀ b o, hp.get? b = some o → G'.get? b = some o := fun b o z => (gk b (Nat.ne_of_lt (Nat.lt_of_lt_of_le (Heap.lt_size z) M.new))).trans (M.keep b o z)
  have ob : ObjOk X.prog X.w (upd H d (.xd (errV fs q vs))) G' d (.xd (errV fs q vs)) := ⟨_, hns.at (fun o z => (gk d M.dne).trans z), fun y => relO_put (f := "code") (y := V.str q) (u := Value.str q tk0) (show RelV (V.str q) (Value.str q tk0) from ⟨_, rfl⟩) (relO_end (acc := []) (m := fun _ => none) (kv_zip rv) (fun y => show RelO none none from trivial)) y⟩
  have J : Inv X pins σ (upd H d (.xd (errV fs q vs))) ⟨G', g, dr, tk', os⟩ := I.laid (t' := tk') old M.dbig ob
  have he : upd H d (.xd (errV fs q vs)) e = none := by
    rw [upd_ne (Ne.symm M.dne)]
    exact I.hok.fresh M.new
  have J2 := Inv.laidN (h' := h') (a := e) (o := exo e C (some d)) (t' := tk') J (fun b o z => by
    by_cases hb : b = e
    · have z' : G'.get? b = some o := z
      rw [hb, ge] at z'
      cases z'
    · exact (gk b hb).symm.trans z) ge he (exo_ok hoe)
  exact ⟨.ref e, _, J2, rfl, h e d (I.hok.fresh M.new) (I.hok.fresh M.dbig) M.dne⟩
theorem pe_mkV {e : Expr} {es : List Expr} {t : TA} {p pos : Pos} {gL : List Value → List Value} (E : ErrK X.prog X.K X.mg nm q fs ks gL C) (hr : Room k X.A) (hg : Gl X nm) (ha : PA X (e :: es) t) (hn : fs.length = n) (hd : (nm == ("__debug__" : Str)) = false := by decide)
    (he : starEach (e :: es) X.env = (false, eval e X.env) :: starEach es X.env := by rfl) (hpl : (backTo pos (starEach es X.env)).any (·.1) = false := by rfl) :
    PE X (.Call (.Name nm p) (e :: es) [] pos) (tMkV C q fs n t) := by
  subst hn
  obtain ⟨B, newId, initId, tail, fI, cc, cd, b, T, IF, hz, nd, bf, bk⟩ := E.ex
  refine ⟨fun pins s σ H Q I h => ?_⟩
  refine wpAny_Call_Name_kw (ld_glob I hg T.gC ?_ hd)
  refine PySem.W.callWith_K (h₀ := X.base) I.ok.mod.kin T.kC (thn (ha.run pos pins s σ H _ I h) fun us s1 hh => ?_) he hpl
  obtain ⟨vs, H1, I1, rv, hn, q1⟩ := hh
  refine ⟨I1.kIn, ?_⟩
  have hus : us.length = fs.length := rv.length.symm.trans hn
  exact run_mkV (us := us) (ws := []) (ks := []) (vs := vs) b T IF hz nd bf hr I1 hus rfl (by have := sizeLine_eq; omega) rv q1
theorem pe_mkV0 {p pos : Pos} {gL : List Value → List Value} (E : ErrK X.prog X.K X.mg nm q [] ks gL C) (hr : Room k X.A) (hg : Gl X nm) (hd : (nm == ("__debug__" : Str)) = false := by decide) :
    PE X (.Call (.Name nm p) [] [] pos) (tMkV C q [] 0 tNil) := by
  obtain ⟨B, newId, initId, tail, fI, cc, cd, b, T, IF, hz, nd, bf, bk⟩ := E.ex
  refine ⟨fun pins s σ H Q I h => ?_⟩
  refine wpAny_Call_Name_kw (ld_glob I hg T.gC ?_ hd)
  refine PySem.W.callWith_K0 I.kIn T.kC ?_
  exact run_mkV (us := []) (ws := []) (ks := []) (vs := []) b T IF hz nd bf hr I rfl rfl (by show 0 ≤ sizeLine; omega) .nil h.2
theorem pe_mkVK {kws : List Keyword} {tk : TA} {p pos : Pos} {gV : List V → List V} {gL : List Value → List Value} (E : ErrK X.prog X.K X.mg nm q fs ks gL C)
    (hgv : ∀ zs ws, Vals zs ws → Vals (gV zs) (gL ws)) (hr : Room k X.A) (hg : Gl X nm) (hkw : PK X kws tk)
    (hall : (backToKw pos (keywordEach kws X.env)).all (·.1.isSome) = true := by rfl) (hks : (backToKw pos (keywordEach kws X.env)).filterMap (·.1) = ks := by rfl) (hdb : (nm == ("__debug__" : Str)) = false := by decide)
    (hpl : ((backTo pos (starEach [] X.env)).any (·.1) || (backToKw pos (keywordEach kws X.env)).any (·.1.isNone)) = false := by rfl) :
    PE X (.Call (.Name nm p) [] kws pos) (tMkVK C q fs ks.length gV tk) := by
  obtain ⟨B, newId, initId, tail, fI, cc, cd, b, T, IF, hz, nd, bg, bf⟩ := E.ex
  refine ⟨fun pins s σ H Q I h => ?_⟩
  refine wpAny_Call_Name_kw (ld_glob I hg T.gC ?_ hdb)
  refine PySem.W.callWith_KW0 (h₀ := X.base) I.ok.mod.kin T.kC hall ?_ hpl
  refine thn (hkw.run pos pins s σ H _ I h) fun ws s2 ⟨zs, H2, I2, rz, l2, q2⟩ => ⟨I2.kIn, ?_⟩
  rw [hks]
  exact run_mkV (us := []) (ws := ws) (ks := ks) b T IF hz nd bf hr I2 rfl (rz.length.symm.trans l2) (by show 0 ≤ sizeLine; omega) (hgv _ _ rz) q2
end
theorem idV : ∀ zs ws, Vals zs ws → Vals ((fun z : List V => z) zs) ((fun w : List Value => w) ws) := fun _ _ h => h
def swap2 {α : Type} : List α → List α
  | [a, b] => [b, a]
  | l => l
theorem swapV : ∀ zs ws, Vals zs ws → Vals (swap2 zs) (swap2 ws)
  | _, _, .nil => .nil
  | _, _, .cons a .nil => .cons a .nil
  | _, _, .cons a (.cons b .nil) => .cons b (.cons a .nil)
  | _, _, .cons a (.cons b (.cons c d)) => .cons a (.cons b (.cons c d))
/-! ### a field of such a value -/
def tVg (K : PySem.W.Frag) (n : Str) (te : TE) : TE := fun σ H Q => te σ H fun x H1 => ∃ (a C d : Addr) (fs : List (Str × V)) (v : V), x = .ref a ∧ H1 a = some (exo a C (some d)) ∧ XfC K C ∧ PySem.W.findIn K (.ref C) n = some none ∧ H1 d = some (.xd fs) ∧ fs.lookup n = some v ∧ Q v H1
theorem pe_vg {X : Cx} {K : PySem.W.Frag} {e : Expr} {te : TE} {pos : Pos} {n : Str} (he : PE X e te) (hK : X.K = K := by rfl) (hb : attributeBase e n X.env (eval e X.env) = eval e X.env := by rfl) : PE X (.Attribute e n pos) (tVg K n te) := by
  subst hK
  constructor
  intro pins s σ H Q I h
  apply attr_of hb
  apply thn (he.run pins s σ H _ I h)
  rintro u s1 ⟨x, H1, I1, rx, a, C, dd, fs, v, rfl, ha, T, hno, ea, l, q⟩
  obtain rfl : u = Value.ref a := rx
  obtain ⟨t1, hoa⟩ := exo_at I1.hok ha
  obtain ⟨mA, hns, hr⟩ : ObjOk X.prog X.w H1 s1.heap dd (.xd fs) := I1.hok dd _ ea
  obtain ⟨od, ho, hl⟩ := lookIn_ns hns
  have rn := hr n
  rw [l] at rn
  obtain ⟨u, hu, ru⟩ := RelO.some_of (v := v) (o := mA n) rn
  have at_ : PySem.W.InstAt s1.heap a _ C (some od) := ⟨hoa, rfl, rfl, ho⟩
  exact HandSPX.exc_get I1.kIn at_ T.ga T.gg T.exC (PySem.W.findObj_own T.hdC hno rfl (by rw [hl, hu])) (handed_of ru) ⟨v, H1, I1.tok _, ru, q⟩
/-! ### isinstance of such a value -/
def rIsV (K : PySem.W.Frag) : List V → Hp → VK → Prop := fun xs H Q => ∃ (a C d : Addr) (c : V) (cv : Value) (b : Bool), xs = [.ref a, c] ∧ H a = some (exo a C (some d)) ∧ (∃ fs, H d = some (.xd fs)) ∧ ExcC K C ∧ ClsV c cv ∧ PySem.W.kitOne K (.ref C) cv = some b ∧ Q (.bl b) H
theorem call_isV {X : Cx} : CallR X (.builtin "isinstance") (rIsV X.K) := by
  intro pins s σ H xs us Q I r h
  obtain ⟨a, C, d, c, cv, b, rfl, ha, ⟨fs, hd⟩, T, hcv, e, q⟩ := h
  obtain ⟨u1, u2, rfl, rx, rt⟩ := vals2 r
  cases (show u1 = Value.ref a from rx)
  have ec := hcv.eq rt
  subst ec
  obtain ⟨t1, hoa⟩ := exo_at I.hok ha
  obtain ⟨mA, hns, hr⟩ : ObjOk X.prog X.w H s.heap d (.xd fs) := I.hok d _ hd
  obtain ⟨od, ho, hl⟩ := lookIn_ns hns
  have J : PySem.W.InstAt s.heap a _ C (some od) := ⟨hoa, rfl, rfl, ho⟩
  have hcl : (PySem.W.clsIn X.K C).isSome = true := by
    obtain ⟨cd, hc, _⟩ := PySem.W.any_some T.hd
    rw [hc]; rfl
  exact PySem.W.kia_one (PySem.W.kitx_exc hcl T.hg T.hk T.hs T.ha T.hn T.ht T.hm) I.kIn J e (fun z => nomatch z) fun tk => ⟨.bl b, H, I.kept (t' := tk) fun _ _ z => z, rfl, q⟩
theorem call_isVK {X : Cx} (K : PySem.W.Frag) (hK : X.K = K) : CallR X (.builtin "isinstance") (rIsV K) := by
  subst hK
  exact call_isV
end My
namespace PySem
namespace ErrG
open PySem.W PySem.Calls PyProof.Rows PySem.HandSPX
/-- what is asked of the def's text -/
def BodyOk (st : Stmt) (fs : List Str) (q : Str) : Prop := ∃ (msg : Str) (k1 : Nat) (a1 a2 a3 a4 a5 a6 : Pos) (a0 : Arg) (ar : List Arg) (sts : List Stmt),
  L2.defBody st = .Expr (.Call (.Attribute (.Call (.Name "super" a1) [] [] a2) "__init__" a3) [.Constant (.str msg) k1 a4] [] a5) a6 :: sts ∧ Sts q fs sts ∧ InitEval msg k1 a1 a2 a3 a4 a5 ∧
  (L2.defArgs st).args = a0 :: ar ∧ (L2.defArgs st).posonlyargs = [] ∧ a0.arg = "self" ∧ (∀ y ∈ (L2.defScope st).names, y.2 ≠ .cell) ∧ (L2.defScope st).kind = .function ∧ (L2.defScope st).isCoroutine = false ∧ (L2.defScope st).isGenerator = false ∧
  (L2.defScope st).names.lookup ("super" : Str) = some .globalImplicit ∧ (L2.defScope st).names.lookup ("__class__" : Str) = some .free ∧ (L2.defScope st).names.lookup ("self" : Str) = some .local ∧ (∀ f ∈ fs, (L2.defScope st).names.lookup f = some .local)
def BindS (st : Stmt) (fs : List Str) (n : Nat) (ks : List Str) (g : List Value → List Value → List Value) : Prop :=
  ∀ (s : Shared) (x : Addr) (us ws : List Value) (qual : Str) (doc pm : Value) (an : Option Addr) (cdv ct : Value) (cc : Addr), us.length = n → ws.length = ks.length → (g us ws).length = fs.length ∧
    BindsTo s (ksFn "__init__" qual (L2.defArgs st) (L2.defBody st) (L2.defScope st) .none .none doc pm an cdv ct cc) ⟨.ref x :: us, ks.zip ws⟩ (("self", Value.ref x) :: fs.zip (g us ws) : List (Str × Value))
def errB (K : Frag) (C fI : Addr) (fs : List Str) (B : String) : Bool :=
  decide (findIn K (.ref C) "__setattr__" = some (some (.builtin "object.__setattr__"))) && (decide (findIn K (.ref C) "__getattribute__" = some (some (.builtin "BaseException.__getattribute__"))) && (decide (findIn K (.ref C) "__getattr__" = some none) && (
  (("code" : Str) :: fs).all (fun f => decide (findIn K (.ref C) f = some none)) && (decide (findIn K (.ref C) "__class__" = some (some (.builtin "object.__class__"))) && (decide (typeIn K (.ref fI) = some (.type "function")) && (
  decide (subIn K (.ref C) (.type "BaseException") = some true) && (decide (subIn K (.ref C) (.type B) = some true) && (decide (mroIn K C (.ref C) = some true) && (decide (mroIn K C (.type "object") = some true) && (hasDictIn K C && keepIn K (.ref C)))))))))))
/-- what its values are good for -/
structure ErrU (K : Frag) (C : Addr) (fs : List Str) : Prop where
  xf : L2.XfC K C
  ec : L2.ExcC K C
  no : ∀ f ∈ ("code" : Str) :: fs, findIn K (.ref C) f = some none
section
variable {P : Program} {K : Frag} {mg : Str → Option Value} {nm q : Str} {fs ks : List Str} {B newId initId : String} {tail : List Value} {C fI cc cd : Addr} {st : Stmt} {n : Nat} {g : List Value → List Value → List Value}
  {oc : Value} {od : Option Addr} {doc pm : Value} {an : Option Addr} {ct : Value} {osl : Array (Option Value)} {qual : Str}
theorem bind_of (lk : K.lookup fI = some ⟨oc, od, .func (ksFn "__init__" qual (L2.defArgs st) (L2.defBody st) (L2.defScope st) .none .none doc pm an (.ref cd) ct cc), osl⟩) (bs : BindS st fs n ks g) : BindF K fI fs n ks g := fun s x us ws h1 h2 =>
  ⟨(bs s x us ws qual doc pm an (.ref cd) ct cc h1 h2).1, fun o fd ho hd => by
    rw [lk] at ho
    cases ho
    cases hd
    exact (bs s x us ws qual doc pm an (.ref cd) ct cc h1 h2).2⟩
theorem use_of (e : errB K C fI fs B = true) (hn : specialIn K (.builtin "object.__class__") "__get__" = some (some (.builtin "getset_descriptor.__get__"))) (ht : takesIn K (.builtin "object.__class__") = some true) : ErrU K C fs := by
  unfold errB at e
  simp only [Bool.and_eq_true, decide_eq_true_eq, List.all_eq_true] at e
  obtain ⟨e1, e2, e3, e4, e5, e6, e7, e8, e9, e10, e11, e12⟩ := e
  exact ⟨⟨e2, e3, e7, e11⟩, ⟨e2, e3, e7, e11, e5, hn, ht, e10⟩, e4⟩
theorem mk_of (b : BaseB B newId initId tail) (gC : mg nm = some (.ref C)) (gS : mg "super" = none) (cls : ∃ nm' q' N bs bm sn sub ab col dd k0 k1 k2 k3 k5, K.lookup C = some (excClassObj nm' q' C N bs bm true sn sub ab col dd k0 k1 k2 k3 k5 newId) ∧ (refsT tail bm && decide (alongIn K "__init__" bm = some (some (.builtin initId)))) = true)
    (iC : findIn K (.ref C) "__init__" = some (some (.ref fI))) (e : errB K C fI fs B = true) (opq : nsIn K cStatics "thirdparty.any" = some none) (cell : ∃ cl cld csl, K.lookup cc = some ⟨cl, cld, .cell (some (.ref C)), csl⟩)
    (code : ∃ ccl cdd vs ccs file tf, K.lookup cd = some ⟨ccl, cdd, .fields vs, ccs⟩ ∧ vs[2]? = some (.str file tf) ∧ ((P.main.file : Str) == file) = true) (top : (P.main.scope.names.lookup ("super" : Str)).isSome = false)
    (lk : K.lookup fI = some ⟨oc, od, .func (ksFn "__init__" qual (L2.defArgs st) (L2.defBody st) (L2.defScope st) .none .none doc pm an (.ref cd) ct cc), osl⟩) (hcd : codeIn K (.ref cd) qual = true) (bo : BodyOk st fs q) (hf : (fs.all fun f => !(f == ("__debug__" : Str))) = true)
    (hl : fs.length ≤ 800) (nd : (("self" : Str) :: fs).Nodup) (b1 : BindS st fs fs.length [] (fun us _ => us)) {gL : List Value → List Value} (b2 : BindS st fs 0 ks (fun _ ws => gL ws)) :
    ∃ B newId initId tail fI cc cd, BaseB B newId initId tail ∧ ErrC P K mg nm B newId initId tail C fI cc cd ∧ InitF K fs q C fI cc cd ∧ fs.length ≤ 800 ∧ (("self" : Str) :: fs).Nodup ∧ BindF K fI fs fs.length [] (fun us _ => us) ∧ BindF K fI fs 0 ks (fun _ ws => gL ws) := by
  unfold errB at e
  simp only [Bool.and_eq_true, decide_eq_true_eq, List.all_eq_true] at e
  obtain ⟨e1, e2, e3, e4, e5, e6, e7, e8, e9, e10, e11, e12⟩ := e
  obtain ⟨nm', q', N, bs, bm, sn, sub, ab, col, dd, k0, k1, k2, k3, k5, c1, c2⟩ := cls
  simp only [Bool.and_eq_true, decide_eq_true_eq] at c2
  obtain ⟨msg, j1, a1, a2, a3, a4, a5, a6, a0, ar, sts, o1, o2, o3, o4, o5, o6, o7, o8, o9, o10, o11, o12, o13, o14⟩ := bo
  refine ⟨B, newId, initId, tail, fI, cc, cd, b, ⟨gC, gS, ⟨nm', q', N, bs, bm, sn, sub, ab, col, dd, k0, k1, k2, k3, k5, c1, c2.1, c2.2⟩, e1, e4 _ List.mem_cons_self, iC, e6, e12, e8, e9, opq, cell, code, top⟩,
    ⟨⟨oc, od, doc, pm, an, ct, osl, qual, msg, j1, a1, a2, a3, a4, a5, a6, L2.defArgs st, a0, ar, L2.defScope st, sts, ?_, hcd, o2, o3, o4, o5, o6, o7, o8, o9, o10, o11, o12, o13, o14⟩, fun f hm => ⟨e4 f (List.mem_cons_of_mem _ hm), ?_⟩⟩, hl, nd, bind_of lk b1, bind_of lk b2⟩
  · rw [lk, o1]
  · have z := List.all_eq_true.mp hf f hm
    cases h : (f == ("__debug__" : Str)) with
    | false => rfl
    | true => rw [h] at z; cases z
end
end ErrG
end PySem
namespace My
open PySem PySem.Spec PyProof.Rows L2
theorem bo_InvalidNumber : ErrG.BodyOk s_InvalidNumber_init ["given"] "InvalidNumber" := ⟨_, _, _, _, _, _, _, _, _, _, _, rfl, (.fld .last), ⟨_, fun env => rfl⟩, rfl, rfl, rfl, by decide +kernel, rfl, rfl, rfl, rfl, rfl, rfl, by decide +kernel⟩
theorem bs_InvalidNumber : ErrG.BindS s_InvalidNumber_init ["given"] 1 [] (fun us _ => us) := fun s x us ws q dc pm an cd ct cc h1 h2 => match us, ws, h1, h2 with | [_], [], _, _ => ⟨rfl, .of_eq rfl⟩
theorem bk_InvalidNumber : ErrG.BindS s_InvalidNumber_init ["given"] 0 ["given"] (fun _ ws => (fun ws => ws) ws) := fun s x us ws q dc pm an cd ct cc h1 h2 => match us, ws, h1, h2 with | [], [_], _, _ => ⟨rfl, .of_eq rfl⟩
theorem bo_InvalidThing : ErrG.BodyOk s_InvalidThing_init ["given"] "InvalidThing" := ⟨_, _, _, _, _, _, _, _, _, _, _, rfl, (.fld .last), ⟨_, fun env => rfl⟩, rfl, rfl, rfl, by decide +kernel, rfl, rfl, rfl, rfl, rfl, rfl, by decide +kernel⟩
theorem bs_InvalidThing : ErrG.BindS s_InvalidThing_init ["given"] 1 [] (fun us _ => us) := fun s x us ws q dc pm an cd ct cc h1 h2 => match us, ws, h1, h2 with | [_], [], _, _ => ⟨rfl, .of_eq rfl⟩
theorem bk_InvalidThing : ErrG.BindS s_InvalidThing_init ["given"] 0 ["given"] (fun _ ws => (fun ws => ws) ws) := fun s x us ws q dc pm an cd ct cc h1 h2 => match us, ws, h1, h2 with | [], [_], _, _ => ⟨rfl, .of_eq rfl⟩
theorem bo_InvalidRing : ErrG.BodyOk s_InvalidRing_init ["given"] "InvalidRing" := ⟨_, _, _, _, _, _, _, _, _, _, _, rfl, (.fld .last), ⟨_, fun env => rfl⟩, rfl, rfl, rfl, by decide +kernel, rfl, rfl, rfl, rfl, rfl, rfl, by decide +kernel⟩
theorem bs_InvalidRing : ErrG.BindS s_InvalidRing_init ["given"] 1 [] (fun us _ => us) := fun s x us ws q dc pm an cd ct cc h1 h2 => match us, ws, h1, h2 with | [_], [], _, _ => ⟨rfl, .of_eq rfl⟩
theorem bk_InvalidRing : ErrG.BindS s_InvalidRing_init ["given"] 0 ["given"] (fun _ ws => (fun ws => ws) ws) := fun s x us ws q dc pm an cd ct cc h1 h2 => match us, ws, h1, h2 with | [], [_], _, _ => ⟨rfl, .of_eq rfl⟩
theorem bo_InvalidTable : ErrG.BodyOk s_InvalidTable_init ["rule"] "InvalidTable" := ⟨_, _, _, _, _, _, _, _, _, _, _, rfl, (.fld .last), ⟨_, fun env => rfl⟩, rfl, rfl, rfl, by decide +kernel, rfl, rfl, rfl, rfl, rfl, rfl, by decide +kernel⟩
theorem bs_InvalidTable : ErrG.BindS s_InvalidTable_init ["rule"] 1 [] (fun us _ => us) := fun s x us ws q dc pm an cd ct cc h1 h2 => match us, ws, h1, h2 with | [_], [], _, _ => ⟨rfl, .of_eq rfl⟩
theorem bk_InvalidTable : ErrG.BindS s_InvalidTable_init ["rule"] 0 ["rule"] (fun _ ws => (fun ws => ws) ws) := fun s x us ws q dc pm an cd ct cc h1 h2 => match us, ws, h1, h2 with | [], [_], _, _ => ⟨rfl, .of_eq rfl⟩
theorem bo_InvalidName : ErrG.BodyOk s_InvalidName_init ["given"] "InvalidName" := ⟨_, _, _, _, _, _, _, _, _, _, _, rfl, (.fld .last), ⟨_, fun env => rfl⟩, rfl, rfl, rfl, by decide +kernel, rfl, rfl, rfl, rfl, rfl, rfl, by decide +kernel⟩
theorem bs_InvalidName : ErrG.BindS s_InvalidName_init ["given"] 1 [] (fun us _ => us) := fun s x us ws q dc pm an cd ct cc h1 h2 => match us, ws, h1, h2 with | [_], [], _, _ => ⟨rfl, .of_eq rfl⟩
theorem bk_InvalidName : ErrG.BindS s_InvalidName_init ["given"] 0 ["given"] (fun _ ws => (fun ws => ws) ws) := fun s x us ws q dc pm an cd ct cc h1 h2 => match us, ws, h1, h2 with | [], [_], _, _ => ⟨rfl, .of_eq rfl⟩
theorem bo_InvalidTerm : ErrG.BodyOk s_InvalidTerm_init ["at"] "InvalidTerm" := ⟨_, _, _, _, _, _, _, _, _, _, _, rfl, (.fld .last), ⟨_, fun env => rfl⟩, rfl, rfl, rfl, by decide +kernel, rfl, rfl, rfl, rfl, rfl, rfl, by decide +kernel⟩
theorem bs_InvalidTerm : ErrG.BindS s_InvalidTerm_init ["at"] 1 [] (fun us _ => us) := fun s x us ws q dc pm an cd ct cc h1 h2 => match us, ws, h1, h2 with | [_], [], _, _ => ⟨rfl, .of_eq rfl⟩
theorem bk_InvalidTerm : ErrG.BindS s_InvalidTerm_init ["at"] 0 ["at"] (fun _ ws => (fun ws => ws) ws) := fun s x us ws q dc pm an cd ct cc h1 h2 => match us, ws, h1, h2 with | [], [_], _, _ => ⟨rfl, .of_eq rfl⟩
theorem bo_InvalidHead : ErrG.BodyOk s_InvalidHead_init ["part"] "InvalidHead" := ⟨_, _, _, _, _, _, _, _, _, _, _, rfl, (.fld .last), ⟨_, fun env => rfl⟩, rfl, rfl, rfl, by decide +kernel, rfl, rfl, rfl, rfl, rfl, rfl, by decide +kernel⟩
theorem bs_InvalidHead : ErrG.BindS s_InvalidHead_init ["part"] 1 [] (fun us _ => us) := fun s x us ws q dc pm an cd ct cc h1 h2 => match us, ws, h1, h2 with | [_], [], _, _ => ⟨rfl, .of_eq rfl⟩
theorem bk_InvalidHead : ErrG.BindS s_InvalidHead_init ["part"] 0 ["part"] (fun _ ws => (fun ws => ws) ws) := fun s x us ws q dc pm an cd ct cc h1 h2 => match us, ws, h1, h2 with | [], [_], _, _ => ⟨rfl, .of_eq rfl⟩
theorem bo_InvalidStep : ErrG.BodyOk s_InvalidStep_init ["procedure", "at"] "InvalidStep" := ⟨_, _, _, _, _, _, _, _, _, _, _, rfl, (.fld (.fld .last)), ⟨_, fun env => rfl⟩, rfl, rfl, rfl, by decide +kernel, rfl, rfl, rfl, rfl, rfl, rfl, by decide +kernel⟩
theorem bs_InvalidStep : ErrG.BindS s_InvalidStep_init ["procedure", "at"] 2 [] (fun us _ => us) := fun s x us ws q dc pm an cd ct cc h1 h2 => match us, ws, h1, h2 with | [_, _], [], _, _ => ⟨rfl, .of_eq rfl⟩
theorem bk_InvalidStep : ErrG.BindS s_InvalidStep_init ["procedure", "at"] 0 ["at", "procedure"] (fun _ ws => swap2 ws) := fun s x us ws q dc pm an cd ct cc h1 h2 => match us, ws, h1, h2 with | [], [_, _], _, _ => ⟨rfl, .of_eq rfl⟩
theorem bo_InvalidText : ErrG.BodyOk s_InvalidText_init ["line"] "InvalidText" := ⟨_, _, _, _, _, _, _, _, _, _, _, rfl, (.fld .last), ⟨_, fun env => rfl⟩, rfl, rfl, rfl, by decide +kernel, rfl, rfl, rfl, rfl, rfl, rfl, by decide +kernel⟩
theorem bs_InvalidText : ErrG.BindS s_InvalidText_init ["line"] 1 [] (fun us _ => us) := fun s x us ws q dc pm an cd ct cc h1 h2 => match us, ws, h1, h2 with | [_], [], _, _ => ⟨rfl, .of_eq rfl⟩
theorem bk_InvalidText : ErrG.BindS s_InvalidText_init ["line"] 0 ["line"] (fun _ ws => (fun ws => ws) ws) := fun s x us ws q dc pm an cd ct cc h1 h2 => match us, ws, h1, h2 with | [], [_], _, _ => ⟨rfl, .of_eq rfl⟩
theorem bo_InvalidLine : ErrG.BodyOk s_InvalidLine_init ["at"] "InvalidLine" := ⟨_, _, _, _, _, _, _, _, _, _, _, rfl, (.fld .last), ⟨_, fun env => rfl⟩, rfl, rfl, rfl, by decide +kernel, rfl, rfl, rfl, rfl, rfl, rfl, by decide +kernel⟩
theorem bs_InvalidLine : ErrG.BindS s_InvalidLine_init ["at"] 1 [] (fun us _ => us) := fun s x us ws q dc pm an cd ct cc h1 h2 => match us, ws, h1, h2 with | [_], [], _, _ => ⟨rfl, .of_eq rfl⟩
theorem bk_InvalidLine : ErrG.BindS s_InvalidLine_init ["at"] 0 ["at"] (fun _ ws => (fun ws => ws) ws) := fun s x us ws q dc pm an cd ct cc h1 h2 => match us, ws, h1, h2 with | [], [_], _, _ => ⟨rfl, .of_eq rfl⟩
theorem bo_InvalidProduct : ErrG.BodyOk s_InvalidProduct_init ["at"] "InvalidProduct" := ⟨_, _, _, _, _, _, _, _, _, _, _, rfl, (.fld .last), ⟨_, fun env => rfl⟩, rfl, rfl, rfl, by decide +kernel, rfl, rfl, rfl, rfl, rfl, rfl, by decide +kernel⟩
theorem bs_InvalidProduct : ErrG.BindS s_InvalidProduct_init ["at"] 1 [] (fun us _ => us) := fun s x us ws q dc pm an cd ct cc h1 h2 => match us, ws, h1, h2 with | [_], [], _, _ => ⟨rfl, .of_eq rfl⟩
theorem bk_InvalidProduct : ErrG.BindS s_InvalidProduct_init ["at"] 0 ["at"] (fun _ ws => (fun ws => ws) ws) := fun s x us ws q dc pm an cd ct cc h1 h2 => match us, ws, h1, h2 with | [], [_], _, _ => ⟨rfl, .of_eq rfl⟩
theorem bo_InvalidOrder : ErrG.BodyOk s_InvalidOrder_init ["given"] "InvalidOrder" := ⟨_, _, _, _, _, _, _, _, _, _, _, rfl, (.fld .last), ⟨_, fun env => rfl⟩, rfl, rfl, rfl, by decide +kernel, rfl, rfl, rfl, rfl, rfl, rfl, by decide +kernel⟩
theorem bs_InvalidOrder : ErrG.BindS s_InvalidOrder_init ["given"] 1 [] (fun us _ => us) := fun s x us ws q dc pm an cd ct cc h1 h2 => match us, ws, h1, h2 with | [_], [], _, _ => ⟨rfl, .of_eq rfl⟩
theorem bk_InvalidOrder : ErrG.BindS s_InvalidOrder_init ["given"] 0 ["given"] (fun _ ws => (fun ws => ws) ws) := fun s x us ws q dc pm an cd ct cc h1 h2 => match us, ws, h1, h2 with | [], [_], _, _ => ⟨rfl, .of_eq rfl⟩
theorem bo_InvalidCommand : ErrG.BodyOk s_InvalidCommand_init ["at"] "InvalidCommand" := ⟨_, _, _, _, _, _, _, _, _, _, _, rfl, (.fld .last), ⟨_, fun env => rfl⟩, rfl, rfl, rfl, by decide +kernel, rfl, rfl, rfl, rfl, rfl, rfl, by decide +kernel⟩
theorem bs_InvalidCommand : ErrG.BindS s_InvalidCommand_init ["at"] 1 [] (fun us _ => us) := fun s x us ws q dc pm an cd ct cc h1 h2 => match us, ws, h1, h2 with | [_], [], _, _ => ⟨rfl, .of_eq rfl⟩
theorem bk_InvalidCommand : ErrG.BindS s_InvalidCommand_init ["at"] 0 ["at"] (fun _ ws => (fun ws => ws) ws) := fun s x us ws q dc pm an cd ct cc h1 h2 => match us, ws, h1, h2 with | [], [_], _, _ => ⟨rfl, .of_eq rfl⟩
theorem bo_DegreeTooHigh : ErrG.BodyOk s_DegreeTooHigh_init ["at"] "DegreeTooHigh" := ⟨_, _, _, _, _, _, _, _, _, _, _, rfl, (.fld .last), ⟨_, fun env => rfl⟩, rfl, rfl, rfl, by decide +kernel, rfl, rfl, rfl, rfl, rfl, rfl, by decide +kernel⟩
theorem bs_DegreeTooHigh : ErrG.BindS s_DegreeTooHigh_init ["at"] 1 [] (fun us _ => us) := fun s x us ws q dc pm an cd ct cc h1 h2 => match us, ws, h1, h2 with | [_], [], _, _ => ⟨rfl, .of_eq rfl⟩
theorem bk_DegreeTooHigh : ErrG.BindS s_DegreeTooHigh_init ["at"] 0 ["at"] (fun _ ws => (fun ws => ws) ws) := fun s x us ws q dc pm an cd ct cc h1 h2 => match us, ws, h1, h2 with | [], [_], _, _ => ⟨rfl, .of_eq rfl⟩
theorem bo_NoInverse : ErrG.BodyOk s_NoInverse_init ["number"] "NoInverse" := ⟨_, _, _, _, _, _, _, _, _, _, _, rfl, (.fld .last), ⟨_, fun env => rfl⟩, rfl, rfl, rfl, by decide +kernel, rfl, rfl, rfl, rfl, rfl, rfl, by decide +kernel⟩
theorem bs_NoInverse : ErrG.BindS s_NoInverse_init ["number"] 1 [] (fun us _ => us) := fun s x us ws q dc pm an cd ct cc h1 h2 => match us, ws, h1, h2 with | [_], [], _, _ => ⟨rfl, .of_eq rfl⟩
theorem bk_NoInverse : ErrG.BindS s_NoInverse_init ["number"] 0 ["number"] (fun _ ws => (fun ws => ws) ws) := fun s x us ws q dc pm an cd ct cc h1 h2 => match us, ws, h1, h2 with | [], [_], _, _ => ⟨rfl, .of_eq rfl⟩
theorem bo_NotCommuting : ErrG.BodyOk s_NotCommuting_init [] "NotCommuting" := ⟨_, _, _, _, _, _, _, _, _, _, _, rfl, .last, ⟨_, fun env => rfl⟩, rfl, rfl, rfl, by decide +kernel, rfl, rfl, rfl, rfl, rfl, rfl, by decide +kernel⟩
theorem bs_NotCommuting : ErrG.BindS s_NotCommuting_init [] 0 [] (fun us _ => us) := fun s x us ws q dc pm an cd ct cc h1 h2 => match us, ws, h1, h2 with | [], [], _, _ => ⟨rfl, .of_eq rfl⟩
theorem bk_NotCommuting : ErrG.BindS s_NotCommuting_init [] 0 [] (fun _ ws => (fun ws => ws) ws) := fun s x us ws q dc pm an cd ct cc h1 h2 => match us, ws, h1, h2 with | [], [], _, _ => ⟨rfl, .of_eq rfl⟩
theorem bo_NotWhole : ErrG.BodyOk s_NotWhole_init ["at"] "NotWhole" := ⟨_, _, _, _, _, _, _, _, _, _, _, rfl, (.fld .last), ⟨_, fun env => rfl⟩, rfl, rfl, rfl, by decide +kernel, rfl, rfl, rfl, rfl, rfl, rfl, by decide +kernel⟩
theorem bs_NotWhole : ErrG.BindS s_NotWhole_init ["at"] 1 [] (fun us _ => us) := fun s x us ws q dc pm an cd ct cc h1 h2 => match us, ws, h1, h2 with | [_], [], _, _ => ⟨rfl, .of_eq rfl⟩
theorem bk_NotWhole : ErrG.BindS s_NotWhole_init ["at"] 0 ["at"] (fun _ ws => (fun ws => ws) ws) := fun s x us ws q dc pm an cd ct cc h1 h2 => match us, ws, h1, h2 with | [], [_], _, _ => ⟨rfl, .of_eq rfl⟩
theorem bo_NotStraight : ErrG.BodyOk s_NotStraight_init ["at"] "NotStraight" := ⟨_, _, _, _, _, _, _, _, _, _, _, rfl, (.fld .last), ⟨_, fun env => rfl⟩, rfl, rfl, rfl, by decide +kernel, rfl, rfl, rfl, rfl, rfl, rfl, by decide +kernel⟩
theorem bs_NotStraight : ErrG.BindS s_NotStraight_init ["at"] 1 [] (fun us _ => us) := fun s x us ws q dc pm an cd ct cc h1 h2 => match us, ws, h1, h2 with | [_], [], _, _ => ⟨rfl, .of_eq rfl⟩
theorem bk_NotStraight : ErrG.BindS s_NotStraight_init ["at"] 0 ["at"] (fun _ ws => (fun ws => ws) ws) := fun s x us ws q dc pm an cd ct cc h1 h2 => match us, ws, h1, h2 with | [], [_], _, _ => ⟨rfl, .of_eq rfl⟩
theorem bo_NoUnit : ErrG.BodyOk s_NoUnit_init ["at"] "NoUnit" := ⟨_, _, _, _, _, _, _, _, _, _, _, rfl, (.fld .last), ⟨_, fun env => rfl⟩, rfl, rfl, rfl, by decide +kernel, rfl, rfl, rfl, rfl, rfl, rfl, by decide +kernel⟩
theorem bs_NoUnit : ErrG.BindS s_NoUnit_init ["at"] 1 [] (fun us _ => us) := fun s x us ws q dc pm an cd ct cc h1 h2 => match us, ws, h1, h2 with | [_], [], _, _ => ⟨rfl, .of_eq rfl⟩
theorem bk_NoUnit : ErrG.BindS s_NoUnit_init ["at"] 0 ["at"] (fun _ ws => (fun ws => ws) ws) := fun s x us ws q dc pm an cd ct cc h1 h2 => match us, ws, h1, h2 with | [], [_], _, _ => ⟨rfl, .of_eq rfl⟩
theorem bo_Unused : ErrG.BodyOk s_Unused_init ["name"] "Unused" := ⟨_, _, _, _, _, _, _, _, _, _, _, rfl, (.fld .last), ⟨_, fun env => rfl⟩, rfl, rfl, rfl, by decide +kernel, rfl, rfl, rfl, rfl, rfl, rfl, by decide +kernel⟩
theorem bs_Unused : ErrG.BindS s_Unused_init ["name"] 1 [] (fun us _ => us) := fun s x us ws q dc pm an cd ct cc h1 h2 => match us, ws, h1, h2 with | [_], [], _, _ => ⟨rfl, .of_eq rfl⟩
theorem bk_Unused : ErrG.BindS s_Unused_init ["name"] 0 ["name"] (fun _ ws => (fun ws => ws) ws) := fun s x us ws q dc pm an cd ct cc h1 h2 => match us, ws, h1, h2 with | [], [_], _, _ => ⟨rfl, .of_eq rfl⟩
theorem bo_WrongCount : ErrG.BodyOk s_WrongCount_init ["given"] "WrongCount" := ⟨_, _, _, _, _, _, _, _, _, _, _, rfl, (.fld .last), ⟨_, fun env => rfl⟩, rfl, rfl, rfl, by decide +kernel, rfl, rfl, rfl, rfl, rfl, rfl, by decide +kernel⟩
theorem bs_WrongCount : ErrG.BindS s_WrongCount_init ["given"] 1 [] (fun us _ => us) := fun s x us ws q dc pm an cd ct cc h1 h2 => match us, ws, h1, h2 with | [_], [], _, _ => ⟨rfl, .of_eq rfl⟩
theorem bk_WrongCount : ErrG.BindS s_WrongCount_init ["given"] 0 ["given"] (fun _ ws => (fun ws => ws) ws) := fun s x us ws q dc pm an cd ct cc h1 h2 => match us, ws, h1, h2 with | [], [_], _, _ => ⟨rfl, .of_eq rfl⟩
theorem bo_TooMany : ErrG.BodyOk s_TooMany_init ["most"] "TooMany" := ⟨_, _, _, _, _, _, _, _, _, _, _, rfl, (.fld .last), ⟨_, fun env => rfl⟩, rfl, rfl, rfl, by decide +kernel, rfl, rfl, rfl, rfl, rfl, rfl, by decide +kernel⟩
theorem bs_TooMany : ErrG.BindS s_TooMany_init ["most"] 1 [] (fun us _ => us) := fun s x us ws q dc pm an cd ct cc h1 h2 => match us, ws, h1, h2 with | [_], [], _, _ => ⟨rfl, .of_eq rfl⟩
theorem bk_TooMany : ErrG.BindS s_TooMany_init ["most"] 0 ["most"] (fun _ ws => (fun ws => ws) ws) := fun s x us ws q dc pm an cd ct cc h1 h2 => match us, ws, h1, h2 with | [], [_], _, _ => ⟨rfl, .of_eq rfl⟩
theorem bo_TooGreat : ErrG.BodyOk s_TooGreat_init ["most"] "TooGreat" := ⟨_, _, _, _, _, _, _, _, _, _, _, rfl, (.fld .last), ⟨_, fun env => rfl⟩, rfl, rfl, rfl, by decide +kernel, rfl, rfl, rfl, rfl, rfl, rfl, by decide +kernel⟩
theorem bs_TooGreat : ErrG.BindS s_TooGreat_init ["most"] 1 [] (fun us _ => us) := fun s x us ws q dc pm an cd ct cc h1 h2 => match us, ws, h1, h2 with | [_], [], _, _ => ⟨rfl, .of_eq rfl⟩
theorem bk_TooGreat : ErrG.BindS s_TooGreat_init ["most"] 0 ["most"] (fun _ ws => (fun ws => ws) ws) := fun s x us ws q dc pm an cd ct cc h1 h2 => match us, ws, h1, h2 with | [], [_], _, _ => ⟨rfl, .of_eq rfl⟩
theorem bo_EmptyRealm : ErrG.BodyOk s_EmptyRealm_init [] "EmptyRealm" := ⟨_, _, _, _, _, _, _, _, _, _, _, rfl, .last, ⟨_, fun env => rfl⟩, rfl, rfl, rfl, by decide +kernel, rfl, rfl, rfl, rfl, rfl, rfl, by decide +kernel⟩
theorem bs_EmptyRealm : ErrG.BindS s_EmptyRealm_init [] 0 [] (fun us _ => us) := fun s x us ws q dc pm an cd ct cc h1 h2 => match us, ws, h1, h2 with | [], [], _, _ => ⟨rfl, .of_eq rfl⟩
theorem bk_EmptyRealm : ErrG.BindS s_EmptyRealm_init [] 0 [] (fun _ ws => (fun ws => ws) ws) := fun s x us ws q dc pm an cd ct cc h1 h2 => match us, ws, h1, h2 with | [], [], _, _ => ⟨rfl, .of_eq rfl⟩
theorem bo_Unsound : ErrG.BodyOk s_Unsound_init ["number"] "Unsound" := ⟨_, _, _, _, _, _, _, _, _, _, _, rfl, (.fld .last), ⟨_, fun env => rfl⟩, rfl, rfl, rfl, by decide +kernel, rfl, rfl, rfl, rfl, rfl, rfl, by decide +kernel⟩
theorem bs_Unsound : ErrG.BindS s_Unsound_init ["number"] 1 [] (fun us _ => us) := fun s x us ws q dc pm an cd ct cc h1 h2 => match us, ws, h1, h2 with | [_], [], _, _ => ⟨rfl, .of_eq rfl⟩
theorem bk_Unsound : ErrG.BindS s_Unsound_init ["number"] 0 ["number"] (fun _ ws => (fun ws => ws) ws) := fun s x us ws q dc pm an cd ct cc h1 h2 => match us, ws, h1, h2 with | [], [_], _, _ => ⟨rfl, .of_eq rfl⟩
theorem bo_DuplicateName : ErrG.BodyOk s_DuplicateName_init ["name"] "DuplicateName" := ⟨_, _, _, _, _, _, _, _, _, _, _, rfl, (.fld .last), ⟨_, fun env => rfl⟩, rfl, rfl, rfl, by decide +kernel, rfl, rfl, rfl, rfl, rfl, rfl, by decide +kernel⟩
theorem bs_DuplicateName : ErrG.BindS s_DuplicateName_init ["name"] 1 [] (fun us _ => us) := fun s x us ws q dc pm an cd ct cc h1 h2 => match us, ws, h1, h2 with | [_], [], _, _ => ⟨rfl, .of_eq rfl⟩
theorem bk_DuplicateName : ErrG.BindS s_DuplicateName_init ["name"] 0 ["name"] (fun _ ws => (fun ws => ws) ws) := fun s x us ws q dc pm an cd ct cc h1 h2 => match us, ws, h1, h2 with | [], [_], _, _ => ⟨rfl, .of_eq rfl⟩
theorem bo_InUse : ErrG.BodyOk s_InUse_init ["number"] "InUse" := ⟨_, _, _, _, _, _, _, _, _, _, _, rfl, (.fld .last), ⟨_, fun env => rfl⟩, rfl, rfl, rfl, by decide +kernel, rfl, rfl, rfl, rfl, rfl, rfl, by decide +kernel⟩
theorem bs_InUse : ErrG.BindS s_InUse_init ["number"] 1 [] (fun us _ => us) := fun s x us ws q dc pm an cd ct cc h1 h2 => match us, ws, h1, h2 with | [_], [], _, _ => ⟨rfl, .of_eq rfl⟩
theorem bk_InUse : ErrG.BindS s_InUse_init ["number"] 0 ["number"] (fun _ ws => (fun ws => ws) ws) := fun s x us ws q dc pm an cd ct cc h1 h2 => match us, ws, h1, h2 with | [], [_], _, _ => ⟨rfl, .of_eq rfl⟩
theorem bo_Broken : ErrG.BodyOk s_Broken_init ["number"] "Broken" := ⟨_, _, _, _, _, _, _, _, _, _, _, rfl, (.fld .last), ⟨_, fun env => rfl⟩, rfl, rfl, rfl, by decide +kernel, rfl, rfl, rfl, rfl, rfl, rfl, by decide +kernel⟩
theorem bs_Broken : ErrG.BindS s_Broken_init ["number"] 1 [] (fun us _ => us) := fun s x us ws q dc pm an cd ct cc h1 h2 => match us, ws, h1, h2 with | [_], [], _, _ => ⟨rfl, .of_eq rfl⟩
theorem bk_Broken : ErrG.BindS s_Broken_init ["number"] 0 ["number"] (fun _ ws => (fun ws => ws) ws) := fun s x us ws q dc pm an cd ct cc h1 h2 => match us, ws, h1, h2 with | [], [_], _, _ => ⟨rfl, .of_eq rfl⟩
theorem bo_Full : ErrG.BodyOk s_Full_init ["most"] "Full" := ⟨_, _, _, _, _, _, _, _, _, _, _, rfl, (.fld .last), ⟨_, fun env => rfl⟩, rfl, rfl, rfl, by decide +kernel, rfl, rfl, rfl, rfl, rfl, rfl, by decide +kernel⟩
theorem bs_Full : ErrG.BindS s_Full_init ["most"] 1 [] (fun us _ => us) := fun s x us ws q dc pm an cd ct cc h1 h2 => match us, ws, h1, h2 with | [_], [], _, _ => ⟨rfl, .of_eq rfl⟩
theorem bk_Full : ErrG.BindS s_Full_init ["most"] 0 ["most"] (fun _ ws => (fun ws => ws) ws) := fun s x us ws q dc pm an cd ct cc h1 h2 => match us, ws, h1, h2 with | [], [_], _, _ => ⟨rfl, .of_eq rfl⟩
theorem bo_UnknownName : ErrG.BodyOk s_UnknownName_init ["name"] "UnknownName" := ⟨_, _, _, _, _, _, _, _, _, _, _, rfl, (.fld .last), ⟨_, fun env => rfl⟩, rfl, rfl, rfl, by decide +kernel, rfl, rfl, rfl, rfl, rfl, rfl, by decide +kernel⟩
theorem bs_UnknownName : ErrG.BindS s_UnknownName_init ["name"] 1 [] (fun us _ => us) := fun s x us ws q dc pm an cd ct cc h1 h2 => match us, ws, h1, h2 with | [_], [], _, _ => ⟨rfl, .of_eq rfl⟩
theorem bk_UnknownName : ErrG.BindS s_UnknownName_init ["name"] 0 ["name"] (fun _ ws => (fun ws => ws) ws) := fun s x us ws q dc pm an cd ct cc h1 h2 => match us, ws, h1, h2 with | [], [_], _, _ => ⟨rfl, .of_eq rfl⟩
theorem bo_UnknownNumber : ErrG.BodyOk s_UnknownNumber_init ["number"] "UnknownNumber" := ⟨_, _, _, _, _, _, _, _, _, _, _, rfl, (.fld .last), ⟨_, fun env => rfl⟩, rfl, rfl, rfl, by decide +kernel, rfl, rfl, rfl, rfl, rfl, rfl, by decide +kernel⟩
theorem bs_UnknownNumber : ErrG.BindS s_UnknownNumber_init ["number"] 1 [] (fun us _ => us) := fun s x us ws q dc pm an cd ct cc h1 h2 => match us, ws, h1, h2 with | [_], [], _, _ => ⟨rfl, .of_eq rfl⟩
theorem bk_UnknownNumber : ErrG.BindS s_UnknownNumber_init ["number"] 0 ["number"] (fun _ ws => (fun ws => ws) ws) := fun s x us ws q dc pm an cd ct cc h1 h2 => match us, ws, h1, h2 with | [], [_], _, _ => ⟨rfl, .of_eq rfl⟩
theorem bo_NothingLeft : ErrG.BodyOk s_NothingLeft_init [] "NothingLeft" := ⟨_, _, _, _, _, _, _, _, _, _, _, rfl, .last, ⟨_, fun env => rfl⟩, rfl, rfl, rfl, by decide +kernel, rfl, rfl, rfl, rfl, rfl, rfl, by decide +kernel⟩
theorem bs_NothingLeft : ErrG.BindS s_NothingLeft_init [] 0 [] (fun us _ => us) := fun s x us ws q dc pm an cd ct cc h1 h2 => match us, ws, h1, h2 with | [], [], _, _ => ⟨rfl, .of_eq rfl⟩
theorem bk_NothingLeft : ErrG.BindS s_NothingLeft_init [] 0 [] (fun _ ws => (fun ws => ws) ws) := fun s x us ws q dc pm an cd ct cc h1 h2 => match us, ws, h1, h2 with | [], [], _, _ => ⟨rfl, .of_eq rfl⟩
end My
namespace My
open PySem PySem.Spec PyProof.Rows L2
abbrev cGiven : List V := [.str "InvalidNumber", .str "InvalidThing", .str "InvalidRing", .str "InvalidName", .str "InvalidOrder", .str "WrongCount"]
abbrev cAt : List V := [.str "InvalidTerm", .str "InvalidLine", .str "InvalidProduct", .str "InvalidCommand", .str "DegreeTooHigh", .str "NotWhole", .str "NotStraight", .str "NoUnit"]
abbrev cNumber : List V := [.str "NoInverse", .str "Unsound", .str "InUse", .str "Broken", .str "UnknownNumber"]
abbrev cName : List V := [.str "Unused", .str "DuplicateName", .str "UnknownName"]
abbrev cMost : List V := [.str "TooMany", .str "TooGreat", .str "Full"]
inductive FKind where
  | one (f : Str)
  | two
  | zero
def fKind (q : Str) : FKind :=
  if inV (.str q) cGiven = true then .one "given" else if inV (.str q) cAt = true then .one "at" else if inV (.str q) cNumber = true then .one "number" else if inV (.str q) cName = true then .one "name" else if inV (.str q) cMost = true then .one "most" else
  if q = "InvalidStep" then .two else if q = "InvalidHead" then .one "part" else if q = "InvalidTable" then .one "rule" else if q = "InvalidText" then .one "line" else .zero
def FRes (K : PySem.W.Frag) (C : Addr) (l : List (Str × V)) (H : Hp) (Q : VK) : FKind → Prop
  | .one f => PySem.W.findIn K (.ref C) f = some none ∧ ∃ x, l.lookup f = some x ∧ ∀ H', Same H H' → Q x H'
  | .two => PySem.W.findIn K (.ref C) "procedure" = some none ∧ PySem.W.findIn K (.ref C) "at" = some none ∧ ∃ x y, l.lookup ("procedure" : Str) = some x ∧ l.lookup ("at" : Str) = some y ∧ ∀ H' p, Same H H' → H' p = none → Q (.ref p) (upd H' p (.tup [x, y]))
  | .zero => ∀ H', Same H H' → Q .non H'
def spFieldV (K : PySem.W.Frag) : Sp := fun vs H Q _ => ∃ (v : V) (C : Addr) (q : Str) (l : List (Str × V)), vs = [v] ∧ EV K H v C q l ∧ XfC K C ∧ PySem.W.findIn K (.ref C) "code" = some none ∧ FRes K C (("code", .str q) :: l) H Q (fKind q)
section
variable {P : Program} {w : World} {K : PySem.W.Frag} {mg : Str → Option Value} {base : Heap}
theorem ok_fieldV (F : Fn K mg "_law_field" s_l_field ["_law_e"]) : Has P w K mg base 1 "_law_field" ["_law_e"] (spFieldV K) := by
  refine F.has sc_l_field (fun vs H Q E h => ?_) (fun f cdv A outer s H vs Q E hr h => ?_)
  · obtain ⟨v, C, q, l, rfl, _⟩ := h
    rfl
  obtain ⟨v, C, q, l, rfl, ev, T, noC, fr⟩ := h
  obtain ⟨a, d, rfl, ha, hd⟩ := ev.ex
  refine ⟨_, (pss_cons (ps_if (pt_cmpR op_in_seq (pe_vg (K := K) (pv 0)) (pe_lst (pa_cons pe_str (pa_cons pe_str (pa_cons pe_str (pa_cons pe_str (pa_cons pe_str (pa_cons pe_str pa_nil))))))) rfl)
        (pss_one (ps_ret (pe_vg (K := K) (pv 0))))
        pss_nil)
      (pss_cons (ps_if (pt_cmpR op_in_seq (pe_vg (K := K) (pv 0)) (pe_lst (pa_cons pe_str (pa_cons pe_str (pa_cons pe_str (pa_cons pe_str (pa_cons pe_str (pa_cons pe_str (pa_cons pe_str (pa_cons pe_str pa_nil))))))))) rfl)
        (pss_one (ps_ret (pe_vg (K := K) (pv 0))))
        pss_nil)
      (pss_cons (ps_if (pt_cmpR op_in_seq (pe_vg (K := K) (pv 0)) (pe_lst (pa_cons pe_str (pa_cons pe_str (pa_cons pe_str (pa_cons pe_str (pa_cons pe_str pa_nil)))))) rfl)
        (pss_one (ps_ret (pe_vg (K := K) (pv 0))))
        pss_nil)
      (pss_cons (ps_if (pt_cmpR op_in_seq (pe_vg (K := K) (pv 0)) (pe_lst (pa_cons pe_str (pa_cons pe_str (pa_cons pe_str pa_nil)))) rfl)
        (pss_one (ps_ret (pe_vg (K := K) (pv 0))))
        pss_nil)
      (pss_cons (ps_if (pt_cmpR op_in_seq (pe_vg (K := K) (pv 0)) (pe_lst (pa_cons pe_str (pa_cons pe_str (pa_cons pe_str pa_nil)))) rfl)
        (pss_one (ps_ret (pe_vg (K := K) (pv 0))))
        pss_nil)
      (pss_cons (ps_if (pt_cmpR op_eq (pe_vg (K := K) (pv 0)) pe_str (nomark _))
        (pss_one (ps_ret (pe_tup (pa_cons (pe_vg (K := K) (pv 0)) (pa_cons (pe_vg (K := K) (pv 0)) pa_nil)))))
        pss_nil)
      (pss_cons (ps_if (pt_cmpR op_eq (pe_vg (K := K) (pv 0)) pe_str (nomark _))
        (pss_one (ps_ret (pe_vg (K := K) (pv 0))))
        pss_nil)
      (pss_cons (ps_if (pt_cmpR op_eq (pe_vg (K := K) (pv 0)) pe_str (nomark _))
        (pss_one (ps_ret (pe_vg (K := K) (pv 0))))
        pss_nil)
      (pss_one (ps_ret (pe_ifExp (pt_cmpR op_eq (pe_vg (K := K) (pv 0)) pe_str (nomark _)) (pe_vg (K := K) (pv 0)) pe_non))))))))))), ?_⟩
  have step : ∀ {H' : Hp} {b x : Addr} {o u : HO}, H' x = some u → H' b = none → upd H' b o x = some u := fun e n => by rw [upd_ne (ne_of_none e n)]; exact e
  have lC : List.lookup ("code" : Str) (("code", V.str q) :: l) = some (V.str q) := by simp [List.lookup]
  unfold fKind at fr
  refine ⟨_, rfl, a, C, d, _, _, rfl, ha, T, noC, hd, lC, (by show 6 ≤ sizeLine; decide), fun l1 h1 => ⟨l1, cGiven, rfl, .inl (SqL.of upd_same), rfl, rfl, ?_⟩⟩
  have a1 := step (o := .lst cGiven) ha h1
  have d1 := step (o := .lst cGiven) hd h1
  have m1 : Same H (upd H l1 (.lst cGiven)) := same_upd h1
  cases i1 : inV (.str q) cGiven with
  | true =>
    rw [i1, if_pos rfl] at fr
    obtain ⟨no, x, lF, hq⟩ := fr
    exact ⟨_, rfl, iteT ⟨_, rfl, a, C, d, _, _, rfl, a1, T, no, d1, lF, hq _ m1⟩⟩
  | false =>
  rw [i1, if_neg Bool.false_ne_true] at fr
  refine ⟨_, rfl, iteF ?_⟩
  refine ⟨_, rfl, a, C, d, _, _, rfl, a1, T, noC, d1, lC, (by show 8 ≤ sizeLine; decide), fun l2 h2 => ⟨l2, cAt, rfl, .inl (SqL.of upd_same), rfl, rfl, ?_⟩⟩
  have a2 := step (o := .lst cAt) a1 h2
  have d2 := step (o := .lst cAt) d1 h2
  have m2 := m1.trans (same_upd (o := .lst cAt) h2)
  cases i2 : inV (.str q) cAt with
  | true =>
    rw [i2, if_pos rfl] at fr
    obtain ⟨no, x, lF, hq⟩ := fr
    exact ⟨_, rfl, iteT ⟨_, rfl, a, C, d, _, _, rfl, a2, T, no, d2, lF, hq _ m2⟩⟩
  | false =>
  rw [i2, if_neg Bool.false_ne_true] at fr
  refine ⟨_, rfl, iteF ?_⟩
  refine ⟨_, rfl, a, C, d, _, _, rfl, a2, T, noC, d2, lC, (by show 5 ≤ sizeLine; decide), fun l3 h3 => ⟨l3, cNumber, rfl, .inl (SqL.of upd_same), rfl, rfl, ?_⟩⟩
  have a3 := step (o := .lst cNumber) a2 h3
  have d3 := step (o := .lst cNumber) d2 h3
  have m3 := m2.trans (same_upd (o := .lst cNumber) h3)
  cases i3 : inV (.str q) cNumber with
  | true =>
    rw [i3, if_pos rfl] at fr
    obtain ⟨no, x, lF, hq⟩ := fr
    exact ⟨_, rfl, iteT ⟨_, rfl, a, C, d, _, _, rfl, a3, T, no, d3, lF, hq _ m3⟩⟩
  | false =>
  rw [i3, if_neg Bool.false_ne_true] at fr
  refine ⟨_, rfl, iteF ?_⟩
  refine ⟨_, rfl, a, C, d, _, _, rfl, a3, T, noC, d3, lC, (by show 3 ≤ sizeLine; decide), fun l4 h4 => ⟨l4, cName, rfl, .inl (SqL.of upd_same), rfl, rfl, ?_⟩⟩
  have a4 := step (o := .lst cName) a3 h4
  have d4 := step (o := .lst cName) d3 h4
  have m4 := m3.trans (same_upd (o := .lst cName) h4)
  cases i4 : inV (.str q) cName with
  | true =>
    rw [i4, if_pos rfl] at fr
    obtain ⟨no, x, lF, hq⟩ := fr
    exact ⟨_, rfl, iteT ⟨_, rfl, a, C, d, _, _, rfl, a4, T, no, d4, lF, hq _ m4⟩⟩
  | false =>
  rw [i4, if_neg Bool.false_ne_true] at fr
  refine ⟨_, rfl, iteF ?_⟩
  refine ⟨_, rfl, a, C, d, _, _, rfl, a4, T, noC, d4, lC, (by show 3 ≤ sizeLine; decide), fun l5 h5 => ⟨l5, cMost, rfl, .inl (SqL.of upd_same), rfl, rfl, ?_⟩⟩
  have a5 := step (o := .lst cMost) a4 h5
  have d5 := step (o := .lst cMost) d4 h5
  have m5 := m4.trans (same_upd (o := .lst cMost) h5)
  cases i5 : inV (.str q) cMost with
  | true =>
    rw [i5, if_pos rfl] at fr
    obtain ⟨no, x, lF, hq⟩ := fr
    exact ⟨_, rfl, iteT ⟨_, rfl, a, C, d, _, _, rfl, a5, T, no, d5, lF, hq _ m5⟩⟩
  | false =>
  rw [i5, if_neg Bool.false_ne_true] at fr
  refine ⟨_, rfl, iteF ?_⟩
  have eqs : ∀ x : Str, decide (V.str q = V.str x) = decide (q = x) := fun x => by
    by_cases z : q = x
    · rw [z, decide_eq_true rfl, decide_eq_true rfl]
    · rw [decide_eq_false z, decide_eq_false (fun y => z (V.str.inj y))]
  refine ⟨_, rfl, a, C, d, _, _, rfl, a5, T, noC, d5, lC, rfl, ?_⟩
  by_cases j1 : q = "InvalidStep"
  · rw [if_pos j1] at fr
    obtain ⟨no1, no2, x, y, l1, l2, hq⟩ := fr
    refine ⟨_, rfl, ite_of (decide_eq_true (congrArg V.str j1)) ?_⟩
    exact ⟨_, rfl, a, C, d, _, _, rfl, a5, T, no1, d5, l1, _, rfl, a, C, d, _, _, rfl, a5, T, no2, d5, l2, (by show 2 ≤ sizeLine; decide), fun p hp => hq _ p m5 hp⟩
  rw [if_neg j1] at fr
  refine ⟨_, rfl, ite_no (fun z => j1 (V.str.inj (of_decide_eq_true z))) ?_⟩
  refine ⟨_, rfl, a, C, d, _, _, rfl, a5, T, noC, d5, lC, rfl, ?_⟩
  by_cases j2 : q = "InvalidHead"
  · rw [if_pos j2] at fr
    obtain ⟨no, x, lF, hq⟩ := fr
    refine ⟨_, rfl, ite_of (decide_eq_true (congrArg V.str j2)) ?_⟩
    exact ⟨_, rfl, a, C, d, _, _, rfl, a5, T, no, d5, lF, hq _ m5⟩
  rw [if_neg j2] at fr
  refine ⟨_, rfl, ite_no (fun z => j2 (V.str.inj (of_decide_eq_true z))) ?_⟩
  refine ⟨_, rfl, a, C, d, _, _, rfl, a5, T, noC, d5, lC, rfl, ?_⟩
  by_cases j3 : q = "InvalidTable"
  · rw [if_pos j3] at fr
    obtain ⟨no, x, lF, hq⟩ := fr
    refine ⟨_, rfl, ite_of (decide_eq_true (congrArg V.str j3)) ?_⟩
    exact ⟨_, rfl, a, C, d, _, _, rfl, a5, T, no, d5, lF, hq _ m5⟩
  rw [if_neg j3] at fr
  refine ⟨_, rfl, ite_no (fun z => j3 (V.str.inj (of_decide_eq_true z))) ?_⟩
  refine ⟨_, rfl, a, C, d, _, _, rfl, a5, T, noC, d5, lC, rfl, ?_⟩
  by_cases j4 : q = "InvalidText"
  · rw [if_pos j4] at fr
    obtain ⟨no, x, lF, hq⟩ := fr
    refine ⟨_, rfl, ite_of (decide_eq_true (congrArg V.str j4)) ?_⟩
    exact ⟨_, rfl, a, C, d, _, _, rfl, a5, T, no, d5, lF, hq _ m5⟩
  rw [if_neg j4] at fr
  refine ⟨_, rfl, ite_no (fun z => j4 (V.str.inj (of_decide_eq_true z))) ?_⟩
  exact fr _ m5
end
end My
namespace My
open PySem PySem.Spec PyProof.Rows L2
/-- where the classes stand -/
structure CA where
  InvalidNumber : Addr
  InvalidThing : Addr
  InvalidRing : Addr
  InvalidTable : Addr
  InvalidName : Addr
  InvalidTerm : Addr
  InvalidHead : Addr
  InvalidStep : Addr
  InvalidText : Addr
  InvalidLine : Addr
  InvalidProduct : Addr
  InvalidOrder : Addr
  InvalidCommand : Addr
  DegreeTooHigh : Addr
  NoInverse : Addr
  NotCommuting : Addr
  NotWhole : Addr
  NotStraight : Addr
  NoUnit : Addr
  Unused : Addr
  WrongCount : Addr
  TooMany : Addr
  TooGreat : Addr
  EmptyRealm : Addr
  Unsound : Addr
  DuplicateName : Addr
  InUse : Addr
  Broken : Addr
  Full : Addr
  UnknownName : Addr
  UnknownNumber : Addr
  NothingLeft : Addr
  RingError : Addr
  Missing : Addr
def CA.early (c : CA) : List Addr := [c.InvalidNumber, c.InvalidThing, c.InvalidRing, c.InvalidTable, c.InvalidName, c.InvalidTerm, c.InvalidHead, c.InvalidStep, c.InvalidText, c.InvalidLine, c.InvalidProduct, c.InvalidOrder, c.InvalidCommand, c.DegreeTooHigh, c.NoInverse, c.NotCommuting, c.NotWhole, c.NotStraight, c.NoUnit, c.Unused, c.WrongCount, c.TooMany, c.TooGreat, c.EmptyRealm, c.Unsound, c.DuplicateName, c.InUse, c.Broken, c.Full]
def CA.late (c : CA) : List Addr := [c.UnknownName, c.UnknownNumber, c.NothingLeft]
def kits (K : PySem.W.Frag) (l : List Addr) (t : Value) (b : Bool) : Bool := l.all fun C => decide (PySem.W.kitOne K (.ref C) t = some b)
theorem kits_ok {K : PySem.W.Frag} {l : List Addr} {t : Value} {b : Bool} (h : kits K l t b = true) {C : Addr} (m : C ∈ l) : PySem.W.kitOne K (.ref C) t = some b := of_decide_eq_true (List.all_eq_true.mp h C m)
structure KitT (K : PySem.W.Frag) (c : CA) : Prop where
  e1 : kits K c.early (.ref c.RingError) true = true
  e2 : kits K c.early (.type "ValueError") true = true
  e3 : kits K c.early (.ref c.Missing) false = true
  e4 : kits K c.early (.ref c.NothingLeft) false = true
  l1 : kits K [c.UnknownName, c.UnknownNumber] (.ref c.Missing) true = true
  l2 : kits K [c.NothingLeft] (.ref c.Missing) false = true
  l3 : kits K c.late (.type "LookupError") true = true
  l4 : kits K [c.UnknownName, c.UnknownNumber] (.type "IndexError") false = true
  l5 : kits K [c.NothingLeft] (.type "IndexError") true = true
  l6 : kits K c.late (.ref c.RingError) false = true
  l7 : kits K c.late (.type "ValueError") false = true
  f1 : kits K (c.early.drop 1) (.ref c.InvalidNumber) false = true
  f2 : kits K (c.early.take 8) (.ref c.InvalidText) false = true
  f3 : kits K (c.early.take 28) (.ref c.Full) false = true
  f4 : kits K (c.early.drop 22) (.ref c.TooMany) false = true
  f5 : kits K [c.UnknownName] (.ref c.UnknownNumber) false = true
  f6 : kits K [c.UnknownNumber] (.ref c.UnknownName) false = true
structure Tb (P : Program) (K : PySem.W.Frag) (mg : Str → Option Value) (c : CA) : Prop where
  E_InvalidNumber : ErrK P K mg "InvalidNumber" "InvalidNumber" ["given"] ["given"] (fun ws => ws) c.InvalidNumber
  U_InvalidNumber : ErrG.ErrU K c.InvalidNumber ["given"]
  E_InvalidThing : ErrK P K mg "InvalidThing" "InvalidThing" ["given"] ["given"] (fun ws => ws) c.InvalidThing
  U_InvalidThing : ErrG.ErrU K c.InvalidThing ["given"]
  E_InvalidRing : ErrK P K mg "InvalidRing" "InvalidRing" ["given"] ["given"] (fun ws => ws) c.InvalidRing
  U_InvalidRing : ErrG.ErrU K c.InvalidRing ["given"]
  E_InvalidTable : ErrK P K mg "InvalidTable" "InvalidTable" ["rule"] ["rule"] (fun ws => ws) c.InvalidTable
  U_InvalidTable : ErrG.ErrU K c.InvalidTable ["rule"]
  E_InvalidName : ErrK P K mg "InvalidName" "InvalidName" ["given"] ["given"] (fun ws => ws) c.InvalidName
  U_InvalidName : ErrG.ErrU K c.InvalidName ["given"]
  E_InvalidTerm : ErrK P K mg "InvalidTerm" "InvalidTerm" ["at"] ["at"] (fun ws => ws) c.InvalidTerm
  U_InvalidTerm : ErrG.ErrU K c.InvalidTerm ["at"]
  E_InvalidHead : ErrK P K mg "InvalidHead" "InvalidHead" ["part"] ["part"] (fun ws => ws) c.InvalidHead
  U_InvalidHead : ErrG.ErrU K c.InvalidHead ["part"]
  E_InvalidStep : ErrK P K mg "InvalidStep" "InvalidStep" ["procedure", "at"] ["at", "procedure"] swap2 c.InvalidStep
  U_InvalidStep : ErrG.ErrU K c.InvalidStep ["procedure", "at"]
  E_InvalidText : ErrK P K mg "InvalidText" "InvalidText" ["line"] ["line"] (fun ws => ws) c.InvalidText
  U_InvalidText : ErrG.ErrU K c.InvalidText ["line"]
  E_InvalidLine : ErrK P K mg "InvalidLine" "InvalidLine" ["at"] ["at"] (fun ws => ws) c.InvalidLine
  U_InvalidLine : ErrG.ErrU K c.InvalidLine ["at"]
  E_InvalidProduct : ErrK P K mg "InvalidProduct" "InvalidProduct" ["at"] ["at"] (fun ws => ws) c.InvalidProduct
  U_InvalidProduct : ErrG.ErrU K c.InvalidProduct ["at"]
  E_InvalidOrder : ErrK P K mg "InvalidOrder" "InvalidOrder" ["given"] ["given"] (fun ws => ws) c.InvalidOrder
  U_InvalidOrder : ErrG.ErrU K c.InvalidOrder ["given"]
  E_InvalidCommand : ErrK P K mg "InvalidCommand" "InvalidCommand" ["at"] ["at"] (fun ws => ws) c.InvalidCommand
  U_InvalidCommand : ErrG.ErrU K c.InvalidCommand ["at"]
  E_DegreeTooHigh : ErrK P K mg "DegreeTooHigh" "DegreeTooHigh" ["at"] ["at"] (fun ws => ws) c.DegreeTooHigh
  U_DegreeTooHigh : ErrG.ErrU K c.DegreeTooHigh ["at"]
  E_NoInverse : ErrK P K mg "NoInverse" "NoInverse" ["number"] ["number"] (fun ws => ws) c.NoInverse
  U_NoInverse : ErrG.ErrU K c.NoInverse ["number"]
  E_NotCommuting : ErrK P K mg "NotCommuting" "NotCommuting" [] [] (fun ws => ws) c.NotCommuting
  U_NotCommuting : ErrG.ErrU K c.NotCommuting []
  E_NotWhole : ErrK P K mg "NotWhole" "NotWhole" ["at"] ["at"] (fun ws => ws) c.NotWhole
  U_NotWhole : ErrG.ErrU K c.NotWhole ["at"]
  E_NotStraight : ErrK P K mg "NotStraight" "NotStraight" ["at"] ["at"] (fun ws => ws) c.NotStraight
  U_NotStraight : ErrG.ErrU K c.NotStraight ["at"]
  E_NoUnit : ErrK P K mg "NoUnit" "NoUnit" ["at"] ["at"] (fun ws => ws) c.NoUnit
  U_NoUnit : ErrG.ErrU K c.NoUnit ["at"]
  E_Unused : ErrK P K mg "Unused" "Unused" ["name"] ["name"] (fun ws => ws) c.Unused
  U_Unused : ErrG.ErrU K c.Unused ["name"]
  E_WrongCount : ErrK P K mg "WrongCount" "WrongCount" ["given"] ["given"] (fun ws => ws) c.WrongCount
  U_WrongCount : ErrG.ErrU K c.WrongCount ["given"]
  E_TooMany : ErrK P K mg "TooMany" "TooMany" ["most"] ["most"] (fun ws => ws) c.TooMany
  U_TooMany : ErrG.ErrU K c.TooMany ["most"]
  E_TooGreat : ErrK P K mg "TooGreat" "TooGreat" ["most"] ["most"] (fun ws => ws) c.TooGreat
  U_TooGreat : ErrG.ErrU K c.TooGreat ["most"]
  E_EmptyRealm : ErrK P K mg "EmptyRealm" "EmptyRealm" [] [] (fun ws => ws) c.EmptyRealm
  U_EmptyRealm : ErrG.ErrU K c.EmptyRealm []
  E_Unsound : ErrK P K mg "Unsound" "Unsound" ["number"] ["number"] (fun ws => ws) c.Unsound
  U_Unsound : ErrG.ErrU K c.Unsound ["number"]
  E_DuplicateName : ErrK P K mg "DuplicateName" "DuplicateName" ["name"] ["name"] (fun ws => ws) c.DuplicateName
  U_DuplicateName : ErrG.ErrU K c.DuplicateName ["name"]
  E_InUse : ErrK P K mg "InUse" "InUse" ["number"] ["number"] (fun ws => ws) c.InUse
  U_InUse : ErrG.ErrU K c.InUse ["number"]
  E_Broken : ErrK P K mg "Broken" "Broken" ["number"] ["number"] (fun ws => ws) c.Broken
  U_Broken : ErrG.ErrU K c.Broken ["number"]
  E_Full : ErrK P K mg "Full" "Full" ["most"] ["most"] (fun ws => ws) c.Full
  U_Full : ErrG.ErrU K c.Full ["most"]
  E_UnknownName : ErrK P K mg "UnknownName" "UnknownName" ["name"] ["name"] (fun ws => ws) c.UnknownName
  U_UnknownName : ErrG.ErrU K c.UnknownName ["name"]
  E_UnknownNumber : ErrK P K mg "UnknownNumber" "UnknownNumber" ["number"] ["number"] (fun ws => ws) c.UnknownNumber
  U_UnknownNumber : ErrG.ErrU K c.UnknownNumber ["number"]
  E_NothingLeft : ErrK P K mg "NothingLeft" "NothingLeft" [] [] (fun ws => ws) c.NothingLeft
  U_NothingLeft : ErrG.ErrU K c.NothingLeft []
  m_InvalidNumber : mg "InvalidNumber" = some (.ref c.InvalidNumber)
  m_InvalidThing : mg "InvalidThing" = some (.ref c.InvalidThing)
  m_InvalidRing : mg "InvalidRing" = some (.ref c.InvalidRing)
  m_InvalidTable : mg "InvalidTable" = some (.ref c.InvalidTable)
  m_InvalidName : mg "InvalidName" = some (.ref c.InvalidName)
  m_InvalidTerm : mg "InvalidTerm" = some (.ref c.InvalidTerm)
  m_InvalidHead : mg "InvalidHead" = some (.ref c.InvalidHead)
  m_InvalidStep : mg "InvalidStep" = some (.ref c.InvalidStep)
  m_InvalidText : mg "InvalidText" = some (.ref c.InvalidText)
  m_InvalidLine : mg "InvalidLine" = some (.ref c.InvalidLine)
  m_InvalidProduct : mg "InvalidProduct" = some (.ref c.InvalidProduct)
  m_InvalidOrder : mg "InvalidOrder" = some (.ref c.InvalidOrder)
  m_InvalidCommand : mg "InvalidCommand" = some (.ref c.InvalidCommand)
  m_DegreeTooHigh : mg "DegreeTooHigh" = some (.ref c.DegreeTooHigh)
  m_NoInverse : mg "NoInverse" = some (.ref c.NoInverse)
  m_NotCommuting : mg "NotCommuting" = some (.ref c.NotCommuting)
  m_NotWhole : mg "NotWhole" = some (.ref c.NotWhole)
  m_NotStraight : mg "NotStraight" = some (.ref c.NotStraight)
  m_NoUnit : mg "NoUnit" = some (.ref c.NoUnit)
  m_Unused : mg "Unused" = some (.ref c.Unused)
  m_WrongCount : mg "WrongCount" = some (.ref c.WrongCount)
  m_TooMany : mg "TooMany" = some (.ref c.TooMany)
  m_TooGreat : mg "TooGreat" = some (.ref c.TooGreat)
  m_EmptyRealm : mg "EmptyRealm" = some (.ref c.EmptyRealm)
  m_Unsound : mg "Unsound" = some (.ref c.Unsound)
  m_DuplicateName : mg "DuplicateName" = some (.ref c.DuplicateName)
  m_InUse : mg "InUse" = some (.ref c.InUse)
  m_Broken : mg "Broken" = some (.ref c.Broken)
  m_Full : mg "Full" = some (.ref c.Full)
  m_UnknownName : mg "UnknownName" = some (.ref c.UnknownName)
  m_UnknownNumber : mg "UnknownNumber" = some (.ref c.UnknownNumber)
  m_NothingLeft : mg "NothingLeft" = some (.ref c.NothingLeft)
  m_RingError : mg "RingError" = some (.ref c.RingError)
  m_Missing : mg "Missing" = some (.ref c.Missing)
  kt : KitT K c
/-! ### values made one after another -/
abbrev ES := Addr × Str × List (Str × V)
def Acc (K : PySem.W.Frag) (H : Hp) (vs : List V) (ss : List ES) : Prop := Paired (fun v s => EV K H v s.1 s.2.1 s.2.2) vs ss
theorem Acc.same {K : PySem.W.Frag} {H H' : Hp} (s : Same H H') : ∀ {vs : List V} {ss : List ES}, Acc K H vs ss → Acc K H' vs ss
  | _, _, .nil => .nil
  | _, _, .cons a t => .cons (a.same s) (Acc.same s t)
theorem Acc.snoc {K : PySem.W.Frag} {H : Hp} {v : V} {s : ES} (e : EV K H v s.1 s.2.1 s.2.2) : ∀ {vs : List V} {ss : List ES}, Acc K H vs ss → Acc K H (vs ++ [v]) (ss ++ [s])
  | _, _, .nil => .cons e .nil
  | _, _, .cons a t => .cons a (Acc.snoc e t)
theorem Acc.app {K : PySem.W.Frag} {H : Hp} : ∀ {vs us : List V} {ss rs : List ES}, Acc K H vs ss → Acc K H us rs → Acc K H (vs ++ us) (ss ++ rs)
  | _, _, _, _, .nil, b => b
  | _, _, _, _, .cons a t, b => .cons a (Acc.app t b)
theorem Acc.get {K : PySem.W.Frag} {H : Hp} : ∀ {vs : List V} {ss : List ES} {i : Nat} {v : V} {s : ES}, Acc K H vs ss → vs[i]? = some v → ss[i]? = some s → EV K H v s.1 s.2.1 s.2.2
  | _, _, 0, _, _, .cons a _, h1, h2 => by cases h1; cases h2; exact a
  | _, _, i + 1, _, _, .cons _ t, h1, h2 => Acc.get (i := i) t (by simpa using h1) (by simpa using h2)
  | _, _, _, _, _, .nil, h1, _ => by simp at h1
theorem Acc.len {K : PySem.W.Frag} {H : Hp} : ∀ {vs : List V} {ss : List ES}, Acc K H vs ss → vs.length = ss.length
  | _, _, .nil => rfl
  | _, _, .cons _ t => congrArg Nat.succ (Acc.len t)
theorem mk_put {K : PySem.W.Frag} {H0 H : Hp} {C e d : Addr} {q : Str} {l : List (Str × V)} {vs : List V} {ss : List ES} (s0 : Same H0 H) (A : Acc K H vs ss) (he : H e = none) (hd : H d = none) (hne : d ≠ e) :
    Same H0 (upd (upd H d (.xd (("code", .str q) :: l))) e (exo e C (some d))) ∧ Acc K (upd (upd H d (.xd (("code", .str q) :: l))) e (exo e C (some d))) (.ref e :: vs) ((C, q, l) :: ss) := by
  have he' : upd H d (.xd (("code", .str q) :: l)) e = none := by rw [upd_ne hne.symm]; exact he
  have s1 : Same H (upd (upd H d (.xd (("code", .str q) :: l))) e (exo e C (some d))) := (same_upd hd).trans (same_upd he')
  have ev : EV K (upd (upd H d (.xd (("code", .str q) :: l))) e (exo e C (some d))) (.ref e) C q l := ⟨e, d, rfl, upd_same, by rw [upd_ne hne]; exact upd_same⟩
  exact ⟨s0.trans s1, .cons ev (A.same s1)⟩
section
variable {K : PySem.W.Frag} {H0 H : Hp} {C : Addr} {q : Str} {fs : List Str} {n : Nat} {t : TA} {σ : L2.St} {Q : VK} {xs vs : List V} {ss : List ES}
theorem st_mk (s0 : Same H0 H) (A : Acc K H vs ss) (ht : ∀ R : List V → Hp → Prop, R xs H → t σ H R) (hn : xs.length = n) (h : ∀ v H', Same H0 H' → Acc K H' (v :: vs) ((C, q, (fs.zip xs).reverse ++ []) :: ss) → Q v H') : tMkV C q fs n t σ H Q :=
  ht _ ⟨hn, fun e d he hd hne => h _ _ (mk_put s0 A he hd hne).1 (mk_put s0 A he hd hne).2⟩
theorem st_mkK {g : List V → List V} (s0 : Same H0 H) (A : Acc K H vs ss) (ht : ∀ R : List V → Hp → Prop, R xs H → t σ H R) (hn : xs.length = n) (h : ∀ v H', Same H0 H' → Acc K H' (v :: vs) ((C, q, (fs.zip (g xs)).reverse ++ []) :: ss) → Q v H') : tMkVK C q fs n g t σ H Q :=
  ht _ ⟨hn, fun e d he hd hne => h _ _ (mk_put s0 A he hd hne).1 (mk_put s0 A he hd hne).2⟩
end
end My
namespace My
open PySem PySem.Spec PyProof.Rows L2
/-! ### comprehensions whose elements are told by their place -/
def KeepD (D : Addr) (H H' : Hp) : Prop := ∀ a o, a ≠ D → H a = some o → H' a = some o
def Stable (D : Addr) (R : Nat → Hp → V → Prop) : Prop := ∀ (j : Nat) (v : V) (H H' : Hp) (ws : List V), H D = some (.lst ws) → KeepD D H H' → R j H v → R j H' v
structure LcI (H0 : Hp) (D : Addr) (R : Nat → Hp → V → Prop) (i : Nat) (H : Hp) : Prop where
  same : Same H0 H
  ex : ∃ ws : List V, ws.length = i ∧ H D = some (.lst ws) ∧ ∀ j v, ws[j]? = some v → R j H v
theorem LcI.start {H0 : Hp} {D : Addr} {R : Nat → Hp → V → Prop} (h : H0 D = none) : LcI H0 D R 0 (upd H0 D (.lst [])) := ⟨same_upd h, [], rfl, upd_same, fun j v e => by simp at e⟩
theorem LcI.next {H0 H1 H4 : Hp} {D : Addr} {R : Nat → Hp → V → Prop} {i : Nat} {w : V} (st : Stable D R) (h : LcI H0 D R i H1) (h0 : H0 D = none) (hi : i < 900) (s : Same H1 H4) (r : R i H4 w) :
    ∃ acc, H4 D = some (.lst acc) ∧ acc.length < sizeLine ∧ LcI H0 D R (i + 1) (upd H4 D (.lst (acc ++ [w]))) := by
  obtain ⟨ws, hl, eD, all⟩ := h.ex
  have kd : KeepD D H4 (upd H4 D (.lst (ws ++ [w]))) := fun a o n e => by rw [upd_ne n]; exact e
  refine ⟨ws, s _ _ eD, small1000 (by omega), ⟨fun a o e => ?_, ws ++ [w], by simp [hl], upd_same, fun j v e => ?_⟩⟩
  · rw [upd_ne (ne_of_none e h0)]
    exact s _ _ (h.same _ _ e)
  · by_cases hj : j < ws.length
    · rw [List.getElem?_append_left hj] at e
      exact st j v _ _ _ (s _ _ eD) kd (st j v H1 H4 _ eD (fun a o _ e => s a o e) (all j v e))
    · rw [List.getElem?_append_right (by omega)] at e
      have ej : j - ws.length = 0 := by
        have := (List.getElem?_eq_some_iff.mp e).1
        simpa using this
      rw [ej] at e
      cases e
      have : j = i := by omega
      subst this
      exact st _ _ _ _ _ (s _ _ eD) kd r
theorem paired_at {α : Type} {F : α → V → Prop} : ∀ {ks : List α} {ws : List V}, ws.length = ks.length → (∀ (j : Nat) (k : α) (v : V), ks[j]? = some k → ws[j]? = some v → F k v) → Paired F ks ws
  | [], [], _, _ => .nil
  | k :: ks, w :: ws, e, h => .cons (h 0 k w rfl rfl) (paired_at (by simpa using e) fun j a b h1 h2 => h (j + 1) a b (by simpa using h1) (by simpa using h2))
/-! ### what the field is -/
def FldOf (H : Hp) (x : V) (l : List (Str × V)) : FKind → Prop
  | .one f => l.lookup f = some x
  | .two => ∃ p y z, x = .ref p ∧ H p = some (.tup [y, z]) ∧ l.lookup ("procedure" : Str) = some y ∧ l.lookup ("at" : Str) = some z
  | .zero => x = .non
def SOk (K : PySem.W.Frag) (C : Addr) (l : List (Str × V)) : FKind → Prop
  | .one f => PySem.W.findIn K (.ref C) f = some none ∧ (l.lookup f).isSome = true
  | .two => PySem.W.findIn K (.ref C) "procedure" = some none ∧ PySem.W.findIn K (.ref C) "at" = some none ∧ (l.lookup ("procedure" : Str)).isSome = true ∧ (l.lookup ("at" : Str)).isSome = true
  | .zero => True
theorem fres_of {K : PySem.W.Frag} {C : Addr} {l : List (Str × V)} {H : Hp} {Q : VK} : ∀ {k : FKind}, SOk K C l k → (∀ x H', Same H H' → FldOf H' x l k → Q x H') → FRes K C l H Q k
  | .one f, ⟨a, b⟩, h => by
    obtain ⟨x, e⟩ := Option.isSome_iff_exists.mp b
    exact ⟨a, x, e, fun H' s => h x H' s e⟩
  | .two, ⟨a, b, c, d⟩, h => by
    obtain ⟨x, e⟩ := Option.isSome_iff_exists.mp c
    obtain ⟨y, e'⟩ := Option.isSome_iff_exists.mp d
    exact ⟨a, b, x, y, e, e', fun H' p s hp => h _ _ (s.trans (same_upd hp)) ⟨p, x, y, rfl, upd_same, e, e'⟩⟩
  | .zero, _, h => fun H' s => h _ H' s rfl
/-- what is due: 1: the first value, 2: both in a tuple, 0: None -/
def Due (one two : V) (H : Hp) : Nat → V → Prop
  | 0, x => x = .non
  | 1, x => x = one
  | _, x => ∃ p, x = .ref p ∧ H p = some (.tup [one, two])
theorem Due.keep {one two : V} {H H' : Hp} {D : Addr} {ws : List V} (k : KeepD D H H') (hD : H D = some (.lst ws)) : ∀ {n : Nat} {x : V}, Due one two H n x → Due one two H' n x
  | 0, _, h => h
  | 1, _, h => h
  | n + 2, _, ⟨p, e, h⟩ => ⟨p, e, k p _ (ne_of h hD (by intro z; cases z)) h⟩
theorem Due.same {one two : V} {H H' : Hp} (k : Same H H') : ∀ {n : Nat} {x : V}, Due one two H n x → Due one two H' n x
  | 0, _, h => h
  | 1, _, h => h
  | n + 2, _, ⟨p, e, h⟩ => ⟨p, e, k p _ h⟩
theorem Due.eqd {one two : V} {H : Hp} (h1 : Eqd H 2 one one) (h2 : Eqd H 2 two two) : ∀ {n : Nat} {x y : V}, Due one two H n x → Due one two H n y → Eqd H 3 x y
  | 0, _, _, rfl, rfl => Eqd.leaf True.intro
  | 1, _, _, rfl, rfl => h1.up
  | n + 2, _, _, ⟨p, rfl, h⟩, ⟨p', rfl, h'⟩ => Eqd.tup h h' (by show 2 ≤ 1000; decide) (.cons h1 (.cons h2 .nil))
/-- a value made: its kind, what its class says -/
structure EntOk (K : PySem.W.Frag) (one two : V) (s : ES) (k : Nat) : Prop where
  xf : XfC K s.1
  ec : ExcC K s.1
  noC : PySem.W.findIn K (.ref s.1) "code" = some none
  ok : SOk K s.1 (("code", .str s.2.1) :: s.2.2) (fKind s.2.1)
  due : ∀ H x, FldOf H x (("code", .str s.2.1) :: s.2.2) (fKind s.2.1) → Due one two H k x
section
variable {K : PySem.W.Frag} {C : Addr} {one two u : V} {q f : Str}
theorem ent1 (U : ErrG.ErrU K C [f]) (hk : fKind q = .one f) (hf : (f == ("code" : Str)) = false) : EntOk K one two (C, q, ([f].zip [one]).reverse ++ []) 1 := by
  have e : List.lookup f (("code", V.str q) :: (([f].zip [one]).reverse ++ [])) = some one := by simp [List.lookup, hf]
  refine ⟨U.xf, U.ec, U.no _ List.mem_cons_self, ?_, fun H x h => ?_⟩
  · show SOk K C _ (fKind q)
    rw [hk]
    exact ⟨U.no f (List.mem_cons_of_mem _ List.mem_cons_self), by rw [e]; rfl⟩
  · have h' : FldOf H x (("code", V.str q) :: (([f].zip [one]).reverse ++ [])) (fKind q) := h
    rw [hk] at h'
    exact (Option.some.inj (e.symm.trans h')).symm
theorem ent0 (U : ErrG.ErrU K C []) (hk : fKind q = .zero) : EntOk K one two (C, q, (([] : List Str).zip ([] : List V)).reverse ++ []) 0 := by
  refine ⟨U.xf, U.ec, U.no _ List.mem_cons_self, ?_, fun H x h => ?_⟩
  · show SOk K C _ (fKind q)
    rw [hk]
    trivial
  · have h' : FldOf H x (("code", V.str q) :: ((([] : List Str).zip ([] : List V)).reverse ++ [])) (fKind q) := h
    rw [hk] at h'
    exact h'
theorem ent2 (U : ErrG.ErrU K C ["procedure", "at"]) : EntOk K one two (C, "InvalidStep", (([("procedure" : Str), "at"]).zip [one, two]).reverse ++ []) 2 := by
  have hk : fKind "InvalidStep" = .two := rfl
  refine ⟨U.xf, U.ec, U.no _ List.mem_cons_self, ?_, fun H x h => ?_⟩
  · show SOk K C _ (fKind "InvalidStep")
    rw [hk]
    exact ⟨U.no _ (by simp), U.no _ (by simp), rfl, rfl⟩
  · have h' : FldOf H x (("code", V.str "InvalidStep") :: ((([("procedure" : Str), "at"]).zip [one, two]).reverse ++ [])) (fKind "InvalidStep") := h
    rw [hk] at h'
    obtain ⟨p, y, z, rfl, hp, e1, e2⟩ := h'
    obtain rfl : one = y := Option.some.inj e1
    obtain rfl : two = z := Option.some.inj e2
    exact ⟨p, rfl, hp⟩
end
theorem paired_ix {α β : Type} {F : α → β → Prop} : ∀ {xs : List α} {ys : List β} {i : Nat} {x : α} {y : β}, Paired F xs ys → xs[i]? = some x → ys[i]? = some y → F x y
  | _, _, 0, _, _, .cons r _, h1, h2 => by cases h1; cases h2; exact r
  | _, _, i + 1, _, _, .cons _ t, h1, h2 => paired_ix (i := i) t (by simpa using h1) (by simpa using h2)
  | _, _, _, _, _, .nil, h1, _ => by simp at h1
theorem paired_snoc {α β : Type} {F : α → β → Prop} {x : α} {y : β} (h : F x y) : ∀ {xs : List α} {ys : List β}, Paired F xs ys → Paired F (xs ++ [x]) (ys ++ [y])
  | _, _, .nil => .cons h .nil
  | _, _, .cons a t => .cons a (paired_snoc h t)
theorem paired_rev {α β : Type} {F : α → β → Prop} : ∀ {xs : List α} {ys : List β}, Paired F xs ys → Paired F xs.reverse ys.reverse
  | _, _, .nil => .nil
  | _, _, .cons a t => by
    rw [List.reverse_cons, List.reverse_cons]
    exact paired_snoc a (paired_rev t)
theorem paired_ln {α β : Type} {F : α → β → Prop} : ∀ {xs : List α} {ys : List β}, Paired F xs ys → xs.length = ys.length
  | _, _, .nil => rfl
  | _, _, .cons _ t => congrArg Nat.succ (paired_ln t)
theorem paired_due {F : V → V → Prop} {G : Nat → V → Prop} (h : ∀ k x y, G k x → G k y → F x y) : ∀ {ks : List Nat} {xs ys : List V}, Paired G ks xs → Paired G ks ys → Paired F xs ys
  | _, _, _, .nil, .nil => .nil
  | _, _, _, .cons a t, .cons b u => .cons (h _ _ _ a b) (paired_due h t u)
def RDue (one two : V) (ks : List Nat) : Nat → Hp → V → Prop := fun j H v => ∀ k, ks[j]? = some k → Due one two H k v
theorem rdue_st {one two : V} {ks : List Nat} {D : Addr} : Stable D (RDue one two ks) := fun j v H H' ws hD k r n hn => (r n hn).keep k hD
section
variable {P : Program} {w : World} {K : PySem.W.Frag} {mg : Str → Option Value} {base : Heap}
def spWord : Sp := fun vs H Q _ => ∃ one two : V, vs = [one, two] ∧ Eqd H 2 one one ∧ Eqd H 2 two two ∧ ∀ H', Q (.bl true) H'
abbrev kWord : List Nat := [1, 1, 1, 1, 1, 1, 1, 2, 1, 1, 1, 1, 1, 1, 1, 1, 1, 1, 1, 1, 1, 1, 1, 1, 1, 1, 1, 1, 1]
theorem ok_word {c : CA} (T : Tb P K mg c) (F : Fn K mg "_law_by_word" s_l_by_word ["_law_one", "_law_two"]) (G_l_field : Has P w K mg base 1 "_law_field" ["_law_e"] (spFieldV K)) (G_l_same : Has P w K mg base 4 "_law_same" ["_law_found", "_law_due"] (spSame 4)) :
    Has P w K mg base 5 "_law_by_word" ["_law_one", "_law_two"] spWord := by
  refine F.has sc_l_by_word (fun vs H Q E h => ?_) (fun f cdv A outer s H vs Q E hr h => ?_)
  · obtain ⟨a, b, rfl, _⟩ := h
    rfl
  obtain ⟨one, two, rfl, e1, e2, q⟩ := h
  refine ⟨_, (pss_cons (ps_set (i := 2) sc_l_by_word.nd rfl (Or.inl rfl) (pe_lst (pa_cons (pe_mkVK T.E_InvalidNumber idV hr (by rfl) (pk_cons (pv 0) pk_nil)) (pa_cons (pe_mkVK T.E_InvalidThing idV hr (by rfl) (pk_cons (pv 0) pk_nil)) (pa_cons (pe_mkVK T.E_InvalidRing idV hr (by rfl) (pk_cons (pv 0) pk_nil)) (pa_cons (pe_mkVK T.E_InvalidTable idV hr (by rfl) (pk_cons (pv 0) pk_nil)) (pa_cons (pe_mkVK T.E_InvalidName idV hr (by rfl) (pk_cons (pv 0) pk_nil)) (pa_cons (pe_mkVK T.E_InvalidTerm idV hr (by rfl) (pk_cons (pv 0) pk_nil)) (pa_cons (pe_mkVK T.E_InvalidHead idV hr (by rfl) (pk_cons (pv 0) pk_nil)) (pa_cons (pe_mkVK T.E_InvalidStep swapV hr (by rfl) (pk_cons (pv 1) (pk_cons (pv 0) pk_nil))) (pa_cons (pe_mkVK T.E_InvalidText idV hr (by rfl) (pk_cons (pv 0) pk_nil)) (pa_cons (pe_mkVK T.E_InvalidLine idV hr (by rfl) (pk_cons (pv 0) pk_nil)) (pa_cons (pe_mkVK T.E_InvalidProduct idV hr (by rfl) (pk_cons (pv 0) pk_nil)) (pa_cons (pe_mkVK T.E_InvalidOrder idV hr (by rfl) (pk_cons (pv 0) pk_nil)) (pa_cons (pe_mkVK T.E_InvalidCommand idV hr (by rfl) (pk_cons (pv 0) pk_nil)) (pa_cons (pe_mkVK T.E_DegreeTooHigh idV hr (by rfl) (pk_cons (pv 0) pk_nil)) (pa_cons (pe_mkVK T.E_NoInverse idV hr (by rfl) (pk_cons (pv 0) pk_nil)) pa_nil)))))))))))))))))
      (pss_cons (ps_set (i := 2) sc_l_by_word.nd rfl (Or.inl rfl) (pe_op op_cat (pv 2) (pe_lst (pa_cons (pe_mkVK T.E_NotWhole idV hr (by rfl) (pk_cons (pv 0) pk_nil)) (pa_cons (pe_mkVK T.E_NotStraight idV hr (by rfl) (pk_cons (pv 0) pk_nil)) (pa_cons (pe_mkVK T.E_NoUnit idV hr (by rfl) (pk_cons (pv 0) pk_nil)) (pa_cons (pe_mkVK T.E_Unused idV hr (by rfl) (pk_cons (pv 0) pk_nil)) (pa_cons (pe_mkVK T.E_WrongCount idV hr (by rfl) (pk_cons (pv 0) pk_nil)) (pa_cons (pe_mkVK T.E_TooMany idV hr (by rfl) (pk_cons (pv 0) pk_nil)) (pa_cons (pe_mkVK T.E_TooGreat idV hr (by rfl) (pk_cons (pv 0) pk_nil)) (pa_cons (pe_mkVK T.E_Unsound idV hr (by rfl) (pk_cons (pv 0) pk_nil)) (pa_cons (pe_mkVK T.E_DuplicateName idV hr (by rfl) (pk_cons (pv 0) pk_nil)) (pa_cons (pe_mkVK T.E_InUse idV hr (by rfl) (pk_cons (pv 0) pk_nil)) (pa_cons (pe_mkVK T.E_Broken idV hr (by rfl) (pk_cons (pv 0) pk_nil)) (pa_cons (pe_mkVK T.E_Full idV hr (by rfl) (pk_cons (pv 0) pk_nil)) (pa_cons (pe_mkVK T.E_UnknownName idV hr (by rfl) (pk_cons (pv 0) pk_nil)) (pa_cons (pe_mkVK T.E_UnknownNumber idV hr (by rfl) (pk_cons (pv 0) pk_nil)) pa_nil)))))))))))))))))
      (pss_one (ps_ret (pe_own G_l_same (hr.mono (by decide)) (by rfl) (pa_cons (pe_lc (own := [("_law_e", 3)]) (g := gName 3) (tt := tYes) (by rfl) sc_l_by_word.nd (pi_list (pv 2)) (blkOk_by (own := [("_law_e", 3)]) (N := N_l_by_word) (sc := defScope s_l_by_word) (by decide +kernel)) (fun _ _ _ _ _ => (pg_name (i := 3) sc_l_by_word.nd rfl (Or.inl rfl))) (fun _ _ _ _ _ => pts_nil) (fun _ _ _ _ _ => (pe_own G_l_field (hr.mono (by decide)) (by rfl) (pa_cons (pv 3) pa_nil)))) (pa_cons (pe_op op_cat (pe_op op_cat (pe_op op_rep (pe_lst (pa_cons (pv 0) pa_nil)) pe_int) (pe_lst (pa_cons (pe_tup (pa_cons (pv 0) (pa_cons (pv 1) pa_nil))) pa_nil))) (pe_op op_rep (pe_lst (pa_cons (pv 0) pa_nil)) pe_int)) pa_nil))))))), ?_⟩
  have s0 : Same H H := Same.refl H
  have A0 : Acc K H [] [] := .nil
  dsimp only [tSeq, tAsg, tLst, tCons, tNil, gName]
  refine st_mkK s0 A0 (fun R r => ⟨_, rfl, r⟩) rfl fun v1 H1 s0 A0 => ?_
  refine st_mkK s0 A0 (fun R r => ⟨_, rfl, r⟩) rfl fun v2 H2 s0 A0 => ?_
  refine st_mkK s0 A0 (fun R r => ⟨_, rfl, r⟩) rfl fun v3 H3 s0 A0 => ?_
  refine st_mkK s0 A0 (fun R r => ⟨_, rfl, r⟩) rfl fun v4 H4 s0 A0 => ?_
  refine st_mkK s0 A0 (fun R r => ⟨_, rfl, r⟩) rfl fun v5 H5 s0 A0 => ?_
  refine st_mkK s0 A0 (fun R r => ⟨_, rfl, r⟩) rfl fun v6 H6 s0 A0 => ?_
  refine st_mkK s0 A0 (fun R r => ⟨_, rfl, r⟩) rfl fun v7 H7 s0 A0 => ?_
  refine st_mkK s0 A0 (fun R r => ⟨_, rfl, _, rfl, r⟩) rfl fun v8 H8 s0 A0 => ?_
  refine st_mkK s0 A0 (fun R r => ⟨_, rfl, r⟩) rfl fun v9 H9 s0 A0 => ?_
  refine st_mkK s0 A0 (fun R r => ⟨_, rfl, r⟩) rfl fun v10 H10 s0 A0 => ?_
  refine st_mkK s0 A0 (fun R r => ⟨_, rfl, r⟩) rfl fun v11 H11 s0 A0 => ?_
  refine st_mkK s0 A0 (fun R r => ⟨_, rfl, r⟩) rfl fun v12 H12 s0 A0 => ?_
  refine st_mkK s0 A0 (fun R r => ⟨_, rfl, r⟩) rfl fun v13 H13 s0 A0 => ?_
  refine st_mkK s0 A0 (fun R r => ⟨_, rfl, r⟩) rfl fun v14 H14 s0 A0 => ?_
  refine st_mkK s0 A0 (fun R r => ⟨_, rfl, r⟩) rfl fun v15 H15 s0 A0 => ?_
  refine ⟨by show 15 ≤ sizeLine; decide, fun p1 hp1 => ?_⟩
  have z1 := same_upd (o := .lst [v1, v2, v3, v4, v5, v6, v7, v8, v9, v10, v11, v12, v13, v14, v15]) hp1
  have y1 : upd H15 p1 (.lst [v1, v2, v3, v4, v5, v6, v7, v8, v9, v10, v11, v12, v13, v14, v15]) p1 = some (.lst [v1, v2, v3, v4, v5, v6, v7, v8, v9, v10, v11, v12, v13, v14, v15]) := upd_same
  generalize upd H15 p1 (.lst [v1, v2, v3, v4, v5, v6, v7, v8, v9, v10, v11, v12, v13, v14, v15]) = G1 at *
  replace s0 := s0.trans z1
  replace A0 := A0.same z1
  refine ⟨_, rfl, ?_⟩
  dsimp only [tSeq, tAsg, tLst, tCons, tNil, gName]
  have t : Same G1 G1 := Same.refl _
  refine st_mkK t A0 (fun R r => ⟨_, rfl, r⟩) rfl fun v16 H16 t A0 => ?_
  refine st_mkK t A0 (fun R r => ⟨_, rfl, r⟩) rfl fun v17 H17 t A0 => ?_
  refine st_mkK t A0 (fun R r => ⟨_, rfl, r⟩) rfl fun v18 H18 t A0 => ?_
  refine st_mkK t A0 (fun R r => ⟨_, rfl, r⟩) rfl fun v19 H19 t A0 => ?_
  refine st_mkK t A0 (fun R r => ⟨_, rfl, r⟩) rfl fun v20 H20 t A0 => ?_
  refine st_mkK t A0 (fun R r => ⟨_, rfl, r⟩) rfl fun v21 H21 t A0 => ?_
  refine st_mkK t A0 (fun R r => ⟨_, rfl, r⟩) rfl fun v22 H22 t A0 => ?_
  refine st_mkK t A0 (fun R r => ⟨_, rfl, r⟩) rfl fun v23 H23 t A0 => ?_
  refine st_mkK t A0 (fun R r => ⟨_, rfl, r⟩) rfl fun v24 H24 t A0 => ?_
  refine st_mkK t A0 (fun R r => ⟨_, rfl, r⟩) rfl fun v25 H25 t A0 => ?_
  refine st_mkK t A0 (fun R r => ⟨_, rfl, r⟩) rfl fun v26 H26 t A0 => ?_
  refine st_mkK t A0 (fun R r => ⟨_, rfl, r⟩) rfl fun v27 H27 t A0 => ?_
  refine st_mkK t A0 (fun R r => ⟨_, rfl, r⟩) rfl fun v28 H28 t A0 => ?_
  refine st_mkK t A0 (fun R r => ⟨_, rfl, r⟩) rfl fun v29 H29 t A0 => ?_
  refine ⟨by show 14 ≤ sizeLine; decide, fun p2 hp2 => ?_⟩
  have z2 := same_upd (o := .lst [v16, v17, v18, v19, v20, v21, v22, v23, v24, v25, v26, v27, v28, v29]) hp2
  have y2 : upd H29 p2 (.lst [v16, v17, v18, v19, v20, v21, v22, v23, v24, v25, v26, v27, v28, v29]) p2 = some (.lst [v16, v17, v18, v19, v20, v21, v22, v23, v24, v25, v26, v27, v28, v29]) := upd_same
  generalize upd H29 p2 (.lst [v16, v17, v18, v19, v20, v21, v22, v23, v24, v25, v26, v27, v28, v29]) = G2 at *
  replace t := t.trans z2
  replace A0 := A0.same z2
  refine ⟨p1, p2, _, _, rfl, rfl, t _ _ y1, y2, (by show 29 ≤ sizeLine; decide), fun p3 hp3 => ?_⟩
  have z3 := same_upd (o := .lst ([v1, v2, v3, v4, v5, v6, v7, v8, v9, v10, v11, v12, v13, v14, v15] ++ [v16, v17, v18, v19, v20, v21, v22, v23, v24, v25, v26, v27, v28, v29])) hp3
  have y3 : upd G2 p3 (.lst ([v1, v2, v3, v4, v5, v6, v7, v8, v9, v10, v11, v12, v13, v14, v15] ++ [v16, v17, v18, v19, v20, v21, v22, v23, v24, v25, v26, v27, v28, v29])) p3 = some (.lst [v1, v2, v3, v4, v5, v6, v7, v8, v9, v10, v11, v12, v13, v14, v15, v16, v17, v18, v19, v20, v21, v22, v23, v24, v25, v26, v27, v28, v29]) := upd_same
  generalize upd G2 p3 (.lst ([v1, v2, v3, v4, v5, v6, v7, v8, v9, v10, v11, v12, v13, v14, v15] ++ [v16, v17, v18, v19, v20, v21, v22, v23, v24, v25, v26, v27, v28, v29])) = G3 at *
  replace t := s0.trans (t.trans z3)
  replace A0 := A0.same z3
  obtain ⟨sr, hA, hE⟩ : ∃ sr, Acc K G3 [v29, v28, v27, v26, v25, v24, v23, v22, v21, v20, v19, v18, v17, v16, v15, v14, v13, v12, v11, v10, v9, v8, v7, v6, v5, v4, v3, v2, v1] sr ∧ Paired (EntOk K one two) sr kWord.reverse := ⟨_, A0, .cons (ent1 T.U_UnknownNumber rfl rfl) (.cons (ent1 T.U_UnknownName rfl rfl) (.cons (ent1 T.U_Full rfl rfl) (.cons (ent1 T.U_Broken rfl rfl) (.cons (ent1 T.U_InUse rfl rfl) (.cons (ent1 T.U_DuplicateName rfl rfl) (.cons (ent1 T.U_Unsound rfl rfl) (.cons (ent1 T.U_TooGreat rfl rfl) (.cons (ent1 T.U_TooMany rfl rfl) (.cons (ent1 T.U_WrongCount rfl rfl) (.cons (ent1 T.U_Unused rfl rfl) (.cons (ent1 T.U_NoUnit rfl rfl) (.cons (ent1 T.U_NotStraight rfl rfl) (.cons (ent1 T.U_NotWhole rfl rfl) (.cons (ent1 T.U_NoInverse rfl rfl) (.cons (ent1 T.U_DegreeTooHigh rfl rfl) (.cons (ent1 T.U_InvalidCommand rfl rfl) (.cons (ent1 T.U_InvalidOrder rfl rfl) (.cons (ent1 T.U_InvalidProduct rfl rfl) (.cons (ent1 T.U_InvalidLine rfl rfl) (.cons (ent1 T.U_InvalidText rfl rfl) (.cons (ent2 T.U_InvalidStep) (.cons (ent1 T.U_InvalidHead rfl rfl) (.cons (ent1 T.U_InvalidTerm rfl rfl) (.cons (ent1 T.U_InvalidName rfl rfl) (.cons (ent1 T.U_InvalidTable rfl rfl) (.cons (ent1 T.U_InvalidRing rfl rfl) (.cons (ent1 T.U_InvalidThing rfl rfl) (.cons (ent1 T.U_InvalidNumber rfl rfl) (.nil)))))))))))))))))))))))))))))⟩
  clear A0
  replace hA : Acc K G3 [v1, v2, v3, v4, v5, v6, v7, v8, v9, v10, v11, v12, v13, v14, v15, v16, v17, v18, v19, v20, v21, v22, v23, v24, v25, v26, v27, v28, v29] sr.reverse := paired_rev hA
  replace hE : Paired (EntOk K one two) sr.reverse kWord := paired_rev hE
  generalize sr.reverse = ss at *
  generalize hvs : [v1, v2, v3, v4, v5, v6, v7, v8, v9, v10, v11, v12, v13, v14, v15, v16, v17, v18, v19, v20, v21, v22, v23, v24, v25, v26, v27, v28, v29] = vs at *
  have lss : ss.length = 29 := paired_ln hE
  have lvs : vs.length = 29 := hA.len.trans lss
  refine ⟨_, rfl, p3, rfl, ⟨_, SqL.of y3⟩, fun D hD => ?_⟩
  refine lc_it (walk_list (xs := vs)) (LcI G3 D (RDue one two kWord)) (LcI.start hD) (fun i H' _ h => SqL.of (h.same _ _ y3)) ?_ ?_
  · rintro i v Ha Hb hi h ⟨rfl, hv⟩
    have hi29 : i < 29 := by omega
    obtain ⟨sp, hsp⟩ : ∃ sp, ss[i]? = some sp := ⟨_, List.getElem?_eq_getElem (by omega)⟩
    obtain ⟨k, hk⟩ : ∃ k, kWord[i]? = some k := ⟨_, List.getElem?_eq_getElem (by simpa using hi29)⟩
    have en := paired_ix hE hsp hk
    refine ⟨rfl, tYes_ok ⟨_, rfl, v, sp.1, sp.2.1, sp.2.2, rfl, (hA.get hv hsp).same h.same, en.xf, en.noC, fres_of en.ok fun x H' sx fx => ?_⟩⟩
    refine LcI.next rdue_st h hD (by omega) sx (fun k' hk' => ?_)
    rw [hk] at hk'
    cases hk'
    exact en.due _ _ fx
  rintro Hz hz
  obtain ⟨ws, hl, eD, all⟩ := hz.ex
  have d1 : Paired (Due one two Hz) kWord ws := paired_at (by rw [hl, lvs]; rfl) fun j k v h1 h2 => all j v h2 k h1
  refine ⟨_, rfl, (by show 1 ≤ sizeLine; decide), fun u1 n1 => ⟨u1, 7, _, rfl, rfl, upd_same, by decide, by decide, (by show 7 ≤ sizeLine; decide), fun u2 n2 => ?_⟩⟩
  have w1 := same_upd (o := .lst [one]) n1
  have w2 := same_upd (o := .lst (List.replicate (7 : Int).toNat [one]).flatten) n2
  have x2 : upd (upd Hz u1 (.lst [one])) u2 (.lst (List.replicate (7 : Int).toNat [one]).flatten) u2 = some (.lst [one, one, one, one, one, one, one]) := upd_same
  replace w2 := w1.trans w2
  generalize upd (upd Hz u1 (.lst [one])) u2 (.lst (List.replicate (7 : Int).toNat [one]).flatten) = Z2 at *
  refine ⟨_, rfl, _, rfl, (by show 2 ≤ sizeLine; decide), fun u3 n3 => ⟨(by show 1 ≤ sizeLine; decide), fun u4 n4 => ?_⟩⟩
  have w3 := same_upd (o := .tup [one, two]) n3
  have x3 : upd Z2 u3 (.tup [one, two]) u3 = some (.tup [one, two]) := upd_same
  generalize upd Z2 u3 (.tup [one, two]) = Z3 at *
  have w4 := same_upd (o := .lst [.ref u3]) n4
  have x4 : upd Z3 u4 (.lst [.ref u3]) u4 = some (.lst [.ref u3]) := upd_same
  generalize upd Z3 u4 (.lst [.ref u3]) = Z4 at *
  have w34 := w3.trans w4
  refine ⟨u2, u4, _, _, rfl, rfl, w34 _ _ x2, x4, (by show 8 ≤ sizeLine; decide), fun u5 n5 => ?_⟩
  have w5 := same_upd (o := .lst ([one, one, one, one, one, one, one] ++ [.ref u3])) n5
  have x5 : upd Z4 u5 (.lst ([one, one, one, one, one, one, one] ++ [.ref u3])) u5 = some (.lst [one, one, one, one, one, one, one, .ref u3]) := upd_same
  generalize upd Z4 u5 (.lst ([one, one, one, one, one, one, one] ++ [.ref u3])) = Z5 at *
  refine ⟨_, rfl, (by show 1 ≤ sizeLine; decide), fun u6 n6 => ⟨u6, 21, _, rfl, rfl, upd_same, by decide, by decide, (by show 21 ≤ sizeLine; decide), fun u7 n7 => ?_⟩⟩
  have w6 := same_upd (o := .lst [one]) n6
  have w7 := w6.trans (same_upd (o := .lst (List.replicate (21 : Int).toNat [one]).flatten) n7)
  have x7 : upd (upd Z5 u6 (.lst [one])) u7 (.lst (List.replicate (21 : Int).toNat [one]).flatten) u7 = some (.lst (List.replicate (21 : Int).toNat [one]).flatten) := upd_same
  generalize upd (upd Z5 u6 (.lst [one])) u7 (.lst (List.replicate (21 : Int).toNat [one]).flatten) = Z7 at *
  refine ⟨u5, u7, _, _, rfl, rfl, w7 _ _ x5, x7, (by show 29 ≤ sizeLine; decide), fun u8 n8 => ?_⟩
  have sZ : Same Hz (upd Z7 u8 (.lst ([one, one, one, one, one, one, one, .ref u3] ++ (List.replicate (21 : Int).toNat [one]).flatten))) := w2.trans (w34.trans (w5.trans (w7.trans (same_upd n8))))
  have tu := (w4.trans (w5.trans (w7.trans (same_upd (o := .lst ([one, one, one, one, one, one, one, .ref u3] ++ (List.replicate (21 : Int).toNat [one]).flatten)) n8)))) _ _ x3
  have x8 : upd Z7 u8 (.lst ([one, one, one, one, one, one, one, .ref u3] ++ (List.replicate (21 : Int).toNat [one]).flatten)) u8 = some (.lst [one, one, one, one, one, one, one, .ref u3, one, one, one, one, one, one, one, one, one, one, one, one, one, one, one, one, one, one, one, one, one]) := upd_same
  generalize upd Z7 u8 (.lst ([one, one, one, one, one, one, one, .ref u3] ++ (List.replicate (21 : Int).toNat [one]).flatten)) = Z8 at *
  have d2 : Paired (Due one two Z8) kWord [one, one, one, one, one, one, one, .ref u3, one, one, one, one, one, one, one, one, one, one, one, one, one, one, one, one, one, one, one, one, one] := by
    iterate 7 refine .cons rfl ?_
    refine .cons ⟨u3, rfl, tu⟩ ?_
    iterate 21 refine .cons rfl ?_
    exact .nil
  have sA : Same H Z8 := (t.trans hz.same).trans sZ
  refine ⟨.ref D, .ref u8, rfl, Eqd.lst (sZ _ _ eD) x8 (by rw [hl, lvs]; decide) (paired_due (F := Eqd Z8 3) (G := Due one two Z8) (fun k x y a b => Due.eqd (e1.mono sA) (e2.mono sA) a b) (Paired.mapP d1 fun k x d => d.same sZ) d2), fun H' _ => q H'⟩
end
end My
namespace LcN
open PySem PySem.Spec PyProof.Rows L2
theorem ix_listK {X : Cx} (K : PySem.W.Frag) (hK : X.K = K) : IxR X (rIxL K) := by
  subst hK
  exact ix_list
end LcN
namespace My
open PySem PySem.Spec PyProof.Rows L2
abbrev kEarly : List Nat := [1, 1, 1, 1, 1, 1, 1, 2, 1, 1, 1, 1, 1, 1, 1, 0, 1, 1, 1, 1, 1, 1, 1, 0, 1, 1, 1, 1, 1]
abbrev qEarly : List Str := ["InvalidNumber", "InvalidThing", "InvalidRing", "InvalidTable", "InvalidName", "InvalidTerm", "InvalidHead", "InvalidStep", "InvalidText", "InvalidLine", "InvalidProduct", "InvalidOrder", "InvalidCommand", "DegreeTooHigh", "NoInverse", "NotCommuting", "NotWhole", "NotStraight", "NoUnit", "Unused", "WrongCount", "TooMany", "TooGreat", "EmptyRealm", "Unsound", "DuplicateName", "InUse", "Broken", "Full"]
theorem odd_eqd {H : Hp} {b : Addr} {v : V} (h : OddV H b v) : Eqd H 2 v v := by
  cases h with
  | non => exact Eqd.leaf True.intro
  | bl x => exact Eqd.leaf True.intro
  | s0 => exact Eqd.leaf True.intro
  | s1 => exact Eqd.leaf True.intro
  | s2 => exact Eqd.leaf True.intro
  | s3 => exact Eqd.leaf True.intro
  | s4 => exact Eqd.leaf True.intro
  | t0 n h => exact Eqd.tup h h (by show 0 ≤ 1000; decide) .nil
  | t1 n h => exact Eqd.tup h h (by show 1 ≤ 1000; decide) (.cons (Eqd.leaf True.intro) .nil)
  | l0 n h => exact Eqd.lst h h (by show 0 ≤ 1000; decide) .nil
  | l1 n h => exact Eqd.lst h h (by show 1 ≤ 1000; decide) (.cons (Eqd.leaf True.intro) .nil)
section
variable {σ : L2.St} {H : Hp} {Q : VK}
theorem flat_rep (v : V) : ∀ n : Nat, (List.replicate n [v]).flatten = List.replicate n v
  | 0 => rfl
  | n + 1 => by rw [List.replicate_succ, List.flatten_cons, flat_rep v n, List.replicate_succ]; rfl
theorem st_rep {i : Nat} {v : V} (n : Nat) (hv : σ[i]? = some (some v)) (hn : n ≤ 100) (h : ∀ p H', Same H H' → H' p = some (.lst (List.replicate n v)) → Q (.ref p) H') :
    tLst (tCons (tVar i) tNil) σ H fun x H1 => tC (.int (n : Int)) σ H1 fun y H2 => rRep x y H2 Q := by
  refine ⟨v, hv, (by show 1 ≤ sizeLine; decide), fun u1 n1 => ⟨u1, n, _, rfl, rfl, upd_same, by omega, by omega, ?_, fun u2 n2 => ?_⟩⟩
  · show 1 * n ≤ sizeLine
    exact Nat.le_of_lt (small1000 (by omega))
  · exact h _ _ ((same_upd n1).trans (same_upd n2)) (by rw [upd_same, Int.toNat_natCast, flat_rep])
theorem st_cat {l b : Addr} {xs zs : List V} (h1 : H l = some (.lst xs)) (h2 : H b = some (.lst zs)) (hn : xs.length + zs.length ≤ 900) (h : ∀ p H', Same H H' → H' p = some (.lst (xs ++ zs)) → Q (.ref p) H') : rCat (.ref l) (.ref b) H Q :=
  ⟨l, b, xs, zs, rfl, rfl, h1, h2, Nat.le_of_lt (small1000 (by omega)), fun p hp => h _ _ (same_upd hp) upd_same⟩
theorem st_l1 {v : V} (h : ∀ p H', Same H H' → H' p = some (.lst [v]) → Q (.ref p) H') : tLst (tCons (tC v) tNil) σ H Q :=
  ⟨(by show 1 ≤ sizeLine; decide), fun p hp => h _ _ (same_upd hp) upd_same⟩
theorem st_t2 {i j : Nat} {v u : V} (hv : σ[i]? = some (some v)) (hu : σ[j]? = some (some u)) (h : ∀ p t H', Same H H' → H' t = some (.tup [v, u]) → H' p = some (.lst [.ref t]) → Q (.ref p) H') : tLst (tCons (tTup (tCons (tVar i) (tCons (tVar j) tNil))) tNil) σ H Q :=
  ⟨v, hv, u, hu, (by show 2 ≤ sizeLine; decide), fun t nt => ⟨(by show 1 ≤ sizeLine; decide), fun p hp => h _ _ _ ((same_upd nt).trans (same_upd hp)) (same_upd hp _ _ upd_same) upd_same⟩⟩
end
structure Facts (K : PySem.W.Frag) (c : CA) (one two : V) (H : Hp) (vs : List V) (ss : List ES) : Prop where
  A : Acc K H vs ss
  E : Paired (EntOk K one two) ss kEarly
  Q : ss.map (·.2.1) = qEarly
  C : ss.map (·.1) = c.early
  g1 : Eqd H 2 one one
  g2 : Eqd H 2 two two
theorem Facts.same {K : PySem.W.Frag} {c : CA} {one two : V} {H H' : Hp} {vs : List V} {ss : List ES} (h : Facts K c one two H vs ss) (s : Same H H') : Facts K c one two H' vs ss := ⟨h.A.same s, h.E, h.Q, h.C, h.g1.mono s, h.g2.mono s⟩
/-- a row of a code and a field -/
def RowD (one two : V) (qs : List Str) (ks : List Nat) (D : Addr) : Nat → Hp → V → Prop := fun j H w => ∀ (q : Str) (k : Nat), qs[j]? = some q → ks[j]? = some k → ∃ (a : Addr) (x : V), a ≠ D ∧ w = .ref a ∧ H a = some (.lst [.str q, x]) ∧ Due one two H k x
theorem rowd_st {one two : V} {qs : List Str} {ks : List Nat} {D : Addr} : Stable D (RowD one two qs ks D) := fun j v H H' ws hD kp r q k hq hk => by
  obtain ⟨a, x, na, rfl, ha, d⟩ := r q k hq hk
  exact ⟨a, x, na, rfl, kp _ _ na ha, d.keep kp hD⟩
def RowP (one two : V) (H : Hp) (p : Str × Nat) (w : V) : Prop := ∃ (a : Addr) (x : V), w = .ref a ∧ H a = some (.lst [.str p.1, x]) ∧ Due one two H p.2 x
theorem RowP.same {one two : V} {H H' : Hp} {p : Str × Nat} {w : V} (s : Same H H') (h : RowP one two H p w) : RowP one two H' p w := by
  obtain ⟨a, x, e, ha, d⟩ := h
  exact ⟨a, x, e, s _ _ ha, d.same s⟩
theorem rowd_all {one two : V} {qs : List Str} {ks : List Nat} {D : Addr} {H : Hp} {ws : List V} {n : Nat} (h1 : ws.length = n) (h2 : qs.length = n) (h3 : ks.length = n) (h : ∀ j v, ws[j]? = some v → RowD one two qs ks D j H v) : Paired (RowP one two H) (qs.zip ks) ws :=
  paired_at (by simp; omega) fun j p v hp hv => by
    rw [List.getElem?_zip_eq_some] at hp
    obtain ⟨a, x, _, e, ha, d⟩ := h j v hv p.1 p.2 hp.1 hp.2
    exact ⟨a, x, e, ha, d⟩
theorem rows_eq {one two : V} {H : Hp} (g1 : Eqd H 2 one one) (g2 : Eqd H 2 two two) : ∀ {ps : List (Str × Nat)} {xs ys : List V}, Paired (RowP one two H) ps xs → Paired (RowP one two H) ps ys → Paired (Eqd H 4) xs ys
  | _, _, _, .nil, .nil => .nil
  | _, _, _, .cons ⟨a, x, e, ha, d⟩ t, .cons ⟨b, y, e', hb, d'⟩ t' => by
    subst e
    subst e'
    exact .cons (Eqd.lst ha hb (by show 2 ≤ 1000; decide) (.cons (Eqd.leaf True.intro) (.cons (Due.eqd g1 g2 d d') .nil))) (rows_eq g1 g2 t t')
/-- all the same -/
def RAll (x : V) : Nat → Hp → V → Prop := fun _ _ v => v = x
theorem rall_st {x : V} {D : Addr} : Stable D (RAll x) := fun _ _ _ _ _ _ _ r => r
theorem rall_rep {x : V} {H0 H : Hp} {D : Addr} {n : Nat} (h : LcI H0 D (RAll x) n H) : H D = some (.lst (List.replicate n x)) := by
  obtain ⟨ws, hl, e, all⟩ := h.ex
  rw [e, List.eq_replicate_iff.mpr ⟨hl, fun v hv => by
    obtain ⟨j, hj⟩ := List.getElem?_of_mem hv
    exact all j v hj⟩]
/-- what a late value tells -/
structure EntL (K : PySem.W.Frag) (s : ES) (x : V) : Prop where
  ex : ∃ (a b : V) (k : Nat), EntOk K a b s k ∧ ∀ H y, Due a b H k y → y = x
def RowX (qs : List Str) (xs : List V) (D : Addr) : Nat → Hp → V → Prop := fun j H w => ∀ (q : Str) (x : V), qs[j]? = some q → xs[j]? = some x → ∃ a : Addr, a ≠ D ∧ w = .ref a ∧ H a = some (.lst [.str q, x])
theorem rowx_st {qs : List Str} {xs : List V} {D : Addr} : Stable D (RowX qs xs D) := fun j v H H' ws hD kp r q x hq hx => by
  obtain ⟨a, na, rfl, ha⟩ := r q x hq hx
  exact ⟨a, na, rfl, kp _ _ na ha⟩
abbrev kBool : List (List Bool) := [[true, true, false, false, false], [true, true, false, false, false], [false, true, true, false, false]]
def RowB (D : Addr) : Nat → Hp → V → Prop := fun j H w => ∀ bs, kBool[j]? = some bs → ∃ a : Addr, a ≠ D ∧ w = .ref a ∧ H a = some (.lst (bs.map V.bl))
theorem rowb_st {D : Addr} : Stable D (RowB D) := fun j v H H' ws hD kp r bs hb => by
  obtain ⟨a, na, rfl, ha⟩ := r bs hb
  exact ⟨a, na, rfl, kp _ _ na ha⟩
theorem cut_at {vs : List V} {l n i : Nat} {v : V} (h : ((vs.drop l).take n)[i]? = some v) : i < n ∧ vs[l + i]? = some v := by
  rw [List.getElem?_take] at h
  split at h
  · rename_i hi
    rw [List.getElem?_drop] at h
    exact ⟨hi, h⟩
  · cases h
theorem mem_cut {l : List Addr} {a n i : Nat} {C : Addr} (h : l[a + i]? = some C) (hi : i < n) : C ∈ (l.drop a).take n := List.mem_of_getElem? (i := i) (by rw [List.getElem?_take, if_pos hi, List.getElem?_drop]; exact h)
def spLaw (K : PySem.W.Frag) : Sp := fun vs H Q _ => ∃ (a : Addr) (ns : List Int), vs = [.ref a] ∧ SqL K H a (ns.map V.int) ∧ ns.length ≤ 63 ∧ ∀ H', Q (.bl true) H'
section
variable {P : Program} {w : World} {K : PySem.W.Frag} {mg : Str → Option Value} {base : Heap} {c : CA} {f : Addr} {fd : FuncData}
theorem ok_law (T : Tb P K mg c) (F : Fun K "law" "law" s_law f fd) (B : Blt mg) (G_l_bag : Has P w K mg base 1 "_law_bag" ["_law_script"] (spBag K)) (G_l_draw : Has P w K mg base 1 "_law_draw" ["_law_bag_here", "_law_many"] spDraw)
    (G_l_pick : Has P w K mg base 2 "_law_pick" ["_law_bag_here", "_law_some"] (spPick K)) (G_l_odd : Has P w K mg base 3 "_law_odd" ["_law_bag_here"] spOdd)
    (G_l_field : Has P w K mg base 1 "_law_field" ["_law_e"] (spFieldV K)) (G_l_same : Has P w K mg base 5 "_law_same" ["_law_found", "_law_due"] (spSame 5)) (G_l_by_word : Has P w K mg base 5 "_law_by_word" ["_law_one", "_law_two"] spWord) :
    FnOk P w K mg base CX0 6 f fd ["_law_script"] (spLaw K) := by
  refine F.ok sc_law (fun vs H Q E h => ?_) (fun cdv A outer s H vs Q E hr h => ?_)
  · obtain ⟨a, t, rfl, _⟩ := h
    rfl
  obtain ⟨a, ns, rfl, hS, hl, q⟩ := h
  refine ⟨_, (pss_cons (ps_set (i := 1) sc_law.nd rfl (Or.inl rfl) (pe_own G_l_bag (hr.mono (by decide)) (by rfl) (pa_cons (pv 0) pa_nil)))
      (C8.pss_cut (ps_par (i := 2) (j := 3) rfl sc_law.nd rfl rfl (by decide) rfl rfl (pa_cons (pe_own G_l_pick (hr.mono (by decide)) (by rfl) (pa_cons (pv 1) (pa_cons (pe_lst (pa_cons (pe_own G_l_odd (hr.mono (by decide)) (by rfl) (pa_cons (pv 1) pa_nil)) (pa_cons (pe_own G_l_draw (hr.mono (by decide)) (by rfl) (pa_cons (pv 1) (pa_cons pe_int pa_nil))) pa_nil))) pa_nil))) (pa_cons (pe_own G_l_odd (hr.mono (by decide)) (by rfl) (pa_cons (pv 1) pa_nil)) pa_nil)) rfl)
      (C8.pss_cut (ps_set (i := 4) sc_law.nd rfl (Or.inl rfl) (pe_lst (pa_cons (pe_mkV T.E_InvalidNumber hr (by rfl) (pa_cons (pv 2) pa_nil) rfl) (pa_cons (pe_mkV T.E_InvalidThing hr (by rfl) (pa_cons (pv 2) pa_nil) rfl) (pa_cons (pe_mkV T.E_InvalidRing hr (by rfl) (pa_cons (pv 2) pa_nil) rfl) (pa_cons (pe_mkV T.E_InvalidTable hr (by rfl) (pa_cons (pv 2) pa_nil) rfl) (pa_cons (pe_mkV T.E_InvalidName hr (by rfl) (pa_cons (pv 2) pa_nil) rfl) (pa_cons (pe_mkV T.E_InvalidTerm hr (by rfl) (pa_cons (pv 2) pa_nil) rfl) (pa_cons (pe_mkV T.E_InvalidHead hr (by rfl) (pa_cons (pv 2) pa_nil) rfl) (pa_cons (pe_mkV T.E_InvalidStep hr (by rfl) (pa_cons (pv 2) (pa_cons (pv 3) pa_nil)) rfl) (pa_cons (pe_mkV T.E_InvalidText hr (by rfl) (pa_cons (pv 2) pa_nil) rfl) (pa_cons (pe_mkV T.E_InvalidLine hr (by rfl) (pa_cons (pv 2) pa_nil) rfl) (pa_cons (pe_mkV T.E_InvalidProduct hr (by rfl) (pa_cons (pv 2) pa_nil) rfl) (pa_cons (pe_mkV T.E_InvalidOrder hr (by rfl) (pa_cons (pv 2) pa_nil) rfl) (pa_cons (pe_mkV T.E_InvalidCommand hr (by rfl) (pa_cons (pv 2) pa_nil) rfl) (pa_cons (pe_mkV T.E_DegreeTooHigh hr (by rfl) (pa_cons (pv 2) pa_nil) rfl) (pa_cons (pe_mkV T.E_NoInverse hr (by rfl) (pa_cons (pv 2) pa_nil) rfl) (pa_cons (pe_mkV0 T.E_NotCommuting hr (by rfl)) (pa_cons (pe_mkV T.E_NotWhole hr (by rfl) (pa_cons (pv 2) pa_nil) rfl) (pa_cons (pe_mkV T.E_NotStraight hr (by rfl) (pa_cons (pv 2) pa_nil) rfl) (pa_cons (pe_mkV T.E_NoUnit hr (by rfl) (pa_cons (pv 2) pa_nil) rfl) (pa_cons (pe_mkV T.E_Unused hr (by rfl) (pa_cons (pv 2) pa_nil) rfl) (pa_cons (pe_mkV T.E_WrongCount hr (by rfl) (pa_cons (pv 2) pa_nil) rfl) (pa_cons (pe_mkV T.E_TooMany hr (by rfl) (pa_cons (pv 2) pa_nil) rfl) (pa_cons (pe_mkV T.E_TooGreat hr (by rfl) (pa_cons (pv 2) pa_nil) rfl) (pa_cons (pe_mkV0 T.E_EmptyRealm hr (by rfl)) (pa_cons (pe_mkV T.E_Unsound hr (by rfl) (pa_cons (pv 2) pa_nil) rfl) (pa_cons (pe_mkV T.E_DuplicateName hr (by rfl) (pa_cons (pv 2) pa_nil) rfl) (pa_cons (pe_mkV T.E_InUse hr (by rfl) (pa_cons (pv 2) pa_nil) rfl) (pa_cons (pe_mkV T.E_Broken hr (by rfl) (pa_cons (pv 2) pa_nil) rfl) (pa_cons (pe_mkV T.E_Full hr (by rfl) (pa_cons (pv 2) pa_nil) rfl) pa_nil)))))))))))))))))))))))))))))))
      (C8.pss_cut (ps_set (i := 5) sc_law.nd rfl (Or.inr rfl) (pe_lst (pa_cons pe_str (pa_cons pe_str (pa_cons pe_str (pa_cons pe_str (pa_cons pe_str (pa_cons pe_str (pa_cons pe_str (pa_cons pe_str (pa_cons pe_str (pa_cons pe_str (pa_cons pe_str (pa_cons pe_str (pa_cons pe_str (pa_cons pe_str (pa_cons pe_str (pa_cons pe_str (pa_cons pe_str (pa_cons pe_str (pa_cons pe_str (pa_cons pe_str (pa_cons pe_str (pa_cons pe_str (pa_cons pe_str (pa_cons pe_str (pa_cons pe_str (pa_cons pe_str (pa_cons pe_str (pa_cons pe_str (pa_cons pe_str pa_nil)))))))))))))))))))))))))))))))
      (C8.pss_cut (ps_set (i := 6) sc_law.nd rfl (Or.inr rfl) (pe_op op_cat (pe_op op_cat (pe_op op_cat (pe_op op_cat (pe_op op_cat (pe_op op_cat (pe_op op_rep (pe_lst (pa_cons (pv 2) pa_nil)) pe_int) (pe_lst (pa_cons (pe_tup (pa_cons (pv 2) (pa_cons (pv 3) pa_nil))) pa_nil))) (pe_op op_rep (pe_lst (pa_cons (pv 2) pa_nil)) pe_int)) (pe_lst (pa_cons pe_non pa_nil))) (pe_op op_rep (pe_lst (pa_cons (pv 2) pa_nil)) pe_int)) (pe_lst (pa_cons pe_non pa_nil))) (pe_op op_rep (pe_lst (pa_cons (pv 2) pa_nil)) pe_int)))
      (C8.pss_cut (ps_if (pt_not (pt_val (pe_own G_l_same (hr.mono (by decide)) (by rfl) (pa_cons (pe_lc (own := [("_law_e", 7)]) (g := gName 7) (tt := tYes) (by rfl) sc_law.nd (pi_list (pv 4)) (blkOk_by (own := [("_law_e", 7)]) (N := N_law) (sc := defScope s_law) (by decide +kernel)) (fun _ _ _ _ _ => (pg_name (i := 7) sc_law.nd rfl (Or.inl rfl))) (fun _ _ _ _ _ => pts_nil) (fun _ _ _ _ _ => (pe_lst (pa_cons (pe_vg (K := K) (pv 7)) (pa_cons (pe_own G_l_field (hr.mono (by decide)) (by rfl) (pa_cons (pv 7) pa_nil)) pa_nil))))) (pa_cons (pe_lc (own := [("_law_k", 8)]) (g := gName 8) (tt := tYes) (by rfl) sc_law.nd (pi_range1 (by rfl) B.range (pa_cons pe_int pa_nil)) (blkOk_by (own := [("_law_k", 8)]) (N := N_law) (sc := defScope s_law) (by decide +kernel)) (fun _ _ _ _ _ => (pg_name (i := 8) sc_law.nd rfl (Or.inl rfl))) (fun _ _ _ _ _ => pts_nil) (fun _ _ _ _ _ => (pe_lst (pa_cons (pe_ix (LcN.ix_listK K rfl) (pv 5) (pv 8) (fun _ _ => rfl)) (pa_cons (pe_ix (LcN.ix_listK K rfl) (pv 6) (pv 8) (fun _ _ => rfl)) pa_nil))))) pa_nil)))))
        (pss_one (ps_ret pe_bl))
        pss_nil)
      (C8.pss_cut (ps_if (pt_not (pt_val (pe_callB (cr_all rfl) (by rfl) B.all bb_all (pa_cons (pe_lc (own := [("_law_e", 7)]) (g := gName 7) (tt := tYes) (by rfl) sc_law.nd (pi_list (pv 4)) (blkOk_by (own := [("_law_e", 7)]) (N := N_law) (sc := defScope s_law) (by decide +kernel)) (fun _ _ _ _ _ => (pg_name (i := 7) sc_law.nd rfl (Or.inl rfl))) (fun _ _ _ _ _ => pts_nil) (fun _ _ _ _ _ => (pe_and (pe_callB (call_isVK K rfl) (by rfl) B.isinstance bb_isinstance (pa_cons (pv 7) (pa_cons (pe_gref T.m_RingError (by rfl)) pa_nil))) (pe_and (pe_callB (call_isVK K rfl) (by rfl) B.isinstance bb_isinstance (pa_cons (pv 7) (pa_cons (pe_bltn (v := .ty "ValueError") (by rfl) B.ValueError bb_ValueError rfl) pa_nil))) (pe_and (pe_not (pe_callB (call_isVK K rfl) (by rfl) B.isinstance bb_isinstance (pa_cons (pv 7) (pa_cons (pe_gref T.m_Missing (by rfl)) pa_nil)))) (pe_one (pe_not (pe_callB (call_isVK K rfl) (by rfl) B.isinstance bb_isinstance (pa_cons (pv 7) (pa_cons (pe_gref T.m_NothingLeft (by rfl)) pa_nil)))))))))) pa_nil))))
        (pss_one (ps_ret pe_bl))
        pss_nil)
      (C8.pss_cut (ps_set (i := 9) sc_law.nd rfl (Or.inl rfl) (pe_lst (pa_cons (pe_mkV T.E_UnknownName hr (by rfl) (pa_cons (pv 2) pa_nil) rfl) (pa_cons (pe_mkV T.E_UnknownNumber hr (by rfl) (pa_cons (pv 3) pa_nil) rfl) (pa_cons (pe_mkV0 T.E_NothingLeft hr (by rfl)) pa_nil)))))
      (C8.pss_cut (ps_if (pt_not (pt_val (pe_own G_l_same (hr.mono (by decide)) (by rfl) (pa_cons (pe_lc (own := [("_law_e", 7)]) (g := gName 7) (tt := tYes) (by rfl) sc_law.nd (pi_list (pv 9)) (blkOk_by (own := [("_law_e", 7)]) (N := N_law) (sc := defScope s_law) (by decide +kernel)) (fun _ _ _ _ _ => (pg_name (i := 7) sc_law.nd rfl (Or.inl rfl))) (fun _ _ _ _ _ => pts_nil) (fun _ _ _ _ _ => (pe_lst (pa_cons (pe_vg (K := K) (pv 7)) (pa_cons (pe_own G_l_field (hr.mono (by decide)) (by rfl) (pa_cons (pv 7) pa_nil)) pa_nil))))) (pa_cons (pe_lst (pa_cons (pe_lst (pa_cons pe_str (pa_cons (pv 2) pa_nil))) (pa_cons (pe_lst (pa_cons pe_str (pa_cons (pv 3) pa_nil))) (pa_cons (pe_lst (pa_cons pe_str (pa_cons pe_non pa_nil))) pa_nil)))) pa_nil)))))
        (pss_one (ps_ret pe_bl))
        pss_nil)
      (C8.pss_cut (ps_setLc (i := 10) (own := [("_law_e", 7)]) (g := gName 7) (tt := tYes) (by rfl) sc_law.nd rfl rfl (sw_true rfl rfl rfl (by decide +kernel)) (pi_list (pv 9)) (blkOk_by (own := [("_law_e", 7)]) (N := N_law) (sc := defScope s_law) (by decide +kernel)) (fun _ _ _ _ _ => (pg_name (i := 7) sc_law.nd rfl (Or.inl rfl))) (fun _ _ _ _ _ => pts_nil) (fun _ _ _ _ _ => (pe_lst (pa_cons (pe_callB (call_isVK K rfl) (by rfl) B.isinstance bb_isinstance (pa_cons (pv 7) (pa_cons (pe_gref T.m_Missing (by rfl)) pa_nil))) (pa_cons (pe_callB (call_isVK K rfl) (by rfl) B.isinstance bb_isinstance (pa_cons (pv 7) (pa_cons (pe_bltn (v := .ty "LookupError") (by rfl) B.LookupError bb_LookupError rfl) pa_nil))) (pa_cons (pe_callB (call_isVK K rfl) (by rfl) B.isinstance bb_isinstance (pa_cons (pv 7) (pa_cons (pe_bltn (v := .ty "IndexError") (by rfl) B.IndexError bb_IndexError rfl) pa_nil))) (pa_cons (pe_callB (call_isVK K rfl) (by rfl) B.isinstance bb_isinstance (pa_cons (pv 7) (pa_cons (pe_gref T.m_RingError (by rfl)) pa_nil))) (pa_cons (pe_callB (call_isVK K rfl) (by rfl) B.isinstance bb_isinstance (pa_cons (pv 7) (pa_cons (pe_bltn (v := .ty "ValueError") (by rfl) B.ValueError bb_ValueError rfl) pa_nil))) pa_nil))))))))
      (C8.pss_cut (ps_if (pt_not (pt_val (pe_own G_l_same (hr.mono (by decide)) (by rfl) (pa_cons (pv 10) (pa_cons (pe_lst (pa_cons (pe_lst (pa_cons pe_bl (pa_cons pe_bl (pa_cons pe_bl (pa_cons pe_bl (pa_cons pe_bl pa_nil)))))) (pa_cons (pe_lst (pa_cons pe_bl (pa_cons pe_bl (pa_cons pe_bl (pa_cons pe_bl (pa_cons pe_bl pa_nil)))))) (pa_cons (pe_lst (pa_cons pe_bl (pa_cons pe_bl (pa_cons pe_bl (pa_cons pe_bl (pa_cons pe_bl pa_nil)))))) pa_nil)))) pa_nil)))))
        (pss_one (ps_ret pe_bl))
        pss_nil)
      (C8.pss_cut (ps_set (i := 11) sc_law.nd rfl (Or.inl rfl) (pe_op op_cat (pe_op op_cat (pe_op op_cat (pe_op op_cat (pe_lc (own := [("_law_e", 7)]) (g := gName 7) (tt := tYes) (by rfl) sc_law.nd (pi_list (pe_slice sl_list (pv 4) (po_some pe_int) po_none)) (blkOk_by (own := [("_law_e", 7)]) (N := N_law) (sc := defScope s_law) (by decide +kernel)) (fun _ _ _ _ _ => (pg_name (i := 7) sc_law.nd rfl (Or.inl rfl))) (fun _ _ _ _ _ => pts_nil) (fun _ _ _ _ _ => (pe_callB (call_isVK K rfl) (by rfl) B.isinstance bb_isinstance (pa_cons (pv 7) (pa_cons (pe_gref T.m_InvalidNumber (by rfl)) pa_nil))))) (pe_lc (own := [("_law_e", 7)]) (g := gName 7) (tt := tYes) (by rfl) sc_law.nd (pi_list (pe_slice sl_list (pv 4) po_none (po_some pe_int))) (blkOk_by (own := [("_law_e", 7)]) (N := N_law) (sc := defScope s_law) (by decide +kernel)) (fun _ _ _ _ _ => (pg_name (i := 7) sc_law.nd rfl (Or.inl rfl))) (fun _ _ _ _ _ => pts_nil) (fun _ _ _ _ _ => (pe_callB (call_isVK K rfl) (by rfl) B.isinstance bb_isinstance (pa_cons (pv 7) (pa_cons (pe_gref T.m_InvalidText (by rfl)) pa_nil)))))) (pe_lc (own := [("_law_e", 7)]) (g := gName 7) (tt := tYes) (by rfl) sc_law.nd (pi_list (pe_slice sl_list (pv 4) po_none (po_some pe_int))) (blkOk_by (own := [("_law_e", 7)]) (N := N_law) (sc := defScope s_law) (by decide +kernel)) (fun _ _ _ _ _ => (pg_name (i := 7) sc_law.nd rfl (Or.inl rfl))) (fun _ _ _ _ _ => pts_nil) (fun _ _ _ _ _ => (pe_callB (call_isVK K rfl) (by rfl) B.isinstance bb_isinstance (pa_cons (pv 7) (pa_cons (pe_gref T.m_Full (by rfl)) pa_nil)))))) (pe_lc (own := [("_law_e", 7)]) (g := gName 7) (tt := tYes) (by rfl) sc_law.nd (pi_list (pe_slice sl_list (pv 4) (po_some pe_int) po_none)) (blkOk_by (own := [("_law_e", 7)]) (N := N_law) (sc := defScope s_law) (by decide +kernel)) (fun _ _ _ _ _ => (pg_name (i := 7) sc_law.nd rfl (Or.inl rfl))) (fun _ _ _ _ _ => pts_nil) (fun _ _ _ _ _ => (pe_callB (call_isVK K rfl) (by rfl) B.isinstance bb_isinstance (pa_cons (pv 7) (pa_cons (pe_gref T.m_TooMany (by rfl)) pa_nil)))))) (pe_lst (pa_cons (pe_callB (call_isVK K rfl) (by rfl) B.isinstance bb_isinstance (pa_cons (pe_ix ix_list (pv 9) pe_int (fun _ _ => rfl)) (pa_cons (pe_gref T.m_UnknownNumber (by rfl)) pa_nil))) (pa_cons (pe_callB (call_isVK K rfl) (by rfl) B.isinstance bb_isinstance (pa_cons (pe_ix ix_list (pv 9) pe_int (fun _ _ => rfl)) (pa_cons (pe_gref T.m_UnknownName (by rfl)) pa_nil))) pa_nil)))))
      (pss_one (ps_ret (pe_and (pe_cmpR op_notIn_seq pe_bl (pv 11) rfl) (pe_one (pe_own G_l_by_word (hr.mono (by decide)) (by rfl) (pa_cons (pv 2) (pa_cons (pv 3) pa_nil))))))))))))))))))), ?_⟩
  refine ⟨_, rfl, _, _, rfl, hS, hl, fun b cc H1 s1 nb B1 => ?_⟩
  refine ⟨fun σ H => ∃ (b : Addr) (one two : V), σ = [some (.ref a), some (.ref b), some one, some two, none, none, none, none, none, none, none, none] ∧ Eqd H 2 two two ∧ Eqd H 2 one one, ?_, ?_⟩
  refine ⟨_, rfl, _, rfl, b, cc, rfl, B1, fun o1 H2 k2 B2 od2 => ?_⟩
  refine ⟨_, rfl, b, cc, 99, rfl, B2, by decide, by decide, fun i3 H3 i0 i1 k3 B3 => ?_⟩
  refine ⟨(by show 2 ≤ sizeLine; decide), fun l4 n4 => ?_⟩
  have s4 := same_upd (o := .lst [o1, .int i3]) n4
  have e4 : upd H3 l4 (.lst [o1, .int i3]) l4 = some (.lst [o1, .int i3]) := upd_same
  generalize upd H3 l4 (.lst [o1, .int i3]) = H4 at *
  refine ⟨b, cc, .ref l4, rfl, B3.same s4, .inl ⟨l4, _, rfl, B3.ne_new n4, e4, by simp, (by show 2 ≤ 1000; decide), fun one H5 hm k5 B5 => ?_⟩⟩
  refine ⟨_, rfl, b, cc, rfl, B5, fun two H6 k6 B6 od6 => ⟨_, _, rfl, ?_⟩⟩
  refine ⟨b, one, two, rfl, odd_eqd od6, ?_⟩
  rcases List.mem_cons.mp hm with rfl | hm
  · exact odd_eqd ((((od2.kp k3).kp (Kp.of s4)).kp k5).kp k6)
  · cases List.mem_singleton.mp hm
    exact Eqd.leaf True.intro
  -- the errors
  rintro σ H6 ⟨b, one, two, rfl, g2, g1⟩
  refine ⟨fun σ H => ∃ (p1 : Addr) (vs : List V) (ss : List ES), σ = [some (.ref a), some (.ref b), some one, some two, some (.ref p1), none, none, none, none, none, none, none] ∧ H p1 = some (.lst vs) ∧ Facts K c one two H vs ss, ?_, ?_⟩
  · have s0 : Same H6 H6 := Same.refl H6
    have A0 : Acc K H6 [] [] := .nil
    dsimp only [tAsg, tLst, tCons, tNil, gName]
    refine st_mk s0 A0 (fun R r => ⟨_, rfl, r⟩) rfl fun v1 H1 s0 A0 => ?_
    refine st_mk s0 A0 (fun R r => ⟨_, rfl, r⟩) rfl fun v2 H2 s0 A0 => ?_
    refine st_mk s0 A0 (fun R r => ⟨_, rfl, r⟩) rfl fun v3 H3 s0 A0 => ?_
    refine st_mk s0 A0 (fun R r => ⟨_, rfl, r⟩) rfl fun v4 H4 s0 A0 => ?_
    refine st_mk s0 A0 (fun R r => ⟨_, rfl, r⟩) rfl fun v5 H5 s0 A0 => ?_
    refine st_mk s0 A0 (fun R r => ⟨_, rfl, r⟩) rfl fun v6 H6 s0 A0 => ?_
    refine st_mk s0 A0 (fun R r => ⟨_, rfl, r⟩) rfl fun v7 H7 s0 A0 => ?_
    refine st_mk s0 A0 (fun R r => ⟨_, rfl, _, rfl, r⟩) rfl fun v8 H8 s0 A0 => ?_
    refine st_mk s0 A0 (fun R r => ⟨_, rfl, r⟩) rfl fun v9 H9 s0 A0 => ?_
    refine st_mk s0 A0 (fun R r => ⟨_, rfl, r⟩) rfl fun v10 H10 s0 A0 => ?_
    refine st_mk s0 A0 (fun R r => ⟨_, rfl, r⟩) rfl fun v11 H11 s0 A0 => ?_
    refine st_mk s0 A0 (fun R r => ⟨_, rfl, r⟩) rfl fun v12 H12 s0 A0 => ?_
    refine st_mk s0 A0 (fun R r => ⟨_, rfl, r⟩) rfl fun v13 H13 s0 A0 => ?_
    refine st_mk s0 A0 (fun R r => ⟨_, rfl, r⟩) rfl fun v14 H14 s0 A0 => ?_
    refine st_mk s0 A0 (fun R r => ⟨_, rfl, r⟩) rfl fun v15 H15 s0 A0 => ?_
    refine st_mk (xs := []) s0 A0 (fun R r => r) rfl fun v16 H16 s0 A0 => ?_
    refine st_mk s0 A0 (fun R r => ⟨_, rfl, r⟩) rfl fun v17 H17 s0 A0 => ?_
    refine st_mk s0 A0 (fun R r => ⟨_, rfl, r⟩) rfl fun v18 H18 s0 A0 => ?_
    refine st_mk s0 A0 (fun R r => ⟨_, rfl, r⟩) rfl fun v19 H19 s0 A0 => ?_
    refine st_mk s0 A0 (fun R r => ⟨_, rfl, r⟩) rfl fun v20 H20 s0 A0 => ?_
    refine st_mk s0 A0 (fun R r => ⟨_, rfl, r⟩) rfl fun v21 H21 s0 A0 => ?_
    refine st_mk s0 A0 (fun R r => ⟨_, rfl, r⟩) rfl fun v22 H22 s0 A0 => ?_
    refine st_mk s0 A0 (fun R r => ⟨_, rfl, r⟩) rfl fun v23 H23 s0 A0 => ?_
    refine st_mk (xs := []) s0 A0 (fun R r => r) rfl fun v24 H24 s0 A0 => ?_
    refine st_mk s0 A0 (fun R r => ⟨_, rfl, r⟩) rfl fun v25 H25 s0 A0 => ?_
    refine st_mk s0 A0 (fun R r => ⟨_, rfl, r⟩) rfl fun v26 H26 s0 A0 => ?_
    refine st_mk s0 A0 (fun R r => ⟨_, rfl, r⟩) rfl fun v27 H27 s0 A0 => ?_
    refine st_mk s0 A0 (fun R r => ⟨_, rfl, r⟩) rfl fun v28 H28 s0 A0 => ?_
    refine st_mk s0 A0 (fun R r => ⟨_, rfl, r⟩) rfl fun v29 H29 s0 A0 => ?_
    refine ⟨by show 29 ≤ sizeLine; decide, fun p1 hp1 => ?_⟩
    have z1 := same_upd (o := .lst [v1, v2, v3, v4, v5, v6, v7, v8, v9, v10, v11, v12, v13, v14, v15, v16, v17, v18, v19, v20, v21, v22, v23, v24, v25, v26, v27, v28, v29]) hp1
    obtain ⟨sr, hA, hE, hQ, hC⟩ : ∃ sr, Acc K (upd H29 p1 (.lst [v1, v2, v3, v4, v5, v6, v7, v8, v9, v10, v11, v12, v13, v14, v15, v16, v17, v18, v19, v20, v21, v22, v23, v24, v25, v26, v27, v28, v29])) [v29, v28, v27, v26, v25, v24, v23, v22, v21, v20, v19, v18, v17, v16, v15, v14, v13, v12, v11, v10, v9, v8, v7, v6, v5, v4, v3, v2, v1] sr ∧ Paired (EntOk K one two) sr kEarly.reverse ∧ sr.map (·.2.1) = qEarly.reverse ∧ sr.map (·.1) = c.early.reverse := ⟨_, A0.same z1, .cons (ent1 T.U_Full rfl rfl) (.cons (ent1 T.U_Broken rfl rfl) (.cons (ent1 T.U_InUse rfl rfl) (.cons (ent1 T.U_DuplicateName rfl rfl) (.cons (ent1 T.U_Unsound rfl rfl) (.cons (ent0 T.U_EmptyRealm rfl) (.cons (ent1 T.U_TooGreat rfl rfl) (.cons (ent1 T.U_TooMany rfl rfl) (.cons (ent1 T.U_WrongCount rfl rfl) (.cons (ent1 T.U_Unused rfl rfl) (.cons (ent1 T.U_NoUnit rfl rfl) (.cons (ent1 T.U_NotStraight rfl rfl) (.cons (ent1 T.U_NotWhole rfl rfl) (.cons (ent0 T.U_NotCommuting rfl) (.cons (ent1 T.U_NoInverse rfl rfl) (.cons (ent1 T.U_DegreeTooHigh rfl rfl) (.cons (ent1 T.U_InvalidCommand rfl rfl) (.cons (ent1 T.U_InvalidOrder rfl rfl) (.cons (ent1 T.U_InvalidProduct rfl rfl) (.cons (ent1 T.U_InvalidLine rfl rfl) (.cons (ent1 T.U_InvalidText rfl rfl) (.cons (ent2 T.U_InvalidStep) (.cons (ent1 T.U_InvalidHead rfl rfl) (.cons (ent1 T.U_InvalidTerm rfl rfl) (.cons (ent1 T.U_InvalidName rfl rfl) (.cons (ent1 T.U_InvalidTable rfl rfl) (.cons (ent1 T.U_InvalidRing rfl rfl) (.cons (ent1 T.U_InvalidThing rfl rfl) (.cons (ent1 T.U_InvalidNumber rfl rfl) (.nil))))))))))))))))))))))))))))), rfl, rfl⟩
    have s1 := s0.trans z1
    exact ⟨p1, _, _, rfl, upd_same, ⟨paired_rev hA, paired_rev hE, by rw [List.map_reverse, hQ, List.reverse_reverse], by rw [List.map_reverse, hC, List.reverse_reverse], g1.mono s1, g2.mono s1⟩⟩
  rintro σ H1 ⟨p1, vs, ss, rfl, y1, Fc⟩
  refine ⟨fun σ H => ∃ p2 : Addr, σ = [some (.ref a), some (.ref b), some one, some two, some (.ref p1), some (.ref p2), none, none, none, none, none, none] ∧ H p1 = some (.lst vs) ∧ Facts K c one two H vs ss ∧ H p2 = some (.lst (qEarly.map V.str)), ?_, ?_⟩
  · refine ⟨(by show 29 ≤ sizeLine; decide), fun p2 hp2 => ⟨p2, rfl, same_upd hp2 _ _ y1, Fc.same (same_upd hp2), upd_same⟩⟩
  rintro σ H2 ⟨p2, rfl, y1, Fc, y2⟩
  refine ⟨fun σ H => ∃ (p3 : Addr) (fl : List V), σ = [some (.ref a), some (.ref b), some one, some two, some (.ref p1), some (.ref p2), some (.ref p3), none, none, none, none, none] ∧ H p1 = some (.lst vs) ∧ Facts K c one two H vs ss ∧ H p2 = some (.lst (qEarly.map V.str)) ∧ H p3 = some (.lst fl) ∧ fl.length = 29 ∧ Paired (Due one two H) kEarly fl, ?_, ?_⟩
  · dsimp only [tAsg, tOp, gName]
    refine st_rep 7 rfl (by decide) fun u2 Z2 a2 x2 => ?_
    refine st_t2 rfl rfl fun u4 u3 Z4 a4 tu x4 => ?_
    refine st_cat (a4 _ _ x2) x4 (by show 8 ≤ 900; decide) fun u5 Z5 a5 x5 => ?_
    refine st_rep 7 rfl (by decide) fun u7 Z7 a7 x7 => ?_
    refine st_cat (a7 _ _ x5) x7 (by show 15 ≤ 900; decide) fun u8 Z8 a8 x8 => ?_
    refine st_l1 fun u9 Z9 a9 x9 => ?_
    refine st_cat (a9 _ _ x8) x9 (by show 16 ≤ 900; decide) fun u10 Z10 a10 x10 => ?_
    refine st_rep 7 rfl (by decide) fun u12 Z12 a12 x12 => ?_
    refine st_cat (a12 _ _ x10) x12 (by show 23 ≤ 900; decide) fun u13 Z13 a13 x13 => ?_
    refine st_l1 fun u14 Z14 a14 x14 => ?_
    refine st_cat (a14 _ _ x13) x14 (by show 24 ≤ 900; decide) fun u15 Z15 a15 x15 => ?_
    refine st_rep 5 rfl (by decide) fun u17 Z17 a17 x17 => ?_
    refine st_cat (a17 _ _ x15) x17 (by show 29 ≤ 900; decide) fun u18 Z18 a18 x18 => ?_
    have b5 : Same Z4 Z18 := a5.trans (a7.trans (a8.trans (a9.trans (a10.trans (a12.trans (a13.trans (a14.trans (a15.trans (a17.trans a18)))))))))
    have b0 : Same H2 Z18 := a2.trans (a4.trans b5)
    have x' : Z18 u18 = some (.lst [one, one, one, one, one, one, one, .ref u3, one, one, one, one, one, one, one, .non, one, one, one, one, one, one, one, .non, one, one, one, one, one]) := x18
    refine ⟨u18, _, rfl, b0 _ _ y1, Fc.same b0, b0 _ _ y2, x', rfl, ?_⟩
    iterate 7 refine .cons rfl ?_
    refine .cons ⟨u3, rfl, b5 _ _ tu⟩ ?_
    iterate 21 refine .cons rfl ?_
    exact .nil
  rintro σ H3 ⟨p3, fl, rfl, y1, Fc, y2, y3, hfl, df⟩
  have lss : ss.length = 29 := paired_ln Fc.E
  have lvs : vs.length = 29 := Fc.A.len.trans lss
  -- the codes and fields
  refine ⟨fun σ H => σ = [some (.ref a), some (.ref b), some one, some two, some (.ref p1), some (.ref p2), some (.ref p3), none, none, none, none, none] ∧ H p1 = some (.lst vs) ∧ Facts K c one two H vs ss, ?_, ?_⟩
  · refine ⟨_, rfl, p1, rfl, ⟨_, SqL.of y1⟩, fun D hD => ?_⟩
    refine lc_it (walk_list (xs := vs)) (LcI H3 D (RowD one two qEarly kEarly D)) (LcI.start hD) (fun i H' _ h => SqL.of (h.same _ _ y1)) ?_ ?_
    · rintro i v Ha Hb hi h ⟨rfl, hv⟩
      obtain ⟨sp, hsp⟩ : ∃ sp, ss[i]? = some sp := ⟨_, List.getElem?_eq_getElem (by omega)⟩
      obtain ⟨k, hk⟩ : ∃ k, kEarly[i]? = some k := ⟨_, List.getElem?_eq_getElem (by show i < 29; omega)⟩
      have en := paired_ix Fc.E hsp hk
      have qi : qEarly[i]? = some sp.2.1 := by rw [← Fc.Q, List.getElem?_map, hsp]; rfl
      obtain ⟨e, d, rfl, he, hd⟩ := ((Fc.A.get hv hsp).same h.same).ex
      obtain ⟨ws0, _, eD, _⟩ := h.ex
      refine ⟨rfl, tYes_ok ⟨_, rfl, e, sp.1, d, _, .str sp.2.1, rfl, he, en.xf, en.noC, hd, (by simp [List.lookup]), _, rfl, .ref e, sp.1, sp.2.1, sp.2.2, rfl, ⟨e, d, rfl, he, hd⟩, en.xf, en.noC, fres_of en.ok fun x H' sx fx => ⟨(by show 2 ≤ sizeLine; decide), fun p hp => ?_⟩⟩⟩
      refine LcI.next rowd_st h hD (by omega) (sx.trans (same_upd hp)) (fun q k' hq hk' => ?_)
      rw [qi] at hq
      cases hq
      rw [hk] at hk'
      cases hk'
      exact ⟨p, x, (ne_of_none (sx _ _ eD) hp).symm, rfl, upd_same, (en.due _ _ fx).same (same_upd hp)⟩
    rintro Hz hz
    obtain ⟨ws, hl, eD, all⟩ := hz.ex
    have r1 : Paired (RowP one two Hz) (qEarly.zip kEarly) ws := rowd_all (n := 29) (by omega) rfl rfl all
    refine ⟨29, rfl, by decide, by decide, fun D2 hD2 => ?_⟩
    refine lc_it walk_range (LcI Hz D2 (RowD one two qEarly kEarly D2)) (LcI.start hD2) (fun _ _ _ _ => True.intro) ?_ ?_
    · rintro i v Ha Hb hi h ⟨rfl, rfl⟩
      have hi : i < 29 := hi
      have sA := hz.same.trans h.same
      obtain ⟨q0, hq0⟩ : ∃ q, qEarly[i]? = some q := ⟨_, List.getElem?_eq_getElem (by show i < 29; omega)⟩
      obtain ⟨f0, hf0⟩ : ∃ f, fl[i]? = some f := ⟨_, List.getElem?_eq_getElem (by omega)⟩
      obtain ⟨ws0, _, eD2, _⟩ := h.ex
      refine ⟨rfl, tYes_ok ⟨_, rfl, _, rfl, p2, _, _, .str q0, rfl, rfl, SqL.of (sA _ _ y2), at_ofG (j := i) (by omega) (by rw [List.getElem?_map, hq0]; rfl), _, rfl, _, rfl, p3, _, _, f0, rfl, rfl, SqL.of (sA _ _ y3), at_ofG (j := i) (by omega) hf0, (by show 2 ≤ sizeLine; decide), fun p hp => ?_⟩⟩
      refine LcI.next rowd_st h hD2 (by omega) (same_upd hp) (fun q k' hq hk' => ?_)
      rw [hq0] at hq
      cases hq
      exact ⟨p, f0, (ne_of_none eD2 hp).symm, rfl, upd_same, (paired_ix df hk' hf0).same (sA.trans (same_upd hp))⟩
    rintro Hy hy
    obtain ⟨ws2, hl2, eD2, all2⟩ := hy.ex
    have r2 : Paired (RowP one two Hy) (qEarly.zip kEarly) ws2 := rowd_all (n := 29) (by omega) rfl rfl all2
    have sA : Same H3 Hy := hz.same.trans hy.same
    refine ⟨.ref D, .ref D2, rfl, Eqd.lst (hy.same _ _ eD) eD2 (by omega) (rows_eq (Fc.g1.mono sA) (Fc.g2.mono sA) (Paired.mapP r1 fun p w h => h.same hy.same) r2), fun H' s' => ⟨_, rfl, iteF ?_⟩⟩
    exact ⟨rfl, (sA.trans s') _ _ y1, Fc.same (sA.trans s')⟩
  rintro σ H4 ⟨rfl, y1, Fc⟩
  have same4 : ∀ C ∈ c.early, True := fun _ _ => trivial
  -- their classes
  refine ⟨fun σ H => σ = [some (.ref a), some (.ref b), some one, some two, some (.ref p1), some (.ref p2), some (.ref p3), none, none, none, none, none] ∧ H p1 = some (.lst vs) ∧ Facts K c one two H vs ss, ?_, ?_⟩
  · refine ⟨_, rfl, p1, rfl, ⟨_, SqL.of y1⟩, fun D hD => ?_⟩
    refine lc_it (walk_list (xs := vs)) (LcI H4 D (RAll (.bl true))) (LcI.start hD) (fun i H' _ h => SqL.of (h.same _ _ y1)) ?_ ?_
    · rintro i v Ha Hb hi h ⟨rfl, hv⟩
      obtain ⟨sp, hsp⟩ : ∃ sp, ss[i]? = some sp := ⟨_, List.getElem?_eq_getElem (by omega)⟩
      obtain ⟨k, hk⟩ : ∃ k, kEarly[i]? = some k := ⟨_, List.getElem?_eq_getElem (by show i < 29; omega)⟩
      have en := paired_ix Fc.E hsp hk
      have cm : c.early[i]? = some sp.1 := by rw [← Fc.C, List.getElem?_map, hsp]; rfl
      obtain ⟨e, d, rfl, he, hd⟩ := ((Fc.A.get hv hsp).same h.same).ex
      have cm' := List.mem_of_getElem? cm
      refine ⟨rfl, tYes_ok ?_⟩
      refine ⟨_, rfl, e, sp.1, d, .ref c.RingError, _, true, rfl, he, ⟨_, hd⟩, en.ec, .own _, kits_ok T.kt.e1 cm', _, rfl, iteT ?_⟩
      refine ⟨_, rfl, e, sp.1, d, .ty "ValueError", _, true, rfl, he, ⟨_, hd⟩, en.ec, .ty _, kits_ok T.kt.e2 cm', _, rfl, iteT ?_⟩
      refine ⟨_, rfl, e, sp.1, d, .ref c.Missing, _, false, rfl, he, ⟨_, hd⟩, en.ec, .own _, kits_ok T.kt.e3 cm', _, rfl, _, rfl, iteT ?_⟩
      exact ⟨_, rfl, e, sp.1, d, .ref c.NothingLeft, _, false, rfl, he, ⟨_, hd⟩, en.ec, .own _, kits_ok T.kt.e4 cm', _, rfl, LcI.next rall_st h hD (by omega) (Same.refl _) rfl⟩
    rintro Hz hz
    have xz := rall_rep hz
    refine ⟨D, List.replicate vs.length true, rfl, SqL.of (by rw [xz, List.map_replicate]), ?_⟩
    rw [show (List.replicate vs.length true).all id = true by simp]
    exact ⟨_, rfl, iteF ⟨rfl, hz.same _ _ y1, Fc.same hz.same⟩⟩
  rintro σ H5 ⟨rfl, y1, Fc⟩
  -- the late ones
  obtain ⟨sl, hsl⟩ : ∃ sl : List ES, sl = [(c.UnknownName, ("UnknownName" : Str), ([("name" : Str)].zip [one]).reverse ++ []), (c.UnknownNumber, ("UnknownNumber" : Str), ([("number" : Str)].zip [two]).reverse ++ []), (c.NothingLeft, ("NothingLeft" : Str), (([] : List Str).zip ([] : List V)).reverse ++ [])] := ⟨_, rfl⟩
  have eL : Paired (EntL K) sl [one, two, .non] := by
    rw [hsl]
    exact .cons ⟨one, one, 1, ent1 T.U_UnknownName rfl rfl, fun _ _ h => h⟩ (.cons ⟨two, two, 1, ent1 T.U_UnknownNumber rfl rfl, fun _ _ h => h⟩ (.cons ⟨one, one, 0, ent0 T.U_NothingLeft rfl, fun _ _ h => h⟩ .nil))
  refine ⟨fun σ H => ∃ (p6 : Addr) (vl : List V), σ = [some (.ref a), some (.ref b), some one, some two, some (.ref p1), some (.ref p2), some (.ref p3), none, none, some (.ref p6), none, none] ∧ H p1 = some (.lst vs) ∧ Facts K c one two H vs ss ∧ H p6 = some (.lst vl) ∧ Acc K H vl sl, ?_, ?_⟩
  · have s0 : Same H5 H5 := Same.refl H5
    have A0 : Acc K H5 [] [] := .nil
    dsimp only [tAsg, tLst, tCons, tNil, gName]
    refine st_mk s0 A0 (fun R r => ⟨_, rfl, r⟩) rfl fun w1 G1 s0 A0 => ?_
    refine st_mk s0 A0 (fun R r => ⟨_, rfl, r⟩) rfl fun w2 G2 s0 A0 => ?_
    refine st_mk (xs := []) s0 A0 (fun R r => r) rfl fun w3 G3 s0 A0 => ?_
    refine ⟨by show 3 ≤ sizeLine; decide, fun p6 hp6 => ?_⟩
    have z1 := same_upd (o := .lst [w1, w2, w3]) hp6
    have s1 := s0.trans z1
    exact ⟨p6, _, rfl, s1 _ _ y1, Fc.same s1, upd_same, by rw [hsl]; exact paired_rev (A0.same z1)⟩
  rintro σ H6 ⟨p6, vl, rfl, y1, Fc, y6, AL⟩
  have lsl : sl.length = 3 := by rw [hsl]; rfl
  have lvl : vl.length = 3 := AL.len.trans lsl
  refine ⟨fun σ H => σ = [some (.ref a), some (.ref b), some one, some two, some (.ref p1), some (.ref p2), some (.ref p3), none, none, some (.ref p6), none, none] ∧ H p1 = some (.lst vs) ∧ Facts K c one two H vs ss ∧ H p6 = some (.lst vl) ∧ Acc K H vl sl, ?_, ?_⟩
  · refine ⟨_, rfl, p6, rfl, ⟨_, SqL.of y6⟩, fun D hD => ?_⟩
    refine lc_it (walk_list (xs := vl)) (LcI H6 D (RowX ["UnknownName", "UnknownNumber", "NothingLeft"] [one, two, .non] D)) (LcI.start hD) (fun i H' _ h => SqL.of (h.same _ _ y6)) ?_ ?_
    · rintro i v Ha Hb hi h ⟨rfl, hv⟩
      have hi3 : i < 3 := by omega
      obtain ⟨sp, hsp⟩ : ∃ sp, sl[i]? = some sp := ⟨_, List.getElem?_eq_getElem (by omega)⟩
      obtain ⟨x0, hx0⟩ : ∃ x, [one, two, V.non][i]? = some x := ⟨_, List.getElem?_eq_getElem (by show i < 3; omega)⟩
      obtain ⟨o1, o2, k, en, dn⟩ := (paired_ix eL hsp hx0).ex
      have qi : ([("UnknownName" : Str), "UnknownNumber", "NothingLeft"])[i]? = some sp.2.1 := by
        rw [hsl] at hsp
        match i, hi3, hsp with
        | 0, _, hsp => cases hsp; rfl
        | 1, _, hsp => cases hsp; rfl
        | 2, _, hsp => cases hsp; rfl
      obtain ⟨e, d, rfl, he, hd⟩ := ((AL.get hv hsp).same h.same).ex
      obtain ⟨ws0, _, eD, _⟩ := h.ex
      refine ⟨rfl, tYes_ok ⟨_, rfl, e, sp.1, d, _, .str sp.2.1, rfl, he, en.xf, en.noC, hd, (by simp [List.lookup]), _, rfl, .ref e, sp.1, sp.2.1, sp.2.2, rfl, ⟨e, d, rfl, he, hd⟩, en.xf, en.noC, fres_of en.ok fun x H' sx fx => ⟨(by show 2 ≤ sizeLine; decide), fun p hp => ?_⟩⟩⟩
      refine LcI.next rowx_st h hD (by omega) (sx.trans (same_upd hp)) (fun q x' hq hx' => ?_)
      rw [qi] at hq
      cases hq
      rw [hx0] at hx'
      cases hx'
      exact ⟨p, (ne_of_none (sx _ _ eD) hp).symm, rfl, by rw [upd_same, dn _ _ (en.due _ _ fx)]⟩
    rintro Hz hz
    obtain ⟨ws, hl, eD, all⟩ := hz.ex
    match ws, hl.trans lvl, eD, all with
    | [w1, w2, w3], _, eD, all =>
    obtain ⟨a1, _, rfl, ha1⟩ := all 0 _ rfl _ _ rfl rfl
    obtain ⟨a2, _, rfl, ha2⟩ := all 1 _ rfl _ _ rfl rfl
    obtain ⟨a3, _, rfl, ha3⟩ := all 2 _ rfl _ _ rfl rfl
    refine ⟨_, rfl, (by show 2 ≤ sizeLine; decide), fun t1 n1 => ⟨_, rfl, (by show 2 ≤ sizeLine; decide), fun t2 n2 => ⟨(by show 2 ≤ sizeLine; decide), fun t3 n3 => ⟨(by show 3 ≤ sizeLine; decide), fun t4 n4 => ?_⟩⟩⟩⟩
    have b1 := same_upd (o := .lst [.str "UnknownName", one]) n1
    have b2 := same_upd (o := .lst [.str "UnknownNumber", two]) n2
    have b3 := same_upd (o := .lst [.str "NothingLeft", .non]) n3
    have b4 := same_upd (o := .lst [.ref t1, .ref t2, .ref t3]) n4
    have b14 := b1.trans (b2.trans (b3.trans b4))
    have sA := hz.same.trans b14
    have G1 := Fc.g1.mono sA
    have G2 := Fc.g2.mono sA
    refine ⟨.ref D, .ref t4, rfl, Eqd.lst (b14 _ _ eD) upd_same (by show 3 ≤ 1000; decide) (.cons (Eqd.lst (b14 _ _ ha1) (b2.trans (b3.trans b4) _ _ upd_same) (by show 2 ≤ 1000; decide) (.cons (Eqd.leaf True.intro) (.cons G1.up .nil))) (.cons (Eqd.lst (b14 _ _ ha2) (b3.trans b4 _ _ upd_same) (by show 2 ≤ 1000; decide) (.cons (Eqd.leaf True.intro) (.cons G2.up .nil))) (.cons (Eqd.lst (b14 _ _ ha3) (b4 _ _ upd_same) (by show 2 ≤ 1000; decide) (.cons (Eqd.leaf True.intro) (.cons (Eqd.leaf True.intro) .nil))) .nil))), fun H' s' => ⟨_, rfl, iteF ?_⟩⟩
    have sB := sA.trans s'
    exact ⟨rfl, sB _ _ y1, Fc.same sB, sB _ _ y6, AL.same sB⟩
  rintro σ H7 ⟨rfl, y1, Fc, y6, AL⟩
  -- the kinds of the late ones
  refine ⟨fun σ H => ∃ p8 : Addr, σ = [some (.ref a), some (.ref b), some one, some two, some (.ref p1), some (.ref p2), some (.ref p3), none, none, some (.ref p6), some (.ref p8), none] ∧ H p1 = some (.lst vs) ∧ Facts K c one two H vs ss ∧ H p6 = some (.lst vl) ∧ Acc K H vl sl ∧ ∃ a1 a2 a3 : Addr, H p8 = some (.lst [.ref a1, .ref a2, .ref a3]) ∧ H a1 = some (.lst [.bl true, .bl true, .bl false, .bl false, .bl false]) ∧ H a2 = some (.lst [.bl true, .bl true, .bl false, .bl false, .bl false]) ∧ H a3 = some (.lst [.bl false, .bl true, .bl true, .bl false, .bl false]), ?_, ?_⟩
  · refine ⟨_, rfl, p6, rfl, ⟨_, SqL.of y6⟩, fun D hD => ?_⟩
    refine lc_it (walk_list (xs := vl)) (LcI H7 D (RowB D)) (LcI.start hD) (fun i H' _ h => SqL.of (h.same _ _ y6)) ?_ ?_
    · rintro i v Ha Hb hi h ⟨rfl, hv⟩
      have hi3 : i < 3 := by omega
      obtain ⟨sp, hsp⟩ : ∃ sp, sl[i]? = some sp := ⟨_, List.getElem?_eq_getElem (by omega)⟩
      obtain ⟨x0, hx0⟩ : ∃ x, [one, two, V.non][i]? = some x := ⟨_, List.getElem?_eq_getElem (by show i < 3; omega)⟩
      obtain ⟨o1, o2, k, en, dn⟩ := (paired_ix eL hsp hx0).ex
      obtain ⟨bs, k1, k2, k3, k4, k5, hbs⟩ : ∃ b1 b2 b3 b4 b5 : Bool, ∃ bs, bs = [b1, b2, b3, b4, b5] ∧ kBool[i]? = some bs ∧ PySem.W.kitOne K (.ref sp.1) (.ref c.Missing) = some b1 ∧ PySem.W.kitOne K (.ref sp.1) (.type "LookupError") = some b2 ∧ PySem.W.kitOne K (.ref sp.1) (.type "IndexError") = some b3 ∧ PySem.W.kitOne K (.ref sp.1) (.ref c.RingError) = some b4 ∧ PySem.W.kitOne K (.ref sp.1) (.type "ValueError") = some b5 := by
        rw [hsl] at hsp
        match i, hi3, hsp with
        | 0, _, hsp => cases hsp; exact ⟨_, _, _, _, _, _, rfl, rfl, kits_ok T.kt.l1 (by simp), kits_ok T.kt.l3 (by simp [CA.late]), kits_ok T.kt.l4 (by simp), kits_ok T.kt.l6 (by simp [CA.late]), kits_ok T.kt.l7 (by simp [CA.late])⟩
        | 1, _, hsp => cases hsp; exact ⟨_, _, _, _, _, _, rfl, rfl, kits_ok T.kt.l1 (by simp), kits_ok T.kt.l3 (by simp [CA.late]), kits_ok T.kt.l4 (by simp), kits_ok T.kt.l6 (by simp [CA.late]), kits_ok T.kt.l7 (by simp [CA.late])⟩
        | 2, _, hsp => cases hsp; exact ⟨_, _, _, _, _, _, rfl, rfl, kits_ok T.kt.l2 (by simp), kits_ok T.kt.l3 (by simp [CA.late]), kits_ok T.kt.l5 (by simp), kits_ok T.kt.l6 (by simp [CA.late]), kits_ok T.kt.l7 (by simp [CA.late])⟩
      obtain ⟨hbb, hkb, m1, m2, m3, m4, m5⟩ := hbs
      obtain ⟨e, d, rfl, he, hd⟩ := ((AL.get hv hsp).same h.same).ex
      obtain ⟨ws0, _, eD, _⟩ := h.ex
      refine ⟨rfl, tYes_ok ?_⟩
      refine ⟨_, rfl, e, sp.1, d, .ref c.Missing, _, bs, rfl, he, ⟨_, hd⟩, en.ec, .own _, m1, ?_⟩
      refine ⟨_, rfl, e, sp.1, d, .ty "LookupError", _, k1, rfl, he, ⟨_, hd⟩, en.ec, .ty _, m2, ?_⟩
      refine ⟨_, rfl, e, sp.1, d, .ty "IndexError", _, k2, rfl, he, ⟨_, hd⟩, en.ec, .ty _, m3, ?_⟩
      refine ⟨_, rfl, e, sp.1, d, .ref c.RingError, _, k3, rfl, he, ⟨_, hd⟩, en.ec, .own _, m4, ?_⟩
      refine ⟨_, rfl, e, sp.1, d, .ty "ValueError", _, k4, rfl, he, ⟨_, hd⟩, en.ec, .ty _, m5, ?_⟩
      refine ⟨(by show 5 ≤ sizeLine; decide), fun p hp => LcI.next rowb_st h hD (by omega) (same_upd hp) (fun bz hbz => ?_)⟩
      rw [hkb] at hbz
      cases hbz
      exact ⟨p, (ne_of_none eD hp).symm, rfl, by rw [upd_same, hbb]; rfl⟩
    rintro Hz hz
    obtain ⟨ws, hl, eD, all⟩ := hz.ex
    match ws, hl.trans lvl, eD, all with
    | [w1, w2, w3], _, eD, all =>
    obtain ⟨a1, _, rfl, ha1⟩ := all 0 _ rfl _ rfl
    obtain ⟨a2, _, rfl, ha2⟩ := all 1 _ rfl _ rfl
    obtain ⟨a3, _, rfl, ha3⟩ := all 2 _ rfl _ rfl
    exact ⟨D, rfl, hz.same _ _ y1, Fc.same hz.same, hz.same _ _ y6, AL.same hz.same, a1, a2, a3, eD, ha1, ha2, ha3⟩
  rintro σ H8 ⟨p8, rfl, y1, Fc, y6, AL, r1, r2, r3, y8, e1, e2, e3⟩
  refine ⟨fun σ H => σ = [some (.ref a), some (.ref b), some one, some two, some (.ref p1), some (.ref p2), some (.ref p3), none, none, some (.ref p6), some (.ref p8), none] ∧ H p1 = some (.lst vs) ∧ Facts K c one two H vs ss ∧ H p6 = some (.lst vl) ∧ Acc K H vl sl, ?_, ?_⟩
  · refine ⟨_, rfl, (by show 5 ≤ sizeLine; decide), fun t1 n1 => ⟨(by show 5 ≤ sizeLine; decide), fun t2 n2 => ⟨(by show 5 ≤ sizeLine; decide), fun t3 n3 => ⟨(by show 3 ≤ sizeLine; decide), fun t4 n4 => ?_⟩⟩⟩⟩
    have b1 := same_upd (o := .lst [.bl true, .bl true, .bl false, .bl false, .bl false]) n1
    have b2 := same_upd (o := .lst [.bl true, .bl true, .bl false, .bl false, .bl false]) n2
    have b3 := same_upd (o := .lst [.bl false, .bl true, .bl true, .bl false, .bl false]) n3
    have b4 := same_upd (o := .lst [.ref t1, .ref t2, .ref t3]) n4
    have b14 := b1.trans (b2.trans (b3.trans b4))
    have lv : ∀ {H : Hp} {x y z u v : Bool}, Paired (Eqd H 3) [.bl x, .bl y, .bl z, .bl u, .bl v] [.bl x, .bl y, .bl z, .bl u, .bl v] := .cons (Eqd.leaf True.intro) (.cons (Eqd.leaf True.intro) (.cons (Eqd.leaf True.intro) (.cons (Eqd.leaf True.intro) (.cons (Eqd.leaf True.intro) .nil))))
    refine ⟨.ref p8, .ref t4, rfl, Eqd.lst (b14 _ _ y8) upd_same (by show 3 ≤ 1000; decide) (.cons (Eqd.lst (b14 _ _ e1) (b2.trans (b3.trans b4) _ _ upd_same) (by show 5 ≤ 1000; decide) lv) (.cons (Eqd.lst (b14 _ _ e2) (b3.trans b4 _ _ upd_same) (by show 5 ≤ 1000; decide) lv) (.cons (Eqd.lst (b14 _ _ e3) (b4 _ _ upd_same) (by show 5 ≤ 1000; decide) lv) .nil))), fun H' s' => ⟨_, rfl, iteF ?_⟩⟩
    have sB := b14.trans s'
    exact ⟨rfl, sB _ _ y1, Fc.same sB, sB _ _ y6, AL.same sB⟩
  rintro σ H9 ⟨rfl, y1, Fc, y6, AL⟩
  -- other classes
  refine ⟨fun σ H => ∃ (p10 : Addr) (fs : List V), σ = [some (.ref a), some (.ref b), some one, some two, some (.ref p1), some (.ref p2), some (.ref p3), none, none, some (.ref p6), some (.ref p8), some (.ref p10)] ∧ Facts K c one two H vs ss ∧ H p10 = some (.lst fs) ∧ fs = List.replicate 73 (.bl false), ?_, ?_⟩
  · have a0 : Same H9 H9 := Same.refl _
    dsimp only [tAsg, tOp, gName]
    refine ⟨_, rfl, 1, rfl, p1, vs, rfl, SqL.of (a0 _ _ y1), fun q1 nq1 => ?_⟩
    have cq1 : (cutV vs (some 1) none) = ((vs.drop 1).take 28) := by unfold cutV; rw [lvs]; rfl
    rw [cq1]
    have bq1 := same_upd (o := .lst ((vs.drop 1).take 28)) nq1
    have xq1 : upd H9 q1 (.lst ((vs.drop 1).take 28)) q1 = some (.lst ((vs.drop 1).take 28)) := upd_same
    generalize upd H9 q1 (.lst ((vs.drop 1).take 28)) = Y1 at *
    have aq1 := a0.trans bq1
    refine ⟨q1, rfl, ⟨_, SqL.of xq1⟩, fun D1 nD1 => ?_⟩
    refine lc_it (walk_list (xs := ((vs.drop 1).take 28))) (LcI Y1 D1 (RAll (.bl false))) (LcI.start nD1) (fun i H' _ h => SqL.of (h.same _ _ xq1)) ?_ ?_
    · rintro i v Ha Hb hi h ⟨rfl, hv⟩
      obtain ⟨hi, hv⟩ := cut_at hv
      obtain ⟨sp, hsp⟩ : ∃ sp, ss[1 + i]? = some sp := ⟨_, List.getElem?_eq_getElem (by omega)⟩
      obtain ⟨k, hk⟩ : ∃ k, kEarly[1 + i]? = some k := ⟨_, List.getElem?_eq_getElem (by show 1 + i < 29; omega)⟩
      have en := paired_ix Fc.E hsp hk
      have cm : c.early[1 + i]? = some sp.1 := by rw [← Fc.C, List.getElem?_map, hsp]; rfl
      obtain ⟨e, d, rfl, he, hd⟩ := ((Fc.A.get hv hsp).same (aq1.trans h.same)).ex
      exact ⟨rfl, tYes_ok ⟨_, rfl, e, sp.1, d, .ref c.InvalidNumber, _, false, rfl, he, ⟨_, hd⟩, en.ec, .own _, kits_ok T.kt.f1 (by have z := mem_cut (n := 28) cm hi; rwa [List.take_of_length_le (by show 28 ≤ 28; decide)] at z), LcI.next rall_st h nD1 (by omega) (Same.refl _) rfl⟩⟩
    rintro Z1 hz1
    have x1 : Z1 D1 = some (.lst (List.replicate 28 (.bl false))) := by
      have z := rall_rep hz1
      rwa [show ((vs.drop 1).take 28).length = 28 by rw [List.length_take, List.length_drop, lvs]; rfl] at z
    have a1 := aq1.trans hz1.same
    have c1 := bq1.trans hz1.same
    refine ⟨_, rfl, 8, rfl, p1, vs, rfl, SqL.of (a1 _ _ y1), fun q2 nq2 => ?_⟩
    have cq2 : (cutV vs none (some 8)) = ((vs.drop 0).take 8) := by unfold cutV; rw [lvs]; rfl
    rw [cq2]
    have bq2 := same_upd (o := .lst ((vs.drop 0).take 8)) nq2
    have xq2 : upd Z1 q2 (.lst ((vs.drop 0).take 8)) q2 = some (.lst ((vs.drop 0).take 8)) := upd_same
    generalize upd Z1 q2 (.lst ((vs.drop 0).take 8)) = Y2 at *
    have aq2 := a1.trans bq2
    refine ⟨q2, rfl, ⟨_, SqL.of xq2⟩, fun D2 nD2 => ?_⟩
    refine lc_it (walk_list (xs := ((vs.drop 0).take 8))) (LcI Y2 D2 (RAll (.bl false))) (LcI.start nD2) (fun i H' _ h => SqL.of (h.same _ _ xq2)) ?_ ?_
    · rintro i v Ha Hb hi h ⟨rfl, hv⟩
      obtain ⟨hi, hv⟩ := cut_at hv
      obtain ⟨sp, hsp⟩ : ∃ sp, ss[0 + i]? = some sp := ⟨_, List.getElem?_eq_getElem (by omega)⟩
      obtain ⟨k, hk⟩ : ∃ k, kEarly[0 + i]? = some k := ⟨_, List.getElem?_eq_getElem (by show 0 + i < 29; omega)⟩
      have en := paired_ix Fc.E hsp hk
      have cm : c.early[0 + i]? = some sp.1 := by rw [← Fc.C, List.getElem?_map, hsp]; rfl
      obtain ⟨e, d, rfl, he, hd⟩ := ((Fc.A.get hv hsp).same (aq2.trans h.same)).ex
      exact ⟨rfl, tYes_ok ⟨_, rfl, e, sp.1, d, .ref c.InvalidText, _, false, rfl, he, ⟨_, hd⟩, en.ec, .own _, kits_ok T.kt.f2 (mem_cut (a := 0) cm hi), LcI.next rall_st h nD2 (by omega) (Same.refl _) rfl⟩⟩
    rintro Z2 hz2
    have x2 : Z2 D2 = some (.lst (List.replicate 8 (.bl false))) := by
      have z := rall_rep hz2
      rwa [show ((vs.drop 0).take 8).length = 8 by rw [List.length_take, List.length_drop, lvs]; rfl] at z
    have a2 := aq2.trans hz2.same
    have c2 := bq2.trans hz2.same
    refine st_cat (c2 _ _ x1) x2 (by show 36 ≤ 900; decide) fun u1 U1 s1 xu1 => ?_
    have g1 := a2.trans s1
    refine ⟨_, rfl, 28, rfl, p1, vs, rfl, SqL.of (g1 _ _ y1), fun q3 nq3 => ?_⟩
    have cq3 : (cutV vs none (some 28)) = ((vs.drop 0).take 28) := by unfold cutV; rw [lvs]; rfl
    rw [cq3]
    have bq3 := same_upd (o := .lst ((vs.drop 0).take 28)) nq3
    have xq3 : upd U1 q3 (.lst ((vs.drop 0).take 28)) q3 = some (.lst ((vs.drop 0).take 28)) := upd_same
    generalize upd U1 q3 (.lst ((vs.drop 0).take 28)) = Y3 at *
    have aq3 := g1.trans bq3
    refine ⟨q3, rfl, ⟨_, SqL.of xq3⟩, fun D3 nD3 => ?_⟩
    refine lc_it (walk_list (xs := ((vs.drop 0).take 28))) (LcI Y3 D3 (RAll (.bl false))) (LcI.start nD3) (fun i H' _ h => SqL.of (h.same _ _ xq3)) ?_ ?_
    · rintro i v Ha Hb hi h ⟨rfl, hv⟩
      obtain ⟨hi, hv⟩ := cut_at hv
      obtain ⟨sp, hsp⟩ : ∃ sp, ss[0 + i]? = some sp := ⟨_, List.getElem?_eq_getElem (by omega)⟩
      obtain ⟨k, hk⟩ : ∃ k, kEarly[0 + i]? = some k := ⟨_, List.getElem?_eq_getElem (by show 0 + i < 29; omega)⟩
      have en := paired_ix Fc.E hsp hk
      have cm : c.early[0 + i]? = some sp.1 := by rw [← Fc.C, List.getElem?_map, hsp]; rfl
      obtain ⟨e, d, rfl, he, hd⟩ := ((Fc.A.get hv hsp).same (aq3.trans h.same)).ex
      exact ⟨rfl, tYes_ok ⟨_, rfl, e, sp.1, d, .ref c.Full, _, false, rfl, he, ⟨_, hd⟩, en.ec, .own _, kits_ok T.kt.f3 (mem_cut (a := 0) cm hi), LcI.next rall_st h nD3 (by omega) (Same.refl _) rfl⟩⟩
    rintro Z3 hz3
    have x3 : Z3 D3 = some (.lst (List.replicate 28 (.bl false))) := by
      have z := rall_rep hz3
      rwa [show ((vs.drop 0).take 28).length = 28 by rw [List.length_take, List.length_drop, lvs]; rfl] at z
    have a3 := aq3.trans hz3.same
    have c3 := bq3.trans hz3.same
    refine st_cat (c3 _ _ xu1) x3 (by show 64 ≤ 900; decide) fun u2 U2 s2 xu2 => ?_
    have g2 := a3.trans s2
    refine ⟨_, rfl, 22, rfl, p1, vs, rfl, SqL.of (g2 _ _ y1), fun q4 nq4 => ?_⟩
    have cq4 : (cutV vs (some 22) none) = ((vs.drop 22).take 7) := by unfold cutV; rw [lvs]; rfl
    rw [cq4]
    have bq4 := same_upd (o := .lst ((vs.drop 22).take 7)) nq4
    have xq4 : upd U2 q4 (.lst ((vs.drop 22).take 7)) q4 = some (.lst ((vs.drop 22).take 7)) := upd_same
    generalize upd U2 q4 (.lst ((vs.drop 22).take 7)) = Y4 at *
    have aq4 := g2.trans bq4
    refine ⟨q4, rfl, ⟨_, SqL.of xq4⟩, fun D4 nD4 => ?_⟩
    refine lc_it (walk_list (xs := ((vs.drop 22).take 7))) (LcI Y4 D4 (RAll (.bl false))) (LcI.start nD4) (fun i H' _ h => SqL.of (h.same _ _ xq4)) ?_ ?_
    · rintro i v Ha Hb hi h ⟨rfl, hv⟩
      obtain ⟨hi, hv⟩ := cut_at hv
      obtain ⟨sp, hsp⟩ : ∃ sp, ss[22 + i]? = some sp := ⟨_, List.getElem?_eq_getElem (by omega)⟩
      obtain ⟨k, hk⟩ : ∃ k, kEarly[22 + i]? = some k := ⟨_, List.getElem?_eq_getElem (by show 22 + i < 29; omega)⟩
      have en := paired_ix Fc.E hsp hk
      have cm : c.early[22 + i]? = some sp.1 := by rw [← Fc.C, List.getElem?_map, hsp]; rfl
      obtain ⟨e, d, rfl, he, hd⟩ := ((Fc.A.get hv hsp).same (aq4.trans h.same)).ex
      exact ⟨rfl, tYes_ok ⟨_, rfl, e, sp.1, d, .ref c.TooMany, _, false, rfl, he, ⟨_, hd⟩, en.ec, .own _, kits_ok T.kt.f4 (by have z := mem_cut (n := 7) cm hi; rwa [List.take_of_length_le (by show 7 ≤ 7; decide)] at z), LcI.next rall_st h nD4 (by omega) (Same.refl _) rfl⟩⟩
    rintro Z4 hz4
    have x4 : Z4 D4 = some (.lst (List.replicate 7 (.bl false))) := by
      have z := rall_rep hz4
      rwa [show ((vs.drop 22).take 7).length = 7 by rw [List.length_take, List.length_drop, lvs]; rfl] at z
    have a4 := aq4.trans hz4.same
    have c4 := bq4.trans hz4.same
    refine st_cat (c4 _ _ xu2) x4 (by show 71 ≤ 900; decide) fun u3 U3 s3 xu3 => ?_
    have g3 := a4.trans s3
    obtain ⟨w0, hw0⟩ : ∃ w, vl[0]? = some w := ⟨_, List.getElem?_eq_getElem (by omega)⟩
    obtain ⟨w1, hw1⟩ : ∃ w, vl[1]? = some w := ⟨_, List.getElem?_eq_getElem (by omega)⟩
    have t0 : sl[0]? = some (c.UnknownName, ("UnknownName" : Str), ([("name" : Str)].zip [one]).reverse ++ []) := by rw [hsl]; rfl
    have t1 : sl[1]? = some (c.UnknownNumber, ("UnknownNumber" : Str), ([("number" : Str)].zip [two]).reverse ++ []) := by rw [hsl]; rfl
    obtain ⟨e0, d0, rfl, he0, hd0⟩ := ((AL.get hw0 t0).same g3).ex
    obtain ⟨e1, d1, rfl, he1, hd1⟩ := ((AL.get hw1 t1).same g3).ex
    refine ⟨_, rfl, p6, vl, 0, _, rfl, rfl, SqL.of (g3 _ _ y6), at_ofG (j := 0) rfl hw0, e0, c.UnknownName, d0, .ref c.UnknownNumber, _, false, rfl, he0, ⟨_, hd0⟩, T.U_UnknownName.ec, .own _, kits_ok T.kt.f5 (by simp), ?_⟩
    refine ⟨_, rfl, p6, vl, 1, _, rfl, rfl, SqL.of (g3 _ _ y6), at_ofG (j := 1) rfl hw1, e1, c.UnknownNumber, d1, .ref c.UnknownName, _, false, rfl, he1, ⟨_, hd1⟩, T.U_UnknownNumber.ec, .own _, kits_ok T.kt.f6 (by simp), ?_⟩
    refine ⟨(by show 2 ≤ sizeLine; decide), fun v5 n5 => ?_⟩
    have b5 := same_upd (o := .lst [.bl false, .bl false]) n5
    refine st_cat (b5 _ _ xu3) upd_same (by show 73 ≤ 900; decide) fun u4 U4 s4 xu4 => ?_
    have g4 := (g3.trans b5).trans s4
    exact ⟨u4, _, rfl, Fc.same g4, xu4, rfl⟩
  rintro σ Hf ⟨p10, fs, rfl, Fc, y10, hfs⟩
  subst hfs
  refine ⟨_, rfl, p10, _, rfl, .inl (SqL.of y10), rfl, rfl, _, rfl, ite_of (by decide +kernel) ?_⟩
  exact ⟨_, rfl, _, rfl, one, two, rfl, Fc.g1, Fc.g2, fun H' => q H'⟩
end
end My
namespace My
open PySem PySem.Spec PyProof.Rows L2
abbrev tail_ValueError : List Value := [.type "ValueError", .type "Exception", .type "BaseException", .type "object"]
abbrev tail_LookupError : List Value := [.type "LookupError", .type "Exception", .type "BaseException", .type "object"]
abbrev tail_IndexError : List Value := [.type "IndexError", .type "LookupError", .type "Exception", .type "BaseException", .type "object"]
def kitB (K : PySem.W.Frag) (c : CA) : Bool :=
  kits K c.early (.ref c.RingError) true && (kits K c.early (.type "ValueError") true && (kits K c.early (.ref c.Missing) false && (kits K c.early (.ref c.NothingLeft) false &&
  (kits K [c.UnknownName, c.UnknownNumber] (.ref c.Missing) true && (kits K [c.NothingLeft] (.ref c.Missing) false && (kits K c.late (.type "LookupError") true && (kits K [c.UnknownName, c.UnknownNumber] (.type "IndexError") false &&
  (kits K [c.NothingLeft] (.type "IndexError") true && (kits K c.late (.ref c.RingError) false && (kits K c.late (.type "ValueError") false && (kits K (c.early.drop 1) (.ref c.InvalidNumber) false && (kits K (c.early.take 8) (.ref c.InvalidText) false &&
  (kits K (c.early.take 28) (.ref c.Full) false && (kits K (c.early.drop 22) (.ref c.TooMany) false && (kits K [c.UnknownName] (.ref c.UnknownNumber) false && kits K [c.UnknownNumber] (.ref c.UnknownName) false)))))))))))))))
theorem kitB_ok {K : PySem.W.Frag} {c : CA} (h : kitB K c = true) : KitT K c := by
  unfold kitB at h
  simp only [Bool.and_eq_true] at h
  obtain ⟨h1, h2, h3, h4, h5, h6, h7, h8, h9, h10, h11, h12, h13, h14, h15, h16, h17⟩ := h
  exact ⟨h1, h2, h3, h4, h5, h6, h7, h8, h9, h10, h11, h12, h13, h14, h15, h16, h17⟩
theorem all_mk {l : PySem.W.OpenLaw} {w : World} {K : PySem.W.Frag} {h : Heap} {mg : Str → Option Value} {fa : Addr} (X : K.In h) (G : h.Ns mainGlobals mg) (hfa : mg "law" = some (.ref fa))
    {f1 : Addr} {od1 an1 : Option Addr} {sl1 : Array (Option Value)} {oc1 kV1 dc1 pm1 cd1 ct1 : Value} {f2 : Addr} {od2 an2 : Option Addr} {sl2 : Array (Option Value)} {oc2 kV2 dc2 pm2 cd2 ct2 : Value} {f3 : Addr} {od3 an3 : Option Addr} {sl3 : Array (Option Value)} {oc3 kV3 dc3 pm3 cd3 ct3 : Value} {f4 : Addr} {od4 an4 : Option Addr} {sl4 : Array (Option Value)} {oc4 kV4 dc4 pm4 cd4 ct4 : Value} {f5 : Addr} {od5 an5 : Option Addr} {sl5 : Array (Option Value)} {oc5 kV5 dc5 pm5 cd5 ct5 : Value} {f6 : Addr} {od6 an6 : Option Addr} {sl6 : Array (Option Value)} {oc6 kV6 dc6 pm6 cd6 ct6 : Value} {f7 : Addr} {od7 an7 : Option Addr} {sl7 : Array (Option Value)} {oc7 kV7 dc7 pm7 cd7 ct7 : Value} {f8 : Addr} {od8 an8 : Option Addr} {sl8 : Array (Option Value)} {oc8 kV8 dc8 pm8 cd8 ct8 : Value} {C_InvalidNumber f_InvalidNumber x_InvalidNumber d_InvalidNumber N_InvalidNumber : Addr} {nm_InvalidNumber qn_InvalidNumber ql_InvalidNumber fl_InvalidNumber : Str} {bsl_InvalidNumber bm_InvalidNumber sub_InvalidNumber : List Value} {sn_InvalidNumber : List Str} {ab_InvalidNumber : Bool} {col_InvalidNumber : Option Bool} {dd_InvalidNumber od_InvalidNumber an_InvalidNumber cdd_InvalidNumber cld_InvalidNumber : Option Addr} {v0_InvalidNumber v1_InvalidNumber v2_InvalidNumber v3_InvalidNumber v5_InvalidNumber : Option Value} {oc_InvalidNumber dc_InvalidNumber pm_InvalidNumber ct_InvalidNumber ccl_InvalidNumber cl_InvalidNumber : Value} {os_InvalidNumber ccs_InvalidNumber csl_InvalidNumber : Array (Option Value)} {vs_InvalidNumber : Array Value} {tf_InvalidNumber : Tok} {C_InvalidThing f_InvalidThing x_InvalidThing d_InvalidThing N_InvalidThing : Addr} {nm_InvalidThing qn_InvalidThing ql_InvalidThing fl_InvalidThing : Str} {bsl_InvalidThing bm_InvalidThing sub_InvalidThing : List Value} {sn_InvalidThing : List Str} {ab_InvalidThing : Bool} {col_InvalidThing : Option Bool} {dd_InvalidThing od_InvalidThing an_InvalidThing cdd_InvalidThing cld_InvalidThing : Option Addr} {v0_InvalidThing v1_InvalidThing v2_InvalidThing v3_InvalidThing v5_InvalidThing : Option Value} {oc_InvalidThing dc_InvalidThing pm_InvalidThing ct_InvalidThing ccl_InvalidThing cl_InvalidThing : Value} {os_InvalidThing ccs_InvalidThing csl_InvalidThing : Array (Option Value)} {vs_InvalidThing : Array Value} {tf_InvalidThing : Tok} {C_InvalidRing f_InvalidRing x_InvalidRing d_InvalidRing N_InvalidRing : Addr} {nm_InvalidRing qn_InvalidRing ql_InvalidRing fl_InvalidRing : Str} {bsl_InvalidRing bm_InvalidRing sub_InvalidRing : List Value} {sn_InvalidRing : List Str} {ab_InvalidRing : Bool} {col_InvalidRing : Option Bool} {dd_InvalidRing od_InvalidRing an_InvalidRing cdd_InvalidRing cld_InvalidRing : Option Addr} {v0_InvalidRing v1_InvalidRing v2_InvalidRing v3_InvalidRing v5_InvalidRing : Option Value} {oc_InvalidRing dc_InvalidRing pm_InvalidRing ct_InvalidRing ccl_InvalidRing cl_InvalidRing : Value} {os_InvalidRing ccs_InvalidRing csl_InvalidRing : Array (Option Value)} {vs_InvalidRing : Array Value} {tf_InvalidRing : Tok} {C_InvalidTable f_InvalidTable x_InvalidTable d_InvalidTable N_InvalidTable : Addr} {nm_InvalidTable qn_InvalidTable ql_InvalidTable fl_InvalidTable : Str} {bsl_InvalidTable bm_InvalidTable sub_InvalidTable : List Value} {sn_InvalidTable : List Str} {ab_InvalidTable : Bool} {col_InvalidTable : Option Bool} {dd_InvalidTable od_InvalidTable an_InvalidTable cdd_InvalidTable cld_InvalidTable : Option Addr} {v0_InvalidTable v1_InvalidTable v2_InvalidTable v3_InvalidTable v5_InvalidTable : Option Value} {oc_InvalidTable dc_InvalidTable pm_InvalidTable ct_InvalidTable ccl_InvalidTable cl_InvalidTable : Value} {os_InvalidTable ccs_InvalidTable csl_InvalidTable : Array (Option Value)} {vs_InvalidTable : Array Value} {tf_InvalidTable : Tok} {C_InvalidName f_InvalidName x_InvalidName d_InvalidName N_InvalidName : Addr} {nm_InvalidName qn_InvalidName ql_InvalidName fl_InvalidName : Str} {bsl_InvalidName bm_InvalidName sub_InvalidName : List Value} {sn_InvalidName : List Str} {ab_InvalidName : Bool} {col_InvalidName : Option Bool} {dd_InvalidName od_InvalidName an_InvalidName cdd_InvalidName cld_InvalidName : Option Addr} {v0_InvalidName v1_InvalidName v2_InvalidName v3_InvalidName v5_InvalidName : Option Value} {oc_InvalidName dc_InvalidName pm_InvalidName ct_InvalidName ccl_InvalidName cl_InvalidName : Value} {os_InvalidName ccs_InvalidName csl_InvalidName : Array (Option Value)} {vs_InvalidName : Array Value} {tf_InvalidName : Tok} {C_InvalidTerm f_InvalidTerm x_InvalidTerm d_InvalidTerm N_InvalidTerm : Addr} {nm_InvalidTerm qn_InvalidTerm ql_InvalidTerm fl_InvalidTerm : Str} {bsl_InvalidTerm bm_InvalidTerm sub_InvalidTerm : List Value} {sn_InvalidTerm : List Str} {ab_InvalidTerm : Bool} {col_InvalidTerm : Option Bool} {dd_InvalidTerm od_InvalidTerm an_InvalidTerm cdd_InvalidTerm cld_InvalidTerm : Option Addr} {v0_InvalidTerm v1_InvalidTerm v2_InvalidTerm v3_InvalidTerm v5_InvalidTerm : Option Value} {oc_InvalidTerm dc_InvalidTerm pm_InvalidTerm ct_InvalidTerm ccl_InvalidTerm cl_InvalidTerm : Value} {os_InvalidTerm ccs_InvalidTerm csl_InvalidTerm : Array (Option Value)} {vs_InvalidTerm : Array Value} {tf_InvalidTerm : Tok} {C_InvalidHead f_InvalidHead x_InvalidHead d_InvalidHead N_InvalidHead : Addr} {nm_InvalidHead qn_InvalidHead ql_InvalidHead fl_InvalidHead : Str} {bsl_InvalidHead bm_InvalidHead sub_InvalidHead : List Value} {sn_InvalidHead : List Str} {ab_InvalidHead : Bool} {col_InvalidHead : Option Bool} {dd_InvalidHead od_InvalidHead an_InvalidHead cdd_InvalidHead cld_InvalidHead : Option Addr} {v0_InvalidHead v1_InvalidHead v2_InvalidHead v3_InvalidHead v5_InvalidHead : Option Value} {oc_InvalidHead dc_InvalidHead pm_InvalidHead ct_InvalidHead ccl_InvalidHead cl_InvalidHead : Value} {os_InvalidHead ccs_InvalidHead csl_InvalidHead : Array (Option Value)} {vs_InvalidHead : Array Value} {tf_InvalidHead : Tok} {C_InvalidStep f_InvalidStep x_InvalidStep d_InvalidStep N_InvalidStep : Addr} {nm_InvalidStep qn_InvalidStep ql_InvalidStep fl_InvalidStep : Str} {bsl_InvalidStep bm_InvalidStep sub_InvalidStep : List Value} {sn_InvalidStep : List Str} {ab_InvalidStep : Bool} {col_InvalidStep : Option Bool} {dd_InvalidStep od_InvalidStep an_InvalidStep cdd_InvalidStep cld_InvalidStep : Option Addr} {v0_InvalidStep v1_InvalidStep v2_InvalidStep v3_InvalidStep v5_InvalidStep : Option Value} {oc_InvalidStep dc_InvalidStep pm_InvalidStep ct_InvalidStep ccl_InvalidStep cl_InvalidStep : Value} {os_InvalidStep ccs_InvalidStep csl_InvalidStep : Array (Option Value)} {vs_InvalidStep : Array Value} {tf_InvalidStep : Tok} {C_InvalidText f_InvalidText x_InvalidText d_InvalidText N_InvalidText : Addr} {nm_InvalidText qn_InvalidText ql_InvalidText fl_InvalidText : Str} {bsl_InvalidText bm_InvalidText sub_InvalidText : List Value} {sn_InvalidText : List Str} {ab_InvalidText : Bool} {col_InvalidText : Option Bool} {dd_InvalidText od_InvalidText an_InvalidText cdd_InvalidText cld_InvalidText : Option Addr} {v0_InvalidText v1_InvalidText v2_InvalidText v3_InvalidText v5_InvalidText : Option Value} {oc_InvalidText dc_InvalidText pm_InvalidText ct_InvalidText ccl_InvalidText cl_InvalidText : Value} {os_InvalidText ccs_InvalidText csl_InvalidText : Array (Option Value)} {vs_InvalidText : Array Value} {tf_InvalidText : Tok} {C_InvalidLine f_InvalidLine x_InvalidLine d_InvalidLine N_InvalidLine : Addr} {nm_InvalidLine qn_InvalidLine ql_InvalidLine fl_InvalidLine : Str} {bsl_InvalidLine bm_InvalidLine sub_InvalidLine : List Value} {sn_InvalidLine : List Str} {ab_InvalidLine : Bool} {col_InvalidLine : Option Bool} {dd_InvalidLine od_InvalidLine an_InvalidLine cdd_InvalidLine cld_InvalidLine : Option Addr} {v0_InvalidLine v1_InvalidLine v2_InvalidLine v3_InvalidLine v5_InvalidLine : Option Value} {oc_InvalidLine dc_InvalidLine pm_InvalidLine ct_InvalidLine ccl_InvalidLine cl_InvalidLine : Value} {os_InvalidLine ccs_InvalidLine csl_InvalidLine : Array (Option Value)} {vs_InvalidLine : Array Value} {tf_InvalidLine : Tok} {C_InvalidProduct f_InvalidProduct x_InvalidProduct d_InvalidProduct N_InvalidProduct : Addr} {nm_InvalidProduct qn_InvalidProduct ql_InvalidProduct fl_InvalidProduct : Str} {bsl_InvalidProduct bm_InvalidProduct sub_InvalidProduct : List Value} {sn_InvalidProduct : List Str} {ab_InvalidProduct : Bool} {col_InvalidProduct : Option Bool} {dd_InvalidProduct od_InvalidProduct an_InvalidProduct cdd_InvalidProduct cld_InvalidProduct : Option Addr} {v0_InvalidProduct v1_InvalidProduct v2_InvalidProduct v3_InvalidProduct v5_InvalidProduct : Option Value} {oc_InvalidProduct dc_InvalidProduct pm_InvalidProduct ct_InvalidProduct ccl_InvalidProduct cl_InvalidProduct : Value} {os_InvalidProduct ccs_InvalidProduct csl_InvalidProduct : Array (Option Value)} {vs_InvalidProduct : Array Value} {tf_InvalidProduct : Tok} {C_InvalidOrder f_InvalidOrder x_InvalidOrder d_InvalidOrder N_InvalidOrder : Addr} {nm_InvalidOrder qn_InvalidOrder ql_InvalidOrder fl_InvalidOrder : Str} {bsl_InvalidOrder bm_InvalidOrder sub_InvalidOrder : List Value} {sn_InvalidOrder : List Str} {ab_InvalidOrder : Bool} {col_InvalidOrder : Option Bool} {dd_InvalidOrder od_InvalidOrder an_InvalidOrder cdd_InvalidOrder cld_InvalidOrder : Option Addr} {v0_InvalidOrder v1_InvalidOrder v2_InvalidOrder v3_InvalidOrder v5_InvalidOrder : Option Value} {oc_InvalidOrder dc_InvalidOrder pm_InvalidOrder ct_InvalidOrder ccl_InvalidOrder cl_InvalidOrder : Value} {os_InvalidOrder ccs_InvalidOrder csl_InvalidOrder : Array (Option Value)} {vs_InvalidOrder : Array Value} {tf_InvalidOrder : Tok} {C_InvalidCommand f_InvalidCommand x_InvalidCommand d_InvalidCommand N_InvalidCommand : Addr} {nm_InvalidCommand qn_InvalidCommand ql_InvalidCommand fl_InvalidCommand : Str} {bsl_InvalidCommand bm_InvalidCommand sub_InvalidCommand : List Value} {sn_InvalidCommand : List Str} {ab_InvalidCommand : Bool} {col_InvalidCommand : Option Bool} {dd_InvalidCommand od_InvalidCommand an_InvalidCommand cdd_InvalidCommand cld_InvalidCommand : Option Addr} {v0_InvalidCommand v1_InvalidCommand v2_InvalidCommand v3_InvalidCommand v5_InvalidCommand : Option Value} {oc_InvalidCommand dc_InvalidCommand pm_InvalidCommand ct_InvalidCommand ccl_InvalidCommand cl_InvalidCommand : Value} {os_InvalidCommand ccs_InvalidCommand csl_InvalidCommand : Array (Option Value)} {vs_InvalidCommand : Array Value} {tf_InvalidCommand : Tok} {C_DegreeTooHigh f_DegreeTooHigh x_DegreeTooHigh d_DegreeTooHigh N_DegreeTooHigh : Addr} {nm_DegreeTooHigh qn_DegreeTooHigh ql_DegreeTooHigh fl_DegreeTooHigh : Str} {bsl_DegreeTooHigh bm_DegreeTooHigh sub_DegreeTooHigh : List Value} {sn_DegreeTooHigh : List Str} {ab_DegreeTooHigh : Bool} {col_DegreeTooHigh : Option Bool} {dd_DegreeTooHigh od_DegreeTooHigh an_DegreeTooHigh cdd_DegreeTooHigh cld_DegreeTooHigh : Option Addr} {v0_DegreeTooHigh v1_DegreeTooHigh v2_DegreeTooHigh v3_DegreeTooHigh v5_DegreeTooHigh : Option Value} {oc_DegreeTooHigh dc_DegreeTooHigh pm_DegreeTooHigh ct_DegreeTooHigh ccl_DegreeTooHigh cl_DegreeTooHigh : Value} {os_DegreeTooHigh ccs_DegreeTooHigh csl_DegreeTooHigh : Array (Option Value)} {vs_DegreeTooHigh : Array Value} {tf_DegreeTooHigh : Tok} {C_NoInverse f_NoInverse x_NoInverse d_NoInverse N_NoInverse : Addr} {nm_NoInverse qn_NoInverse ql_NoInverse fl_NoInverse : Str} {bsl_NoInverse bm_NoInverse sub_NoInverse : List Value} {sn_NoInverse : List Str} {ab_NoInverse : Bool} {col_NoInverse : Option Bool} {dd_NoInverse od_NoInverse an_NoInverse cdd_NoInverse cld_NoInverse : Option Addr} {v0_NoInverse v1_NoInverse v2_NoInverse v3_NoInverse v5_NoInverse : Option Value} {oc_NoInverse dc_NoInverse pm_NoInverse ct_NoInverse ccl_NoInverse cl_NoInverse : Value} {os_NoInverse ccs_NoInverse csl_NoInverse : Array (Option Value)} {vs_NoInverse : Array Value} {tf_NoInverse : Tok} {C_NotCommuting f_NotCommuting x_NotCommuting d_NotCommuting N_NotCommuting : Addr} {nm_NotCommuting qn_NotCommuting ql_NotCommuting fl_NotCommuting : Str} {bsl_NotCommuting bm_NotCommuting sub_NotCommuting : List Value} {sn_NotCommuting : List Str} {ab_NotCommuting : Bool} {col_NotCommuting : Option Bool} {dd_NotCommuting od_NotCommuting an_NotCommuting cdd_NotCommuting cld_NotCommuting : Option Addr} {v0_NotCommuting v1_NotCommuting v2_NotCommuting v3_NotCommuting v5_NotCommuting : Option Value} {oc_NotCommuting dc_NotCommuting pm_NotCommuting ct_NotCommuting ccl_NotCommuting cl_NotCommuting : Value} {os_NotCommuting ccs_NotCommuting csl_NotCommuting : Array (Option Value)} {vs_NotCommuting : Array Value} {tf_NotCommuting : Tok} {C_NotWhole f_NotWhole x_NotWhole d_NotWhole N_NotWhole : Addr} {nm_NotWhole qn_NotWhole ql_NotWhole fl_NotWhole : Str} {bsl_NotWhole bm_NotWhole sub_NotWhole : List Value} {sn_NotWhole : List Str} {ab_NotWhole : Bool} {col_NotWhole : Option Bool} {dd_NotWhole od_NotWhole an_NotWhole cdd_NotWhole cld_NotWhole : Option Addr} {v0_NotWhole v1_NotWhole v2_NotWhole v3_NotWhole v5_NotWhole : Option Value} {oc_NotWhole dc_NotWhole pm_NotWhole ct_NotWhole ccl_NotWhole cl_NotWhole : Value} {os_NotWhole ccs_NotWhole csl_NotWhole : Array (Option Value)} {vs_NotWhole : Array Value} {tf_NotWhole : Tok} {C_NotStraight f_NotStraight x_NotStraight d_NotStraight N_NotStraight : Addr} {nm_NotStraight qn_NotStraight ql_NotStraight fl_NotStraight : Str} {bsl_NotStraight bm_NotStraight sub_NotStraight : List Value} {sn_NotStraight : List Str} {ab_NotStraight : Bool} {col_NotStraight : Option Bool} {dd_NotStraight od_NotStraight an_NotStraight cdd_NotStraight cld_NotStraight : Option Addr} {v0_NotStraight v1_NotStraight v2_NotStraight v3_NotStraight v5_NotStraight : Option Value} {oc_NotStraight dc_NotStraight pm_NotStraight ct_NotStraight ccl_NotStraight cl_NotStraight : Value} {os_NotStraight ccs_NotStraight csl_NotStraight : Array (Option Value)} {vs_NotStraight : Array Value} {tf_NotStraight : Tok} {C_NoUnit f_NoUnit x_NoUnit d_NoUnit N_NoUnit : Addr} {nm_NoUnit qn_NoUnit ql_NoUnit fl_NoUnit : Str} {bsl_NoUnit bm_NoUnit sub_NoUnit : List Value} {sn_NoUnit : List Str} {ab_NoUnit : Bool} {col_NoUnit : Option Bool} {dd_NoUnit od_NoUnit an_NoUnit cdd_NoUnit cld_NoUnit : Option Addr} {v0_NoUnit v1_NoUnit v2_NoUnit v3_NoUnit v5_NoUnit : Option Value} {oc_NoUnit dc_NoUnit pm_NoUnit ct_NoUnit ccl_NoUnit cl_NoUnit : Value} {os_NoUnit ccs_NoUnit csl_NoUnit : Array (Option Value)} {vs_NoUnit : Array Value} {tf_NoUnit : Tok} {C_Unused f_Unused x_Unused d_Unused N_Unused : Addr} {nm_Unused qn_Unused ql_Unused fl_Unused : Str} {bsl_Unused bm_Unused sub_Unused : List Value} {sn_Unused : List Str} {ab_Unused : Bool} {col_Unused : Option Bool} {dd_Unused od_Unused an_Unused cdd_Unused cld_Unused : Option Addr} {v0_Unused v1_Unused v2_Unused v3_Unused v5_Unused : Option Value} {oc_Unused dc_Unused pm_Unused ct_Unused ccl_Unused cl_Unused : Value} {os_Unused ccs_Unused csl_Unused : Array (Option Value)} {vs_Unused : Array Value} {tf_Unused : Tok} {C_WrongCount f_WrongCount x_WrongCount d_WrongCount N_WrongCount : Addr} {nm_WrongCount qn_WrongCount ql_WrongCount fl_WrongCount : Str} {bsl_WrongCount bm_WrongCount sub_WrongCount : List Value} {sn_WrongCount : List Str} {ab_WrongCount : Bool} {col_WrongCount : Option Bool} {dd_WrongCount od_WrongCount an_WrongCount cdd_WrongCount cld_WrongCount : Option Addr} {v0_WrongCount v1_WrongCount v2_WrongCount v3_WrongCount v5_WrongCount : Option Value} {oc_WrongCount dc_WrongCount pm_WrongCount ct_WrongCount ccl_WrongCount cl_WrongCount : Value} {os_WrongCount ccs_WrongCount csl_WrongCount : Array (Option Value)} {vs_WrongCount : Array Value} {tf_WrongCount : Tok} {C_TooMany f_TooMany x_TooMany d_TooMany N_TooMany : Addr} {nm_TooMany qn_TooMany ql_TooMany fl_TooMany : Str} {bsl_TooMany bm_TooMany sub_TooMany : List Value} {sn_TooMany : List Str} {ab_TooMany : Bool} {col_TooMany : Option Bool} {dd_TooMany od_TooMany an_TooMany cdd_TooMany cld_TooMany : Option Addr} {v0_TooMany v1_TooMany v2_TooMany v3_TooMany v5_TooMany : Option Value} {oc_TooMany dc_TooMany pm_TooMany ct_TooMany ccl_TooMany cl_TooMany : Value} {os_TooMany ccs_TooMany csl_TooMany : Array (Option Value)} {vs_TooMany : Array Value} {tf_TooMany : Tok} {C_TooGreat f_TooGreat x_TooGreat d_TooGreat N_TooGreat : Addr} {nm_TooGreat qn_TooGreat ql_TooGreat fl_TooGreat : Str} {bsl_TooGreat bm_TooGreat sub_TooGreat : List Value} {sn_TooGreat : List Str} {ab_TooGreat : Bool} {col_TooGreat : Option Bool} {dd_TooGreat od_TooGreat an_TooGreat cdd_TooGreat cld_TooGreat : Option Addr} {v0_TooGreat v1_TooGreat v2_TooGreat v3_TooGreat v5_TooGreat : Option Value} {oc_TooGreat dc_TooGreat pm_TooGreat ct_TooGreat ccl_TooGreat cl_TooGreat : Value} {os_TooGreat ccs_TooGreat csl_TooGreat : Array (Option Value)} {vs_TooGreat : Array Value} {tf_TooGreat : Tok} {C_EmptyRealm f_EmptyRealm x_EmptyRealm d_EmptyRealm N_EmptyRealm : Addr} {nm_EmptyRealm qn_EmptyRealm ql_EmptyRealm fl_EmptyRealm : Str} {bsl_EmptyRealm bm_EmptyRealm sub_EmptyRealm : List Value} {sn_EmptyRealm : List Str} {ab_EmptyRealm : Bool} {col_EmptyRealm : Option Bool} {dd_EmptyRealm od_EmptyRealm an_EmptyRealm cdd_EmptyRealm cld_EmptyRealm : Option Addr} {v0_EmptyRealm v1_EmptyRealm v2_EmptyRealm v3_EmptyRealm v5_EmptyRealm : Option Value} {oc_EmptyRealm dc_EmptyRealm pm_EmptyRealm ct_EmptyRealm ccl_EmptyRealm cl_EmptyRealm : Value} {os_EmptyRealm ccs_EmptyRealm csl_EmptyRealm : Array (Option Value)} {vs_EmptyRealm : Array Value} {tf_EmptyRealm : Tok} {C_Unsound f_Unsound x_Unsound d_Unsound N_Unsound : Addr} {nm_Unsound qn_Unsound ql_Unsound fl_Unsound : Str} {bsl_Unsound bm_Unsound sub_Unsound : List Value} {sn_Unsound : List Str} {ab_Unsound : Bool} {col_Unsound : Option Bool} {dd_Unsound od_Unsound an_Unsound cdd_Unsound cld_Unsound : Option Addr} {v0_Unsound v1_Unsound v2_Unsound v3_Unsound v5_Unsound : Option Value} {oc_Unsound dc_Unsound pm_Unsound ct_Unsound ccl_Unsound cl_Unsound : Value} {os_Unsound ccs_Unsound csl_Unsound : Array (Option Value)} {vs_Unsound : Array Value} {tf_Unsound : Tok} {C_DuplicateName f_DuplicateName x_DuplicateName d_DuplicateName N_DuplicateName : Addr} {nm_DuplicateName qn_DuplicateName ql_DuplicateName fl_DuplicateName : Str} {bsl_DuplicateName bm_DuplicateName sub_DuplicateName : List Value} {sn_DuplicateName : List Str} {ab_DuplicateName : Bool} {col_DuplicateName : Option Bool} {dd_DuplicateName od_DuplicateName an_DuplicateName cdd_DuplicateName cld_DuplicateName : Option Addr} {v0_DuplicateName v1_DuplicateName v2_DuplicateName v3_DuplicateName v5_DuplicateName : Option Value} {oc_DuplicateName dc_DuplicateName pm_DuplicateName ct_DuplicateName ccl_DuplicateName cl_DuplicateName : Value} {os_DuplicateName ccs_DuplicateName csl_DuplicateName : Array (Option Value)} {vs_DuplicateName : Array Value} {tf_DuplicateName : Tok} {C_InUse f_InUse x_InUse d_InUse N_InUse : Addr} {nm_InUse qn_InUse ql_InUse fl_InUse : Str} {bsl_InUse bm_InUse sub_InUse : List Value} {sn_InUse : List Str} {ab_InUse : Bool} {col_InUse : Option Bool} {dd_InUse od_InUse an_InUse cdd_InUse cld_InUse : Option Addr} {v0_InUse v1_InUse v2_InUse v3_InUse v5_InUse : Option Value} {oc_InUse dc_InUse pm_InUse ct_InUse ccl_InUse cl_InUse : Value} {os_InUse ccs_InUse csl_InUse : Array (Option Value)} {vs_InUse : Array Value} {tf_InUse : Tok} {C_Broken f_Broken x_Broken d_Broken N_Broken : Addr} {nm_Broken qn_Broken ql_Broken fl_Broken : Str} {bsl_Broken bm_Broken sub_Broken : List Value} {sn_Broken : List Str} {ab_Broken : Bool} {col_Broken : Option Bool} {dd_Broken od_Broken an_Broken cdd_Broken cld_Broken : Option Addr} {v0_Broken v1_Broken v2_Broken v3_Broken v5_Broken : Option Value} {oc_Broken dc_Broken pm_Broken ct_Broken ccl_Broken cl_Broken : Value} {os_Broken ccs_Broken csl_Broken : Array (Option Value)} {vs_Broken : Array Value} {tf_Broken : Tok} {C_Full f_Full x_Full d_Full N_Full : Addr} {nm_Full qn_Full ql_Full fl_Full : Str} {bsl_Full bm_Full sub_Full : List Value} {sn_Full : List Str} {ab_Full : Bool} {col_Full : Option Bool} {dd_Full od_Full an_Full cdd_Full cld_Full : Option Addr} {v0_Full v1_Full v2_Full v3_Full v5_Full : Option Value} {oc_Full dc_Full pm_Full ct_Full ccl_Full cl_Full : Value} {os_Full ccs_Full csl_Full : Array (Option Value)} {vs_Full : Array Value} {tf_Full : Tok} {C_UnknownName f_UnknownName x_UnknownName d_UnknownName N_UnknownName : Addr} {nm_UnknownName qn_UnknownName ql_UnknownName fl_UnknownName : Str} {bsl_UnknownName bm_UnknownName sub_UnknownName : List Value} {sn_UnknownName : List Str} {ab_UnknownName : Bool} {col_UnknownName : Option Bool} {dd_UnknownName od_UnknownName an_UnknownName cdd_UnknownName cld_UnknownName : Option Addr} {v0_UnknownName v1_UnknownName v2_UnknownName v3_UnknownName v5_UnknownName : Option Value} {oc_UnknownName dc_UnknownName pm_UnknownName ct_UnknownName ccl_UnknownName cl_UnknownName : Value} {os_UnknownName ccs_UnknownName csl_UnknownName : Array (Option Value)} {vs_UnknownName : Array Value} {tf_UnknownName : Tok} {C_UnknownNumber f_UnknownNumber x_UnknownNumber d_UnknownNumber N_UnknownNumber : Addr} {nm_UnknownNumber qn_UnknownNumber ql_UnknownNumber fl_UnknownNumber : Str} {bsl_UnknownNumber bm_UnknownNumber sub_UnknownNumber : List Value} {sn_UnknownNumber : List Str} {ab_UnknownNumber : Bool} {col_UnknownNumber : Option Bool} {dd_UnknownNumber od_UnknownNumber an_UnknownNumber cdd_UnknownNumber cld_UnknownNumber : Option Addr} {v0_UnknownNumber v1_UnknownNumber v2_UnknownNumber v3_UnknownNumber v5_UnknownNumber : Option Value} {oc_UnknownNumber dc_UnknownNumber pm_UnknownNumber ct_UnknownNumber ccl_UnknownNumber cl_UnknownNumber : Value} {os_UnknownNumber ccs_UnknownNumber csl_UnknownNumber : Array (Option Value)} {vs_UnknownNumber : Array Value} {tf_UnknownNumber : Tok} {C_NothingLeft f_NothingLeft x_NothingLeft d_NothingLeft N_NothingLeft : Addr} {nm_NothingLeft qn_NothingLeft ql_NothingLeft fl_NothingLeft : Str} {bsl_NothingLeft bm_NothingLeft sub_NothingLeft : List Value} {sn_NothingLeft : List Str} {ab_NothingLeft : Bool} {col_NothingLeft : Option Bool} {dd_NothingLeft od_NothingLeft an_NothingLeft cdd_NothingLeft cld_NothingLeft : Option Addr} {v0_NothingLeft v1_NothingLeft v2_NothingLeft v3_NothingLeft v5_NothingLeft : Option Value} {oc_NothingLeft dc_NothingLeft pm_NothingLeft ct_NothingLeft ccl_NothingLeft cl_NothingLeft : Value} {os_NothingLeft ccs_NothingLeft csl_NothingLeft : Array (Option Value)} {vs_NothingLeft : Array Value} {tf_NothingLeft : Tok} {C_RingError C_Missing : Addr}
    (z_super : PySem.W.nsIn K mainGlobals "super" = some none) (opq : PySem.W.nsIn K PySem.cStatics "thirdparty.any" = some none) (topSuper : (l.prog.main.scope.names.lookup ("super" : Str)).isSome = false) (clsGet : PySem.W.specialIn K (.builtin "object.__class__") "__get__" = some (some (.builtin "getset_descriptor.__get__"))) (clsTakes : PySem.W.takesIn K (.builtin "object.__class__") = some true)
    (a1 : PySem.W.nsIn K mainGlobals "_law_bag" = some (some (.ref f1))) (l1 : K.lookup f1 = some ⟨oc1, od1, .func (PySem.W.fnOf "_law_bag" "_law_bag" (defArgs s_l_bag) (defBody s_l_bag) (defScope s_l_bag) .none kV1 dc1 pm1 an1 cd1 ct1), sl1⟩) (c1 : PySem.W.codeIn K cd1 "_law_bag" = true) (k1 : PySem.W.keepIn K (.ref f1) = true)
    (a2 : PySem.W.nsIn K mainGlobals "_law_draw" = some (some (.ref f2))) (l2 : K.lookup f2 = some ⟨oc2, od2, .func (PySem.W.fnOf "_law_draw" "_law_draw" (defArgs s_l_draw) (defBody s_l_draw) (defScope s_l_draw) .none kV2 dc2 pm2 an2 cd2 ct2), sl2⟩) (c2 : PySem.W.codeIn K cd2 "_law_draw" = true) (k2 : PySem.W.keepIn K (.ref f2) = true)
    (a3 : PySem.W.nsIn K mainGlobals "_law_pick" = some (some (.ref f3))) (l3 : K.lookup f3 = some ⟨oc3, od3, .func (PySem.W.fnOf "_law_pick" "_law_pick" (defArgs s_l_pick) (defBody s_l_pick) (defScope s_l_pick) .none kV3 dc3 pm3 an3 cd3 ct3), sl3⟩) (c3 : PySem.W.codeIn K cd3 "_law_pick" = true) (k3 : PySem.W.keepIn K (.ref f3) = true)
    (a4 : PySem.W.nsIn K mainGlobals "_law_same" = some (some (.ref f4))) (l4 : K.lookup f4 = some ⟨oc4, od4, .func (PySem.W.fnOf "_law_same" "_law_same" (defArgs s_l_same) (defBody s_l_same) (defScope s_l_same) .none kV4 dc4 pm4 an4 cd4 ct4), sl4⟩) (c4 : PySem.W.codeIn K cd4 "_law_same" = true) (k4 : PySem.W.keepIn K (.ref f4) = true)
    (a5 : PySem.W.nsIn K mainGlobals "_law_field" = some (some (.ref f5))) (l5 : K.lookup f5 = some ⟨oc5, od5, .func (PySem.W.fnOf "_law_field" "_law_field" (defArgs s_l_field) (defBody s_l_field) (defScope s_l_field) .none kV5 dc5 pm5 an5 cd5 ct5), sl5⟩) (c5 : PySem.W.codeIn K cd5 "_law_field" = true) (k5 : PySem.W.keepIn K (.ref f5) = true)
    (a6 : PySem.W.nsIn K mainGlobals "_law_odd" = some (some (.ref f6))) (l6 : K.lookup f6 = some ⟨oc6, od6, .func (PySem.W.fnOf "_law_odd" "_law_odd" (defArgs s_l_odd) (defBody s_l_odd) (defScope s_l_odd) .none kV6 dc6 pm6 an6 cd6 ct6), sl6⟩) (c6 : PySem.W.codeIn K cd6 "_law_odd" = true) (k6 : PySem.W.keepIn K (.ref f6) = true)
    (a7 : PySem.W.nsIn K mainGlobals "_law_by_word" = some (some (.ref f7))) (l7 : K.lookup f7 = some ⟨oc7, od7, .func (PySem.W.fnOf "_law_by_word" "_law_by_word" (defArgs s_l_by_word) (defBody s_l_by_word) (defScope s_l_by_word) .none kV7 dc7 pm7 an7 cd7 ct7), sl7⟩) (c7 : PySem.W.codeIn K cd7 "_law_by_word" = true) (k7 : PySem.W.keepIn K (.ref f7) = true)
    (a8 : PySem.W.nsIn K mainGlobals "law" = some (some (.ref f8))) (l8 : K.lookup f8 = some ⟨oc8, od8, .func (PySem.W.fnOf "law" "law" (defArgs s_law) (defBody s_law) (defScope s_law) .none kV8 dc8 pm8 an8 cd8 ct8), sl8⟩) (c8 : PySem.W.codeIn K cd8 "law" = true) (k8 : PySem.W.keepIn K (.ref f8) = true)
    (z_IndexError : PySem.W.nsIn K mainGlobals "IndexError" = some none)
    (z_LookupError : PySem.W.nsIn K mainGlobals "LookupError" = some none)
    (z_ValueError : PySem.W.nsIn K mainGlobals "ValueError" = some none)
    (z_abs : PySem.W.nsIn K mainGlobals "abs" = some none)
    (z_all : PySem.W.nsIn K mainGlobals "all" = some none)
    (z_bool : PySem.W.nsIn K mainGlobals "bool" = some none)
    (z_int : PySem.W.nsIn K mainGlobals "int" = some none)
    (z_isinstance : PySem.W.nsIn K mainGlobals "isinstance" = some none)
    (z_len : PySem.W.nsIn K mainGlobals "len" = some none)
    (z_list : PySem.W.nsIn K mainGlobals "list" = some none)
    (z_range : PySem.W.nsIn K mainGlobals "range" = some none)
    (z_str : PySem.W.nsIn K mainGlobals "str" = some none)
    (z_tuple : PySem.W.nsIn K mainGlobals "tuple" = some none)
    (z_zip : PySem.W.nsIn K mainGlobals "zip" = some none)
    (ea_InvalidNumber : PySem.W.nsIn K mainGlobals "InvalidNumber" = some (some (.ref C_InvalidNumber)))
    (eb_InvalidNumber : K.lookup C_InvalidNumber = some (excClassObj nm_InvalidNumber qn_InvalidNumber C_InvalidNumber N_InvalidNumber bsl_InvalidNumber bm_InvalidNumber true sn_InvalidNumber sub_InvalidNumber ab_InvalidNumber col_InvalidNumber dd_InvalidNumber v0_InvalidNumber v1_InvalidNumber v2_InvalidNumber v3_InvalidNumber v5_InvalidNumber "ValueError.__new__"))
    (ec_InvalidNumber : (PySem.ErrG.refsT tail_ValueError bm_InvalidNumber && decide (PySem.W.alongIn K "__init__" bm_InvalidNumber = some (some (.builtin "ValueError.__init__")))) = true)
    (ej_InvalidNumber : PySem.W.findIn K (.ref C_InvalidNumber) "__init__" = some (some (.ref f_InvalidNumber)))
    (ee_InvalidNumber : PySem.ErrG.errB K C_InvalidNumber f_InvalidNumber ["given"] "ValueError" = true)
    (er_InvalidNumber : K.lookup f_InvalidNumber = some ⟨oc_InvalidNumber, od_InvalidNumber, .func (PySem.W.ksFn "__init__" ql_InvalidNumber (defArgs s_InvalidNumber_init) (defBody s_InvalidNumber_init) (defScope s_InvalidNumber_init) .none .none dc_InvalidNumber pm_InvalidNumber an_InvalidNumber (.ref d_InvalidNumber) ct_InvalidNumber x_InvalidNumber), os_InvalidNumber⟩)
    (es_InvalidNumber : PySem.W.codeIn K (.ref d_InvalidNumber) ql_InvalidNumber = true)
    (et_InvalidNumber : K.lookup x_InvalidNumber = some ⟨cl_InvalidNumber, cld_InvalidNumber, .cell (some (.ref C_InvalidNumber)), csl_InvalidNumber⟩)
    (eu_InvalidNumber : K.lookup d_InvalidNumber = some ⟨ccl_InvalidNumber, cdd_InvalidNumber, .fields vs_InvalidNumber, ccs_InvalidNumber⟩)
    (ev_InvalidNumber : vs_InvalidNumber[2]? = some (.str fl_InvalidNumber tf_InvalidNumber))
    (ew_InvalidNumber : ((l.prog.main.file : Str) == fl_InvalidNumber) = true)
    (ea_InvalidThing : PySem.W.nsIn K mainGlobals "InvalidThing" = some (some (.ref C_InvalidThing)))
    (eb_InvalidThing : K.lookup C_InvalidThing = some (excClassObj nm_InvalidThing qn_InvalidThing C_InvalidThing N_InvalidThing bsl_InvalidThing bm_InvalidThing true sn_InvalidThing sub_InvalidThing ab_InvalidThing col_InvalidThing dd_InvalidThing v0_InvalidThing v1_InvalidThing v2_InvalidThing v3_InvalidThing v5_InvalidThing "ValueError.__new__"))
    (ec_InvalidThing : (PySem.ErrG.refsT tail_ValueError bm_InvalidThing && decide (PySem.W.alongIn K "__init__" bm_InvalidThing = some (some (.builtin "ValueError.__init__")))) = true)
    (ej_InvalidThing : PySem.W.findIn K (.ref C_InvalidThing) "__init__" = some (some (.ref f_InvalidThing)))
    (ee_InvalidThing : PySem.ErrG.errB K C_InvalidThing f_InvalidThing ["given"] "ValueError" = true)
    (er_InvalidThing : K.lookup f_InvalidThing = some ⟨oc_InvalidThing, od_InvalidThing, .func (PySem.W.ksFn "__init__" ql_InvalidThing (defArgs s_InvalidThing_init) (defBody s_InvalidThing_init) (defScope s_InvalidThing_init) .none .none dc_InvalidThing pm_InvalidThing an_InvalidThing (.ref d_InvalidThing) ct_InvalidThing x_InvalidThing), os_InvalidThing⟩)
    (es_InvalidThing : PySem.W.codeIn K (.ref d_InvalidThing) ql_InvalidThing = true)
    (et_InvalidThing : K.lookup x_InvalidThing = some ⟨cl_InvalidThing, cld_InvalidThing, .cell (some (.ref C_InvalidThing)), csl_InvalidThing⟩)
    (eu_InvalidThing : K.lookup d_InvalidThing = some ⟨ccl_InvalidThing, cdd_InvalidThing, .fields vs_InvalidThing, ccs_InvalidThing⟩)
    (ev_InvalidThing : vs_InvalidThing[2]? = some (.str fl_InvalidThing tf_InvalidThing))
    (ew_InvalidThing : ((l.prog.main.file : Str) == fl_InvalidThing) = true)
    (ea_InvalidRing : PySem.W.nsIn K mainGlobals "InvalidRing" = some (some (.ref C_InvalidRing)))
    (eb_InvalidRing : K.lookup C_InvalidRing = some (excClassObj nm_InvalidRing qn_InvalidRing C_InvalidRing N_InvalidRing bsl_InvalidRing bm_InvalidRing true sn_InvalidRing sub_InvalidRing ab_InvalidRing col_InvalidRing dd_InvalidRing v0_InvalidRing v1_InvalidRing v2_InvalidRing v3_InvalidRing v5_InvalidRing "ValueError.__new__"))
    (ec_InvalidRing : (PySem.ErrG.refsT tail_ValueError bm_InvalidRing && decide (PySem.W.alongIn K "__init__" bm_InvalidRing = some (some (.builtin "ValueError.__init__")))) = true)
    (ej_InvalidRing : PySem.W.findIn K (.ref C_InvalidRing) "__init__" = some (some (.ref f_InvalidRing)))
    (ee_InvalidRing : PySem.ErrG.errB K C_InvalidRing f_InvalidRing ["given"] "ValueError" = true)
    (er_InvalidRing : K.lookup f_InvalidRing = some ⟨oc_InvalidRing, od_InvalidRing, .func (PySem.W.ksFn "__init__" ql_InvalidRing (defArgs s_InvalidRing_init) (defBody s_InvalidRing_init) (defScope s_InvalidRing_init) .none .none dc_InvalidRing pm_InvalidRing an_InvalidRing (.ref d_InvalidRing) ct_InvalidRing x_InvalidRing), os_InvalidRing⟩)
    (es_InvalidRing : PySem.W.codeIn K (.ref d_InvalidRing) ql_InvalidRing = true)
    (et_InvalidRing : K.lookup x_InvalidRing = some ⟨cl_InvalidRing, cld_InvalidRing, .cell (some (.ref C_InvalidRing)), csl_InvalidRing⟩)
    (eu_InvalidRing : K.lookup d_InvalidRing = some ⟨ccl_InvalidRing, cdd_InvalidRing, .fields vs_InvalidRing, ccs_InvalidRing⟩)
    (ev_InvalidRing : vs_InvalidRing[2]? = some (.str fl_InvalidRing tf_InvalidRing))
    (ew_InvalidRing : ((l.prog.main.file : Str) == fl_InvalidRing) = true)
    (ea_InvalidTable : PySem.W.nsIn K mainGlobals "InvalidTable" = some (some (.ref C_InvalidTable)))
    (eb_InvalidTable : K.lookup C_InvalidTable = some (excClassObj nm_InvalidTable qn_InvalidTable C_InvalidTable N_InvalidTable bsl_InvalidTable bm_InvalidTable true sn_InvalidTable sub_InvalidTable ab_InvalidTable col_InvalidTable dd_InvalidTable v0_InvalidTable v1_InvalidTable v2_InvalidTable v3_InvalidTable v5_InvalidTable "ValueError.__new__"))
    (ec_InvalidTable : (PySem.ErrG.refsT tail_ValueError bm_InvalidTable && decide (PySem.W.alongIn K "__init__" bm_InvalidTable = some (some (.builtin "ValueError.__init__")))) = true)
    (ej_InvalidTable : PySem.W.findIn K (.ref C_InvalidTable) "__init__" = some (some (.ref f_InvalidTable)))
    (ee_InvalidTable : PySem.ErrG.errB K C_InvalidTable f_InvalidTable ["rule"] "ValueError" = true)
    (er_InvalidTable : K.lookup f_InvalidTable = some ⟨oc_InvalidTable, od_InvalidTable, .func (PySem.W.ksFn "__init__" ql_InvalidTable (defArgs s_InvalidTable_init) (defBody s_InvalidTable_init) (defScope s_InvalidTable_init) .none .none dc_InvalidTable pm_InvalidTable an_InvalidTable (.ref d_InvalidTable) ct_InvalidTable x_InvalidTable), os_InvalidTable⟩)
    (es_InvalidTable : PySem.W.codeIn K (.ref d_InvalidTable) ql_InvalidTable = true)
    (et_InvalidTable : K.lookup x_InvalidTable = some ⟨cl_InvalidTable, cld_InvalidTable, .cell (some (.ref C_InvalidTable)), csl_InvalidTable⟩)
    (eu_InvalidTable : K.lookup d_InvalidTable = some ⟨ccl_InvalidTable, cdd_InvalidTable, .fields vs_InvalidTable, ccs_InvalidTable⟩)
    (ev_InvalidTable : vs_InvalidTable[2]? = some (.str fl_InvalidTable tf_InvalidTable))
    (ew_InvalidTable : ((l.prog.main.file : Str) == fl_InvalidTable) = true)
    (ea_InvalidName : PySem.W.nsIn K mainGlobals "InvalidName" = some (some (.ref C_InvalidName)))
    (eb_InvalidName : K.lookup C_InvalidName = some (excClassObj nm_InvalidName qn_InvalidName C_InvalidName N_InvalidName bsl_InvalidName bm_InvalidName true sn_InvalidName sub_InvalidName ab_InvalidName col_InvalidName dd_InvalidName v0_InvalidName v1_InvalidName v2_InvalidName v3_InvalidName v5_InvalidName "ValueError.__new__"))
    (ec_InvalidName : (PySem.ErrG.refsT tail_ValueError bm_InvalidName && decide (PySem.W.alongIn K "__init__" bm_InvalidName = some (some (.builtin "ValueError.__init__")))) = true)
    (ej_InvalidName : PySem.W.findIn K (.ref C_InvalidName) "__init__" = some (some (.ref f_InvalidName)))
    (ee_InvalidName : PySem.ErrG.errB K C_InvalidName f_InvalidName ["given"] "ValueError" = true)
    (er_InvalidName : K.lookup f_InvalidName = some ⟨oc_InvalidName, od_InvalidName, .func (PySem.W.ksFn "__init__" ql_InvalidName (defArgs s_InvalidName_init) (defBody s_InvalidName_init) (defScope s_InvalidName_init) .none .none dc_InvalidName pm_InvalidName an_InvalidName (.ref d_InvalidName) ct_InvalidName x_InvalidName), os_InvalidName⟩)
    (es_InvalidName : PySem.W.codeIn K (.ref d_InvalidName) ql_InvalidName = true)
    (et_InvalidName : K.lookup x_InvalidName = some ⟨cl_InvalidName, cld_InvalidName, .cell (some (.ref C_InvalidName)), csl_InvalidName⟩)
    (eu_InvalidName : K.lookup d_InvalidName = some ⟨ccl_InvalidName, cdd_InvalidName, .fields vs_InvalidName, ccs_InvalidName⟩)
    (ev_InvalidName : vs_InvalidName[2]? = some (.str fl_InvalidName tf_InvalidName))
    (ew_InvalidName : ((l.prog.main.file : Str) == fl_InvalidName) = true)
    (ea_InvalidTerm : PySem.W.nsIn K mainGlobals "InvalidTerm" = some (some (.ref C_InvalidTerm)))
    (eb_InvalidTerm : K.lookup C_InvalidTerm = some (excClassObj nm_InvalidTerm qn_InvalidTerm C_InvalidTerm N_InvalidTerm bsl_InvalidTerm bm_InvalidTerm true sn_InvalidTerm sub_InvalidTerm ab_InvalidTerm col_InvalidTerm dd_InvalidTerm v0_InvalidTerm v1_InvalidTerm v2_InvalidTerm v3_InvalidTerm v5_InvalidTerm "ValueError.__new__"))
    (ec_InvalidTerm : (PySem.ErrG.refsT tail_ValueError bm_InvalidTerm && decide (PySem.W.alongIn K "__init__" bm_InvalidTerm = some (some (.builtin "ValueError.__init__")))) = true)
    (ej_InvalidTerm : PySem.W.findIn K (.ref C_InvalidTerm) "__init__" = some (some (.ref f_InvalidTerm)))
    (ee_InvalidTerm : PySem.ErrG.errB K C_InvalidTerm f_InvalidTerm ["at"] "ValueError" = true)
    (er_InvalidTerm : K.lookup f_InvalidTerm = some ⟨oc_InvalidTerm, od_InvalidTerm, .func (PySem.W.ksFn "__init__" ql_InvalidTerm (defArgs s_InvalidTerm_init) (defBody s_InvalidTerm_init) (defScope s_InvalidTerm_init) .none .none dc_InvalidTerm pm_InvalidTerm an_InvalidTerm (.ref d_InvalidTerm) ct_InvalidTerm x_InvalidTerm), os_InvalidTerm⟩)
    (es_InvalidTerm : PySem.W.codeIn K (.ref d_InvalidTerm) ql_InvalidTerm = true)
    (et_InvalidTerm : K.lookup x_InvalidTerm = some ⟨cl_InvalidTerm, cld_InvalidTerm, .cell (some (.ref C_InvalidTerm)), csl_InvalidTerm⟩)
    (eu_InvalidTerm : K.lookup d_InvalidTerm = some ⟨ccl_InvalidTerm, cdd_InvalidTerm, .fields vs_InvalidTerm, ccs_InvalidTerm⟩)
    (ev_InvalidTerm : vs_InvalidTerm[2]? = some (.str fl_InvalidTerm tf_InvalidTerm))
    (ew_InvalidTerm : ((l.prog.main.file : Str) == fl_InvalidTerm) = true)
    (ea_InvalidHead : PySem.W.nsIn K mainGlobals "InvalidHead" = some (some (.ref C_InvalidHead)))
    (eb_InvalidHead : K.lookup C_InvalidHead = some (excClassObj nm_InvalidHead qn_InvalidHead C_InvalidHead N_InvalidHead bsl_InvalidHead bm_InvalidHead true sn_InvalidHead sub_InvalidHead ab_InvalidHead col_InvalidHead dd_InvalidHead v0_InvalidHead v1_InvalidHead v2_InvalidHead v3_InvalidHead v5_InvalidHead "ValueError.__new__"))
    (ec_InvalidHead : (PySem.ErrG.refsT tail_ValueError bm_InvalidHead && decide (PySem.W.alongIn K "__init__" bm_InvalidHead = some (some (.builtin "ValueError.__init__")))) = true)
    (ej_InvalidHead : PySem.W.findIn K (.ref C_InvalidHead) "__init__" = some (some (.ref f_InvalidHead)))
    (ee_InvalidHead : PySem.ErrG.errB K C_InvalidHead f_InvalidHead ["part"] "ValueError" = true)
    (er_InvalidHead : K.lookup f_InvalidHead = some ⟨oc_InvalidHead, od_InvalidHead, .func (PySem.W.ksFn "__init__" ql_InvalidHead (defArgs s_InvalidHead_init) (defBody s_InvalidHead_init) (defScope s_InvalidHead_init) .none .none dc_InvalidHead pm_InvalidHead an_InvalidHead (.ref d_InvalidHead) ct_InvalidHead x_InvalidHead), os_InvalidHead⟩)
    (es_InvalidHead : PySem.W.codeIn K (.ref d_InvalidHead) ql_InvalidHead = true)
    (et_InvalidHead : K.lookup x_InvalidHead = some ⟨cl_InvalidHead, cld_InvalidHead, .cell (some (.ref C_InvalidHead)), csl_InvalidHead⟩)
    (eu_InvalidHead : K.lookup d_InvalidHead = some ⟨ccl_InvalidHead, cdd_InvalidHead, .fields vs_InvalidHead, ccs_InvalidHead⟩)
    (ev_InvalidHead : vs_InvalidHead[2]? = some (.str fl_InvalidHead tf_InvalidHead))
    (ew_InvalidHead : ((l.prog.main.file : Str) == fl_InvalidHead) = true)
    (ea_InvalidStep : PySem.W.nsIn K mainGlobals "InvalidStep" = some (some (.ref C_InvalidStep)))
    (eb_InvalidStep : K.lookup C_InvalidStep = some (excClassObj nm_InvalidStep qn_InvalidStep C_InvalidStep N_InvalidStep bsl_InvalidStep bm_InvalidStep true sn_InvalidStep sub_InvalidStep ab_InvalidStep col_InvalidStep dd_InvalidStep v0_InvalidStep v1_InvalidStep v2_InvalidStep v3_InvalidStep v5_InvalidStep "ValueError.__new__"))
    (ec_InvalidStep : (PySem.ErrG.refsT tail_ValueError bm_InvalidStep && decide (PySem.W.alongIn K "__init__" bm_InvalidStep = some (some (.builtin "ValueError.__init__")))) = true)
    (ej_InvalidStep : PySem.W.findIn K (.ref C_InvalidStep) "__init__" = some (some (.ref f_InvalidStep)))
    (ee_InvalidStep : PySem.ErrG.errB K C_InvalidStep f_InvalidStep ["procedure", "at"] "ValueError" = true)
    (er_InvalidStep : K.lookup f_InvalidStep = some ⟨oc_InvalidStep, od_InvalidStep, .func (PySem.W.ksFn "__init__" ql_InvalidStep (defArgs s_InvalidStep_init) (defBody s_InvalidStep_init) (defScope s_InvalidStep_init) .none .none dc_InvalidStep pm_InvalidStep an_InvalidStep (.ref d_InvalidStep) ct_InvalidStep x_InvalidStep), os_InvalidStep⟩)
    (es_InvalidStep : PySem.W.codeIn K (.ref d_InvalidStep) ql_InvalidStep = true)
    (et_InvalidStep : K.lookup x_InvalidStep = some ⟨cl_InvalidStep, cld_InvalidStep, .cell (some (.ref C_InvalidStep)), csl_InvalidStep⟩)
    (eu_InvalidStep : K.lookup d_InvalidStep = some ⟨ccl_InvalidStep, cdd_InvalidStep, .fields vs_InvalidStep, ccs_InvalidStep⟩)
    (ev_InvalidStep : vs_InvalidStep[2]? = some (.str fl_InvalidStep tf_InvalidStep))
    (ew_InvalidStep : ((l.prog.main.file : Str) == fl_InvalidStep) = true)
    (ea_InvalidText : PySem.W.nsIn K mainGlobals "InvalidText" = some (some (.ref C_InvalidText)))
    (eb_InvalidText : K.lookup C_InvalidText = some (excClassObj nm_InvalidText qn_InvalidText C_InvalidText N_InvalidText bsl_InvalidText bm_InvalidText true sn_InvalidText sub_InvalidText ab_InvalidText col_InvalidText dd_InvalidText v0_InvalidText v1_InvalidText v2_InvalidText v3_InvalidText v5_InvalidText "ValueError.__new__"))
    (ec_InvalidText : (PySem.ErrG.refsT tail_ValueError bm_InvalidText && decide (PySem.W.alongIn K "__init__" bm_InvalidText = some (some (.builtin "ValueError.__init__")))) = true)
    (ej_InvalidText : PySem.W.findIn K (.ref C_InvalidText) "__init__" = some (some (.ref f_InvalidText)))
    (ee_InvalidText : PySem.ErrG.errB K C_InvalidText f_InvalidText ["line"] "ValueError" = true)
    (er_InvalidText : K.lookup f_InvalidText = some ⟨oc_InvalidText, od_InvalidText, .func (PySem.W.ksFn "__init__" ql_InvalidText (defArgs s_InvalidText_init) (defBody s_InvalidText_init) (defScope s_InvalidText_init) .none .none dc_InvalidText pm_InvalidText an_InvalidText (.ref d_InvalidText) ct_InvalidText x_InvalidText), os_InvalidText⟩)
    (es_InvalidText : PySem.W.codeIn K (.ref d_InvalidText) ql_InvalidText = true)
    (et_InvalidText : K.lookup x_InvalidText = some ⟨cl_InvalidText, cld_InvalidText, .cell (some (.ref C_InvalidText)), csl_InvalidText⟩)
    (eu_InvalidText : K.lookup d_InvalidText = some ⟨ccl_InvalidText, cdd_InvalidText, .fields vs_InvalidText, ccs_InvalidText⟩)
    (ev_InvalidText : vs_InvalidText[2]? = some (.str fl_InvalidText tf_InvalidText))
    (ew_InvalidText : ((l.prog.main.file : Str) == fl_InvalidText) = true)
    (ea_InvalidLine : PySem.W.nsIn K mainGlobals "InvalidLine" = some (some (.ref C_InvalidLine)))
    (eb_InvalidLine : K.lookup C_InvalidLine = some (excClassObj nm_InvalidLine qn_InvalidLine C_InvalidLine N_InvalidLine bsl_InvalidLine bm_InvalidLine true sn_InvalidLine sub_InvalidLine ab_InvalidLine col_InvalidLine dd_InvalidLine v0_InvalidLine v1_InvalidLine v2_InvalidLine v3_InvalidLine v5_InvalidLine "ValueError.__new__"))
    (ec_InvalidLine : (PySem.ErrG.refsT tail_ValueError bm_InvalidLine && decide (PySem.W.alongIn K "__init__" bm_InvalidLine = some (some (.builtin "ValueError.__init__")))) = true)
    (ej_InvalidLine : PySem.W.findIn K (.ref C_InvalidLine) "__init__" = some (some (.ref f_InvalidLine)))
    (ee_InvalidLine : PySem.ErrG.errB K C_InvalidLine f_InvalidLine ["at"] "ValueError" = true)
    (er_InvalidLine : K.lookup f_InvalidLine = some ⟨oc_InvalidLine, od_InvalidLine, .func (PySem.W.ksFn "__init__" ql_InvalidLine (defArgs s_InvalidLine_init) (defBody s_InvalidLine_init) (defScope s_InvalidLine_init) .none .none dc_InvalidLine pm_InvalidLine an_InvalidLine (.ref d_InvalidLine) ct_InvalidLine x_InvalidLine), os_InvalidLine⟩)
    (es_InvalidLine : PySem.W.codeIn K (.ref d_InvalidLine) ql_InvalidLine = true)
    (et_InvalidLine : K.lookup x_InvalidLine = some ⟨cl_InvalidLine, cld_InvalidLine, .cell (some (.ref C_InvalidLine)), csl_InvalidLine⟩)
    (eu_InvalidLine : K.lookup d_InvalidLine = some ⟨ccl_InvalidLine, cdd_InvalidLine, .fields vs_InvalidLine, ccs_InvalidLine⟩)
    (ev_InvalidLine : vs_InvalidLine[2]? = some (.str fl_InvalidLine tf_InvalidLine))
    (ew_InvalidLine : ((l.prog.main.file : Str) == fl_InvalidLine) = true)
    (ea_InvalidProduct : PySem.W.nsIn K mainGlobals "InvalidProduct" = some (some (.ref C_InvalidProduct)))
    (eb_InvalidProduct : K.lookup C_InvalidProduct = some (excClassObj nm_InvalidProduct qn_InvalidProduct C_InvalidProduct N_InvalidProduct bsl_InvalidProduct bm_InvalidProduct true sn_InvalidProduct sub_InvalidProduct ab_InvalidProduct col_InvalidProduct dd_InvalidProduct v0_InvalidProduct v1_InvalidProduct v2_InvalidProduct v3_InvalidProduct v5_InvalidProduct "ValueError.__new__"))
    (ec_InvalidProduct : (PySem.ErrG.refsT tail_ValueError bm_InvalidProduct && decide (PySem.W.alongIn K "__init__" bm_InvalidProduct = some (some (.builtin "ValueError.__init__")))) = true)
    (ej_InvalidProduct : PySem.W.findIn K (.ref C_InvalidProduct) "__init__" = some (some (.ref f_InvalidProduct)))
    (ee_InvalidProduct : PySem.ErrG.errB K C_InvalidProduct f_InvalidProduct ["at"] "ValueError" = true)
    (er_InvalidProduct : K.lookup f_InvalidProduct = some ⟨oc_InvalidProduct, od_InvalidProduct, .func (PySem.W.ksFn "__init__" ql_InvalidProduct (defArgs s_InvalidProduct_init) (defBody s_InvalidProduct_init) (defScope s_InvalidProduct_init) .none .none dc_InvalidProduct pm_InvalidProduct an_InvalidProduct (.ref d_InvalidProduct) ct_InvalidProduct x_InvalidProduct), os_InvalidProduct⟩)
    (es_InvalidProduct : PySem.W.codeIn K (.ref d_InvalidProduct) ql_InvalidProduct = true)
    (et_InvalidProduct : K.lookup x_InvalidProduct = some ⟨cl_InvalidProduct, cld_InvalidProduct, .cell (some (.ref C_InvalidProduct)), csl_InvalidProduct⟩)
    (eu_InvalidProduct : K.lookup d_InvalidProduct = some ⟨ccl_InvalidProduct, cdd_InvalidProduct, .fields vs_InvalidProduct, ccs_InvalidProduct⟩)
    (ev_InvalidProduct : vs_InvalidProduct[2]? = some (.str fl_InvalidProduct tf_InvalidProduct))
    (ew_InvalidProduct : ((l.prog.main.file : Str) == fl_InvalidProduct) = true)
    (ea_InvalidOrder : PySem.W.nsIn K mainGlobals "InvalidOrder" = some (some (.ref C_InvalidOrder)))
    (eb_InvalidOrder : K.lookup C_InvalidOrder = some (excClassObj nm_InvalidOrder qn_InvalidOrder C_InvalidOrder N_InvalidOrder bsl_InvalidOrder bm_InvalidOrder true sn_InvalidOrder sub_InvalidOrder ab_InvalidOrder col_InvalidOrder dd_InvalidOrder v0_InvalidOrder v1_InvalidOrder v2_InvalidOrder v3_InvalidOrder v5_InvalidOrder "ValueError.__new__"))
    (ec_InvalidOrder : (PySem.ErrG.refsT tail_ValueError bm_InvalidOrder && decide (PySem.W.alongIn K "__init__" bm_InvalidOrder = some (some (.builtin "ValueError.__init__")))) = true)
    (ej_InvalidOrder : PySem.W.findIn K (.ref C_InvalidOrder) "__init__" = some (some (.ref f_InvalidOrder)))
    (ee_InvalidOrder : PySem.ErrG.errB K C_InvalidOrder f_InvalidOrder ["given"] "ValueError" = true)
    (er_InvalidOrder : K.lookup f_InvalidOrder = some ⟨oc_InvalidOrder, od_InvalidOrder, .func (PySem.W.ksFn "__init__" ql_InvalidOrder (defArgs s_InvalidOrder_init) (defBody s_InvalidOrder_init) (defScope s_InvalidOrder_init) .none .none dc_InvalidOrder pm_InvalidOrder an_InvalidOrder (.ref d_InvalidOrder) ct_InvalidOrder x_InvalidOrder), os_InvalidOrder⟩)
    (es_InvalidOrder : PySem.W.codeIn K (.ref d_InvalidOrder) ql_InvalidOrder = true)
    (et_InvalidOrder : K.lookup x_InvalidOrder = some ⟨cl_InvalidOrder, cld_InvalidOrder, .cell (some (.ref C_InvalidOrder)), csl_InvalidOrder⟩)
    (eu_InvalidOrder : K.lookup d_InvalidOrder = some ⟨ccl_InvalidOrder, cdd_InvalidOrder, .fields vs_InvalidOrder, ccs_InvalidOrder⟩)
    (ev_InvalidOrder : vs_InvalidOrder[2]? = some (.str fl_InvalidOrder tf_InvalidOrder))
    (ew_InvalidOrder : ((l.prog.main.file : Str) == fl_InvalidOrder) = true)
    (ea_InvalidCommand : PySem.W.nsIn K mainGlobals "InvalidCommand" = some (some (.ref C_InvalidCommand)))
    (eb_InvalidCommand : K.lookup C_InvalidCommand = some (excClassObj nm_InvalidCommand qn_InvalidCommand C_InvalidCommand N_InvalidCommand bsl_InvalidCommand bm_InvalidCommand true sn_InvalidCommand sub_InvalidCommand ab_InvalidCommand col_InvalidCommand dd_InvalidCommand v0_InvalidCommand v1_InvalidCommand v2_InvalidCommand v3_InvalidCommand v5_InvalidCommand "ValueError.__new__"))
    (ec_InvalidCommand : (PySem.ErrG.refsT tail_ValueError bm_InvalidCommand && decide (PySem.W.alongIn K "__init__" bm_InvalidCommand = some (some (.builtin "ValueError.__init__")))) = true)
    (ej_InvalidCommand : PySem.W.findIn K (.ref C_InvalidCommand) "__init__" = some (some (.ref f_InvalidCommand)))
    (ee_InvalidCommand : PySem.ErrG.errB K C_InvalidCommand f_InvalidCommand ["at"] "ValueError" = true)
    (er_InvalidCommand : K.lookup f_InvalidCommand = some ⟨oc_InvalidCommand, od_InvalidCommand, .func (PySem.W.ksFn "__init__" ql_InvalidCommand (defArgs s_InvalidCommand_init) (defBody s_InvalidCommand_init) (defScope s_InvalidCommand_init) .none .none dc_InvalidCommand pm_InvalidCommand an_InvalidCommand (.ref d_InvalidCommand) ct_InvalidCommand x_InvalidCommand), os_InvalidCommand⟩)
    (es_InvalidCommand : PySem.W.codeIn K (.ref d_InvalidCommand) ql_InvalidCommand = true)
    (et_InvalidCommand : K.lookup x_InvalidCommand = some ⟨cl_InvalidCommand, cld_InvalidCommand, .cell (some (.ref C_InvalidCommand)), csl_InvalidCommand⟩)
    (eu_InvalidCommand : K.lookup d_InvalidCommand = some ⟨ccl_InvalidCommand, cdd_InvalidCommand, .fields vs_InvalidCommand, ccs_InvalidCommand⟩)
    (ev_InvalidCommand : vs_InvalidCommand[2]? = some (.str fl_InvalidCommand tf_InvalidCommand))
    (ew_InvalidCommand : ((l.prog.main.file : Str) == fl_InvalidCommand) = true)
    (ea_DegreeTooHigh : PySem.W.nsIn K mainGlobals "DegreeTooHigh" = some (some (.ref C_DegreeTooHigh)))
    (eb_DegreeTooHigh : K.lookup C_DegreeTooHigh = some (excClassObj nm_DegreeTooHigh qn_DegreeTooHigh C_DegreeTooHigh N_DegreeTooHigh bsl_DegreeTooHigh bm_DegreeTooHigh true sn_DegreeTooHigh sub_DegreeTooHigh ab_DegreeTooHigh col_DegreeTooHigh dd_DegreeTooHigh v0_DegreeTooHigh v1_DegreeTooHigh v2_DegreeTooHigh v3_DegreeTooHigh v5_DegreeTooHigh "ValueError.__new__"))
    (ec_DegreeTooHigh : (PySem.ErrG.refsT tail_ValueError bm_DegreeTooHigh && decide (PySem.W.alongIn K "__init__" bm_DegreeTooHigh = some (some (.builtin "ValueError.__init__")))) = true)
    (ej_DegreeTooHigh : PySem.W.findIn K (.ref C_DegreeTooHigh) "__init__" = some (some (.ref f_DegreeTooHigh)))
    (ee_DegreeTooHigh : PySem.ErrG.errB K C_DegreeTooHigh f_DegreeTooHigh ["at"] "ValueError" = true)
    (er_DegreeTooHigh : K.lookup f_DegreeTooHigh = some ⟨oc_DegreeTooHigh, od_DegreeTooHigh, .func (PySem.W.ksFn "__init__" ql_DegreeTooHigh (defArgs s_DegreeTooHigh_init) (defBody s_DegreeTooHigh_init) (defScope s_DegreeTooHigh_init) .none .none dc_DegreeTooHigh pm_DegreeTooHigh an_DegreeTooHigh (.ref d_DegreeTooHigh) ct_DegreeTooHigh x_DegreeTooHigh), os_DegreeTooHigh⟩)
    (es_DegreeTooHigh : PySem.W.codeIn K (.ref d_DegreeTooHigh) ql_DegreeTooHigh = true)
    (et_DegreeTooHigh : K.lookup x_DegreeTooHigh = some ⟨cl_DegreeTooHigh, cld_DegreeTooHigh, .cell (some (.ref C_DegreeTooHigh)), csl_DegreeTooHigh⟩)
    (eu_DegreeTooHigh : K.lookup d_DegreeTooHigh = some ⟨ccl_DegreeTooHigh, cdd_DegreeTooHigh, .fields vs_DegreeTooHigh, ccs_DegreeTooHigh⟩)
    (ev_DegreeTooHigh : vs_DegreeTooHigh[2]? = some (.str fl_DegreeTooHigh tf_DegreeTooHigh))
    (ew_DegreeTooHigh : ((l.prog.main.file : Str) == fl_DegreeTooHigh) = true)
    (ea_NoInverse : PySem.W.nsIn K mainGlobals "NoInverse" = some (some (.ref C_NoInverse)))
    (eb_NoInverse : K.lookup C_NoInverse = some (excClassObj nm_NoInverse qn_NoInverse C_NoInverse N_NoInverse bsl_NoInverse bm_NoInverse true sn_NoInverse sub_NoInverse ab_NoInverse col_NoInverse dd_NoInverse v0_NoInverse v1_NoInverse v2_NoInverse v3_NoInverse v5_NoInverse "ValueError.__new__"))
    (ec_NoInverse : (PySem.ErrG.refsT tail_ValueError bm_NoInverse && decide (PySem.W.alongIn K "__init__" bm_NoInverse = some (some (.builtin "ValueError.__init__")))) = true)
    (ej_NoInverse : PySem.W.findIn K (.ref C_NoInverse) "__init__" = some (some (.ref f_NoInverse)))
    (ee_NoInverse : PySem.ErrG.errB K C_NoInverse f_NoInverse ["number"] "ValueError" = true)
    (er_NoInverse : K.lookup f_NoInverse = some ⟨oc_NoInverse, od_NoInverse, .func (PySem.W.ksFn "__init__" ql_NoInverse (defArgs s_NoInverse_init) (defBody s_NoInverse_init) (defScope s_NoInverse_init) .none .none dc_NoInverse pm_NoInverse an_NoInverse (.ref d_NoInverse) ct_NoInverse x_NoInverse), os_NoInverse⟩)
    (es_NoInverse : PySem.W.codeIn K (.ref d_NoInverse) ql_NoInverse = true)
    (et_NoInverse : K.lookup x_NoInverse = some ⟨cl_NoInverse, cld_NoInverse, .cell (some (.ref C_NoInverse)), csl_NoInverse⟩)
    (eu_NoInverse : K.lookup d_NoInverse = some ⟨ccl_NoInverse, cdd_NoInverse, .fields vs_NoInverse, ccs_NoInverse⟩)
    (ev_NoInverse : vs_NoInverse[2]? = some (.str fl_NoInverse tf_NoInverse))
    (ew_NoInverse : ((l.prog.main.file : Str) == fl_NoInverse) = true)
    (ea_NotCommuting : PySem.W.nsIn K mainGlobals "NotCommuting" = some (some (.ref C_NotCommuting)))
    (eb_NotCommuting : K.lookup C_NotCommuting = some (excClassObj nm_NotCommuting qn_NotCommuting C_NotCommuting N_NotCommuting bsl_NotCommuting bm_NotCommuting true sn_NotCommuting sub_NotCommuting ab_NotCommuting col_NotCommuting dd_NotCommuting v0_NotCommuting v1_NotCommuting v2_NotCommuting v3_NotCommuting v5_NotCommuting "ValueError.__new__"))
    (ec_NotCommuting : (PySem.ErrG.refsT tail_ValueError bm_NotCommuting && decide (PySem.W.alongIn K "__init__" bm_NotCommuting = some (some (.builtin "ValueError.__init__")))) = true)
    (ej_NotCommuting : PySem.W.findIn K (.ref C_NotCommuting) "__init__" = some (some (.ref f_NotCommuting)))
    (ee_NotCommuting : PySem.ErrG.errB K C_NotCommuting f_NotCommuting [] "ValueError" = true)
    (er_NotCommuting : K.lookup f_NotCommuting = some ⟨oc_NotCommuting, od_NotCommuting, .func (PySem.W.ksFn "__init__" ql_NotCommuting (defArgs s_NotCommuting_init) (defBody s_NotCommuting_init) (defScope s_NotCommuting_init) .none .none dc_NotCommuting pm_NotCommuting an_NotCommuting (.ref d_NotCommuting) ct_NotCommuting x_NotCommuting), os_NotCommuting⟩)
    (es_NotCommuting : PySem.W.codeIn K (.ref d_NotCommuting) ql_NotCommuting = true)
    (et_NotCommuting : K.lookup x_NotCommuting = some ⟨cl_NotCommuting, cld_NotCommuting, .cell (some (.ref C_NotCommuting)), csl_NotCommuting⟩)
    (eu_NotCommuting : K.lookup d_NotCommuting = some ⟨ccl_NotCommuting, cdd_NotCommuting, .fields vs_NotCommuting, ccs_NotCommuting⟩)
    (ev_NotCommuting : vs_NotCommuting[2]? = some (.str fl_NotCommuting tf_NotCommuting))
    (ew_NotCommuting : ((l.prog.main.file : Str) == fl_NotCommuting) = true)
    (ea_NotWhole : PySem.W.nsIn K mainGlobals "NotWhole" = some (some (.ref C_NotWhole)))
    (eb_NotWhole : K.lookup C_NotWhole = some (excClassObj nm_NotWhole qn_NotWhole C_NotWhole N_NotWhole bsl_NotWhole bm_NotWhole true sn_NotWhole sub_NotWhole ab_NotWhole col_NotWhole dd_NotWhole v0_NotWhole v1_NotWhole v2_NotWhole v3_NotWhole v5_NotWhole "ValueError.__new__"))
    (ec_NotWhole : (PySem.ErrG.refsT tail_ValueError bm_NotWhole && decide (PySem.W.alongIn K "__init__" bm_NotWhole = some (some (.builtin "ValueError.__init__")))) = true)
    (ej_NotWhole : PySem.W.findIn K (.ref C_NotWhole) "__init__" = some (some (.ref f_NotWhole)))
    (ee_NotWhole : PySem.ErrG.errB K C_NotWhole f_NotWhole ["at"] "ValueError" = true)
    (er_NotWhole : K.lookup f_NotWhole = some ⟨oc_NotWhole, od_NotWhole, .func (PySem.W.ksFn "__init__" ql_NotWhole (defArgs s_NotWhole_init) (defBody s_NotWhole_init) (defScope s_NotWhole_init) .none .none dc_NotWhole pm_NotWhole an_NotWhole (.ref d_NotWhole) ct_NotWhole x_NotWhole), os_NotWhole⟩)
    (es_NotWhole : PySem.W.codeIn K (.ref d_NotWhole) ql_NotWhole = true)
    (et_NotWhole : K.lookup x_NotWhole = some ⟨cl_NotWhole, cld_NotWhole, .cell (some (.ref C_NotWhole)), csl_NotWhole⟩)
    (eu_NotWhole : K.lookup d_NotWhole = some ⟨ccl_NotWhole, cdd_NotWhole, .fields vs_NotWhole, ccs_NotWhole⟩)
    (ev_NotWhole : vs_NotWhole[2]? = some (.str fl_NotWhole tf_NotWhole))
    (ew_NotWhole : ((l.prog.main.file : Str) == fl_NotWhole) = true)
    (ea_NotStraight : PySem.W.nsIn K mainGlobals "NotStraight" = some (some (.ref C_NotStraight)))
    (eb_NotStraight : K.lookup C_NotStraight = some (excClassObj nm_NotStraight qn_NotStraight C_NotStraight N_NotStraight bsl_NotStraight bm_NotStraight true sn_NotStraight sub_NotStraight ab_NotStraight col_NotStraight dd_NotStraight v0_NotStraight v1_NotStraight v2_NotStraight v3_NotStraight v5_NotStraight "ValueError.__new__"))
    (ec_NotStraight : (PySem.ErrG.refsT tail_ValueError bm_NotStraight && decide (PySem.W.alongIn K "__init__" bm_NotStraight = some (some (.builtin "ValueError.__init__")))) = true)
    (ej_NotStraight : PySem.W.findIn K (.ref C_NotStraight) "__init__" = some (some (.ref f_NotStraight)))
    (ee_NotStraight : PySem.ErrG.errB K C_NotStraight f_NotStraight ["at"] "ValueError" = true)
    (er_NotStraight : K.lookup f_NotStraight = some ⟨oc_NotStraight, od_NotStraight, .func (PySem.W.ksFn "__init__" ql_NotStraight (defArgs s_NotStraight_init) (defBody s_NotStraight_init) (defScope s_NotStraight_init) .none .none dc_NotStraight pm_NotStraight an_NotStraight (.ref d_NotStraight) ct_NotStraight x_NotStraight), os_NotStraight⟩)
    (es_NotStraight : PySem.W.codeIn K (.ref d_NotStraight) ql_NotStraight = true)
    (et_NotStraight : K.lookup x_NotStraight = some ⟨cl_NotStraight, cld_NotStraight, .cell (some (.ref C_NotStraight)), csl_NotStraight⟩)
    (eu_NotStraight : K.lookup d_NotStraight = some ⟨ccl_NotStraight, cdd_NotStraight, .fields vs_NotStraight, ccs_NotStraight⟩)
    (ev_NotStraight : vs_NotStraight[2]? = some (.str fl_NotStraight tf_NotStraight))
    (ew_NotStraight : ((l.prog.main.file : Str) == fl_NotStraight) = true)
    (ea_NoUnit : PySem.W.nsIn K mainGlobals "NoUnit" = some (some (.ref C_NoUnit)))
    (eb_NoUnit : K.lookup C_NoUnit = some (excClassObj nm_NoUnit qn_NoUnit C_NoUnit N_NoUnit bsl_NoUnit bm_NoUnit true sn_NoUnit sub_NoUnit ab_NoUnit col_NoUnit dd_NoUnit v0_NoUnit v1_NoUnit v2_NoUnit v3_NoUnit v5_NoUnit "ValueError.__new__"))
    (ec_NoUnit : (PySem.ErrG.refsT tail_ValueError bm_NoUnit && decide (PySem.W.alongIn K "__init__" bm_NoUnit = some (some (.builtin "ValueError.__init__")))) = true)
    (ej_NoUnit : PySem.W.findIn K (.ref C_NoUnit) "__init__" = some (some (.ref f_NoUnit)))
    (ee_NoUnit : PySem.ErrG.errB K C_NoUnit f_NoUnit ["at"] "ValueError" = true)
    (er_NoUnit : K.lookup f_NoUnit = some ⟨oc_NoUnit, od_NoUnit, .func (PySem.W.ksFn "__init__" ql_NoUnit (defArgs s_NoUnit_init) (defBody s_NoUnit_init) (defScope s_NoUnit_init) .none .none dc_NoUnit pm_NoUnit an_NoUnit (.ref d_NoUnit) ct_NoUnit x_NoUnit), os_NoUnit⟩)
    (es_NoUnit : PySem.W.codeIn K (.ref d_NoUnit) ql_NoUnit = true)
    (et_NoUnit : K.lookup x_NoUnit = some ⟨cl_NoUnit, cld_NoUnit, .cell (some (.ref C_NoUnit)), csl_NoUnit⟩)
    (eu_NoUnit : K.lookup d_NoUnit = some ⟨ccl_NoUnit, cdd_NoUnit, .fields vs_NoUnit, ccs_NoUnit⟩)
    (ev_NoUnit : vs_NoUnit[2]? = some (.str fl_NoUnit tf_NoUnit))
    (ew_NoUnit : ((l.prog.main.file : Str) == fl_NoUnit) = true)
    (ea_Unused : PySem.W.nsIn K mainGlobals "Unused" = some (some (.ref C_Unused)))
    (eb_Unused : K.lookup C_Unused = some (excClassObj nm_Unused qn_Unused C_Unused N_Unused bsl_Unused bm_Unused true sn_Unused sub_Unused ab_Unused col_Unused dd_Unused v0_Unused v1_Unused v2_Unused v3_Unused v5_Unused "ValueError.__new__"))
    (ec_Unused : (PySem.ErrG.refsT tail_ValueError bm_Unused && decide (PySem.W.alongIn K "__init__" bm_Unused = some (some (.builtin "ValueError.__init__")))) = true)
    (ej_Unused : PySem.W.findIn K (.ref C_Unused) "__init__" = some (some (.ref f_Unused)))
    (ee_Unused : PySem.ErrG.errB K C_Unused f_Unused ["name"] "ValueError" = true)
    (er_Unused : K.lookup f_Unused = some ⟨oc_Unused, od_Unused, .func (PySem.W.ksFn "__init__" ql_Unused (defArgs s_Unused_init) (defBody s_Unused_init) (defScope s_Unused_init) .none .none dc_Unused pm_Unused an_Unused (.ref d_Unused) ct_Unused x_Unused), os_Unused⟩)
    (es_Unused : PySem.W.codeIn K (.ref d_Unused) ql_Unused = true)
    (et_Unused : K.lookup x_Unused = some ⟨cl_Unused, cld_Unused, .cell (some (.ref C_Unused)), csl_Unused⟩)
    (eu_Unused : K.lookup d_Unused = some ⟨ccl_Unused, cdd_Unused, .fields vs_Unused, ccs_Unused⟩)
    (ev_Unused : vs_Unused[2]? = some (.str fl_Unused tf_Unused))
    (ew_Unused : ((l.prog.main.file : Str) == fl_Unused) = true)
    (ea_WrongCount : PySem.W.nsIn K mainGlobals "WrongCount" = some (some (.ref C_WrongCount)))
    (eb_WrongCount : K.lookup C_WrongCount = some (excClassObj nm_WrongCount qn_WrongCount C_WrongCount N_WrongCount bsl_WrongCount bm_WrongCount true sn_WrongCount sub_WrongCount ab_WrongCount col_WrongCount dd_WrongCount v0_WrongCount v1_WrongCount v2_WrongCount v3_WrongCount v5_WrongCount "ValueError.__new__"))
    (ec_WrongCount : (PySem.ErrG.refsT tail_ValueError bm_WrongCount && decide (PySem.W.alongIn K "__init__" bm_WrongCount = some (some (.builtin "ValueError.__init__")))) = true)
    (ej_WrongCount : PySem.W.findIn K (.ref C_WrongCount) "__init__" = some (some (.ref f_WrongCount)))
    (ee_WrongCount : PySem.ErrG.errB K C_WrongCount f_WrongCount ["given"] "ValueError" = true)
    (er_WrongCount : K.lookup f_WrongCount = some ⟨oc_WrongCount, od_WrongCount, .func (PySem.W.ksFn "__init__" ql_WrongCount (defArgs s_WrongCount_init) (defBody s_WrongCount_init) (defScope s_WrongCount_init) .none .none dc_WrongCount pm_WrongCount an_WrongCount (.ref d_WrongCount) ct_WrongCount x_WrongCount), os_WrongCount⟩)
    (es_WrongCount : PySem.W.codeIn K (.ref d_WrongCount) ql_WrongCount = true)
    (et_WrongCount : K.lookup x_WrongCount = some ⟨cl_WrongCount, cld_WrongCount, .cell (some (.ref C_WrongCount)), csl_WrongCount⟩)
    (eu_WrongCount : K.lookup d_WrongCount = some ⟨ccl_WrongCount, cdd_WrongCount, .fields vs_WrongCount, ccs_WrongCount⟩)
    (ev_WrongCount : vs_WrongCount[2]? = some (.str fl_WrongCount tf_WrongCount))
    (ew_WrongCount : ((l.prog.main.file : Str) == fl_WrongCount) = true)
    (ea_TooMany : PySem.W.nsIn K mainGlobals "TooMany" = some (some (.ref C_TooMany)))
    (eb_TooMany : K.lookup C_TooMany = some (excClassObj nm_TooMany qn_TooMany C_TooMany N_TooMany bsl_TooMany bm_TooMany true sn_TooMany sub_TooMany ab_TooMany col_TooMany dd_TooMany v0_TooMany v1_TooMany v2_TooMany v3_TooMany v5_TooMany "ValueError.__new__"))
    (ec_TooMany : (PySem.ErrG.refsT tail_ValueError bm_TooMany && decide (PySem.W.alongIn K "__init__" bm_TooMany = some (some (.builtin "ValueError.__init__")))) = true)
    (ej_TooMany : PySem.W.findIn K (.ref C_TooMany) "__init__" = some (some (.ref f_TooMany)))
    (ee_TooMany : PySem.ErrG.errB K C_TooMany f_TooMany ["most"] "ValueError" = true)
    (er_TooMany : K.lookup f_TooMany = some ⟨oc_TooMany, od_TooMany, .func (PySem.W.ksFn "__init__" ql_TooMany (defArgs s_TooMany_init) (defBody s_TooMany_init) (defScope s_TooMany_init) .none .none dc_TooMany pm_TooMany an_TooMany (.ref d_TooMany) ct_TooMany x_TooMany), os_TooMany⟩)
    (es_TooMany : PySem.W.codeIn K (.ref d_TooMany) ql_TooMany = true)
    (et_TooMany : K.lookup x_TooMany = some ⟨cl_TooMany, cld_TooMany, .cell (some (.ref C_TooMany)), csl_TooMany⟩)
    (eu_TooMany : K.lookup d_TooMany = some ⟨ccl_TooMany, cdd_TooMany, .fields vs_TooMany, ccs_TooMany⟩)
    (ev_TooMany : vs_TooMany[2]? = some (.str fl_TooMany tf_TooMany))
    (ew_TooMany : ((l.prog.main.file : Str) == fl_TooMany) = true)
    (ea_TooGreat : PySem.W.nsIn K mainGlobals "TooGreat" = some (some (.ref C_TooGreat)))
    (eb_TooGreat : K.lookup C_TooGreat = some (excClassObj nm_TooGreat qn_TooGreat C_TooGreat N_TooGreat bsl_TooGreat bm_TooGreat true sn_TooGreat sub_TooGreat ab_TooGreat col_TooGreat dd_TooGreat v0_TooGreat v1_TooGreat v2_TooGreat v3_TooGreat v5_TooGreat "ValueError.__new__"))
    (ec_TooGreat : (PySem.ErrG.refsT tail_ValueError bm_TooGreat && decide (PySem.W.alongIn K "__init__" bm_TooGreat = some (some (.builtin "ValueError.__init__")))) = true)
    (ej_TooGreat : PySem.W.findIn K (.ref C_TooGreat) "__init__" = some (some (.ref f_TooGreat)))
    (ee_TooGreat : PySem.ErrG.errB K C_TooGreat f_TooGreat ["most"] "ValueError" = true)
    (er_TooGreat : K.lookup f_TooGreat = some ⟨oc_TooGreat, od_TooGreat, .func (PySem.W.ksFn "__init__" ql_TooGreat (defArgs s_TooGreat_init) (defBody s_TooGreat_init) (defScope s_TooGreat_init) .none .none dc_TooGreat pm_TooGreat an_TooGreat (.ref d_TooGreat) ct_TooGreat x_TooGreat), os_TooGreat⟩)
    (es_TooGreat : PySem.W.codeIn K (.ref d_TooGreat) ql_TooGreat = true)
    (et_TooGreat : K.lookup x_TooGreat = some ⟨cl_TooGreat, cld_TooGreat, .cell (some (.ref C_TooGreat)), csl_TooGreat⟩)
    (eu_TooGreat : K.lookup d_TooGreat = some ⟨ccl_TooGreat, cdd_TooGreat, .fields vs_TooGreat, ccs_TooGreat⟩)
    (ev_TooGreat : vs_TooGreat[2]? = some (.str fl_TooGreat tf_TooGreat))
    (ew_TooGreat : ((l.prog.main.file : Str) == fl_TooGreat) = true)
    (ea_EmptyRealm : PySem.W.nsIn K mainGlobals "EmptyRealm" = some (some (.ref C_EmptyRealm)))
    (eb_EmptyRealm : K.lookup C_EmptyRealm = some (excClassObj nm_EmptyRealm qn_EmptyRealm C_EmptyRealm N_EmptyRealm bsl_EmptyRealm bm_EmptyRealm true sn_EmptyRealm sub_EmptyRealm ab_EmptyRealm col_EmptyRealm dd_EmptyRealm v0_EmptyRealm v1_EmptyRealm v2_EmptyRealm v3_EmptyRealm v5_EmptyRealm "ValueError.__new__"))
    (ec_EmptyRealm : (PySem.ErrG.refsT tail_ValueError bm_EmptyRealm && decide (PySem.W.alongIn K "__init__" bm_EmptyRealm = some (some (.builtin "ValueError.__init__")))) = true)
    (ej_EmptyRealm : PySem.W.findIn K (.ref C_EmptyRealm) "__init__" = some (some (.ref f_EmptyRealm)))
    (ee_EmptyRealm : PySem.ErrG.errB K C_EmptyRealm f_EmptyRealm [] "ValueError" = true)
    (er_EmptyRealm : K.lookup f_EmptyRealm = some ⟨oc_EmptyRealm, od_EmptyRealm, .func (PySem.W.ksFn "__init__" ql_EmptyRealm (defArgs s_EmptyRealm_init) (defBody s_EmptyRealm_init) (defScope s_EmptyRealm_init) .none .none dc_EmptyRealm pm_EmptyRealm an_EmptyRealm (.ref d_EmptyRealm) ct_EmptyRealm x_EmptyRealm), os_EmptyRealm⟩)
    (es_EmptyRealm : PySem.W.codeIn K (.ref d_EmptyRealm) ql_EmptyRealm = true)
    (et_EmptyRealm : K.lookup x_EmptyRealm = some ⟨cl_EmptyRealm, cld_EmptyRealm, .cell (some (.ref C_EmptyRealm)), csl_EmptyRealm⟩)
    (eu_EmptyRealm : K.lookup d_EmptyRealm = some ⟨ccl_EmptyRealm, cdd_EmptyRealm, .fields vs_EmptyRealm, ccs_EmptyRealm⟩)
    (ev_EmptyRealm : vs_EmptyRealm[2]? = some (.str fl_EmptyRealm tf_EmptyRealm))
    (ew_EmptyRealm : ((l.prog.main.file : Str) == fl_EmptyRealm) = true)
    (ea_Unsound : PySem.W.nsIn K mainGlobals "Unsound" = some (some (.ref C_Unsound)))
    (eb_Unsound : K.lookup C_Unsound = some (excClassObj nm_Unsound qn_Unsound C_Unsound N_Unsound bsl_Unsound bm_Unsound true sn_Unsound sub_Unsound ab_Unsound col_Unsound dd_Unsound v0_Unsound v1_Unsound v2_Unsound v3_Unsound v5_Unsound "ValueError.__new__"))
    (ec_Unsound : (PySem.ErrG.refsT tail_ValueError bm_Unsound && decide (PySem.W.alongIn K "__init__" bm_Unsound = some (some (.builtin "ValueError.__init__")))) = true)
    (ej_Unsound : PySem.W.findIn K (.ref C_Unsound) "__init__" = some (some (.ref f_Unsound)))
    (ee_Unsound : PySem.ErrG.errB K C_Unsound f_Unsound ["number"] "ValueError" = true)
    (er_Unsound : K.lookup f_Unsound = some ⟨oc_Unsound, od_Unsound, .func (PySem.W.ksFn "__init__" ql_Unsound (defArgs s_Unsound_init) (defBody s_Unsound_init) (defScope s_Unsound_init) .none .none dc_Unsound pm_Unsound an_Unsound (.ref d_Unsound) ct_Unsound x_Unsound), os_Unsound⟩)
    (es_Unsound : PySem.W.codeIn K (.ref d_Unsound) ql_Unsound = true)
    (et_Unsound : K.lookup x_Unsound = some ⟨cl_Unsound, cld_Unsound, .cell (some (.ref C_Unsound)), csl_Unsound⟩)
    (eu_Unsound : K.lookup d_Unsound = some ⟨ccl_Unsound, cdd_Unsound, .fields vs_Unsound, ccs_Unsound⟩)
    (ev_Unsound : vs_Unsound[2]? = some (.str fl_Unsound tf_Unsound))
    (ew_Unsound : ((l.prog.main.file : Str) == fl_Unsound) = true)
    (ea_DuplicateName : PySem.W.nsIn K mainGlobals "DuplicateName" = some (some (.ref C_DuplicateName)))
    (eb_DuplicateName : K.lookup C_DuplicateName = some (excClassObj nm_DuplicateName qn_DuplicateName C_DuplicateName N_DuplicateName bsl_DuplicateName bm_DuplicateName true sn_DuplicateName sub_DuplicateName ab_DuplicateName col_DuplicateName dd_DuplicateName v0_DuplicateName v1_DuplicateName v2_DuplicateName v3_DuplicateName v5_DuplicateName "ValueError.__new__"))
    (ec_DuplicateName : (PySem.ErrG.refsT tail_ValueError bm_DuplicateName && decide (PySem.W.alongIn K "__init__" bm_DuplicateName = some (some (.builtin "ValueError.__init__")))) = true)
    (ej_DuplicateName : PySem.W.findIn K (.ref C_DuplicateName) "__init__" = some (some (.ref f_DuplicateName)))
    (ee_DuplicateName : PySem.ErrG.errB K C_DuplicateName f_DuplicateName ["name"] "ValueError" = true)
    (er_DuplicateName : K.lookup f_DuplicateName = some ⟨oc_DuplicateName, od_DuplicateName, .func (PySem.W.ksFn "__init__" ql_DuplicateName (defArgs s_DuplicateName_init) (defBody s_DuplicateName_init) (defScope s_DuplicateName_init) .none .none dc_DuplicateName pm_DuplicateName an_DuplicateName (.ref d_DuplicateName) ct_DuplicateName x_DuplicateName), os_DuplicateName⟩)
    (es_DuplicateName : PySem.W.codeIn K (.ref d_DuplicateName) ql_DuplicateName = true)
    (et_DuplicateName : K.lookup x_DuplicateName = some ⟨cl_DuplicateName, cld_DuplicateName, .cell (some (.ref C_DuplicateName)), csl_DuplicateName⟩)
    (eu_DuplicateName : K.lookup d_DuplicateName = some ⟨ccl_DuplicateName, cdd_DuplicateName, .fields vs_DuplicateName, ccs_DuplicateName⟩)
    (ev_DuplicateName : vs_DuplicateName[2]? = some (.str fl_DuplicateName tf_DuplicateName))
    (ew_DuplicateName : ((l.prog.main.file : Str) == fl_DuplicateName) = true)
    (ea_InUse : PySem.W.nsIn K mainGlobals "InUse" = some (some (.ref C_InUse)))
    (eb_InUse : K.lookup C_InUse = some (excClassObj nm_InUse qn_InUse C_InUse N_InUse bsl_InUse bm_InUse true sn_InUse sub_InUse ab_InUse col_InUse dd_InUse v0_InUse v1_InUse v2_InUse v3_InUse v5_InUse "ValueError.__new__"))
    (ec_InUse : (PySem.ErrG.refsT tail_ValueError bm_InUse && decide (PySem.W.alongIn K "__init__" bm_InUse = some (some (.builtin "ValueError.__init__")))) = true)
    (ej_InUse : PySem.W.findIn K (.ref C_InUse) "__init__" = some (some (.ref f_InUse)))
    (ee_InUse : PySem.ErrG.errB K C_InUse f_InUse ["number"] "ValueError" = true)
    (er_InUse : K.lookup f_InUse = some ⟨oc_InUse, od_InUse, .func (PySem.W.ksFn "__init__" ql_InUse (defArgs s_InUse_init) (defBody s_InUse_init) (defScope s_InUse_init) .none .none dc_InUse pm_InUse an_InUse (.ref d_InUse) ct_InUse x_InUse), os_InUse⟩)
    (es_InUse : PySem.W.codeIn K (.ref d_InUse) ql_InUse = true)
    (et_InUse : K.lookup x_InUse = some ⟨cl_InUse, cld_InUse, .cell (some (.ref C_InUse)), csl_InUse⟩)
    (eu_InUse : K.lookup d_InUse = some ⟨ccl_InUse, cdd_InUse, .fields vs_InUse, ccs_InUse⟩)
    (ev_InUse : vs_InUse[2]? = some (.str fl_InUse tf_InUse))
    (ew_InUse : ((l.prog.main.file : Str) == fl_InUse) = true)
    (ea_Broken : PySem.W.nsIn K mainGlobals "Broken" = some (some (.ref C_Broken)))
    (eb_Broken : K.lookup C_Broken = some (excClassObj nm_Broken qn_Broken C_Broken N_Broken bsl_Broken bm_Broken true sn_Broken sub_Broken ab_Broken col_Broken dd_Broken v0_Broken v1_Broken v2_Broken v3_Broken v5_Broken "ValueError.__new__"))
    (ec_Broken : (PySem.ErrG.refsT tail_ValueError bm_Broken && decide (PySem.W.alongIn K "__init__" bm_Broken = some (some (.builtin "ValueError.__init__")))) = true)
    (ej_Broken : PySem.W.findIn K (.ref C_Broken) "__init__" = some (some (.ref f_Broken)))
    (ee_Broken : PySem.ErrG.errB K C_Broken f_Broken ["number"] "ValueError" = true)
    (er_Broken : K.lookup f_Broken = some ⟨oc_Broken, od_Broken, .func (PySem.W.ksFn "__init__" ql_Broken (defArgs s_Broken_init) (defBody s_Broken_init) (defScope s_Broken_init) .none .none dc_Broken pm_Broken an_Broken (.ref d_Broken) ct_Broken x_Broken), os_Broken⟩)
    (es_Broken : PySem.W.codeIn K (.ref d_Broken) ql_Broken = true)
    (et_Broken : K.lookup x_Broken = some ⟨cl_Broken, cld_Broken, .cell (some (.ref C_Broken)), csl_Broken⟩)
    (eu_Broken : K.lookup d_Broken = some ⟨ccl_Broken, cdd_Broken, .fields vs_Broken, ccs_Broken⟩)
    (ev_Broken : vs_Broken[2]? = some (.str fl_Broken tf_Broken))
    (ew_Broken : ((l.prog.main.file : Str) == fl_Broken) = true)
    (ea_Full : PySem.W.nsIn K mainGlobals "Full" = some (some (.ref C_Full)))
    (eb_Full : K.lookup C_Full = some (excClassObj nm_Full qn_Full C_Full N_Full bsl_Full bm_Full true sn_Full sub_Full ab_Full col_Full dd_Full v0_Full v1_Full v2_Full v3_Full v5_Full "ValueError.__new__"))
    (ec_Full : (PySem.ErrG.refsT tail_ValueError bm_Full && decide (PySem.W.alongIn K "__init__" bm_Full = some (some (.builtin "ValueError.__init__")))) = true)
    (ej_Full : PySem.W.findIn K (.ref C_Full) "__init__" = some (some (.ref f_Full)))
    (ee_Full : PySem.ErrG.errB K C_Full f_Full ["most"] "ValueError" = true)
    (er_Full : K.lookup f_Full = some ⟨oc_Full, od_Full, .func (PySem.W.ksFn "__init__" ql_Full (defArgs s_Full_init) (defBody s_Full_init) (defScope s_Full_init) .none .none dc_Full pm_Full an_Full (.ref d_Full) ct_Full x_Full), os_Full⟩)
    (es_Full : PySem.W.codeIn K (.ref d_Full) ql_Full = true)
    (et_Full : K.lookup x_Full = some ⟨cl_Full, cld_Full, .cell (some (.ref C_Full)), csl_Full⟩)
    (eu_Full : K.lookup d_Full = some ⟨ccl_Full, cdd_Full, .fields vs_Full, ccs_Full⟩)
    (ev_Full : vs_Full[2]? = some (.str fl_Full tf_Full))
    (ew_Full : ((l.prog.main.file : Str) == fl_Full) = true)
    (ea_UnknownName : PySem.W.nsIn K mainGlobals "UnknownName" = some (some (.ref C_UnknownName)))
    (eb_UnknownName : K.lookup C_UnknownName = some (excClassObj nm_UnknownName qn_UnknownName C_UnknownName N_UnknownName bsl_UnknownName bm_UnknownName true sn_UnknownName sub_UnknownName ab_UnknownName col_UnknownName dd_UnknownName v0_UnknownName v1_UnknownName v2_UnknownName v3_UnknownName v5_UnknownName "LookupError.__new__"))
    (ec_UnknownName : (PySem.ErrG.refsT tail_LookupError bm_UnknownName && decide (PySem.W.alongIn K "__init__" bm_UnknownName = some (some (.builtin "LookupError.__init__")))) = true)
    (ej_UnknownName : PySem.W.findIn K (.ref C_UnknownName) "__init__" = some (some (.ref f_UnknownName)))
    (ee_UnknownName : PySem.ErrG.errB K C_UnknownName f_UnknownName ["name"] "LookupError" = true)
    (er_UnknownName : K.lookup f_UnknownName = some ⟨oc_UnknownName, od_UnknownName, .func (PySem.W.ksFn "__init__" ql_UnknownName (defArgs s_UnknownName_init) (defBody s_UnknownName_init) (defScope s_UnknownName_init) .none .none dc_UnknownName pm_UnknownName an_UnknownName (.ref d_UnknownName) ct_UnknownName x_UnknownName), os_UnknownName⟩)
    (es_UnknownName : PySem.W.codeIn K (.ref d_UnknownName) ql_UnknownName = true)
    (et_UnknownName : K.lookup x_UnknownName = some ⟨cl_UnknownName, cld_UnknownName, .cell (some (.ref C_UnknownName)), csl_UnknownName⟩)
    (eu_UnknownName : K.lookup d_UnknownName = some ⟨ccl_UnknownName, cdd_UnknownName, .fields vs_UnknownName, ccs_UnknownName⟩)
    (ev_UnknownName : vs_UnknownName[2]? = some (.str fl_UnknownName tf_UnknownName))
    (ew_UnknownName : ((l.prog.main.file : Str) == fl_UnknownName) = true)
    (ea_UnknownNumber : PySem.W.nsIn K mainGlobals "UnknownNumber" = some (some (.ref C_UnknownNumber)))
    (eb_UnknownNumber : K.lookup C_UnknownNumber = some (excClassObj nm_UnknownNumber qn_UnknownNumber C_UnknownNumber N_UnknownNumber bsl_UnknownNumber bm_UnknownNumber true sn_UnknownNumber sub_UnknownNumber ab_UnknownNumber col_UnknownNumber dd_UnknownNumber v0_UnknownNumber v1_UnknownNumber v2_UnknownNumber v3_UnknownNumber v5_UnknownNumber "LookupError.__new__"))
    (ec_UnknownNumber : (PySem.ErrG.refsT tail_LookupError bm_UnknownNumber && decide (PySem.W.alongIn K "__init__" bm_UnknownNumber = some (some (.builtin "LookupError.__init__")))) = true)
    (ej_UnknownNumber : PySem.W.findIn K (.ref C_UnknownNumber) "__init__" = some (some (.ref f_UnknownNumber)))
    (ee_UnknownNumber : PySem.ErrG.errB K C_UnknownNumber f_UnknownNumber ["number"] "LookupError" = true)
    (er_UnknownNumber : K.lookup f_UnknownNumber = some ⟨oc_UnknownNumber, od_UnknownNumber, .func (PySem.W.ksFn "__init__" ql_UnknownNumber (defArgs s_UnknownNumber_init) (defBody s_UnknownNumber_init) (defScope s_UnknownNumber_init) .none .none dc_UnknownNumber pm_UnknownNumber an_UnknownNumber (.ref d_UnknownNumber) ct_UnknownNumber x_UnknownNumber), os_UnknownNumber⟩)
    (es_UnknownNumber : PySem.W.codeIn K (.ref d_UnknownNumber) ql_UnknownNumber = true)
    (et_UnknownNumber : K.lookup x_UnknownNumber = some ⟨cl_UnknownNumber, cld_UnknownNumber, .cell (some (.ref C_UnknownNumber)), csl_UnknownNumber⟩)
    (eu_UnknownNumber : K.lookup d_UnknownNumber = some ⟨ccl_UnknownNumber, cdd_UnknownNumber, .fields vs_UnknownNumber, ccs_UnknownNumber⟩)
    (ev_UnknownNumber : vs_UnknownNumber[2]? = some (.str fl_UnknownNumber tf_UnknownNumber))
    (ew_UnknownNumber : ((l.prog.main.file : Str) == fl_UnknownNumber) = true)
    (ea_NothingLeft : PySem.W.nsIn K mainGlobals "NothingLeft" = some (some (.ref C_NothingLeft)))
    (eb_NothingLeft : K.lookup C_NothingLeft = some (excClassObj nm_NothingLeft qn_NothingLeft C_NothingLeft N_NothingLeft bsl_NothingLeft bm_NothingLeft true sn_NothingLeft sub_NothingLeft ab_NothingLeft col_NothingLeft dd_NothingLeft v0_NothingLeft v1_NothingLeft v2_NothingLeft v3_NothingLeft v5_NothingLeft "IndexError.__new__"))
    (ec_NothingLeft : (PySem.ErrG.refsT tail_IndexError bm_NothingLeft && decide (PySem.W.alongIn K "__init__" bm_NothingLeft = some (some (.builtin "IndexError.__init__")))) = true)
    (ej_NothingLeft : PySem.W.findIn K (.ref C_NothingLeft) "__init__" = some (some (.ref f_NothingLeft)))
    (ee_NothingLeft : PySem.ErrG.errB K C_NothingLeft f_NothingLeft [] "IndexError" = true)
    (er_NothingLeft : K.lookup f_NothingLeft = some ⟨oc_NothingLeft, od_NothingLeft, .func (PySem.W.ksFn "__init__" ql_NothingLeft (defArgs s_NothingLeft_init) (defBody s_NothingLeft_init) (defScope s_NothingLeft_init) .none .none dc_NothingLeft pm_NothingLeft an_NothingLeft (.ref d_NothingLeft) ct_NothingLeft x_NothingLeft), os_NothingLeft⟩)
    (es_NothingLeft : PySem.W.codeIn K (.ref d_NothingLeft) ql_NothingLeft = true)
    (et_NothingLeft : K.lookup x_NothingLeft = some ⟨cl_NothingLeft, cld_NothingLeft, .cell (some (.ref C_NothingLeft)), csl_NothingLeft⟩)
    (eu_NothingLeft : K.lookup d_NothingLeft = some ⟨ccl_NothingLeft, cdd_NothingLeft, .fields vs_NothingLeft, ccs_NothingLeft⟩)
    (ev_NothingLeft : vs_NothingLeft[2]? = some (.str fl_NothingLeft tf_NothingLeft))
    (ew_NothingLeft : ((l.prog.main.file : Str) == fl_NothingLeft) = true)
    (mRE : PySem.W.nsIn K mainGlobals "RingError" = some (some (.ref C_RingError)))
    (mMI : PySem.W.nsIn K mainGlobals "Missing" = some (some (.ref C_Missing)))
    (kt : kitB K ⟨C_InvalidNumber, C_InvalidThing, C_InvalidRing, C_InvalidTable, C_InvalidName, C_InvalidTerm, C_InvalidHead, C_InvalidStep, C_InvalidText, C_InvalidLine, C_InvalidProduct, C_InvalidOrder, C_InvalidCommand, C_DegreeTooHigh, C_NoInverse, C_NotCommuting, C_NotWhole, C_NotStraight, C_NoUnit, C_Unused, C_WrongCount, C_TooMany, C_TooGreat, C_EmptyRealm, C_Unsound, C_DuplicateName, C_InUse, C_Broken, C_Full, C_UnknownName, C_UnknownNumber, C_NothingLeft, C_RingError, C_Missing⟩ = true) :
    ∃ fd : FuncData, (∀ (s : Shared) (v : Value), BindsTo s fd ⟨[v], []⟩ [("_law_script", v)]) ∧ ∀ base : Heap, K.In base → base.Ns mainGlobals mg → FnOk l.prog w K mg base CX0 6 fa fd ["_law_script"] (spLaw K) := by
  have F_l_bag := fun_mk (st := s_l_bag) l1 c1 k1
  have b_l_bag := F_l_bag.binds (ps := ["_law_script"]) fun _ _ _ _ _ _ us hl => match us, hl with | [_], _ => rfl
  have A_l_bag : Fn K mg "_law_bag" s_l_bag ["_law_script"] := ⟨_, _, F_l_bag, PySem.W.mg_of X G a1, b_l_bag⟩
  have F_l_draw := fun_mk (st := s_l_draw) l2 c2 k2
  have b_l_draw := F_l_draw.binds (ps := ["_law_bag_here", "_law_many"]) fun _ _ _ _ _ _ us hl => match us, hl with | [_, _], _ => rfl
  have A_l_draw : Fn K mg "_law_draw" s_l_draw ["_law_bag_here", "_law_many"] := ⟨_, _, F_l_draw, PySem.W.mg_of X G a2, b_l_draw⟩
  have F_l_pick := fun_mk (st := s_l_pick) l3 c3 k3
  have b_l_pick := F_l_pick.binds (ps := ["_law_bag_here", "_law_some"]) fun _ _ _ _ _ _ us hl => match us, hl with | [_, _], _ => rfl
  have A_l_pick : Fn K mg "_law_pick" s_l_pick ["_law_bag_here", "_law_some"] := ⟨_, _, F_l_pick, PySem.W.mg_of X G a3, b_l_pick⟩
  have F_l_same := fun_mk (st := s_l_same) l4 c4 k4
  have b_l_same := F_l_same.binds (ps := ["_law_found", "_law_due"]) fun _ _ _ _ _ _ us hl => match us, hl with | [_, _], _ => rfl
  have A_l_same : Fn K mg "_law_same" s_l_same ["_law_found", "_law_due"] := ⟨_, _, F_l_same, PySem.W.mg_of X G a4, b_l_same⟩
  have F_l_field := fun_mk (st := s_l_field) l5 c5 k5
  have b_l_field := F_l_field.binds (ps := ["_law_e"]) fun _ _ _ _ _ _ us hl => match us, hl with | [_], _ => rfl
  have A_l_field : Fn K mg "_law_field" s_l_field ["_law_e"] := ⟨_, _, F_l_field, PySem.W.mg_of X G a5, b_l_field⟩
  have F_l_odd := fun_mk (st := s_l_odd) l6 c6 k6
  have b_l_odd := F_l_odd.binds (ps := ["_law_bag_here"]) fun _ _ _ _ _ _ us hl => match us, hl with | [_], _ => rfl
  have A_l_odd : Fn K mg "_law_odd" s_l_odd ["_law_bag_here"] := ⟨_, _, F_l_odd, PySem.W.mg_of X G a6, b_l_odd⟩
  have F_l_by_word := fun_mk (st := s_l_by_word) l7 c7 k7
  have b_l_by_word := F_l_by_word.binds (ps := ["_law_one", "_law_two"]) fun _ _ _ _ _ _ us hl => match us, hl with | [_, _], _ => rfl
  have A_l_by_word : Fn K mg "_law_by_word" s_l_by_word ["_law_one", "_law_two"] := ⟨_, _, F_l_by_word, PySem.W.mg_of X G a7, b_l_by_word⟩
  have F_law := fun_mk (st := s_law) l8 c8 k8
  have b_law := F_law.binds (ps := ["_law_script"]) fun _ _ _ _ _ _ us hl => match us, hl with | [_], _ => rfl
  have A_law : Fn K mg "law" s_law ["_law_script"] := ⟨_, _, F_law, PySem.W.mg_of X G a8, b_law⟩
  have B : Blt mg := ⟨PySem.W.mg_none_of X G z_IndexError, PySem.W.mg_none_of X G z_LookupError, PySem.W.mg_none_of X G z_ValueError, PySem.W.mg_none_of X G z_abs, PySem.W.mg_none_of X G z_all, PySem.W.mg_none_of X G z_bool, PySem.W.mg_none_of X G z_int, PySem.W.mg_none_of X G z_isinstance, PySem.W.mg_none_of X G z_len, PySem.W.mg_none_of X G z_list, PySem.W.mg_none_of X G z_range, PySem.W.mg_none_of X G z_str, PySem.W.mg_none_of X G z_tuple, PySem.W.mg_none_of X G z_zip⟩
  have E_InvalidNumber : ErrK l.prog K mg "InvalidNumber" "InvalidNumber" ["given"] ["given"] (fun ws => ws) C_InvalidNumber := ⟨PySem.ErrG.mk_of PySem.ErrG.bVE (PySem.W.mg_of X G ea_InvalidNumber) (PySem.W.mg_none_of X G z_super) ⟨_, _, _, _, _, _, _, _, _, _, _, _, _, _, _, eb_InvalidNumber, ec_InvalidNumber⟩ ej_InvalidNumber ee_InvalidNumber opq ⟨_, _, _, et_InvalidNumber⟩ ⟨_, _, _, _, _, _, eu_InvalidNumber, ev_InvalidNumber, ew_InvalidNumber⟩ topSuper er_InvalidNumber es_InvalidNumber bo_InvalidNumber (by decide +kernel) (by decide) (by decide +kernel) bs_InvalidNumber bk_InvalidNumber⟩
  have U_InvalidNumber : PySem.ErrG.ErrU K C_InvalidNumber ["given"] := PySem.ErrG.use_of ee_InvalidNumber clsGet clsTakes
  have E_InvalidThing : ErrK l.prog K mg "InvalidThing" "InvalidThing" ["given"] ["given"] (fun ws => ws) C_InvalidThing := ⟨PySem.ErrG.mk_of PySem.ErrG.bVE (PySem.W.mg_of X G ea_InvalidThing) (PySem.W.mg_none_of X G z_super) ⟨_, _, _, _, _, _, _, _, _, _, _, _, _, _, _, eb_InvalidThing, ec_InvalidThing⟩ ej_InvalidThing ee_InvalidThing opq ⟨_, _, _, et_InvalidThing⟩ ⟨_, _, _, _, _, _, eu_InvalidThing, ev_InvalidThing, ew_InvalidThing⟩ topSuper er_InvalidThing es_InvalidThing bo_InvalidThing (by decide +kernel) (by decide) (by decide +kernel) bs_InvalidThing bk_InvalidThing⟩
  have U_InvalidThing : PySem.ErrG.ErrU K C_InvalidThing ["given"] := PySem.ErrG.use_of ee_InvalidThing clsGet clsTakes
  have E_InvalidRing : ErrK l.prog K mg "InvalidRing" "InvalidRing" ["given"] ["given"] (fun ws => ws) C_InvalidRing := ⟨PySem.ErrG.mk_of PySem.ErrG.bVE (PySem.W.mg_of X G ea_InvalidRing) (PySem.W.mg_none_of X G z_super) ⟨_, _, _, _, _, _, _, _, _, _, _, _, _, _, _, eb_InvalidRing, ec_InvalidRing⟩ ej_InvalidRing ee_InvalidRing opq ⟨_, _, _, et_InvalidRing⟩ ⟨_, _, _, _, _, _, eu_InvalidRing, ev_InvalidRing, ew_InvalidRing⟩ topSuper er_InvalidRing es_InvalidRing bo_InvalidRing (by decide +kernel) (by decide) (by decide +kernel) bs_InvalidRing bk_InvalidRing⟩
  have U_InvalidRing : PySem.ErrG.ErrU K C_InvalidRing ["given"] := PySem.ErrG.use_of ee_InvalidRing clsGet clsTakes
  have E_InvalidTable : ErrK l.prog K mg "InvalidTable" "InvalidTable" ["rule"] ["rule"] (fun ws => ws) C_InvalidTable := ⟨PySem.ErrG.mk_of PySem.ErrG.bVE (PySem.W.mg_of X G ea_InvalidTable) (PySem.W.mg_none_of X G z_super) ⟨_, _, _, _, _, _, _, _, _, _, _, _, _, _, _, eb_InvalidTable, ec_InvalidTable⟩ ej_InvalidTable ee_InvalidTable opq ⟨_, _, _, et_InvalidTable⟩ ⟨_, _, _, _, _, _, eu_InvalidTable, ev_InvalidTable, ew_InvalidTable⟩ topSuper er_InvalidTable es_InvalidTable bo_InvalidTable (by decide +kernel) (by decide) (by decide +kernel) bs_InvalidTable bk_InvalidTable⟩
  have U_InvalidTable : PySem.ErrG.ErrU K C_InvalidTable ["rule"] := PySem.ErrG.use_of ee_InvalidTable clsGet clsTakes
  have E_InvalidName : ErrK l.prog K mg "InvalidName" "InvalidName" ["given"] ["given"] (fun ws => ws) C_InvalidName := ⟨PySem.ErrG.mk_of PySem.ErrG.bVE (PySem.W.mg_of X G ea_InvalidName) (PySem.W.mg_none_of X G z_super) ⟨_, _, _, _, _, _, _, _, _, _, _, _, _, _, _, eb_InvalidName, ec_InvalidName⟩ ej_InvalidName ee_InvalidName opq ⟨_, _, _, et_InvalidName⟩ ⟨_, _, _, _, _, _, eu_InvalidName, ev_InvalidName, ew_InvalidName⟩ topSuper er_InvalidName es_InvalidName bo_InvalidName (by decide +kernel) (by decide) (by decide +kernel) bs_InvalidName bk_InvalidName⟩
  have U_InvalidName : PySem.ErrG.ErrU K C_InvalidName ["given"] := PySem.ErrG.use_of ee_InvalidName clsGet clsTakes
  have E_InvalidTerm : ErrK l.prog K mg "InvalidTerm" "InvalidTerm" ["at"] ["at"] (fun ws => ws) C_InvalidTerm := ⟨PySem.ErrG.mk_of PySem.ErrG.bVE (PySem.W.mg_of X G ea_InvalidTerm) (PySem.W.mg_none_of X G z_super) ⟨_, _, _, _, _, _, _, _, _, _, _, _, _, _, _, eb_InvalidTerm, ec_InvalidTerm⟩ ej_InvalidTerm ee_InvalidTerm opq ⟨_, _, _, et_InvalidTerm⟩ ⟨_, _, _, _, _, _, eu_InvalidTerm, ev_InvalidTerm, ew_InvalidTerm⟩ topSuper er_InvalidTerm es_InvalidTerm bo_InvalidTerm (by decide +kernel) (by decide) (by decide +kernel) bs_InvalidTerm bk_InvalidTerm⟩
  have U_InvalidTerm : PySem.ErrG.ErrU K C_InvalidTerm ["at"] := PySem.ErrG.use_of ee_InvalidTerm clsGet clsTakes
  have E_InvalidHead : ErrK l.prog K mg "InvalidHead" "InvalidHead" ["part"] ["part"] (fun ws => ws) C_InvalidHead := ⟨PySem.ErrG.mk_of PySem.ErrG.bVE (PySem.W.mg_of X G ea_InvalidHead) (PySem.W.mg_none_of X G z_super) ⟨_, _, _, _, _, _, _, _, _, _, _, _, _, _, _, eb_InvalidHead, ec_InvalidHead⟩ ej_InvalidHead ee_InvalidHead opq ⟨_, _, _, et_InvalidHead⟩ ⟨_, _, _, _, _, _, eu_InvalidHead, ev_InvalidHead, ew_InvalidHead⟩ topSuper er_InvalidHead es_InvalidHead bo_InvalidHead (by decide +kernel) (by decide) (by decide +kernel) bs_InvalidHead bk_InvalidHead⟩
  have U_InvalidHead : PySem.ErrG.ErrU K C_InvalidHead ["part"] := PySem.ErrG.use_of ee_InvalidHead clsGet clsTakes
  have E_InvalidStep : ErrK l.prog K mg "InvalidStep" "InvalidStep" ["procedure", "at"] ["at", "procedure"] swap2 C_InvalidStep := ⟨PySem.ErrG.mk_of PySem.ErrG.bVE (PySem.W.mg_of X G ea_InvalidStep) (PySem.W.mg_none_of X G z_super) ⟨_, _, _, _, _, _, _, _, _, _, _, _, _, _, _, eb_InvalidStep, ec_InvalidStep⟩ ej_InvalidStep ee_InvalidStep opq ⟨_, _, _, et_InvalidStep⟩ ⟨_, _, _, _, _, _, eu_InvalidStep, ev_InvalidStep, ew_InvalidStep⟩ topSuper er_InvalidStep es_InvalidStep bo_InvalidStep (by decide +kernel) (by decide) (by decide +kernel) bs_InvalidStep bk_InvalidStep⟩
  have U_InvalidStep : PySem.ErrG.ErrU K C_InvalidStep ["procedure", "at"] := PySem.ErrG.use_of ee_InvalidStep clsGet clsTakes
  have E_InvalidText : ErrK l.prog K mg "InvalidText" "InvalidText" ["line"] ["line"] (fun ws => ws) C_InvalidText := ⟨PySem.ErrG.mk_of PySem.ErrG.bVE (PySem.W.mg_of X G ea_InvalidText) (PySem.W.mg_none_of X G z_super) ⟨_, _, _, _, _, _, _, _, _, _, _, _, _, _, _, eb_InvalidText, ec_InvalidText⟩ ej_InvalidText ee_InvalidText opq ⟨_, _, _, et_InvalidText⟩ ⟨_, _, _, _, _, _, eu_InvalidText, ev_InvalidText, ew_InvalidText⟩ topSuper er_InvalidText es_InvalidText bo_InvalidText (by decide +kernel) (by decide) (by decide +kernel) bs_InvalidText bk_InvalidText⟩
  have U_InvalidText : PySem.ErrG.ErrU K C_InvalidText ["line"] := PySem.ErrG.use_of ee_InvalidText clsGet clsTakes
  have E_InvalidLine : ErrK l.prog K mg "InvalidLine" "InvalidLine" ["at"] ["at"] (fun ws => ws) C_InvalidLine := ⟨PySem.ErrG.mk_of PySem.ErrG.bVE (PySem.W.mg_of X G ea_InvalidLine) (PySem.W.mg_none_of X G z_super) ⟨_, _, _, _, _, _, _, _, _, _, _, _, _, _, _, eb_InvalidLine, ec_InvalidLine⟩ ej_InvalidLine ee_InvalidLine opq ⟨_, _, _, et_InvalidLine⟩ ⟨_, _, _, _, _, _, eu_InvalidLine, ev_InvalidLine, ew_InvalidLine⟩ topSuper er_InvalidLine es_InvalidLine bo_InvalidLine (by decide +kernel) (by decide) (by decide +kernel) bs_InvalidLine bk_InvalidLine⟩
  have U_InvalidLine : PySem.ErrG.ErrU K C_InvalidLine ["at"] := PySem.ErrG.use_of ee_InvalidLine clsGet clsTakes
  have E_InvalidProduct : ErrK l.prog K mg "InvalidProduct" "InvalidProduct" ["at"] ["at"] (fun ws => ws) C_InvalidProduct := ⟨PySem.ErrG.mk_of PySem.ErrG.bVE (PySem.W.mg_of X G ea_InvalidProduct) (PySem.W.mg_none_of X G z_super) ⟨_, _, _, _, _, _, _, _, _, _, _, _, _, _, _, eb_InvalidProduct, ec_InvalidProduct⟩ ej_InvalidProduct ee_InvalidProduct opq ⟨_, _, _, et_InvalidProduct⟩ ⟨_, _, _, _, _, _, eu_InvalidProduct, ev_InvalidProduct, ew_InvalidProduct⟩ topSuper er_InvalidProduct es_InvalidProduct bo_InvalidProduct (by decide +kernel) (by decide) (by decide +kernel) bs_InvalidProduct bk_InvalidProduct⟩
  have U_InvalidProduct : PySem.ErrG.ErrU K C_InvalidProduct ["at"] := PySem.ErrG.use_of ee_InvalidProduct clsGet clsTakes
  have E_InvalidOrder : ErrK l.prog K mg "InvalidOrder" "InvalidOrder" ["given"] ["given"] (fun ws => ws) C_InvalidOrder := ⟨PySem.ErrG.mk_of PySem.ErrG.bVE (PySem.W.mg_of X G ea_InvalidOrder) (PySem.W.mg_none_of X G z_super) ⟨_, _, _, _, _, _, _, _, _, _, _, _, _, _, _, eb_InvalidOrder, ec_InvalidOrder⟩ ej_InvalidOrder ee_InvalidOrder opq ⟨_, _, _, et_InvalidOrder⟩ ⟨_, _, _, _, _, _, eu_InvalidOrder, ev_InvalidOrder, ew_InvalidOrder⟩ topSuper er_InvalidOrder es_InvalidOrder bo_InvalidOrder (by decide +kernel) (by decide) (by decide +kernel) bs_InvalidOrder bk_InvalidOrder⟩
  have U_InvalidOrder : PySem.ErrG.ErrU K C_InvalidOrder ["given"] := PySem.ErrG.use_of ee_InvalidOrder clsGet clsTakes
  have E_InvalidCommand : ErrK l.prog K mg "InvalidCommand" "InvalidCommand" ["at"] ["at"] (fun ws => ws) C_InvalidCommand := ⟨PySem.ErrG.mk_of PySem.ErrG.bVE (PySem.W.mg_of X G ea_InvalidCommand) (PySem.W.mg_none_of X G z_super) ⟨_, _, _, _, _, _, _, _, _, _, _, _, _, _, _, eb_InvalidCommand, ec_InvalidCommand⟩ ej_InvalidCommand ee_InvalidCommand opq ⟨_, _, _, et_InvalidCommand⟩ ⟨_, _, _, _, _, _, eu_InvalidCommand, ev_InvalidCommand, ew_InvalidCommand⟩ topSuper er_InvalidCommand es_InvalidCommand bo_InvalidCommand (by decide +kernel) (by decide) (by decide +kernel) bs_InvalidCommand bk_InvalidCommand⟩
  have U_InvalidCommand : PySem.ErrG.ErrU K C_InvalidCommand ["at"] := PySem.ErrG.use_of ee_InvalidCommand clsGet clsTakes
  have E_DegreeTooHigh : ErrK l.prog K mg "DegreeTooHigh" "DegreeTooHigh" ["at"] ["at"] (fun ws => ws) C_DegreeTooHigh := ⟨PySem.ErrG.mk_of PySem.ErrG.bVE (PySem.W.mg_of X G ea_DegreeTooHigh) (PySem.W.mg_none_of X G z_super) ⟨_, _, _, _, _, _, _, _, _, _, _, _, _, _, _, eb_DegreeTooHigh, ec_DegreeTooHigh⟩ ej_DegreeTooHigh ee_DegreeTooHigh opq ⟨_, _, _, et_DegreeTooHigh⟩ ⟨_, _, _, _, _, _, eu_DegreeTooHigh, ev_DegreeTooHigh, ew_DegreeTooHigh⟩ topSuper er_DegreeTooHigh es_DegreeTooHigh bo_DegreeTooHigh (by decide +kernel) (by decide) (by decide +kernel) bs_DegreeTooHigh bk_DegreeTooHigh⟩
  have U_DegreeTooHigh : PySem.ErrG.ErrU K C_DegreeTooHigh ["at"] := PySem.ErrG.use_of ee_DegreeTooHigh clsGet clsTakes
  have E_NoInverse : ErrK l.prog K mg "NoInverse" "NoInverse" ["number"] ["number"] (fun ws => ws) C_NoInverse := ⟨PySem.ErrG.mk_of PySem.ErrG.bVE (PySem.W.mg_of X G ea_NoInverse) (PySem.W.mg_none_of X G z_super) ⟨_, _, _, _, _, _, _, _, _, _, _, _, _, _, _, eb_NoInverse, ec_NoInverse⟩ ej_NoInverse ee_NoInverse opq ⟨_, _, _, et_NoInverse⟩ ⟨_, _, _, _, _, _, eu_NoInverse, ev_NoInverse, ew_NoInverse⟩ topSuper er_NoInverse es_NoInverse bo_NoInverse (by decide +kernel) (by decide) (by decide +kernel) bs_NoInverse bk_NoInverse⟩
  have U_NoInverse : PySem.ErrG.ErrU K C_NoInverse ["number"] := PySem.ErrG.use_of ee_NoInverse clsGet clsTakes
  have E_NotCommuting : ErrK l.prog K mg "NotCommuting" "NotCommuting" [] [] (fun ws => ws) C_NotCommuting := ⟨PySem.ErrG.mk_of PySem.ErrG.bVE (PySem.W.mg_of X G ea_NotCommuting) (PySem.W.mg_none_of X G z_super) ⟨_, _, _, _, _, _, _, _, _, _, _, _, _, _, _, eb_NotCommuting, ec_NotCommuting⟩ ej_NotCommuting ee_NotCommuting opq ⟨_, _, _, et_NotCommuting⟩ ⟨_, _, _, _, _, _, eu_NotCommuting, ev_NotCommuting, ew_NotCommuting⟩ topSuper er_NotCommuting es_NotCommuting bo_NotCommuting (by decide +kernel) (by decide) (by decide +kernel) bs_NotCommuting bk_NotCommuting⟩
  have U_NotCommuting : PySem.ErrG.ErrU K C_NotCommuting [] := PySem.ErrG.use_of ee_NotCommuting clsGet clsTakes
  have E_NotWhole : ErrK l.prog K mg "NotWhole" "NotWhole" ["at"] ["at"] (fun ws => ws) C_NotWhole := ⟨PySem.ErrG.mk_of PySem.ErrG.bVE (PySem.W.mg_of X G ea_NotWhole) (PySem.W.mg_none_of X G z_super) ⟨_, _, _, _, _, _, _, _, _, _, _, _, _, _, _, eb_NotWhole, ec_NotWhole⟩ ej_NotWhole ee_NotWhole opq ⟨_, _, _, et_NotWhole⟩ ⟨_, _, _, _, _, _, eu_NotWhole, ev_NotWhole, ew_NotWhole⟩ topSuper er_NotWhole es_NotWhole bo_NotWhole (by decide +kernel) (by decide) (by decide +kernel) bs_NotWhole bk_NotWhole⟩
  have U_NotWhole : PySem.ErrG.ErrU K C_NotWhole ["at"] := PySem.ErrG.use_of ee_NotWhole clsGet clsTakes
  have E_NotStraight : ErrK l.prog K mg "NotStraight" "NotStraight" ["at"] ["at"] (fun ws => ws) C_NotStraight := ⟨PySem.ErrG.mk_of PySem.ErrG.bVE (PySem.W.mg_of X G ea_NotStraight) (PySem.W.mg_none_of X G z_super) ⟨_, _, _, _, _, _, _, _, _, _, _, _, _, _, _, eb_NotStraight, ec_NotStraight⟩ ej_NotStraight ee_NotStraight opq ⟨_, _, _, et_NotStraight⟩ ⟨_, _, _, _, _, _, eu_NotStraight, ev_NotStraight, ew_NotStraight⟩ topSuper er_NotStraight es_NotStraight bo_NotStraight (by decide +kernel) (by decide) (by decide +kernel) bs_NotStraight bk_NotStraight⟩
  have U_NotStraight : PySem.ErrG.ErrU K C_NotStraight ["at"] := PySem.ErrG.use_of ee_NotStraight clsGet clsTakes
  have E_NoUnit : ErrK l.prog K mg "NoUnit" "NoUnit" ["at"] ["at"] (fun ws => ws) C_NoUnit := ⟨PySem.ErrG.mk_of PySem.ErrG.bVE (PySem.W.mg_of X G ea_NoUnit) (PySem.W.mg_none_of X G z_super) ⟨_, _, _, _, _, _, _, _, _, _, _, _, _, _, _, eb_NoUnit, ec_NoUnit⟩ ej_NoUnit ee_NoUnit opq ⟨_, _, _, et_NoUnit⟩ ⟨_, _, _, _, _, _, eu_NoUnit, ev_NoUnit, ew_NoUnit⟩ topSuper er_NoUnit es_NoUnit bo_NoUnit (by decide +kernel) (by decide) (by decide +kernel) bs_NoUnit bk_NoUnit⟩
  have U_NoUnit : PySem.ErrG.ErrU K C_NoUnit ["at"] := PySem.ErrG.use_of ee_NoUnit clsGet clsTakes
  have E_Unused : ErrK l.prog K mg "Unused" "Unused" ["name"] ["name"] (fun ws => ws) C_Unused := ⟨PySem.ErrG.mk_of PySem.ErrG.bVE (PySem.W.mg_of X G ea_Unused) (PySem.W.mg_none_of X G z_super) ⟨_, _, _, _, _, _, _, _, _, _, _, _, _, _, _, eb_Unused, ec_Unused⟩ ej_Unused ee_Unused opq ⟨_, _, _, et_Unused⟩ ⟨_, _, _, _, _, _, eu_Unused, ev_Unused, ew_Unused⟩ topSuper er_Unused es_Unused bo_Unused (by decide +kernel) (by decide) (by decide +kernel) bs_Unused bk_Unused⟩
  have U_Unused : PySem.ErrG.ErrU K C_Unused ["name"] := PySem.ErrG.use_of ee_Unused clsGet clsTakes
  have E_WrongCount : ErrK l.prog K mg "WrongCount" "WrongCount" ["given"] ["given"] (fun ws => ws) C_WrongCount := ⟨PySem.ErrG.mk_of PySem.ErrG.bVE (PySem.W.mg_of X G ea_WrongCount) (PySem.W.mg_none_of X G z_super) ⟨_, _, _, _, _, _, _, _, _, _, _, _, _, _, _, eb_WrongCount, ec_WrongCount⟩ ej_WrongCount ee_WrongCount opq ⟨_, _, _, et_WrongCount⟩ ⟨_, _, _, _, _, _, eu_WrongCount, ev_WrongCount, ew_WrongCount⟩ topSuper er_WrongCount es_WrongCount bo_WrongCount (by decide +kernel) (by decide) (by decide +kernel) bs_WrongCount bk_WrongCount⟩
  have U_WrongCount : PySem.ErrG.ErrU K C_WrongCount ["given"] := PySem.ErrG.use_of ee_WrongCount clsGet clsTakes
  have E_TooMany : ErrK l.prog K mg "TooMany" "TooMany" ["most"] ["most"] (fun ws => ws) C_TooMany := ⟨PySem.ErrG.mk_of PySem.ErrG.bVE (PySem.W.mg_of X G ea_TooMany) (PySem.W.mg_none_of X G z_super) ⟨_, _, _, _, _, _, _, _, _, _, _, _, _, _, _, eb_TooMany, ec_TooMany⟩ ej_TooMany ee_TooMany opq ⟨_, _, _, et_TooMany⟩ ⟨_, _, _, _, _, _, eu_TooMany, ev_TooMany, ew_TooMany⟩ topSuper er_TooMany es_TooMany bo_TooMany (by decide +kernel) (by decide) (by decide +kernel) bs_TooMany bk_TooMany⟩
  have U_TooMany : PySem.ErrG.ErrU K C_TooMany ["most"] := PySem.ErrG.use_of ee_TooMany clsGet clsTakes
  have E_TooGreat : ErrK l.prog K mg "TooGreat" "TooGreat" ["most"] ["most"] (fun ws => ws) C_TooGreat := ⟨PySem.ErrG.mk_of PySem.ErrG.bVE (PySem.W.mg_of X G ea_TooGreat) (PySem.W.mg_none_of X G z_super) ⟨_, _, _, _, _, _, _, _, _, _, _, _, _, _, _, eb_TooGreat, ec_TooGreat⟩ ej_TooGreat ee_TooGreat opq ⟨_, _, _, et_TooGreat⟩ ⟨_, _, _, _, _, _, eu_TooGreat, ev_TooGreat, ew_TooGreat⟩ topSuper er_TooGreat es_TooGreat bo_TooGreat (by decide +kernel) (by decide) (by decide +kernel) bs_TooGreat bk_TooGreat⟩
  have U_TooGreat : PySem.ErrG.ErrU K C_TooGreat ["most"] := PySem.ErrG.use_of ee_TooGreat clsGet clsTakes
  have E_EmptyRealm : ErrK l.prog K mg "EmptyRealm" "EmptyRealm" [] [] (fun ws => ws) C_EmptyRealm := ⟨PySem.ErrG.mk_of PySem.ErrG.bVE (PySem.W.mg_of X G ea_EmptyRealm) (PySem.W.mg_none_of X G z_super) ⟨_, _, _, _, _, _, _, _, _, _, _, _, _, _, _, eb_EmptyRealm, ec_EmptyRealm⟩ ej_EmptyRealm ee_EmptyRealm opq ⟨_, _, _, et_EmptyRealm⟩ ⟨_, _, _, _, _, _, eu_EmptyRealm, ev_EmptyRealm, ew_EmptyRealm⟩ topSuper er_EmptyRealm es_EmptyRealm bo_EmptyRealm (by decide +kernel) (by decide) (by decide +kernel) bs_EmptyRealm bk_EmptyRealm⟩
  have U_EmptyRealm : PySem.ErrG.ErrU K C_EmptyRealm [] := PySem.ErrG.use_of ee_EmptyRealm clsGet clsTakes
  have E_Unsound : ErrK l.prog K mg "Unsound" "Unsound" ["number"] ["number"] (fun ws => ws) C_Unsound := ⟨PySem.ErrG.mk_of PySem.ErrG.bVE (PySem.W.mg_of X G ea_Unsound) (PySem.W.mg_none_of X G z_super) ⟨_, _, _, _, _, _, _, _, _, _, _, _, _, _, _, eb_Unsound, ec_Unsound⟩ ej_Unsound ee_Unsound opq ⟨_, _, _, et_Unsound⟩ ⟨_, _, _, _, _, _, eu_Unsound, ev_Unsound, ew_Unsound⟩ topSuper er_Unsound es_Unsound bo_Unsound (by decide +kernel) (by decide) (by decide +kernel) bs_Unsound bk_Unsound⟩
  have U_Unsound : PySem.ErrG.ErrU K C_Unsound ["number"] := PySem.ErrG.use_of ee_Unsound clsGet clsTakes
  have E_DuplicateName : ErrK l.prog K mg "DuplicateName" "DuplicateName" ["name"] ["name"] (fun ws => ws) C_DuplicateName := ⟨PySem.ErrG.mk_of PySem.ErrG.bVE (PySem.W.mg_of X G ea_DuplicateName) (PySem.W.mg_none_of X G z_super) ⟨_, _, _, _, _, _, _, _, _, _, _, _, _, _, _, eb_DuplicateName, ec_DuplicateName⟩ ej_DuplicateName ee_DuplicateName opq ⟨_, _, _, et_DuplicateName⟩ ⟨_, _, _, _, _, _, eu_DuplicateName, ev_DuplicateName, ew_DuplicateName⟩ topSuper er_DuplicateName es_DuplicateName bo_DuplicateName (by decide +kernel) (by decide) (by decide +kernel) bs_DuplicateName bk_DuplicateName⟩
  have U_DuplicateName : PySem.ErrG.ErrU K C_DuplicateName ["name"] := PySem.ErrG.use_of ee_DuplicateName clsGet clsTakes
  have E_InUse : ErrK l.prog K mg "InUse" "InUse" ["number"] ["number"] (fun ws => ws) C_InUse := ⟨PySem.ErrG.mk_of PySem.ErrG.bVE (PySem.W.mg_of X G ea_InUse) (PySem.W.mg_none_of X G z_super) ⟨_, _, _, _, _, _, _, _, _, _, _, _, _, _, _, eb_InUse, ec_InUse⟩ ej_InUse ee_InUse opq ⟨_, _, _, et_InUse⟩ ⟨_, _, _, _, _, _, eu_InUse, ev_InUse, ew_InUse⟩ topSuper er_InUse es_InUse bo_InUse (by decide +kernel) (by decide) (by decide +kernel) bs_InUse bk_InUse⟩
  have U_InUse : PySem.ErrG.ErrU K C_InUse ["number"] := PySem.ErrG.use_of ee_InUse clsGet clsTakes
  have E_Broken : ErrK l.prog K mg "Broken" "Broken" ["number"] ["number"] (fun ws => ws) C_Broken := ⟨PySem.ErrG.mk_of PySem.ErrG.bVE (PySem.W.mg_of X G ea_Broken) (PySem.W.mg_none_of X G z_super) ⟨_, _, _, _, _, _, _, _, _, _, _, _, _, _, _, eb_Broken, ec_Broken⟩ ej_Broken ee_Broken opq ⟨_, _, _, et_Broken⟩ ⟨_, _, _, _, _, _, eu_Broken, ev_Broken, ew_Broken⟩ topSuper er_Broken es_Broken bo_Broken (by decide +kernel) (by decide) (by decide +kernel) bs_Broken bk_Broken⟩
  have U_Broken : PySem.ErrG.ErrU K C_Broken ["number"] := PySem.ErrG.use_of ee_Broken clsGet clsTakes
  have E_Full : ErrK l.prog K mg "Full" "Full" ["most"] ["most"] (fun ws => ws) C_Full := ⟨PySem.ErrG.mk_of PySem.ErrG.bVE (PySem.W.mg_of X G ea_Full) (PySem.W.mg_none_of X G z_super) ⟨_, _, _, _, _, _, _, _, _, _, _, _, _, _, _, eb_Full, ec_Full⟩ ej_Full ee_Full opq ⟨_, _, _, et_Full⟩ ⟨_, _, _, _, _, _, eu_Full, ev_Full, ew_Full⟩ topSuper er_Full es_Full bo_Full (by decide +kernel) (by decide) (by decide +kernel) bs_Full bk_Full⟩
  have U_Full : PySem.ErrG.ErrU K C_Full ["most"] := PySem.ErrG.use_of ee_Full clsGet clsTakes
  have E_UnknownName : ErrK l.prog K mg "UnknownName" "UnknownName" ["name"] ["name"] (fun ws => ws) C_UnknownName := ⟨PySem.ErrG.mk_of PySem.ErrG.bLE (PySem.W.mg_of X G ea_UnknownName) (PySem.W.mg_none_of X G z_super) ⟨_, _, _, _, _, _, _, _, _, _, _, _, _, _, _, eb_UnknownName, ec_UnknownName⟩ ej_UnknownName ee_UnknownName opq ⟨_, _, _, et_UnknownName⟩ ⟨_, _, _, _, _, _, eu_UnknownName, ev_UnknownName, ew_UnknownName⟩ topSuper er_UnknownName es_UnknownName bo_UnknownName (by decide +kernel) (by decide) (by decide +kernel) bs_UnknownName bk_UnknownName⟩
  have U_UnknownName : PySem.ErrG.ErrU K C_UnknownName ["name"] := PySem.ErrG.use_of ee_UnknownName clsGet clsTakes
  have E_UnknownNumber : ErrK l.prog K mg "UnknownNumber" "UnknownNumber" ["number"] ["number"] (fun ws => ws) C_UnknownNumber := ⟨PySem.ErrG.mk_of PySem.ErrG.bLE (PySem.W.mg_of X G ea_UnknownNumber) (PySem.W.mg_none_of X G z_super) ⟨_, _, _, _, _, _, _, _, _, _, _, _, _, _, _, eb_UnknownNumber, ec_UnknownNumber⟩ ej_UnknownNumber ee_UnknownNumber opq ⟨_, _, _, et_UnknownNumber⟩ ⟨_, _, _, _, _, _, eu_UnknownNumber, ev_UnknownNumber, ew_UnknownNumber⟩ topSuper er_UnknownNumber es_UnknownNumber bo_UnknownNumber (by decide +kernel) (by decide) (by decide +kernel) bs_UnknownNumber bk_UnknownNumber⟩
  have U_UnknownNumber : PySem.ErrG.ErrU K C_UnknownNumber ["number"] := PySem.ErrG.use_of ee_UnknownNumber clsGet clsTakes
  have E_NothingLeft : ErrK l.prog K mg "NothingLeft" "NothingLeft" [] [] (fun ws => ws) C_NothingLeft := ⟨PySem.ErrG.mk_of PySem.ErrG.bIE (PySem.W.mg_of X G ea_NothingLeft) (PySem.W.mg_none_of X G z_super) ⟨_, _, _, _, _, _, _, _, _, _, _, _, _, _, _, eb_NothingLeft, ec_NothingLeft⟩ ej_NothingLeft ee_NothingLeft opq ⟨_, _, _, et_NothingLeft⟩ ⟨_, _, _, _, _, _, eu_NothingLeft, ev_NothingLeft, ew_NothingLeft⟩ topSuper er_NothingLeft es_NothingLeft bo_NothingLeft (by decide +kernel) (by decide) (by decide +kernel) bs_NothingLeft bk_NothingLeft⟩
  have U_NothingLeft : PySem.ErrG.ErrU K C_NothingLeft [] := PySem.ErrG.use_of ee_NothingLeft clsGet clsTakes
  have T : Tb l.prog K mg ⟨C_InvalidNumber, C_InvalidThing, C_InvalidRing, C_InvalidTable, C_InvalidName, C_InvalidTerm, C_InvalidHead, C_InvalidStep, C_InvalidText, C_InvalidLine, C_InvalidProduct, C_InvalidOrder, C_InvalidCommand, C_DegreeTooHigh, C_NoInverse, C_NotCommuting, C_NotWhole, C_NotStraight, C_NoUnit, C_Unused, C_WrongCount, C_TooMany, C_TooGreat, C_EmptyRealm, C_Unsound, C_DuplicateName, C_InUse, C_Broken, C_Full, C_UnknownName, C_UnknownNumber, C_NothingLeft, C_RingError, C_Missing⟩ := ⟨E_InvalidNumber, U_InvalidNumber, E_InvalidThing, U_InvalidThing, E_InvalidRing, U_InvalidRing, E_InvalidTable, U_InvalidTable, E_InvalidName, U_InvalidName, E_InvalidTerm, U_InvalidTerm, E_InvalidHead, U_InvalidHead, E_InvalidStep, U_InvalidStep, E_InvalidText, U_InvalidText, E_InvalidLine, U_InvalidLine, E_InvalidProduct, U_InvalidProduct, E_InvalidOrder, U_InvalidOrder, E_InvalidCommand, U_InvalidCommand, E_DegreeTooHigh, U_DegreeTooHigh, E_NoInverse, U_NoInverse, E_NotCommuting, U_NotCommuting, E_NotWhole, U_NotWhole, E_NotStraight, U_NotStraight, E_NoUnit, U_NoUnit, E_Unused, U_Unused, E_WrongCount, U_WrongCount, E_TooMany, U_TooMany, E_TooGreat, U_TooGreat, E_EmptyRealm, U_EmptyRealm, E_Unsound, U_Unsound, E_DuplicateName, U_DuplicateName, E_InUse, U_InUse, E_Broken, U_Broken, E_Full, U_Full, E_UnknownName, U_UnknownName, E_UnknownNumber, U_UnknownNumber, E_NothingLeft, U_NothingLeft, PySem.W.mg_of X G ea_InvalidNumber, PySem.W.mg_of X G ea_InvalidThing, PySem.W.mg_of X G ea_InvalidRing, PySem.W.mg_of X G ea_InvalidTable, PySem.W.mg_of X G ea_InvalidName, PySem.W.mg_of X G ea_InvalidTerm, PySem.W.mg_of X G ea_InvalidHead, PySem.W.mg_of X G ea_InvalidStep, PySem.W.mg_of X G ea_InvalidText, PySem.W.mg_of X G ea_InvalidLine, PySem.W.mg_of X G ea_InvalidProduct, PySem.W.mg_of X G ea_InvalidOrder, PySem.W.mg_of X G ea_InvalidCommand, PySem.W.mg_of X G ea_DegreeTooHigh, PySem.W.mg_of X G ea_NoInverse, PySem.W.mg_of X G ea_NotCommuting, PySem.W.mg_of X G ea_NotWhole, PySem.W.mg_of X G ea_NotStraight, PySem.W.mg_of X G ea_NoUnit, PySem.W.mg_of X G ea_Unused, PySem.W.mg_of X G ea_WrongCount, PySem.W.mg_of X G ea_TooMany, PySem.W.mg_of X G ea_TooGreat, PySem.W.mg_of X G ea_EmptyRealm, PySem.W.mg_of X G ea_Unsound, PySem.W.mg_of X G ea_DuplicateName, PySem.W.mg_of X G ea_InUse, PySem.W.mg_of X G ea_Broken, PySem.W.mg_of X G ea_Full, PySem.W.mg_of X G ea_UnknownName, PySem.W.mg_of X G ea_UnknownNumber, PySem.W.mg_of X G ea_NothingLeft, PySem.W.mg_of X G mRE, PySem.W.mg_of X G mMI, kitB_ok kt⟩
  have e := hfa.symm.trans (PySem.W.mg_of X G a8)
  cases e
  refine ⟨PySem.W.fnOf "law" "law" (defArgs s_law) (defBody s_law) (defScope s_law) .none kV8 dc8 pm8 an8 cd8 ct8, fun s v => .of_eq rfl, fun base _ _ => ?_⟩
  have G1 := ok_draw (P := l.prog) (w := w) (base := base) A_l_draw B
  have G2 := ok_pick A_l_pick B G1
  have G3 := ok_fieldV (P := l.prog) (w := w) (base := base) A_l_field
  exact ok_law T F_law B (ok_bag A_l_bag B) G1 G2 (ok_odd A_l_odd B G2) G3 (all_same A_l_same B 5) (ok_word T A_l_by_word G3 (all_same A_l_same B 4))
end My
open PySem PySem.W PyProof.Rows
set_option maxRecDepth 100000 in
set_option maxHeartbeats 0 in
theorem PySem.Challenge.cw_numbertypes_k01_errors_and_their_classes_holds : PySem.Challenge.rw_numbertypes_k01_errors_and_their_classes.Holds := by
  w_on; o_law; k_headL; (case hw => w_witness2)
  k_fill
  refine L2.walk_of (l := PySem.Challenge.rw_numbertypes_k01_errors_and_their_classes) (n := 63) (k := 6) (x := "_law_script") (CX := fun _ => L2.CX0) (sp := fun w => My.spLaw _) rfl (by decide) rfl ⟨rfl, by decide, by decide⟩ (fun w h Y => PySem.W.kIn_of Y) ?F (fun _ _ a ns hl _ hS => ⟨a, ns, rfl, hS, hl, fun _ => rfl⟩) (fun _ _ _ _ _ h => h)
  case F =>
    intro w mg fa h KX G hmg
    refine' My.all_mk KX G hmg ?z_super ?opq ?topSuper ?clsGet ?clsTakes ?a1 ?l1 ?c1 ?k1 ?a2 ?l2 ?c2 ?k2 ?a3 ?l3 ?c3 ?k3 ?a4 ?l4 ?c4 ?k4 ?a5 ?l5 ?c5 ?k5 ?a6 ?l6 ?c6 ?k6 ?a7 ?l7 ?c7 ?k7 ?a8 ?l8 ?c8 ?k8 ?z_IndexError ?z_LookupError ?z_ValueError ?z_abs ?z_all ?z_bool ?z_int ?z_isinstance ?z_len ?z_list ?z_range ?z_str ?z_tuple ?z_zip ?ea_InvalidNumber ?eb_InvalidNumber ?ec_InvalidNumber ?ej_InvalidNumber ?ee_InvalidNumber ?er_InvalidNumber ?es_InvalidNumber ?et_InvalidNumber ?eu_InvalidNumber ?ev_InvalidNumber ?ew_InvalidNumber ?ea_InvalidThing ?eb_InvalidThing ?ec_InvalidThing ?ej_InvalidThing ?ee_InvalidThing ?er_InvalidThing ?es_InvalidThing ?et_InvalidThing ?eu_InvalidThing ?ev_InvalidThing ?ew_InvalidThing ?ea_InvalidRing ?eb_InvalidRing ?ec_InvalidRing ?ej_InvalidRing ?ee_InvalidRing ?er_InvalidRing ?es_InvalidRing ?et_InvalidRing ?eu_InvalidRing ?ev_InvalidRing ?ew_InvalidRing ?ea_InvalidTable ?eb_InvalidTable ?ec_InvalidTable ?ej_InvalidTable ?ee_InvalidTable ?er_InvalidTable ?es_InvalidTable ?et_InvalidTable ?eu_InvalidTable ?ev_InvalidTable ?ew_InvalidTable ?ea_InvalidName ?eb_InvalidName ?ec_InvalidName ?ej_InvalidName ?ee_InvalidName ?er_InvalidName ?es_InvalidName ?et_InvalidName ?eu_InvalidName ?ev_InvalidName ?ew_InvalidName ?ea_InvalidTerm ?eb_InvalidTerm ?ec_InvalidTerm ?ej_InvalidTerm ?ee_InvalidTerm ?er_InvalidTerm ?es_InvalidTerm ?et_InvalidTerm ?eu_InvalidTerm ?ev_InvalidTerm ?ew_InvalidTerm ?ea_InvalidHead ?eb_InvalidHead ?ec_InvalidHead ?ej_InvalidHead ?ee_InvalidHead ?er_InvalidHead ?es_InvalidHead ?et_InvalidHead ?eu_InvalidHead ?ev_InvalidHead ?ew_InvalidHead ?ea_InvalidStep ?eb_InvalidStep ?ec_InvalidStep ?ej_InvalidStep ?ee_InvalidStep ?er_InvalidStep ?es_InvalidStep ?et_InvalidStep ?eu_InvalidStep ?ev_InvalidStep ?ew_InvalidStep ?ea_InvalidText ?eb_InvalidText ?ec_InvalidText ?ej_InvalidText ?ee_InvalidText ?er_InvalidText ?es_InvalidText ?et_InvalidText ?eu_InvalidText ?ev_InvalidText ?ew_InvalidText ?ea_InvalidLine ?eb_InvalidLine ?ec_InvalidLine ?ej_InvalidLine ?ee_InvalidLine ?er_InvalidLine ?es_InvalidLine ?et_InvalidLine ?eu_InvalidLine ?ev_InvalidLine ?ew_InvalidLine ?ea_InvalidProduct ?eb_InvalidProduct ?ec_InvalidProduct ?ej_InvalidProduct ?ee_InvalidProduct ?er_InvalidProduct ?es_InvalidProduct ?et_InvalidProduct ?eu_InvalidProduct ?ev_InvalidProduct ?ew_InvalidProduct ?ea_InvalidOrder ?eb_InvalidOrder ?ec_InvalidOrder ?ej_InvalidOrder ?ee_InvalidOrder ?er_InvalidOrder ?es_InvalidOrder ?et_InvalidOrder ?eu_InvalidOrder ?ev_InvalidOrder ?ew_InvalidOrder ?ea_InvalidCommand ?eb_InvalidCommand ?ec_InvalidCommand ?ej_InvalidCommand ?ee_InvalidCommand ?er_InvalidCommand ?es_InvalidCommand ?et_InvalidCommand ?eu_InvalidCommand ?ev_InvalidCommand ?ew_InvalidCommand ?ea_DegreeTooHigh ?eb_DegreeTooHigh ?ec_DegreeTooHigh ?ej_DegreeTooHigh ?ee_DegreeTooHigh ?er_DegreeTooHigh ?es_DegreeTooHigh ?et_DegreeTooHigh ?eu_DegreeTooHigh ?ev_DegreeTooHigh ?ew_DegreeTooHigh ?ea_NoInverse ?eb_NoInverse ?ec_NoInverse ?ej_NoInverse ?ee_NoInverse ?er_NoInverse ?es_NoInverse ?et_NoInverse ?eu_NoInverse ?ev_NoInverse ?ew_NoInverse ?ea_NotCommuting ?eb_NotCommuting ?ec_NotCommuting ?ej_NotCommuting ?ee_NotCommuting ?er_NotCommuting ?es_NotCommuting ?et_NotCommuting ?eu_NotCommuting ?ev_NotCommuting ?ew_NotCommuting ?ea_NotWhole ?eb_NotWhole ?ec_NotWhole ?ej_NotWhole ?ee_NotWhole ?er_NotWhole ?es_NotWhole ?et_NotWhole ?eu_NotWhole ?ev_NotWhole ?ew_NotWhole ?ea_NotStraight ?eb_NotStraight ?ec_NotStraight ?ej_NotStraight ?ee_NotStraight ?er_NotStraight ?es_NotStraight ?et_NotStraight ?eu_NotStraight ?ev_NotStraight ?ew_NotStraight ?ea_NoUnit ?eb_NoUnit ?ec_NoUnit ?ej_NoUnit ?ee_NoUnit ?er_NoUnit ?es_NoUnit ?et_NoUnit ?eu_NoUnit ?ev_NoUnit ?ew_NoUnit ?ea_Unused ?eb_Unused ?ec_Unused ?ej_Unused ?ee_Unused ?er_Unused ?es_Unused ?et_Unused ?eu_Unused ?ev_Unused ?ew_Unused ?ea_WrongCount ?eb_WrongCount ?ec_WrongCount ?ej_WrongCount ?ee_WrongCount ?er_WrongCount ?es_WrongCount ?et_WrongCount ?eu_WrongCount ?ev_WrongCount ?ew_WrongCount ?ea_TooMany ?eb_TooMany ?ec_TooMany ?ej_TooMany ?ee_TooMany ?er_TooMany ?es_TooMany ?et_TooMany ?eu_TooMany ?ev_TooMany ?ew_TooMany ?ea_TooGreat ?eb_TooGreat ?ec_TooGreat ?ej_TooGreat ?ee_TooGreat ?er_TooGreat ?es_TooGreat ?et_TooGreat ?eu_TooGreat ?ev_TooGreat ?ew_TooGreat ?ea_EmptyRealm ?eb_EmptyRealm ?ec_EmptyRealm ?ej_EmptyRealm ?ee_EmptyRealm ?er_EmptyRealm ?es_EmptyRealm ?et_EmptyRealm ?eu_EmptyRealm ?ev_EmptyRealm ?ew_EmptyRealm ?ea_Unsound ?eb_Unsound ?ec_Unsound ?ej_Unsound ?ee_Unsound ?er_Unsound ?es_Unsound ?et_Unsound ?eu_Unsound ?ev_Unsound ?ew_Unsound ?ea_DuplicateName ?eb_DuplicateName ?ec_DuplicateName ?ej_DuplicateName ?ee_DuplicateName ?er_DuplicateName ?es_DuplicateName ?et_DuplicateName ?eu_DuplicateName ?ev_DuplicateName ?ew_DuplicateName ?ea_InUse ?eb_InUse ?ec_InUse ?ej_InUse ?ee_InUse ?er_InUse ?es_InUse ?et_InUse ?eu_InUse ?ev_InUse ?ew_InUse ?ea_Broken ?eb_Broken ?ec_Broken ?ej_Broken ?ee_Broken ?er_Broken ?es_Broken ?et_Broken ?eu_Broken ?ev_Broken ?ew_Broken ?ea_Full ?eb_Full ?ec_Full ?ej_Full ?ee_Full ?er_Full ?es_Full ?et_Full ?eu_Full ?ev_Full ?ew_Full ?ea_UnknownName ?eb_UnknownName ?ec_UnknownName ?ej_UnknownName ?ee_UnknownName ?er_UnknownName ?es_UnknownName ?et_UnknownName ?eu_UnknownName ?ev_UnknownName ?ew_UnknownName ?ea_UnknownNumber ?eb_UnknownNumber ?ec_UnknownNumber ?ej_UnknownNumber ?ee_UnknownNumber ?er_UnknownNumber ?es_UnknownNumber ?et_UnknownNumber ?eu_UnknownNumber ?ev_UnknownNumber ?ew_UnknownNumber ?ea_NothingLeft ?eb_NothingLeft ?ec_NothingLeft ?ej_NothingLeft ?ee_NothingLeft ?er_NothingLeft ?es_NothingLeft ?et_NothingLeft ?eu_NothingLeft ?ev_NothingLeft ?ew_NothingLeft ?mRE ?mMI ?kt
    (case z_super => k_is)
    (case opq => k_is)
    (case clsGet => k_is)
    (case clsTakes => k_is)
    (case a1 => k_is)
    (case l1 => k_is)
    (case c1 => k_is)
    (case k1 => k_is)
    (case a2 => k_is)
    (case l2 => k_is)
    (case c2 => k_is)
    (case k2 => k_is)
    (case a3 => k_is)
    (case l3 => k_is)
    (case c3 => k_is)
    (case k3 => k_is)
    (case a4 => k_is)
    (case l4 => k_is)
    (case c4 => k_is)
    (case k4 => k_is)
    (case a5 => k_is)
    (case l5 => k_is)
    (case c5 => k_is)
    (case k5 => k_is)
    (case a6 => k_is)
    (case l6 => k_is)
    (case c6 => k_is)
    (case k6 => k_is)
    (case a7 => k_is)
    (case l7 => k_is)
    (case c7 => k_is)
    (case k7 => k_is)
    (case a8 => k_is)
    (case l8 => k_is)
    (case c8 => k_is)
    (case k8 => k_is)
    (case z_IndexError => k_is)
    (case z_LookupError => k_is)
    (case z_ValueError => k_is)
    (case z_abs => k_is)
    (case z_all => k_is)
    (case z_bool => k_is)
    (case z_int => k_is)
    (case z_isinstance => k_is)
    (case z_len => k_is)
    (case z_list => k_is)
    (case z_range => k_is)
    (case z_str => k_is)
    (case z_tuple => k_is)
    (case z_zip => k_is)
    (case topSuper => kernel_rfl)
    (case ea_InvalidNumber => k_is)
    (case eb_InvalidNumber => k_is)
    (case ec_InvalidNumber => kernel_rfl)
    (case ej_InvalidNumber => k_is)
    (case ee_InvalidNumber => kernel_rfl)
    (case er_InvalidNumber => k_is)
    (case es_InvalidNumber => k_is)
    (case et_InvalidNumber => k_is)
    (case eu_InvalidNumber => k_is)
    (case ev_InvalidNumber => rfl)
    (case ew_InvalidNumber => kernel_rfl)
    (case ea_InvalidThing => k_is)
    (case eb_InvalidThing => k_is)
    (case ec_InvalidThing => kernel_rfl)
    (case ej_InvalidThing => k_is)
    (case ee_InvalidThing => kernel_rfl)
    (case er_InvalidThing => k_is)
    (case es_InvalidThing => k_is)
    (case et_InvalidThing => k_is)
    (case eu_InvalidThing => k_is)
    (case ev_InvalidThing => rfl)
    (case ew_InvalidThing => kernel_rfl)
    (case ea_InvalidRing => k_is)
    (case eb_InvalidRing => k_is)
    (case ec_InvalidRing => kernel_rfl)
    (case ej_InvalidRing => k_is)
    (case ee_InvalidRing => kernel_rfl)
    (case er_InvalidRing => k_is)
    (case es_InvalidRing => k_is)
    (case et_InvalidRing => k_is)
    (case eu_InvalidRing => k_is)
    (case ev_InvalidRing => rfl)
    (case ew_InvalidRing => kernel_rfl)
    (case ea_InvalidTable => k_is)
    (case eb_InvalidTable => k_is)
    (case ec_InvalidTable => kernel_rfl)
    (case ej_InvalidTable => k_is)
    (case ee_InvalidTable => kernel_rfl)
    (case er_InvalidTable => k_is)
    (case es_InvalidTable => k_is)
    (case et_InvalidTable => k_is)
    (case eu_InvalidTable => k_is)
    (case ev_InvalidTable => rfl)
    (case ew_InvalidTable => kernel_rfl)
    (case ea_InvalidName => k_is)
    (case eb_InvalidName => k_is)
    (case ec_InvalidName => kernel_rfl)
    (case ej_InvalidName => k_is)
    (case ee_InvalidName => kernel_rfl)
    (case er_InvalidName => k_is)
    (case es_InvalidName => k_is)
    (case et_InvalidName => k_is)
    (case eu_InvalidName => k_is)
    (case ev_InvalidName => rfl)
    (case ew_InvalidName => kernel_rfl)
    (case ea_InvalidTerm => k_is)
    (case eb_InvalidTerm => k_is)
    (case ec_InvalidTerm => kernel_rfl)
    (case ej_InvalidTerm => k_is)
    (case ee_InvalidTerm => kernel_rfl)
    (case er_InvalidTerm => k_is)
    (case es_InvalidTerm => k_is)
    (case et_InvalidTerm => k_is)
    (case eu_InvalidTerm => k_is)
    (case ev_InvalidTerm => rfl)
    (case ew_InvalidTerm => kernel_rfl)
    (case ea_InvalidHead => k_is)
    (case eb_InvalidHead => k_is)
    (case ec_InvalidHead => kernel_rfl)
    (case ej_InvalidHead => k_is)
    (case ee_InvalidHead => kernel_rfl)
    (case er_InvalidHead => k_is)
    (case es_InvalidHead => k_is)
    (case et_InvalidHead => k_is)
    (case eu_InvalidHead => k_is)
    (case ev_InvalidHead => rfl)
    (case ew_InvalidHead => kernel_rfl)
    (case ea_InvalidStep => k_is)
    (case eb_InvalidStep => k_is)
    (case ec_InvalidStep => kernel_rfl)
    (case ej_InvalidStep => k_is)
    (case ee_InvalidStep => kernel_rfl)
    (case er_InvalidStep => k_is)
    (case es_InvalidStep => k_is)
    (case et_InvalidStep => k_is)
    (case eu_InvalidStep => k_is)
    (case ev_InvalidStep => rfl)
    (case ew_InvalidStep => kernel_rfl)
    (case ea_InvalidText => k_is)
    (case eb_InvalidText => k_is)
    (case ec_InvalidText => kernel_rfl)
    (case ej_InvalidText => k_is)
    (case ee_InvalidText => kernel_rfl)
    (case er_InvalidText => k_is)
    (case es_InvalidText => k_is)
    (case et_InvalidText => k_is)
    (case eu_InvalidText => k_is)
    (case ev_InvalidText => rfl)
    (case ew_InvalidText => kernel_rfl)
    (case ea_InvalidLine => k_is)
    (case eb_InvalidLine => k_is)
    (case ec_InvalidLine => kernel_rfl)
    (case ej_InvalidLine => k_is)
    (case ee_InvalidLine => kernel_rfl)
    (case er_InvalidLine => k_is)
    (case es_InvalidLine => k_is)
    (case et_InvalidLine => k_is)
    (case eu_InvalidLine => k_is)
    (case ev_InvalidLine => rfl)
    (case ew_InvalidLine => kernel_rfl)
    (case ea_InvalidProduct => k_is)
    (case eb_InvalidProduct => k_is)
    (case ec_InvalidProduct => kernel_rfl)
    (case ej_InvalidProduct => k_is)
    (case ee_InvalidProduct => kernel_rfl)
    (case er_InvalidProduct => k_is)
    (case es_InvalidProduct => k_is)
    (case et_InvalidProduct => k_is)
    (case eu_InvalidProduct => k_is)
    (case ev_InvalidProduct => rfl)
    (case ew_InvalidProduct => kernel_rfl)
    (case ea_InvalidOrder => k_is)
    (case eb_InvalidOrder => k_is)
    (case ec_InvalidOrder => kernel_rfl)
    (case ej_InvalidOrder => k_is)
    (case ee_InvalidOrder => kernel_rfl)
    (case er_InvalidOrder => k_is)
    (case es_InvalidOrder => k_is)
    (case et_InvalidOrder => k_is)
    (case eu_InvalidOrder => k_is)
    (case ev_InvalidOrder => rfl)
    (case ew_InvalidOrder => kernel_rfl)
    (case ea_InvalidCommand => k_is)
    (case eb_InvalidCommand => k_is)
    (case ec_InvalidCommand => kernel_rfl)
    (case ej_InvalidCommand => k_is)
    (case ee_InvalidCommand => kernel_rfl)
    (case er_InvalidCommand => k_is)
    (case es_InvalidCommand => k_is)
    (case et_InvalidCommand => k_is)
    (case eu_InvalidCommand => k_is)
    (case ev_InvalidCommand => rfl)
    (case ew_InvalidCommand => kernel_rfl)
    (case ea_DegreeTooHigh => k_is)
    (case eb_DegreeTooHigh => k_is)
    (case ec_DegreeTooHigh => kernel_rfl)
    (case ej_DegreeTooHigh => k_is)
    (case ee_DegreeTooHigh => kernel_rfl)
    (case er_DegreeTooHigh => k_is)
    (case es_DegreeTooHigh => k_is)
    (case et_DegreeTooHigh => k_is)
    (case eu_DegreeTooHigh => k_is)
    (case ev_DegreeTooHigh => rfl)
    (case ew_DegreeTooHigh => kernel_rfl)
    (case ea_NoInverse => k_is)
    (case eb_NoInverse => k_is)
    (case ec_NoInverse => kernel_rfl)
    (case ej_NoInverse => k_is)
    (case ee_NoInverse => kernel_rfl)
    (case er_NoInverse => k_is)
    (case es_NoInverse => k_is)
    (case et_NoInverse => k_is)
    (case eu_NoInverse => k_is)
    (case ev_NoInverse => rfl)
    (case ew_NoInverse => kernel_rfl)
    (case ea_NotCommuting => k_is)
    (case eb_NotCommuting => k_is)
    (case ec_NotCommuting => kernel_rfl)
    (case ej_NotCommuting => k_is)
    (case ee_NotCommuting => kernel_rfl)
    (case er_NotCommuting => k_is)
    (case es_NotCommuting => k_is)
    (case et_NotCommuting => k_is)
    (case eu_NotCommuting => k_is)
    (case ev_NotCommuting => rfl)
    (case ew_NotCommuting => kernel_rfl)
    (case ea_NotWhole => k_is)
    (case eb_NotWhole => k_is)
    (case ec_NotWhole => kernel_rfl)
    (case ej_NotWhole => k_is)
    (case ee_NotWhole => kernel_rfl)
    (case er_NotWhole => k_is)
    (case es_NotWhole => k_is)
    (case et_NotWhole => k_is)
    (case eu_NotWhole => k_is)
    (case ev_NotWhole => rfl)
    (case ew_NotWhole => kernel_rfl)
    (case ea_NotStraight => k_is)
    (case eb_NotStraight => k_is)
    (case ec_NotStraight => kernel_rfl)
    (case ej_NotStraight => k_is)
    (case ee_NotStraight => kernel_rfl)
    (case er_NotStraight => k_is)
    (case es_NotStraight => k_is)
    (case et_NotStraight => k_is)
    (case eu_NotStraight => k_is)
    (case ev_NotStraight => rfl)
    (case ew_NotStraight => kernel_rfl)
    (case ea_NoUnit => k_is)
    (case eb_NoUnit => k_is)
    (case ec_NoUnit => kernel_rfl)
    (case ej_NoUnit => k_is)
    (case ee_NoUnit => kernel_rfl)
    (case er_NoUnit => k_is)
    (case es_NoUnit => k_is)
    (case et_NoUnit => k_is)
    (case eu_NoUnit => k_is)
    (case ev_NoUnit => rfl)
    (case ew_NoUnit => kernel_rfl)
    (case ea_Unused => k_is)
    (case eb_Unused => k_is)
    (case ec_Unused => kernel_rfl)
    (case ej_Unused => k_is)
    (case ee_Unused => kernel_rfl)
    (case er_Unused => k_is)
    (case es_Unused => k_is)
    (case et_Unused => k_is)
    (case eu_Unused => k_is)
    (case ev_Unused => rfl)
    (case ew_Unused => kernel_rfl)
    (case ea_WrongCount => k_is)
    (case eb_WrongCount => k_is)
    (case ec_WrongCount => kernel_rfl)
    (case ej_WrongCount => k_is)
    (case ee_WrongCount => kernel_rfl)
    (case er_WrongCount => k_is)
    (case es_WrongCount => k_is)
    (case et_WrongCount => k_is)
    (case eu_WrongCount => k_is)
    (case ev_WrongCount => rfl)
    (case ew_WrongCount => kernel_rfl)
    (case ea_TooMany => k_is)
    (case eb_TooMany => k_is)
    (case ec_TooMany => kernel_rfl)
    (case ej_TooMany => k_is)
    (case ee_TooMany => kernel_rfl)
    (case er_TooMany => k_is)
    (case es_TooMany => k_is)
    (case et_TooMany => k_is)
    (case eu_TooMany => k_is)
    (case ev_TooMany => rfl)
    (case ew_TooMany => kernel_rfl)
    (case ea_TooGreat => k_is)
    (case eb_TooGreat => k_is)
    (case ec_TooGreat => kernel_rfl)
    (case ej_TooGreat => k_is)
    (case ee_TooGreat => kernel_rfl)
    (case er_TooGreat => k_is)
    (case es_TooGreat => k_is)
    (case et_TooGreat => k_is)
    (case eu_TooGreat => k_is)
    (case ev_TooGreat => rfl)
    (case ew_TooGreat => kernel_rfl)
    (case ea_EmptyRealm => k_is)
    (case eb_EmptyRealm => k_is)
    (case ec_EmptyRealm => kernel_rfl)
    (case ej_EmptyRealm => k_is)
    (case ee_EmptyRealm => kernel_rfl)
    (case er_EmptyRealm => k_is)
    (case es_EmptyRealm => k_is)
    (case et_EmptyRealm => k_is)
    (case eu_EmptyRealm => k_is)
    (case ev_EmptyRealm => rfl)
    (case ew_EmptyRealm => kernel_rfl)
    (case ea_Unsound => k_is)
    (case eb_Unsound => k_is)
    (case ec_Unsound => kernel_rfl)
    (case ej_Unsound => k_is)
    (case ee_Unsound => kernel_rfl)
    (case er_Unsound => k_is)
    (case es_Unsound => k_is)
    (case et_Unsound => k_is)
    (case eu_Unsound => k_is)
    (case ev_Unsound => rfl)
    (case ew_Unsound => kernel_rfl)
    (case ea_DuplicateName => k_is)
    (case eb_DuplicateName => k_is)
    (case ec_DuplicateName => kernel_rfl)
    (case ej_DuplicateName => k_is)
    (case ee_DuplicateName => kernel_rfl)
    (case er_DuplicateName => k_is)
    (case es_DuplicateName => k_is)
    (case et_DuplicateName => k_is)
    (case eu_DuplicateName => k_is)
    (case ev_DuplicateName => rfl)
    (case ew_DuplicateName => kernel_rfl)
    (case ea_InUse => k_is)
    (case eb_InUse => k_is)
    (case ec_InUse => kernel_rfl)
    (case ej_InUse => k_is)
    (case ee_InUse => kernel_rfl)
    (case er_InUse => k_is)
    (case es_InUse => k_is)
    (case et_InUse => k_is)
    (case eu_InUse => k_is)
    (case ev_InUse => rfl)
    (case ew_InUse => kernel_rfl)
    (case ea_Broken => k_is)
    (case eb_Broken => k_is)
    (case ec_Broken => kernel_rfl)
    (case ej_Broken => k_is)
    (case ee_Broken => kernel_rfl)
    (case er_Broken => k_is)
    (case es_Broken => k_is)
    (case et_Broken => k_is)
    (case eu_Broken => k_is)
    (case ev_Broken => rfl)
    (case ew_Broken => kernel_rfl)
    (case ea_Full => k_is)
    (case eb_Full => k_is)
    (case ec_Full => kernel_rfl)
    (case ej_Full => k_is)
    (case ee_Full => kernel_rfl)
    (case er_Full => k_is)
    (case es_Full => k_is)
    (case et_Full => k_is)
    (case eu_Full => k_is)
    (case ev_Full => rfl)
    (case ew_Full => kernel_rfl)
    (case ea_UnknownName => k_is)
    (case eb_UnknownName => k_is)
    (case ec_UnknownName => kernel_rfl)
    (case ej_UnknownName => k_is)
    (case ee_UnknownName => kernel_rfl)
    (case er_UnknownName => k_is)
    (case es_UnknownName => k_is)
    (case et_UnknownName => k_is)
    (case eu_UnknownName => k_is)
    (case ev_UnknownName => rfl)
    (case ew_UnknownName => kernel_rfl)
    (case ea_UnknownNumber => k_is)
    (case eb_UnknownNumber => k_is)
    (case ec_UnknownNumber => kernel_rfl)
    (case ej_UnknownNumber => k_is)
    (case ee_UnknownNumber => kernel_rfl)
    (case er_UnknownNumber => k_is)
    (case es_UnknownNumber => k_is)
    (case et_UnknownNumber => k_is)
    (case eu_UnknownNumber => k_is)
    (case ev_UnknownNumber => rfl)
    (case ew_UnknownNumber => kernel_rfl)
    (case ea_NothingLeft => k_is)
    (case eb_NothingLeft => k_is)
    (case ec_NothingLeft => kernel_rfl)
    (case ej_NothingLeft => k_is)
    (case ee_NothingLeft => kernel_rfl)
    (case er_NothingLeft => k_is)
    (case es_NothingLeft => k_is)
    (case et_NothingLeft => k_is)
    (case eu_NothingLeft => k_is)
    (case ev_NothingLeft => rfl)
    (case ew_NothingLeft => kernel_rfl)
    (case mRE => k_is)
    (case mMI => k_is)
    (case kt => kernel_rfl)
