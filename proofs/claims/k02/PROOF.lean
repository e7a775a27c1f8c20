
import PyProof.Rows.All
import Wide.All
import OpenK.AllK
import Wide.FinOn
import HandS.ForMost
import HandS.IsInst
import HandS.Walk
import HandS.Wide
import HandS.Codes
import HandS.Gcd
import HandS.Zip
import PySem.Challenge.RW_numbertypes_k02_integers_names_and_share
set_option Elab.async false
set_option linter.all false
set_option maxRecDepth 100000
set_option maxHeartbeats 4000000
namespace My
open PySem PySem.Spec PyProof.Rows L2
/-! ### the text by places -/
def topS (i : Nat) : Stmt := PySem.Challenge.pw_numbertypes_k02_integers_names_and_share.main.body.getD i (.Pass ⟨0, 0, 0, 0⟩)
abbrev s_is_int : Stmt := topS 5
abbrev N_is_int : List Str := ["value"]
theorem sc_is_int : FnScope N_is_int ["value"] (defScope s_is_int) := ⟨rfl, rfl, rfl, by decide +kernel, rfl, by decide +kernel, by decide +kernel⟩
abbrev s_is_name : Stmt := topS 6
abbrev N_is_name : List Str := ["value", "sign"]
theorem sc_is_name : FnScope N_is_name ["value"] (defScope s_is_name) := ⟨rfl, rfl, rfl, by decide +kernel, rfl, by decide +kernel, by decide +kernel⟩
abbrev s_is_share : Stmt := topS 7
abbrev N_is_share : List Str := ["value", "p", "q"]
theorem sc_is_share : FnScope N_is_share ["value"] (defScope s_is_share) := ⟨rfl, rfl, rfl, by decide +kernel, rfl, by decide +kernel, by decide +kernel⟩
abbrev s_l_bag : Stmt := topS 9
abbrev N_l_bag : List Str := ["_law_script", "_law_cells"]
theorem sc_l_bag : FnScope N_l_bag ["_law_script"] (defScope s_l_bag) := ⟨rfl, rfl, rfl, by decide +kernel, rfl, by decide +kernel, by decide +kernel⟩
abbrev s_l_draw : Stmt := topS 10
abbrev N_l_draw : List Str := ["_law_bag_here", "_law_many", "_law_cell", "_law_got"]
theorem sc_l_draw : FnScope N_l_draw ["_law_bag_here", "_law_many"] (defScope s_l_draw) := ⟨rfl, rfl, rfl, by decide +kernel, rfl, by decide +kernel, by decide +kernel⟩
abbrev s_l_pick : Stmt := topS 11
abbrev N_l_pick : List Str := ["_law_bag_here", "_law_some"]
theorem sc_l_pick : FnScope N_l_pick ["_law_bag_here", "_law_some"] (defScope s_l_pick) := ⟨rfl, rfl, rfl, by decide +kernel, rfl, by decide +kernel, by decide +kernel⟩
abbrev s_l_letters : Stmt := topS 12
abbrev N_l_letters : List Str := []
theorem sc_l_letters : FnScope N_l_letters [] (defScope s_l_letters) := ⟨rfl, rfl, rfl, by decide +kernel, rfl, by decide +kernel, by decide +kernel⟩
abbrev s_l_same : Stmt := topS 13
abbrev N_l_same : List Str := ["_law_found", "_law_due", "_law_a", "_law_b"]
theorem sc_l_same : FnScope N_l_same ["_law_found", "_law_due"] (defScope s_l_same) := ⟨rfl, rfl, rfl, by decide +kernel, rfl, by decide +kernel, by decide +kernel⟩
abbrev s_l_odd : Stmt := topS 14
abbrev N_l_odd : List Str := ["_law_bag_here"]
theorem sc_l_odd : FnScope N_l_odd ["_law_bag_here"] (defScope s_l_odd) := ⟨rfl, rfl, rfl, by decide +kernel, rfl, by decide +kernel, by decide +kernel⟩
abbrev s_l_gcd : Stmt := topS 15
abbrev N_l_gcd : List Str := ["_law_a", "_law_b", "_law_left_z", "_law_right_z"]
theorem sc_l_gcd : FnScope N_l_gcd ["_law_a", "_law_b"] (defScope s_l_gcd) := ⟨rfl, rfl, rfl, by decide +kernel, rfl, by decide +kernel, by decide +kernel⟩
abbrev s_law : Stmt := topS 16
abbrev N_law : List Str := ["_law_script", "_law_bag_here", "_law_turn", "_law_number", "_law_odd_here", "_law_length", "_law_word", "_law_k", "_law_spot", "_law_bent", "_law_reserved", "_law_due", "_law_p", "_law_q", "_law_asks"]
theorem sc_law : FnScope N_law ["_law_script"] (defScope s_law) := ⟨rfl, rfl, rfl, by decide +kernel, rfl, by decide +kernel, by decide +kernel⟩
structure Blt (mg : Str → Option Value) : Prop where
  abs : mg "abs" = none
  all : mg "all" = none
  bool : mg "bool" = none
  int : mg "int" = none
  isinstance : mg "isinstance" = none
  len : mg "len" = none
  list : mg "list" = none
  range : mg "range" = none
  str : mg "str" = none
  tuple : mg "tuple" = none
  zip : mg "zip" = none
theorem bb_abs : bootBuiltins "abs" = some (.builtin "abs") := by decide +kernel
theorem bb_all : bootBuiltins "all" = some (.builtin "all") := by decide +kernel
theorem bb_bool : bootBuiltins "bool" = some (.type "bool") := by decide +kernel
theorem bb_int : bootBuiltins "int" = some (.type "int") := by decide +kernel
theorem bb_isinstance : bootBuiltins "isinstance" = some (.builtin "isinstance") := by decide +kernel
theorem bb_len : bootBuiltins "len" = some (.builtin "len") := by decide +kernel
theorem bb_list : bootBuiltins "list" = some (.type "list") := by decide +kernel
theorem bb_range : bootBuiltins "range" = some (.type "range") := by decide +kernel
theorem bb_str : bootBuiltins "str" = some (.type "str") := by decide +kernel
theorem bb_tuple : bootBuiltins "tuple" = some (.type "tuple") := by decide +kernel
theorem bb_zip : bootBuiltins "zip" = some (.type "zip") := by decide +kernel
/-! ### an own def by its name -/
structure Has (P : Program) (w : World) (K : PySem.W.Frag) (mg : Str → Option Value) (base : Heap) (k : Nat) (x : Str) (ps : List Str) (sp : Sp) : Prop where
  ex : ∃ (f : Addr) (fd : FuncData), FnOk P w K mg base CX0 k f fd ps sp ∧ mg x = some (.ref f) ∧ PySem.W.keepIn K (.ref f) = true ∧ Binds K fd ps []
structure Fn (K : PySem.W.Frag) (mg : Str → Option Value) (x : Str) (st : Stmt) (ps : List Str) : Prop where
  ex : ∃ (f : Addr) (fd : FuncData), Fun K x x st f fd ∧ mg x = some (.ref f) ∧ Binds K fd ps []
section
variable {X : Cx} {k : Nat} {x : Str} {ps : List Str} {sp : Sp} {p pos : Pos} {e : Expr} {es : List Expr} {t : TA}
theorem pe_own (h : Has X.prog X.w X.K X.mg X.base k x ps sp) (hr : Room k X.A) (hg : Gl X x) (ha : PA X (e :: es) t) (hdb : (x == ("__debug__" : Str)) = false := by decide)
    (he : starEach (e :: es) X.env = (false, eval e X.env) :: starEach es X.env := by rfl) (hpl : (backTo pos (starEach es X.env)).any (·.1) = false := by rfl) : PE X (.Call (.Name x p) (e :: es) [] pos) (tCall sp [] E0 t) := by
  obtain ⟨f, fd, F, m, kp, b⟩ := h.ex
  exact pe_call F hr hg m kp b .nil pass0 ha hdb he hpl
theorem pe_own0 (h : Has X.prog X.w X.K X.mg X.base k x ps sp) (hr : Room k X.A) (hg : Gl X x) (hdb : (x == ("__debug__" : Str)) = false := by decide) : PE X (.Call (.Name x p) [] [] pos) (tCall sp [] E0 tNil) := by
  obtain ⟨f, fd, F, m, kp, b⟩ := h.ex
  exact pe_call0 F hr hg m kp b .nil pass0 hdb
theorem pe_gstr {z : Str} (h : ∃ u, X.mg x = some (.str z u)) (hg : Gl X x) (hdb : (x == ("__debug__" : Str)) = false := by decide) : PE X (.Name x pos) (tC (.str z)) := by
  obtain ⟨u, h⟩ := h
  exact pe_glob hg h ⟨_, rfl⟩ hdb
theorem pe_gint {z : Int} (h : ∃ u, X.mg x = some (.int z u)) (hg : Gl X x) (hdb : (x == ("__debug__" : Str)) = false := by decide) : PE X (.Name x pos) (tC (.int z)) := by
  obtain ⟨u, h⟩ := h
  exact pe_glob hg h ⟨_, rfl⟩ hdb
theorem pe_gref {a : Addr} (h : X.mg x = some (.ref a)) (hg : Gl X x) (hdb : (x == ("__debug__" : Str)) = false := by decide) : PE X (.Name x pos) (tC (.ref a)) := pe_glob hg h rfl hdb
end
section
variable {P : Program} {w : World} {K : PySem.W.Frag} {mg : Str → Option Value} {base : Heap}
theorem Fn.has {x : Str} {st : Stmt} {N ps : List Str} {k : Nat} {sp : Sp} (F : Fn K mg x st ps) (S : FnScope N ps (defScope st)) (len : ∀ vs H Q E, sp vs H Q E → vs.length = ps.length)
    (hbody : ∀ (f : Addr) (cdv : Value) (A : Around) (outer : List Env) (s : Shared) (H : Hp) (vs : List V) (Q : VK) (E : XK), Room k (A.deeper (envOfC x (defScope st) s.heap.objs.size f cdv)) → sp vs H Q E →
      ∃ t, PSs (cxOf CX0 P w K mg base N x (defScope st) f cdv A outer s H E).nox (defBody st) t ∧ t { nx := fun _ H' => Q .non H', rt := Q } (start N vs) H) : Has P w K mg base (k + 1) x ps sp := by
  obtain ⟨f, fd, F, m, b⟩ := F.ex
  exact ⟨f, fd, F.ok S len (hbody f), m, F.kp, b⟩
end
/-! ### heaps -/
theorem same_upd {H : Hp} {p : Addr} {o : HO} (h : H p = none) : Same H (upd H p o) := fun b x e => by
  rw [upd_ne (ne_of_none e h)]
  exact e
/-- all that was tracked is as it was, but for b -/
def Kp (b : Addr) (H H' : Hp) : Prop := ∀ a o, a ≠ b → H a = some o → H' a = some o
theorem Kp.refl (b : Addr) (H : Hp) : Kp b H H := fun _ _ _ h => h
theorem Kp.trans {b : Addr} {H H1 H2 : Hp} (x : Kp b H H1) (y : Kp b H1 H2) : Kp b H H2 := fun a o n h => y a o n (x a o n h)
theorem Kp.of {b : Addr} {H H' : Hp} (s : Same H H') : Kp b H H' := fun a o _ h => s a o h
theorem Kp.upd {b : Addr} {H : Hp} {o : HO} : Kp b H (upd H b o) := fun a u n h => by rw [upd_ne n]; exact h
/-! ### the bag -/
structure BgAt (H : Hp) (b c : Addr) (ns : List Int) (i r m : Int) : Prop where
  hb : H b = some (.lst [.ref c, .int i, .int r, .int m])
  hc : H c = some (.lst (ns.map V.int))
  len : ns.length ≤ 63
  i0 : 0 ≤ i
  r0 : 0 ≤ r
  m0 : 0 ≤ m
  m1 : m < 2147483648
def Bg (H : Hp) (b c : Addr) : Prop := ∃ ns i r m, BgAt H b c ns i r m
theorem bg_ne {H : Hp} {b c : Addr} {x : V} {r : List V} {ns : List Int} {a : Addr} (hb : H b = some (.lst (.ref a :: r))) (hc : H c = some (.lst (ns.map V.int))) : c ≠ b := by
  refine ne_of hc hb fun e => ?_
  cases ns with
  | nil => cases e
  | cons n t => cases e
theorem BgAt.ne {H : Hp} {b c : Addr} {ns : List Int} {i r m : Int} (h : BgAt H b c ns i r m) : c ≠ b := bg_ne (x := .non) h.hb h.hc
theorem BgAt.put {H : Hp} {b c : Addr} {ns : List Int} {i r m i' r' m' : Int} (h : BgAt H b c ns i r m) (i0 : 0 ≤ i') (r0 : 0 ≤ r') (m0 : 0 ≤ m') (m1 : m' < 2147483648) :
    BgAt (upd H b (.lst [.ref c, .int i', .int r', .int m'])) b c ns i' r' m' := ⟨upd_same, by rw [upd_ne h.ne]; exact h.hc, h.len, i0, r0, m0, m1⟩
theorem Bg.same {H H' : Hp} {b c : Addr} (h : Bg H b c) (s : Same H H') : Bg H' b c := by
  obtain ⟨ns, i, r, m, h⟩ := h
  exact ⟨ns, i, r, m, s _ _ h.hb, s _ _ h.hc, h.len, h.i0, h.r0, h.m0, h.m1⟩
theorem Bg.kp {H H' : Hp} {b c d : Addr} (h : Bg H b c) (hd : d ≠ b) (hc : d ≠ c) (s : Kp d H H') : Bg H' b c := by
  obtain ⟨ns, i, r, m, h⟩ := h
  exact ⟨ns, i, r, m, s _ _ hd.symm h.hb, s _ _ hc.symm h.hc, h.len, h.i0, h.r0, h.m0, h.m1⟩
theorem cut63 {xs : List V} (h : xs.length ≤ 63) : cutV xs none (some 63) = xs := by
  unfold cutV
  rw [HT.sIx_none, show HT.sIx xs.length xs.length (some 63) = min 63 xs.length from HT.sIx_nat xs.length xs.length 63, List.drop_zero, Nat.sub_zero]
  exact List.take_of_length_le (by omega)
theorem at_ofG {α : Type} {xs : List α} {z : Int} {j : Nat} {v : α} (e : z = (j : Int)) (h : xs[j]? = some v) : atI xs z = some v := by
  rw [e]
  exact atI_nat h
def spBag (K : PySem.W.Frag) : Sp := fun vs H Q _ => ∃ (a : Addr) (ns : List Int), vs = [.ref a] ∧ SqL K H a (ns.map V.int) ∧ ns.length ≤ 63 ∧ ∀ (b c : Addr) (H' : Hp), Same H H' → H b = none → Bg H' b c → Q (.ref b) H'
def spDraw : Sp := fun vs H Q _ => ∃ (b c : Addr) (many : Int), vs = [.ref b, .int many] ∧ Bg H b c ∧ 1 ≤ many ∧ many < 2 ^ 200 ∧ ∀ (v : Int) (H' : Hp), 0 ≤ v → v < many → Kp b H H' → Bg H' b c → Q (.int v) H'
section
variable {P : Program} {w : World} {K : PySem.W.Frag} {mg : Str → Option Value} {base : Heap}
theorem ok_bag (F : Fn K mg "_law_bag" s_l_bag ["_law_script"]) (B : Blt mg) : Has P w K mg base 1 "_law_bag" ["_law_script"] (spBag K) := by
  refine F.has sc_l_bag (fun vs H Q E h => ?_) (fun f cdv A outer s H vs Q E hr h => ?_)
  · obtain ⟨a, ns, rfl, _⟩ := h
    rfl
  obtain ⟨a, ns, rfl, hS, hl, q⟩ := h
  refine ⟨_, (pss_cons (ps_set (i := 1) sc_l_bag.nd rfl (Or.inl rfl) (pe_callTy call_list_of (by rfl) B.list bb_list (pa_cons (pe_slice sl_list (pv 0) po_none (po_some pe_int)) pa_nil)))
      (pss_one (ps_ret (pe_lst (pa_cons (pv 1) (pa_cons pe_int (pa_cons pe_int (pa_cons (pe_op op_add pe_int (pe_op op_mul pe_int (pe_callB call_len (by rfl) B.len bb_len (pa_cons (pv 1) pa_nil)))) pa_nil)))))))), ?_⟩
  have hl' : (ns.map V.int).length ≤ 63 := by rw [List.length_map]; exact hl
  refine ⟨_, rfl, 63, rfl, a, _, rfl, hS, fun p hp => ?_⟩
  rw [cut63 hl']
  refine ⟨p, _, rfl, .inl (SqL.of upd_same), fun c hc => ?_⟩
  have sm : Same H (upd (upd H p (.lst (ns.map V.int))) c (.lst (ns.map V.int))) := (same_upd hp).trans (same_upd hc)
  refine ⟨_, rfl, _, rfl, .ref c, _, rfl, .inl ⟨_, SqL.of upd_same, rfl⟩, _, _, rfl, rfl, .inl ⟨by decide, by decide⟩, _, _, rfl, rfl, (by show 4 ≤ sizeLine; decide), fun b hb => ?_⟩
  refine q b c _ (sm.trans (same_upd hb)) (sm.free hb) ⟨ns, 0, 0, _, upd_same, ?_, hl, Int.le_refl _, Int.le_refl _, ?_, ?_⟩
  · rw [upd_ne (ne_of_none upd_same hb)]
    exact upd_same
  · omega
  · rw [List.length_map]
    omega
theorem div200 {y z : Int} (h : 1 ≤ z) (h2 : z < 2 ^ 200) : CDivW y z := by
  refine wide_div (b := 200) (by omega) ?_ (by decide) (by decide)
  omega
theorem ok_draw (F : Fn K mg "_law_draw" s_l_draw ["_law_bag_here", "_law_many"]) (B : Blt mg) : Has P w K mg base 1 "_law_draw" ["_law_bag_here", "_law_many"] spDraw := by
  refine F.has sc_l_draw (fun vs H Q E h => ?_) (fun f cdv A outer s H vs Q E hr h => ?_)
  · obtain ⟨a, c, ns, rfl, _⟩ := h
    rfl
  obtain ⟨b, c, many, rfl, hB, h1, h2, q⟩ := h
  refine ⟨_, (C8.pss_cut (ps_if (PW.pt (pw_and (pt_cmpR op_eq (pe_ix ix_list (pv 0) pe_int (fun _ _ => rfl)) pe_int (nomark _)) (pw_and1 (pt_cmpR op_lt (pe_ix ix_list (pv 0) pe_int (fun _ _ => rfl)) (pe_callB call_len (by rfl) B.len bb_len (pa_cons (pe_ix ix_list (pv 0) pe_int (fun _ _ => rfl)) pa_nil)) (nomark _)))))
        (pss_cons (ps_set (i := 2) sc_l_draw.nd rfl (Or.inl rfl) (pe_ix ix_list (pe_ix ix_list (pv 0) pe_int (fun _ _ => rfl)) (pe_ix ix_list (pv 0) pe_int (fun _ _ => rfl)) (fun _ _ => rfl)))
      (pss_cons (ps_asg (pe_op op_add (pe_ix ix_list (pv 0) pe_int (fun _ _ => rfl)) pe_int) (pg_sub (pv 0) pe_int set_list))
      (pss_one (ps_if (pt_cmpR op_ge (pe_callB call_abs (by rfl) B.abs bb_abs (pa_cons (pv 2) pa_nil)) (pe_op op_pow pe_int pe_int) (nomark _))
        (pss_one (ps_asg (pe_callB call_abs (by rfl) B.abs bb_abs (pa_cons (pv 2) pa_nil)) (pg_sub (pv 0) pe_int set_list)))
        (pss_one (ps_asg (pe_op op_mod (pe_callTy call_int1 (by rfl) B.int bb_int (pa_cons (pe_op op_add (pe_op op_add (pe_op op_mul (pe_ix ix_list (pv 0) pe_int (fun _ _ => rfl)) pe_int) (pe_op op_mul (pe_op op_mod (pe_callTy call_int1 (by rfl) B.int bb_int (pa_cons (pv 2) pa_nil)) pe_int) pe_int)) pe_int) pa_nil)) pe_int) (pg_sub (pv 0) pe_int set_list)))))))
        pss_nil)
      (pss_cons (ps_if (pt_cmpR op_gt (pe_ix ix_list (pv 0) pe_int (fun _ _ => rfl)) pe_int (nomark _))
        (pss_cons (ps_set (i := 3) sc_l_draw.nd rfl (Or.inl rfl) (pe_op op_mod (pe_callTy call_int1 (by rfl) B.int bb_int (pa_cons (pe_ix ix_list (pv 0) pe_int (fun _ _ => rfl)) pa_nil)) (pv 1)))
      (pss_cons (ps_asg (pe_op op_fdivW (pe_ix ix_list (pv 0) pe_int (fun _ _ => rfl)) (pv 1)) (pg_sub (pv 0) pe_int set_list))
      (pss_one (ps_ret (pv 3)))))
        pss_nil)
      (pss_cons (ps_asg (pe_op op_mod (pe_callTy call_int1 (by rfl) B.int bb_int (pa_cons (pe_op op_add (pe_op op_add (pe_op op_mul (pe_op op_mul (pe_ix ix_list (pv 0) pe_int (fun _ _ => rfl)) (pe_ix ix_list (pv 0) pe_int (fun _ _ => rfl))) pe_int) (pe_op op_mul (pe_ix ix_list (pv 0) pe_int (fun _ _ => rfl)) pe_int)) pe_int) pa_nil)) pe_int) (pg_sub (pv 0) pe_int set_list))
      (pss_one (ps_ret (pe_op op_mod (pe_callTy call_int1 (by rfl) B.int bb_int (pa_cons (pe_op op_fdiv (pe_ix ix_list (pv 0) pe_int (fun _ _ => rfl)) pe_int) pa_nil)) (pv 1))))))), ?_⟩
  refine ⟨fun σ' H' => ∃ y, σ' = [some (.ref b), some (.int many), y, none] ∧ Kp b H H' ∧ Bg H' b c, ?_, ?_⟩
  · obtain ⟨ns, i, r, m, g⟩ := hB
    refine ⟨_, rfl, b, _, 2, _, rfl, rfl, SqL.of g.hb, atI_nat (j := 2) rfl, rfl, _, rfl, ite2 (fun e => ?_) (fun e => ?_)⟩
    · refine ⟨_, rfl, b, _, 1, _, rfl, rfl, SqL.of g.hb, atI_nat (j := 1) rfl, _, rfl, b, _, 0, _, rfl, rfl, SqL.of g.hb, atI_nat (j := 0) rfl, .ref c, _, rfl, .inl ⟨_, SqL.of g.hc, rfl⟩, _, _, rfl, rfl, _, rfl, ite2 (fun e2 => ?_) (fun e2 => ?_)⟩
      · have hi : i < ((ns.map V.int).length : Int) := of_decide_eq_true e2
        rw [List.length_map] at hi
        have i0 := g.i0
        obtain ⟨x, hx⟩ : ∃ x : Int, atI (ns.map V.int) i = some (.int x) := by
          have hk : i.toNat < ns.length := by omega
          have ek : i = ((i.toNat : Nat) : Int) := by omega
          exact ⟨ns[i.toNat], at_of ek (by rw [List.getElem?_map]; simp [hk])⟩
        refine ⟨_, rfl, b, _, 0, _, rfl, rfl, SqL.of g.hb, atI_nat (j := 0) rfl, _, rfl, b, _, 1, _, rfl, rfl, SqL.of g.hb, atI_nat (j := 1) rfl, c, _, i, .int x, rfl, rfl, SqL.of g.hc, hx, ?_⟩
        refine ⟨_, rfl, b, _, 1, _, rfl, rfl, SqL.of g.hb, atI_nat (j := 1) rfl, _, _, rfl, rfl, _, rfl, b, _, 1, 1, rfl, rfl, g.hb, rfl, ?_⟩
        have g1 := g.put (i' := i + 1) (r' := r) (m' := m) (by omega) g.r0 g.m0 g.m1
        refine ⟨_, rfl, x, rfl, _, _, rfl, rfl, ⟨by decide, by decide, by decide⟩, _, _, rfl, rfl, _, rfl, ite2 (fun e3 => ?_) (fun e3 => ?_)⟩
        · refine ⟨_, rfl, x, rfl, _, rfl, b, _, 2, 2, rfl, rfl, g1.hb, rfl, ?_⟩
          refine ⟨_, rfl, Kp.upd.trans Kp.upd, ns, i + 1, _, m, g1.put g1.i0 ?_ g1.m0 g1.m1⟩
          split <;> omega
        · refine ⟨_, rfl, b, _, 3, _, rfl, rfl, SqL.of g1.hb, atI_nat (j := 3) rfl, _, _, rfl, rfl, .inr ⟨by decide, by decide⟩, _, rfl, .inl ⟨_, rfl, _, _, rfl, rfl, (show (0 : Int) < 1000171 by decide), _, _, rfl, rfl, .inr ⟨by decide, by decide⟩, _, _, rfl, rfl, _, _, rfl, rfl, .inl ⟨_, rfl, _, _, rfl, rfl, (show (0 : Int) < 2147483563 by decide), _, rfl, b, _, 3, 3, rfl, rfl, g1.hb, rfl, ?_⟩⟩⟩
          refine ⟨_, rfl, Kp.upd.trans Kp.upd, ns, i + 1, r, _, g1.put g1.i0 g1.r0 (Int.emod_nonneg _ (by decide)) ?_⟩
          have z := Int.emod_lt_of_pos (m * 41177 + x % 1000171 * 907 + 59) (show (0 : Int) < 2147483563 by decide)
          omega
      · exact ⟨_, rfl, Kp.refl _ _, ns, i, r, m, g⟩
    · exact ⟨_, rfl, Kp.refl _ _, ns, i, r, m, g⟩
  · rintro σ' H' ⟨y, rfl, kp, ns, i, r, m, g⟩
    refine ⟨_, rfl, b, _, 2, _, rfl, rfl, SqL.of g.hb, atI_nat (j := 2) rfl, _, _, rfl, rfl, _, rfl, ite2 (fun e => ?_) (fun e => ?_)⟩
    · have hm : 0 < many := by omega
      refine ⟨_, rfl, b, _, 2, _, rfl, rfl, SqL.of g.hb, atI_nat (j := 2) rfl, .inl ⟨_, rfl, _, rfl, _, _, rfl, rfl, hm, ?_⟩⟩
      refine ⟨_, rfl, b, _, 2, _, rfl, rfl, SqL.of g.hb, atI_nat (j := 2) rfl, _, rfl, _, _, rfl, rfl, div200 h1 h2, _, rfl, b, _, 2, 2, rfl, rfl, g.hb, rfl, ?_⟩
      have g1 := g.put (i' := i) (r' := r / many) (m' := m) g.i0 (Int.ediv_nonneg g.r0 (by omega)) g.m0 g.m1
      refine ⟨_, rfl, q _ _ (Int.emod_nonneg _ (by omega)) (Int.emod_lt_of_pos _ hm) (kp.trans Kp.upd) ⟨ns, i, _, m, g1⟩⟩
    · refine ⟨_, rfl, b, _, 3, _, rfl, rfl, SqL.of g.hb, atI_nat (j := 3) rfl, _, rfl, b, _, 3, _, rfl, rfl, SqL.of g.hb, atI_nat (j := 3) rfl, _, _, rfl, rfl, ?_, ?_⟩
      · have h3 := g.m0
        have h4 := g.m1
        exact .inl ⟨by omega, by omega⟩
      · refine ⟨_, _, rfl, rfl, .inr ⟨by decide, by decide⟩, _, rfl, b, _, 3, _, rfl, rfl, SqL.of g.hb, atI_nat (j := 3) rfl, _, _, rfl, rfl, .inr ⟨by decide, by decide⟩, _, _, rfl, rfl, _, _, rfl, rfl, .inl ⟨_, rfl, _, _, rfl, rfl, (show (0 : Int) < 2147483579 by decide), _, rfl, b, _, 3, 3, rfl, rfl, g.hb, rfl, ?_⟩⟩
        have z := Int.emod_lt_of_pos (m * m * 3 + m * 30089 + 1700047) (show (0 : Int) < 2147483579 by decide)
        have g1 := g.put (i' := i) (r' := r) (m' := (m * m * 3 + m * 30089 + 1700047) % 2147483579) g.i0 g.r0 (Int.emod_nonneg _ (by decide)) (by omega)
        have hm : 0 < many := by omega
        refine ⟨_, rfl, b, _, 3, _, rfl, rfl, SqL.of g1.hb, atI_nat (j := 3) rfl, _, _, rfl, rfl, ⟨by decide, by decide⟩, .inl ⟨_, rfl, _, rfl, _, _, rfl, rfl, hm, ?_⟩⟩
        exact q _ _ (Int.emod_nonneg _ (by omega)) (Int.emod_lt_of_pos _ hm) (kp.trans Kp.upd) ⟨ns, i, r, _, g1⟩
/-- an item of some list or sign of some text, by a draw -/
def spPick (K : PySem.W.Frag) : Sp := fun vs H Q _ => ∃ (b c : Addr) (x : V), vs = [.ref b, x] ∧ Bg H b c ∧
  ((∃ (a : Addr) (xs : List V), x = .ref a ∧ a ≠ b ∧ H a = some (.lst xs) ∧ xs ≠ [] ∧ xs.length ≤ 1000 ∧ ∀ (v : V) (H' : Hp), v ∈ xs → Kp b H H' → Bg H' b c → Q v H') ∨
   (∃ z : Str, x = .str z ∧ 0 < z.cps.size ∧ z.cps.size ≤ 1000 ∧ ∀ (d : Nat) (H' : Hp), d ∈ z.cps.toList → Kp b H H' → Bg H' b c → Q (.str ⟨#[d]⟩) H'))
theorem ok_pick (F : Fn K mg "_law_pick" s_l_pick ["_law_bag_here", "_law_some"]) (B : Blt mg) (G_l_draw : Has P w K mg base 1 "_law_draw" ["_law_bag_here", "_law_many"] spDraw) : Has P w K mg base 2 "_law_pick" ["_law_bag_here", "_law_some"] (spPick K) := by
  refine F.has sc_l_pick (fun vs H Q E h => ?_) (fun f cdv A outer s H vs Q E hr h => ?_)
  · obtain ⟨a, c, ns, rfl, _⟩ := h
    rfl
  obtain ⟨b, c, x, rfl, hB, h⟩ := h
  refine ⟨_, (pss_one (ps_ret (pe_ix ix_seq (pv 1) (pe_own G_l_draw (hr.mono (by decide)) (by rfl) (pa_cons (pv 0) (pa_cons (pe_callB call_len (by rfl) B.len bb_len (pa_cons (pv 1) pa_nil)) pa_nil))) (fun _ _ => rfl)))), ?_⟩
  rcases h with ⟨a, xs, rfl, hab, ha, hne, hlen, q⟩ | ⟨z, rfl, h0, hlen, q⟩
  · have hpos : 0 < xs.length := List.length_pos_iff.mpr hne
    refine ⟨_, rfl, _, rfl, _, rfl, .ref a, xs.length, rfl, .inl ⟨xs, SqL.of ha, rfl⟩, b, c, _, rfl, hB, by omega, by omega, fun v H' v0 v1 kp hB' => ?_⟩
    have hk : v.toNat < xs.length := by omega
    refine .inl ⟨a, xs, v, xs[v.toNat], rfl, rfl, SqL.of (kp _ _ hab ha), at_of (show v = ((v.toNat : Nat) : Int) by omega) (List.getElem?_eq_getElem hk), ?_⟩
    exact q _ _ (List.getElem_mem hk) kp hB'
  · refine ⟨_, rfl, _, rfl, _, rfl, .str z, z.length, rfl, ⟨by show z.cps.size ≤ sizeLine; exact Nat.le_of_lt (small1000 hlen), rfl⟩, b, c, _, rfl, hB, by show (1 : Int) ≤ (z.cps.size : Int); omega, by show (z.cps.size : Int) < 2 ^ 200; omega, fun v H' v0 v1 kp hB' => ?_⟩
    have hk : v.toNat < z.cps.toList.length := by
      have v1' : v < (z.cps.size : Int) := v1
      rw [Array.length_toList]
      omega
    refine .inr (.inr ⟨z, v, z.cps.toList[v.toNat], rfl, rfl, by show z.cps.size ≤ sizeLine; exact Nat.le_of_lt (small1000 hlen), at_ofG (show v = ((v.toNat : Nat) : Int) by omega) (List.getElem?_eq_getElem hk), ?_⟩)
    exact q _ _ (List.getElem_mem hk) kp hB'
end
/-! ### the same data -/
def leafV : V → Prop
  | .non => True
  | .bl _ => True
  | .int _ => True
  | .str _ => True
  | _ => False
/-- two values that stand for the same data, so deep at most -/
def Eqd (H : Hp) : Nat → V → V → Prop
  | 0 => fun _ _ => False
  | n + 1 => fun x y => (x = y ∧ leafV x) ∨
    (∃ (a b : Addr) (xs ys : List V), x = .ref a ∧ y = .ref b ∧ H a = some (.lst xs) ∧ H b = some (.lst ys) ∧ xs.length ≤ 1000 ∧ Paired (Eqd H n) xs ys) ∨
    (∃ (a b : Addr) (xs ys : List V), x = .ref a ∧ y = .ref b ∧ H a = some (.tup xs) ∧ H b = some (.tup ys) ∧ xs.length ≤ 1000 ∧ Paired (Eqd H n) xs ys)
theorem Eqd.leaf {H : Hp} {n : Nat} {x : V} (h : leafV x) : Eqd H (n + 1) x x := .inl ⟨rfl, h⟩
theorem Eqd.lst {H : Hp} {n : Nat} {a b : Addr} {xs ys : List V} (ha : H a = some (.lst xs)) (hb : H b = some (.lst ys)) (hl : xs.length ≤ 1000) (h : Paired (Eqd H n) xs ys) : Eqd H (n + 1) (.ref a) (.ref b) := .inr (.inl ⟨a, b, xs, ys, rfl, rfl, ha, hb, hl, h⟩)
theorem Eqd.tup {H : Hp} {n : Nat} {a b : Addr} {xs ys : List V} (ha : H a = some (.tup xs)) (hb : H b = some (.tup ys)) (hl : xs.length ≤ 1000) (h : Paired (Eqd H n) xs ys) : Eqd H (n + 1) (.ref a) (.ref b) := .inr (.inr ⟨a, b, xs, ys, rfl, rfl, ha, hb, hl, h⟩)
theorem Eqd.mono {H H' : Hp} (s : Same H H') : ∀ {n : Nat} {x y : V}, Eqd H n x y → Eqd H' n x y
  | 0, _, _, h => h
  | n + 1, x, y, h => by
    rcases h with h | ⟨a, b, xs, ys, h1, h2, h3, h4, h5, h6⟩ | ⟨a, b, xs, ys, h1, h2, h3, h4, h5, h6⟩
    · exact .inl h
    · exact .inr (.inl ⟨a, b, xs, ys, h1, h2, s _ _ h3, s _ _ h4, h5, Paired.mapP h6 fun _ _ z => Eqd.mono s z⟩)
    · exact .inr (.inr ⟨a, b, xs, ys, h1, h2, s _ _ h3, s _ _ h4, h5, Paired.mapP h6 fun _ _ z => Eqd.mono s z⟩)
theorem Eqd.up {H : Hp} : ∀ {n : Nat} {x y : V}, Eqd H n x y → Eqd H (n + 1) x y
  | 0, _, _, h => h.elim
  | n + 1, x, y, h => by
    rcases h with h | ⟨a, b, xs, ys, h1, h2, h3, h4, h5, h6⟩ | ⟨a, b, xs, ys, h1, h2, h3, h4, h5, h6⟩
    · exact .inl h
    · exact .inr (.inl ⟨a, b, xs, ys, h1, h2, h3, h4, h5, Paired.mapP h6 fun _ _ z => Eqd.up z⟩)
    · exact .inr (.inr ⟨a, b, xs, ys, h1, h2, h3, h4, h5, Paired.mapP h6 fun _ _ z => Eqd.up z⟩)
theorem paired_get {F : V → V → Prop} : ∀ {xs ys : List V} {i : Nat} {x y : V}, Paired F xs ys → xs[i]? = some x → ys[i]? = some y → F x y
  | _, _, i, x, y, .nil, hx, _ => by simp at hx
  | _, _, 0, x, y, .cons r _, hx, hy => by
    cases hx
    cases hy
    exact r
  | _, _, i + 1, x, y, .cons _ t, hx, hy => paired_get t (i := i) (by simpa using hx) (by simpa using hy)
theorem paired_len {F : V → V → Prop} : ∀ {xs ys : List V}, Paired F xs ys → xs.length = ys.length
  | _, _, .nil => rfl
  | _, _, .cons _ t => congrArg (· + 1) (paired_len t)
theorem paired_refl {F : V → V → Prop} : ∀ {xs : List V}, (∀ x ∈ xs, F x x) → Paired F xs xs
  | [], _ => .nil
  | x :: r, h => .cons (h x List.mem_cons_self) (paired_refl fun y hy => h y (List.mem_cons_of_mem _ hy))
/-- isinstance(x, T), T a built-in class -/
theorem is_b {K : PySem.W.Frag} {H : Hp} {x : V} {t T : String} {b : Bool} {Q : VK} (ty : TyX K H x (.type t)) (k : kitB t T = some b) (h : Q (.bl b) H) : rIsi K [x, .ty T] H Q :=
  ⟨x, .ty T, .type t, .type T, b, rfl, .ty _, ty, kit_ty k, h⟩
theorem ite_of {c : Prop} [Decidable c] {A B : Prop} (hc : c) (h : A) : if c then A else B := by
  rw [if_pos hc]
  exact h
theorem ite_no {c : Prop} [Decidable c] {A B : Prop} (hc : ¬ c) (h : B) : if c then A else B := by
  rw [if_neg hc]
  exact h
theorem tYes_ok {σ : L2.St} {H : Hp} {A B : Hp → Prop} (h : A H) : tYes σ H (fun b H3 => if b = true then A H3 else B H3) := by
  show (if true = true then A H else B H)
  rw [if_pos rfl]
  exact h
theorem walk_zipT {K : PySem.W.Frag} {a b : Addr} {xs ys : List V} {n : Nat} (hn : n = min xs.length ys.length) : Walk (RZ.ItzT K a b) n (fun H => SqT K H a xs ∧ SqT K H b ys) (YPair (fun i => xs[i]?) (fun i => ys[i]?)) := by
  subst hn
  refine ⟨fun i _ hi q => ?_, fun _ q => ⟨xs, ys, q.1, q.2, by omega⟩, fun i H v H' _ q y => ?_⟩
  · have h1 : i < xs.length := by omega
    have h2 : i < ys.length := by omega
    exact ⟨xs, ys, xs[i], ys[i], q.1, q.2, by simp [h1], by simp [h2]⟩
  · obtain ⟨T, x, z, h1, h2, h3, h4, h5⟩ := y
    exact ⟨T, x, z, h1, h2, h3, h4 xs q.1, h5 ys q.2⟩
def spSame (n : Nat) : Sp := fun vs H Q _ => ∃ x y : V, vs = [x, y] ∧ Eqd H n x y ∧ ∀ H', Same H H' → Q (.bl true) H'
section
variable {P : Program} {w : World} {K : PySem.W.Frag} {mg : Str → Option Value} {base : Heap}
theorem ok_same {n : Nat} (F : Fn K mg "_law_same" s_l_same ["_law_found", "_law_due"]) (B : Blt mg) (G_l_same : Has P w K mg base n "_law_same" ["_law_found", "_law_due"] (spSame n)) :
    Has P w K mg base (n + 1) "_law_same" ["_law_found", "_law_due"] (spSame (n + 1)) := by
  refine F.has sc_l_same (fun vs H Q E h => ?_) (fun f cdv A outer s H vs Q E hr h => ?_)
  · obtain ⟨a, ns, rfl, _⟩ := h
    rfl
  obtain ⟨x, y, rfl, h, q⟩ := h
  refine ⟨_, (pss_cons (ps_if (pt_val (pe_callB call_isi (by rfl) B.isinstance bb_isinstance (pa_cons (pv 1) (pa_cons (pe_bltn (v := .ty "list") (by rfl) B.list bb_list rfl) pa_nil))))
        (pss_one (ps_ret (pe_and (pe_callB call_isi (by rfl) B.isinstance bb_isinstance (pa_cons (pv 0) (pa_cons (pe_bltn (v := .ty "list") (by rfl) B.list bb_list rfl) pa_nil))) (pe_and (pe_cmpR op_eq (pe_callB call_len (by rfl) B.len bb_len (pa_cons (pv 0) pa_nil)) (pe_callB call_len (by rfl) B.len bb_len (pa_cons (pv 1) pa_nil)) (nomark _)) (pe_one (pe_callB (cr_all rfl) (by rfl) B.all bb_all (pa_cons (pe_lc (own := [("_law_a", 2), ("_law_b", 3)]) (g := gTup K 2 (gCons (gName 2) (gCons (gName 3) gNil))) (tt := tYes) (by rfl) sc_l_same.nd (RZ.pi_zipA (by rfl) B.zip (pa_cons (pv 0) (pa_cons (pv 1) pa_nil))) (blkOk_by (own := [("_law_a", 2), ("_law_b", 3)]) (N := N_l_same) (sc := defScope s_l_same) (by decide +kernel)) (fun _ _ _ _ _ => (pg_tup rfl (pgs_cons (pg_name (i := 2) sc_l_same.nd rfl (Or.inl rfl)) (pgs_cons (pg_name (i := 3) sc_l_same.nd rfl (Or.inl rfl)) pgs_nil)))) (fun _ _ _ _ _ => pts_nil) (fun _ _ _ _ _ => (pe_own G_l_same hr (by rfl) (pa_cons (pv 2) (pa_cons (pv 3) pa_nil))))) pa_nil)))))))
        pss_nil)
      (pss_cons (ps_if (pt_val (pe_callB call_isi (by rfl) B.isinstance bb_isinstance (pa_cons (pv 1) (pa_cons (pe_bltn (v := .ty "tuple") (by rfl) B.tuple bb_tuple rfl) pa_nil))))
        (pss_one (ps_ret (pe_and (pe_callB call_isi (by rfl) B.isinstance bb_isinstance (pa_cons (pv 0) (pa_cons (pe_bltn (v := .ty "tuple") (by rfl) B.tuple bb_tuple rfl) pa_nil))) (pe_and (pe_cmpR op_eq (pe_callB call_len (by rfl) B.len bb_len (pa_cons (pv 0) pa_nil)) (pe_callB call_len (by rfl) B.len bb_len (pa_cons (pv 1) pa_nil)) (nomark _)) (pe_one (pe_callB (cr_all rfl) (by rfl) B.all bb_all (pa_cons (pe_lc (own := [("_law_a", 2), ("_law_b", 3)]) (g := gTup K 2 (gCons (gName 2) (gCons (gName 3) gNil))) (tt := tYes) (by rfl) sc_l_same.nd (RZ.pi_zipA (by rfl) B.zip (pa_cons (pv 0) (pa_cons (pv 1) pa_nil))) (blkOk_by (own := [("_law_a", 2), ("_law_b", 3)]) (N := N_l_same) (sc := defScope s_l_same) (by decide +kernel)) (fun _ _ _ _ _ => (pg_tup rfl (pgs_cons (pg_name (i := 2) sc_l_same.nd rfl (Or.inl rfl)) (pgs_cons (pg_name (i := 3) sc_l_same.nd rfl (Or.inl rfl)) pgs_nil)))) (fun _ _ _ _ _ => pts_nil) (fun _ _ _ _ _ => (pe_own G_l_same hr (by rfl) (pa_cons (pv 2) (pa_cons (pv 3) pa_nil))))) pa_nil)))))))
        pss_nil)
      (pss_cons (ps_if (PW.pt (pw_or (pt_cmp (pc_isN (pv 1))) (pw_or1 (pt_cmp (pc_isN (pv 0))))))
        (pss_one (ps_ret (pe_and (pe_cmp (pc_isN (pv 1))) (pe_one (pe_cmp (pc_isN (pv 0)))))))
        pss_nil)
      (pss_cons (ps_if (PW.pt (pw_or (pt_val (pe_callB call_isi (by rfl) B.isinstance bb_isinstance (pa_cons (pv 1) (pa_cons (pe_bltn (v := .ty "bool") (by rfl) B.bool bb_bool rfl) pa_nil)))) (pw_or1 (pt_val (pe_callB call_isi (by rfl) B.isinstance bb_isinstance (pa_cons (pv 0) (pa_cons (pe_bltn (v := .ty "bool") (by rfl) B.bool bb_bool rfl) pa_nil)))))))
        (pss_one (ps_ret (pe_and (pe_callB call_isi (by rfl) B.isinstance bb_isinstance (pa_cons (pv 1) (pa_cons (pe_bltn (v := .ty "bool") (by rfl) B.bool bb_bool rfl) pa_nil))) (pe_and (pe_callB call_isi (by rfl) B.isinstance bb_isinstance (pa_cons (pv 0) (pa_cons (pe_bltn (v := .ty "bool") (by rfl) B.bool bb_bool rfl) pa_nil))) (pe_one (pe_cmpR op_eq (pv 0) (pv 1) (nomark _)))))))
        pss_nil)
      (pss_cons (ps_if (pt_val (pe_callB call_isi (by rfl) B.isinstance bb_isinstance (pa_cons (pv 1) (pa_cons (pe_bltn (v := .ty "int") (by rfl) B.int bb_int rfl) pa_nil))))
        (pss_one (ps_ret (pe_and (pe_callB call_isi (by rfl) B.isinstance bb_isinstance (pa_cons (pv 0) (pa_cons (pe_bltn (v := .ty "int") (by rfl) B.int bb_int rfl) pa_nil))) (pe_one (pe_cmpR op_eq (pv 0) (pv 1) (nomark _))))))
        pss_nil)
      (pss_one (ps_ret (pe_and (pe_callB call_isi (by rfl) B.isinstance bb_isinstance (pa_cons (pv 0) (pa_cons (pe_bltn (v := .ty "str") (by rfl) B.str bb_str rfl) pa_nil))) (pe_and (pe_callB call_isi (by rfl) B.isinstance bb_isinstance (pa_cons (pv 1) (pa_cons (pe_bltn (v := .ty "str") (by rfl) B.str bb_str rfl) pa_nil))) (pe_one (pe_cmpR op_eq (pv 0) (pv 1) (nomark _)))))))))))), ?_⟩
  rcases h with ⟨rfl, hx⟩ | ⟨a, b, xs, ys, rfl, rfl, ha, hb, hl, hp⟩ | ⟨a, b, xs, ys, rfl, rfl, ha, hb, hl, hp⟩
  · cases x with
    | non =>
      refine ⟨_, rfl, _, .ty "list", .type "NoneType", .type "list", false, rfl, .ty _, .base .non, kit_ty (by decide +kernel), _, rfl, iteF ?_⟩
      refine ⟨_, rfl, _, .ty "tuple", .type "NoneType", .type "tuple", false, rfl, .ty _, .base .non, kit_ty (by decide +kernel), _, rfl, iteF ?_⟩
      refine ⟨_, rfl, _, rfl, ite_of (decide_eq_true rfl) ?_⟩
      refine ⟨_, rfl, _, rfl, ite_of (decide_eq_true rfl) ⟨_, rfl, ?_⟩⟩
      exact q _ (Same.refl _)
    | bl x =>
      refine ⟨_, rfl, _, .ty "list", .type "bool", .type "list", false, rfl, .ty _, .base (.bl _), kit_ty (by decide +kernel), _, rfl, iteF ?_⟩
      refine ⟨_, rfl, _, .ty "tuple", .type "bool", .type "tuple", false, rfl, .ty _, .base (.bl _), kit_ty (by decide +kernel), _, rfl, iteF ?_⟩
      refine ⟨_, rfl, _, rfl, ite_no (by simp) ⟨_, rfl, _, rfl, ite_no (by simp) ?_⟩⟩
      refine ⟨_, rfl, _, .ty "bool", .type "bool", .type "bool", true, rfl, .ty _, .base (.bl _), kit_ty (by decide +kernel), _, rfl, iteT ?_⟩
      refine ⟨_, rfl, _, .ty "bool", .type "bool", .type "bool", true, rfl, .ty _, .base (.bl _), kit_ty (by decide +kernel), _, rfl, iteT ⟨_, rfl, _, .ty "bool", .type "bool", .type "bool", true, rfl, .ty _, .base (.bl _), kit_ty (by decide +kernel), _, rfl, iteT ⟨_, rfl, _, rfl, rfl, ?_⟩⟩⟩
      rw [decide_eq_true rfl]
      exact q _ (Same.refl _)
    | int x =>
      refine ⟨_, rfl, _, .ty "list", .type "int", .type "list", false, rfl, .ty _, .base (.int _), kit_ty (by decide +kernel), _, rfl, iteF ?_⟩
      refine ⟨_, rfl, _, .ty "tuple", .type "int", .type "tuple", false, rfl, .ty _, .base (.int _), kit_ty (by decide +kernel), _, rfl, iteF ?_⟩
      refine ⟨_, rfl, _, rfl, ite_no (by simp) ⟨_, rfl, _, rfl, ite_no (by simp) ?_⟩⟩
      refine ⟨_, rfl, _, .ty "bool", .type "int", .type "bool", false, rfl, .ty _, .base (.int _), kit_ty (by decide +kernel), _, rfl, iteF ⟨_, rfl, _, .ty "bool", .type "int", .type "bool", false, rfl, .ty _, .base (.int _), kit_ty (by decide +kernel), _, rfl, iteF ?_⟩⟩
      refine ⟨_, rfl, _, .ty "int", .type "int", .type "int", true, rfl, .ty _, .base (.int _), kit_ty (by decide +kernel), _, rfl, iteT ?_⟩
      refine ⟨_, rfl, _, .ty "int", .type "int", .type "int", true, rfl, .ty _, .base (.int _), kit_ty (by decide +kernel), _, rfl, iteT ⟨_, rfl, _, rfl, rfl, ?_⟩⟩
      rw [decide_eq_true rfl]
      exact q _ (Same.refl _)
    | str x =>
      refine ⟨_, rfl, _, .ty "list", .type "str", .type "list", false, rfl, .ty _, .base (.str _), kit_ty (by decide +kernel), _, rfl, iteF ?_⟩
      refine ⟨_, rfl, _, .ty "tuple", .type "str", .type "tuple", false, rfl, .ty _, .base (.str _), kit_ty (by decide +kernel), _, rfl, iteF ?_⟩
      refine ⟨_, rfl, _, rfl, ite_no (by simp) ⟨_, rfl, _, rfl, ite_no (by simp) ?_⟩⟩
      refine ⟨_, rfl, _, .ty "bool", .type "str", .type "bool", false, rfl, .ty _, .base (.str _), kit_ty (by decide +kernel), _, rfl, iteF ⟨_, rfl, _, .ty "bool", .type "str", .type "bool", false, rfl, .ty _, .base (.str _), kit_ty (by decide +kernel), _, rfl, iteF ?_⟩⟩
      refine ⟨_, rfl, _, .ty "int", .type "str", .type "int", false, rfl, .ty _, .base (.str _), kit_ty (by decide +kernel), _, rfl, iteF ?_⟩
      refine ⟨_, rfl, _, .ty "str", .type "str", .type "str", true, rfl, .ty _, .base (.str _), kit_ty (by decide +kernel), _, rfl, iteT ⟨_, rfl, _, .ty "str", .type "str", .type "str", true, rfl, .ty _, .base (.str _), kit_ty (by decide +kernel), _, rfl, iteT ⟨_, rfl, _, rfl, rfl, ?_⟩⟩⟩
      rw [decide_eq_true rfl]
      exact q _ (Same.refl _)
    | byt x => exact hx.elim
    | flt x => exact hx.elim
    | ref x => exact hx.elim
    | ty x => exact hx.elim
  · have hlen := paired_len hp
    refine ⟨_, rfl, _, .ty "list", .type "list", .type "list", true, rfl, .ty _, .base (.lst hb), kit_ty (by decide +kernel), _, rfl, iteT ?_⟩
    refine ⟨_, rfl, _, .ty "list", .type "list", .type "list", true, rfl, .ty _, .base (.lst ha), kit_ty (by decide +kernel), _, rfl, iteT ?_⟩
    refine ⟨_, rfl, .ref a, _, rfl, .inl ⟨xs, SqL.of ha, rfl⟩, _, rfl, .ref b, _, rfl, .inl ⟨ys, SqL.of hb, rfl⟩, rfl, _, rfl, ite_of (decide_eq_true (by rw [hlen])) ?_⟩
    refine ⟨_, rfl, _, rfl, a, b, xs, ys, rfl, .inl ⟨SqL.of ha, SqL.of hb, fun D hD => lc_it (walk_zip (K := K) (n := xs.length) (by omega)) (fun i H' => Same H H' ∧ H' D = some (.lst (List.replicate i (.bl true))))
      ⟨same_upd hD, upd_same⟩ (fun i H1 hi p => ⟨SqL.of (p.1 _ _ ha), SqL.of (p.1 _ _ hb)⟩) ?_ ?_⟩⟩
    · rintro i v H1 H2 hi ⟨s1, e1⟩ ⟨T, u, z, rfl, hT, rfl, hu, hz⟩
      refine ⟨T, [u, z], rfl, SqT.of upd_same, rfl, u, [z], rfl, z, [], rfl, rfl, rfl, tYes_ok ?_⟩
      refine ⟨_, rfl, _, rfl, u, z, rfl, (paired_get hp hu hz).mono (s1.trans (same_upd hT)), fun H3 s3 => ?_⟩
      refine ⟨_, s3 _ _ ((same_upd hT) _ _ e1), by rw [List.length_replicate]; exact small1000 (by omega), fun c o hc => ?_, ?_⟩
      · rw [upd_ne (ne_of_none hc hD)]
        exact s3 _ _ (same_upd hT _ _ (s1 _ _ hc))
      · rw [upd_same, List.replicate_succ']
    · rintro H1 ⟨s1, e1⟩
      refine ⟨D, List.replicate xs.length true, rfl, SqL.of (by rw [e1, List.map_replicate]), ?_⟩
      rw [show (List.replicate xs.length true).all id = true by simp]
      exact q _ s1
  · have hlen := paired_len hp
    refine ⟨_, rfl, _, .ty "list", .type "tuple", .type "list", false, rfl, .ty _, .base (.tup hb), kit_ty (by decide +kernel), _, rfl, iteF ?_⟩
    refine ⟨_, rfl, _, .ty "tuple", .type "tuple", .type "tuple", true, rfl, .ty _, .base (.tup hb), kit_ty (by decide +kernel), _, rfl, iteT ?_⟩
    refine ⟨_, rfl, _, .ty "tuple", .type "tuple", .type "tuple", true, rfl, .ty _, .base (.tup ha), kit_ty (by decide +kernel), _, rfl, iteT ?_⟩
    refine ⟨_, rfl, .ref a, _, rfl, .inr ⟨xs, SqT.of ha, rfl⟩, _, rfl, .ref b, _, rfl, .inr ⟨ys, SqT.of hb, rfl⟩, rfl, _, rfl, ite_of (decide_eq_true (by rw [hlen])) ?_⟩
    refine ⟨_, rfl, _, rfl, a, b, xs, ys, rfl, .inr ⟨SqT.of ha, SqT.of hb, fun D hD => lc_it (walk_zipT (K := K) (n := xs.length) (by omega)) (fun i H' => Same H H' ∧ H' D = some (.lst (List.replicate i (.bl true))))
      ⟨same_upd hD, upd_same⟩ (fun i H1 hi p => ⟨SqT.of (p.1 _ _ ha), SqT.of (p.1 _ _ hb)⟩) ?_ ?_⟩⟩
    · rintro i v H1 H2 hi ⟨s1, e1⟩ ⟨T, u, z, rfl, hT, rfl, hu, hz⟩
      refine ⟨T, [u, z], rfl, SqT.of upd_same, rfl, u, [z], rfl, z, [], rfl, rfl, rfl, tYes_ok ?_⟩
      refine ⟨_, rfl, _, rfl, u, z, rfl, (paired_get hp hu hz).mono (s1.trans (same_upd hT)), fun H3 s3 => ?_⟩
      refine ⟨_, s3 _ _ ((same_upd hT) _ _ e1), by rw [List.length_replicate]; exact small1000 (by omega), fun c o hc => ?_, ?_⟩
      · rw [upd_ne (ne_of_none hc hD)]
        exact s3 _ _ (same_upd hT _ _ (s1 _ _ hc))
      · rw [upd_same, List.replicate_succ']
    · rintro H1 ⟨s1, e1⟩
      refine ⟨D, List.replicate xs.length true, rfl, SqL.of (by rw [e1, List.map_replicate]), ?_⟩
      rw [show (List.replicate xs.length true).all id = true by simp]
      exact q _ s1
end
theorem no_same {P : Program} {w : World} {K : PySem.W.Frag} {mg : Str → Option Value} {base : Heap} {f : Addr} {fd : FuncData} {ps : List Str} {sp : Sp} (no : ∀ vs H Q E, ¬ sp vs H Q E) : FnOk P w K mg base CX0 0 f fd ps sp :=
  ⟨fun vs H Q E h => absurd h (no vs H Q E), fun A outer s H args us vs Q E _ _ _ _ h => absurd h (no vs H Q E)⟩
section
variable {P : Program} {w : World} {K : PySem.W.Frag} {mg : Str → Option Value} {base : Heap}
theorem all_same (F : Fn K mg "_law_same" s_l_same ["_law_found", "_law_due"]) (B : Blt mg) : ∀ n : Nat, Has P w K mg base n "_law_same" ["_law_found", "_law_due"] (spSame n)
  | 0 => by
    obtain ⟨f, fd, F, m, b⟩ := F.ex
    exact ⟨f, fd, no_same fun vs H Q E h => by obtain ⟨x, y, _, h, _⟩ := h; exact h, m, F.kp, b⟩
  | n + 1 => ok_same F B (all_same F B n)
end
/-! ### odd values -/
inductive OddV (H : Hp) (b : Addr) : V → Prop
  | non : OddV H b .non
  | bl (x : Bool) : OddV H b (.bl x)
  | s0 : OddV H b (.str "")
  | s1 : OddV H b (.str "A")
  | s2 : OddV H b (.str "in")
  | s3 : OddV H b (.str "a b")
  | s4 : OddV H b (.str "7")
  | t0 {p : Addr} : p ≠ b → H p = some (.tup []) → OddV H b (.ref p)
  | t1 {p : Addr} : p ≠ b → H p = some (.tup [.int 1]) → OddV H b (.ref p)
  | l0 {p : Addr} : p ≠ b → H p = some (.lst []) → OddV H b (.ref p)
  | l1 {p : Addr} : p ≠ b → H p = some (.lst [.str "a"]) → OddV H b (.ref p)
theorem OddV.kp {H H' : Hp} {b : Addr} {v : V} (h : OddV H b v) (k : Kp b H H') : OddV H' b v := by
  cases h with
  | non => exact .non
  | bl x => exact .bl x
  | s0 => exact .s0
  | s1 => exact .s1
  | s2 => exact .s2
  | s3 => exact .s3
  | s4 => exact .s4
  | t0 n h => exact .t0 n (k _ _ n h)
  | t1 n h => exact .t1 n (k _ _ n h)
  | l0 n h => exact .l0 n (k _ _ n h)
  | l1 n h => exact .l1 n (k _ _ n h)
def spOdd : Sp := fun vs H Q _ => ∃ b c : Addr, vs = [.ref b] ∧ Bg H b c ∧ ∀ (v : V) (H' : Hp), Kp b H H' → Bg H' b c → OddV H' b v → Q v H'
def spGcd : Sp := fun vs H Q _ => ∃ a b : Int, vs = [.int a, .int b] ∧ Q (.int ((Nat.gcd a.natAbs b.natAbs : Nat) : Int)) H
theorem abs_cast (i : Int) : (if i < 0 then -i else i) = ((i.natAbs : Nat) : Int) := by split <;> omega
theorem Bg.sel {H : Hp} {b c : Addr} (h : Bg H b c) : ∃ r : List V, H b = some (.lst (.ref c :: r)) := by
  obtain ⟨ns, i, r, m, g⟩ := h
  exact ⟨_, g.hb⟩
theorem Bg.ne_new {H : Hp} {b c p : Addr} (h : Bg H b c) (hp : H p = none) : p ≠ b := by
  obtain ⟨_, e⟩ := h.sel
  exact (ne_of_none e hp).symm
theorem Bg.ne_new2 {H : Hp} {b c p : Addr} (h : Bg H b c) (hp : H p = none) : p ≠ c := by
  obtain ⟨ns, i, r, m, g⟩ := h
  exact (ne_of_none g.hc hp).symm
section
variable {P : Program} {w : World} {K : PySem.W.Frag} {mg : Str → Option Value} {base : Heap}
theorem ok_odd (F : Fn K mg "_law_odd" s_l_odd ["_law_bag_here"]) (B : Blt mg) (G_l_pick : Has P w K mg base 2 "_law_pick" ["_law_bag_here", "_law_some"] (spPick K)) : Has P w K mg base 3 "_law_odd" ["_law_bag_here"] spOdd := by
  refine F.has sc_l_odd (fun vs H Q E h => ?_) (fun f cdv A outer s H vs Q E hr h => ?_)
  · obtain ⟨a, c, rfl, _⟩ := h
    rfl
  obtain ⟨b, c, rfl, hB, q⟩ := h
  refine ⟨_, (pss_one (ps_ret (pe_own G_l_pick (hr.mono (by decide)) (by rfl) (pa_cons (pv 0) (pa_cons (pe_lst (pa_cons pe_non (pa_cons pe_bl (pa_cons pe_bl (pa_cons pe_str (pa_cons pe_str (pa_cons pe_str (pa_cons pe_str (pa_cons (pe_tup pa_nil) (pa_cons (pe_tup (pa_cons pe_int pa_nil)) (pa_cons (pe_lst pa_nil) (pa_cons (pe_lst (pa_cons pe_str pa_nil)) (pa_cons pe_str pa_nil))))))))))))) pa_nil))))), ?_⟩
  refine ⟨_, rfl, (by show 0 ≤ sizeLine; decide), fun p1 h1 => ⟨(by show 1 ≤ sizeLine; decide), fun p2 h2 => ⟨(by show 0 ≤ sizeLine; decide), fun p3 h3 => ⟨(by show 1 ≤ sizeLine; decide), fun p4 h4 => ⟨(by show 12 ≤ sizeLine; decide), fun l hl => ?_⟩⟩⟩⟩⟩
  have s1 : Same H (upd H p1 (.tup [])) := same_upd h1
  have s2 := same_upd (o := .tup [.int 1]) h2
  have s3 := same_upd (o := .lst []) h3
  have s4 := same_upd (o := .lst [.str "a"]) h4
  have s5 := same_upd (o := .lst [.non, .bl true, .bl false, .str "", .str "A", .str "in", .str "a b", .ref p1, .ref p2, .ref p3, .ref p4, .str "7"]) hl
  have n1 := hB.ne_new h1
  have n2 := (hB.same s1).ne_new h2
  have n3 := (hB.same (s1.trans s2)).ne_new h3
  have n4 := (hB.same (s1.trans (s2.trans s3))).ne_new h4
  have n5 := (hB.same (s1.trans (s2.trans (s3.trans s4)))).ne_new hl
  have sa := s1.trans (s2.trans (s3.trans (s4.trans s5)))
  refine ⟨b, c, .ref l, rfl, hB.same sa, .inl ⟨l, _, rfl, n5, upd_same, by simp, (by show 12 ≤ 1000; decide), fun v H' hv kp hB' => ?_⟩⟩
  refine q v H' ((Kp.of sa).trans kp) hB' (OddV.kp ?_ kp)
  simp only [List.mem_cons, List.not_mem_nil, or_false] at hv
  rcases hv with rfl | rfl | rfl | rfl | rfl | rfl | rfl | rfl | rfl | rfl | rfl | rfl
  · exact .non
  · exact .bl true
  · exact .bl false
  · exact .s0
  · exact .s1
  · exact .s2
  · exact .s3
  · exact .t0 n1 (s5 _ _ (s4 _ _ (s3 _ _ (s2 _ _ upd_same))))
  · exact .t1 n2 (s5 _ _ (s4 _ _ (s3 _ _ upd_same)))
  · exact .l0 n3 (s5 _ _ (s4 _ _ upd_same))
  · exact .l1 n4 (s5 _ _ upd_same)
  · exact .s4
theorem ok_gcd (F : Fn K mg "_law_gcd" s_l_gcd ["_law_a", "_law_b"]) (B : Blt mg) : Has P w K mg base 1 "_law_gcd" ["_law_a", "_law_b"] spGcd := by
  refine F.has sc_l_gcd (fun vs H Q E h => ?_) (fun f cdv A outer s H vs Q E hr h => ?_)
  · obtain ⟨a, b, rfl, _⟩ := h
    rfl
  obtain ⟨a, b, rfl, q⟩ := h
  refine ⟨_, (pss_cons (ps_par (i := 2) (j := 3) rfl sc_l_gcd.nd rfl rfl (by decide) rfl rfl (pa_cons (pe_callB call_abs (by rfl) B.abs bb_abs (pa_cons (pv 0) pa_nil)) (pa_cons (pe_callB call_abs (by rfl) B.abs bb_abs (pa_cons (pv 1) pa_nil)) pa_nil)) rfl)
      (pss_cons (ps_while PassesOwn.never (pt_cmpR op_gt (pv 3) pe_int (nomark _))
        (pss_one (ps_par (i := 2) (j := 3) rfl sc_l_gcd.nd rfl rfl (by decide) rfl rfl (pa_cons (pv 3) (pa_cons (pe_op op_mod (pe_callTy call_int1 (by rfl) B.int bb_int (pa_cons (pv 2) pa_nil)) (pv 3)) pa_nil)) rfl)))
      (pss_one (ps_ret (pv 2))))), ?_⟩
  refine ⟨_, rfl, a, rfl, _, rfl, b, rfl, _, _, rfl, ?_⟩
  rw [abs_cast, abs_cast]
  refine while_by (fun σ H' => ∃ l r : Nat, σ = [some (.int a), some (.int b), some (.int (l : Int)), some (.int (r : Int))] ∧ Nat.gcd l r = Nat.gcd a.natAbs b.natAbs ∧ H' = H)
    (fun σ _ => match σ with | [_, _, _, some (.int r)] => r.toNat | _ => 0) ⟨_, _, rfl, rfl, rfl⟩ ?_ ?_
  · rintro σ H' ⟨l, r, rfl, e, rfl⟩
    refine ⟨_, rfl, _, _, rfl, rfl, _, rfl, ite2 (fun c => ?_) (fun c => ?_)⟩
    · have hc : (0 : Int) < (r : Int) := of_decide_eq_true c
      have hc' : 0 < r := by omega
      refine ⟨_, rfl, _, rfl, .inl ⟨_, rfl, _, rfl, _, _, rfl, rfl, hc, _, _, rfl, ?_⟩⟩
      refine ⟨⟨r, l % r, rfl, ?_, rfl⟩, ?_⟩
      · rw [← e, Nat.gcd_comm r (l % r), ← Nat.gcd_rec, Nat.gcd_comm]
      · show ((l : Int) % (r : Int)).toNat < (r : Int).toNat
        have := Int.emod_lt_of_pos (l : Int) hc
        have := Int.emod_nonneg (l : Int) (show (r : Int) ≠ 0 by omega)
        omega
    · have hc : ¬ (0 : Int) < (r : Int) := of_decide_eq_false (Bool.eq_false_iff.mpr c)
      have r0 : r = 0 := by omega
      subst r0
      refine ⟨_, rfl, ?_⟩
      rw [Nat.gcd_zero_right] at e
      rw [e]
      exact q
  · rintro σ H' Q1 Q2 hq ⟨v, e, i, j, e1, e2, k, e3, z⟩
    exact ⟨v, e, i, j, e1, e2, k, e3, hq _ _ z⟩
end
/-! ### kinds of values -/
inductive Typ (H : Hp) : V → String → Prop
  | non : Typ H .non "NoneType"
  | bl (x : Bool) : Typ H (.bl x) "bool"
  | int (i : Int) : Typ H (.int i) "int"
  | str (z : Str) : Typ H (.str z) "str"
  | lst {a : Addr} {xs : List V} : H a = some (.lst xs) → Typ H (.ref a) "list"
  | tup {a : Addr} {xs : List V} : H a = some (.tup xs) → Typ H (.ref a) "tuple"
theorem Typ.tyx {K : PySem.W.Frag} {H : Hp} {x : V} {t : String} (h : Typ H x t) : TyX K H x (.type t) := by
  cases h with
  | non => exact .base .non
  | bl x => exact .base (.bl x)
  | int i => exact .base (.int i)
  | str z => exact .base (.str z)
  | lst h => exact .base (.lst h)
  | tup h => exact .base (.tup h)
theorem Typ.same {H H' : Hp} {x : V} {t : String} (h : Typ H x t) (s : Same H H') : Typ H' x t := by
  cases h with
  | non => exact .non
  | bl x => exact .bl x
  | int i => exact .int i
  | str z => exact .str z
  | lst h => exact .lst (s _ _ h)
  | tup h => exact .tup (s _ _ h)
theorem OddV.typ {H : Hp} {b : Addr} {v : V} (h : OddV H b v) : ∃ t, Typ H v t ∧ t ≠ "int" := by
  cases h with
  | non => exact ⟨_, .non, by decide⟩
  | bl x => exact ⟨_, .bl x, by decide⟩
  | s0 => exact ⟨_, .str _, by decide⟩
  | s1 => exact ⟨_, .str _, by decide⟩
  | s2 => exact ⟨_, .str _, by decide⟩
  | s3 => exact ⟨_, .str _, by decide⟩
  | s4 => exact ⟨_, .str _, by decide⟩
  | t0 n h => exact ⟨_, .tup h, by decide⟩
  | t1 n h => exact ⟨_, .tup h, by decide⟩
  | l0 n h => exact ⟨_, .lst h, by decide⟩
  | l1 n h => exact ⟨_, .lst h, by decide⟩
def isIntV : V → Bool
  | .int _ => true
  | _ => false
end My
namespace My
open PySem PySem.Spec PyProof.Rows L2
abbrev letters : Str := "abcdefghijklmnopqrstuvwxyz"
abbrev kept : List V := [.str "in", .str "out", .str "proc", .str "give"]
structure Txt (K : PySem.W.Frag) (mg : Str → Option Value) (kw : Addr) : Prop where
  m_LETTERS : ∃ u, mg "LETTERS" = some (.str letters u)
  m_MOST_LETTERS : ∃ u, mg "MOST_LETTERS" = some (.int 6 u)
  m_KEPT_WORDS : mg "KEPT_WORDS" = some (.ref kw)
  t_KEPT_WORDS : ∀ H, SqT K H kw kept
  m_gcd : mg "gcd" = some (.builtin "math.gcd")
/-- whether a text is a name -/
def nameB (z : Str) : Bool := if 1 ≤ z.length ∧ z.length ≤ 6 then (!inV (.str z) kept) && (z.cps.toList.map fun c => decide (c ∈ letters.cps.toList)).all id else false
def nameV : V → Bool
  | .str z => nameB z
  | _ => false
def shareV : List V → Bool
  | [.int p, .int q] => decide (1 ≤ q) && decide (Nat.gcd p.natAbs q.natAbs = 1)
  | _ => false
def spIsInt : Sp := fun vs H Q _ => ∃ (x : V) (t : String), vs = [x] ∧ Typ H x t ∧ Q (.bl (isIntV x)) H
def spIsName : Sp := fun vs H Q _ => ∃ (x : V) (t : String), vs = [x] ∧ Typ H x t ∧ (∀ z, x = .str z → z.length ≤ 1000) ∧ ∀ H', Same H H' → Q (.bl (nameV x)) H'
def ShareR (H : Hp) (x : V) (t : String) (r : Bool) : Prop := (t ≠ "tuple" ∧ r = false) ∨ ∃ (a : Addr) (xs : List V), x = .ref a ∧ H a = some (.tup xs) ∧ (∀ y ∈ xs, leafV y) ∧ r = shareV xs
def spIsShare : Sp := fun vs H Q _ => ∃ (x : V) (t : String) (r : Bool), vs = [x] ∧ Typ H x t ∧ ShareR H x t r ∧ Q (.bl r) H
theorem leaf_typ {H : Hp} {x : V} (h : leafV x) : ∃ t, Typ H x t := by
  cases x with
  | non => exact ⟨_, .non⟩
  | bl x => exact ⟨_, .bl x⟩
  | int x => exact ⟨_, .int x⟩
  | str x => exact ⟨_, .str x⟩
  | byt x => exact h.elim
  | flt x => exact h.elim
  | ref x => exact h.elim
  | ty x => exact h.elim
section
variable {P : Program} {w : World} {K : PySem.W.Frag} {mg : Str → Option Value} {base : Heap} {kw : Addr}
theorem ok_is_int (F : Fn K mg "is_int" s_is_int ["value"]) (B : Blt mg) : Has P w K mg base 1 "is_int" ["value"] spIsInt := by
  refine F.has sc_is_int (fun vs H Q E h => ?_) (fun f cdv A outer s H vs Q E hr h => ?_)
  · obtain ⟨a, t, rfl, _⟩ := h
    rfl
  obtain ⟨x, t, rfl, ht, q⟩ := h
  refine ⟨_, (pss_one (ps_ret (pe_and (pe_callB call_isi (by rfl) B.isinstance bb_isinstance (pa_cons (pv 0) (pa_cons (pe_bltn (v := .ty "int") (by rfl) B.int bb_int rfl) pa_nil))) (pe_one (pe_not (pe_callB call_isi (by rfl) B.isinstance bb_isinstance (pa_cons (pv 0) (pa_cons (pe_bltn (v := .ty "bool") (by rfl) B.bool bb_bool rfl) pa_nil)))))))), ?_⟩
  have ty := ht.tyx (K := K)
  cases ht with
  | non =>
    refine ⟨_, rfl, _, .ty "int", _, .type "int", false, rfl, .ty _, ty, kit_ty (by decide +kernel), _, rfl, iteF ?_⟩
    exact q
  | bl x =>
    refine ⟨_, rfl, _, .ty "int", _, .type "int", true, rfl, .ty _, ty, kit_ty (by decide +kernel), _, rfl, iteT ?_⟩
    refine ⟨_, rfl, _, .ty "bool", _, .type "bool", true, rfl, .ty _, ty, kit_ty (by decide +kernel), _, rfl, ?_⟩
    exact q
  | int i =>
    refine ⟨_, rfl, _, .ty "int", _, .type "int", true, rfl, .ty _, ty, kit_ty (by decide +kernel), _, rfl, iteT ?_⟩
    refine ⟨_, rfl, _, .ty "bool", _, .type "bool", false, rfl, .ty _, ty, kit_ty (by decide +kernel), _, rfl, ?_⟩
    exact q
  | str z =>
    refine ⟨_, rfl, _, .ty "int", _, .type "int", false, rfl, .ty _, ty, kit_ty (by decide +kernel), _, rfl, iteF ?_⟩
    exact q
  | lst h =>
    refine ⟨_, rfl, _, .ty "int", _, .type "int", false, rfl, .ty _, ty, kit_ty (by decide +kernel), _, rfl, iteF ?_⟩
    exact q
  | tup h =>
    refine ⟨_, rfl, _, .ty "int", _, .type "int", false, rfl, .ty _, ty, kit_ty (by decide +kernel), _, rfl, iteF ?_⟩
    exact q
theorem ok_is_name (F : Fn K mg "is_name" s_is_name ["value"]) (B : Blt mg) (T : Txt K mg kw) : Has P w K mg base 1 "is_name" ["value"] spIsName := by
  refine F.has sc_is_name (fun vs H Q E h => ?_) (fun f cdv A outer s H vs Q E hr h => ?_)
  · obtain ⟨a, t, rfl, _⟩ := h
    rfl
  obtain ⟨x, t, rfl, ht, hz, q⟩ := h
  refine ⟨_, (pss_cons (ps_if (PW.pt (pw_or (pt_not (pt_val (pe_callB call_isi (by rfl) B.isinstance bb_isinstance (pa_cons (pv 0) (pa_cons (pe_bltn (v := .ty "str") (by rfl) B.str bb_str rfl) pa_nil))))) (pw_or1 (pt_not (pt_chain op_le op_le pe_int (pe_callB call_len (by rfl) B.len bb_len (pa_cons (pv 0) pa_nil)) (pe_gint T.m_MOST_LETTERS (by rfl)))))))
        (pss_one (ps_ret pe_bl))
        pss_nil)
      (pss_one (ps_ret (pe_and (pe_cmpR op_notIn_seq (pv 0) (pe_gref T.m_KEPT_WORDS (by rfl)) rfl) (pe_one (pe_callB (cr_all rfl) (by rfl) B.all bb_all (pa_cons (pe_lc (own := [("sign", 1)]) (g := gName 1) (tt := tYes) (by rfl) sc_is_name.nd (pi_str (pv 0)) (blkOk_by (own := [("sign", 1)]) (N := N_is_name) (sc := defScope s_is_name) (by decide +kernel)) (fun _ _ _ _ _ => (pg_name (i := 1) sc_is_name.nd rfl (Or.inl rfl))) (fun _ _ _ _ _ => pts_nil) (fun _ _ _ _ _ => (pe_cmpR op_in_sign (pv 1) (pe_gstr T.m_LETTERS (by rfl)) rfl))) pa_nil))))))), ?_⟩
  have ty := ht.tyx (K := K)
  cases ht with
  | str z =>
    have hl := hz z rfl
    refine ⟨_, rfl, _, .ty "str", _, .type "str", true, rfl, .ty _, ty, kit_ty (by decide +kernel), _, rfl, iteF ?_⟩
    refine ⟨_, rfl, .str z, z.length, rfl, ⟨Nat.le_of_lt (small1000 hl), rfl⟩, _, _, rfl, rfl, _, rfl, ?_⟩
    by_cases h1 : 1 ≤ z.length
    · refine ite_of (decide_eq_true (by omega)) ⟨_, _, rfl, rfl, _, rfl, ?_⟩
      by_cases h2 : z.length ≤ 6
      · refine iteNS (by omega) ?_
        refine ⟨_, rfl, kw, kept, rfl, .inr (T.t_KEPT_WORDS _), rfl, rfl, !inV (.str z) kept, rfl, ?_⟩
        cases hin : inV (.str z) kept with
        | true =>
          refine iteF ?_
          have e : nameV (.str z) = false := by
            show nameB z = false
            unfold nameB
            rw [if_pos ⟨h1, h2⟩, hin]
            rfl
          have q' := q H (Same.refl H)
          rw [e] at q'
          exact q'
        | false =>
          refine iteT ?_
          refine ⟨_, rfl, z, rfl, fun D hD => lc_it walk_str (fun i H' => Same H H' ∧ H' D = some (.lst (((z.cps.toList.map fun c => decide (c ∈ letters.cps.toList)).take i).map V.bl)))
            ⟨same_upd hD, upd_same⟩ (fun _ _ _ _ => True.intro) ?_ ?_⟩
          · rintro i v H1 H2 hi ⟨s1, e1⟩ ⟨rfl, c, hc, rfl⟩
            refine ⟨rfl, tYes_ok ?_⟩
            refine ⟨_, rfl, c, letters, rfl, rfl, _, e1, ?_, ?_, ?_⟩
            · rw [List.length_map, List.length_take, List.length_map, Array.length_toList]
              exact Nat.lt_of_le_of_lt (Nat.min_le_right _ _) (small1000 hl)
            · intro a o ha
              rw [upd_ne (ne_of_none ha hD)]
              exact s1 _ _ ha
            · rw [upd_same]
              have e2 : (z.cps.toList.map fun c => decide (c ∈ letters.cps.toList))[i]? = some (decide (c ∈ letters.cps.toList)) := by
                rw [List.getElem?_map, Array.getElem?_toList, hc]
                rfl
              rw [List.take_add_one, e2, List.map_append]
              rfl
          · rintro H1 ⟨s1, e1⟩
            have e2 : ((z.cps.toList.map fun c => decide (c ∈ letters.cps.toList)).take z.cps.size) = (z.cps.toList.map fun c => decide (c ∈ letters.cps.toList)) := List.take_of_length_le (by rw [List.length_map, Array.length_toList]; exact Nat.le_refl _)
            rw [e2] at e1
            refine ⟨D, _, rfl, SqL.of e1, ?_⟩
            have e : nameV (.str z) = (z.cps.toList.map fun c => decide (c ∈ letters.cps.toList)).all id := by
              show nameB z = _
              unfold nameB
              rw [if_pos ⟨h1, h2⟩, hin]
              rfl
            have q' := q H1 s1
            rw [e] at q'
            exact q'
      · refine ite_of (by rw [decide_eq_false (by omega)]; rfl) ?_
        have e : nameV (.str z) = false := by
          show nameB z = false
          unfold nameB
          rw [if_neg fun k => h2 k.2]
        have q' := q H (Same.refl H)
        rw [e] at q'
        exact q'
    · refine ite_no (by rw [decide_eq_false (by omega)]; decide) ⟨_, rfl, iteT ?_⟩
      have e : nameV (.str z) = false := by
        show nameB z = false
        unfold nameB
        rw [if_neg fun k => h1 k.1]
      have q' := q H (Same.refl H)
      rw [e] at q'
      exact q'
  | non =>
    refine ⟨_, rfl, _, .ty "str", _, .type "str", false, rfl, .ty _, ty, kit_ty (by decide +kernel), _, rfl, iteT (iteT ?_)⟩
    exact q _ (Same.refl _)
  | bl x =>
    refine ⟨_, rfl, _, .ty "str", _, .type "str", false, rfl, .ty _, ty, kit_ty (by decide +kernel), _, rfl, iteT (iteT ?_)⟩
    exact q _ (Same.refl _)
  | int i =>
    refine ⟨_, rfl, _, .ty "str", _, .type "str", false, rfl, .ty _, ty, kit_ty (by decide +kernel), _, rfl, iteT (iteT ?_)⟩
    exact q _ (Same.refl _)
  | lst h =>
    refine ⟨_, rfl, _, .ty "str", _, .type "str", false, rfl, .ty _, ty, kit_ty (by decide +kernel), _, rfl, iteT (iteT ?_)⟩
    exact q _ (Same.refl _)
  | tup h =>
    refine ⟨_, rfl, _, .ty "str", _, .type "str", false, rfl, .ty _, ty, kit_ty (by decide +kernel), _, rfl, iteT (iteT ?_)⟩
    exact q _ (Same.refl _)
theorem ok_is_share (F : Fn K mg "is_share" s_is_share ["value"]) (B : Blt mg) (T : Txt K mg kw) (G_is_int : Has P w K mg base 1 "is_int" ["value"] spIsInt) : Has P w K mg base 2 "is_share" ["value"] spIsShare := by
  refine F.has sc_is_share (fun vs H Q E h => ?_) (fun f cdv A outer s H vs Q E hr h => ?_)
  · obtain ⟨a, t, r, rfl, _⟩ := h
    rfl
  obtain ⟨x, t, r, rfl, ht, h, q⟩ := h
  refine ⟨_, (pss_cons (ps_if (PW.pt (pw_or (pt_not (pt_val (pe_callB call_isi (by rfl) B.isinstance bb_isinstance (pa_cons (pv 0) (pa_cons (pe_bltn (v := .ty "tuple") (by rfl) B.tuple bb_tuple rfl) pa_nil))))) (pw_or1 (pt_cmpR op_ne (pe_callB call_len (by rfl) B.len bb_len (pa_cons (pv 0) pa_nil)) pe_int (nomark _)))))
        (pss_one (ps_ret pe_bl))
        pss_nil)
      (pss_cons (ps_asg (pv 0) (pg_tup rfl (pgs_cons (pg_name (i := 1) sc_is_share.nd rfl (Or.inl rfl)) (pgs_cons (pg_name (i := 2) sc_is_share.nd rfl (Or.inl rfl)) pgs_nil))))
      (pss_one (ps_ret (pe_and (pe_own G_is_int (hr.mono (by decide)) (by rfl) (pa_cons (pv 1) pa_nil)) (pe_and (pe_own G_is_int (hr.mono (by decide)) (by rfl) (pa_cons (pv 2) pa_nil)) (pe_and (pe_cmpR op_ge (pv 2) pe_int (nomark _)) (pe_one (pe_cmpR op_eq (pe_callBfun cr_gcd (by rfl) T.m_gcd (pa_cons (pv 1) (pa_cons (pv 2) pa_nil))) pe_int (nomark _)))))))))), ?_⟩
  have ty := ht.tyx (K := K)
  rcases h with ⟨hne, rfl⟩ | ⟨a, xs, rfl, ha, hx, rfl⟩
  · have kt : kitB t "tuple" = some false := by
      cases ht with
      | non => decide +kernel
      | bl x => decide +kernel
      | int x => decide +kernel
      | str x => decide +kernel
      | lst h => decide +kernel
      | tup h => exact absurd rfl hne
    refine ⟨_, rfl, _, .ty "tuple", _, .type "tuple", false, rfl, .ty _, ty, kit_ty kt, _, rfl, iteT (iteT ?_)⟩
    exact q
  · refine ⟨_, rfl, _, .ty "tuple", .type "tuple", .type "tuple", true, rfl, .ty _, .base (.tup ha), kit_ty (by decide +kernel), _, rfl, iteF ?_⟩
    refine ⟨_, rfl, .ref a, _, rfl, .inr ⟨xs, SqT.of ha, rfl⟩, rfl, _, rfl, ?_⟩
    by_cases h2 : xs.length = 2
    · refine iteNS (by rw [h2]; rfl) ?_
      obtain ⟨u, z, rfl⟩ : ∃ u z, xs = [u, z] := by
        match xs, h2 with
        | [u, z], _ => exact ⟨u, z, rfl⟩
      refine ⟨_, rfl, a, [u, z], rfl, SqT.of ha, rfl, u, [z], rfl, z, [], rfl, rfl, ?_⟩
      obtain ⟨t1, y1⟩ := leaf_typ (H := H) (hx u (by simp))
      obtain ⟨t2, y2⟩ := leaf_typ (H := H) (hx z (by simp))
      refine ⟨_, rfl, u, t1, rfl, y1, _, rfl, ?_⟩
      have no : ∀ y : V, y = u ∨ y = z → isIntV y = false → shareV [u, z] = false := by
        intro y hy e
        unfold shareV
        split
        · rename_i p q heq
          injection heq with h5 h6
          injection h6 with h6 _
          rcases hy with rfl | rfl
          · subst h5
            cases e
          · subst h6
            cases e
        · rfl
      cases e1 : isIntV u with
      | false =>
        refine iteF ?_
        rw [no u (.inl rfl) e1] at q
        exact q
      | true =>
        refine iteT ⟨_, rfl, z, t2, rfl, y2, _, rfl, ?_⟩
        cases e2 : isIntV z with
        | false =>
          refine iteF ?_
          rw [no z (.inr rfl) e2] at q
          exact q
        | true =>
          refine iteT ?_
          obtain ⟨i, rfl⟩ : ∃ i, u = .int i := by
            cases u with
            | int i => exact ⟨i, rfl⟩
            | _ => cases e1
          obtain ⟨j, rfl⟩ : ∃ j, z = .int j := by
            cases z with
            | int j => exact ⟨j, rfl⟩
            | _ => cases e2
          refine ⟨_, rfl, _, _, rfl, rfl, _, rfl, ite2 (fun c => ?_) (fun c => ?_)⟩
          · refine ⟨_, rfl, _, rfl, _, _, rfl, rfl, ?_⟩
            have e : shareV [.int i, .int j] = decide (V.int ((Nat.gcd i.natAbs j.natAbs : Nat) : Int) = V.int 1) := by
              show (decide (1 ≤ j) && decide (Nat.gcd i.natAbs j.natAbs = 1)) = _
              rw [c, Bool.true_and]
              by_cases g : Nat.gcd i.natAbs j.natAbs = 1
              · rw [decide_eq_true g]
                exact (decide_eq_true (by rw [g]; rfl)).symm
              · rw [decide_eq_false g, decide_eq_false]
                intro k
                have := V.int.inj k
                omega
            rw [e] at q
            exact q
          · have e : shareV [.int i, .int j] = false := by
              show (decide (1 ≤ j) && decide (Nat.gcd i.natAbs j.natAbs = 1)) = _
              rw [Bool.eq_false_iff.mpr c, Bool.false_and]
            rw [e] at q
            exact q
    · refine ite_of (by rw [decide_eq_false fun k => h2 (by have := V.int.inj k; omega)]; rfl) ?_
      have e : shareV xs = false := by
        unfold shareV
        split
        · exact absurd rfl h2
        · rfl
      rw [e] at q
      exact q
theorem ok_letters (F : Fn K mg "_law_letters" s_l_letters []) : Has P w K mg base 1 "_law_letters" [] (fun vs H Q _ => vs = [] ∧ Q (.str letters) H) := by
  refine F.has sc_l_letters (fun vs H Q E h => ?_) (fun f cdv A outer s H vs Q E hr h => ?_)
  · obtain ⟨rfl, _⟩ := h
    rfl
  obtain ⟨rfl, q⟩ := h
  exact ⟨_, (pss_one (ps_ret pe_str)), q⟩
end
/-! ### texts -/
theorem app_l (a y : Str) : (a ++ y).cps.toList = a.cps.toList ++ y.cps.toList := by
  show (a.cps ++ y.cps).toList = _
  exact Array.toList_append
theorem join1 : ∀ cs : List Nat, (Txt.join "" (cs.map fun c => (⟨#[c]⟩ : Str))).cps.toList = cs
  | [] => rfl
  | [c] => rfl
  | c :: d :: r => by
    have h := join1 (d :: r)
    unfold Txt.join at h ⊢
    rw [StrLaws.glued_eq_join] at h ⊢
    show ((⟨#[c]⟩ : Str) ++ ("" : Str) ++ Str.join "" ((d :: r).map fun c => (⟨#[c]⟩ : Str))).cps.toList = c :: d :: r
    rw [app_l, app_l, h]
    rfl
theorem str_len (z : Str) : z.length = z.cps.toList.length := (Array.length_toList).symm
/-- a text with a sign that is no letter is no name -/
theorem not_name {z : Str} {c : Nat} (hc : c ∈ z.cps.toList) (hn : c ∉ letters.cps.toList) : nameB z = false := by
  unfold nameB
  split
  · have e : (z.cps.toList.map fun c => decide (c ∈ letters.cps.toList)).all id = false := by
      rw [List.all_eq_false]
      exact ⟨false, List.mem_map.mpr ⟨c, hc, decide_eq_false hn⟩, by simp⟩
    rw [e, Bool.and_false]
  · rfl
/-- a text of letters is a name if it has the length and is none of the four -/
theorem word_name {z : Str} (h : ∀ c ∈ z.cps.toList, c ∈ letters.cps.toList) : nameB z = if 1 ≤ z.length ∧ z.length ≤ 6 then !inV (.str z) kept else false := by
  unfold nameB
  have e : (z.cps.toList.map fun c => decide (c ∈ letters.cps.toList)).all id = true := by
    rw [List.all_eq_true]
    intro b hb
    obtain ⟨c, hc, rfl⟩ := List.mem_map.mp hb
    exact decide_eq_true (h c hc)
  rw [e, Bool.and_true]
end My
namespace My
open PySem PySem.Spec PyProof.Rows L2
theorem eqd_bools {H : Hp} {n : Nat} {l1 l2 : Addr} {bs cs : List Bool} (h1 : H l1 = some (.lst (bs.map V.bl))) (h2 : H l2 = some (.lst (cs.map V.bl))) (e : bs = cs) (hl : bs.length ≤ 1000) : Eqd H (n + 2) (.ref l1) (.ref l2) := by
  subst e
  exact Eqd.lst h1 h2 (by rw [List.length_map]; exact hl) (paired_refl fun x hx => by
    obtain ⟨b, _, rfl⟩ := List.mem_map.mp hx
    exact Eqd.leaf True.intro)
theorem OddV.noint {H : Hp} {b : Addr} {v : V} (h : OddV H b v) : isIntV v = false := by
  cases h <;> rfl
theorem OddV.noname {H : Hp} {b : Addr} {v : V} (h : OddV H b v) : nameV v = false := by
  cases h <;> first | rfl | decide +kernel
theorem OddV.short {H : Hp} {b : Addr} {v : V} (h : OddV H b v) : ∀ z, v = .str z → z.length ≤ 1000 := by
  cases h <;> intro z e <;> first | (injection e with e; subst e; decide +kernel) | cases e
theorem OddV.noshare {H : Hp} {b : Addr} {v : V} (h : OddV H b v) : ∃ t, Typ H v t ∧ ShareR H v t false := by
  cases h with
  | non => exact ⟨_, .non, .inl ⟨by decide, rfl⟩⟩
  | bl x => exact ⟨_, .bl x, .inl ⟨by decide, rfl⟩⟩
  | s0 => exact ⟨_, .str _, .inl ⟨by decide, rfl⟩⟩
  | s1 => exact ⟨_, .str _, .inl ⟨by decide, rfl⟩⟩
  | s2 => exact ⟨_, .str _, .inl ⟨by decide, rfl⟩⟩
  | s3 => exact ⟨_, .str _, .inl ⟨by decide, rfl⟩⟩
  | s4 => exact ⟨_, .str _, .inl ⟨by decide, rfl⟩⟩
  | t0 n h => exact ⟨_, .tup h, .inr ⟨_, _, rfl, h, by simp, rfl⟩⟩
  | t1 n h => exact ⟨_, .tup h, .inr ⟨_, _, rfl, h, by simp [leafV], rfl⟩⟩
  | l0 n h => exact ⟨_, .lst h, .inl ⟨by decide, rfl⟩⟩
  | l1 n h => exact ⟨_, .lst h, .inl ⟨by decide, rfl⟩⟩
theorem ones_sum : ∀ cs : List Nat, ((cs.map fun c => (⟨#[c]⟩ : Str)).map (·.length)).sum = cs.length
  | [] => rfl
  | c :: r => by
    have h := ones_sum r
    simp only [List.map_cons, List.sum_cons, List.length_cons]
    rw [h]
    show 1 + r.length = r.length + 1
    omega
def spLaw (K : PySem.W.Frag) : Sp := fun vs H Q _ => ∃ (a : Addr) (ns : List Int), vs = [.ref a] ∧ SqL K H a (ns.map V.int) ∧ ns.length ≤ 63 ∧ ∀ H', Q (.bl true) H'
def spLetters : Sp := fun vs H Q _ => vs = [] ∧ Q (.str letters) H
section
variable {P : Program} {w : World} {K : PySem.W.Frag} {mg : Str → Option Value} {base : Heap} {kw : Addr}
theorem ok_law {f : Addr} {fd : FuncData} (F : Fun K "law" "law" s_law f fd) (B : Blt mg) (T : Txt K mg kw)
    (G_l_bag : Has P w K mg base 1 "_law_bag" ["_law_script"] (spBag K)) (G_l_draw : Has P w K mg base 1 "_law_draw" ["_law_bag_here", "_law_many"] spDraw) (G_l_pick : Has P w K mg base 2 "_law_pick" ["_law_bag_here", "_law_some"] (spPick K))
    (G_l_letters : Has P w K mg base 1 "_law_letters" [] spLetters) (G_l_same : Has P w K mg base 3 "_law_same" ["_law_found", "_law_due"] (spSame 3)) (G_l_odd : Has P w K mg base 3 "_law_odd" ["_law_bag_here"] spOdd)
    (G_l_gcd : Has P w K mg base 1 "_law_gcd" ["_law_a", "_law_b"] spGcd) (G_is_int : Has P w K mg base 1 "is_int" ["value"] spIsInt) (G_is_name : Has P w K mg base 1 "is_name" ["value"] spIsName)
    (G_is_share : Has P w K mg base 2 "is_share" ["value"] spIsShare) : FnOk P w K mg base CX0 4 f fd ["_law_script"] (spLaw K) := by
  refine F.ok sc_law (fun vs H Q E h => ?_) (fun cdv A outer s H vs Q E hr h => ?_)
  · obtain ⟨a, t, rfl, _⟩ := h
    rfl
  obtain ⟨a, ns, rfl, hS, hl, q⟩ := h
  refine ⟨_, (pss_cons (ps_set (i := 1) sc_law.nd rfl (Or.inr rfl) (pe_own G_l_bag (hr.mono (by decide)) (by rfl) (pa_cons (pv 0) pa_nil)))
      (pss_cons (ps_for PassesOwn.never rfl (pi_range1 (by rfl) B.range (pa_cons pe_int pa_nil)) (pg_name (i := 2) sc_law.nd rfl (Or.inl rfl))
        (pss_cons (ps_set (i := 3) sc_law.nd rfl (Or.inl rfl) (pe_op op_sub (pe_own G_l_draw (hr.mono (by decide)) (by rfl) (pa_cons (pv 1) (pa_cons (pe_op op_pow pe_int pe_int) pa_nil))) (pe_own G_l_draw (hr.mono (by decide)) (by rfl) (pa_cons (pv 1) (pa_cons (pe_op op_pow pe_int pe_int) pa_nil)))))
      (pss_cons (ps_set (i := 4) sc_law.nd rfl (Or.inl rfl) (pe_own G_l_odd (hr.mono (by decide)) (by rfl) (pa_cons (pv 1) pa_nil)))
      (pss_cons (ps_if (pt_not (pt_val (pe_own G_l_same (hr.mono (by decide)) (by rfl) (pa_cons (pe_lst (pa_cons (pe_own G_is_int (hr.mono (by decide)) (by rfl) (pa_cons (pv 3) pa_nil)) (pa_cons (pe_own G_is_int (hr.mono (by decide)) (by rfl) (pa_cons pe_int pa_nil)) (pa_cons (pe_own G_is_int (hr.mono (by decide)) (by rfl) (pa_cons (pv 4) pa_nil)) (pa_cons (pe_own G_is_int (hr.mono (by decide)) (by rfl) (pa_cons (pe_cmpR op_gt (pv 2) pe_int (nomark _)) pa_nil)) pa_nil))))) (pa_cons (pe_lst (pa_cons pe_bl (pa_cons pe_bl (pa_cons pe_bl (pa_cons pe_bl pa_nil))))) pa_nil)))))
        (pss_one (ps_ret pe_bl))
        pss_nil)
      (pss_cons (ps_set (i := 5) sc_law.nd rfl (Or.inl rfl) (pe_own G_l_draw (hr.mono (by decide)) (by rfl) (pa_cons (pv 1) (pa_cons pe_int pa_nil))))
      (pss_cons (ps_set (i := 6) sc_law.nd rfl (Or.inl rfl) (pe_join pe_str (pe_lc (own := [("_law_k", 7)]) (g := gName 7) (tt := tYes) (by rfl) sc_law.nd (pi_range1 (by rfl) B.range (pa_cons (pv 5) pa_nil)) (blkOk_by (own := [("_law_k", 7)]) (N := N_law) (sc := defScope s_law) (by decide +kernel)) (fun _ _ _ _ _ => (pg_name (i := 7) sc_law.nd rfl (Or.inl rfl))) (fun _ _ _ _ _ => pts_nil) (fun _ _ _ _ _ => (pe_own G_l_pick (hr.mono (by decide)) (by rfl) (pa_cons (pv 1) (pa_cons (pe_own0 G_l_letters (hr.mono (by decide)) (by rfl)) pa_nil)))))))
      (pss_cons (ps_set (i := 8) sc_law.nd rfl (Or.inl rfl) (pe_own G_l_draw (hr.mono (by decide)) (by rfl) (pa_cons (pv 1) (pa_cons (pe_op op_add (pv 5) pe_int) pa_nil))))
      (pss_cons (ps_set (i := 9) sc_law.nd rfl (Or.inl rfl) (pe_op op_add_str (pe_op op_add_str (pe_slice sl_str (pv 6) po_none (po_some (pv 8))) (pe_own G_l_pick (hr.mono (by decide)) (by rfl) (pa_cons (pv 1) (pa_cons (pe_lst (pa_cons pe_str (pa_cons pe_str (pa_cons pe_str (pa_cons pe_str (pa_cons pe_str pa_nil)))))) pa_nil)))) (pe_slice sl_str (pv 6) (po_some (pv 8)) po_none)))
      (pss_cons (ps_set (i := 10) sc_law.nd rfl (Or.inl rfl) (pe_own G_l_pick (hr.mono (by decide)) (by rfl) (pa_cons (pv 1) (pa_cons (pe_lst (pa_cons pe_str (pa_cons pe_str (pa_cons pe_str (pa_cons pe_str pa_nil))))) pa_nil))))
      (C8.pss_cut (ps_set (i := 11) sc_law.nd rfl (Or.inl rfl) (pe_and (pe_chain op_le op_le pe_int (pv 5) pe_int) (pe_one (pe_cmpR op_notIn_seq (pv 6) (pe_lst (pa_cons pe_str (pa_cons pe_str (pa_cons pe_str (pa_cons pe_str pa_nil))))) rfl))))
      (pss_cons (ps_if (pt_not (pt_val (pe_own G_l_same (hr.mono (by decide)) (by rfl) (pa_cons (pe_lst (pa_cons (pe_own G_is_name (hr.mono (by decide)) (by rfl) (pa_cons (pv 6) pa_nil)) (pa_cons (pe_own G_is_name (hr.mono (by decide)) (by rfl) (pa_cons (pv 9) pa_nil)) (pa_cons (pe_own G_is_name (hr.mono (by decide)) (by rfl) (pa_cons (pv 10) pa_nil)) (pa_cons (pe_own G_is_name (hr.mono (by decide)) (by rfl) (pa_cons (pv 3) pa_nil)) (pa_cons (pe_own G_is_name (hr.mono (by decide)) (by rfl) (pa_cons (pv 4) pa_nil)) (pa_cons (pe_own G_is_name (hr.mono (by decide)) (by rfl) (pa_cons (pe_tup (pa_cons (pv 6) pa_nil)) pa_nil)) (pa_cons (pe_own G_is_name (hr.mono (by decide)) (by rfl) (pa_cons (pe_op op_add_str (pe_slice sl_str (pv 10) po_none (po_some pe_int)) pe_str) pa_nil)) pa_nil)))))))) (pa_cons (pe_lst (pa_cons (pv 11) (pa_cons pe_bl (pa_cons pe_bl (pa_cons pe_bl (pa_cons pe_bl (pa_cons pe_bl (pa_cons pe_bl pa_nil)))))))) pa_nil)))))
        (pss_one (ps_ret pe_bl))
        pss_nil)
      (pss_cons (ps_par (i := 12) (j := 13) rfl sc_law.nd rfl rfl (by decide) rfl rfl (pa_cons (pe_op op_sub (pe_own G_l_draw (hr.mono (by decide)) (by rfl) (pa_cons (pv 1) (pa_cons pe_int pa_nil))) pe_int) (pa_cons (pe_op op_sub (pe_own G_l_draw (hr.mono (by decide)) (by rfl) (pa_cons (pv 1) (pa_cons pe_int pa_nil))) pe_int) pa_nil)) rfl)
      (C8.pss_cut (ps_set (i := 11) sc_law.nd rfl (Or.inl rfl) (pe_and (pe_cmpR op_gt (pv 13) pe_int (nomark _)) (pe_one (pe_cmpR op_eq (pe_own G_l_gcd (hr.mono (by decide)) (by rfl) (pa_cons (pv 12) (pa_cons (pv 13) pa_nil))) pe_int (nomark _)))))
      (pss_cons (ps_set (i := 14) sc_law.nd rfl (Or.inl rfl) (pe_lst (pa_cons (pe_own G_is_share (hr.mono (by decide)) (by rfl) (pa_cons (pe_tup (pa_cons (pv 12) (pa_cons (pv 13) pa_nil))) pa_nil)) (pa_cons (pe_own G_is_share (hr.mono (by decide)) (by rfl) (pa_cons (pe_lst (pa_cons (pv 12) (pa_cons (pv 13) pa_nil))) pa_nil)) (pa_cons (pe_own G_is_share (hr.mono (by decide)) (by rfl) (pa_cons (pe_tup (pa_cons (pv 12) (pa_cons (pv 13) (pa_cons pe_int pa_nil)))) pa_nil)) (pa_cons (pe_own G_is_share (hr.mono (by decide)) (by rfl) (pa_cons (pe_tup (pa_cons (pv 12) pa_nil)) pa_nil)) (pa_cons (pe_own G_is_share (hr.mono (by decide)) (by rfl) (pa_cons (pv 12) pa_nil)) (pa_cons (pe_own G_is_share (hr.mono (by decide)) (by rfl) (pa_cons (pe_tup (pa_cons pe_bl (pa_cons pe_int pa_nil))) pa_nil)) (pa_cons (pe_own G_is_share (hr.mono (by decide)) (by rfl) (pa_cons (pe_tup (pa_cons (pv 12) (pa_cons pe_str pa_nil))) pa_nil)) (pa_cons (pe_own G_is_share (hr.mono (by decide)) (by rfl) (pa_cons (pv 4) pa_nil)) (pa_cons (pe_own G_is_share (hr.mono (by decide)) (by rfl) (pa_cons (pe_tup (pa_cons pe_int (pa_cons pe_int pa_nil))) pa_nil)) (pa_cons (pe_own G_is_share (hr.mono (by decide)) (by rfl) (pa_cons (pe_tup (pa_cons pe_int (pa_cons pe_int pa_nil))) pa_nil)) pa_nil))))))))))))
      (pss_one (ps_if (pt_not (pt_val (pe_own G_l_same (hr.mono (by decide)) (by rfl) (pa_cons (pv 14) (pa_cons (pe_lst (pa_cons (pv 11) (pa_cons pe_bl (pa_cons pe_bl (pa_cons pe_bl (pa_cons pe_bl (pa_cons pe_bl (pa_cons pe_bl (pa_cons pe_bl (pa_cons pe_bl (pa_cons pe_bl pa_nil))))))))))) pa_nil)))))
        (pss_one (ps_ret pe_bl))
        pss_nil))))))))))))))))
      (pss_one (ps_ret pe_bl)))), ?_⟩
  refine ⟨_, rfl, a, ns, rfl, hS, hl, fun b cc H0 s0 nb B0 => ?_⟩
  refine ⟨8, rfl, by decide, by decide, for_range (n := 8) (fun i σ H' => ∃ y2 y3 y4 y5 y6 y7 y8 y9 y10 y11 y12 y13 y14, σ = [some (.ref a), some (.ref b), y2, y3, y4, y5, y6, y7, y8, y9, y10, y11, y12, y13, y14] ∧ Bg H' b cc)
    ⟨none, none, none, none, none, none, none, none, none, none, none, none, none, rfl, B0⟩ ?_ (fun σ H' _ => q _)⟩
  rintro i σ H' hi ⟨y2, y3, y4, y5, y6, y7, y8, y9, y10, y11, y12, y13, y14, rfl, B0⟩
  refine ⟨_, rfl, _, _, rfl, rfl, ⟨by decide, by decide, by decide⟩, b, cc, _, rfl, B0, by decide +kernel, by decide +kernel, fun v1 H1 _ _ k1 B1 => ?_⟩
  refine ⟨_, rfl, _, _, rfl, rfl, ⟨by decide, by decide, by decide⟩, b, cc, _, rfl, B1, by decide +kernel, by decide +kernel, fun v2 H2 _ _ k2 B2 => ⟨_, _, rfl, rfl, ?_⟩⟩
  refine ⟨_, rfl, b, cc, rfl, B2, fun o H3 k3 B3 O3 => ?_⟩
  obtain ⟨t3, T3, _⟩ := O3.typ
  -- the first test
  refine ⟨_, rfl, _, "int", rfl, .int _, _, "int", rfl, .int _, _, rfl, o, t3, rfl, T3, _, rfl, _, _, rfl, rfl, _, "bool", rfl, .bl _, (by show 4 ≤ sizeLine; decide), fun l1 n1 => ⟨(by show 4 ≤ sizeLine; decide), fun l2 n2 => ?_⟩⟩
  refine ⟨.ref l1, .ref l2, rfl, eqd_bools (bs := [true, true, isIntV o, false]) (cs := [true, true, false, false]) (same_upd n2 _ _ upd_same) upd_same (by rw [O3.noint]) (by show 4 ≤ 1000; decide), fun H4 s4 => ⟨_, rfl, iteF ?_⟩⟩
  have S4 : Same H3 H4 := (same_upd n1).trans ((same_upd n2).trans s4)
  have B4 := B3.same S4
  have O4 := O3.kp (Kp.of S4)
  -- the word
  refine ⟨_, rfl, b, cc, _, rfl, B4, by decide, by decide, fun n H5 n0 n9 k5 B5 => ?_⟩
  have O5 := O4.kp k5
  refine ⟨⟨"", rfl⟩, _, rfl, n, rfl, by omega, by omega, fun D hD => lc_it walk_range (fun i H' => ∃ cs : List Nat, cs.length = i ∧ (∀ c ∈ cs, c ∈ letters.cps.toList) ∧ Kp b H5 H' ∧ Bg H' b cc ∧ H' D = some (.lst (cs.map fun c => V.str ⟨#[c]⟩)))
    ⟨[], rfl, by simp, Kp.of (same_upd hD), B5.same (same_upd hD), upd_same⟩ (fun _ _ _ _ => True.intro) ?_ ?_⟩
  · rintro j v Ha Hb hj ⟨cs, rfl, hcs, ka, Ba, ea⟩ ⟨rfl, rfl⟩
    refine ⟨rfl, tYes_ok ?_⟩
    refine ⟨_, rfl, rfl, b, cc, .str letters, rfl, Ba, .inr ⟨letters, rfl, by decide +kernel, by decide +kernel, fun c Hc hc kc Bc => ?_⟩⟩
    have hDb : D ≠ b := B5.ne_new hD
    have ec := kc _ _ hDb ea
    have kd : Kp D Hc (upd Hc D (.lst (cs.map (fun c => V.str ⟨#[c]⟩) ++ [.str ⟨#[c]⟩]))) := Kp.upd
    refine ⟨_, ec, by rw [List.length_map]; exact small1000 (by omega), cs ++ [c], by rw [List.length_append]; rfl, ?_, ?_, ?_, ?_⟩
    · intro d hd
      rcases List.mem_append.mp hd with h | h
      · exact hcs d h
      · rw [List.mem_singleton.mp h]
        exact hc
    · intro x o hx ho
      have hxD : x ≠ D := ne_of_none ho hD
      rw [upd_ne hxD]
      exact kc _ _ hx (ka _ _ hx ho)
    · exact Bc.kp hDb (B5.ne_new2 hD) kd
    · rw [upd_same, List.map_append]
      rfl
  rintro H6 ⟨cs, hcl, hcs, k6, B6, e6⟩
  have O6 := O5.kp k6
  have eys : cs.map (fun c => V.str ⟨#[c]⟩) = (cs.map fun c => (⟨#[c]⟩ : Str)).map V.str := by rw [List.map_map]; rfl
  refine ⟨"", D, cs.map fun c => (⟨#[c]⟩ : Str), rfl, rfl, .inl (SqL.of (by rw [e6, eys])), ?_, ?_⟩
  · rw [ones_sum, List.length_map]
    show cs.length + cs.length * 0 ≤ 16777216
    omega
  obtain ⟨z, hz⟩ : ∃ z : Str, z = Txt.join "" (cs.map fun c => (⟨#[c]⟩ : Str)) := ⟨_, rfl⟩
  have zl : z.cps.toList = cs := by rw [hz, join1]
  rw [← hz]
  have zlen : z.length = n.toNat := by rw [str_len, zl, hcl]
  have zlet : ∀ c ∈ z.cps.toList, c ∈ letters.cps.toList := by rw [zl]; exact hcs
  have zs : z.length ≤ sizeLine := Nat.le_of_lt (small1000 (by omega))
  -- spot, bent, reserved
  refine ⟨_, rfl, _, rfl, _, _, rfl, rfl, b, cc, _, rfl, B6, by omega, by omega, fun sp H7 p0 p9 k7 B7 => ?_⟩
  have O7 := O6.kp k7
  refine ⟨_, rfl, _, rfl, _, rfl, z, rfl, zs, ?_⟩
  refine ⟨_, rfl, (by show 5 ≤ sizeLine; decide), fun l3 n3 => ?_⟩
  refine ⟨b, cc, .ref l3, rfl, B7.same (same_upd n3), .inl ⟨l3, _, rfl, B7.ne_new n3, upd_same, by simp, (by show 5 ≤ 1000; decide), fun v H8 hv k8 B8 => ?_⟩⟩
  have O8 := (O7.kp (Kp.of (same_upd n3))).kp k8
  obtain ⟨d, rfl, hd⟩ : ∃ d, v = .str ⟨#[d]⟩ ∧ d ∉ letters.cps.toList := by
    simp only [List.mem_cons, List.not_mem_nil, or_false] at hv
    rcases hv with rfl | rfl | rfl | rfl | rfl
    · exact ⟨65, by decide +kernel, by decide +kernel⟩
    · exact ⟨48, by decide +kernel, by decide +kernel⟩
    · exact ⟨95, by decide +kernel, by decide +kernel⟩
    · exact ⟨32, by decide +kernel, by decide +kernel⟩
    · exact ⟨45, by decide +kernel, by decide +kernel⟩
  have c1 := cutS_length z none (some sp)
  have c2 := cutS_length z (some sp) none
  have hsz : (cutS z none (some sp)).length + (⟨#[d]⟩ : Str).length ≤ sizeLine := Nat.le_of_lt (small1000 (by show _ + 1 ≤ 1000; omega))
  refine ⟨_, _, rfl, rfl, hsz, ?_⟩
  refine ⟨_, rfl, _, rfl, _, rfl, z, rfl, zs, ?_⟩
  have c3 : (cutS z none (some sp) ++ (⟨#[d]⟩ : Str)).length = (cutS z none (some sp)).length + 1 := by rw [Str.length_append]; rfl
  refine ⟨_, _, rfl, rfl, Nat.le_of_lt (small1000 (by rw [c3]; omega)), ?_⟩
  obtain ⟨be, hbe⟩ : ∃ be : Str, be = cutS z none (some sp) ++ (⟨#[d]⟩ : Str) ++ cutS z (some sp) none := ⟨_, rfl⟩
  have bent0 : nameB be = false := by
    refine not_name (c := d) ?_ hd
    rw [hbe, app_l, app_l]
    exact List.mem_append_left _ (List.mem_append_right _ (by show d ∈ [d]; simp))
  have belen : be.length ≤ 1000 := by
    rw [hbe, Str.length_append, c3]
    omega
  rw [← hbe]
  refine ⟨_, rfl, (by show 4 ≤ sizeLine; decide), fun l4 n4 => ?_⟩
  refine ⟨b, cc, .ref l4, rfl, B8.same (same_upd n4), .inl ⟨l4, _, rfl, B8.ne_new n4, upd_same, by simp, (by show 4 ≤ 1000; decide), fun v H9 hv k9 B9 => ?_⟩⟩
  have O9 := (O8.kp (Kp.of (same_upd n4))).kp k9
  obtain ⟨rz, rfl, hr1, hr2, hr3⟩ : ∃ rz : Str, v = .str rz ∧ nameB rz = false ∧ nameB (cutS rz none (some 5) ++ "s") = true ∧ rz.length ≤ 4 := by
    simp only [List.mem_cons, List.not_mem_nil, or_false] at hv
    rcases hv with rfl | rfl | rfl | rfl
    · exact ⟨_, rfl, by decide +kernel, by decide +kernel, by decide +kernel⟩
    · exact ⟨_, rfl, by decide +kernel, by decide +kernel, by decide +kernel⟩
    · exact ⟨_, rfl, by decide +kernel, by decide +kernel, by decide +kernel⟩
    · exact ⟨_, rfl, by decide +kernel, by decide +kernel, by decide +kernel⟩
  -- what is due of the word
  refine ⟨fun σ' H' => σ' = [some (.ref a), some (.ref b), some (.int (0 + (i : Int))), some (.int (v1 - v2)), some o, some (.int n), some (.str z), y7, some (.int sp), some (.str be), some (.str rz), some (.bl (nameB z)), y12, y13, y14] ∧ Same H9 H', ?_, ?_⟩
  · refine ⟨_, rfl, _, _, rfl, rfl, _, rfl, ?_⟩
    have ez := word_name zlet
    by_cases c1 : 1 ≤ n
    · refine ite_of (decide_eq_true c1) ⟨_, _, rfl, rfl, _, rfl, ?_⟩
      by_cases c2 : n ≤ 6
      · refine ite_of (decide_eq_true c2) ?_
        refine ⟨_, rfl, (by show 4 ≤ sizeLine; decide), fun l5 n5 => ?_⟩
        refine ⟨l5, kept, rfl, .inl (SqL.of upd_same), rfl, rfl, ?_⟩
        rw [if_pos (by omega)] at ez
        refine ⟨?_, same_upd n5⟩
        rw [ez]
        rfl
      · refine ite_no (by rw [decide_eq_false c2]; decide) ?_
        rw [if_neg (by omega)] at ez
        refine ⟨?_, Same.refl _⟩
        rw [ez]
        rfl
    · refine ite_no (by rw [decide_eq_false c1]; decide) ⟨_, rfl, iteF ?_⟩
      rw [if_neg (by omega)] at ez
      refine ⟨?_, Same.refl _⟩
      rw [ez]
      rfl
  rintro σ' H10 ⟨rfl, s10⟩
  have B10 := B9.same s10
  have O10 := O9.kp (Kp.of s10)
  obtain ⟨t10, T10, _⟩ := O10.typ
  -- the second test
  refine ⟨_, rfl, .str z, "str", rfl, .str z, (fun u e => by injection e with e; subst e; omega), fun A1 a1 => ?_⟩
  refine ⟨_, rfl, .str be, "str", rfl, .str be, (fun u e => by injection e with e; subst e; omega), fun A2 a2 => ?_⟩
  refine ⟨_, rfl, .str rz, "str", rfl, .str rz, (fun u e => by injection e with e; subst e; omega), fun A3 a3 => ?_⟩
  refine ⟨_, rfl, _, "int", rfl, .int _, (fun u e => by cases e), fun A4 a4 => ?_⟩
  have sA4 := a1.trans (a2.trans (a3.trans a4))
  refine ⟨_, rfl, o, t10, rfl, T10.same sA4, (O10.kp (Kp.of sA4)).short, fun A5 a5 => ?_⟩
  refine ⟨_, rfl, (by show 1 ≤ sizeLine; decide), fun l6 n6 => ?_⟩
  refine ⟨.ref l6, "tuple", rfl, .tup upd_same, (fun u e => by cases e), fun A6 a6 => ?_⟩
  refine ⟨_, rfl, 5, rfl, rz, rfl, Nat.le_of_lt (small1000 (by omega)), ?_⟩
  have c4 := cutS_length rz none (some 5)
  have c5 : (cutS rz none (some 5) ++ ("s" : Str)).length = (cutS rz none (some 5)).length + 1 := by rw [Str.length_append]; rfl
  refine ⟨_, _, rfl, rfl, Nat.le_of_lt (small1000 (by rw [← Str.length_append, c5]; omega)), ?_⟩
  refine ⟨_, "str", rfl, .str _, (fun u e => by injection e with e; subst e; rw [c5]; omega), fun A7 a7 => ?_⟩
  refine ⟨(by show 7 ≤ sizeLine; decide), fun l7 n7 => ?_⟩
  refine ⟨_, rfl, (by show 7 ≤ sizeLine; decide), fun l8 n8 => ?_⟩
  refine ⟨.ref l7, .ref l8, rfl, eqd_bools (bs := [nameB z, nameB be, nameB rz, false, nameV o, false, nameB (cutS rz none (some 5) ++ "s")]) (cs := [nameB z, false, false, false, false, false, true]) (same_upd n8 _ _ upd_same) upd_same
    (by rw [bent0, hr1, hr2, O10.noname]) (by show 7 ≤ 1000; decide), fun A8 a8 => ⟨_, rfl, iteF ?_⟩⟩
  have SA : Same H10 A8 := sA4.trans (a5.trans ((same_upd n6).trans (a6.trans (a7.trans ((same_upd n7).trans ((same_upd n8).trans a8))))))
  have B11 := B10.same SA
  have O11 := O10.kp (Kp.of SA)
  -- p and q
  refine ⟨_, rfl, b, cc, _, rfl, B11, by decide, by decide, fun p H12 _ _ k12 B12 => ⟨_, _, rfl, rfl, ?_⟩⟩
  refine ⟨_, rfl, b, cc, _, rfl, B12, by decide, by decide, fun qq H13 _ _ k13 B13 => ⟨_, _, rfl, rfl, _, _, rfl, ?_⟩⟩
  have O13 := (O11.kp k12).kp k13
  refine ⟨fun σ' H' => σ' = [some (.ref a), some (.ref b), some (.int (0 + (i : Int))), some (.int (v1 - v2)), some o, some (.int n), some (.str z), y7, some (.int sp), some (.str be), some (.str rz), some (.bl (shareV [.int (p - 20), .int (qq - 4)])), some (.int (p - 20)), some (.int (qq - 4)), y14] ∧ H' = H13, ?_, ?_⟩
  · refine ⟨_, rfl, _, _, rfl, rfl, _, rfl, ite2 (fun c => ?_) (fun c => ?_)⟩
    · refine ⟨_, rfl, _, rfl, _, _, rfl, rfl, ?_⟩
      refine ⟨?_, rfl⟩
      have e : shareV [.int (p - 20), .int (qq - 4)] = decide (V.int ((Nat.gcd (p - 20).natAbs (qq - 4).natAbs : Nat) : Int) = V.int 1) := by
        have c' : (0 : Int) < qq - 4 := of_decide_eq_true c
        show (decide (1 ≤ qq - 4) && decide (Nat.gcd (p - 20).natAbs (qq - 4).natAbs = 1)) = _
        rw [decide_eq_true (show 1 ≤ qq - 4 by omega), Bool.true_and]
        by_cases g : Nat.gcd (p - 20).natAbs (qq - 4).natAbs = 1
        · rw [decide_eq_true g]
          exact (decide_eq_true (by rw [g]; rfl)).symm
        · rw [decide_eq_false g, decide_eq_false]
          intro k
          have := V.int.inj k
          omega
      rw [e]
      rfl
    · have e : shareV [.int (p - 20), .int (qq - 4)] = false := by
        have c' : ¬ (0 : Int) < qq - 4 := of_decide_eq_false (Bool.eq_false_iff.mpr c)
        show (decide (1 ≤ qq - 4) && decide (Nat.gcd (p - 20).natAbs (qq - 4).natAbs = 1)) = _
        rw [decide_eq_false (show ¬ 1 ≤ qq - 4 by omega), Bool.false_and]
      refine ⟨?_, rfl⟩
      rw [e]
      rfl
  rintro σ' H14 ⟨rfl, rfl⟩
  -- what is asked of shares
  refine ⟨_, rfl, _, rfl, (by show 2 ≤ sizeLine; decide), fun u1 m1 => ⟨.ref u1, "tuple", _, rfl, .tup upd_same, .inr ⟨u1, _, rfl, upd_same, by simp [leafV], rfl⟩, ?_⟩⟩
  refine ⟨_, rfl, _, rfl, (by show 2 ≤ sizeLine; decide), fun u2 m2 => ⟨.ref u2, "list", _, rfl, .lst upd_same, .inl ⟨by decide, rfl⟩, ?_⟩⟩
  refine ⟨_, rfl, _, rfl, (by show 3 ≤ sizeLine; decide), fun u3 m3 => ⟨.ref u3, "tuple", _, rfl, .tup upd_same, .inr ⟨u3, _, rfl, upd_same, by simp [leafV], rfl⟩, ?_⟩⟩
  refine ⟨_, rfl, (by show 1 ≤ sizeLine; decide), fun u4 m4 => ⟨.ref u4, "tuple", _, rfl, .tup upd_same, .inr ⟨u4, _, rfl, upd_same, by simp [leafV], rfl⟩, ?_⟩⟩
  refine ⟨_, rfl, _, "int", _, rfl, .int _, .inl ⟨by decide, rfl⟩, ?_⟩
  refine ⟨(by show 2 ≤ sizeLine; decide), fun u5 m5 => ⟨.ref u5, "tuple", _, rfl, .tup upd_same, .inr ⟨u5, _, rfl, upd_same, by simp [leafV], rfl⟩, ?_⟩⟩
  refine ⟨_, rfl, (by show 2 ≤ sizeLine; decide), fun u6 m6 => ⟨.ref u6, "tuple", _, rfl, .tup upd_same, .inr ⟨u6, _, rfl, upd_same, by simp [leafV], rfl⟩, ?_⟩⟩
  have SB := (same_upd m1 (o := _)).trans ((same_upd m2).trans ((same_upd m3).trans ((same_upd m4).trans ((same_upd m5).trans (same_upd (o := .tup [.int (p - 20), .str "1"]) m6)))))
  have O15 := O13.kp (Kp.of SB)
  have B15 := B13.same SB
  obtain ⟨t15, T15, ho⟩ := O15.noshare
  refine ⟨_, rfl, o, t15, false, rfl, T15, ho, ?_⟩
  refine ⟨(by show 2 ≤ sizeLine; decide), fun u7 m7 => ⟨.ref u7, "tuple", _, rfl, .tup upd_same, .inr ⟨u7, _, rfl, upd_same, by simp [leafV], rfl⟩, ?_⟩⟩
  refine ⟨(by show 2 ≤ sizeLine; decide), fun u8 m8 => ⟨.ref u8, "tuple", _, rfl, .tup upd_same, .inr ⟨u8, _, rfl, upd_same, by simp [leafV], rfl⟩, ?_⟩⟩
  refine ⟨(by show 10 ≤ sizeLine; decide), fun l9 n9 => ?_⟩
  refine ⟨_, rfl, _, rfl, (by show 10 ≤ sizeLine; decide), fun l10 n10 => ?_⟩
  refine ⟨.ref l9, .ref l10, rfl, eqd_bools (bs := [shareV [.int (p - 20), .int (qq - 4)], false, shareV [.int (p - 20), .int (qq - 4), .int 1], shareV [.int (p - 20)], false, shareV [.bl true, .int 1], shareV [.int (p - 20), .str "1"], false, shareV [.int 0, .int 1], shareV [.int 0, .int 2]])
    (cs := [shareV [.int (p - 20), .int (qq - 4)], false, false, false, false, false, false, false, true, false]) (same_upd n10 _ _ upd_same) upd_same (by
      rw [show shareV [.int 0, .int 1] = true by decide +kernel, show shareV [.int 0, .int 2] = false by decide +kernel]
      rfl) (by show 10 ≤ 1000; decide), fun H16 s16 => ⟨_, rfl, iteF ?_⟩⟩
  have SC := ((same_upd m7).trans ((same_upd m8).trans ((same_upd n9).trans ((same_upd n10).trans s16))))
  exact ⟨_, _, _, _, _, _, _, _, _, _, _, _, _, rfl, B15.same SC⟩
end
end My
namespace My
open PySem PySem.Spec PyProof.Rows L2
theorem all_mk {l : PySem.W.OpenLaw} {w : World} {K : PySem.W.Frag} {h : Heap} {mg : Str → Option Value} {fa : Addr} (X : K.In h) (G : h.Ns mainGlobals mg) (hfa : mg "law" = some (.ref fa))
    {f1 : Addr} {od1 an1 : Option Addr} {sl1 : Array (Option Value)} {oc1 kV1 dc1 pm1 cd1 ct1 : Value} {f2 : Addr} {od2 an2 : Option Addr} {sl2 : Array (Option Value)} {oc2 kV2 dc2 pm2 cd2 ct2 : Value} {f3 : Addr} {od3 an3 : Option Addr} {sl3 : Array (Option Value)} {oc3 kV3 dc3 pm3 cd3 ct3 : Value} {f4 : Addr} {od4 an4 : Option Addr} {sl4 : Array (Option Value)} {oc4 kV4 dc4 pm4 cd4 ct4 : Value} {f5 : Addr} {od5 an5 : Option Addr} {sl5 : Array (Option Value)} {oc5 kV5 dc5 pm5 cd5 ct5 : Value} {f6 : Addr} {od6 an6 : Option Addr} {sl6 : Array (Option Value)} {oc6 kV6 dc6 pm6 cd6 ct6 : Value} {f7 : Addr} {od7 an7 : Option Addr} {sl7 : Array (Option Value)} {oc7 kV7 dc7 pm7 cd7 ct7 : Value} {f8 : Addr} {od8 an8 : Option Addr} {sl8 : Array (Option Value)} {oc8 kV8 dc8 pm8 cd8 ct8 : Value} {f9 : Addr} {od9 an9 : Option Addr} {sl9 : Array (Option Value)} {oc9 kV9 dc9 pm9 cd9 ct9 : Value} {f10 : Addr} {od10 an10 : Option Addr} {sl10 : Array (Option Value)} {oc10 kV10 dc10 pm10 cd10 ct10 : Value} {f11 : Addr} {od11 an11 : Option Addr} {sl11 : Array (Option Value)} {oc11 kV11 dc11 pm11 cd11 ct11 : Value} {u_LETTERS : Tok} {r_KEPT_WORDS : Addr} {od_KEPT_WORDS : Option Addr} {n_KEPT_WORDS : Nat} {sl_KEPT_WORDS : Array (Option Value)} {u0_KEPT_WORDS u1_KEPT_WORDS u2_KEPT_WORDS u3_KEPT_WORDS : Tok} {u_MOST_LETTERS : Tok}
    (a1 : PySem.W.nsIn K mainGlobals "is_int" = some (some (.ref f1))) (l1 : K.lookup f1 = some ⟨oc1, od1, .func (PySem.W.fnOf "is_int" "is_int" (defArgs s_is_int) (defBody s_is_int) (defScope s_is_int) .none kV1 dc1 pm1 an1 cd1 ct1), sl1⟩) (c1 : PySem.W.codeIn K cd1 "is_int" = true) (k1 : PySem.W.keepIn K (.ref f1) = true)
    (a2 : PySem.W.nsIn K mainGlobals "is_name" = some (some (.ref f2))) (l2 : K.lookup f2 = some ⟨oc2, od2, .func (PySem.W.fnOf "is_name" "is_name" (defArgs s_is_name) (defBody s_is_name) (defScope s_is_name) .none kV2 dc2 pm2 an2 cd2 ct2), sl2⟩) (c2 : PySem.W.codeIn K cd2 "is_name" = true) (k2 : PySem.W.keepIn K (.ref f2) = true)
    (a3 : PySem.W.nsIn K mainGlobals "is_share" = some (some (.ref f3))) (l3 : K.lookup f3 = some ⟨oc3, od3, .func (PySem.W.fnOf "is_share" "is_share" (defArgs s_is_share) (defBody s_is_share) (defScope s_is_share) .none kV3 dc3 pm3 an3 cd3 ct3), sl3⟩) (c3 : PySem.W.codeIn K cd3 "is_share" = true) (k3 : PySem.W.keepIn K (.ref f3) = true)
    (a4 : PySem.W.nsIn K mainGlobals "_law_bag" = some (some (.ref f4))) (l4 : K.lookup f4 = some ⟨oc4, od4, .func (PySem.W.fnOf "_law_bag" "_law_bag" (defArgs s_l_bag) (defBody s_l_bag) (defScope s_l_bag) .none kV4 dc4 pm4 an4 cd4 ct4), sl4⟩) (c4 : PySem.W.codeIn K cd4 "_law_bag" = true) (k4 : PySem.W.keepIn K (.ref f4) = true)
    (a5 : PySem.W.nsIn K mainGlobals "_law_draw" = some (some (.ref f5))) (l5 : K.lookup f5 = some ⟨oc5, od5, .func (PySem.W.fnOf "_law_draw" "_law_draw" (defArgs s_l_draw) (defBody s_l_draw) (defScope s_l_draw) .none kV5 dc5 pm5 an5 cd5 ct5), sl5⟩) (c5 : PySem.W.codeIn K cd5 "_law_draw" = true) (k5 : PySem.W.keepIn K (.ref f5) = true)
    (a6 : PySem.W.nsIn K mainGlobals "_law_pick" = some (some (.ref f6))) (l6 : K.lookup f6 = some ⟨oc6, od6, .func (PySem.W.fnOf "_law_pick" "_law_pick" (defArgs s_l_pick) (defBody s_l_pick) (defScope s_l_pick) .none kV6 dc6 pm6 an6 cd6 ct6), sl6⟩) (c6 : PySem.W.codeIn K cd6 "_law_pick" = true) (k6 : PySem.W.keepIn K (.ref f6) = true)
    (a7 : PySem.W.nsIn K mainGlobals "_law_letters" = some (some (.ref f7))) (l7 : K.lookup f7 = some ⟨oc7, od7, .func (PySem.W.fnOf "_law_letters" "_law_letters" (defArgs s_l_letters) (defBody s_l_letters) (defScope s_l_letters) .none kV7 dc7 pm7 an7 cd7 ct7), sl7⟩) (c7 : PySem.W.codeIn K cd7 "_law_letters" = true) (k7 : PySem.W.keepIn K (.ref f7) = true)
    (a8 : PySem.W.nsIn K mainGlobals "_law_same" = some (some (.ref f8))) (l8 : K.lookup f8 = some ⟨oc8, od8, .func (PySem.W.fnOf "_law_same" "_law_same" (defArgs s_l_same) (defBody s_l_same) (defScope s_l_same) .none kV8 dc8 pm8 an8 cd8 ct8), sl8⟩) (c8 : PySem.W.codeIn K cd8 "_law_same" = true) (k8 : PySem.W.keepIn K (.ref f8) = true)
    (a9 : PySem.W.nsIn K mainGlobals "_law_odd" = some (some (.ref f9))) (l9 : K.lookup f9 = some ⟨oc9, od9, .func (PySem.W.fnOf "_law_odd" "_law_odd" (defArgs s_l_odd) (defBody s_l_odd) (defScope s_l_odd) .none kV9 dc9 pm9 an9 cd9 ct9), sl9⟩) (c9 : PySem.W.codeIn K cd9 "_law_odd" = true) (k9 : PySem.W.keepIn K (.ref f9) = true)
    (a10 : PySem.W.nsIn K mainGlobals "_law_gcd" = some (some (.ref f10))) (l10 : K.lookup f10 = some ⟨oc10, od10, .func (PySem.W.fnOf "_law_gcd" "_law_gcd" (defArgs s_l_gcd) (defBody s_l_gcd) (defScope s_l_gcd) .none kV10 dc10 pm10 an10 cd10 ct10), sl10⟩) (c10 : PySem.W.codeIn K cd10 "_law_gcd" = true) (k10 : PySem.W.keepIn K (.ref f10) = true)
    (a11 : PySem.W.nsIn K mainGlobals "law" = some (some (.ref f11))) (l11 : K.lookup f11 = some ⟨oc11, od11, .func (PySem.W.fnOf "law" "law" (defArgs s_law) (defBody s_law) (defScope s_law) .none kV11 dc11 pm11 an11 cd11 ct11), sl11⟩) (c11 : PySem.W.codeIn K cd11 "law" = true) (k11 : PySem.W.keepIn K (.ref f11) = true)
    (z_abs : PySem.W.nsIn K mainGlobals "abs" = some none)
    (z_all : PySem.W.nsIn K mainGlobals "all" = some none)
    (z_bool : PySem.W.nsIn K mainGlobals "bool" = some none)
    (z_int : PySem.W.nsIn K mainGlobals "int" = some none)
    (z_isinstance : PySem.W.nsIn K mainGlobals "isinstance" = some none)
    (z_len : PySem.W.nsIn K mainGlobals "len" = some none)
    (z_list : PySem.W.nsIn K mainGlobals "list" = some none)
    (z_range : PySem.W.nsIn K mainGlobals "range" = some none)
    (z_str : PySem.W.nsIn K mainGlobals "str" = some none)
    (z_tuple : PySem.W.nsIn K mainGlobals "tuple" = some none)
    (z_zip : PySem.W.nsIn K mainGlobals "zip" = some none)
    (m_gcd : PySem.W.nsIn K mainGlobals "gcd" = some (some (.builtin "math.gcd")))
    (m_LETTERS : PySem.W.nsIn K mainGlobals "LETTERS" = some (some (.str "abcdefghijklmnopqrstuvwxyz" u_LETTERS)))
    (m_KEPT_WORDS : PySem.W.nsIn K mainGlobals "KEPT_WORDS" = some (some (.ref r_KEPT_WORDS))) (l_KEPT_WORDS : K.lookup r_KEPT_WORDS = some ⟨.type "tuple", od_KEPT_WORDS, .seq #[.str "in" u0_KEPT_WORDS, .str "out" u1_KEPT_WORDS, .str "proc" u2_KEPT_WORDS, .str "give" u3_KEPT_WORDS] n_KEPT_WORDS, sl_KEPT_WORDS⟩)
    (m_MOST_LETTERS : PySem.W.nsIn K mainGlobals "MOST_LETTERS" = some (some (.int 6 u_MOST_LETTERS))) :
    ∃ fd : FuncData, (∀ (s : Shared) (v : Value), BindsTo s fd ⟨[v], []⟩ [("_law_script", v)]) ∧ ∀ base : Heap, K.In base → base.Ns mainGlobals mg → FnOk l.prog w K mg base CX0 4 fa fd ["_law_script"] (spLaw K) := by
  have F_is_int := fun_mk (st := s_is_int) l1 c1 k1
  have b_is_int := F_is_int.binds (ps := ["value"]) fun _ _ _ _ _ _ us hl => match us, hl with | [_], _ => rfl
  have A_is_int : Fn K mg "is_int" s_is_int ["value"] := ⟨_, _, F_is_int, PySem.W.mg_of X G a1, b_is_int⟩
  have F_is_name := fun_mk (st := s_is_name) l2 c2 k2
  have b_is_name := F_is_name.binds (ps := ["value"]) fun _ _ _ _ _ _ us hl => match us, hl with | [_], _ => rfl
  have A_is_name : Fn K mg "is_name" s_is_name ["value"] := ⟨_, _, F_is_name, PySem.W.mg_of X G a2, b_is_name⟩
  have F_is_share := fun_mk (st := s_is_share) l3 c3 k3
  have b_is_share := F_is_share.binds (ps := ["value"]) fun _ _ _ _ _ _ us hl => match us, hl with | [_], _ => rfl
  have A_is_share : Fn K mg "is_share" s_is_share ["value"] := ⟨_, _, F_is_share, PySem.W.mg_of X G a3, b_is_share⟩
  have F_l_bag := fun_mk (st := s_l_bag) l4 c4 k4
  have b_l_bag := F_l_bag.binds (ps := ["_law_script"]) fun _ _ _ _ _ _ us hl => match us, hl with | [_], _ => rfl
  have A_l_bag : Fn K mg "_law_bag" s_l_bag ["_law_script"] := ⟨_, _, F_l_bag, PySem.W.mg_of X G a4, b_l_bag⟩
  have F_l_draw := fun_mk (st := s_l_draw) l5 c5 k5
  have b_l_draw := F_l_draw.binds (ps := ["_law_bag_here", "_law_many"]) fun _ _ _ _ _ _ us hl => match us, hl with | [_, _], _ => rfl
  have A_l_draw : Fn K mg "_law_draw" s_l_draw ["_law_bag_here", "_law_many"] := ⟨_, _, F_l_draw, PySem.W.mg_of X G a5, b_l_draw⟩
  have F_l_pick := fun_mk (st := s_l_pick) l6 c6 k6
  have b_l_pick := F_l_pick.binds (ps := ["_law_bag_here", "_law_some"]) fun _ _ _ _ _ _ us hl => match us, hl with | [_, _], _ => rfl
  have A_l_pick : Fn K mg "_law_pick" s_l_pick ["_law_bag_here", "_law_some"] := ⟨_, _, F_l_pick, PySem.W.mg_of X G a6, b_l_pick⟩
  have F_l_letters := fun_mk (st := s_l_letters) l7 c7 k7
  have b_l_letters := F_l_letters.binds (ps := []) fun _ _ _ _ _ _ us hl => match us, hl with | [], _ => rfl
  have A_l_letters : Fn K mg "_law_letters" s_l_letters [] := ⟨_, _, F_l_letters, PySem.W.mg_of X G a7, b_l_letters⟩
  have F_l_same := fun_mk (st := s_l_same) l8 c8 k8
  have b_l_same := F_l_same.binds (ps := ["_law_found", "_law_due"]) fun _ _ _ _ _ _ us hl => match us, hl with | [_, _], _ => rfl
  have A_l_same : Fn K mg "_law_same" s_l_same ["_law_found", "_law_due"] := ⟨_, _, F_l_same, PySem.W.mg_of X G a8, b_l_same⟩
  have F_l_odd := fun_mk (st := s_l_odd) l9 c9 k9
  have b_l_odd := F_l_odd.binds (ps := ["_law_bag_here"]) fun _ _ _ _ _ _ us hl => match us, hl with | [_], _ => rfl
  have A_l_odd : Fn K mg "_law_odd" s_l_odd ["_law_bag_here"] := ⟨_, _, F_l_odd, PySem.W.mg_of X G a9, b_l_odd⟩
  have F_l_gcd := fun_mk (st := s_l_gcd) l10 c10 k10
  have b_l_gcd := F_l_gcd.binds (ps := ["_law_a", "_law_b"]) fun _ _ _ _ _ _ us hl => match us, hl with | [_, _], _ => rfl
  have A_l_gcd : Fn K mg "_law_gcd" s_l_gcd ["_law_a", "_law_b"] := ⟨_, _, F_l_gcd, PySem.W.mg_of X G a10, b_l_gcd⟩
  have F_law := fun_mk (st := s_law) l11 c11 k11
  have b_law := F_law.binds (ps := ["_law_script"]) fun _ _ _ _ _ _ us hl => match us, hl with | [_], _ => rfl
  have A_law : Fn K mg "law" s_law ["_law_script"] := ⟨_, _, F_law, PySem.W.mg_of X G a11, b_law⟩
  have B : Blt mg := ⟨PySem.W.mg_none_of X G z_abs, PySem.W.mg_none_of X G z_all, PySem.W.mg_none_of X G z_bool, PySem.W.mg_none_of X G z_int, PySem.W.mg_none_of X G z_isinstance, PySem.W.mg_none_of X G z_len, PySem.W.mg_none_of X G z_list, PySem.W.mg_none_of X G z_range, PySem.W.mg_none_of X G z_str, PySem.W.mg_none_of X G z_tuple, PySem.W.mg_none_of X G z_zip⟩
  have T : Txt K mg r_KEPT_WORDS := ⟨⟨_, PySem.W.mg_of X G m_LETTERS⟩, ⟨_, PySem.W.mg_of X G m_MOST_LETTERS⟩, PySem.W.mg_of X G m_KEPT_WORDS, fun H => .inr ⟨_, _, _, l_KEPT_WORDS, rfl, rfl, (by show 4 ≤ sizeLine; decide), .cons ⟨_, rfl⟩ (.cons ⟨_, rfl⟩ (.cons ⟨_, rfl⟩ (.cons ⟨_, rfl⟩ .nil)))⟩, PySem.W.mg_of X G m_gcd⟩
  have e := hfa.symm.trans (PySem.W.mg_of X G a11)
  cases e
  refine ⟨PySem.W.fnOf "law" "law" (defArgs s_law) (defBody s_law) (defScope s_law) .none kV11 dc11 pm11 an11 cd11 ct11, fun s v => .of_eq rfl, fun base _ _ => ?_⟩
  have G1 := ok_draw (P := l.prog) (w := w) (base := base) A_l_draw B
  have G2 := ok_pick A_l_pick B G1
  have G3 := ok_is_int (P := l.prog) (w := w) (base := base) A_is_int B
  exact ok_law F_law B T (ok_bag A_l_bag B) G1 G2 (ok_letters A_l_letters) (all_same A_l_same B 3) (ok_odd A_l_odd B G2) (ok_gcd A_l_gcd B) G3 (ok_is_name A_is_name B T) (ok_is_share A_is_share B T G3)
end My
open PySem PySem.W PyProof.Rows
set_option maxRecDepth 100000 in
set_option maxHeartbeats 0 in
theorem PySem.Challenge.cw_numbertypes_k02_integers_names_and_share_holds : PySem.Challenge.rw_numbertypes_k02_integers_names_and_share.Holds := by
  w_on; o_law; k_head; (case hw => w_witness2)
  k_fill
  refine L2.walk_of (l := PySem.Challenge.rw_numbertypes_k02_integers_names_and_share) (n := 63) (k := 4) (x := "_law_script") (CX := fun _ => L2.CX0) (sp := fun w => My.spLaw _) rfl (by decide) rfl ⟨rfl, by decide, by decide⟩ (fun w h Y => PySem.W.kIn_of Y) ?F (fun _ _ a ns hl _ hS => ⟨a, ns, rfl, hS, hl, fun _ => rfl⟩) (fun _ _ _ _ _ h => h)
  case F =>
    intro w mg fa h KX G hmg
    refine' My.all_mk KX G hmg ?a1 ?l1 ?c1 ?k1 ?a2 ?l2 ?c2 ?k2 ?a3 ?l3 ?c3 ?k3 ?a4 ?l4 ?c4 ?k4 ?a5 ?l5 ?c5 ?k5 ?a6 ?l6 ?c6 ?k6 ?a7 ?l7 ?c7 ?k7 ?a8 ?l8 ?c8 ?k8 ?a9 ?l9 ?c9 ?k9 ?a10 ?l10 ?c10 ?k10 ?a11 ?l11 ?c11 ?k11 ?z_abs ?z_all ?z_bool ?z_int ?z_isinstance ?z_len ?z_list ?z_range ?z_str ?z_tuple ?z_zip ?m_gcd ?m_LETTERS ?m_KEPT_WORDS ?l_KEPT_WORDS ?m_MOST_LETTERS
    (case a1 => k_is)
    (case l1 => k_is)
    (case c1 => k_is)
    (case k1 => k_is)
    (case a2 => k_is)
    (case l2 => k_is)
    (case c2 => k_is)
    (case k2 => k_is)
    (case a3 => k_is)
    (case l3 => k_is)
    (case c3 => k_is)
    (case k3 => k_is)
    (case a4 => k_is)
    (case l4 => k_is)
    (case c4 => k_is)
    (case k4 => k_is)
    (case a5 => k_is)
    (case l5 => k_is)
    (case c5 => k_is)
    (case k5 => k_is)
    (case a6 => k_is)
    (case l6 => k_is)
    (case c6 => k_is)
    (case k6 => k_is)
    (case a7 => k_is)
    (case l7 => k_is)
    (case c7 => k_is)
    (case k7 => k_is)
    (case a8 => k_is)
    (case l8 => k_is)
    (case c8 => k_is)
    (case k8 => k_is)
    (case a9 => k_is)
    (case l9 => k_is)
    (case c9 => k_is)
    (case k9 => k_is)
    (case a10 => k_is)
    (case l10 => k_is)
    (case c10 => k_is)
    (case k10 => k_is)
    (case a11 => k_is)
    (case l11 => k_is)
    (case c11 => k_is)
    (case k11 => k_is)
    (case z_abs => k_is)
    (case z_all => k_is)
    (case z_bool => k_is)
    (case z_int => k_is)
    (case z_isinstance => k_is)
    (case z_len => k_is)
    (case z_list => k_is)
    (case z_range => k_is)
    (case z_str => k_is)
    (case z_tuple => k_is)
    (case z_zip => k_is)
    (case m_gcd => k_is)
    (case m_LETTERS => k_is)
    (case m_KEPT_WORDS => k_is)
    (case l_KEPT_WORDS => k_is)
    (case m_MOST_LETTERS => k_is)
