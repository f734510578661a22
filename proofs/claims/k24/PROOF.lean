import PyProof.Rows.All
import Wide.All
import OpenK.AllK
import Wide.FinOn
import HandS.ForMost
import HandS.IsInst
import HandS.Wide
import HandS.EndBits
import HandS.TupAny
import HandS.TupMul
import HandS.Strs
import HandS.Codes
import HandS.More
import HandS.StrMore
import HandS.Comp
import KE.GoesMore
import PySem.Challenge.RW_foretask_k24_exceptions_find_their_guard
set_option Elab.async false
set_option maxRecDepth 100000
set_option maxHeartbeats 4000000
namespace My
open PySem L2
/-! ### the text by places -/
def top (i : Nat) : Stmt := PySem.Challenge.pw_foretask_k24_exceptions_find_their_guard.main.body.getD i (.Pass ⟨0, 0, 0, 0⟩)
abbrev s_leave : Stmt := top 2
abbrev N_leave : List Str := ["control", "what", "fitting", "cuts", "at", "entry"]
abbrev P_leave : List Str := ["control", "what"]
theorem sc_leave : FnScope ["control", "what", "fitting", "cuts", "at", "entry"] ["control", "what"] (defScope s_leave) := ⟨rfl, rfl, rfl, by decide +kernel, rfl, by decide +kernel, by decide +kernel⟩
abbrev s_passing : Stmt := top 3
abbrev N_passing : List Str := ["cuts", "after"]
abbrev P_passing : List Str := ["cuts", "after"]
theorem sc_passing : FnScope ["cuts", "after"] ["cuts", "after"] (defScope s_passing) := ⟨rfl, rfl, rfl, by decide +kernel, rfl, by decide +kernel, by decide +kernel⟩
abbrev s_thrown : Stmt := top 4
abbrev N_thrown : List Str := ["local", "value", "_", "top", "control", "cuts", "entry", "rest", "address", "frame"]
abbrev P_thrown : List Str := ["local", "value"]
theorem sc_thrown : FnScope ["local", "value", "_", "top", "control", "cuts", "entry", "rest", "address", "frame"] ["local", "value"] (defScope s_thrown) := ⟨rfl, rfl, rfl, by decide +kernel, rfl, by decide +kernel, by decide +kernel⟩
abbrev s__law_cell : Stmt := top 6
abbrev N__law_cell : List Str := ["script", "k"]
abbrev P__law_cell : List Str := ["script", "k"]
theorem sc__law_cell : FnScope ["script", "k"] ["script", "k"] (defScope s__law_cell) := ⟨rfl, rfl, rfl, by decide +kernel, rfl, by decide +kernel, by decide +kernel⟩
abbrev s__law_digits : Stmt := top 7
abbrev N__law_digits : List Str := ["script", "first", "last", "digits", "k", "cell", "turn", "seed"]
abbrev P__law_digits : List Str := ["script", "first", "last"]
theorem sc__law_digits : FnScope ["script", "first", "last", "digits", "k", "cell", "turn", "seed"] ["script", "first", "last"] (defScope s__law_digits) := ⟨rfl, rfl, rfl, by decide +kernel, rfl, by decide +kernel, by decide +kernel⟩
abbrev s__law_draw : Stmt := top 8
abbrev N__law_draw : List Str := ["box", "many", "at"]
abbrev P__law_draw : List Str := ["box", "many"]
theorem sc__law_draw : FnScope ["box", "many", "at"] ["box", "many"] (defScope s__law_draw) := ⟨rfl, rfl, rfl, by decide +kernel, rfl, by decide +kernel, by decide +kernel⟩
abbrev s__law_same : Stmt := top 9
abbrev N__law_same : List Str := ["actual", "expected", "k"]
abbrev P__law_same : List Str := ["actual", "expected"]
theorem sc__law_same : FnScope ["actual", "expected", "k"] ["actual", "expected"] (defScope s__law_same) := ⟨rfl, rfl, rfl, by decide +kernel, rfl, by decide +kernel, by decide +kernel⟩
abbrev s__law_number : Stmt := top 10
abbrev N__law_number : List Str := ["box", "kind", "size"]
abbrev P__law_number : List Str := ["box"]
theorem sc__law_number : FnScope ["box", "kind", "size"] ["box"] (defScope s__law_number) := ⟨rfl, rfl, rfl, by decide +kernel, rfl, by decide +kernel, by decide +kernel⟩
abbrev s__law_text : Stmt := top 11
abbrev N__law_text : List Str := ["box", "most", "signs", "text", "k"]
abbrev P__law_text : List Str := ["box", "most"]
theorem sc__law_text : FnScope ["box", "most", "signs", "text", "k"] ["box", "most"] (defScope s__law_text) := ⟨rfl, rfl, rfl, by decide +kernel, rfl, by decide +kernel, by decide +kernel⟩
abbrev s__law_value : Stmt := top 12
abbrev N__law_value : List Str := ["box", "kind", "task", "k"]
abbrev P__law_value : List Str := ["box"]
theorem sc__law_value : FnScope ["box", "kind", "task", "k"] ["box"] (defScope s__law_value) := ⟨rfl, rfl, rfl, by decide +kernel, rfl, by decide +kernel, by decide +kernel⟩
abbrev s__law_object : Stmt := top 13
abbrev N__law_object : List Str := ["box", "task", "k"]
abbrev P__law_object : List Str := ["box"]
theorem sc__law_object : FnScope ["box", "task", "k"] ["box"] (defScope s__law_object) := ⟨rfl, rfl, rfl, by decide +kernel, rfl, by decide +kernel, by decide +kernel⟩
abbrev s__law_entry : Stmt := top 14
abbrev N__law_entry : List Str := ["box", "kind"]
abbrev P__law_entry : List Str := ["box"]
theorem sc__law_entry : FnScope ["box", "kind"] ["box"] (defScope s__law_entry) := ⟨rfl, rfl, rfl, by decide +kernel, rfl, by decide +kernel, by decide +kernel⟩
abbrev s__law_control : Stmt := top 15
abbrev N__law_control : List Str := ["box", "control", "size", "k"]
abbrev P__law_control : List Str := ["box"]
theorem sc__law_control : FnScope ["box", "control", "size", "k"] ["box"] (defScope s__law_control) := ⟨rfl, rfl, rfl, by decide +kernel, rfl, by decide +kernel, by decide +kernel⟩
abbrev s__law_local : Stmt := top 16
abbrev N__law_local : List Str := ["box", "address", "operands", "k"]
abbrev P__law_local : List Str := ["box", "address", "operands"]
theorem sc__law_local : FnScope ["box", "address", "operands", "k"] ["box", "address", "operands"] (defScope s__law_local) := ⟨rfl, rfl, rfl, by decide +kernel, rfl, by decide +kernel, by decide +kernel⟩
abbrev s__law_leave : Stmt := top 17
abbrev N__law_leave : List Str := ["control", "kinds", "cuts", "k"]
abbrev P__law_leave : List Str := ["control", "kinds"]
theorem sc__law_leave : FnScope ["control", "kinds", "cuts", "k"] ["control", "kinds"] (defScope s__law_leave) := ⟨rfl, rfl, rfl, by decide +kernel, rfl, by decide +kernel, by decide +kernel⟩
abbrev s__law_after : Stmt := top 18
abbrev N__law_after : List Str := ["cuts", "after"]
abbrev P__law_after : List Str := ["cuts", "after"]
theorem sc__law_after : FnScope ["cuts", "after"] ["cuts", "after"] (defScope s__law_after) := ⟨rfl, rfl, rfl, by decide +kernel, rfl, by decide +kernel, by decide +kernel⟩
abbrev s__law_thrown : Stmt := top 19
abbrev N__law_thrown : List Str := ["local", "value", "found"]
abbrev P__law_thrown : List Str := ["local", "value"]
theorem sc__law_thrown : FnScope ["local", "value", "found"] ["local", "value"] (defScope s__law_thrown) := ⟨rfl, rfl, rfl, by decide +kernel, rfl, by decide +kernel, by decide +kernel⟩
abbrev s_law : Stmt := top 21
abbrev N_law : List Str := ["script", "box", "k", "local", "value", "kept"]
abbrev P_law : List Str := ["script"]
theorem sc_law : FnScope ["script", "box", "k", "local", "value", "kept"] ["script"] (defScope s_law) := ⟨rfl, rfl, rfl, by decide +kernel, rfl, by decide +kernel, by decide +kernel⟩
structure Df (K : PySem.W.Frag) (mg : Str → Option Value) (x : Str) (st : Stmt) (ps : List Str) where
  f : Addr
  fd : FuncData
  F : Fun K x x st f fd
  b : Binds K fd ps []
  m : mg x = some (.ref f)
structure Mf (K : PySem.W.Frag) (C : Addr) (x qual : Str) (st : Stmt) (ps : List Str) where
  f : Addr
  fd : FuncData
  F : Fun K x qual st f fd
  b : Binds K fd ps []
  mt : Meth K C x f
structure Nf (K : PySem.W.Frag) (x qual : Str) (st : Stmt) (ps : List Str) where
  f : Addr
  fd : FuncData
  F : Fun K x qual st f fd
  b : Binds K fd ps []
def KTup (K : PySem.W.Frag) (a : Addr) (xs : List Str) : Prop := ∃ (o : Obj) (its : Array Value) (n : Nat), K.lookup a = some o ∧ o.cls = .type "tuple" ∧ o.data = .seq its n ∧ its.size ≤ sizeLine ∧ Vals (xs.map V.str) its.toList
theorem relS (x : Str) (t : Tok) : RelV (.str x) (.str x t) := ⟨t, rfl⟩
def KeysAre : List DictEntry → List Str → Prop
  | [], [] => True
  | e :: r, k :: ks => (∃ t, e.key = .str k t) ∧ KeysAre r ks
  | _, _ => False
structure Tx (K : PySem.W.Frag) (mg : Str → Option Value) (w : World) where
  d_leave : Df K mg "leave" s_leave ["control", "what"]
  d_passing : Df K mg "passing" s_passing ["cuts", "after"]
  d_thrown : Df K mg "thrown" s_thrown ["local", "value"]
  d__law_cell : Df K mg "_law_cell" s__law_cell ["script", "k"]
  d__law_digits : Df K mg "_law_digits" s__law_digits ["script", "first", "last"]
  d__law_draw : Df K mg "_law_draw" s__law_draw ["box", "many"]
  d__law_same : Df K mg "_law_same" s__law_same ["actual", "expected"]
  d__law_number : Df K mg "_law_number" s__law_number ["box"]
  d__law_text : Df K mg "_law_text" s__law_text ["box", "most"]
  d__law_value : Df K mg "_law_value" s__law_value ["box"]
  d__law_object : Df K mg "_law_object" s__law_object ["box"]
  d__law_entry : Df K mg "_law_entry" s__law_entry ["box"]
  d__law_control : Df K mg "_law_control" s__law_control ["box"]
  d__law_local : Df K mg "_law_local" s__law_local ["box", "address", "operands"]
  d__law_leave : Df K mg "_law_leave" s__law_leave ["control", "kinds"]
  d__law_after : Df K mg "_law_after" s__law_after ["cuts", "after"]
  d__law_thrown : Df K mg "_law_thrown" s__law_thrown ["local", "value"]
  d_law : Df K mg "law" s_law ["script"]
  z_len : mg "len" = none
  z_isinstance : mg "isinstance" = none
  z_tuple : mg "tuple" = none
  z_int : mg "int" = none
  z_bool : mg "bool" = none
  z_str : mg "str" = none
  z_range : mg "range" = none
  z_enumerate : mg "enumerate" = none
  a_FITTING : Addr
  c_FITTING : mg "FITTING" = some (.ref a_FITTING)
  es_FITTING : Array DictEntry
  g_FITTING : KeysAre es_FITTING.toList ["call", "loop", "guard"]
  n_FITTING : Nat
  q_FITTING : KDict K w a_FITTING es_FITTING n_FITTING
  k_FITTING_0 : ∃ b, PySem.W.nsIn K a_FITTING "call" = some (some (.ref b)) ∧ ∃ o its n, K.lookup b = some o ∧ o.cls = .type "tuple" ∧ o.data = .seq its n ∧ its.size ≤ sizeLine ∧ Vals [.str "call"] its.toList
  k_FITTING_1 : ∃ b, PySem.W.nsIn K a_FITTING "loop" = some (some (.ref b)) ∧ ∃ o its n, K.lookup b = some o ∧ o.cls = .type "tuple" ∧ o.data = .seq its n ∧ its.size ≤ sizeLine ∧ Vals [.str "loop", .str "count"] its.toList
  k_FITTING_2 : ∃ b, PySem.W.nsIn K a_FITTING "guard" = some (some (.ref b)) ∧ ∃ o its n, K.lookup b = some o ∧ o.cls = .type "tuple" ∧ o.data = .seq its n ∧ its.size ≤ sizeLine ∧ Vals [.str "guard"] its.toList
/-! ### operators -/
section
open PySem.Spec PyProof.Rows
variable {X : Cx}
def CMulX (i j : Int) : Prop := i.natAbs.log2 + j.natAbs.log2 < 134000000
theorem mulX_fits {i j : Int} (h : CMulX i j) : IntMulOk i j := by
  have hb : ∀ x : Int, Builtin.Int.intBits x ≤ x.natAbs.log2 + 1 := by
    intro x
    unfold Builtin.Int.intBits
    split
    · omega
    · omega
  intro hh
  simp only [Bool.and_eq_true, Builtin.Int.intTooBig, decide_eq_true_eq] at hh
  have hl : bitsLine = 134217728 := by decide
  have h1 := hb i
  have h2 := hb j
  unfold CMulX at h
  omega
theorem op_mulX : OpR X (binaryOp .Mult) (rI CMulX fun i j => .int (i * j)) := opI fun _ _ _ _ _ _ _ c q => mul_int q (mulX_fits c)
def CDivG (_ j : Int) : Prop := j ≠ 0 ∧ j.natAbs.log2 < 9000
theorem op_fdivG : OpR X (binaryOp .FloorDiv) (rI CDivG fun i j => .int (i.fdiv j)) := opI fun _ _ _ _ _ _ _ c q => floordiv_int c.1 q (.inl (PyProof.noPylong_of_log2 c.2))
end
theorem two240 : (10000000000000000000000000000000000000000000000000000000000000000000000 : Nat) < 2 ^ 240 := by decide +kernel
theorem log_small {i : Int} (h : i.natAbs < 10000000000000000000000000000000000000000000000000000000000000000000000) : i.natAbs.log2 < 240 :=
  PySem.Flt.log2_lt_of (by decide) (Nat.lt_trans h two240)
theorem mulX_small {i j : Int} (h1 : i.natAbs < 10000000000000000000000000000000000000000000000000000000000000000000000) (h2 : j.natAbs < 10000000000000000000000000000000000000000000000000000000000000000000000) : CMulX i j := by
  have a := log_small h1
  have b := log_small h2
  unfold CMulX
  omega
theorem bits_log {z : Int} (h : Builtin.Int.intBits z ≤ 1048576) : z.natAbs.log2 ≤ 1048576 := by
  unfold Builtin.Int.intBits at h
  split at h
  · rename_i e
    simp_all
  · omega
/-! ### heaps -/
theorem same_new {H : Hp} {p : Addr} (h : H p = none) (o : HO) : Same H (upd H p o) := fun b u q => by rw [upd_ne (ne_of_none q h)]; exact q
/-- all but what stands at p is as it was -/
def Keep (p : Addr) (H H' : Hp) : Prop := ∀ b o, H b = some o → b ≠ p → H' b = some o
theorem Keep.refl {p : Addr} {H : Hp} : Keep p H H := fun _ _ h _ => h
theorem Keep.trans {p : Addr} {H H1 H2 : Hp} (a : Keep p H H1) (b : Keep p H1 H2) : Keep p H H2 := fun c o h n => b c o (a c o h n) n
theorem Keep.of {p : Addr} {H H' : Hp} (h : Same H H') : Keep p H H' := fun b o e _ => h b o e
theorem Keep.upd {p : Addr} {H : Hp} {o : HO} : Keep p H (upd H p o) := fun b u e n => by rw [upd_ne n]; exact e
theorem same_upd {H H2 : Hp} {l : Addr} {o : HO} (s : Same H H2) (h : H l = none) : Same H (upd H2 l o) := fun b u e => by
  rw [upd_ne (ne_of_none e h)]
  exact s b u e
theorem lines {n : Nat} (h : n ≤ 100000) : n < sizeLine := Nat.lt_of_le_of_lt h (by decide)
/-- a list [digits, at] stands at p, its digits at l -/
structure BoxAt (H : Hp) (p l : Addr) : Prop where
  bx : ∃ k : Int, 0 ≤ k ∧ H p = some (.lst [.ref l, .int k])
  dg : ∃ ds : List Int, H l = some (.lst (ds.map V.int))
  ne : l ≠ p
theorem BoxAt.same {H H' : Hp} {p l : Addr} (B : BoxAt H p l) (s : Same H H') : BoxAt H' p l := by
  obtain ⟨⟨k, h0, h1⟩, ⟨ds, h2⟩, n⟩ := B
  exact ⟨⟨k, h0, s _ _ h1⟩, ⟨ds, s _ _ h2⟩, n⟩
/-! ### the promises of the law's helpers -/
def spCell (K : PySem.W.Frag) : Sp := fun vs H Q _ => ∃ (a : Addr) (ns : List Int) (k : Int), vs = [.ref a, .int k] ∧ SqL K H a (ns.map V.int) ∧ 0 ≤ k ∧ ∀ c : Int, (c = 0 ∨ c ∈ ns) → Q (.int c) H
def spDigits (K : PySem.W.Frag) : Sp := fun vs H Q _ => ∃ (a : Addr) (ns : List Int), vs = [.ref a, .int 0, .int 63] ∧ SqL K H a (ns.map V.int) ∧ ns.length ≤ 63 ∧ (∀ z ∈ ns, Builtin.Int.intBits z ≤ 1048576) ∧
  ∀ (l : Addr) (ds : List Int) (H' : Hp), H l = none → H' l = some (.lst (ds.map V.int)) → Same H H' → Q (.ref l) H'
def spDraw : Sp := fun vs H Q _ => ∃ (p l : Addr) (m : Int), vs = [.ref p, .int m] ∧ 0 < m ∧ BoxAt H p l ∧ ∀ (r : Int) (H' : Hp), 0 ≤ r → r < m → BoxAt H' p l → Keep p H H' → Q (.int r) H'
def spLaw (K : PySem.W.Frag) : Sp := fun vs H Q _ => ∃ (a : Addr) (ns : List Int), vs = [.ref a] ∧ SqL K H a (ns.map V.int) ∧ ns.length ≤ 63 ∧ (∀ z ∈ ns, Builtin.Int.intBits z ≤ 1048576) ∧ ∀ H', Q (.bl true) H'
theorem ifT {b : Bool} {A B : Prop} (h : b = true) (a : A) : if b = true then A else B := by
  subst h
  exact iteT a
theorem ifF {b : Bool} {A B : Prop} (h : b = false) (a : B) : if b = true then A else B := by
  subst h
  exact iteF a
section
variable {P : Program} {w : World} {K : PySem.W.Frag} {mg : Str → Option Value} {base : Heap}
theorem ok__law_cell (T : Tx K mg w) : FnOk P w K mg base CX0 1 T.d__law_cell.f T.d__law_cell.fd P__law_cell (spCell K) := by
  refine T.d__law_cell.F.ok sc__law_cell (fun vs H Q E h => ?_) (fun cdv A outer s H vs Q E hr h => ?_)
  · obtain ⟨a, ns, k, rfl, _⟩ := h
    rfl
  obtain ⟨a, ns, k, rfl, hS, h0, q⟩ := h
  refine ⟨_, (pss_cons (ps_if (pt_cmpR op_lt (pv 1) (pe_callB call_len_seq (by rfl) T.z_len PySem.boot_len (pa_cons (pv 0) pa_nil)) (nomark _))
      (pss_one (ps_ret (pe_ix ix_list (pv 0) (pv 1) (fun _ _ => rfl))))
      pss_nil)
    (pss_one (ps_ret pe_int))), ?_⟩
  have hl : (ns.map V.int).length = ns.length := List.length_map _
  refine ⟨_, rfl, _, rfl, a, _, rfl, .inl hS, _, _, rfl, rfl, _, rfl, ?_⟩
  refine ite2 (fun c => ?_) (fun c => ?_)
  · have c' : k < (((ns.map V.int).length : Nat) : Int) := of_decide_eq_true c
    rw [hl] at c'
    have hk : k.toNat < ns.length := by omega
    refine ⟨_, rfl, _, rfl, a, _, _, _, rfl, rfl, hS, at_of (j := k.toNat) (v := V.int ns[k.toNat]) (by omega) (by rw [List.getElem?_map, List.getElem?_eq_getElem hk] <;> rfl), ?_⟩
    exact q _ (Or.inr (List.getElem_mem hk))
  · exact q 0 (Or.inl rfl)
theorem ok__law_draw (T : Tx K mg w) : FnOk P w K mg base CX0 1 T.d__law_draw.f T.d__law_draw.fd P__law_draw spDraw := by
  refine T.d__law_draw.F.ok sc__law_draw (fun vs H Q E h => ?_) (fun cdv A outer s H vs Q E hr h => ?_)
  · obtain ⟨p, l, m, rfl, _⟩ := h
    rfl
  obtain ⟨p, l, m, rfl, hm, ⟨⟨k, k0, hp⟩, ⟨ds, hd⟩, ne⟩, q⟩ := h
  refine ⟨_, (pss_cons (ps_set (i := 2) sc__law_draw.nd rfl (Or.inl rfl) (pe_ix ix_list (pv 0) pe_int (fun _ _ => rfl)))
    (pss_cons (ps_asg (pe_op op_add (pv 2) pe_int) (pg_sub (pv 0) pe_int set_list))
    (pss_cons (ps_if (pt_cmpR op_lt (pv 2) (pe_callB call_len_seq (by rfl) T.z_len PySem.boot_len (pa_cons (pe_ix ix_list (pv 0) pe_int (fun _ _ => rfl)) pa_nil)) (nomark _))
      (pss_one (ps_ret (pe_op op_mod (pe_callTy call_int1 (by rfl) T.z_int (by decide +kernel) (pa_cons (pe_ix ix_list (pe_ix ix_list (pv 0) pe_int (fun _ _ => rfl)) (pv 2) (fun _ _ => rfl)) pa_nil)) (pv 1))))
      pss_nil)
    (pss_one (ps_ret pe_int))))), ?_⟩
  have hl : (ds.map V.int).length = ds.length := List.length_map _
  have B' : BoxAt (upd H p (.lst [.ref l, .int (k + 1)])) p l := ⟨⟨k + 1, by omega, upd_same⟩, ⟨ds, by rw [upd_ne ne]; exact hd⟩, ne⟩
  -- at = box[1]
  refine ⟨_, rfl, p, _, _, _, rfl, rfl, SqL.of hp, at_of (j := 1) rfl rfl, ?_⟩
  -- box[1] = at + 1
  refine ⟨_, rfl, _, _, rfl, rfl, _, rfl, p, _, _, 1, rfl, rfl, hp, rfl, ?_⟩
  have hp' : upd H p (.lst [.ref l, .int (k + 1)]) p = some (.lst [.ref l, .int (k + 1)]) := upd_same
  have hd' : upd H p (.lst [.ref l, .int (k + 1)]) l = some (.lst (ds.map V.int)) := by rw [upd_ne ne]; exact hd
  refine ⟨_, rfl, _, rfl, p, _, _, _, rfl, rfl, SqL.of hp', at_of (j := 0) rfl rfl, l, _, rfl, .inl (SqL.of hd'), _, _, rfl, rfl, _, rfl, ?_⟩
  refine ite2 (fun c => ?_) (fun c => ?_)
  · have c' : k < (((ds.map V.int).length : Nat) : Int) := of_decide_eq_true c
    rw [hl] at c'
    have hk : k.toNat < ds.length := by omega
    refine ⟨_, rfl, p, _, _, _, rfl, rfl, SqL.of hp', at_of (j := 0) rfl rfl, _, rfl, l, _, _, _, rfl, rfl, SqL.of hd', at_of (j := k.toNat) (v := V.int ds[k.toNat]) (by omega) (by rw [List.getElem?_map, List.getElem?_eq_getElem hk] <;> rfl), ?_⟩
    refine .inl ⟨_, rfl, _, rfl, _, _, rfl, rfl, hm, ?_⟩
    exact q _ _ (Int.emod_nonneg _ (by omega)) (Int.emod_lt_of_pos _ hm) B' Keep.upd
  · exact q 0 _ (Int.le_refl 0) hm B' Keep.upd
theorem cell_log {ns : List Int} {c : Int} (hb : ∀ z ∈ ns, Builtin.Int.intBits z ≤ 1048576) (h : c = 0 ∨ c ∈ ns) : c.natAbs.log2 ≤ 1048576 := by
  rcases h with rfl | h
  · decide
  · exact bits_log (hb c h)
theorem map_append1 (ds : List Int) (z : Int) : ds.map V.int ++ [V.int z] = (ds ++ [z]).map V.int := by rw [List.map_append]; rfl
theorem ok__law_digits (T : Tx K mg w) : FnOk P w K mg base CX0 2 T.d__law_digits.f T.d__law_digits.fd P__law_digits (spDigits K) := by
  have G__law_cell := ok__law_cell (P := P) (w := w) (base := base) T
  refine T.d__law_digits.F.ok sc__law_digits (fun vs H Q E h => ?_) (fun cdv A outer s H vs Q E hr h => ?_)
  · obtain ⟨a, ns, rfl, _⟩ := h
    rfl
  obtain ⟨a, ns, rfl, hS, h63, hb, q⟩ := h
  refine ⟨_, (pss_cons (ps_set (i := 3) sc__law_digits.nd rfl (Or.inl rfl) (pe_lst pa_nil))
    (pss_cons (ps_for PassesOwn.never rfl (pi_range2 (by rfl) T.z_range (pa_cons (pv 1) (pa_cons (pv 2) pa_nil))) (pg_name (i := 4) sc__law_digits.nd rfl (Or.inl rfl))
      (pss_cons (ps_set (i := 5) sc__law_digits.nd rfl (Or.inl rfl) (pe_call G__law_cell (hr.mono (by omega)) (by rfl) T.d__law_cell.m T.d__law_cell.F.kp T.d__law_cell.b .nil pass0 (pa_cons (pv 0) (pa_cons (pv 4) pa_nil))))
    (pss_cons (ps_if (pt_cmpR op_lt (pv 5) pe_int (nomark _))
      (pss_one (ps_set (i := 5) sc__law_digits.nd rfl (Or.inl rfl) (pe_op op_sub pe_int (pe_op op_mulX pe_int (pv 5)))))
      pss_nil)
    (pss_one (ps_if (pt_cmpR op_ge (pv 5) (pe_op op_pow pe_int pe_int) (nomark _))
      (pss_one (ps_for PassesOwn.never rfl (pi_range1 (by rfl) T.z_range (pa_cons pe_int pa_nil)) (pg_name (i := 6) sc__law_digits.nd rfl (Or.inl rfl))
      (pss_one (ps_if (pt_cmpR op_gt (pv 5) pe_int (nomark _))
      (pss_cons (ps_expr (pe_bm PySem.F.plainAttrs_list PySem.F.slot_list_append PySem.F.type_list_append mt_append (pv 3) (pa_cons (pe_op op_mod (pe_callTy call_int1 (by rfl) T.z_int (by decide +kernel) (pa_cons (pv 5) pa_nil)) pe_int) pa_nil)))
    (pss_one (ps_set (i := 5) sc__law_digits.nd rfl (Or.inl rfl) (pe_op op_fdiv (pv 5) pe_int))))
      pss_nil))))
      (pss_cons (ps_set (i := 7) sc__law_digits.nd rfl (Or.inl rfl) (pe_op op_mod (pe_callTy call_int1 (by rfl) T.z_int (by decide +kernel) (pa_cons (pe_op op_add (pe_op op_add (pe_op op_mulX (pv 5) pe_int) (pe_op op_mulX (pv 4) pe_int)) pe_int) pa_nil)) pe_int))
    (pss_one (ps_for PassesOwn.never rfl (pi_range1 (by rfl) T.z_range (pa_cons pe_int pa_nil)) (pg_name (i := 6) sc__law_digits.nd rfl (Or.inl rfl))
      (pss_cons (ps_set (i := 7) sc__law_digits.nd rfl (Or.inl rfl) (pe_op op_mod (pe_callTy call_int1 (by rfl) T.z_int (by decide +kernel) (pa_cons (pe_op op_add (pe_op op_add (pe_op op_mulX (pv 7) pe_int) (pe_op op_mulX pe_int (pv 6))) pe_int) pa_nil)) pe_int))
    (pss_one (ps_expr (pe_bm PySem.F.plainAttrs_list PySem.F.slot_list_append PySem.F.type_list_append mt_append (pv 3) (pa_cons (pe_op op_mod (pe_callTy call_int1 (by rfl) T.z_int (by decide +kernel) (pa_cons (pe_op op_fdiv (pv 7) pe_int) pa_nil)) pe_int) pa_nil)))))))))))))
    (pss_one (ps_ret (pv 3))))), ?_⟩
  refine ⟨(by show 0 ≤ sizeLine; decide), fun l hl => ?_⟩
  have s0 := same_new hl (.lst [])
  refine ⟨_, rfl, _, rfl, _, _, rfl, by decide, for_range (lo := 0) (n := 63) (fun i σ H1 => ∃ (ds : List Int) (v4 v5 v6 v7 : Option V), σ = [some (.ref a), some (.int 0), some (.int 63), some (.ref l), v4, v5, v6, v7] ∧ Same H H1 ∧ H1 l = some (.lst (ds.map V.int)) ∧ ds.length ≤ 60 * i)
    ⟨[], none, none, none, none, rfl, s0, upd_same, Nat.le_refl 0⟩ ?_ ?_⟩
  · rintro i σ H1 hi ⟨ds, v4, v5, v6, v7, rfl, s1, h1, hn⟩
    -- cell = _law_cell(script, k)
    refine ⟨_, rfl, _, rfl, a, ns, _, rfl, s1.seq hS, by omega, fun c hc => ?_⟩
    have hlog := cell_log hb hc
    refine ⟨_, rfl, _, _, rfl, rfl, _, rfl, ?_⟩
    have e2 : (2 : Int).natAbs.log2 = 1 := by decide
    refine ite2 (fun e0 => ?g1) (fun e0 => ?g2)
    case g1 =>
      have e0' : c < 0 := of_decide_eq_true e0
      refine ⟨_, rfl, _, _, rfl, rfl, (by unfold CMulX; omega), _, _, rfl, rfl, ?_⟩
      have hc0 : 0 ≤ 1 - 2 * c := by omega
      dsimp only
      generalize (1 - 2 * c : Int) = c2 at hc0 ⊢
      refine ⟨_, rfl, _, _, rfl, rfl, ⟨by decide, by decide, by decide⟩, _, _, rfl, rfl, _, rfl, ?_⟩
      refine ite2 (fun e1 => ?_) (fun e1 => ?_)
      · refine ⟨60, rfl, by decide, by decide, for_range (lo := 0) (n := 60) (fun j σ H2 => ∃ (ds : List Int) (c3 : Int) (v4 v6 v7 : Option V), σ = [some (.ref a), some (.int 0), some (.int 63), some (.ref l), v4, some (.int c3), v6, v7] ∧ Same H H2 ∧ H2 l = some (.lst (ds.map V.int)) ∧ ds.length ≤ 60 * i + j)
          ⟨ds, c2, _, _, _, rfl, s1, h1, hn⟩ ?_ ?_⟩
        · rintro j σ H2 hj ⟨ds, c3, v4, v6, v7, rfl, s2, h2, hn⟩
          refine ⟨_, rfl, _, _, rfl, rfl, _, rfl, ?_⟩
          refine ite2 (fun e3 => ?_) (fun e3 => ?_)
          · refine ⟨_, rfl, .inl ⟨rfl, _, SqL.of h2⟩, _, rfl, .inl ⟨_, rfl, _, _, rfl, rfl, (by show (0 : Int) < 1000; decide), l, _, _, rfl, rfl, h2, (by rw [List.length_map]; exact lines (by omega)), ?_⟩⟩
            refine ⟨_, rfl, _, _, rfl, rfl, ⟨by decide, by decide⟩, ?_⟩
            exact ⟨ds ++ [c3 % 1000], _, _, _, _, rfl, same_upd s2 hl, by rw [upd_same, map_append1], by rw [List.length_append, List.length_singleton]; omega⟩
          · exact ⟨ds, c3, _, _, _, rfl, s2, h2, by omega⟩
        · rintro σ H2 ⟨ds, c3, v4, v6, v7, rfl, s2, h2, hn⟩
          exact ⟨ds, _, _, _, _, rfl, s2, h2, by omega⟩
      · have e1' : ¬ (10 : Int) ^ (18 : Int).toNat ≤ c2 := of_decide_eq_false (Bool.eq_false_iff.mpr e1)
        have e18 : (10 : Int) ^ (18 : Int).toNat = 1000000000000000000 := by decide
        rw [e18] at e1'
        refine ⟨_, rfl, _, _, rfl, rfl, mulX_small (by omega) (by decide), _, rfl, _, _, rfl, rfl, mulX_small (by omega) (by decide), _, _, rfl, rfl, _, _, rfl, rfl, .inl ⟨_, rfl, _, _, rfl, rfl, (by show (0 : Int) < 2147483647; decide), ?_⟩⟩
        refine ⟨12, rfl, by decide, by decide, for_range (lo := 0) (n := 12) (fun j σ H2 => ∃ (ds : List Int) (z : Int) (v4 v5 v6 : Option V), σ = [some (.ref a), some (.int 0), some (.int 63), some (.ref l), v4, v5, v6, some (.int z)] ∧ Same H H2 ∧ H2 l = some (.lst (ds.map V.int)) ∧ ds.length ≤ 60 * i + j ∧ 0 ≤ z ∧ z < 2147483647)
          ⟨ds, _, _, _, _, rfl, s1, h1, hn, Int.emod_nonneg _ (by decide), Int.emod_lt_of_pos _ (by decide)⟩ ?_ ?_⟩
        · rintro j σ H2 hj ⟨ds, z, v4, v5, v6, rfl, s2, h2, hn, hz0, hz1⟩
          refine ⟨_, rfl, _, _, rfl, rfl, mulX_small (by omega) (by decide), _, rfl, _, _, rfl, rfl, mulX_small (by decide) (by omega), _, _, rfl, rfl, _, _, rfl, rfl, .inl ⟨_, rfl, _, _, rfl, rfl, (by show (0 : Int) < 2147483647; decide), ?_⟩⟩
          refine ⟨_, rfl, .inl ⟨rfl, _, SqL.of h2⟩, _, rfl, _, _, rfl, rfl, ⟨by decide, by decide⟩, .inl ⟨_, rfl, _, _, rfl, rfl, (by show (0 : Int) < 1000; decide), l, _, _, rfl, rfl, h2, (by rw [List.length_map]; exact lines (by omega)), ?_⟩⟩
          exact ⟨ds ++ [_], _, _, _, _, rfl, same_upd s2 hl, by rw [upd_same, map_append1], by rw [List.length_append, List.length_singleton]; omega, Int.emod_nonneg _ (by decide), Int.emod_lt_of_pos _ (by decide)⟩
        · rintro σ H2 ⟨ds, z, v4, v5, v6, rfl, s2, h2, hn, hz0, hz1⟩
          exact ⟨ds, _, _, _, _, rfl, s2, h2, by omega⟩
    case g2 =>
      have hc0 : 0 ≤ c := by
        have e0' : ¬ c < 0 := of_decide_eq_false (Bool.eq_false_iff.mpr e0)
        omega
      obtain ⟨c2, rfl⟩ : ∃ c2, c2 = c := ⟨c, rfl⟩
      refine ⟨_, rfl, _, _, rfl, rfl, ⟨by decide, by decide, by decide⟩, _, _, rfl, rfl, _, rfl, ?_⟩
      refine ite2 (fun e1 => ?_) (fun e1 => ?_)
      · refine ⟨60, rfl, by decide, by decide, for_range (lo := 0) (n := 60) (fun j σ H2 => ∃ (ds : List Int) (c3 : Int) (v4 v6 v7 : Option V), σ = [some (.ref a), some (.int 0), some (.int 63), some (.ref l), v4, some (.int c3), v6, v7] ∧ Same H H2 ∧ H2 l = some (.lst (ds.map V.int)) ∧ ds.length ≤ 60 * i + j)
          ⟨ds, c2, _, _, _, rfl, s1, h1, hn⟩ ?_ ?_⟩
        · rintro j σ H2 hj ⟨ds, c3, v4, v6, v7, rfl, s2, h2, hn⟩
          refine ⟨_, rfl, _, _, rfl, rfl, _, rfl, ?_⟩
          refine ite2 (fun e3 => ?_) (fun e3 => ?_)
          · refine ⟨_, rfl, .inl ⟨rfl, _, SqL.of h2⟩, _, rfl, .inl ⟨_, rfl, _, _, rfl, rfl, (by show (0 : Int) < 1000; decide), l, _, _, rfl, rfl, h2, (by rw [List.length_map]; exact lines (by omega)), ?_⟩⟩
            refine ⟨_, rfl, _, _, rfl, rfl, ⟨by decide, by decide⟩, ?_⟩
            exact ⟨ds ++ [c3 % 1000], _, _, _, _, rfl, same_upd s2 hl, by rw [upd_same, map_append1], by rw [List.length_append, List.length_singleton]; omega⟩
          · exact ⟨ds, c3, _, _, _, rfl, s2, h2, by omega⟩
        · rintro σ H2 ⟨ds, c3, v4, v6, v7, rfl, s2, h2, hn⟩
          exact ⟨ds, _, _, _, _, rfl, s2, h2, by omega⟩
      · have e1' : ¬ (10 : Int) ^ (18 : Int).toNat ≤ c2 := of_decide_eq_false (Bool.eq_false_iff.mpr e1)
        have e18 : (10 : Int) ^ (18 : Int).toNat = 1000000000000000000 := by decide
        rw [e18] at e1'
        refine ⟨_, rfl, _, _, rfl, rfl, mulX_small (by omega) (by decide), _, rfl, _, _, rfl, rfl, mulX_small (by omega) (by decide), _, _, rfl, rfl, _, _, rfl, rfl, .inl ⟨_, rfl, _, _, rfl, rfl, (by show (0 : Int) < 2147483647; decide), ?_⟩⟩
        refine ⟨12, rfl, by decide, by decide, for_range (lo := 0) (n := 12) (fun j σ H2 => ∃ (ds : List Int) (z : Int) (v4 v5 v6 : Option V), σ = [some (.ref a), some (.int 0), some (.int 63), some (.ref l), v4, v5, v6, some (.int z)] ∧ Same H H2 ∧ H2 l = some (.lst (ds.map V.int)) ∧ ds.length ≤ 60 * i + j ∧ 0 ≤ z ∧ z < 2147483647)
          ⟨ds, _, _, _, _, rfl, s1, h1, hn, Int.emod_nonneg _ (by decide), Int.emod_lt_of_pos _ (by decide)⟩ ?_ ?_⟩
        · rintro j σ H2 hj ⟨ds, z, v4, v5, v6, rfl, s2, h2, hn, hz0, hz1⟩
          refine ⟨_, rfl, _, _, rfl, rfl, mulX_small (by omega) (by decide), _, rfl, _, _, rfl, rfl, mulX_small (by decide) (by omega), _, _, rfl, rfl, _, _, rfl, rfl, .inl ⟨_, rfl, _, _, rfl, rfl, (by show (0 : Int) < 2147483647; decide), ?_⟩⟩
          refine ⟨_, rfl, .inl ⟨rfl, _, SqL.of h2⟩, _, rfl, _, _, rfl, rfl, ⟨by decide, by decide⟩, .inl ⟨_, rfl, _, _, rfl, rfl, (by show (0 : Int) < 1000; decide), l, _, _, rfl, rfl, h2, (by rw [List.length_map]; exact lines (by omega)), ?_⟩⟩
          exact ⟨ds ++ [_], _, _, _, _, rfl, same_upd s2 hl, by rw [upd_same, map_append1], by rw [List.length_append, List.length_singleton]; omega, Int.emod_nonneg _ (by decide), Int.emod_lt_of_pos _ (by decide)⟩
        · rintro σ H2 ⟨ds, z, v4, v5, v6, rfl, s2, h2, hn, hz0, hz1⟩
          exact ⟨ds, _, _, _, _, rfl, s2, h2, by omega⟩
  · rintro σ H1 ⟨ds, v4, v5, v6, v7, rfl, s1, h1, hn⟩
    exact ⟨_, rfl, q l ds H1 hl h1 s1⟩
/-! ### a drawn number -/
theorem e60 : (10 : Int) ^ (60 : Int).toNat = 1000000000000000000000000000000000000000000000000000000000000 := by decide +kernel
theorem e27 : (10 : Int) ^ (27 : Int).toNat = 1000000000000000000000000000 := by decide +kernel
theorem e28 : (10 : Int) ^ (28 : Int).toNat = 10000000000000000000000000000 := by decide +kernel
theorem e12 : (10 : Int) ^ (12 : Int).toNat = 1000000000000 := by decide +kernel
theorem powC {j : Int} (h0 : 0 ≤ j) (h : j ≤ 1000000) : CPow 10 j := ⟨h0, h, by decide⟩
def spNumber : Sp := fun vs H Q _ => ∃ (p l : Addr), vs = [.ref p] ∧ BoxAt H p l ∧ ∀ (z : Int) (H' : Hp), z.natAbs < 1000000000000000000000000000000000000000000000000000000000000 → BoxAt H' p l → Keep p H H' → Q (.int z) H'
theorem dec_eq_int {i j : Int} (h : decide (V.int i = V.int j) = true) : i = j := V.int.inj (of_decide_eq_true h)
theorem ok__law_number (T : Tx K mg w) : FnOk P w K mg base CX0 2 T.d__law_number.f T.d__law_number.fd P__law_number spNumber := by
  have G__law_draw := ok__law_draw (P := P) (w := w) (base := base) T
  refine T.d__law_number.F.ok sc__law_number (fun vs H Q E h => ?_) (fun cdv A outer s H vs Q E hr h => ?_)
  · obtain ⟨p, l, rfl, _⟩ := h
    rfl
  obtain ⟨p, l, rfl, B, q⟩ := h
  refine ⟨_, (pss_cons (ps_set (i := 1) sc__law_number.nd rfl (Or.inl rfl) (pe_call G__law_draw (hr.mono (by omega)) (by rfl) T.d__law_draw.m T.d__law_draw.F.kp T.d__law_draw.b .nil pass0 (pa_cons (pv 0) (pa_cons pe_int pa_nil))))
    (pss_cons (ps_set (i := 2) sc__law_number.nd rfl (Or.inl rfl) (pe_call G__law_draw (hr.mono (by omega)) (by rfl) T.d__law_draw.m T.d__law_draw.F.kp T.d__law_draw.b .nil pass0 (pa_cons (pv 0) (pa_cons pe_int pa_nil))))
    (pss_cons (ps_if (pt_cmpR op_eq (pv 1) pe_int (nomark _))
      (pss_one (ps_ret (pe_op op_sub (pe_op op_sub (pe_op op_pow pe_int pe_int) pe_int) (pe_op op_mod (pv 2) pe_int))))
      pss_nil)
    (pss_cons (ps_if (pt_cmpR op_eq (pv 1) pe_int (nomark _))
      (pss_one (ps_ret (pe_op op_sub (pe_op op_add (pe_op op_mod (pv 2) pe_int) pe_int) (pe_op op_pow pe_int pe_int))))
      pss_nil)
    (pss_cons (ps_if (pt_cmpR op_eq (pv 1) pe_int (nomark _))
      (pss_one (ps_ret (pe_op op_add (pe_op op_add (pe_op op_mulX (pv 2) (pe_op op_pow pe_int pe_int)) (pe_op op_mulX (pe_call G__law_draw (hr.mono (by omega)) (by rfl) T.d__law_draw.m T.d__law_draw.F.kp T.d__law_draw.b .nil pass0 (pa_cons (pv 0) (pa_cons pe_int pa_nil))) (pe_op op_pow pe_int pe_int))) (pe_call G__law_draw (hr.mono (by omega)) (by rfl) T.d__law_draw.m T.d__law_draw.F.kp T.d__law_draw.b .nil pass0 (pa_cons (pv 0) (pa_cons pe_int pa_nil))))))
      pss_nil)
    (pss_cons (ps_if (pt_cmpR op_eq (pv 1) pe_int (nomark _))
      (pss_one (ps_ret (pe_op op_sub (pe_op op_sub pe_int (pe_op op_mulX (pv 2) (pe_op op_pow pe_int pe_int))) (pe_call G__law_draw (hr.mono (by omega)) (by rfl) T.d__law_draw.m T.d__law_draw.F.kp T.d__law_draw.b .nil pass0 (pa_cons (pv 0) (pa_cons pe_int pa_nil))))))
      pss_nil)
    (pss_cons (ps_if (pt_cmpR op_eq (pv 1) pe_int (nomark _))
      (pss_one (ps_ret (pe_op op_sub pe_int (pv 2))))
      pss_nil)
    (pss_cons (ps_if (pt_cmpR op_eq (pv 1) pe_int (nomark _))
      (pss_one (ps_ret (pe_op op_mod (pv 2) pe_int)))
      pss_nil)
    (pss_one (ps_ret (pv 2))))))))))), ?_⟩
  refine ⟨_, rfl, p, l, _, rfl, by decide, B, fun kd H1 a0 a1 B1 k1 => ?_⟩
  refine ⟨_, rfl, p, l, _, rfl, by decide, B1, fun sz H2 b0 b1 B2 k2 => ?_⟩
  have k12 := k1.trans k2
  refine ⟨_, rfl, rfl, _, rfl, ite2 (fun _ => ?_) (fun _ => ?_)⟩
  · refine ⟨_, _, rfl, rfl, powC (by decide) (by decide), _, _, rfl, rfl, _, rfl, _, _, rfl, rfl, (by show (0 : Int) < 3; decide), _, _, rfl, rfl, ?_⟩
    exact q _ _ (by rw [e60]; omega) B2 k12
  refine ⟨_, rfl, rfl, _, rfl, ite2 (fun _ => ?_) (fun _ => ?_)⟩
  · refine ⟨_, rfl, _, _, rfl, rfl, (by show (0 : Int) < 3; decide), _, _, rfl, rfl, _, _, rfl, rfl, powC (by decide) (by decide), _, _, rfl, rfl, ?_⟩
    exact q _ _ (by rw [e60]; omega) B2 k12
  refine ⟨_, rfl, rfl, _, rfl, ite2 (fun _ => ?_) (fun _ => ?_)⟩
  · refine ⟨_, rfl, _, _, rfl, rfl, powC (by decide) (by decide), _, _, rfl, rfl, mulX_small (by omega) (by rw [e27]; decide), ?_⟩
    refine ⟨_, rfl, p, l, _, rfl, by decide, B2, fun c1 H3 c0 c2 B3 k3 => ?_⟩
    refine ⟨_, _, rfl, rfl, powC (by decide) (by decide), _, _, rfl, rfl, mulX_small (by omega) (by rw [e12]; decide), _, _, rfl, rfl, ?_⟩
    refine ⟨_, rfl, p, l, _, rfl, by decide, B3, fun c3 H4 c4 c5 B4 k4 => ?_⟩
    refine ⟨_, _, rfl, rfl, ?_⟩
    exact q _ _ (by rw [e27, e12]; omega) B4 ((k12.trans k3).trans k4)
  refine ⟨_, rfl, rfl, _, rfl, ite2 (fun _ => ?_) (fun _ => ?_)⟩
  · refine ⟨_, rfl, _, _, rfl, rfl, powC (by decide) (by decide), _, _, rfl, rfl, mulX_small (by omega) (by rw [e28]; decide), _, _, rfl, rfl, ?_⟩
    refine ⟨_, rfl, p, l, _, rfl, by decide, B2, fun c1 H3 c0 c2 B3 k3 => ?_⟩
    refine ⟨_, _, rfl, rfl, ?_⟩
    exact q _ _ (by rw [e28]; omega) B3 (k12.trans k3)
  refine ⟨_, rfl, rfl, _, rfl, ite2 (fun _ => ?_) (fun _ => ?_)⟩
  · refine ⟨_, rfl, _, _, rfl, rfl, ?_⟩
    exact q _ _ (by omega) B2 k12
  refine ⟨_, rfl, rfl, _, rfl, ite2 (fun _ => ?_) (fun _ => ?_)⟩
  · refine ⟨_, rfl, _, _, rfl, rfl, (by show (0 : Int) < 3; decide), ?_⟩
    exact q _ _ (by omega) B2 k12
  refine ⟨_, rfl, ?_⟩
  exact q _ _ (by omega) B2 k12
/-! ### the values of programs, as data -/
mutual
theorem dp_same {K : PySem.W.Frag} {H H' : Hp} (s : Same H H') : ∀ {v : V} {d : PyData}, Dp K H v d → Dp K H' v d
  | _, _, .non => .non
  | _, _, .bl b => .bl b
  | _, _, .int i => .int i
  | _, _, .str x => .str x
  | _, _, .lst h a => .lst (s.seq h) (dp_sames s a)
  | _, _, .tup h a => .tup (by
      rcases h with (h | ⟨o, h⟩) | h
      · exact .inl (.inl (s _ _ h))
      · exact .inl (.inr ⟨o, s _ _ h⟩)
      · exact .inr h) (dp_sames s a)
theorem dp_sames {K : PySem.W.Frag} {H H' : Hp} (s : Same H H') : ∀ {vs : List V} {ds : List PyData}, DpAll K H vs ds → DpAll K H' vs ds
  | _, _, .nil => .nil
  | _, _, .cons a b => .cons (dp_same s a) (dp_sames s b)
end
inductive Vl where
  | non
  | bl (b : Bool)
  | int (n : Int)
  | txt (s : Str)
  | obj (t : PyData) (n : Int)
def Vl.kind : Vl → Str
  | .non => "none"
  | .bl _ => "bool"
  | .int _ => "int"
  | .txt _ => "text"
  | .obj _ _ => "object"
def Vl.rest : Vl → List PyData
  | .non => []
  | .bl b => [.bool b]
  | .int n => [.int n]
  | .txt s => [.str s]
  | .obj t n => [t, .int n]
def Vl.d (a : Vl) : PyData := .tuple (.str a.kind :: a.rest)
theorem dp_tup {K : PySem.W.Frag} {H : Hp} {x : V} {ds : List PyData} (h : Dp K H x (.tuple ds)) : ∃ (p : Addr) (xs : List V), x = .ref p ∧ SqT K H p xs ∧ DpAll K H xs ds := by
  cases h with
  | tup a b => exact ⟨_, _, rfl, a, b⟩
/-- a value is a tuple whose first item is its kind -/
theorem vl_at {K : PySem.W.Frag} {H : Hp} {x : V} {a : Vl} (h : Dp K H x a.d) : ∃ (p : Addr) (xs : List V), x = .ref p ∧ SqT K H p (.str a.kind :: xs) ∧ DpAll K H xs a.rest := by
  obtain ⟨p, xs, rfl, hs, ha⟩ := dp_tup h
  cases ha with
  | cons h1 h2 =>
    cases h1
    exact ⟨p, _, rfl, hs, h2⟩
theorem int_at {K : PySem.W.Frag} {H : Hp} {x : V} {n : Int} (h : Dp K H x (Vl.int n).d) : ∃ (p : Addr), x = .ref p ∧ SqT K H p [.str "int", .int n] := by
  obtain ⟨p, xs, rfl, hs, ha⟩ := vl_at h
  cases ha with
  | cons h1 h2 =>
    cases h1
    cases h2
    exact ⟨p, rfl, hs⟩
theorem txt_at {K : PySem.W.Frag} {H : Hp} {x : V} {z : Str} (h : Dp K H x (Vl.txt z).d) : ∃ (p : Addr), x = .ref p ∧ SqT K H p [.str "text", .str z] := by
  obtain ⟨p, xs, rfl, hs, ha⟩ := vl_at h
  cases ha with
  | cons h1 h2 =>
    cases h1
    cases h2
    exact ⟨p, rfl, hs⟩
theorem bl_at {K : PySem.W.Frag} {H : Hp} {x : V} {b : Bool} (h : Dp K H x (Vl.bl b).d) : ∃ (p : Addr), x = .ref p ∧ SqT K H p [.str "bool", .bl b] := by
  obtain ⟨p, xs, rfl, hs, ha⟩ := vl_at h
  cases ha with
  | cons h1 h2 =>
    cases h1
    cases h2
    exact ⟨p, rfl, hs⟩
/-- the value that a scalar is -/
inductive Sc : V → PyData → Prop
  | bl (b : Bool) : Sc (.bl b) (.bool b)
  | int (i : Int) : Sc (.int i) (.int i)
  | str (x : Str) : Sc (.str x) (.str x)
theorem Sc.dp {K : PySem.W.Frag} {H : Hp} {v : V} {d : PyData} : Sc v d → Dp K H v d
  | .bl b => .bl b
  | .int i => .int i
  | .str x => .str x
theorem dp_two {K : PySem.W.Frag} {H : Hp} {p : Addr} {k : Str} {v : V} {d : PyData} (h : H p = some (.tup [.str k, v])) (s : Dp K H v d) : Dp K H (.ref p) (.tuple [.str k, d]) :=
  .tup (SqT.of h) (.cons (.str k) (.cons s .nil))
/-- a new pair (k, v); then a new pair of a text and it -/
theorem new_two {K : PySem.W.Frag} {H : Hp} {p r : Addr} {k m : Str} {v : V} {d : PyData} (sc : Sc v d) (h1 : H p = none) (h2 : upd H p (.tup [.str k, v]) r = none) :
    Same H (upd (upd H p (.tup [.str k, v])) r (.tup [.str m, .ref p])) ∧ Dp K (upd (upd H p (.tup [.str k, v])) r (.tup [.str m, .ref p])) (.ref r) (.tuple [.str m, .tuple [.str k, d]]) := by
  have s2 := same_new h2 (.tup [.str m, .ref p])
  refine ⟨(same_new h1 _).trans s2, dp_two upd_same (dp_two (s2 _ _ upd_same) sc.dp)⟩
theorem new_one {K : PySem.W.Frag} {H : Hp} {p : Addr} {k : Str} {v : V} {d : PyData} (sc : Sc v d) (h1 : H p = none) :
    Same H (upd H p (.tup [.str k, v])) ∧ Dp K (upd H p (.tup [.str k, v])) (.ref p) (.tuple [.str k, d]) := ⟨same_new h1 _, dp_two upd_same sc.dp⟩
theorem one_le : 1 ≤ sizeLine := by decide
theorem two_le : 2 ≤ sizeLine := by decide
theorem three_le : 3 ≤ sizeLine := by decide
theorem four_le : 4 ≤ sizeLine := by decide
/-- what a def does that makes tuples and changes nothing -/
abbrev Gives (K : PySem.W.Frag) (H : Hp) (d : PyData) (Q : VK) : Prop := ∀ (v : V) (H' : Hp), Same H H' → Dp K H' v d → Q v H'
/-! ### the law's own comparison -/
mutual
def sameD : PyData → PyData → Bool
  | .none, .none => true
  | .bool a, .bool b => a == b
  | .int a, .int b => a == b
  | .str a, .str b => a == b
  | .tuple xs, .tuple ys => sameAll xs ys
  | _, _ => false
def sameAll : List PyData → List PyData → Bool
  | [], [] => true
  | x :: xs, y :: ys => sameD x y && sameAll xs ys
  | _, _ => false
end
theorem sameAll_nil : sameAll [] [] = true := by simp [sameAll]
theorem sameAll_cons (x y : PyData) (xs ys : List PyData) : sameAll (x :: xs) (y :: ys) = (sameD x y && sameAll xs ys) := by simp [sameAll]
theorem sameAll_nc (y : PyData) (ys : List PyData) : sameAll [] (y :: ys) = false := by simp [sameAll]
theorem sameAll_cn (x : PyData) (xs : List PyData) : sameAll (x :: xs) [] = false := by simp [sameAll]
theorem sameD_tup (xs ys : List PyData) : sameD (.tuple xs) (.tuple ys) = sameAll xs ys := by simp [sameD]
theorem sameAll_true : ∀ {ds es : List PyData}, ds.length = es.length → (∀ (j : Nat) (d e : PyData), ds[j]? = some d → es[j]? = some e → sameD d e = true) → sameAll ds es = true
  | [], [], _, _ => sameAll_nil
  | [], _ :: _, h, _ => by simp at h
  | _ :: _, [], h, _ => by simp at h
  | d :: ds, e :: es, h, f => by
    rw [sameAll_cons, f 0 d e rfl rfl, sameAll_true (by simpa using h) fun j d' e' h1 h2 => f (j + 1) d' e' (by simpa using h1) (by simpa using h2)]
    rfl
theorem sameAll_false : ∀ {ds es : List PyData} {j : Nat} {d e : PyData}, ds[j]? = some d → es[j]? = some e → sameD d e = false → sameAll ds es = false
  | [], _, _, _, _, h, _, _ => by simp at h
  | _ :: _, [], _, _, _, _, h, _ => by simp at h
  | d :: ds, e :: es, 0, _, _, h1, h2, h3 => by
    have a := Option.some.inj h1
    have b := Option.some.inj h2
    subst a b
    rw [sameAll_cons, h3, Bool.false_and]
  | d :: ds, e :: es, j + 1, _, _, h1, h2, h3 => by
    rw [sameAll_cons, sameAll_false (j := j) (by simpa using h1) (by simpa using h2) h3, Bool.and_false]
theorem sameAll_len : ∀ {ds es : List PyData}, ds.length ≠ es.length → sameAll ds es = false
  | [], [], h => absurd rfl h
  | [], _ :: _, _ => sameAll_nc _ _
  | _ :: _, [], _ => sameAll_cn _ _
  | d :: ds, e :: es, h => by rw [sameAll_cons, sameAll_len (fun q => h (by simpa using q)), Bool.and_false]
/-- data of texts, numbers, bools, None and tuples, less than n deep -/
def okD : Nat → PyData → Bool
  | 0, _ => false
  | _ + 1, .none => true
  | _ + 1, .bool _ => true
  | _ + 1, .int _ => true
  | _ + 1, .str _ => true
  | n + 1, .tuple xs => decide (xs.length ≤ 1000) && xs.all (okD n)
  | _ + 1, _ => false
theorem okD_tup {n : Nat} {xs : List PyData} (h : okD (n + 1) (.tuple xs) = true) : xs.length ≤ 1000 ∧ ∀ x ∈ xs, okD n x = true := by
  simp only [okD, Bool.and_eq_true, decide_eq_true_eq, List.all_eq_true] at h
  exact h
def tyN : PyData → String
  | .none => "NoneType"
  | .bool _ => "bool"
  | .int _ => "int"
  | .str _ => "str"
  | .list _ => "list"
  | .tuple _ => "tuple"
  | .dict _ => "dict"
theorem dpAll_len {K : PySem.W.Frag} {H : Hp} : ∀ {xs : List V} {ds : List PyData}, DpAll K H xs ds → xs.length = ds.length
  | _, _, .nil => rfl
  | _, _, .cons _ t => congrArg (· + 1) (dpAll_len t)
theorem dpAll_get {K : PySem.W.Frag} {H : Hp} : ∀ {xs : List V} {ds : List PyData} {j : Nat} {d : PyData}, DpAll K H xs ds → ds[j]? = some d → ∃ v, xs[j]? = some v ∧ Dp K H v d
  | _, _, _, _, .nil, h => by simp at h
  | _, _, 0, _, .cons a _, h => by
    have e := Option.some.inj h
    subst e
    exact ⟨_, rfl, a⟩
  | _, _, j + 1, _, .cons _ t, h => by
    obtain ⟨v, h1, h2⟩ := dpAll_get (j := j) t (by simpa using h)
    exact ⟨v, by simpa using h1, h2⟩
theorem ty_of {K : PySem.W.Frag} {H : Hp} {x : V} {d : PyData} {m : Nat} (h : Dp K H x d) (ok : okD m d = true) : TyX K H x (.type (tyN d)) := by
  cases m with
  | zero => simp [okD] at ok
  | succ m =>
    cases h with
    | non => exact .base .non
    | bl b => exact .base (.bl b)
    | int i => exact .base (.int i)
    | str s => exact .base (.str s)
    | lst => simp [okD] at ok
    | tup hs _ =>
      rcases hs with (h | ⟨o, h⟩) | ⟨o, its, n, hk, hc, _⟩
      · exact .base (.tup h)
      · exact .fTuple h
      · exact .kTuple hk hc
theorem kt_NoneType_tuple {K : PySem.W.Frag} : PySem.W.kitOne K (.type "NoneType") (.type "tuple") = some false := kit_ty (by decide +kernel)
theorem kt_NoneType_bool {K : PySem.W.Frag} : PySem.W.kitOne K (.type "NoneType") (.type "bool") = some false := kit_ty (by decide +kernel)
theorem kt_NoneType_int {K : PySem.W.Frag} : PySem.W.kitOne K (.type "NoneType") (.type "int") = some false := kit_ty (by decide +kernel)
theorem kt_NoneType_str {K : PySem.W.Frag} : PySem.W.kitOne K (.type "NoneType") (.type "str") = some false := kit_ty (by decide +kernel)
theorem kt_bool_tuple {K : PySem.W.Frag} : PySem.W.kitOne K (.type "bool") (.type "tuple") = some false := kit_ty (by decide +kernel)
theorem kt_bool_bool {K : PySem.W.Frag} : PySem.W.kitOne K (.type "bool") (.type "bool") = some true := kit_ty (by decide +kernel)
theorem kt_bool_int {K : PySem.W.Frag} : PySem.W.kitOne K (.type "bool") (.type "int") = some true := kit_ty (by decide +kernel)
theorem kt_bool_str {K : PySem.W.Frag} : PySem.W.kitOne K (.type "bool") (.type "str") = some false := kit_ty (by decide +kernel)
theorem kt_int_tuple {K : PySem.W.Frag} : PySem.W.kitOne K (.type "int") (.type "tuple") = some false := kit_ty (by decide +kernel)
theorem kt_int_bool {K : PySem.W.Frag} : PySem.W.kitOne K (.type "int") (.type "bool") = some false := kit_ty (by decide +kernel)
theorem kt_int_int {K : PySem.W.Frag} : PySem.W.kitOne K (.type "int") (.type "int") = some true := kit_ty (by decide +kernel)
theorem kt_int_str {K : PySem.W.Frag} : PySem.W.kitOne K (.type "int") (.type "str") = some false := kit_ty (by decide +kernel)
theorem kt_str_tuple {K : PySem.W.Frag} : PySem.W.kitOne K (.type "str") (.type "tuple") = some false := kit_ty (by decide +kernel)
theorem kt_str_bool {K : PySem.W.Frag} : PySem.W.kitOne K (.type "str") (.type "bool") = some false := kit_ty (by decide +kernel)
theorem kt_str_int {K : PySem.W.Frag} : PySem.W.kitOne K (.type "str") (.type "int") = some false := kit_ty (by decide +kernel)
theorem kt_str_str {K : PySem.W.Frag} : PySem.W.kitOne K (.type "str") (.type "str") = some true := kit_ty (by decide +kernel)
theorem kt_tuple_tuple {K : PySem.W.Frag} : PySem.W.kitOne K (.type "tuple") (.type "tuple") = some true := kit_ty (by decide +kernel)
theorem kt_tuple_bool {K : PySem.W.Frag} : PySem.W.kitOne K (.type "tuple") (.type "bool") = some false := kit_ty (by decide +kernel)
theorem kt_tuple_int {K : PySem.W.Frag} : PySem.W.kitOne K (.type "tuple") (.type "int") = some false := kit_ty (by decide +kernel)
theorem kt_tuple_str {K : PySem.W.Frag} : PySem.W.kitOne K (.type "tuple") (.type "str") = some false := kit_ty (by decide +kernel)
def spSame (K : PySem.W.Frag) (n : Nat) : Sp := fun vs H Q _ => ∃ (x y : V) (d e : PyData) (m : Nat), vs = [x, y] ∧ Dp K H x d ∧ Dp K H y e ∧ okD m d = true ∧ okD n e = true ∧ Q (.bl (sameD d e)) H
theorem same_step (T : Tx K mg w) {n : Nat} (G__law_same : FnOk P w K mg base CX0 n T.d__law_same.f T.d__law_same.fd P__law_same (spSame K n)) :
    FnOk P w K mg base CX0 (n + 1) T.d__law_same.f T.d__law_same.fd P__law_same (spSame K (n + 1)) := by
  refine T.d__law_same.F.ok sc__law_same (fun vs H Q E h => ?_) (fun cdv A outer s H vs Q E hr h => ?_)
  · obtain ⟨x, y, d, e, m, rfl, _⟩ := h
    rfl
  obtain ⟨x, y, d, e, m, rfl, hd, he, okd, oke, q⟩ := h
  refine ⟨_, (pss_cons (ps_if (pt_val (pe_callB call_isi (by rfl) T.z_isinstance (by decide +kernel) (pa_cons (pv 1) (pa_cons (pe_bltn (v := V.ty "tuple") (by rfl) T.z_tuple (by decide +kernel) rfl) pa_nil))))
      (pss_cons (ps_if (PW.pt (pw_or (pt_not (pt_val (pe_callB call_isi (by rfl) T.z_isinstance (by decide +kernel) (pa_cons (pv 0) (pa_cons (pe_bltn (v := V.ty "tuple") (by rfl) T.z_tuple (by decide +kernel) rfl) pa_nil))))) (pw_or1 (pt_cmpR op_ne (pe_callB call_len_seq (by rfl) T.z_len PySem.boot_len (pa_cons (pv 0) pa_nil)) (pe_callB call_len_seq (by rfl) T.z_len PySem.boot_len (pa_cons (pv 1) pa_nil)) (nomark _)))))
      (pss_one (ps_ret pe_bl))
      pss_nil)
    (pss_cons (ps_for PassesOwn.never rfl (pi_range1 (by rfl) T.z_range (pa_cons (pe_callB call_len_seq (by rfl) T.z_len PySem.boot_len (pa_cons (pv 1) pa_nil)) pa_nil)) (pg_name (i := 2) sc__law_same.nd rfl (Or.inl rfl))
      (pss_one (ps_if (pt_not (pt_val (pe_call G__law_same (hr.mono (by omega)) (by rfl) T.d__law_same.m T.d__law_same.F.kp T.d__law_same.b .nil pass0 (pa_cons (pe_ix ix_tup (pv 0) (pv 2) (fun _ _ => rfl)) (pa_cons (pe_ix ix_tup (pv 1) (pv 2) (fun _ _ => rfl)) pa_nil)))))
      (pss_one (ps_ret pe_bl))
      pss_nil)))
    (pss_one (ps_ret pe_bl))))
      pss_nil)
    (pss_cons (ps_if (pt_cmpR op_isN (pv 1) pe_non (nomark _))
      (pss_one (ps_ret (pe_cmpR op_isN (pv 0) pe_non (nomark _))))
      pss_nil)
    (pss_cons (ps_if (pt_val (pe_callB call_isi (by rfl) T.z_isinstance (by decide +kernel) (pa_cons (pv 1) (pa_cons (pe_bltn (v := V.ty "bool") (by rfl) T.z_bool (by decide +kernel) rfl) pa_nil))))
      (pss_one (ps_ret (pe_and (pe_callB call_isi (by rfl) T.z_isinstance (by decide +kernel) (pa_cons (pv 0) (pa_cons (pe_bltn (v := V.ty "bool") (by rfl) T.z_bool (by decide +kernel) rfl) pa_nil))) (pe_one (pe_cmpR op_eq (pv 0) (pv 1) (nomark _))))))
      pss_nil)
    (pss_cons (ps_if (pt_val (pe_callB call_isi (by rfl) T.z_isinstance (by decide +kernel) (pa_cons (pv 1) (pa_cons (pe_bltn (v := V.ty "int") (by rfl) T.z_int (by decide +kernel) rfl) pa_nil))))
      (pss_one (ps_ret (pe_and (pe_callB call_isi (by rfl) T.z_isinstance (by decide +kernel) (pa_cons (pv 0) (pa_cons (pe_bltn (v := V.ty "int") (by rfl) T.z_int (by decide +kernel) rfl) pa_nil))) (pe_and (pe_not (pe_callB call_isi (by rfl) T.z_isinstance (by decide +kernel) (pa_cons (pv 0) (pa_cons (pe_bltn (v := V.ty "bool") (by rfl) T.z_bool (by decide +kernel) rfl) pa_nil)))) (pe_one (pe_cmpR op_eq (pv 0) (pv 1) (nomark _)))))))
      pss_nil)
    (pss_one (ps_ret (pe_and (pe_callB call_isi (by rfl) T.z_isinstance (by decide +kernel) (pa_cons (pv 0) (pa_cons (pe_bltn (v := V.ty "str") (by rfl) T.z_str (by decide +kernel) rfl) pa_nil))) (pe_one (pe_cmpR op_eq (pv 0) (pv 1) (nomark _)))))))))), ?_⟩
  cases e with
  | list es => simp [okD] at oke
  | dict es => simp [okD] at oke
  | tuple es =>
    refine ⟨_, rfl, _, _, _, _, true, rfl, .ty _, ty_of he oke, kt_tuple_tuple, _, rfl, ifT rfl ?_⟩
    cases he with
    | @tup b ys _ hs ha =>
    have oke' := okD_tup oke
    have hys := dpAll_len ha
    have no : (∀ ds, d ≠ .tuple ds) → sameD d (.tuple es) = false := fun h => by
      cases d with
      | tuple ds => exact absurd rfl (h ds)
      | _ => simp [sameD]
    have ret : sameD d (.tuple es) = false → Q (.bl false) H := fun h => by
      rw [h] at q
      exact q
    by_cases ht : ∃ ds, d = .tuple ds
    · obtain ⟨ds, rfl⟩ := ht
      refine ⟨_, rfl, _, _, _, _, true, rfl, .ty _, ty_of hd okd, kt_tuple_tuple, _, rfl, iteF ?_⟩
      cases hd with
      | @tup a xs _ hsx hax =>
      have hxs := dpAll_len hax
      refine ⟨_, rfl, a, _, rfl, .inr hsx, _, rfl, b, _, rfl, .inr hs, rfl, _, rfl, ?_⟩
      by_cases hl : ds.length = es.length
      · refine ifF (by rw [hxs, hys, hl]; simp) ?_
        refine ⟨_, rfl, b, _, rfl, .inr hs, _, rfl, by omega, by omega, for_range (lo := 0) (n := ys.length) (fun i σ H1 => H1 = H ∧ (∃ v2, σ = [some (.ref a), some (.ref b), v2]) ∧ ∀ (j : Nat) (d e : PyData), j < i → ds[j]? = some d → es[j]? = some e → sameD d e = true)
          ⟨rfl, ⟨none, rfl⟩, fun j _ _ hj => absurd hj (Nat.not_lt_zero _)⟩ ?_ ?_⟩
        · rintro i σ H1 hi ⟨rfl, ⟨v2, rfl⟩, so⟩
          have hi1 : i < es.length := by omega
          have hi2 : i < ds.length := by omega
          have g1 : ds[i]? = some ds[i] := List.getElem?_eq_getElem hi2
          have g2 : es[i]? = some es[i] := List.getElem?_eq_getElem hi1
          obtain ⟨v, hv, dv⟩ := dpAll_get hax g1
          obtain ⟨u, hu, du⟩ := dpAll_get ha g2
          have okd' : ∃ m', okD m' ds[i] = true := by
            cases m with
            | zero => simp [okD] at okd
            | succ m => exact ⟨m, (okD_tup okd).2 _ (List.getElem_mem hi2)⟩
          obtain ⟨m', okd'⟩ := okd'
          refine ⟨_, rfl, _, rfl, a, _, _, _, rfl, rfl, hsx, at_of (j := i) (by omega) hv, _, rfl, _, rfl, b, _, _, _, rfl, rfl, hs, at_of (j := i) (by omega) hu, _, _, _, _, _, rfl, dv, du, okd', oke'.2 _ (List.getElem_mem hi1), _, rfl, ?_⟩
          cases hsd : sameD ds[i] es[i] with
          | true =>
            refine iteF ?_
            refine ⟨rfl, ⟨_, rfl⟩, fun j d e hj h1 h2 => ?_⟩
            by_cases hji : j = i
            · subst hji
              rw [g1] at h1
              rw [g2] at h2
              cases h1
              cases h2
              exact hsd
            · exact so j d e (by omega) h1 h2
          | false =>
            refine iteT ?_
            exact ret (by rw [sameD_tup]; exact sameAll_false g1 g2 hsd)
        · rintro σ H1 ⟨rfl, ⟨v2, rfl⟩, so⟩
          have z : sameD (.tuple ds) (.tuple es) = true := by
            rw [sameD_tup]
            refine sameAll_true hl fun j d e h1 h2 => so j d e ?_ h1 h2
            have := (List.getElem?_eq_some_iff.mp h2).1
            omega
          rw [z] at q
          exact q
      · refine ifT ?_ (ret (by rw [sameD_tup]; exact sameAll_len hl))
        have z : ¬ (V.int ((xs.length : Nat) : Int) = V.int ((ys.length : Nat) : Int)) := fun z => hl (by
          injection z with z
          omega)
        rw [decide_eq_false z]
        rfl
    · have hn : ∀ ds, d ≠ .tuple ds := fun ds h => ht ⟨ds, h⟩
      cases d with
      | tuple ds => exact absurd rfl (hn ds)
      | list ds => cases m <;> simp [okD] at okd
      | dict ds => cases m <;> simp [okD] at okd
      | _ =>
        refine ⟨_, rfl, _, _, _, _, false, rfl, .ty _, ty_of hd okd, (by first | exact kt_NoneType_tuple | exact kt_bool_tuple | exact kt_int_tuple | exact kt_str_tuple), _, rfl, iteT (iteT ?_)⟩
        exact ret (no hn)
  | none =>
    refine ⟨_, rfl, _, _, _, _, false, rfl, .ty _, ty_of he oke, kt_NoneType_tuple, _, rfl, iteF ?_⟩
    cases he
    refine ⟨_, rfl, rfl, _, rfl, ifT rfl ?_⟩
    refine ⟨_, rfl, rfl, ?_⟩
    have z : decide (x = V.non) = sameD d .none := by cases hd <;> simp [sameD]
    rw [z]
    exact q
  | bool b =>
    refine ⟨_, rfl, _, _, _, _, false, rfl, .ty _, ty_of he oke, kt_bool_tuple, _, rfl, iteF ?_⟩
    have he' := he
    cases he'
    refine ⟨_, rfl, rfl, _, rfl, ifF rfl ?_⟩
    refine ⟨_, rfl, _, _, _, _, true, rfl, .ty _, ty_of he oke, kt_bool_bool, _, rfl, iteT ?_⟩
    cases d with
    | list ds => cases m <;> simp [okD] at okd
    | dict ds => cases m <;> simp [okD] at okd
    | bool a =>
      refine ⟨_, rfl, _, _, _, _, true, rfl, .ty _, ty_of hd okd, kt_bool_bool, _, rfl, iteT ?_⟩
      cases hd
      refine ⟨_, rfl, _, rfl, rfl, ?_⟩
      rw [dec_bl]
      simp only [sameD] at q
      exact q
    | _ =>
      refine ⟨_, rfl, _, _, _, _, false, rfl, .ty _, ty_of hd okd, (by first | exact kt_NoneType_bool | exact kt_int_bool | exact kt_str_bool | exact kt_tuple_bool), _, rfl, iteF ?_⟩
      simp only [sameD] at q
      exact q
  | int b =>
    refine ⟨_, rfl, _, _, _, _, false, rfl, .ty _, ty_of he oke, kt_int_tuple, _, rfl, iteF ?_⟩
    have he' := he
    cases he'
    refine ⟨_, rfl, rfl, _, rfl, ifF rfl ?_⟩
    refine ⟨_, rfl, _, _, _, _, false, rfl, .ty _, ty_of he oke, kt_int_bool, _, rfl, iteF ?_⟩
    refine ⟨_, rfl, _, _, _, _, true, rfl, .ty _, ty_of he oke, kt_int_int, _, rfl, iteT ?_⟩
    cases d with
    | list ds => cases m <;> simp [okD] at okd
    | dict ds => cases m <;> simp [okD] at okd
    | int a =>
      refine ⟨_, rfl, _, _, _, _, true, rfl, .ty _, ty_of hd okd, kt_int_int, _, rfl, iteT ?_⟩
      refine ⟨_, rfl, _, _, _, _, false, rfl, .ty _, ty_of hd okd, kt_int_bool, _, rfl, _, rfl, iteT ?_⟩
      cases hd
      refine ⟨_, rfl, _, rfl, rfl, ?_⟩
      rw [dec_int]
      simp only [sameD] at q
      exact q
    | bool a =>
      refine ⟨_, rfl, _, _, _, _, true, rfl, .ty _, ty_of hd okd, kt_bool_int, _, rfl, iteT ?_⟩
      refine ⟨_, rfl, _, _, _, _, true, rfl, .ty _, ty_of hd okd, kt_bool_bool, _, rfl, _, rfl, iteF ?_⟩
      simp only [sameD] at q
      exact q
    | _ =>
      refine ⟨_, rfl, _, _, _, _, false, rfl, .ty _, ty_of hd okd, (by first | exact kt_NoneType_int | exact kt_str_int | exact kt_tuple_int), _, rfl, iteF ?_⟩
      simp only [sameD] at q
      exact q
  | str b =>
    refine ⟨_, rfl, _, _, _, _, false, rfl, .ty _, ty_of he oke, kt_str_tuple, _, rfl, iteF ?_⟩
    have he' := he
    cases he'
    refine ⟨_, rfl, rfl, _, rfl, ifF rfl ?_⟩
    refine ⟨_, rfl, _, _, _, _, false, rfl, .ty _, ty_of he oke, kt_str_bool, _, rfl, iteF ?_⟩
    refine ⟨_, rfl, _, _, _, _, false, rfl, .ty _, ty_of he oke, kt_str_int, _, rfl, iteF ?_⟩
    cases d with
    | list ds => cases m <;> simp [okD] at okd
    | dict ds => cases m <;> simp [okD] at okd
    | str a =>
      refine ⟨_, rfl, _, _, _, _, true, rfl, .ty _, ty_of hd okd, kt_str_str, _, rfl, iteT ?_⟩
      cases hd
      refine ⟨_, rfl, _, rfl, rfl, ?_⟩
      rw [dec_str]
      simp only [sameD] at q
      exact q
    | _ =>
      refine ⟨_, rfl, _, _, _, _, false, rfl, .ty _, ty_of hd okd, (by first | exact kt_NoneType_str | exact kt_bool_str | exact kt_int_str | exact kt_tuple_str), _, rfl, iteF ?_⟩
      simp only [sameD] at q
      exact q
theorem ok__law_same (T : Tx K mg w) : ∀ n : Nat, FnOk P w K mg base CX0 n T.d__law_same.f T.d__law_same.fd P__law_same (spSame K n)
  | 0 => by
    have no : ∀ vs H Q E, ¬ spSame K 0 vs H Q E := fun vs H Q E h => by
      obtain ⟨x, y, d, e, m, _, _, _, _, h2, _⟩ := h
      simp [okD] at h2
    exact ⟨fun vs H Q E h => absurd h (no vs H Q E), fun A outer s H args us vs Q E _ _ _ _ h => absurd h (no vs H Q E)⟩
  | n + 1 => same_step T (ok__law_same T n)
theorem same_refl : ∀ (n : Nat) (d : PyData), okD n d = true → sameD d d = true
  | 0, d, h => by simp [okD] at h
  | n + 1, d, h => by
    cases d with
    | none => simp [sameD]
    | bool b => simp [sameD]
    | int i => simp [sameD]
    | str s => simp [sameD]
    | list xs => simp [okD] at h
    | dict xs => simp [okD] at h
    | tuple xs =>
      rw [sameD_tup]
      refine sameAll_true rfl fun j d e h1 h2 => ?_
      rw [h1] at h2
      have e' := Option.some.inj h2
      subst e'
      exact same_refl n d ((okD_tup h).2 _ (List.mem_of_getElem? h1))
/-! ### kinds, pairs -/
def okP (k : Str) (d : PyData) : PyData := .tuple [.str "ok", .tuple [.str k, d]]
def errP (x : Str) : PyData := .tuple [.str "error", .str x]
def Vl.ok : Vl → Prop
  | .int n => n.natAbs < 1000000000000000000000000000000000000000000000000000000000000
  | .txt s => s.length ≤ 1000
  | _ => True
theorem op_if {op x : Str} {A B : Prop} (h1 : op = x → A) (h2 : op ≠ x → B) : if decide (V.str op = V.str x) = true then A else B := by
  by_cases e : op = x
  · rw [if_pos (decide_eq_true (congrArg V.str e))]
    exact h1 e
  · rw [if_neg (fun q => e (V.str.inj (of_decide_eq_true q)))]
    exact h2 e
theorem ne_if {k x : Str} {A B : Prop} (h1 : k ≠ x → A) (h2 : k = x → B) : if (!decide (V.str k = V.str x)) = true then A else B := by
  by_cases e : k = x
  · rw [decide_eq_true (congrArg V.str e)]
    exact iteF (h2 e)
  · rw [decide_eq_false (fun q => e (V.str.inj q))]
    exact iteT (h1 e)
theorem kind_txt {a : Vl} (h : a.kind = "text") : ∃ s, a = .txt s := by
  cases a with
  | txt s => exact ⟨s, rfl⟩
  | non => exact absurd h (by decide +kernel)
  | bl b => exact absurd h (by show ¬ ("bool" : Str) = "text"; decide +kernel)
  | int n => exact absurd h (by show ¬ ("int" : Str) = "text"; decide +kernel)
  | obj t n => exact absurd h (by show ¬ ("object" : Str) = "text"; decide +kernel)
theorem kind_int {a : Vl} (h : a.kind = "int") : ∃ n, a = .int n := by
  cases a with
  | int n => exact ⟨n, rfl⟩
  | non => exact absurd h (by decide +kernel)
  | bl b => exact absurd h (by show ¬ ("bool" : Str) = "int"; decide +kernel)
  | txt n => exact absurd h (by show ¬ ("text" : Str) = "int"; decide +kernel)
  | obj t n => exact absurd h (by show ¬ ("object" : Str) = "int"; decide +kernel)
theorem kind_bl {a : Vl} (h : a.kind = "bool") : ∃ b, a = .bl b := by
  cases a with
  | bl n => exact ⟨n, rfl⟩
  | non => exact absurd h (by decide +kernel)
  | int b => exact absurd h (by show ¬ ("int" : Str) = "bool"; decide +kernel)
  | txt n => exact absurd h (by show ¬ ("text" : Str) = "bool"; decide +kernel)
  | obj t n => exact absurd h (by show ¬ ("object" : Str) = "bool"; decide +kernel)
/-! ### drawn texts and values -/
section
open PySem.Spec PyProof.Rows
variable {X : Cx}
/-- one sign, n times -/
def rMulS : R2 := fun x y H Q => ∃ (c : Nat) (n : Int), x = .str ⟨#[c]⟩ ∧ y = .int n ∧ 0 ≤ n ∧ n ≤ 1000 ∧ Q (.str ⟨(List.replicate n.toNat c).toArray⟩) H
theorem rep_acc (c : Nat) : ∀ (n : Nat) (acc : List Nat), List.foldl (fun x y => x ++ y) acc.toArray (List.replicate n #[c]) = (acc ++ List.replicate n c).toArray
  | 0, acc => by simp
  | n + 1, acc => by
    have e : acc.toArray ++ #[c] = (acc ++ [c]).toArray := by simp
    rw [List.replicate_succ, List.foldl_cons, e, rep_acc c n (acc ++ [c]), List.replicate_succ, List.append_assoc]
    rfl
theorem rep_one (c n : Nat) : List.foldl (fun x y => x ++ y) #[] (List.replicate n #[c]) = (List.replicate n c).toArray := rep_acc c n []
theorem op_mulS : OpR X (binaryOp .Mult) rMulS := by
  intro pins s σ H x y v u Q I rx ry h
  obtain ⟨c, n, rfl, rfl, h0, h1, q⟩ := h
  obtain ⟨t, rfl⟩ := rx
  obtain ⟨t', rfl⟩ := ry
  have l1 : (⟨#[c]⟩ : Str).length = 1 := rfl
  have hs : 1000 ≤ sizeLine := by decide
  refine PySem.P.mul_str ?_ ?_ ?_ ?_
  · rw [decide_eq_false (by omega), decide_eq_false (by omega)]
    rfl
  · intro a _ z
    rw [l1] at z
    have d : 1 ≤ (2 ^ 63 - 1 : Int) / n := (Int.le_ediv_iff_mul_le (by omega)).mpr (by omega)
    omega
  · intro _ _
    rw [l1]
    show decide (1 * n.toNat > sizeLine) = false
    exact decide_eq_false (by omega)
  · by_cases a : n < 1
    · rw [if_pos a]
      have e : n = 0 := by omega
      subst e
      exact ⟨by decide, .str _, H, I.tok _, ⟨_, rfl⟩, q⟩
    · rw [if_neg a]
      by_cases b : n = 1
      · subst b
        exact ⟨.str _, H, I, ⟨_, rfl⟩, q⟩
      · have e : ((n == 1) || (⟨#[c]⟩ : Str).length == 0) = false := by
          rw [l1, beq_eq_false_iff_ne.mpr b]
          rfl
        rw [e, if_neg Bool.false_ne_true]
        have z := rep_one c n.toNat
        have z2 : (⟨List.foldl (fun x1 x2 => x1 ++ x2) #[] (List.replicate n.toNat (⟨#[c]⟩ : Str).cps)⟩ : Str) = ⟨(List.replicate n.toNat c).toArray⟩ := congrArg Str.mk z
        refine ⟨?_, .str ⟨(List.replicate n.toNat c).toArray⟩, H, I.tok _, ⟨s.toks, ?_⟩, q⟩
        · rw [z2]
          show (List.replicate n.toNat c).toArray.size ≤ sizeLine
          rw [List.size_toArray, List.length_replicate]
          omega
        · rw [z2]
end
def txtOk (z : Str) : Prop := ∀ c ∈ z.cps.toList, c < 1114112
theorem len_cps (z : Str) : z.cps.toList.length = z.length := by simp [Str.length]
theorem txtOk_app {x y : Str} (h1 : txtOk x) (h2 : txtOk y) : txtOk (x ++ y) := by
  intro c hc
  have e : (x ++ y).cps.toList = x.cps.toList ++ y.cps.toList := by
    show (x.cps ++ y.cps).toList = _
    simp
  rw [e] at hc
  rcases List.mem_append.mp hc with h | h
  · exact h1 c h
  · exact h2 c h
theorem txtOk_rep {c n : Nat} (h : c < 1114112) : txtOk ⟨(List.replicate n c).toArray⟩ := by
  intro d hd
  have e := List.eq_of_mem_replicate hd
  omega
theorem txtOk_one {c : Nat} (h : c < 1114112) : txtOk ⟨#[c]⟩ := by
  intro d hd
  have e : d = c := by simpa using hd
  omega
def sgn : Str := ((" !\"#$&'()*+,-./0123456789:;<=>?@ABCDEFGHIJKLMNOPQRSTUVWXYZ[\\]^_`" : Str) ++ ("abcdefghijklmnopqrstuvwxyz{|}~\n" : Str))
theorem sgn_len : sgn.length = 95 := by decide +kernel
theorem sgn_ok : txtOk sgn := by
  have h : (sgn.cps.toList.all fun c => decide (c < 1114112)) = true := by decide +kernel
  intro c hc
  exact of_decide_eq_true (List.all_eq_true.mp h c hc)
theorem at_str {xs : List Nat} {z : Int} {j c : Nat} (e : z = (j : Int)) (h : xs[j]? = some c) : atI xs z = some c := by
  rw [e]
  exact atI_nat h
/-- a place of the signs -/
theorem sgn_at {i : Int} (h0 : 0 ≤ i) (h1 : i < 95) : ∃ c, atI sgn.cps.toList i = some c ∧ c < 1114112 := by
  have hl := len_cps sgn
  rw [sgn_len] at hl
  have hk : i.toNat < sgn.cps.toList.length := by omega
  have g : sgn.cps.toList[i.toNat]? = some sgn.cps.toList[i.toNat] := List.getElem?_eq_getElem hk
  exact ⟨_, at_str (by omega) g, sgn_ok _ (List.getElem_mem hk)⟩
def spText : Sp := fun vs H Q _ => ∃ (p l : Addr), vs = [.ref p, .int 200] ∧ BoxAt H p l ∧ ∀ (z : Str) (H' : Hp), z.length ≤ 200 → txtOk z → BoxAt H' p l → Keep p H H' → Q (.str z) H'
theorem ok__law_text (T : Tx K mg w) : FnOk P w K mg base CX0 2 T.d__law_text.f T.d__law_text.fd P__law_text spText := by
  have G__law_draw := ok__law_draw (P := P) (w := w) (base := base) T
  refine T.d__law_text.F.ok sc__law_text (fun vs H Q E h => ?_) (fun cdv A outer s H vs Q E hr h => ?_)
  · obtain ⟨p, l, rfl, _⟩ := h
    rfl
  obtain ⟨p, l, rfl, B, q⟩ := h
  have big : 1000 ≤ sizeLine := by decide
  refine ⟨_, (pss_cons (ps_set (i := 2) sc__law_text.nd rfl (Or.inl rfl) pe_str)
    (pss_cons (ps_set (i := 2) sc__law_text.nd rfl (Or.inl rfl) (pe_op op_add_str (pv 2) pe_str))
    (pss_cons (ps_set (i := 3) sc__law_text.nd rfl (Or.inl rfl) pe_str)
    (pss_cons (ps_if (pt_cmpR op_eq (pe_call G__law_draw (hr.mono (by omega)) (by rfl) T.d__law_draw.m T.d__law_draw.F.kp T.d__law_draw.b .nil pass0 (pa_cons (pv 0) (pa_cons pe_int pa_nil))) pe_int (nomark _))
      (pss_one (ps_set (i := 3) sc__law_text.nd rfl (Or.inl rfl) (pe_op op_mulS (pe_ix ix_str (pv 2) (pe_call G__law_draw (hr.mono (by omega)) (by rfl) T.d__law_draw.m T.d__law_draw.F.kp T.d__law_draw.b .nil pass0 (pa_cons (pv 0) (pa_cons pe_int pa_nil))) (fun _ _ => rfl)) (pe_call G__law_draw (hr.mono (by omega)) (by rfl) T.d__law_draw.m T.d__law_draw.F.kp T.d__law_draw.b .nil pass0 (pa_cons (pv 0) (pa_cons (pe_op op_add (pv 1) pe_int) pa_nil))))))
      pss_nil)
    (pss_cons (ps_for PassesOwn.never rfl (pi_range1 (by rfl) T.z_range (pa_cons (pe_call G__law_draw (hr.mono (by omega)) (by rfl) T.d__law_draw.m T.d__law_draw.F.kp T.d__law_draw.b .nil pass0 (pa_cons (pv 0) (pa_cons pe_int pa_nil))) pa_nil)) (pg_name (i := 4) sc__law_text.nd rfl (Or.inl rfl))
      (pss_one (ps_if (pt_cmpR op_lt (pe_callB call_len_str (by rfl) T.z_len PySem.boot_len (pa_cons (pv 3) pa_nil)) (pv 1) (nomark _))
      (pss_one (ps_set (i := 3) sc__law_text.nd rfl (Or.inl rfl) (pe_op op_add_str (pv 3) (pe_ix ix_str (pv 2) (pe_call G__law_draw (hr.mono (by omega)) (by rfl) T.d__law_draw.m T.d__law_draw.F.kp T.d__law_draw.b .nil pass0 (pa_cons (pv 0) (pa_cons pe_int pa_nil))) (fun _ _ => rfl)))))
      pss_nil)))
    (pss_one (ps_ret (pv 3)))))))), ?_⟩
  refine ⟨_, rfl, _, _, rfl, rfl, (by decide +kernel), ?_⟩
  have hsg : sgn.length ≤ sizeLine := by rw [sgn_len]; decide
  have eg : ((" !\"#$&'()*+,-./0123456789:;<=>?@ABCDEFGHIJKLMNOPQRSTUVWXYZ[\\]^_`" : Str) ++ ("abcdefghijklmnopqrstuvwxyz{|}~\n" : Str)) = sgn := rfl
  rw [eg]
  refine ⟨_, rfl, p, l, _, rfl, by decide, B, fun r H1 _ _ B1 k1 => ⟨rfl, _, rfl, ite2 (fun _ => ?g1) (fun _ => ?g2)⟩⟩
  case g1 =>
    refine ⟨_, rfl, _, rfl, p, l, _, rfl, by decide, B1, fun i H2 i0 i1 B2 k2 => ?_⟩
    obtain ⟨c, hc, lc⟩ := sgn_at i0 i1
    refine ⟨_, _, c, rfl, rfl, hsg, hc, ?_⟩
    refine ⟨_, rfl, _, rfl, _, _, rfl, rfl, p, l, _, rfl, by decide, B2, fun n H3 n0 n1 B3 k3 => ?_⟩
    refine ⟨c, n, rfl, rfl, n0, by omega, ?_⟩
    have k1 := (k1.trans k2).trans k3
    have tl : (⟨(List.replicate n.toNat c).toArray⟩ : Str).length ≤ 200 := by
      show (List.replicate n.toNat c).toArray.size ≤ 200
      rw [List.size_toArray, List.length_replicate]
      omega
    have tk : txtOk ⟨(List.replicate n.toNat c).toArray⟩ := txtOk_rep lc
    generalize (⟨(List.replicate n.toNat c).toArray⟩ : Str) = t0 at tl tk ⊢
    refine ⟨_, rfl, p, l, _, rfl, by decide, B3, fun m H4 m0 m1 B4 k4 => ?_⟩
    refine ⟨m, rfl, by omega, by omega, for_range (lo := 0) (n := m.toNat) (fun i σ H5 => ∃ (z : Str) (v4 : Option V), σ = [some (.ref p), some (.int 200), some (.str sgn), some (.str z), v4] ∧ z.length ≤ 200 ∧ txtOk z ∧ BoxAt H5 p l ∧ Keep p H H5)
      ⟨t0, _, rfl, tl, tk, B4, k1.trans k4⟩ ?_ ?_⟩
    · rintro i σ H5 hi ⟨z, v4, rfl, zl, zk, B5, k5⟩
      refine ⟨_, rfl, _, rfl, by omega, _, rfl, _, _, rfl, rfl, _, rfl, ite2 (fun c => ?_) (fun c => ?_)⟩
      · have c' : ((z.length : Nat) : Int) < 200 := of_decide_eq_true c
        refine ⟨_, rfl, _, rfl, _, rfl, p, l, _, rfl, by decide, B5, fun i H6 i0 i1 B6 k6 => ?_⟩
        obtain ⟨c, hc, lc⟩ := sgn_at i0 i1
        have l1 : (⟨#[c]⟩ : Str).length = 1 := rfl
        refine ⟨_, _, c, rfl, rfl, hsg, hc, _, _, rfl, rfl, by omega, ?_⟩
        exact ⟨_, _, rfl, by rw [PySem.Str.length_append]; omega, txtOk_app zk (txtOk_one lc), B6, k5.trans k6⟩
      · exact ⟨z, _, rfl, zl, zk, B5, k5⟩
    · rintro σ H5 ⟨z, v4, rfl, zl, zk, B5, k5⟩
      exact ⟨_, rfl, q z H5 zl zk B5 k5⟩
  case g2 =>
    have tl : (Str.ofString "").length ≤ 200 := by decide
    have tk : txtOk (Str.ofString "") := fun c hc => by
      have e : (Str.ofString "").cps.toList = [] := by decide +kernel
      rw [e] at hc
      cases hc
    generalize Str.ofString "" = t0 at tl tk ⊢
    refine ⟨_, rfl, p, l, _, rfl, by decide, B1, fun m H4 m0 m1 B4 k4 => ?_⟩
    refine ⟨m, rfl, by omega, by omega, for_range (lo := 0) (n := m.toNat) (fun i σ H5 => ∃ (z : Str) (v4 : Option V), σ = [some (.ref p), some (.int 200), some (.str sgn), some (.str z), v4] ∧ z.length ≤ 200 ∧ txtOk z ∧ BoxAt H5 p l ∧ Keep p H H5)
      ⟨t0, _, rfl, tl, tk, B4, k1.trans k4⟩ ?_ ?_⟩
    · rintro i σ H5 hi ⟨z, v4, rfl, zl, zk, B5, k5⟩
      refine ⟨_, rfl, _, rfl, by omega, _, rfl, _, _, rfl, rfl, _, rfl, ite2 (fun c => ?_) (fun c => ?_)⟩
      · have c' : ((z.length : Nat) : Int) < 200 := of_decide_eq_true c
        refine ⟨_, rfl, _, rfl, _, rfl, p, l, _, rfl, by decide, B5, fun i H6 i0 i1 B6 k6 => ?_⟩
        obtain ⟨c, hc, lc⟩ := sgn_at i0 i1
        have l1 : (⟨#[c]⟩ : Str).length = 1 := rfl
        refine ⟨_, _, c, rfl, rfl, hsg, hc, _, _, rfl, rfl, by omega, ?_⟩
        exact ⟨_, _, rfl, by rw [PySem.Str.length_append]; omega, txtOk_app zk (txtOk_one lc), B6, k5.trans k6⟩
      · exact ⟨z, _, rfl, zl, zk, B5, k5⟩
    · rintro σ H5 ⟨z, v4, rfl, zl, zk, B5, k5⟩
      exact ⟨_, rfl, q z H5 zl zk B5 k5⟩
structure Good (a : Vl) : Prop where
  ok : a.ok
  sh : SeqAt.shaped a.d = true
  dk : okD 6 a.d = true
  ob : ∀ t n, a = .obj t n → ∃ ts : List Int, t = .tuple (ts.map PyData.int)
theorem lay_txt {z : Str} (h : txtOk z) : PyData.canLay0 (.str z) = true := by
  show (z.cps.all fun x => decide (x < 0x110000)) = true
  rw [← Array.all_toList, List.all_eq_true]
  exact fun c hc => decide_eq_true (h c hc)
theorem good_non : Good .non := ⟨trivial, by decide +kernel, by decide +kernel, fun _ _ e => nomatch e⟩
theorem good_bl (b : Bool) : Good (.bl b) := ⟨trivial, by cases b <;> decide +kernel, by cases b <;> decide +kernel, fun _ _ e => nomatch e⟩
theorem lay_two {k : Str} {d : PyData} (hk : PyData.canLay0 (.str k) = true) (hd : PyData.canLay0 d = true) (h : d.depth = 0) : SeqAt.shaped (.tuple [.str k, d]) = true := by
  have e1 : PyData.canLay0 (.tuple [.str k, d]) = true := by
    simp only [PyData.canLay0, PyData.canLayAll0] at hk ⊢
    rw [hk, hd]
    rfl
  have e2 : (PyData.tuple [.str k, d]).depth ≤ 64 := by
    simp only [PyData.depth, PyData.depthAll]
    rw [h]
    decide
  unfold SeqAt.shaped
  rw [e1, decide_eq_true e2]
  rfl
theorem good_int {n : Int} (h : n.natAbs < 1000000000000000000000000000000000000000000000000000000000000) : Good (.int n) :=
  ⟨h, lay_two (k := "int") (by decide +kernel) (by simp only [PyData.canLay0]) (by simp only [PyData.depth]), by simp [Vl.d, Vl.rest, okD], fun _ _ e => nomatch e⟩
theorem good_txt {z : Str} (h : z.length ≤ 1000) (k : txtOk z) : Good (.txt z) :=
  ⟨h, lay_two (k := "text") (by decide +kernel) (lay_txt k) (by simp only [PyData.depth]), by simp [Vl.d, Vl.rest, okD], fun _ _ e => nomatch e⟩
theorem lay_ints : ∀ ts : List Int, PyData.canLayAll0 (ts.map PyData.int) = true ∧ PyData.depthAll (ts.map PyData.int) = 0
  | [] => ⟨by simp only [List.map_nil, PyData.canLayAll0], by simp only [List.map_nil, PyData.depthAll]⟩
  | t :: ts => by
    obtain ⟨h1, h2⟩ := lay_ints ts
    refine ⟨?_, ?_⟩
    · simp only [List.map_cons, PyData.canLayAll0, PyData.canLay0]
      rw [h1]
      rfl
    · simp only [List.map_cons, PyData.depthAll, PyData.depth]
      rw [h2]
      rfl
theorem good_obj {ts : List Int} {n : Int} (h : ts.length ≤ 1000) : Good (.obj (.tuple (ts.map PyData.int)) n) := by
  obtain ⟨h1, h2⟩ := lay_ints ts
  have hk : PyData.canLay0 (.str "object") = true := by decide +kernel
  refine ⟨trivial, ?_, ?_, fun _ _ e => ⟨ts, (Vl.obj.inj e).1.symm⟩⟩
  · have e1 : PyData.canLay0 (Vl.obj (.tuple (ts.map PyData.int)) n).d = true := by
      simp only [Vl.d, Vl.kind, Vl.rest, PyData.canLay0, PyData.canLayAll0] at hk ⊢
      rw [hk, h1]
      rfl
    have e2 : (Vl.obj (.tuple (ts.map PyData.int)) n).d.depth ≤ 64 := by
      simp only [Vl.d, Vl.kind, Vl.rest, PyData.depth, PyData.depthAll]
      rw [h2]
      decide
    unfold SeqAt.shaped
    rw [e1, decide_eq_true e2]
    rfl
  · simp [Vl.d, Vl.rest, okD, h]
theorem dp_ints {K : PySem.W.Frag} {H : Hp} : ∀ ts : List Int, DpAll K H (ts.map V.int) (ts.map PyData.int)
  | [] => .nil
  | t :: ts => .cons (.int t) (dp_ints ts)
def spValue (K : PySem.W.Frag) : Sp := fun vs H Q _ => ∃ (p l : Addr), vs = [.ref p] ∧ BoxAt H p l ∧ ∀ (v : V) (a : Vl) (H' : Hp), Dp K H' v a.d → Good a → BoxAt H' p l → Keep p H H' → Q v H'
theorem ok__law_value (T : Tx K mg w) : FnOk P w K mg base CX0 3 T.d__law_value.f T.d__law_value.fd P__law_value (spValue K) := by
  have G__law_draw := ok__law_draw (P := P) (w := w) (base := base) T
  have G__law_text := ok__law_text (P := P) (w := w) (base := base) T
  have G__law_number := ok__law_number (P := P) (w := w) (base := base) T
  refine T.d__law_value.F.ok sc__law_value (fun vs H Q E h => ?_) (fun cdv A outer s H vs Q E hr h => ?_)
  · obtain ⟨p, l, rfl, _⟩ := h
    rfl
  obtain ⟨p, l, rfl, B, q⟩ := h
  refine ⟨_, (pss_cons (ps_set (i := 1) sc__law_value.nd rfl (Or.inl rfl) (pe_call G__law_draw (hr.mono (by omega)) (by rfl) T.d__law_draw.m T.d__law_draw.F.kp T.d__law_draw.b .nil pass0 (pa_cons (pv 0) (pa_cons pe_int pa_nil))))
    (pss_cons (ps_if (pt_cmpR op_eq (pv 1) pe_int (nomark _))
      (pss_one (ps_ret (pe_tup (pa_cons pe_str pa_nil))))
      pss_nil)
    (pss_cons (ps_if (pt_cmpR op_eq (pv 1) pe_int (nomark _))
      (pss_one (ps_ret (pe_tup (pa_cons pe_str (pa_cons (pe_cmpR op_eq (pe_call G__law_draw (hr.mono (by omega)) (by rfl) T.d__law_draw.m T.d__law_draw.F.kp T.d__law_draw.b .nil pass0 (pa_cons (pv 0) (pa_cons pe_int pa_nil))) pe_int (nomark _)) pa_nil)))))
      pss_nil)
    (pss_cons (ps_if (pt_cmpR op_eq (pv 1) pe_int (nomark _))
      (pss_one (ps_ret (pe_tup (pa_cons pe_str (pa_cons (pe_call G__law_text (hr.mono (by omega)) (by rfl) T.d__law_text.m T.d__law_text.F.kp T.d__law_text.b .nil pass0 (pa_cons (pv 0) (pa_cons pe_int pa_nil))) pa_nil)))))
      pss_nil)
    (pss_cons (ps_if (pt_cmpR op_eq (pv 1) pe_int (nomark _))
      (pss_cons (ps_set (i := 2) sc__law_value.nd rfl (Or.inl rfl) (pe_tup pa_nil))
    (pss_cons (ps_for PassesOwn.never rfl (pi_range1 (by rfl) T.z_range (pa_cons (pe_call G__law_draw (hr.mono (by omega)) (by rfl) T.d__law_draw.m T.d__law_draw.F.kp T.d__law_draw.b .nil pass0 (pa_cons (pv 0) (pa_cons pe_int pa_nil))) pa_nil)) (pg_name (i := 3) sc__law_value.nd rfl (Or.inl rfl))
      (pss_one (ps_set (i := 2) sc__law_value.nd rfl (Or.inl rfl) (pe_op op_catA (pv 2) (pe_tup (pa_cons (pe_call G__law_draw (hr.mono (by omega)) (by rfl) T.d__law_draw.m T.d__law_draw.F.kp T.d__law_draw.b .nil pass0 (pa_cons (pv 0) (pa_cons pe_int pa_nil))) pa_nil))))))
    (pss_one (ps_ret (pe_tup (pa_cons pe_str (pa_cons (pv 2) (pa_cons (pe_call G__law_draw (hr.mono (by omega)) (by rfl) T.d__law_draw.m T.d__law_draw.F.kp T.d__law_draw.b .nil pass0 (pa_cons (pv 0) (pa_cons pe_int pa_nil))) pa_nil))))))))
      pss_nil)
    (pss_one (ps_ret (pe_tup (pa_cons pe_str (pa_cons (pe_call G__law_number (hr.mono (by omega)) (by rfl) T.d__law_number.m T.d__law_number.F.kp T.d__law_number.b .nil pass0 (pa_cons (pv 0) pa_nil)) pa_nil)))))))))), ?_⟩
  refine ⟨_, rfl, p, l, _, rfl, by decide, B, fun kd H1 _ _ B1 k1 => ?_⟩
  refine ⟨_, rfl, rfl, _, rfl, ite2 (fun _ => ?_) (fun _ => ?_)⟩
  · refine ⟨(by decide), fun r nr => ?_⟩
    have s1 := same_new nr (.tup [.str "none"])
    exact q _ .non _ (.tup (SqT.of upd_same) (.cons (.str "none") .nil)) good_non (B1.same s1) (k1.trans (.of s1))
  refine ⟨_, rfl, rfl, _, rfl, ite2 (fun _ => ?_) (fun _ => ?_)⟩
  · refine ⟨_, rfl, p, l, _, rfl, by decide, B1, fun z H2 _ _ B2 k2 => ⟨rfl, two_le, fun r nr => ?_⟩⟩
    have s1 := same_new nr (.tup [.str "bool", .bl (decide (V.int z = V.int 1))])
    exact q _ (.bl _) _ (dp_two upd_same (.bl _)) (good_bl _) (B2.same s1) ((k1.trans k2).trans (.of s1))
  refine ⟨_, rfl, rfl, _, rfl, ite2 (fun _ => ?_) (fun _ => ?_)⟩
  · refine ⟨_, rfl, p, l, rfl, B1, fun z H2 hz kz B2 k2 => ⟨two_le, fun r nr => ?_⟩⟩
    have s1 := same_new nr (.tup [.str "text", .str z])
    exact q _ (.txt z) _ (dp_two upd_same (.str z)) (good_txt (by omega) kz) (B2.same s1) ((k1.trans k2).trans (.of s1))
  refine ⟨_, rfl, rfl, _, rfl, ite2 (fun _ => ?_) (fun _ => ?_)⟩
  · refine ⟨(by decide), fun t0 n0 => ?_⟩
    have s0 := same_new n0 (.tup [])
    have B2 := B1.same s0
    have k2 := k1.trans (Keep.of (p := p) s0)
    refine ⟨_, rfl, p, l, _, rfl, by decide, B2, fun m H3 m0 m1 B3 k3 => ?_⟩
    refine ⟨m, rfl, by omega, by omega, for_range (lo := 0) (n := m.toNat) (fun i σ H4 => ∃ (t : Addr) (ts : List Int) (v1 v3 : Option V), σ = [some (.ref p), v1, some (.ref t), v3] ∧ H4 t = some (.tup (ts.map V.int)) ∧ ts.length ≤ i ∧ t ≠ p ∧ BoxAt H4 p l ∧ Keep p H H4)
      ⟨t0, [], _, _, rfl, ?_, Nat.le_refl 0, ?_, B3, k2.trans k3⟩ ?_ ?_⟩
    · obtain ⟨⟨k, _, hp⟩, _, _⟩ := B1
      exact k3 _ _ upd_same (ne_of_none hp n0).symm
    · obtain ⟨⟨k, _, hp⟩, _, _⟩ := B1
      exact (ne_of_none hp n0).symm
    · rintro i σ H4 hi ⟨t, ts, v1, v3, rfl, ht, tl, tp, B4, k4⟩
      refine ⟨_, rfl, _, rfl, p, l, _, rfl, by decide, B4, fun z H5 _ _ B5 k5 => ⟨one_le, fun r nr => ?_⟩⟩
      have s5 := same_new nr (.tup [.int z])
      have ht5 : upd H5 r (.tup [.int z]) t = some (.tup (ts.map V.int)) := s5 _ _ (k5 _ _ ht tp)
      have B6 := B5.same s5
      have k6 := (k4.trans k5).trans (Keep.of (p := p) s5)
      have lin : (ts.map V.int).length + 1 ≤ sizeLine := by
        rw [List.length_map]
        exact lines (by omega)
      have rp : r ≠ p := by
        obtain ⟨⟨k, _, hp⟩, _, _⟩ := B5
        exact (ne_of_none hp nr).symm
      refine ⟨t, r, _, _, rfl, rfl, SqT.of ht5, SqT.of upd_same, lin, fun e => ?_, fun _ e => absurd e (by simp), fun _ _ u nu => ?_⟩
      · exact ⟨r, [z], _, _, rfl, upd_same, by simp, rp, B6, k6⟩
      · have s6 := same_new nu (.tup (ts.map V.int ++ [.int z]))
        have up : u ≠ p := by
          obtain ⟨⟨k, _, hp⟩, _, _⟩ := B6
          exact (ne_of_none hp nu).symm
        exact ⟨u, ts ++ [z], _, _, rfl, by rw [upd_same, List.map_append]; rfl, by rw [List.length_append, List.length_singleton]; omega, up, B6.same s6, k6.trans (.of s6)⟩
    · rintro σ H4 ⟨t, ts, v1, v3, rfl, ht, tl, tp, B4, k4⟩
      refine ⟨_, rfl, _, rfl, p, l, _, rfl, by decide, B4, fun z H5 _ _ B5 k5 => ⟨three_le, fun r nr => ?_⟩⟩
      have s1 := same_new nr (.tup [.str "object", .ref t, .int z])
      refine q _ (.obj (.tuple (ts.map PyData.int)) z) _ ?_ (good_obj (by omega)) (B5.same s1) ((k4.trans k5).trans (.of s1))
      exact .tup (SqT.of upd_same) (.cons (.str "object") (.cons (.tup (SqT.of (s1 _ _ (k5 _ _ ht tp))) (dp_ints ts)) (.cons (.int z) .nil)))
  refine ⟨_, rfl, p, l, rfl, B1, fun z H2 hz B2 k2 => ⟨two_le, fun r nr => ?_⟩⟩
  have s1 := same_new nr (.tup [.str "int", .int z])
  exact q _ (.int z) _ (dp_two upd_same (.int z)) (good_int hz) (B2.same s1) ((k1.trans k2).trans (.of s1))
/-! ### more on data -/
theorem dp_keep {K : PySem.W.Frag} {H H' : Hp} {p : Addr} (hp : ∃ xs, H p = some (.lst xs)) (k : Keep p H H') : ∀ (m : Nat) (v : V) (d : PyData), okD m d = true → Dp K H v d → Dp K H' v d
  | 0, _, d, h, _ => by simp [okD] at h
  | m + 1, v, d, h, x => by
    obtain ⟨ys, hp⟩ := id hp
    cases x with
    | non => exact .non
    | bl b => exact .bl b
    | int i => exact .int i
    | str s => exact .str s
    | lst _ _ => simp [okD] at h
    | @tup a xs ds hs ha =>
      have hd := (okD_tup h).2
      refine .tup (xs := xs) ?_ ?_
      · rcases hs with (g | ⟨o, g⟩) | g
        · exact .inl (.inl (k _ _ g (ne_of g hp (fun z => by cases z))))
        · exact .inl (.inr ⟨o, k _ _ g (ne_of g hp (fun z => by cases z))⟩)
        · exact .inr g
      · have go : ∀ {xs : List V} {ds : List PyData}, DpAll K H xs ds → (∀ d ∈ ds, okD m d = true) → DpAll K H' xs ds := by
          intro xs
          induction xs with
          | nil =>
            intro ds a _
            cases a
            exact .nil
          | cons x xs ih =>
            intro ds a hd
            cases a with
            | cons a b => exact .cons (dp_keep ⟨ys, hp⟩ k m _ _ (hd _ List.mem_cons_self) a) (ih b fun d hd' => hd d (List.mem_cons_of_mem _ hd'))
        exact go ha hd
theorem BoxAt.lst {H : Hp} {p l : Addr} (B : BoxAt H p l) : ∃ xs, H p = some (.lst xs) := by
  obtain ⟨⟨k, _, h⟩, _, _⟩ := B
  exact ⟨_, h⟩
theorem eqv_tup (xs ys : List PyData) : PyData.eqv (.tuple xs) (.tuple ys) = PyData.eqvAll xs ys := by simp only [PyData.eqv]
theorem eqvAll_cons (x y : PyData) (xs ys : List PyData) : PyData.eqvAll (x :: xs) (y :: ys) = (PyData.eqv x y && PyData.eqvAll xs ys) := by simp only [PyData.eqvAll]
theorem eqvAll_nil : PyData.eqvAll [] [] = true := by simp only [PyData.eqvAll]
theorem kinds_apart {k m : Str} {xs ys : List PyData} (h : (k == m) = false) : PyData.eqv (.tuple (.str k :: xs)) (.tuple (.str m :: ys)) = false ∧ sameD (.tuple (.str k :: xs)) (.tuple (.str m :: ys)) = false := by
  refine ⟨?_, ?_⟩
  · rw [eqv_tup, eqvAll_cons]
    simp only [PyData.eqv]
    rw [h]
    rfl
  · rw [sameD_tup, sameAll_cons]
    simp only [sameD]
    rw [h]
    rfl
theorem vl_apart {a b : Vl} (h : (a.kind == b.kind) = false) : PyData.eqv a.d b.d = false ∧ sameD a.d b.d = false := kinds_apart h
/-- all objects but lists are as they were -/
def KeepT (H H' : Hp) : Prop := ∀ b o, H b = some o → (∀ xs, o ≠ .lst xs) → H' b = some o
theorem KeepT.refl (H : Hp) : KeepT H H := fun _ _ h _ => h
theorem KeepT.trans {H H1 H2 : Hp} (a : KeepT H H1) (b : KeepT H1 H2) : KeepT H H2 := fun c o h n => b c o (a c o h n) n
theorem KeepT.same {H H' : Hp} (s : Same H H') : KeepT H H' := fun b o h _ => s b o h
theorem KeepT.keep {p : Addr} {H H' : Hp} (hp : ∃ xs, H p = some (.lst xs)) (k : Keep p H H') : KeepT H H' := fun b o h n => by
  obtain ⟨xs, hp⟩ := hp
  refine k b o h fun e => ?_
  subst e
  rw [hp] at h
  exact n xs (Option.some.inj h).symm
theorem KeepT.updL {p : Addr} {H : Hp} {o : HO} (hp : ∃ xs, H p = some (.lst xs)) : KeepT H (upd H p o) := KeepT.keep hp Keep.upd
theorem sqT_keep {K : PySem.W.Frag} {H H' : Hp} {a : Addr} {xs : List V} (k : KeepT H H') (h : SqT K H a xs) : SqT K H' a xs := by
  rcases h with (g | ⟨o, g⟩) | g
  · exact .inl (.inl (k _ _ g fun _ e => nomatch e))
  · exact .inl (.inr ⟨o, k _ _ g fun _ e => nomatch e⟩)
  · exact .inr g
theorem dp_keepT {K : PySem.W.Frag} {H H' : Hp} (k : KeepT H H') : ∀ (m : Nat) (v : V) (d : PyData), okD m d = true → Dp K H v d → Dp K H' v d
  | 0, _, d, h, _ => by simp [okD] at h
  | m + 1, v, d, h, x => by
    cases x with
    | non => exact .non
    | bl b => exact .bl b
    | int i => exact .int i
    | str s => exact .str s
    | lst _ _ => simp [okD] at h
    | @tup a xs ds hs ha =>
      have hd := (okD_tup h).2
      refine .tup (xs := xs) (sqT_keep k hs) ?_
      have go : ∀ {xs : List V} {ds : List PyData}, DpAll K H xs ds → (∀ d ∈ ds, okD m d = true) → DpAll K H' xs ds := by
        intro xs
        induction xs with
        | nil =>
          intro ds a _
          cases a
          exact .nil
        | cons x xs ih =>
          intro ds a hd
          cases a with
          | cons a b => exact .cons (dp_keepT k m _ _ (hd _ List.mem_cons_self) a) (ih b fun d hd' => hd d (List.mem_cons_of_mem _ hd'))
      exact go ha hd
/-! ### tuples whose object is known, for their methods -/
section
open PySem.Spec PyProof.Rows
variable {X : Cx}
def TupO (o : Obj) : Prop := o.cls = .type "tuple" ∧ o.dict = none
def tTupF (t : TA) : TE := fun σ H Q => t σ H fun xs H' => xs.length ≤ sizeLine ∧ ∀ (p : Addr) (o : Obj), H' p = none → TupO o → Q (.ref p) (upd H' p (.frz o (.tup xs)))
theorem pe_tupF {es : List Expr} {t : TA} {pos : Pos} {x1 : Nat} (h : PA X es t) : PE X (.Tuple es x1 pos) (tTupF t) := by
  constructor
  intro pins s σ H Q I hq
  apply wpAny_Tuple_spliced
  refine thn (h.run pos pins s σ H _ I hq) ?_
  rintro us s1 ⟨xs, H', I', r, z, q⟩
  have fr := I'.hok.fresh (Nat.le_refl s1.heap.objs.size)
  have get := Heap.get?_push_size s1.heap (o := { cls := .type "tuple", data := .seq us.toArray }) rfl
  refine ⟨by rw [← r.length]; exact z, .ref s1.heap.objs.size, _, I'.laid (o := .frz { cls := .type "tuple", data := .seq us.toArray } (.tup xs)) (t' := s1.toks) (fun _ _ e => Heap.get?_push_of_some _ e) (Nat.le_refl _) ?_, rfl, q _ _ fr ⟨rfl, rfl⟩⟩
  exact ⟨get, z, us, r, _, get, rfl, _, rfl⟩
def rCatF (K : PySem.W.Frag) : R2 := fun x y H Q => ∃ a b xs ys, x = .ref a ∧ y = .ref b ∧ SqT K H a xs ∧ SqT K H b ys ∧ xs.length + ys.length ≤ sizeLine ∧ xs ≠ [] ∧ ys ≠ [] ∧ ∀ (p : Addr) (o : Obj), H p = none → TupO o → Q (.ref p) (upd H p (.frz o (.tup (xs ++ ys))))
theorem op_catF : OpR X (binaryOp .Add) (rCatF X.K) := by
  intro pins s σ H x y v u Q I rx ry h
  obtain ⟨a, b, xs, ys, rfl, rfl, ha, hb, hz, hx, hy, q⟩ := h
  cases rx
  cases ry
  obtain ⟨its, r1, p1, _⟩ := I.tuple ha
  obtain ⟨jts, r2, p2, _⟩ := I.tuple hb
  have e1 : its ≠ [] := fun z => hx (r1.nil_iff.mp z)
  have e2 : jts ≠ [] := fun z => hy (r2.nil_iff.mp z)
  have fr := I.hok.fresh (Nat.le_refl s.heap.objs.size)
  have get := Heap.get?_push_size s.heap (o := { cls := .type "tuple", data := .seq (its ++ jts).toArray }) rfl
  refine HT.cat_tup p1 p2 e1 (fun z => absurd z e2) (fun _ => ?_) (by rw [← r1.length, ← r2.length]; exact hz)
  refine ⟨.ref s.heap.objs.size, _, I.laid (o := .frz { cls := .type "tuple", data := .seq (its ++ jts).toArray } (.tup (xs ++ ys))) (t' := s.toks) (fun _ _ e => Heap.get?_push_of_some _ e) (Nat.le_refl _) ?_, rfl, q _ _ fr ⟨rfl, rfl⟩⟩
  exact ⟨get, by rw [List.length_append]; exact hz, _, r1.append r2, _, get, rfl, _, rfl⟩
def rCatE (K : PySem.W.Frag) : R2 := fun x y H Q => (∃ a b ys, x = .ref a ∧ y = .ref b ∧ SqT K H a [] ∧ SqT K H b ys ∧ ys.length ≤ sizeLine ∧ Q (.ref b) H) ∨ rCatF K x y H Q
theorem op_catE : OpR X (binaryOp .Add) (rCatE X.K) := by
  intro pins s σ H x y v u Q I rx ry h
  rcases h with ⟨a, b, ys, rfl, rfl, ha, hb, hz, q⟩ | h
  · exact op_catA pins s σ H _ _ v u Q I rx ry ⟨a, b, [], ys, rfl, rfl, ha, hb, by simpa using hz, fun _ => q, fun z => absurd rfl z, fun z => absurd rfl z⟩
  · exact op_catF pins s σ H x y v u Q I rx ry h
/-- a method of a tuple whose object is known -/
def tMT (r : V → List V → Hp → VK → Prop) (to : TE) (t : TA) : TE := fun σ H Q => to σ H fun x H' => (∃ p o u, x = .ref p ∧ H' p = some (.frz o u) ∧ TupO o) ∧ t σ H' fun xs H'' => r x xs H'' Q
theorem pe_mt {o e : Expr} {to : TE} {t : TA} {nm : Str} {apos cpos : Pos} {id : String} {r : V → List V → Hp → VK → Prop} (slot : Slot "tuple" nm id) (hty : typeOf (.builtin id) = pure (.type "method_descriptor")) (hm : MtR X id r)
    (ho : PE X o to) (ha : PA X [e] t) (hb : attributeBase o nm X.env (eval o X.env) = eval o X.env := by rfl)
    (hf : ((backTo cpos (starEach [e] X.env)).all (fun x => !x.1) && (backToKw cpos (keywordEach [] X.env)).all (fun x => x.1.isSome) && decide (([e] : List Expr).length + ([] : List Keyword).length + (if ([] : List Keyword).isEmpty then 0 else 1) < 30)) = true := by rfl)
    (hl : (apos.endLine == cpos.line) = true := by rfl) (hs : starEach [e] X.env = (false, eval e X.env) :: starEach [] X.env := by rfl) (hp : (backTo cpos (starEach [] X.env)).any (·.1) = false := by rfl) :
    PE X (.Call (.Attribute o nm apos) [e] [] cpos) (tMT r to t) := by
  constructor
  intro pins s σ H Q I h
  refine wpAny_Call_method_late hb hf hl rfl (thn (ho.run pins s σ H _ I h) ?_)
  rintro v s1 ⟨x, H', I', rx, ⟨p, ob, u, rfl, hx, hc, hd⟩, q1⟩
  cases rx
  have ok : ObjOk X.prog X.w H' s1.heap p (.frz ob u) := I'.hok p _ hx
  have g := ok.1
  refine ⟨"tuple", id, PySem.F.plainAttrs_tuple, slot, hty, ⟨ob, g, hc⟩, fun a e => ?_, ?_⟩
  · cases e
    exact ⟨ob, g, hd⟩
  · have hA := ha.run cpos pins s1 σ H' _ I' q1
    rw [hs] at hA ⊢
    refine Calls.callWith_builtin (by show (false || (backTo cpos (starEach [] X.env)).any (·.1)) = false; rw [hp]; rfl) (Calls.evalArgs_plain (thn hA ?_))
    rintro us s2 ⟨vs, H2, I2, r2, q2⟩
    exact hm pins s2 σ H2 (.ref p) vs (.ref p) us Q I2 rfl r2 q2
end
/-! ### data in tuples: made, joined, cut -/
theorem in_strs (n : Str) : ∀ fs : List Str, inV (.str n) (fs.map V.str) = decide (n ∈ fs)
  | [] => by simp [inV]
  | f :: fs => by
    have ih := in_strs n fs
    simp only [inV, List.map_cons, List.any_cons, eqV] at ih ⊢
    rw [ih, Bool.eq_iff_iff]
    simp only [Bool.or_eq_true, beq_iff_eq, decide_eq_true_eq, List.mem_cons]
    exact ⟨fun h => h.elim (fun e => .inl e.symm) .inr, fun h => h.elim (fun e => .inl e.symm) .inr⟩
theorem flat_strs' (fs : List Str) : (fs.map V.str).all flatV = true := by
  rw [List.all_eq_true]
  intro x hx
  obtain ⟨f, _, rfl⟩ := List.mem_map.mp hx
  rfl
section
variable {K : PySem.W.Frag} {H : Hp}
theorem tup_at {v : V} {ds : List PyData} (h : Dp K H v (.tuple ds)) : ∃ a xs, v = .ref a ∧ SqT K H a xs ∧ DpAll K H xs ds := by
  cases h with
  | tup s a => exact ⟨_, _, rfl, s, a⟩
theorem new_tup {p : Addr} {xs : List V} {ds : List PyData} (h : H p = none) (a : DpAll K H xs ds) : Same H (upd H p (.tup xs)) ∧ Dp K (upd H p (.tup xs)) (.ref p) (.tuple ds) :=
  ⟨same_new h _, .tup (SqT.of upd_same) (dp_sames (same_new h _) a)⟩
theorem dpAll_app : ∀ {xs ys : List V} {ds es : List PyData}, DpAll K H xs ds → DpAll K H ys es → DpAll K H (xs ++ ys) (ds ++ es)
  | _, _, _, _, .nil, b => b
  | _, _, _, _, .cons a t, b => .cons a (dpAll_app t b)
theorem dpAll_drop : ∀ {n : Nat} {xs : List V} {ds : List PyData}, DpAll K H xs ds → DpAll K H (xs.drop n) (ds.drop n)
  | 0, _, _, a => a
  | _ + 1, _, _, .nil => .nil
  | n + 1, _, _, .cons _ t => dpAll_drop (n := n) t
theorem dpAll_take : ∀ {n : Nat} {xs : List V} {ds : List PyData}, DpAll K H xs ds → DpAll K H (xs.take n) (ds.take n)
  | 0, _, _, _ => .nil
  | _ + 1, _, _, .nil => .nil
  | n + 1, _, _, .cons a t => .cons a (dpAll_take (n := n) t)
theorem catD {x y : V} {ds es : List PyData} {Q : VK} (hx : Dp K H x (.tuple ds)) (hy : Dp K H y (.tuple es)) (hl : ds.length + es.length ≤ 100000)
    (q : ∀ v H', Same H H' → Dp K H' v (.tuple (ds ++ es)) → Q v H') : rCatA K x y H Q := by
  obtain ⟨a, xs, rfl, sx, ax⟩ := tup_at hx
  obtain ⟨b, ys, rfl, sy, ay⟩ := tup_at hy
  refine ⟨a, b, xs, ys, rfl, rfl, sx, sy, by rw [dpAll_len ax, dpAll_len ay]; exact Nat.le_of_lt (lines hl), fun e => ?_, fun _ e => ?_, fun _ _ p np => ?_⟩
  · subst e
    cases ax
    exact q _ _ (Same.refl _) (.tup sy ay)
  · subst e
    cases ay
    rw [List.append_nil] at q
    exact q _ _ (Same.refl _) (.tup sx ax)
  · have s := same_new np (.tup (xs ++ ys))
    exact q _ _ s (.tup (SqT.of upd_same) (dpAll_app (dp_sames s ax) (dp_sames s ay)))
theorem cutV_from (xs : List V) (n : Nat) : cutV xs (some (n : Int)) none = xs.drop n := by
  unfold cutV
  rw [HT.sIx_nat, HT.sIx_none]
  by_cases h : n ≤ xs.length
  · rw [Nat.min_eq_left h, List.take_of_length_le (by rw [List.length_drop]; exact Nat.le_refl _)]
  · rw [Nat.min_eq_right (by omega), List.drop_length, List.drop_eq_nil_of_le (by omega)]
    simp
theorem cutD {x : V} {ds : List PyData} {z : Int} {n : Nat} {Q : VK} (e : z = (n : Int)) (hx : Dp K H x (.tuple ds)) (q : ∀ v H', Same H H' → Dp K H' v (.tuple (ds.drop n)) → Q v H') {σ : L2.St} : tNoPart σ H fun u H3 => rSlA K x (some z) u H3 Q := by
  subst e
  show rSlA K x (some (n : Int)) none H Q
  obtain ⟨a, xs, rfl, sx, ax⟩ := tup_at hx
  refine ⟨a, xs, rfl, sx, fun h => ?_, fun _ p np => ?_⟩
  · have h0 := h.1
    rw [HT.sIx_nat] at h0
    refine q _ _ (Same.refl _) ?_
    have e0 : ds.drop n = ds := by
      by_cases hn : n = 0
      · subst hn
        rfl
      · have hx0 : xs.length = 0 := by omega
        have hd := dpAll_len ax
        have : ds = [] := List.length_eq_zero_iff.mp (by omega)
        subst this
        simp
    rw [e0]
    exact hx
  · rw [cutV_from]
    have s := same_new np (.tup (xs.drop n))
    exact q _ _ s (.tup (SqT.of upd_same) (dp_sames s (dpAll_drop ax)))
end
/-! ### enumerate(tuple) -/
section
open PySem.Spec PyProof.Rows
set_option maxHeartbeats 4000000 in
theorem meets_enum_tup (l : Addr) (items : Array Value) :
    Meets (Builtin.«enumerate.__new__» ⟨[.type "enumerate", .ref l], []⟩) (fun _ R s => s.heap.IsTuple l items ∧
      R (.ok (.ret (.ref (s.heap.push { cls := .type "tuple_iterator", data := .fields #[.ref l, .int 0 0] }).objs.size)))
        { s with heap := (s.heap.push { cls := .type "tuple_iterator", data := .fields #[.ref l, .int 0 0] }).push { cls := .type "enumerate", data := .fields #[.none, .bool false, .ref s.heap.objs.size, rawInt 0, .none, .none] } }) :=
  .of_wp fun prog w A R s h => by
    obtain ⟨hp, g, d, tk, os⟩ := s
    obtain ⟨hl, h⟩ := h
    have hsub := sub_enumerate
    have q1 : ∀ {A' : Around} {E : Value → Shared → Prop} {Q : Value → Shared → Prop}, Q (.ref hp.objs.size) ⟨hp.push { cls := .type "tuple_iterator", data := .fields #[.ref l, .int 0 0] }, g, d, tk, os⟩ → wpAny (model prog w) A' (pyIter (.ref l)) Q E ⟨hp, g, d, tk, os⟩ :=
      fun q => wpAny_pyIter_tuple (s := ⟨hp, g, d, tk, os⟩) hl q
    wp_walk using q1
    refine wpAny_stack_any fun st => wpAny_pure ?_
    split
    · rename_i c _ _ _ _ _
      cases (c == Value.type "enumerate")
      · wp_walk using q1
        exact ⟨_, rfl, h⟩
      · wp_walk using q1
        exact ⟨_, rfl, h⟩
    · wp_walk using q1
      exact ⟨_, rfl, h⟩
theorem call_enum_tup {prog : Program} {w : World} {A : Around} {E : Value → Shared → Prop} {s : Shared} {l : Addr} {items : Array Value} {Q : Value → Shared → Prop} (hL : s.heap.IsTuple l items)
    (h : ∀ h', IsEnum h' (s.heap.objs.size + 1) s.heap.objs.size 0 .none → h'.IsTupleIter s.heap.objs.size l 0 →
      (∀ b o, s.heap.get? b = some o → h'.get? b = some o) → Q (.ref (s.heap.objs.size + 1)) { s with heap := h' }) :
    wpAny (model prog w) A (call (.type "enumerate") [.ref l]) Q E s := by
  refine callType_new F.called_enumerate (by decide) (F.typeCall_enumerate_1 _) (F.newCall_enumerate_1 _) (fun obj => F.args_object_init_2 obj _) F.entry_enumerate_new
    (meets_enum_tup l items) ⟨hL, ?_⟩
  have hz : (s.heap.push { cls := .type "tuple_iterator", data := .fields #[.ref l, .int 0 0] }).objs.size = s.heap.objs.size + 1 := Heap.size_push ..
  show _ ∧ _
  rw [hz]
  have he : IsEnum ((s.heap.push { cls := .type "tuple_iterator", data := .fields #[.ref l, .int 0 0] }).push
      { cls := .type "enumerate", data := .fields #[.none, .bool false, .ref s.heap.objs.size, rawInt 0, .none, .none] }) (s.heap.objs.size + 1) s.heap.objs.size 0 .none := by
    have := Heap.get?_push_size (s.heap.push { cls := .type "tuple_iterator", data := .fields #[.ref l, .int 0 0] })
      (o := { cls := .type "enumerate", data := .fields #[.none, .bool false, .ref s.heap.objs.size, rawInt 0, .none, .none] }) rfl
    rw [hz] at this; exact this
  refine ⟨⟨_, he, rfl⟩, h _ he ⟨_, Heap.get?_push_of_some _ (Heap.get?_push_size _ rfl), rfl, rfl⟩ fun b o x => Heap.get?_push_of_some _ (Heap.get?_push_of_some _ x)⟩
/-- the tuple at a, each item in a new pair -/
def IteT (K : PySem.W.Frag) (a : Addr) : It :=
  ⟨fun i H => ∃ (xs : List V) (x : V), SqT K H a xs ∧ xs[i]? = some x, fun i H v H' => ∃ T x, v = .ref T ∧ H T = none ∧ H' = upd H T (.tup [.int (i : Nat), x]) ∧ ∀ xs, SqT K H a xs → xs[i]? = some x, fun i H => ∃ xs : List V, SqT K H a xs ∧ xs.length ≤ i⟩
theorem turn_enumT {P : Program} {w : World} {K : PySem.W.Frag} {elts : List Expr} {kk : Nat} {tpos : Pos} (a e it : Addr) :
    Turn P w K (.Tuple elts kk tpos) (IteT K a) [e, it] e (fun i h => (∃ old, IsEnum h e it ((i : Nat) : Int) old) ∧ h.IsTupleIter it a i ∧ e ≠ it) where
  mem := by simp
  obj := fun i h st b hb => by
    obtain ⟨⟨old, he⟩, ⟨o, ho, hc, hd⟩, _⟩ := st
    have e' : b = e ∨ b = it := by simpa using hb
    rcases e' with z | z
    · rw [z]; exact ⟨_, he, fun v q => nomatch q⟩
    · rw [z]; exact ⟨o, ho, fun v q => by rw [hd] at q; cases q⟩
  keep := fun i h h' st k => let ⟨⟨old, he⟩, hi, hne⟩ := st; ⟨⟨old, k e (by simp) _ he⟩, hi.at fun o q => k it (by simp) o q, hne⟩
  item := by
    intro X hP hw hK hc i pins s σ H E I hf st hg
    subst hP hw hK
    obtain ⟨⟨old, he⟩, hit, hne⟩ := st
    obtain ⟨xs, x, hq, hx⟩ := hg
    obtain ⟨its, rv, p, hz⟩ := I.tuple hq
    obtain ⟨u, hu, ru⟩ := rv.get hx
    have p : s.heap.IsTuple a its.toArray := p
    have hel : e < s.heap.objs.size := Heap.lt_size he
    have hil : it < s.heap.objs.size := by obtain ⟨_, q, _⟩ := hit; exact Heap.lt_size q
    have hea : a ≠ e := fun z => by
      obtain ⟨o, ho, hc', _⟩ := p
      rw [z] at ho
      have e' := Option.some.inj (ho.symm.trans he)
      rw [e'] at hc'
      have hc2 : Value.type "enumerate" = Value.type "tuple" := hc'
      injection hc2 with hc3
      exact absurd hc3 (by decide)
    have hia : a ≠ it := fun z => by
      obtain ⟨o, ho, hc', _⟩ := p
      obtain ⟨o2, ho2, hc2, _⟩ := hit
      rw [z] at ho
      have e' := Option.some.inj (ho.symm.trans ho2)
      rw [e', hc2] at hc'
      injection hc' with hc3
      exact absurd hc3 (by decide)
    have hlt : i < its.toArray.size := by
      have := (List.getElem?_eq_some_iff.mp hu).1
      simpa using this
    refine wpAny_pyNext_enum_itemD (Draws.tuple (A := X.A.in1) (show X.A.in1.handled = none from I.ok.hd hc) it a hia its.toArray) he ⟨hit, p⟩ hlt hne (by simp [hne, hea.symm]) fun x' h' tk hP ho hst hT hsz hk => ?_
    have ex : x' = u := by
      have h1 : its[i]? = some x' := by simpa using hP
      rw [hu] at h1
      exact (Option.some.inj h1).symm
    subst ex
    obtain ⟨hit', _⟩ := hst
    refine ⟨_, rfl, wpAny_letOwnedTupleGo_enum (s := { s with heap := h', toks := tk + 1 }) ho fun h'' he' sb => ?_⟩
    have hT2 : h''.get? s.heap.objs.size = some { cls := .type "tuple", data := .seq #[.int i tk, x'] } := (sb.2 _ (Nat.ne_of_gt hel)).trans hT
    have new : ObjOk X.prog X.w (upd H s.heap.objs.size (.tup [.int (i : Nat), x])) h'' s.heap.objs.size (.tup [.int (i : Nat), x]) :=
      ⟨by show 2 ≤ sizeLine; decide, [.int i tk, x'], .cons ⟨_, rfl⟩ (.cons ru .nil), ⟨_, hT2, rfl, _, rfl⟩⟩
    have I1 : Inv X pins σ (upd H s.heap.objs.size (.tup [.int (i : Nat), x])) { s with heap := h'', toks := tk + 1 } :=
      I.turnedNew (ch := [e, it]) (fun b ob hb q => (sb.2 b (fun z => hb (by simp [z]))).trans (hk b ob (fun z => hb (by simp [z])) (fun z => hb (by simp [z])) q)) hf (Nat.le_refl _) new
    refine ⟨.ref s.heap.objs.size, _, I1, rfl, ⟨_, x, rfl, I.hok.fresh (Nat.le_refl _), rfl, fun ys hy => by rw [I.tuple_inj hy hq]; exact hx⟩, ⟨⟨x', ?_⟩, hit'.at fun o q => (sb.2 it (Ne.symm hne)).trans q, hne⟩, fun b hb => ?_⟩
    · have e1 : ((i + 1 : Nat) : Int) = (i : Int) + 1 := by omega
      rw [e1]; exact he'
    · have hb' : b < s.heap.objs.size := by
        have e' : b = e ∨ b = it := by simpa using hb
        rcases e' with z | z
        · rw [z]; exact hel
        · rw [z]; exact hil
      rw [upd_ne (Nat.ne_of_lt hb')]
      exact (hf b hb).1
  done := by
    intro X hP hw hK hc i pins s σ H E I hf st hg
    subst hP hw hK
    obtain ⟨⟨old, he⟩, hit, hne⟩ := st
    obtain ⟨xs, hq, hx⟩ := hg
    obtain ⟨its, rv, p, hz⟩ := I.tuple hq
    have p : s.heap.IsTuple a its.toArray := p
    obtain ⟨f0, f1, f2, f3, f4, f5⟩ := hf it (by simp)
    have hl := rv.length
    have hia : a ≠ it := fun z => by
      obtain ⟨o, ho, hc', _⟩ := p
      obtain ⟨o2, ho2, hc2, _⟩ := hit
      rw [z] at ho
      have e' := Option.some.inj (ho.symm.trans ho2)
      rw [e', hc2] at hc'
      injection hc' with hc3
      exact absurd hc3 (by decide)
    have D : Draws X.prog X.w X.A.in1 it [it, a] i (fun _ _ => True) (fun j h => j = i ∧ h.IsTupleIter it a i ∧ h.IsTuple a its.toArray) :=
      ⟨fun _ _ st => let ⟨o, ho, _⟩ := st.2.1; ⟨o, ho⟩, fun _ _ _ st hk => ⟨st.1, st.2.1.at fun o e => hk it (by simp) o e, st.2.2.at fun o e => hk a (by simp) o e⟩,
        fun j s Q E hj st _ => absurd st.1 (Nat.ne_of_lt hj), fun s Q E st hE => wpAny_nextOf_tuple_end (I.ok.hd hc) st.2.1 st.2.2 (by simp; omega) hE⟩
    exact wpAny_pyNext_enum_endD D he ⟨rfl, hit, p⟩ fun h' eb => ⟨rfl, I.turned (t' := s.toks) (fun b o hb q => eb b o hb q) f0 f1 f3 f4 f5⟩
  self := fun A i s Q E st h => let ⟨⟨_, he⟩, _⟩ := st; wpAny_pyIter_enum he h
def iEnumT (K : PySem.W.Frag) (ta : TA) : TI := fun σ H R => ta σ H fun vs H1 => ∃ a xs, vs = [.ref a] ∧ SqT K H1 a xs ∧ R (IteT K a) H1
theorem pi_enumT {X : Cx} {e : Expr} {ta : TA} {p pos tpos : Pos} {elts : List Expr} {kk : Nat} (hg : Gl X "enumerate") (hm : X.mg "enumerate" = none) (ha : PA X [e] ta) (hs : starEach [e] X.env = [(false, eval e X.env)] := by rfl) :
    PI X (.Tuple elts kk tpos) (.Call (.Name "enumerate" p) [e] [] pos) (iEnumT X.K ta) := by
  refine ⟨fun pins s σ H R I h => ?_⟩
  refine Call_ (ld_blt I hg hm boot_enumerate (PyProof.Rows.callWith_type1 (thn (ha.run pos pins s σ H _ I h) fun us s1 ⟨vs, H1, I1, r1, q1⟩ => ?_) hs rfl))
  obtain ⟨a, xs, ex, hq, q⟩ := q1
  subst ex
  cases r1 with
  | cons r rr =>
    cases rr
    cases r
    obtain ⟨its, rv, p', hz⟩ := I1.tuple hq
    refine call_enum_tup (show s1.heap.IsTuple a its.toArray from p') fun h' he hit hk => wpAny_pyIter_enum he ?_
    have I2 : Inv X pins σ H1 { s1 with heap := h' } := I1.kept (t' := s1.toks) hk
    refine ⟨s1.heap.objs.size + 1, [s1.heap.objs.size + 1, s1.heap.objs.size], _, _, H1, rfl, I2, turn_enumT a (s1.heap.objs.size + 1) s1.heap.objs.size, ⟨⟨.none, he⟩, hit, Nat.succ_ne_self _⟩, fun b hb => ?_, q⟩
    have e' : b = s1.heap.objs.size + 1 ∨ b = s1.heap.objs.size := by simpa using hb
    have hle : s1.heap.objs.size ≤ b := by
      rcases e' with z | z
      · rw [z]; exact Nat.le_add_right _ _
      · rw [z]; exact Nat.le_refl _
    exact I1.fpOk hle (I1.hok.fresh hle)
theorem for_enumT {K : PySem.W.Frag} {a : Addr} {xs : List V} {g : TG} {tb : TS} {D : Ends} {σ : L2.St} {H : Hp} (Pv : Nat → L2.St → Hp → Prop) (h0 : Pv 0 σ H) (hl : ∀ i σ H, i ≤ xs.length → Pv i σ H → SqT K H a xs)
    (hs : ∀ i x σ H T, xs[i]? = some x → Pv i σ H → H T = none → g (.ref T) σ (upd H T (.tup [.int (i : Nat), x])) fun σ2 H2 => tb { D with nx := Pv (i + 1), ct := Pv (i + 1), bk := D.nx } σ2 H2) (hd : ∀ σ H, Pv xs.length σ H → D.nx σ H) :
    ∃ W : Nat → Nat → L2.St → Hp → Prop, (∃ m, W 0 m σ H) ∧ ∀ i m σ H, W i m σ H →
      ((IteT K a).stop i H ∧ D.nx σ H) ∨ ((IteT K a).go i H ∧ ∃ N : L2.St → Hp → Prop, (∀ σ' H', N σ' H' → ∃ m', m' < m ∧ W (i + 1) m' σ' H') ∧ ∀ x H', (IteT K a).yld i H x H' → g x σ H' fun σ2 H2 => tb { D with nx := N, ct := N, bk := D.nx } σ2 H2) := by
  refine ⟨fun i m σ H => m = xs.length - i ∧ i ≤ xs.length ∧ Pv i σ H, ⟨xs.length, by simp, Nat.zero_le _, h0⟩, ?_⟩
  rintro i m σ H ⟨rfl, hi, p⟩
  have q := hl i σ H hi p
  by_cases hlt : i < xs.length
  · refine .inr ⟨⟨xs, xs[i], q, by simp [hlt]⟩, Pv (i + 1), fun σ' H' p' => ⟨xs.length - (i + 1), by omega, rfl, hlt, p'⟩, fun x H' y => ?_⟩
    obtain ⟨T, z, e1, e2, e3, y⟩ := y
    subst e1 e3
    exact hs i z σ H T (y xs q) p e2
  · have e : i = xs.length := by omega
    subst e
    exact .inl ⟨⟨xs, q, Nat.le_refl _⟩, hd σ H p⟩
end
/-! ### entries of a control -/
inductive En
  | call (a : Int) (t : List Int) (n : Int)
  | guard (a : Int) (t : List Int) (n : Int)
  | loop (a : Int)
  | cnt (a c l : Int)
  | cut
def objD (t : List Int) (n : Int) : PyData := .tuple [.str "object", .tuple (t.map PyData.int), .int n]
def En.kind : En → Str
  | .call _ _ _ => "call"
  | .guard _ _ _ => "guard"
  | .loop _ => "loop"
  | .cnt _ _ _ => "count"
  | .cut => "cut"
def En.rest : En → List PyData
  | .call a t n => [.int a, objD t n]
  | .guard a t n => [.int a, objD t n]
  | .loop a => [.int a]
  | .cnt a c l => [.int a, .int c, .int l]
  | .cut => []
def En.d (e : En) : PyData := .tuple (.str e.kind :: e.rest)
def En.sm : En → Prop
  | .call _ t _ => t.length ≤ 1000
  | .guard _ t _ => t.length ≤ 1000
  | _ => True
def ctrlD (es : List En) : PyData := .tuple (es.map En.d)
theorem okD_ints {n : Nat} (t : List Int) : (t.map PyData.int).all (okD (n + 1)) = true := by
  rw [List.all_eq_true]
  intro x hx
  obtain ⟨i, _, rfl⟩ := List.mem_map.mp hx
  simp [okD]
theorem okD_obj {n : Nat} {t : List Int} {k : Int} (h : t.length ≤ 1000) : okD (n + 3) (objD t k) = true := by
  have z := okD_ints (n := n) t
  simp [objD, okD, h, z]
theorem okD_en {n : Nat} {e : En} (h : e.sm) : okD (n + 4) e.d = true := by
  cases e with
  | call a t k =>
    have z := okD_obj (n := n) (k := k) (show t.length ≤ 1000 from h)
    simp [En.d, En.rest, okD, z]
  | guard a t k =>
    have z := okD_obj (n := n) (k := k) (show t.length ≤ 1000 from h)
    simp [En.d, En.rest, okD, z]
  | loop a => simp [En.d, En.rest, okD]
  | cnt a c l => simp [En.d, En.rest, okD]
  | cut => simp [En.d, En.rest, okD]
theorem okD_ctrl {n : Nat} {es : List En} (hl : es.length ≤ 1000) (h : ∀ e ∈ es, e.sm) : okD (n + 5) (ctrlD es) = true := by
  have z : (es.map En.d).all (okD (n + 4)) = true := by
    rw [List.all_eq_true]
    intro x hx
    obtain ⟨e, he, rfl⟩ := List.mem_map.mp hx
    exact okD_en (h e he)
  simp only [ctrlD, okD, List.length_map, Bool.and_eq_true, decide_eq_true_eq]
  exact ⟨hl, z⟩
theorem en_at {K : PySem.W.Frag} {H : Hp} {v : V} {e : En} (h : Dp K H v e.d) : ∃ a xs, v = .ref a ∧ SqT K H a (.str e.kind :: xs) ∧ DpAll K H xs e.rest := by
  obtain ⟨a, xs, rfl, s, t⟩ := tup_at h
  cases t with
  | cons h1 h2 =>
    cases h1
    exact ⟨a, _, rfl, s, h2⟩
theorem ctrl_get {K : PySem.W.Frag} {H : Hp} {xs : List V} {es : List En} {i : Nat} {v : V} (h : DpAll K H xs (es.map En.d)) (hi : xs[i]? = some v) : ∃ e, es[i]? = some e ∧ Dp K H v e.d := by
  have hl : i < es.length := by
    have h1 := (List.getElem?_eq_some_iff.mp hi).1
    have h2 := dpAll_len h
    rw [List.length_map] at h2
    omega
  have g : (es.map En.d)[i]? = some (es[i]).d := by rw [List.getElem?_map, List.getElem?_eq_getElem hl]; rfl
  obtain ⟨u, h1, h2⟩ := dpAll_get h g
  rw [hi] at h1
  cases h1
  exact ⟨_, List.getElem?_eq_getElem hl, h2⟩
/-- what leaving finds -/
structure Found where
  cuts : Int
  entry : Option En
  rest : List En
def leaveF (fit : List Str) : Int → List En → Found
  | c, [] => ⟨c, none, []⟩
  | c, e :: es => if e.kind ∈ fit then ⟨c, some e, es⟩ else leaveF fit (if e.kind = "cut" then c + 1 else c) es
def optD : Option En → PyData
  | none => .none
  | some e => e.d
def Found.d (f : Found) : PyData := .tuple [.int f.cuts, optD f.entry, ctrlD f.rest]
theorem leave_sm (fit : List Str) : ∀ (es : List En) (c : Int), (∀ e ∈ es, e.sm) → es.length ≤ 1000 → (∀ e, (leaveF fit c es).entry = some e → e.sm) ∧ (∀ e ∈ (leaveF fit c es).rest, e.sm) ∧ (leaveF fit c es).rest.length ≤ 1000
  | [], c, _, _ => ⟨fun _ h => (nomatch h), fun _ h => (nomatch h), Nat.zero_le _⟩
  | e :: es, c, h, hl => by
    unfold leaveF
    have hl' : es.length ≤ 1000 := by
      rw [List.length_cons] at hl
      omega
    split
    · exact ⟨fun e' h' => by cases h'; exact h _ List.mem_cons_self, fun e' h' => h _ (List.mem_cons_of_mem _ h'), hl'⟩
    · exact leave_sm fit es _ (fun e' h' => h _ (List.mem_cons_of_mem _ h')) hl'
theorem okD_found {n : Nat} {fit : List Str} {es : List En} {c : Int} (h : ∀ e ∈ es, e.sm) (hl : es.length ≤ 1000) : okD (n + 6) (leaveF fit c es).d = true := by
  obtain ⟨h1, h2, h3⟩ := leave_sm fit es c h hl
  have z := okD_ctrl (n := n) h3 h2
  have y : okD (n + 5) (optD (leaveF fit c es).entry) = true := by
    cases he : (leaveF fit c es).entry with
    | none => simp [optD, okD]
    | some e => exact okD_en (h1 e he)
  simp [Found.d, okD, y, z]
theorem leave_step {fit : List Str} {es : List En} {i : Nat} {e : En} {c : Int} (h : es[i]? = some e) : leaveF fit c (es.drop i) = if e.kind ∈ fit then ⟨c, some e, es.drop (i + 1)⟩ else leaveF fit (if e.kind = "cut" then c + 1 else c) (es.drop (i + 1)) := by
  obtain ⟨hl, he⟩ := List.getElem?_eq_some_iff.mp h
  rw [List.drop_eq_getElem_cons hl, he]
  rfl
def fitOf (what : Str) : List Str := if what = "call" then ["call"] else if what = "loop" then ["loop", "count"] else ["guard"]
theorem fit_of (T : Tx K mg w) {what : Str} (h : what = "call" ∨ what = "loop" ∨ what = "guard") : ∃ b, KDct K w T.a_FITTING what (.ref b) ∧ ∀ H, SqT K H b ((fitOf what).map V.str) := by
  obtain ⟨b0, h0, g0⟩ := T.k_FITTING_0
  obtain ⟨b1, h1, g1⟩ := T.k_FITTING_1
  obtain ⟨b2, h2, g2⟩ := T.k_FITTING_2
  rcases h with rfl | rfl | rfl
  · exact ⟨b0, ⟨_, _, _, T.q_FITTING.at_, T.q_FITTING.lit, h0, rfl⟩, fun H => .inr (by rw [show fitOf "call" = [("call" : Str)] from by decide +kernel]; exact g0)⟩
  · exact ⟨b1, ⟨_, _, _, T.q_FITTING.at_, T.q_FITTING.lit, h1, rfl⟩, fun H => .inr (by rw [show fitOf "loop" = [("loop" : Str), "count"] from by decide +kernel]; exact g1)⟩
  · exact ⟨b2, ⟨_, _, _, T.q_FITTING.at_, T.q_FITTING.lit, h2, rfl⟩, fun H => .inr (by rw [show fitOf "guard" = [("guard" : Str)] from by decide +kernel]; exact g2)⟩
def spLeave (K : PySem.W.Frag) : Sp := fun vs H Q _ => ∃ (v : V) (what : Str) (es : List En), vs = [v, .str what] ∧ Dp K H v (ctrlD es) ∧ (what = "call" ∨ what = "loop" ∨ what = "guard") ∧ Gives K H (leaveF (fitOf what) 0 es).d Q
theorem ok_leave (T : Tx K mg w) : FnOk P w K mg base CX0 1 T.d_leave.f T.d_leave.fd P_leave (spLeave K) := by
  refine T.d_leave.F.ok sc_leave (fun vs H Q E h => ?_) (fun cdv A outer s H vs Q E hr h => ?_)
  · obtain ⟨v, what, es, rfl, _⟩ := h
    rfl
  obtain ⟨v, what, es, rfl, hv, hw, q⟩ := h
  refine ⟨_, (pss_cons (ps_set (i := 2) sc_leave.nd rfl (Or.inl rfl) (pe_ix ix_kdict (pe_glob (v := V.ref T.a_FITTING) (by rfl) T.c_FITTING rfl) (pv 1) (fun _ _ => rfl)))
    (pss_cons (ps_set (i := 3) sc_leave.nd rfl (Or.inl rfl) pe_int)
    (pss_cons (ps_for PassesOwn.never rfl (pi_enumT (by rfl) T.z_enumerate (pa_cons (pv 0) pa_nil)) (pg_tup (by rfl) (pgs_cons (pg_name (i := 4) sc_leave.nd rfl (Or.inl rfl)) (pgs_cons (pg_name (i := 5) sc_leave.nd rfl (Or.inl rfl)) pgs_nil)))
      (pss_cons (ps_if (pt_cmpR op_in_seq (pe_ix ix_tup (pv 5) pe_int (fun _ _ => rfl)) (pv 2) (by rfl))
      (pss_one (ps_ret (pe_tup (pa_cons (pv 3) (pa_cons (pv 5) (pa_cons (pe_slice sl_tupA (pv 0) (po_some (pe_op op_add (pv 4) pe_int)) po_none) pa_nil))))))
      pss_nil)
    (pss_one (ps_if (pt_cmpR op_eq (pe_ix ix_tup (pv 5) pe_int (fun _ _ => rfl)) pe_str (nomark _))
      (pss_one (ps_aug (i := 3) sc_leave.nd rfl (Or.inl rfl) pe_int ip_add))
      pss_nil))))
    (pss_one (ps_ret (pe_tup (pa_cons (pv 3) (pa_cons pe_non (pa_cons (pe_tup pa_nil) pa_nil))))))))), ?_⟩
  obtain ⟨b, hk, hb⟩ := fit_of (w := w) T hw
  obtain ⟨a, xs, rfl, sx, ax⟩ := tup_at hv
  refine ⟨_, rfl, T.a_FITTING, what, .ref b, rfl, rfl, hk, ?_⟩
  refine ⟨_, rfl, a, xs, rfl, sx, for_enumT (K := K) (a := a) (xs := xs) (fun i σ H1 => ∃ (c : Int) (v4 v5 : Option V), σ = [some (.ref a), some (.str what), some (.ref b), some (.int c), v4, v5] ∧ Same H H1 ∧ leaveF (fitOf what) 0 es = leaveF (fitOf what) c (es.drop i))
    ⟨0, none, none, rfl, Same.refl H, rfl⟩ (fun i σ H1 _ h => by
      obtain ⟨c, v4, v5, _, s1, _⟩ := h
      exact sqT_keep (KeepT.same s1) sx) ?_ ?_⟩
  · rintro i x σ H1 T0 hi ⟨c, v4, v5, rfl, s1, so⟩ nT
    obtain ⟨e, he, hx⟩ := ctrl_get (dp_sames s1 ax) hi
    rw [leave_step he] at so
    have s2 := same_new nT (.tup [.int (i : Nat), x])
    have hx2 := dp_same s2 hx
    obtain ⟨ea, exs, rfl, se, _⟩ := en_at hx2
    refine ⟨T0, _, rfl, SqT.of upd_same, rfl, _, _, rfl, _, _, rfl, rfl, ?_⟩
    refine ⟨_, rfl, ea, _, _, _, rfl, rfl, se, at_of (j := 0) rfl rfl, _, rfl, b, _, rfl, .inr (hb _), rfl, flat_strs' _, _, rfl, ?_⟩
    change if inV (.str e.kind) ((fitOf what).map V.str) = true then _ else _
    rw [in_strs]
    refine ite2 (fun c1 => ?_) (fun c1 => ?_)
    · have c1' := of_decide_eq_true c1
      rw [if_pos c1'] at so
      have d0 : Dp K (upd H1 T0 (.tup [.int (i : Nat), .ref ea])) (.ref a) (.tuple (es.map En.d)) := .tup (sqT_keep (KeepT.same (s1.trans s2)) sx) (dp_sames (s1.trans s2) ax)
      refine ⟨_, rfl, _, rfl, _, rfl, _, rfl, _, _, rfl, rfl, _, rfl, ?_⟩
      refine cutD (n := i + 1) (by omega) d0 fun v H2 s3 d3 => ⟨three_le, fun r nr => ?_⟩
      have s4 := same_new nr (.tup [.int c, .ref ea, v])
      refine q _ _ (((s1.trans s2).trans s3).trans s4) ?_
      rw [so]
      rw [← List.map_drop] at d3
      exact .tup (SqT.of upd_same) (.cons (.int c) (.cons (dp_same (s3.trans s4) hx2) (.cons (dp_same s4 d3) .nil)))
    · have c1' : ¬ e.kind ∈ fitOf what := fun z => c1 (decide_eq_true z)
      rw [if_neg c1'] at so
      refine ⟨_, rfl, ea, _, _, _, rfl, rfl, se, at_of (j := 0) rfl rfl, rfl, _, rfl, op_if (fun e1 => ?_) (fun e1 => ?_)⟩
      · rw [if_pos e1] at so
        refine ⟨_, rfl, _, _, rfl, rfl, ?_⟩
        exact ⟨c + 1, _, _, rfl, s1.trans s2, so⟩
      · rw [if_neg e1] at so
        exact ⟨c, _, _, rfl, s1.trans s2, so⟩
  · rintro σ H1 ⟨c, v4, v5, rfl, s1, so⟩
    have hl := dpAll_len ax
    rw [List.length_map] at hl
    rw [hl, List.drop_length] at so
    refine ⟨_, rfl, by show 0 ≤ sizeLine; decide, fun t0 n0 => ⟨three_le, fun r nr => ?_⟩⟩
    obtain ⟨s3, d3⟩ := new_tup (K := K) n0 DpAll.nil
    have s4 := same_new nr (.tup [.int c, .non, .ref t0])
    refine q _ _ ((s1.trans s3).trans s4) ?_
    rw [so]
    exact .tup (SqT.of upd_same) (.cons (.int c) (.cons .non (.cons (dp_same s4 d3) .nil)))
/-! ### drawn objects, entries -/
theorem dp_objs {K : PySem.W.Frag} {H : Hp} {a : Addr} {v : V} {t : List Int} {n : Int} (h : H a = some (.tup [.str "object", v, .int n])) (hv : Dp K H v (.tuple (t.map PyData.int))) : Dp K H (.ref a) (objD t n) :=
  .tup (SqT.of h) (.cons (.str "object") (.cons hv (.cons (.int n) .nil)))
theorem KeepT.box {H H' : Hp} {p l : Addr} (B : BoxAt H p l) (k : Keep p H H') : KeepT H H' := KeepT.keep B.lst k
def spObj (K : PySem.W.Frag) : Sp := fun vs H Q _ => ∃ (p l : Addr), vs = [.ref p] ∧ BoxAt H p l ∧ ∀ (v : V) (t : List Int) (n : Int) (H' : Hp), Dp K H' v (objD t n) → t.length ≤ 1000 → 0 ≤ n → BoxAt H' p l → KeepT H H' → Q v H'
theorem dp_intsT {K : PySem.W.Frag} {H H' : Hp} {v : V} {t : List Int} (k : KeepT H H') (hl : t.length ≤ 1000) (h : Dp K H v (.tuple (t.map PyData.int))) : Dp K H' v (.tuple (t.map PyData.int)) :=
  dp_keepT k 2 _ _ (by have z := okD_ints (n := 0) t; simp only [okD, List.length_map, Bool.and_eq_true, decide_eq_true_eq]; exact ⟨hl, z⟩) h
theorem ok__law_object (T : Tx K mg w) : FnOk P w K mg base CX0 2 T.d__law_object.f T.d__law_object.fd P__law_object (spObj K) := by
  have G__law_draw := ok__law_draw (P := P) (w := w) (base := base) T
  refine T.d__law_object.F.ok sc__law_object (fun vs H Q E h => ?_) (fun cdv A outer s H vs Q E hr h => ?_)
  · obtain ⟨p, l, rfl, _⟩ := h
    rfl
  obtain ⟨p, l, rfl, B, q⟩ := h
  refine ⟨_, (pss_cons (ps_set (i := 1) sc__law_object.nd rfl (Or.inl rfl) (pe_tup pa_nil))
    (pss_cons (ps_for PassesOwn.never rfl (pi_range1 (by rfl) T.z_range (pa_cons (pe_call G__law_draw (hr.mono (by omega)) (by rfl) T.d__law_draw.m T.d__law_draw.F.kp T.d__law_draw.b .nil pass0 (pa_cons (pv 0) (pa_cons pe_int pa_nil))) pa_nil)) (pg_name (i := 2) sc__law_object.nd rfl (Or.inl rfl))
      (pss_one (ps_set (i := 1) sc__law_object.nd rfl (Or.inl rfl) (pe_op op_catA (pv 1) (pe_tup (pa_cons (pe_call G__law_draw (hr.mono (by omega)) (by rfl) T.d__law_draw.m T.d__law_draw.F.kp T.d__law_draw.b .nil pass0 (pa_cons (pv 0) (pa_cons pe_int pa_nil))) pa_nil))))))
    (pss_one (ps_ret (pe_tup (pa_cons pe_str (pa_cons (pv 1) (pa_cons (pe_call G__law_draw (hr.mono (by omega)) (by rfl) T.d__law_draw.m T.d__law_draw.F.kp T.d__law_draw.b .nil pass0 (pa_cons (pv 0) (pa_cons pe_int pa_nil))) pa_nil)))))))), ?_⟩
  refine ⟨(by show 0 ≤ sizeLine; decide), fun t0 n0 => ?_⟩
  obtain ⟨s0, d0⟩ := new_tup (K := K) n0 DpAll.nil
  have B0 := B.same s0
  refine ⟨_, rfl, p, l, _, rfl, by decide, B0, fun m H1 m0 m1 B1 k1 => ?_⟩
  have K1 := (KeepT.same s0).trans (KeepT.box B0 k1)
  refine ⟨m, rfl, by omega, by omega, for_range (lo := 0) (n := m.toNat) (fun i σ H2 => ∃ (v : V) (t : List Int) (vk : Option V), σ = [some (.ref p), some v, vk] ∧ Dp K H2 v (.tuple (t.map PyData.int)) ∧ t.length ≤ i ∧ BoxAt H2 p l ∧ KeepT H H2)
    ⟨_, [], _, rfl, dp_intsT (KeepT.box B0 k1) (by simp) d0, Nat.le_refl 0, B1, K1⟩ ?_ ?_⟩
  · rintro i σ H2 hi ⟨v, t, vk, rfl, hv, tl, B2, k2⟩
    refine ⟨_, rfl, _, rfl, p, l, _, rfl, by decide, B2, fun z H3 _ _ B3 k3 => ⟨one_le, fun r nr => ?_⟩⟩
    obtain ⟨s4, d4⟩ := new_tup (K := K) nr (.cons (.int z) .nil)
    have K3 := KeepT.box B2 k3
    have hv' := dp_intsT (K3.trans (KeepT.same s4)) (by omega) hv
    refine catD hv' d4 (by simp; omega) fun u H5 s5 d5 => ?_
    refine ⟨u, t ++ [z], _, rfl, by rw [List.map_append]; exact d5, by rw [List.length_append, List.length_singleton]; omega, (B3.same s4).same s5, (k2.trans K3).trans (KeepT.same (s4.trans s5))⟩
  · rintro σ H2 ⟨v, t, vk, rfl, hv, tl, B2, k2⟩
    refine ⟨_, rfl, _, rfl, p, l, _, rfl, by decide, B2, fun z H3 z0 _ B3 k3 => ⟨three_le, fun r nr => ?_⟩⟩
    have K3 := KeepT.box B2 k3
    have s4 := same_new nr (.tup [.str "object", v, .int z])
    exact q _ t z _ (dp_objs upd_same (dp_intsT (K3.trans (KeepT.same s4)) (by omega) hv)) (by omega) z0 (B3.same s4) ((k2.trans K3).trans (KeepT.same s4))
def spEntry (K : PySem.W.Frag) : Sp := fun vs H Q _ => ∃ (p l : Addr), vs = [.ref p] ∧ BoxAt H p l ∧ ∀ (v : V) (e : En) (H' : Hp), Dp K H' v e.d → e.sm → BoxAt H' p l → KeepT H H' → Q v H'
theorem ok__law_entry (T : Tx K mg w) : FnOk P w K mg base CX0 3 T.d__law_entry.f T.d__law_entry.fd P__law_entry (spEntry K) := by
  have G__law_draw := ok__law_draw (P := P) (w := w) (base := base) T
  have G__law_object := ok__law_object (P := P) (w := w) (base := base) T
  refine T.d__law_entry.F.ok sc__law_entry (fun vs H Q E h => ?_) (fun cdv A outer s H vs Q E hr h => ?_)
  · obtain ⟨p, l, rfl, _⟩ := h
    rfl
  obtain ⟨p, l, rfl, B, q⟩ := h
  refine ⟨_, (pss_cons (ps_set (i := 1) sc__law_entry.nd rfl (Or.inl rfl) (pe_call G__law_draw (hr.mono (by omega)) (by rfl) T.d__law_draw.m T.d__law_draw.F.kp T.d__law_draw.b .nil pass0 (pa_cons (pv 0) (pa_cons pe_int pa_nil))))
    (pss_cons (ps_if (pt_cmpR op_eq (pv 1) pe_int (nomark _))
      (pss_one (ps_ret (pe_tup (pa_cons pe_str (pa_cons (pe_call G__law_draw (hr.mono (by omega)) (by rfl) T.d__law_draw.m T.d__law_draw.F.kp T.d__law_draw.b .nil pass0 (pa_cons (pv 0) (pa_cons pe_int pa_nil))) (pa_cons (pe_call G__law_object (hr.mono (by omega)) (by rfl) T.d__law_object.m T.d__law_object.F.kp T.d__law_object.b .nil pass0 (pa_cons (pv 0) pa_nil)) pa_nil))))))
      pss_nil)
    (pss_cons (ps_if (pt_cmpR op_eq (pv 1) pe_int (nomark _))
      (pss_one (ps_ret (pe_tup (pa_cons pe_str (pa_cons (pe_call G__law_draw (hr.mono (by omega)) (by rfl) T.d__law_draw.m T.d__law_draw.F.kp T.d__law_draw.b .nil pass0 (pa_cons (pv 0) (pa_cons pe_int pa_nil))) (pa_cons (pe_call G__law_object (hr.mono (by omega)) (by rfl) T.d__law_object.m T.d__law_object.F.kp T.d__law_object.b .nil pass0 (pa_cons (pv 0) pa_nil)) pa_nil))))))
      pss_nil)
    (pss_cons (ps_if (pt_cmpR op_eq (pv 1) pe_int (nomark _))
      (pss_one (ps_ret (pe_tup (pa_cons pe_str (pa_cons (pe_call G__law_draw (hr.mono (by omega)) (by rfl) T.d__law_draw.m T.d__law_draw.F.kp T.d__law_draw.b .nil pass0 (pa_cons (pv 0) (pa_cons pe_int pa_nil))) pa_nil)))))
      pss_nil)
    (pss_cons (ps_if (pt_cmpR op_eq (pv 1) pe_int (nomark _))
      (pss_one (ps_ret (pe_tup (pa_cons pe_str (pa_cons (pe_call G__law_draw (hr.mono (by omega)) (by rfl) T.d__law_draw.m T.d__law_draw.F.kp T.d__law_draw.b .nil pass0 (pa_cons (pv 0) (pa_cons pe_int pa_nil))) (pa_cons (pe_op op_sub (pe_call G__law_draw (hr.mono (by omega)) (by rfl) T.d__law_draw.m T.d__law_draw.F.kp T.d__law_draw.b .nil pass0 (pa_cons (pv 0) (pa_cons pe_int pa_nil))) pe_int) (pa_cons (pe_op op_sub (pe_call G__law_draw (hr.mono (by omega)) (by rfl) T.d__law_draw.m T.d__law_draw.F.kp T.d__law_draw.b .nil pass0 (pa_cons (pv 0) (pa_cons pe_int pa_nil))) pe_int) pa_nil)))))))
      pss_nil)
    (pss_one (ps_ret (pe_tup (pa_cons pe_str pa_nil))))))))), ?_⟩
  refine ⟨_, rfl, p, l, _, rfl, by decide, B, fun kd H1 _ _ B1 k1 => ?_⟩
  have K1 := KeepT.box B k1
  refine ⟨_, rfl, rfl, _, rfl, ite2 (fun _ => ?_) (fun _ => ?_)⟩
  · refine ⟨_, rfl, p, l, _, rfl, by decide, B1, fun a H2 _ _ B2 k2 => ⟨_, rfl, p, l, rfl, B2, fun v t n H3 hv tl _ B3 k3 => ⟨three_le, fun r nr => ?_⟩⟩⟩
    have s4 := same_new nr (.tup [.str "call", .int a, v])
    exact q _ (.call a t n) _ (.tup (SqT.of upd_same) (.cons (.str _) (.cons (.int a) (.cons (dp_same s4 hv) .nil)))) tl (B3.same s4) (((K1.trans (KeepT.box B1 k2)).trans k3).trans (KeepT.same s4))
  refine ⟨_, rfl, rfl, _, rfl, ite2 (fun _ => ?_) (fun _ => ?_)⟩
  · refine ⟨_, rfl, p, l, _, rfl, by decide, B1, fun a H2 _ _ B2 k2 => ⟨_, rfl, p, l, rfl, B2, fun v t n H3 hv tl _ B3 k3 => ⟨three_le, fun r nr => ?_⟩⟩⟩
    have s4 := same_new nr (.tup [.str "guard", .int a, v])
    exact q _ (.guard a t n) _ (.tup (SqT.of upd_same) (.cons (.str _) (.cons (.int a) (.cons (dp_same s4 hv) .nil)))) tl (B3.same s4) (((K1.trans (KeepT.box B1 k2)).trans k3).trans (KeepT.same s4))
  refine ⟨_, rfl, rfl, _, rfl, ite2 (fun _ => ?_) (fun _ => ?_)⟩
  · refine ⟨_, rfl, p, l, _, rfl, by decide, B1, fun a H2 _ _ B2 k2 => ⟨two_le, fun r nr => ?_⟩⟩
    have s4 := same_new nr (.tup [.str "loop", .int a])
    exact q _ (.loop a) _ (.tup (SqT.of upd_same) (.cons (.str _) (.cons (.int a) .nil))) True.intro (B2.same s4) ((K1.trans (KeepT.box B1 k2)).trans (KeepT.same s4))
  refine ⟨_, rfl, rfl, _, rfl, ite2 (fun _ => ?_) (fun _ => ?_)⟩
  · refine ⟨_, rfl, p, l, _, rfl, by decide, B1, fun a H2 _ _ B2 k2 => ⟨_, rfl, p, l, _, rfl, by decide, B2, fun c H3 _ _ B3 k3 => ⟨_, _, rfl, rfl, ?_⟩⟩⟩
    refine ⟨_, rfl, p, l, _, rfl, by decide, B3, fun z H4 _ _ B4 k4 => ⟨_, _, rfl, rfl, four_le, fun r nr => ?_⟩⟩
    have s4 := same_new nr (.tup [.str "count", .int a, .int (c - 4), .int (z - 4)])
    exact q _ (.cnt a (c - 4) (z - 4)) _ (.tup (SqT.of upd_same) (.cons (.str _) (.cons (.int a) (.cons (.int _) (.cons (.int _) .nil))))) True.intro (B4.same s4) ((((K1.trans (KeepT.box B1 k2)).trans (KeepT.box B2 k3)).trans (KeepT.box B3 k4)).trans (KeepT.same s4))
  · refine ⟨one_le, fun r nr => ?_⟩
    have s4 := same_new nr (.tup [.str "cut"])
    exact q _ .cut _ (.tup (SqT.of upd_same) (.cons (.str _) .nil)) True.intro (B1.same s4) (K1.trans (KeepT.same s4))
/-! ### leaving, as the law tells it -/
def spLawLeave (K : PySem.W.Frag) : Sp := fun vs H Q _ => ∃ (v : V) (g : Addr) (fit : List Str) (es : List En), vs = [v, .ref g] ∧ Dp K H v (ctrlD es) ∧ H g = some (.lst (fit.map V.str)) ∧ es.length ≤ 1000 ∧ Gives K H (leaveF fit 0 es).d Q
theorem ok__law_leave (T : Tx K mg w) : FnOk P w K mg base CX0 1 T.d__law_leave.f T.d__law_leave.fd P__law_leave (spLawLeave K) := by
  refine T.d__law_leave.F.ok sc__law_leave (fun vs H Q E h => ?_) (fun cdv A outer s H vs Q E hr h => ?_)
  · obtain ⟨v, g, fit, es, rfl, _⟩ := h
    rfl
  obtain ⟨v, g, fit, es, rfl, hv, hg, hle, q⟩ := h
  refine ⟨_, (pss_cons (ps_set (i := 2) sc__law_leave.nd rfl (Or.inl rfl) pe_int)
    (pss_cons (ps_for PassesOwn.never rfl (pi_range1 (by rfl) T.z_range (pa_cons (pe_callB call_len_seq (by rfl) T.z_len PySem.boot_len (pa_cons (pv 0) pa_nil)) pa_nil)) (pg_name (i := 3) sc__law_leave.nd rfl (Or.inl rfl))
      (pss_cons (ps_if (pt_cmpR op_in_seq (pe_ix ix_tup (pe_ix ix_tup (pv 0) (pv 3) (fun _ _ => rfl)) pe_int (fun _ _ => rfl)) (pv 1) (by rfl))
      (pss_one (ps_ret (pe_tup (pa_cons (pv 2) (pa_cons (pe_ix ix_tup (pv 0) (pv 3) (fun _ _ => rfl)) (pa_cons (pe_slice sl_tupA (pv 0) (po_some (pe_op op_add (pv 3) pe_int)) po_none) pa_nil))))))
      pss_nil)
    (pss_one (ps_if (pt_cmpR op_eq (pe_ix ix_tup (pe_ix ix_tup (pv 0) (pv 3) (fun _ _ => rfl)) pe_int (fun _ _ => rfl)) pe_str (nomark _))
      (pss_one (ps_set (i := 2) sc__law_leave.nd rfl (Or.inl rfl) (pe_op op_add (pv 2) pe_int)))
      pss_nil))))
    (pss_one (ps_ret (pe_tup (pa_cons (pv 2) (pa_cons pe_non (pa_cons (pe_tup pa_nil) pa_nil)))))))), ?_⟩
  obtain ⟨a, xs, rfl, sx, ax⟩ := tup_at hv
  have hl := dpAll_len ax
  rw [List.length_map] at hl
  refine ⟨_, rfl, a, _, rfl, .inr sx, _, rfl, by omega, by omega, for_range (lo := 0) (n := xs.length) (fun i σ H1 => ∃ (c : Int) (v3 : Option V), σ = [some (.ref a), some (.ref g), some (.int c), v3] ∧ Same H H1 ∧ leaveF fit 0 es = leaveF fit c (es.drop i))
    ⟨0, none, rfl, Same.refl H, rfl⟩ ?_ ?_⟩
  · rintro i σ H1 hi ⟨c, v3, rfl, s1, so⟩
    have gi : xs[i]? = some xs[i] := List.getElem?_eq_getElem hi
    obtain ⟨e, he, hx⟩ := ctrl_get (dp_sames s1 ax) gi
    rw [leave_step he] at so
    have sx1 := sqT_keep (KeepT.same s1) sx
    obtain ⟨ea, exs, ex, se, _⟩ := en_at hx
    rw [ex] at gi hx
    have d0 : Dp K H1 (.ref a) (.tuple (es.map En.d)) := .tup sx1 (dp_sames s1 ax)
    have ixk : ∃ j : Nat, (0 + (i : Int)) = (j : Int) ∧ j = i := ⟨i, by omega, rfl⟩
    refine ⟨_, rfl, _, rfl, a, _, _, _, rfl, rfl, sx1, at_of (j := i) (by omega) gi, ea, _, _, _, rfl, rfl, se, at_of (j := 0) rfl rfl, _, rfl, g, _, rfl, .inl (SqL.of (s1 _ _ hg)), rfl, flat_strs' _, _, rfl, ?_⟩
    change if inV (.str e.kind) (fit.map V.str) = true then _ else _
    rw [in_strs]
    refine ite2 (fun c1 => ?_) (fun c1 => ?_)
    · have c1' := of_decide_eq_true c1
      rw [if_pos c1'] at so
      refine ⟨_, rfl, _, rfl, _, rfl, a, _, _, _, rfl, rfl, sx1, at_of (j := i) (by omega) gi, _, rfl, _, rfl, _, _, rfl, rfl, _, rfl, ?_⟩
      refine cutD (n := i + 1) (by omega) d0 fun v H2 s3 d3 => ⟨three_le, fun r nr => ?_⟩
      have s4 := same_new nr (.tup [.int c, .ref ea, v])
      refine q _ _ ((s1.trans s3).trans s4) ?_
      rw [so]
      rw [← List.map_drop] at d3
      exact .tup (SqT.of upd_same) (.cons (.int c) (.cons (dp_same (s3.trans s4) hx) (.cons (dp_same s4 d3) .nil)))
    · have c1' : ¬ e.kind ∈ fit := fun z => c1 (decide_eq_true z)
      rw [if_neg c1'] at so
      refine ⟨_, rfl, _, rfl, a, _, _, _, rfl, rfl, sx1, at_of (j := i) (by omega) gi, ea, _, _, _, rfl, rfl, se, at_of (j := 0) rfl rfl, rfl, _, rfl, op_if (fun e1 => ?_) (fun e1 => ?_)⟩
      · rw [if_pos e1] at so
        refine ⟨_, rfl, _, _, rfl, rfl, ?_⟩
        exact ⟨c + 1, _, rfl, s1, so⟩
      · rw [if_neg e1] at so
        exact ⟨c, _, rfl, s1, so⟩
  · rintro σ H1 ⟨c, v3, rfl, s1, so⟩
    rw [hl, List.drop_length] at so
    refine ⟨_, rfl, by show 0 ≤ sizeLine; decide, fun t0 n0 => ⟨three_le, fun r nr => ?_⟩⟩
    obtain ⟨s3, d3⟩ := new_tup (K := K) n0 DpAll.nil
    have s4 := same_new nr (.tup [.int c, .non, .ref t0])
    refine q _ _ ((s1.trans s3).trans s4) ?_
    rw [so]
    exact .tup (SqT.of upd_same) (.cons (.int c) (.cons .non (.cons (dp_same s4 d3) .nil)))
theorem dp_ctrl {H H' : Hp} {v : V} {es : List En} (k : KeepT H H') (hl : es.length ≤ 1000) (h : ∀ e ∈ es, e.sm) (hv : Dp K H v (ctrlD es)) : Dp K H' v (ctrlD es) := dp_keepT k 5 _ _ (okD_ctrl hl h) hv
/-! ### local states -/
theorem okD_up : ∀ (n : Nat) (d : PyData), okD n d = true → okD (n + 1) d = true
  | 0, d, h => by simp [okD] at h
  | n + 1, d, h => by
    cases d with
    | tuple xs =>
      obtain ⟨h1, h2⟩ := okD_tup h
      have z : xs.all (okD (n + 1)) = true := List.all_eq_true.mpr fun x hx => okD_up n x (h2 x hx)
      simp only [okD, Bool.and_eq_true, decide_eq_true_eq]
      exact ⟨h1, z⟩
    | list xs => simp [okD] at h
    | dict xs => simp [okD] at h
    | none => simp [okD]
    | bool b => simp [okD]
    | int b => simp [okD]
    | str b => simp [okD]
theorem okD_le {n m : Nat} {d : PyData} (hm : n ≤ m) (h : okD n d = true) : okD m d = true := by
  induction hm with
  | refl => exact h
  | step _ ih => exact okD_up _ _ ih
theorem okD_list {n : Nat} {xs : List PyData} (hl : xs.length ≤ 1000) (h : ∀ x ∈ xs, okD n x = true) : okD (n + 1) (.tuple xs) = true := by
  have z : xs.all (okD n) = true := List.all_eq_true.mpr h
  simp only [okD, Bool.and_eq_true, decide_eq_true_eq]
  exact ⟨hl, z⟩
structure Loc where
  adr : Int
  ops : List Vl
  ft : List Int
  fn : Int
  tt : List Int
  tn : Int
  ctl : List En
def opsD (ops : List Vl) : PyData := .tuple (ops.map Vl.d)
def Loc.d (s : Loc) : PyData := .tuple [.int s.adr, opsD s.ops, objD s.ft s.fn, objD s.tt s.tn, ctrlD s.ctl]
structure Loc.sm (s : Loc) : Prop where
  ol : s.ops.length ≤ 100
  og : ∀ a ∈ s.ops, Good a
  f : s.ft.length ≤ 1000
  t : s.tt.length ≤ 1000
  cl : s.ctl.length ≤ 500
  ce : ∀ e ∈ s.ctl, e.sm
theorem okD_ops {ops : List Vl} (hl : ops.length ≤ 1000) (h : ∀ a ∈ ops, Good a) : okD 7 (opsD ops) = true :=
  okD_list (by rw [List.length_map]; exact hl) fun x hx => by
    obtain ⟨a, ha, rfl⟩ := List.mem_map.mp hx
    exact (h a ha).dk
theorem okD_loc {s : Loc} (h : s.sm) : okD 8 s.d = true :=
  okD_list (by simp) fun x hx => by
    simp only [List.mem_cons, List.not_mem_nil, or_false] at hx
    rcases hx with rfl | rfl | rfl | rfl | rfl
    · simp [okD]
    · exact okD_ops (Nat.le_trans h.ol (by decide)) h.og
    · exact okD_le (n := 3) (by decide) (okD_obj (n := 0) h.f)
    · exact okD_le (n := 3) (by decide) (okD_obj (n := 0) h.t)
    · exact okD_le (n := 5) (by decide) (okD_ctrl (n := 0) (Nat.le_trans h.cl (by decide)) h.ce)
theorem dp_loc {K : PySem.W.Frag} {H H' : Hp} {v : V} {s : Loc} (k : KeepT H H') (h : s.sm) (hv : Dp K H v s.d) : Dp K H' v s.d := dp_keepT k 8 _ _ (okD_loc h) hv
theorem loc_at {K : PySem.W.Frag} {H : Hp} {v : V} {s : Loc} (h : Dp K H v s.d) : ∃ a o f t c, v = .ref a ∧ SqT K H a [.int s.adr, o, f, t, c] ∧ Dp K H o (opsD s.ops) ∧ Dp K H f (objD s.ft s.fn) ∧ Dp K H t (objD s.tt s.tn) ∧ Dp K H c (ctrlD s.ctl) := by
  obtain ⟨a, xs, rfl, sx, ax⟩ := tup_at h
  cases ax with
  | cons h1 ax =>
    cases h1
    cases ax with
    | cons h2 ax =>
      cases ax with
      | cons h3 ax =>
        cases ax with
        | cons h4 ax =>
          cases ax with
          | cons h5 ax =>
            cases ax
            exact ⟨a, _, _, _, _, rfl, sx, h2, h3, h4, h5⟩
theorem loc_dp {K : PySem.W.Frag} {H : Hp} {a : Addr} {o f t c : V} {s : Loc} (h : SqT K H a [.int s.adr, o, f, t, c]) (h1 : Dp K H o (opsD s.ops)) (h2 : Dp K H f (objD s.ft s.fn)) (h3 : Dp K H t (objD s.tt s.tn)) (h4 : Dp K H c (ctrlD s.ctl)) : Dp K H (.ref a) s.d :=
  .tup h (.cons (.int _) (.cons h1 (.cons h2 (.cons h3 (.cons h4 .nil)))))
/-! ### exceptions -/
def afterD (c : Int) (x : PyData) : PyData := if c > 0 then .tuple [.str "give_up", .int c, x] else .tuple [.str "quiet", x]
/-- x is put behind what is passed -/
def throwF (s : Loc) (d : PyData) (f : Found) : PyData :=
  match f.entry with
  | some (.guard a t n) => afterD f.cuts (.tuple [.int a, .tuple [d], objD t n, objD s.tt s.tn, ctrlD f.rest])
  | _ => .tuple [.str "fail", d]
def thrownD (s : Loc) (d : PyData) : PyData := throwF s d (leaveF ["guard"] 0 s.ctl)
theorem leave_kind (fit : List Str) : ∀ (es : List En) (c : Int) (e : En), (leaveF fit c es).entry = some e → e.kind ∈ fit
  | [], _, _, h => nomatch h
  | e :: es, c, e', h => by
    unfold leaveF at h
    split at h
    · rename_i hk
      cases h
      exact hk
    · exact leave_kind fit es _ e' h
theorem kind_guard {e : En} (h : e.kind = "guard") : ∃ a t n, e = .guard a t n := by
  cases e with
  | guard a t n => exact ⟨a, t, n, rfl⟩
  | call a t n => exact absurd h (by show ¬ ("call" : Str) = "guard"; decide +kernel)
  | loop a => exact absurd h (by show ¬ ("loop" : Str) = "guard"; decide +kernel)
  | cnt a c l => exact absurd h (by show ¬ ("count" : Str) = "guard"; decide +kernel)
  | cut => exact absurd h (by show ¬ ("cut" : Str) = "guard"; decide +kernel)
theorem okD_after {n : Nat} {c : Int} {x : PyData} (h : okD (n + 1) x = true) : okD (n + 2) (afterD c x) = true := by
  unfold afterD
  split <;> simp [okD, h]
theorem okD_thrown {s : Loc} {d : PyData} (h : s.sm) (hd : okD 6 d = true) : okD 9 (thrownD s d) = true := by
  obtain ⟨h1, h2, h3⟩ := leave_sm ["guard"] s.ctl 0 h.ce (Nat.le_trans h.cl (by decide))
  unfold thrownD throwF
  split
  · rename_i a t n he
    refine okD_after (n := 7) (okD_list (by simp) fun x hx => ?_)
    simp only [List.mem_cons, List.not_mem_nil, or_false] at hx
    rcases hx with rfl | rfl | rfl | rfl | rfl
    · simp [okD]
    · exact okD_list (by simp) fun x hx => by
        rw [List.mem_singleton.mp hx]
        exact hd
    · exact okD_le (n := 3) (by decide) (okD_obj (n := 0) (h1 _ he))
    · exact okD_le (n := 3) (by decide) (okD_obj (n := 0) h.t)
    · exact okD_le (n := 5) (by decide) (okD_ctrl (n := 0) h3 h2)
  · refine okD_list (by simp) fun x hx => ?_
    simp only [List.mem_cons, List.not_mem_nil, or_false] at hx
    rcases hx with rfl | rfl
    · simp [okD]
    · exact okD_le (n := 6) (by decide) hd
def spPass (K : PySem.W.Frag) : Sp := fun vs H Q _ => ∃ (c : Int) (v : V) (d : PyData), vs = [.int c, v] ∧ Dp K H v d ∧ Gives K H (afterD c d) Q
theorem gt_if {c : Int} {A B : Prop} (h1 : c > 0 → A) (h2 : ¬ c > 0 → B) : if decide (c > 0) = true then A else B := by
  by_cases e : c > 0
  · rw [if_pos (decide_eq_true e)]
    exact h1 e
  · rw [if_neg (fun q => e (of_decide_eq_true q))]
    exact h2 e
theorem ok_passing (T : Tx K mg w) : FnOk P w K mg base CX0 1 T.d_passing.f T.d_passing.fd P_passing (spPass K) := by
  refine T.d_passing.F.ok sc_passing (fun vs H Q E h => ?_) (fun cdv A outer s H vs Q E hr h => ?_)
  · obtain ⟨c, v, d, rfl, _⟩ := h
    rfl
  obtain ⟨c, v, d, rfl, hv, q⟩ := h
  refine ⟨_, (pss_cons (ps_if (pt_cmpR op_gt (pv 0) pe_int (nomark _))
      (pss_one (ps_ret (pe_tup (pa_cons pe_str (pa_cons (pv 0) (pa_cons (pv 1) pa_nil))))))
      pss_nil)
    (pss_one (ps_ret (pe_tup (pa_cons pe_str (pa_cons (pv 1) pa_nil)))))), ?_⟩
  refine ⟨_, rfl, _, _, rfl, rfl, _, rfl, gt_if (fun c1 => ?_) (fun c1 => ?_)⟩
  · refine ⟨_, rfl, _, rfl, three_le, fun r nr => ?_⟩
    have s1 := same_new nr (.tup [.str "give_up", .int c, v])
    refine q _ _ s1 ?_
    unfold afterD
    rw [if_pos c1]
    exact .tup (SqT.of upd_same) (.cons (.str _) (.cons (.int c) (.cons (dp_same s1 hv) .nil)))
  · refine ⟨_, rfl, two_le, fun r nr => ?_⟩
    have s1 := same_new nr (.tup [.str "quiet", v])
    refine q _ _ s1 ?_
    unfold afterD
    rw [if_neg c1]
    exact .tup (SqT.of upd_same) (.cons (.str _) (.cons (dp_same s1 hv) .nil))
theorem found_at {K : PySem.W.Frag} {H : Hp} {v : V} {f : Found} (h : Dp K H v f.d) : ∃ a e r, v = .ref a ∧ SqT K H a [.int f.cuts, e, r] ∧ Dp K H e (optD f.entry) ∧ Dp K H r (ctrlD f.rest) := by
  obtain ⟨a, xs, rfl, sx, ax⟩ := tup_at h
  cases ax with
  | cons h1 ax =>
    cases h1
    cases ax with
    | cons h2 ax =>
      cases ax with
      | cons h3 ax =>
        cases ax
        exact ⟨a, _, _, rfl, sx, h2, h3⟩
def spThrown (K : PySem.W.Frag) : Sp := fun vs H Q _ => ∃ (x v : V) (s : Loc) (d : PyData), vs = [x, v] ∧ Dp K H x s.d ∧ Dp K H v d ∧ Gives K H (thrownD s d) Q
theorem ok_thrown (T : Tx K mg w) : FnOk P w K mg base CX0 2 T.d_thrown.f T.d_thrown.fd P_thrown (spThrown K) := by
  have G_leave := ok_leave (P := P) (w := w) (base := base) T
  have G_passing := ok_passing (P := P) (w := w) (base := base) T
  refine T.d_thrown.F.ok sc_thrown (fun vs H Q E h => ?_) (fun cdv A outer s H vs Q E hr h => ?_)
  · obtain ⟨x, v, st, d, rfl, _⟩ := h
    rfl
  obtain ⟨x, v, st, d, rfl, hx, hv, q⟩ := h
  refine ⟨_, (pss_cons (ps_asg (pv 0) (pg_tup (by rfl) (pgs_cons (pg_name (i := 2) sc_thrown.nd rfl (Or.inl rfl)) (pgs_cons (pg_name (i := 2) sc_thrown.nd rfl (Or.inl rfl)) (pgs_cons (pg_name (i := 2) sc_thrown.nd rfl (Or.inl rfl)) (pgs_cons (pg_name (i := 3) sc_thrown.nd rfl (Or.inl rfl)) (pgs_cons (pg_name (i := 4) sc_thrown.nd rfl (Or.inl rfl)) pgs_nil)))))))
    (pss_cons (ps_asg (pe_call G_leave (hr.mono (by omega)) (by rfl) T.d_leave.m T.d_leave.F.kp T.d_leave.b .nil pass0 (pa_cons (pv 4) (pa_cons pe_str pa_nil))) (pg_tup (by rfl) (pgs_cons (pg_name (i := 5) sc_thrown.nd rfl (Or.inl rfl)) (pgs_cons (pg_name (i := 6) sc_thrown.nd rfl (Or.inl rfl)) (pgs_cons (pg_name (i := 7) sc_thrown.nd rfl (Or.inl rfl)) pgs_nil)))))
    (pss_cons (ps_if (pt_cmpR op_isN (pv 6) pe_non (nomark _))
      (pss_one (ps_ret (pe_tup (pa_cons pe_str (pa_cons (pv 1) pa_nil)))))
      pss_nil)
    (pss_cons (ps_asg (pv 6) (pg_tup (by rfl) (pgs_cons (pg_name (i := 2) sc_thrown.nd rfl (Or.inl rfl)) (pgs_cons (pg_name (i := 8) sc_thrown.nd rfl (Or.inl rfl)) (pgs_cons (pg_name (i := 9) sc_thrown.nd rfl (Or.inl rfl)) pgs_nil)))))
    (pss_one (ps_ret (pe_call G_passing (hr.mono (by omega)) (by rfl) T.d_passing.m T.d_passing.F.kp T.d_passing.b .nil pass0 (pa_cons (pv 5) (pa_cons (pe_tup (pa_cons (pv 8) (pa_cons (pe_tup (pa_cons (pv 1) pa_nil)) (pa_cons (pv 9) (pa_cons (pv 3) (pa_cons (pv 7) pa_nil)))))) pa_nil))))))))), ?_⟩
  obtain ⟨a, o, f, t, c, rfl, sx, ho, hf, ht, hc⟩ := loc_at hx
  -- _, _, _, top, control = local
  refine ⟨_, rfl, a, _, rfl, sx, rfl, _, _, rfl, _, _, rfl, _, _, rfl, _, _, rfl, _, _, rfl, rfl, ?_⟩
  -- cuts, entry, rest = leave(control, "guard")
  refine ⟨_, rfl, c, _, st.ctl, rfl, hc, .inr (.inr rfl), fun u H1 s1 du => ?_⟩
  rw [show fitOf "guard" = [("guard" : Str)] from by decide +kernel] at du
  obtain ⟨b, e, r, rfl, sb, he, hr'⟩ := found_at du
  refine ⟨b, _, rfl, sb, rfl, _, _, rfl, _, _, rfl, _, _, rfl, rfl, ?_⟩
  refine ⟨_, rfl, rfl, _, rfl, ?_⟩
  unfold thrownD throwF at q
  cases hfe : (leaveF ["guard"] 0 st.ctl).entry with
  | none =>
    rw [hfe] at he q
    cases he
    refine ifT rfl ?_
    refine ⟨_, rfl, two_le, fun p np => ?_⟩
    have s2 := same_new np (.tup [.str "fail", v])
    exact q _ _ (s1.trans s2) (.tup (SqT.of upd_same) (.cons (.str _) (.cons (dp_same (s1.trans s2) hv) .nil)))
  | some en =>
    obtain ⟨ga, gt, gn, rfl⟩ := kind_guard (List.mem_singleton.mp (leave_kind _ _ _ _ hfe))
    rw [hfe] at he q
    obtain ⟨ea, exs, rfl, se, ae⟩ := tup_at he
    cases ae with
    | cons h1 ae =>
      cases h1
      cases ae with
      | cons h2 ae =>
        cases h2
        cases ae with
        | cons h3 ae =>
          cases ae
          refine ifF rfl ?_
          refine ⟨_, rfl, ea, _, rfl, se, rfl, _, _, rfl, _, _, rfl, _, _, rfl, rfl, ?_⟩
          refine ⟨_, rfl, _, rfl, _, rfl, one_le, fun p1 n1 => ⟨_, rfl, _, rfl, _, rfl, by show 5 ≤ sizeLine; decide, fun p2 n2 => ?_⟩⟩
          obtain ⟨s2, d2⟩ := new_tup (K := K) n1 (.cons (dp_same s1 hv) .nil)
          obtain ⟨s3, d3⟩ := new_tup (K := K) n2 (.cons (.int ga) (.cons d2 (.cons (dp_same s2 h3) (.cons (dp_same (s1.trans s2) ht) (.cons (dp_same s2 hr') .nil)))))
          exact ⟨_, _, _, rfl, d3, fun w2 H2 s4 d4 => q _ _ (((s1.trans s2).trans s3).trans s4) d4⟩
/-! ### the law's own exceptions -/
theorem ok__law_after (T : Tx K mg w) : FnOk P w K mg base CX0 1 T.d__law_after.f T.d__law_after.fd P__law_after (spPass K) := by
  refine T.d__law_after.F.ok sc__law_after (fun vs H Q E h => ?_) (fun cdv A outer s H vs Q E hr h => ?_)
  · obtain ⟨c, v, d, rfl, _⟩ := h
    rfl
  obtain ⟨c, v, d, rfl, hv, q⟩ := h
  refine ⟨_, (pss_cons (ps_if (pt_cmpR op_gt (pv 0) pe_int (nomark _))
      (pss_one (ps_ret (pe_tup (pa_cons pe_str (pa_cons (pv 0) (pa_cons (pv 1) pa_nil))))))
      pss_nil)
    (pss_one (ps_ret (pe_tup (pa_cons pe_str (pa_cons (pv 1) pa_nil)))))), ?_⟩
  refine ⟨_, rfl, _, _, rfl, rfl, _, rfl, gt_if (fun c1 => ?_) (fun c1 => ?_)⟩
  · refine ⟨_, rfl, _, rfl, three_le, fun r nr => ?_⟩
    have s1 := same_new nr (.tup [.str "give_up", .int c, v])
    refine q _ _ s1 ?_
    unfold afterD
    rw [if_pos c1]
    exact .tup (SqT.of upd_same) (.cons (.str _) (.cons (.int c) (.cons (dp_same s1 hv) .nil)))
  · refine ⟨_, rfl, two_le, fun r nr => ?_⟩
    have s1 := same_new nr (.tup [.str "quiet", v])
    refine q _ _ s1 ?_
    unfold afterD
    rw [if_neg c1]
    exact .tup (SqT.of upd_same) (.cons (.str _) (.cons (dp_same s1 hv) .nil))
def spThrownL (K : PySem.W.Frag) : Sp := fun vs H Q _ => ∃ (x v : V) (s : Loc) (d : PyData), vs = [x, v] ∧ Dp K H x s.d ∧ Dp K H v d ∧ s.ctl.length ≤ 1000 ∧ Gives K H (thrownD s d) Q
theorem ok__law_thrown (T : Tx K mg w) : FnOk P w K mg base CX0 2 T.d__law_thrown.f T.d__law_thrown.fd P__law_thrown (spThrownL K) := by
  have G__law_leave := ok__law_leave (P := P) (w := w) (base := base) T
  have G__law_after := ok__law_after (P := P) (w := w) (base := base) T
  refine T.d__law_thrown.F.ok sc__law_thrown (fun vs H Q E h => ?_) (fun cdv A outer s H vs Q E hr h => ?_)
  · obtain ⟨x, v, st, d, rfl, _⟩ := h
    rfl
  obtain ⟨x, v, st, d, rfl, hx, hv, hcl, q⟩ := h
  refine ⟨_, (pss_cons (ps_set (i := 2) sc__law_thrown.nd rfl (Or.inl rfl) (pe_call G__law_leave (hr.mono (by omega)) (by rfl) T.d__law_leave.m T.d__law_leave.F.kp T.d__law_leave.b .nil pass0 (pa_cons (pe_ix ix_tup (pv 0) pe_int (fun _ _ => rfl)) (pa_cons (pe_lst (pa_cons pe_str pa_nil)) pa_nil))))
    (pss_cons (ps_if (pt_cmpR op_isN (pe_ix ix_tup (pv 2) pe_int (fun _ _ => rfl)) pe_non (nomark _))
      (pss_one (ps_ret (pe_tup (pa_cons pe_str (pa_cons (pv 1) pa_nil)))))
      pss_nil)
    (pss_one (ps_ret (pe_call G__law_after (hr.mono (by omega)) (by rfl) T.d__law_after.m T.d__law_after.F.kp T.d__law_after.b .nil pass0 (pa_cons (pe_ix ix_tup (pv 2) pe_int (fun _ _ => rfl)) (pa_cons (pe_tup (pa_cons (pe_ix ix_tup (pe_ix ix_tup (pv 2) pe_int (fun _ _ => rfl)) pe_int (fun _ _ => rfl)) (pa_cons (pe_tup (pa_cons (pv 1) pa_nil)) (pa_cons (pe_ix ix_tup (pe_ix ix_tup (pv 2) pe_int (fun _ _ => rfl)) pe_int (fun _ _ => rfl)) (pa_cons (pe_ix ix_tup (pv 0) pe_int (fun _ _ => rfl)) (pa_cons (pe_ix ix_tup (pv 2) pe_int (fun _ _ => rfl)) pa_nil)))))) pa_nil))))))), ?_⟩
  obtain ⟨a, o, f, t, c, rfl, sx, ho, hf, ht, hc⟩ := loc_at hx
  refine ⟨_, rfl, a, _, _, _, rfl, rfl, sx, at_of (j := 4) rfl rfl, by decide, fun g ng => ?_⟩
  have sg := same_new ng (.lst [.str "guard"])
  refine ⟨c, g, ["guard"], st.ctl, rfl, dp_same sg hc, upd_same, hcl, fun u H1 s1 du => ?_⟩
  have s1 := sg.trans s1
  have sx := sqT_keep (KeepT.same s1) sx
  obtain ⟨b, e, r, rfl, sb, he, hr'⟩ := found_at du
  refine ⟨_, rfl, b, _, _, _, rfl, rfl, sb, at_of (j := 1) rfl rfl, rfl, _, rfl, ?_⟩
  unfold thrownD throwF at q
  cases hfe : (leaveF ["guard"] 0 st.ctl).entry with
  | none =>
    rw [hfe] at he q
    cases he
    refine ifT rfl ?_
    refine ⟨_, rfl, two_le, fun p np => ?_⟩
    have s2 := same_new np (.tup [.str "fail", v])
    exact q _ _ (s1.trans s2) (.tup (SqT.of upd_same) (.cons (.str _) (.cons (dp_same (s1.trans s2) hv) .nil)))
  | some en =>
    obtain ⟨ga, gt, gn, rfl⟩ := kind_guard (List.mem_singleton.mp (leave_kind _ _ _ _ hfe))
    rw [hfe] at he q
    obtain ⟨ea, exs, rfl, se, ae⟩ := tup_at he
    cases ae with
    | cons h1 ae =>
      cases h1
      cases ae with
      | cons h2 ae =>
        cases h2
        cases ae with
        | cons h3 ae =>
          cases ae
          refine ifF rfl ?_
          refine ⟨_, rfl, b, _, _, _, rfl, rfl, sb, at_of (j := 0) rfl rfl, _, rfl, b, _, _, _, rfl, rfl, sb, at_of (j := 1) rfl rfl, ea, _, _, _, rfl, rfl, se, at_of (j := 1) rfl rfl, _, rfl, one_le, fun p1 n1 => ?_⟩
          obtain ⟨s2, d2⟩ := new_tup (K := K) n1 (.cons (dp_same s1 hv) .nil)
          have sb := sqT_keep (KeepT.same s2) sb
          have se := sqT_keep (KeepT.same s2) se
          have sx := sqT_keep (KeepT.same s2) sx
          refine ⟨_, rfl, b, _, _, _, rfl, rfl, sb, at_of (j := 1) rfl rfl, ea, _, _, _, rfl, rfl, se, at_of (j := 2) rfl rfl, _, rfl, a, _, _, _, rfl, rfl, sx, at_of (j := 3) rfl rfl, _, rfl, b, _, _, _, rfl, rfl, sb, at_of (j := 2) rfl rfl, by show 5 ≤ sizeLine; decide, fun p2 n2 => ?_⟩
          obtain ⟨s3, d3⟩ := new_tup (K := K) n2 (.cons (.int ga) (.cons d2 (.cons (dp_same s2 h3) (.cons (dp_same (s1.trans s2) ht) (.cons (dp_same s2 hr') .nil)))))
          exact ⟨_, _, _, rfl, d3, fun w2 H2 s4 d4 => q _ _ (((s1.trans s2).trans s3).trans s4) d4⟩
/-! ### drawn controls, local states -/
def spControl (K : PySem.W.Frag) : Sp := fun vs H Q _ => ∃ (p l : Addr), vs = [.ref p] ∧ BoxAt H p l ∧ ∀ (v : V) (es : List En) (H' : Hp), Dp K H' v (ctrlD es) → es.length ≤ 100 → (∀ e ∈ es, e.sm) → BoxAt H' p l → KeepT H H' → Q v H'
theorem ctrl_snoc {H : Hp} {v : V} {es : List En} {e : En} (h : Dp K H v (.tuple (es.map En.d ++ [e.d]))) : Dp K H v (ctrlD (es ++ [e])) := by
  unfold ctrlD
  rw [List.map_append]
  exact h
theorem sm_snoc {es : List En} {e : En} (h : ∀ e ∈ es, e.sm) (he : e.sm) : ∀ x ∈ es ++ [e], x.sm := fun x hx => by
  rcases List.mem_append.mp hx with h1 | h1
  · exact h _ h1
  · rw [List.mem_singleton.mp h1]
    exact he
theorem ok__law_control (T : Tx K mg w) : FnOk P w K mg base CX0 4 T.d__law_control.f T.d__law_control.fd P__law_control (spControl K) := by
  have G__law_draw := ok__law_draw (P := P) (w := w) (base := base) T
  have G__law_entry := ok__law_entry (P := P) (w := w) (base := base) T
  refine T.d__law_control.F.ok sc__law_control (fun vs H Q E h => ?_) (fun cdv A outer s H vs Q E hr h => ?_)
  · obtain ⟨p, l, rfl, _⟩ := h
    rfl
  obtain ⟨p, l, rfl, B, q⟩ := h
  refine ⟨_, (pss_cons (ps_set (i := 1) sc__law_control.nd rfl (Or.inl rfl) (pe_tup pa_nil))
    (pss_cons (ps_set (i := 2) sc__law_control.nd rfl (Or.inl rfl) (pe_call G__law_draw (hr.mono (by omega)) (by rfl) T.d__law_draw.m T.d__law_draw.F.kp T.d__law_draw.b .nil pass0 (pa_cons (pv 0) (pa_cons pe_int pa_nil))))
    (pss_cons (ps_for PassesOwn.never rfl (pi_range1 (by rfl) T.z_range (pa_cons (pv 2) pa_nil)) (pg_name (i := 3) sc__law_control.nd rfl (Or.inl rfl))
      (pss_one (ps_set (i := 1) sc__law_control.nd rfl (Or.inl rfl) (pe_op op_catA (pv 1) (pe_tup (pa_cons (pe_call G__law_entry (hr.mono (by omega)) (by rfl) T.d__law_entry.m T.d__law_entry.F.kp T.d__law_entry.b .nil pass0 (pa_cons (pv 0) pa_nil)) pa_nil))))))
    (pss_cons (ps_if (pt_cmpR op_eq (pe_call G__law_draw (hr.mono (by omega)) (by rfl) T.d__law_draw.m T.d__law_draw.F.kp T.d__law_draw.b .nil pass0 (pa_cons (pv 0) (pa_cons pe_int pa_nil))) pe_int (nomark _))
      (pss_one (ps_for PassesOwn.never rfl (pi_range1 (by rfl) T.z_range (pa_cons (pe_op op_add pe_int (pe_call G__law_draw (hr.mono (by omega)) (by rfl) T.d__law_draw.m T.d__law_draw.F.kp T.d__law_draw.b .nil pass0 (pa_cons (pv 0) (pa_cons pe_int pa_nil)))) pa_nil)) (pg_name (i := 3) sc__law_control.nd rfl (Or.inl rfl))
      (pss_one (ps_set (i := 1) sc__law_control.nd rfl (Or.inl rfl) (pe_op op_catA (pv 1) (pe_tup (pa_cons (pe_tup (pa_cons pe_str (pa_cons (pv 3) (pa_cons (pe_tup (pa_cons pe_str (pa_cons (pe_tup (pa_cons (pv 3) pa_nil)) (pa_cons pe_int pa_nil)))) pa_nil)))) pa_nil)))))))
      pss_nil)
    (pss_one (ps_ret (pv 1))))))), ?_⟩
  refine ⟨by show 0 ≤ sizeLine; decide, fun t0 n0 => ?_⟩
  obtain ⟨s0, d0⟩ := new_tup (K := K) n0 DpAll.nil
  have B0 := B.same s0
  refine ⟨_, rfl, p, l, _, rfl, by decide, B0, fun m H1 m0 m1 B1 k1 => ?_⟩
  have K1 := (KeepT.same s0).trans (KeepT.box B0 k1)
  refine ⟨_, rfl, _, rfl, by omega, by omega, for_range (lo := 0) (n := m.toNat) (fun i σ H4 => ∃ (v : V) (es : List En) (v3 : Option V), σ = [some (.ref p), some v, some (.int m), v3] ∧ Dp K H4 v (ctrlD es) ∧ es.length = i ∧ (∀ e ∈ es, e.sm) ∧ BoxAt H4 p l ∧ KeepT H H4)
    ⟨_, [], none, rfl, dp_ctrl (KeepT.box B0 k1) (by simp) (fun _ h => (nomatch h)) d0, rfl, (fun _ h => (nomatch h)), B1, K1⟩ ?_ ?_⟩
  · rintro i σ H4 hi ⟨v, es, v3, rfl, hv, hl, sm, B4, k4⟩
    refine ⟨_, rfl, _, rfl, p, l, rfl, B4, fun u e H5 hu he B5 k5 => ⟨one_le, fun r nr => ?_⟩⟩
    obtain ⟨s6, d6⟩ := new_tup (K := K) nr (.cons hu .nil)
    have hv6 := dp_ctrl (k5.trans (KeepT.same s6)) (by omega) sm hv
    refine catD hv6 d6 (by simp; omega) fun x H7 s7 d7 => ?_
    exact ⟨x, es ++ [e], _, rfl, ctrl_snoc d7, by rw [List.length_append, hl]; rfl, sm_snoc sm he, (B5.same s6).same s7, (k4.trans k5).trans (KeepT.same (s6.trans s7))⟩
  · rintro σ H4 ⟨v, es, v3, rfl, hv, hl, sm, B4, k4⟩
    refine ⟨_, rfl, p, l, _, rfl, by decide, B4, fun z H5 _ _ B5 k5 => ?_⟩
    have K5 := k4.trans (KeepT.box B4 k5)
    have hv := dp_ctrl (KeepT.box B4 k5) (by omega) sm hv
    refine ⟨rfl, _, rfl, ite2 (fun _ => ?_) (fun _ => ?_)⟩
    · refine ⟨_, rfl, p, l, _, rfl, by decide, B5, fun y H6 y0 y1 B6 k6 => ⟨_, _, rfl, rfl, _, rfl, by omega, by omega, for_range (lo := 0) (n := (9 + y).toNat) (fun i σ H7 => ∃ (v : V) (es : List En) (v3 : Option V), σ = [some (.ref p), some v, some (.int m), v3] ∧ Dp K H7 v (ctrlD es) ∧ es.length ≤ 15 + i ∧ (∀ e ∈ es, e.sm) ∧ BoxAt H7 p l ∧ KeepT H H7)
        ⟨v, es, _, rfl, dp_ctrl (KeepT.box B5 k6) (by omega) sm hv, by omega, sm, B6, K5.trans (KeepT.box B5 k6)⟩ ?_ ?_⟩⟩
      · rintro i σ H7 hi ⟨v, es, v3, rfl, hv, hl, sm, B7, k7⟩
        refine ⟨_, rfl, _, rfl, _, rfl, one_le, fun p1 n1 => ⟨three_le, fun p2 n2 => ⟨three_le, fun p3 n3 => ⟨one_le, fun p4 n4 => ?_⟩⟩⟩⟩
        obtain ⟨s1, d1⟩ := new_tup (K := K) n1 (.cons (.int _) .nil)
        obtain ⟨s2, d2⟩ := new_tup (K := K) n2 (.cons (.str "object") (.cons d1 (.cons (.int 0) .nil)))
        obtain ⟨s3, d3⟩ := new_tup (K := K) n3 (.cons (.str "call") (.cons (.int (0 + (i : Int))) (.cons d2 .nil)))
        obtain ⟨s4, d4⟩ := new_tup (K := K) n4 (.cons d3 .nil)
        have s5 := ((s1.trans s2).trans s3).trans s4
        refine catD (dp_same s5 hv) d4 (by simp; omega) fun x H8 s8 d8 => ?_
        have d9 : Dp K H8 x (ctrlD (es ++ [En.call (0 + (i : Int)) [0 + (i : Int)] 0])) := ctrl_snoc (e := .call (0 + (i : Int)) [0 + (i : Int)] 0) d8
        exact ⟨x, es ++ [En.call (0 + (i : Int)) [0 + (i : Int)] 0], _, rfl, d9, by rw [List.length_append, List.length_singleton]; omega, sm_snoc sm (by show 1 ≤ 1000; decide), (B7.same s5).same s8, k7.trans (KeepT.same (s5.trans s8))⟩
      · rintro σ H7 ⟨v, es, v3, rfl, hv, hl, sm, B7, k7⟩
        exact ⟨_, rfl, q v es _ hv (by omega) sm B7 k7⟩
    · exact ⟨_, rfl, q v es _ hv (by omega) sm B5 K5⟩
def spLocal (K : PySem.W.Frag) : Sp := fun vs H Q _ => ∃ (p l : Addr) (a : Int) (v : V) (ops : List Vl), vs = [.ref p, .int a, v] ∧ BoxAt H p l ∧ Dp K H v (opsD ops) ∧ ops.length ≤ 50 ∧ (∀ x ∈ ops, Good x) ∧
  ∀ (u : V) (s : Loc) (H' : Hp), Dp K H' u s.d → s.sm → s.adr = a → (∃ more, s.ops = ops ++ more) → BoxAt H' p l → KeepT H H' → Q u H'
theorem dp_ops {H H' : Hp} {v : V} {ops : List Vl} (k : KeepT H H') (hl : ops.length ≤ 1000) (h : ∀ x ∈ ops, Good x) (hv : Dp K H v (opsD ops)) : Dp K H' v (opsD ops) := dp_keepT k 7 _ _ (okD_ops hl h) hv
theorem ops_snoc {H : Hp} {v : V} {ops : List Vl} {a : Vl} (h : Dp K H v (.tuple (ops.map Vl.d ++ [a.d]))) : Dp K H v (opsD (ops ++ [a])) := by
  unfold opsD
  rw [List.map_append]
  exact h
theorem good_snoc {ops : List Vl} {a : Vl} (h : ∀ x ∈ ops, Good x) (ha : Good a) : ∀ x ∈ ops ++ [a], Good x := fun x hx => by
  rcases List.mem_append.mp hx with h1 | h1
  · exact h _ h1
  · rw [List.mem_singleton.mp h1]
    exact ha
theorem dp_obj {H H' : Hp} {v : V} {t : List Int} {n : Int} (k : KeepT H H') (hl : t.length ≤ 1000) (h : Dp K H v (objD t n)) : Dp K H' v (objD t n) := dp_keepT k 3 _ _ (okD_obj (n := 0) hl) h
theorem ok__law_local (T : Tx K mg w) : FnOk P w K mg base CX0 5 T.d__law_local.f T.d__law_local.fd P__law_local (spLocal K) := by
  have G__law_draw := ok__law_draw (P := P) (w := w) (base := base) T
  have G__law_value := ok__law_value (P := P) (w := w) (base := base) T
  have G__law_object := ok__law_object (P := P) (w := w) (base := base) T
  have G__law_control := ok__law_control (P := P) (w := w) (base := base) T
  refine T.d__law_local.F.ok sc__law_local (fun vs H Q E h => ?_) (fun cdv A outer s H vs Q E hr h => ?_)
  · obtain ⟨p, l, a, v, ops, rfl, _⟩ := h
    rfl
  obtain ⟨p, l, a, v, ops, rfl, B, hv, hl, hg, q⟩ := h
  refine ⟨_, (pss_cons (ps_for PassesOwn.never rfl (pi_range1 (by rfl) T.z_range (pa_cons (pe_call G__law_draw (hr.mono (by omega)) (by rfl) T.d__law_draw.m T.d__law_draw.F.kp T.d__law_draw.b .nil pass0 (pa_cons (pv 0) (pa_cons pe_int pa_nil))) pa_nil)) (pg_name (i := 3) sc__law_local.nd rfl (Or.inl rfl))
      (pss_one (ps_set (i := 2) sc__law_local.nd rfl (Or.inl rfl) (pe_op op_catA (pv 2) (pe_tup (pa_cons (pe_call G__law_value (hr.mono (by omega)) (by rfl) T.d__law_value.m T.d__law_value.F.kp T.d__law_value.b .nil pass0 (pa_cons (pv 0) pa_nil)) pa_nil))))))
    (pss_one (ps_ret (pe_tup (pa_cons (pv 1) (pa_cons (pv 2) (pa_cons (pe_call G__law_object (hr.mono (by omega)) (by rfl) T.d__law_object.m T.d__law_object.F.kp T.d__law_object.b .nil pass0 (pa_cons (pv 0) pa_nil)) (pa_cons (pe_call G__law_object (hr.mono (by omega)) (by rfl) T.d__law_object.m T.d__law_object.F.kp T.d__law_object.b .nil pass0 (pa_cons (pv 0) pa_nil)) (pa_cons (pe_call G__law_control (hr.mono (by omega)) (by rfl) T.d__law_control.m T.d__law_control.F.kp T.d__law_control.b .nil pass0 (pa_cons (pv 0) pa_nil)) pa_nil))))))))), ?_⟩
  refine ⟨_, rfl, p, l, _, rfl, by decide, B, fun m H1 m0 m1 B1 k1 => ?_⟩
  have K1 := KeepT.box B k1
  refine ⟨_, rfl, by omega, by omega, for_range (lo := 0) (n := m.toNat) (fun i σ H2 => ∃ (v : V) (more : List Vl) (v3 : Option V), σ = [some (.ref p), some (.int a), some v, v3] ∧ Dp K H2 v (opsD (ops ++ more)) ∧ more.length = i ∧ (∀ x ∈ ops ++ more, Good x) ∧ BoxAt H2 p l ∧ KeepT H H2)
    ⟨v, [], none, rfl, by rw [List.append_nil]; exact dp_ops K1 (by omega) hg hv, rfl, by rw [List.append_nil]; exact hg, B1, K1⟩ ?_ ?_⟩
  · rintro i σ H2 hi ⟨v, more, v3, rfl, hv, ml, mg', B2, k2⟩
    have ol : (ops ++ more).length ≤ 1000 := by
      rw [List.length_append]
      omega
    refine ⟨_, rfl, _, rfl, p, l, rfl, B2, fun u b H3 hu gb B3 k3 => ⟨one_le, fun r nr => ?_⟩⟩
    have K3 := KeepT.box B2 k3
    obtain ⟨s4, d4⟩ := new_tup (K := K) nr (.cons hu .nil)
    refine catD (dp_ops (K3.trans (KeepT.same s4)) ol mg' hv) d4 (by simp; omega) fun x H5 s5 d5 => ?_
    exact ⟨x, more ++ [b], _, rfl, by rw [← List.append_assoc]; exact ops_snoc d5, by rw [List.length_append, ml]; rfl, by rw [← List.append_assoc]; exact good_snoc mg' gb, (B3.same s4).same s5, (k2.trans K3).trans (KeepT.same (s4.trans s5))⟩
  · rintro σ H2 ⟨v, more, v3, rfl, hv, ml, mg', B2, k2⟩
    have ol : (ops ++ more).length ≤ 100 := by
      rw [List.length_append]
      omega
    refine ⟨_, rfl, _, rfl, _, rfl, p, l, rfl, B2, fun u1 t1 c1 H3 d1 e1 _ B3 k3 => ?_⟩
    refine ⟨_, rfl, p, l, rfl, B3, fun u2 t2 c2 H4 d2 e2 _ B4 k4 => ?_⟩
    refine ⟨_, rfl, p, l, rfl, B4, fun u3 es H5 d3 el se B5 k5 => ⟨by show 5 ≤ sizeLine; decide, fun r nr => ?_⟩⟩
    have s6 := same_new nr (.tup [.int a, v, u1, u2, u3])
    have k6 := KeepT.same s6
    refine q _ ⟨a, ops ++ more, t1, c1, t2, c2, es⟩ _ (loc_dp (SqT.of upd_same) ?_ ?_ ?_ ?_) ⟨ol, mg', e1, e2, Nat.le_trans el (by decide), se⟩ rfl ⟨more, rfl⟩ (B5.same s6) ((((k2.trans k3).trans k4).trans k5).trans k6)
    · exact dp_ops (((k3.trans k4).trans k5).trans k6) (Nat.le_trans ol (by decide)) mg' hv
    · exact dp_obj ((k4.trans k5).trans k6) e1 d1
    · exact dp_obj (k5.trans k6) e2 d2
    · exact dp_same s6 d3
/-! ### the law -/
theorem kind_txtOk : txtOk "kind" := by
  have h : ((("kind" : Str).cps.toList).all fun c => decide (c < 1114112)) = true := by decide +kernel
  intro c hc
  exact of_decide_eq_true (List.all_eq_true.mp h c hc)
theorem ok_law (T : Tx K mg w) : FnOk P w K mg base CX0 12 T.d_law.f T.d_law.fd P_law (spLaw K) := by
  have G__law_digits := ok__law_digits (P := P) (w := w) (base := base) T
  have G__law_draw := ok__law_draw (P := P) (w := w) (base := base) T
  have G__law_value := ok__law_value (P := P) (w := w) (base := base) T
  have G__law_local := ok__law_local (P := P) (w := w) (base := base) T
  have G__law_same := ok__law_same (P := P) (w := w) (base := base) T 9
  have G_thrown := ok_thrown (P := P) (w := w) (base := base) T
  have G__law_thrown := ok__law_thrown (P := P) (w := w) (base := base) T
  refine T.d_law.F.ok sc_law (fun vs H Q E h => ?_) (fun cdv A outer s H vs Q E hr h => ?_)
  · obtain ⟨a, ns, rfl, _⟩ := h
    rfl
  obtain ⟨a, ns, rfl, hS, h63, hb, q⟩ := h
  refine ⟨_, (pss_cons (ps_set (i := 1) sc_law.nd rfl (Or.inl rfl) (pe_lst (pa_cons (pe_call G__law_digits (hr.mono (by omega)) (by rfl) T.d__law_digits.m T.d__law_digits.F.kp T.d__law_digits.b .nil pass0 (pa_cons (pv 0) (pa_cons pe_int (pa_cons pe_int pa_nil)))) (pa_cons pe_int pa_nil))))
    (pss_cons (ps_for PassesOwn.never rfl (pi_range1 (by rfl) T.z_range (pa_cons pe_int pa_nil)) (pg_name (i := 2) sc_law.nd rfl (Or.inl rfl))
      (pss_cons (ps_set (i := 3) sc_law.nd rfl (Or.inl rfl) (pe_call G__law_local (hr.mono (by omega)) (by rfl) T.d__law_local.m T.d__law_local.F.kp T.d__law_local.b .nil pass0 (pa_cons (pv 1) (pa_cons (pe_call G__law_draw (hr.mono (by omega)) (by rfl) T.d__law_draw.m T.d__law_draw.F.kp T.d__law_draw.b .nil pass0 (pa_cons (pv 1) (pa_cons pe_int pa_nil))) (pa_cons (pe_tup pa_nil) pa_nil)))))
    (pss_cons (ps_set (i := 4) sc_law.nd rfl (Or.inl rfl) (pe_call G__law_value (hr.mono (by omega)) (by rfl) T.d__law_value.m T.d__law_value.F.kp T.d__law_value.b .nil pass0 (pa_cons (pv 1) pa_nil)))
    (C8.pss_cut (ps_if (pt_cmpR op_eq (pe_ix ix_tup (pv 4) pe_int (fun _ _ => rfl)) pe_str (nomark _))
      (pss_one (ps_set (i := 4) sc_law.nd rfl (Or.inl rfl) (pe_tup (pa_cons pe_str (pa_cons pe_str pa_nil)))))
      pss_nil)
    (pss_cons (ps_if (pt_not (pt_val (pe_call G__law_same (hr.mono (by omega)) (by rfl) T.d__law_same.m T.d__law_same.F.kp T.d__law_same.b .nil pass0 (pa_cons (pe_call G_thrown (hr.mono (by omega)) (by rfl) T.d_thrown.m T.d_thrown.F.kp T.d_thrown.b .nil pass0 (pa_cons (pv 3) (pa_cons (pv 4) pa_nil))) (pa_cons (pe_call G__law_thrown (hr.mono (by omega)) (by rfl) T.d__law_thrown.m T.d__law_thrown.F.kp T.d__law_thrown.b .nil pass0 (pa_cons (pv 3) (pa_cons (pv 4) pa_nil))) pa_nil)))))
      (pss_one (ps_ret pe_bl))
      pss_nil)
    (pss_cons (ps_set (i := 5) sc_law.nd rfl (Or.inl rfl) (pe_tup (pa_cons (pe_ix ix_tup (pv 3) pe_int (fun _ _ => rfl)) (pa_cons (pe_ix ix_tup (pv 3) pe_int (fun _ _ => rfl)) (pa_cons (pe_ix ix_tup (pv 3) pe_int (fun _ _ => rfl)) (pa_cons (pe_ix ix_tup (pv 3) pe_int (fun _ _ => rfl)) (pa_cons (pe_tup pa_nil) pa_nil)))))))
    (pss_one (ps_if (pt_not (pt_val (pe_call G__law_same (hr.mono (by omega)) (by rfl) T.d__law_same.m T.d__law_same.F.kp T.d__law_same.b .nil pass0 (pa_cons (pe_call G_thrown (hr.mono (by omega)) (by rfl) T.d_thrown.m T.d_thrown.F.kp T.d_thrown.b .nil pass0 (pa_cons (pv 5) (pa_cons (pv 4) pa_nil))) (pa_cons (pe_tup (pa_cons pe_str (pa_cons (pv 4) pa_nil))) pa_nil)))))
      (pss_one (ps_ret pe_bl))
      pss_nil))))))))
    (pss_one (ps_ret pe_bl)))), ?_⟩
  refine ⟨_, rfl, a, ns, rfl, hS, h63, hb, fun l ds H1 n1 h1 s1 => ⟨two_le, fun p hp => ?_⟩⟩
  have B0 : BoxAt (upd H1 p (.lst [.ref l, .int 0])) p l := ⟨⟨0, Int.le_refl 0, upd_same⟩, ⟨ds, by rw [upd_ne (ne_of_none h1 hp)]; exact h1⟩, ne_of_none h1 hp⟩
  refine ⟨6, rfl, by decide, by decide, for_range (lo := 0) (n := 6) (fun i σ H2 => ∃ (v2 v3 v4 v5 : Option V), σ = [some (.ref a), some (.ref p), v2, v3, v4, v5] ∧ BoxAt H2 p l)
    ⟨none, none, none, none, rfl, B0⟩ ?_ ?_⟩
  · rintro i σ H2 hi ⟨v2, v3, v4, v5, rfl, B2⟩
    refine ⟨_, rfl, _, rfl, p, l, _, rfl, by decide, B2, fun ad H3 _ _ B3 k3 => ⟨by show 0 ≤ sizeLine; decide, fun t0 n0 => ?_⟩⟩
    obtain ⟨s0, d0⟩ := new_tup (K := K) n0 DpAll.nil
    refine ⟨p, l, ad, .ref t0, [], rfl, B3.same s0, d0, by simp, (fun _ h => nomatch h), fun u st H4 hu sm _ _ B4 k4 => ?_⟩
    refine ⟨_, rfl, p, l, rfl, B4, fun x b H5 hx gb B5 k5 => ?_⟩
    have hu := dp_loc (KeepT.box B4 k5) sm hu
    refine ⟨fun σ H6 => ∃ (x : V) (b : Vl) (v2 v5 : Option V), σ = [some (.ref a), some (.ref p), v2, some u, some x, v5] ∧ Dp K H6 x b.d ∧ Good b ∧ Dp K H6 u st.d ∧ BoxAt H6 p l, ?_, ?_⟩
    · obtain ⟨xa, xs, ex, sx, _⟩ := vl_at hx
      refine ⟨_, rfl, xa, _, _, _, ex, rfl, sx, at_of (j := 0) rfl rfl, rfl, _, rfl, ite2 (fun _ => ?_) (fun _ => ?_)⟩
      · refine ⟨two_le, fun r nr => ?_⟩
        have s6 := same_new nr (.tup [.str "text", .str "kind"])
        exact ⟨_, .txt "kind", _, _, rfl, dp_two upd_same (.str _), good_txt (by decide +kernel) kind_txtOk, dp_same s6 hu, B5.same s6⟩
      · exact ⟨x, b, _, _, rfl, hx, gb, hu, B5⟩
    rintro σ H6 ⟨x, b, v2, v5, rfl, hx, gb, hu, B6⟩
    have ok1 := okD_thrown sm gb.dk
    refine ⟨_, rfl, _, rfl, u, x, st, b.d, rfl, hu, hx, fun y1 H7 s7 d7 => ?_⟩
    refine ⟨_, rfl, _, rfl, u, x, st, b.d, rfl, dp_same s7 hu, dp_same s7 hx, Nat.le_trans sm.cl (by decide), fun y2 H8 s8 d8 => ?_⟩
    refine ⟨_, _, _, _, 9, rfl, dp_same s8 d7, d8, ok1, ok1, _, rfl, ifF (by rw [same_refl 9 _ ok1]; rfl) ?_⟩
    have s9 := s7.trans s8
    have hu := dp_same s9 hu
    have hx := dp_same s9 hx
    obtain ⟨ua, o, f, t, c, eu, su, ho, hf, ht, hc⟩ := loc_at hu
    cases eu
    refine ⟨_, rfl, ua, _, _, _, rfl, rfl, su, at_of (j := 0) rfl rfl, _, rfl, ua, _, _, _, rfl, rfl, su, at_of (j := 1) rfl rfl, _, rfl, ua, _, _, _, rfl, rfl, su, at_of (j := 2) rfl rfl, _, rfl, ua, _, _, _, rfl, rfl, su, at_of (j := 3) rfl rfl, by show 0 ≤ sizeLine; decide, fun p1 n1 => ⟨by show 5 ≤ sizeLine; decide, fun p2 n2 => ?_⟩⟩
    obtain ⟨s1, d1⟩ := new_tup (K := K) n1 DpAll.nil
    have s2 := same_new n2 (.tup [.int st.adr, o, f, t, .ref p1])
    have s3 := s1.trans s2
    have hk : Dp K _ (.ref p2) (Loc.d ⟨st.adr, st.ops, st.ft, st.fn, st.tt, st.tn, []⟩) := loc_dp (SqT.of upd_same) (dp_same s3 ho) (dp_same s3 hf) (dp_same s3 ht) (dp_same s2 d1)
    have smk : Loc.sm ⟨st.adr, st.ops, st.ft, st.fn, st.tt, st.tn, []⟩ := ⟨sm.ol, sm.og, sm.f, sm.t, Nat.zero_le _, (fun _ h => nomatch h)⟩
    have ok2 := okD_thrown smk gb.dk
    refine ⟨_, rfl, _, rfl, _, x, ⟨st.adr, st.ops, st.ft, st.fn, st.tt, st.tn, []⟩, b.d, rfl, hk, dp_same s3 hx, fun y3 H9 s4 d9 => ?_⟩
    refine ⟨_, rfl, two_le, fun r nr => ?_⟩
    obtain ⟨s5, d5⟩ := new_tup (K := K) nr (.cons (.str "fail") (.cons (dp_same (s3.trans s4) hx) .nil))
    refine ⟨_, _, _, _, 9, rfl, dp_same s5 d9, d5, ok2, ok2, _, rfl, ifF (by erw [same_refl 9 _ ok2]; rfl) ?_⟩
    exact ⟨_, _, _, _, rfl, B6.same (((s9.trans s3).trans s4).trans s5)⟩
  · rintro σ H2 ⟨v2, v3, v4, v5, rfl, B2⟩
    exact q _
end
theorem all_mk {l : PySem.W.OpenLaw} {w : World} {K : PySem.W.Frag} {h : Heap} {mg : Str → Option Value} {fa : Addr} (X : K.In h) (G : h.Ns mainGlobals mg) (hfa : mg "law" = some (.ref fa))
    {f0 f1 f2 f3 f4 f5 f6 f7 f8 f9 f10 f11 f12 f13 f14 f15 f16 f17 : Addr} {od0 an0 od1 an1 od2 an2 od3 an3 od4 an4 od5 an5 od6 an6 od7 an7 od8 an8 od9 an9 od10 an10 od11 an11 od12 an12 od13 an13 od14 an14 od15 an15 od16 an16 od17 an17 : Option Addr} {sl0 sl1 sl2 sl3 sl4 sl5 sl6 sl7 sl8 sl9 sl10 sl11 sl12 sl13 sl14 sl15 sl16 sl17 : Array (Option Value)} {oc0 kV0 dc0 pm0 cd0 ct0 oc1 kV1 dc1 pm1 cd1 ct1 oc2 kV2 dc2 pm2 cd2 ct2 oc3 kV3 dc3 pm3 cd3 ct3 oc4 kV4 dc4 pm4 cd4 ct4 oc5 kV5 dc5 pm5 cd5 ct5 oc6 kV6 dc6 pm6 cd6 ct6 oc7 kV7 dc7 pm7 cd7 ct7 oc8 kV8 dc8 pm8 cd8 ct8 oc9 kV9 dc9 pm9 cd9 ct9 oc10 kV10 dc10 pm10 cd10 ct10 oc11 kV11 dc11 pm11 cd11 ct11 oc12 kV12 dc12 pm12 cd12 ct12 oc13 kV13 dc13 pm13 cd13 ct13 oc14 kV14 dc14 pm14 cd14 ct14 oc15 kV15 dc15 pm15 cd15 ct15 oc16 kV16 dc16 pm16 cd16 ct16 oc17 kV17 dc17 pm17 cd17 ct17 : Value}
    (a0 : PySem.W.nsIn K mainGlobals "leave" = some (some (.ref f0)))
    (l0 : K.lookup f0 = some ⟨oc0, od0, .func (PySem.W.fnOf "leave" "leave" (defArgs s_leave) (defBody s_leave) (defScope s_leave) .none kV0 dc0 pm0 an0 cd0 ct0), sl0⟩)
    (c0 : PySem.W.codeIn K cd0 "leave" = true) (k0 : PySem.W.keepIn K (.ref f0) = true)
    (a1 : PySem.W.nsIn K mainGlobals "passing" = some (some (.ref f1)))
    (l1 : K.lookup f1 = some ⟨oc1, od1, .func (PySem.W.fnOf "passing" "passing" (defArgs s_passing) (defBody s_passing) (defScope s_passing) .none kV1 dc1 pm1 an1 cd1 ct1), sl1⟩)
    (c1 : PySem.W.codeIn K cd1 "passing" = true) (k1 : PySem.W.keepIn K (.ref f1) = true)
    (a2 : PySem.W.nsIn K mainGlobals "thrown" = some (some (.ref f2)))
    (l2 : K.lookup f2 = some ⟨oc2, od2, .func (PySem.W.fnOf "thrown" "thrown" (defArgs s_thrown) (defBody s_thrown) (defScope s_thrown) .none kV2 dc2 pm2 an2 cd2 ct2), sl2⟩)
    (c2 : PySem.W.codeIn K cd2 "thrown" = true) (k2 : PySem.W.keepIn K (.ref f2) = true)
    (a3 : PySem.W.nsIn K mainGlobals "_law_cell" = some (some (.ref f3)))
    (l3 : K.lookup f3 = some ⟨oc3, od3, .func (PySem.W.fnOf "_law_cell" "_law_cell" (defArgs s__law_cell) (defBody s__law_cell) (defScope s__law_cell) .none kV3 dc3 pm3 an3 cd3 ct3), sl3⟩)
    (c3 : PySem.W.codeIn K cd3 "_law_cell" = true) (k3 : PySem.W.keepIn K (.ref f3) = true)
    (a4 : PySem.W.nsIn K mainGlobals "_law_digits" = some (some (.ref f4)))
    (l4 : K.lookup f4 = some ⟨oc4, od4, .func (PySem.W.fnOf "_law_digits" "_law_digits" (defArgs s__law_digits) (defBody s__law_digits) (defScope s__law_digits) .none kV4 dc4 pm4 an4 cd4 ct4), sl4⟩)
    (c4 : PySem.W.codeIn K cd4 "_law_digits" = true) (k4 : PySem.W.keepIn K (.ref f4) = true)
    (a5 : PySem.W.nsIn K mainGlobals "_law_draw" = some (some (.ref f5)))
    (l5 : K.lookup f5 = some ⟨oc5, od5, .func (PySem.W.fnOf "_law_draw" "_law_draw" (defArgs s__law_draw) (defBody s__law_draw) (defScope s__law_draw) .none kV5 dc5 pm5 an5 cd5 ct5), sl5⟩)
    (c5 : PySem.W.codeIn K cd5 "_law_draw" = true) (k5 : PySem.W.keepIn K (.ref f5) = true)
    (a6 : PySem.W.nsIn K mainGlobals "_law_same" = some (some (.ref f6)))
    (l6 : K.lookup f6 = some ⟨oc6, od6, .func (PySem.W.fnOf "_law_same" "_law_same" (defArgs s__law_same) (defBody s__law_same) (defScope s__law_same) .none kV6 dc6 pm6 an6 cd6 ct6), sl6⟩)
    (c6 : PySem.W.codeIn K cd6 "_law_same" = true) (k6 : PySem.W.keepIn K (.ref f6) = true)
    (a7 : PySem.W.nsIn K mainGlobals "_law_number" = some (some (.ref f7)))
    (l7 : K.lookup f7 = some ⟨oc7, od7, .func (PySem.W.fnOf "_law_number" "_law_number" (defArgs s__law_number) (defBody s__law_number) (defScope s__law_number) .none kV7 dc7 pm7 an7 cd7 ct7), sl7⟩)
    (c7 : PySem.W.codeIn K cd7 "_law_number" = true) (k7 : PySem.W.keepIn K (.ref f7) = true)
    (a8 : PySem.W.nsIn K mainGlobals "_law_text" = some (some (.ref f8)))
    (l8 : K.lookup f8 = some ⟨oc8, od8, .func (PySem.W.fnOf "_law_text" "_law_text" (defArgs s__law_text) (defBody s__law_text) (defScope s__law_text) .none kV8 dc8 pm8 an8 cd8 ct8), sl8⟩)
    (c8 : PySem.W.codeIn K cd8 "_law_text" = true) (k8 : PySem.W.keepIn K (.ref f8) = true)
    (a9 : PySem.W.nsIn K mainGlobals "_law_value" = some (some (.ref f9)))
    (l9 : K.lookup f9 = some ⟨oc9, od9, .func (PySem.W.fnOf "_law_value" "_law_value" (defArgs s__law_value) (defBody s__law_value) (defScope s__law_value) .none kV9 dc9 pm9 an9 cd9 ct9), sl9⟩)
    (c9 : PySem.W.codeIn K cd9 "_law_value" = true) (k9 : PySem.W.keepIn K (.ref f9) = true)
    (a10 : PySem.W.nsIn K mainGlobals "_law_object" = some (some (.ref f10)))
    (l10 : K.lookup f10 = some ⟨oc10, od10, .func (PySem.W.fnOf "_law_object" "_law_object" (defArgs s__law_object) (defBody s__law_object) (defScope s__law_object) .none kV10 dc10 pm10 an10 cd10 ct10), sl10⟩)
    (c10 : PySem.W.codeIn K cd10 "_law_object" = true) (k10 : PySem.W.keepIn K (.ref f10) = true)
    (a11 : PySem.W.nsIn K mainGlobals "_law_entry" = some (some (.ref f11)))
    (l11 : K.lookup f11 = some ⟨oc11, od11, .func (PySem.W.fnOf "_law_entry" "_law_entry" (defArgs s__law_entry) (defBody s__law_entry) (defScope s__law_entry) .none kV11 dc11 pm11 an11 cd11 ct11), sl11⟩)
    (c11 : PySem.W.codeIn K cd11 "_law_entry" = true) (k11 : PySem.W.keepIn K (.ref f11) = true)
    (a12 : PySem.W.nsIn K mainGlobals "_law_control" = some (some (.ref f12)))
    (l12 : K.lookup f12 = some ⟨oc12, od12, .func (PySem.W.fnOf "_law_control" "_law_control" (defArgs s__law_control) (defBody s__law_control) (defScope s__law_control) .none kV12 dc12 pm12 an12 cd12 ct12), sl12⟩)
    (c12 : PySem.W.codeIn K cd12 "_law_control" = true) (k12 : PySem.W.keepIn K (.ref f12) = true)
    (a13 : PySem.W.nsIn K mainGlobals "_law_local" = some (some (.ref f13)))
    (l13 : K.lookup f13 = some ⟨oc13, od13, .func (PySem.W.fnOf "_law_local" "_law_local" (defArgs s__law_local) (defBody s__law_local) (defScope s__law_local) .none kV13 dc13 pm13 an13 cd13 ct13), sl13⟩)
    (c13 : PySem.W.codeIn K cd13 "_law_local" = true) (k13 : PySem.W.keepIn K (.ref f13) = true)
    (a14 : PySem.W.nsIn K mainGlobals "_law_leave" = some (some (.ref f14)))
    (l14 : K.lookup f14 = some ⟨oc14, od14, .func (PySem.W.fnOf "_law_leave" "_law_leave" (defArgs s__law_leave) (defBody s__law_leave) (defScope s__law_leave) .none kV14 dc14 pm14 an14 cd14 ct14), sl14⟩)
    (c14 : PySem.W.codeIn K cd14 "_law_leave" = true) (k14 : PySem.W.keepIn K (.ref f14) = true)
    (a15 : PySem.W.nsIn K mainGlobals "_law_after" = some (some (.ref f15)))
    (l15 : K.lookup f15 = some ⟨oc15, od15, .func (PySem.W.fnOf "_law_after" "_law_after" (defArgs s__law_after) (defBody s__law_after) (defScope s__law_after) .none kV15 dc15 pm15 an15 cd15 ct15), sl15⟩)
    (c15 : PySem.W.codeIn K cd15 "_law_after" = true) (k15 : PySem.W.keepIn K (.ref f15) = true)
    (a16 : PySem.W.nsIn K mainGlobals "_law_thrown" = some (some (.ref f16)))
    (l16 : K.lookup f16 = some ⟨oc16, od16, .func (PySem.W.fnOf "_law_thrown" "_law_thrown" (defArgs s__law_thrown) (defBody s__law_thrown) (defScope s__law_thrown) .none kV16 dc16 pm16 an16 cd16 ct16), sl16⟩)
    (c16 : PySem.W.codeIn K cd16 "_law_thrown" = true) (k16 : PySem.W.keepIn K (.ref f16) = true)
    (a17 : PySem.W.nsIn K mainGlobals "law" = some (some (.ref f17)))
    (l17 : K.lookup f17 = some ⟨oc17, od17, .func (PySem.W.fnOf "law" "law" (defArgs s_law) (defBody s_law) (defScope s_law) .none kV17 dc17 pm17 an17 cd17 ct17), sl17⟩)
    (c17 : PySem.W.codeIn K cd17 "law" = true) (k17 : PySem.W.keepIn K (.ref f17) = true)
    (z_len : PySem.W.nsIn K mainGlobals "len" = some none)
    (z_isinstance : PySem.W.nsIn K mainGlobals "isinstance" = some none)
    (z_tuple : PySem.W.nsIn K mainGlobals "tuple" = some none)
    (z_int : PySem.W.nsIn K mainGlobals "int" = some none)
    (z_bool : PySem.W.nsIn K mainGlobals "bool" = some none)
    (z_str : PySem.W.nsIn K mainGlobals "str" = some none)
    (z_range : PySem.W.nsIn K mainGlobals "range" = some none)
    (z_enumerate : PySem.W.nsIn K mainGlobals "enumerate" = some none)
    {u_FITTING : Addr} (c_FITTING : PySem.W.nsIn K mainGlobals "FITTING" = some (some (.ref u_FITTING)))
    {es_FITTING : Array DictEntry} {n_FITTING : Nat} (q_FITTING : K.lookup u_FITTING = some ⟨.type "dict", none, .dict es_FITTING n_FITTING, #[]⟩) (r_FITTING : PySem.W.KeysLit w.params es_FITTING.toList) (s_FITTING : (u_FITTING == sysModules) = false)
    (g_FITTING : KeysAre es_FITTING.toList ["call", "loop", "guard"])
    {b_FITTING_0 : Addr} (k_FITTING_0 : PySem.W.nsIn K u_FITTING "call" = some (some (.ref b_FITTING_0))) {dd_FITTING_0 : Option Addr} {n_FITTING_0 : Nat} {sl_FITTING_0 : Array (Option Value)} {jj0_FITTING_0 : Tok} (kk_FITTING_0 : K.lookup b_FITTING_0 = some ⟨.type "tuple", dd_FITTING_0, .seq #[.str "call" jj0_FITTING_0] n_FITTING_0, sl_FITTING_0⟩)
    {b_FITTING_1 : Addr} (k_FITTING_1 : PySem.W.nsIn K u_FITTING "loop" = some (some (.ref b_FITTING_1))) {dd_FITTING_1 : Option Addr} {n_FITTING_1 : Nat} {sl_FITTING_1 : Array (Option Value)} {jj0_FITTING_1 jj1_FITTING_1 : Tok} (kk_FITTING_1 : K.lookup b_FITTING_1 = some ⟨.type "tuple", dd_FITTING_1, .seq #[.str "loop" jj0_FITTING_1, .str "count" jj1_FITTING_1] n_FITTING_1, sl_FITTING_1⟩)
    {b_FITTING_2 : Addr} (k_FITTING_2 : PySem.W.nsIn K u_FITTING "guard" = some (some (.ref b_FITTING_2))) {dd_FITTING_2 : Option Addr} {n_FITTING_2 : Nat} {sl_FITTING_2 : Array (Option Value)} {jj0_FITTING_2 : Tok} (kk_FITTING_2 : K.lookup b_FITTING_2 = some ⟨.type "tuple", dd_FITTING_2, .seq #[.str "guard" jj0_FITTING_2] n_FITTING_2, sl_FITTING_2⟩)
    : ∃ fd : FuncData, (∀ (s : Shared) (v : Value), BindsTo s fd ⟨[v], []⟩ [("script", v)]) ∧ ∀ base : Heap, K.In base → base.Ns mainGlobals mg → FnOk l.prog w K mg base CX0 12 fa fd ["script"] (spLaw K) := by
  have e := hfa.symm.trans (PySem.W.mg_of X G a17)
  cases e
  have F0 := fun_mk (st := s_leave) l0 c0 k0
  have b0 := F0.binds (ps := ["control", "what"]) fun _ _ _ _ _ _ us hl => match us, hl with | [_, _], _ => rfl
  have F1 := fun_mk (st := s_passing) l1 c1 k1
  have b1 := F1.binds (ps := ["cuts", "after"]) fun _ _ _ _ _ _ us hl => match us, hl with | [_, _], _ => rfl
  have F2 := fun_mk (st := s_thrown) l2 c2 k2
  have b2 := F2.binds (ps := ["local", "value"]) fun _ _ _ _ _ _ us hl => match us, hl with | [_, _], _ => rfl
  have F3 := fun_mk (st := s__law_cell) l3 c3 k3
  have b3 := F3.binds (ps := ["script", "k"]) fun _ _ _ _ _ _ us hl => match us, hl with | [_, _], _ => rfl
  have F4 := fun_mk (st := s__law_digits) l4 c4 k4
  have b4 := F4.binds (ps := ["script", "first", "last"]) fun _ _ _ _ _ _ us hl => match us, hl with | [_, _, _], _ => rfl
  have F5 := fun_mk (st := s__law_draw) l5 c5 k5
  have b5 := F5.binds (ps := ["box", "many"]) fun _ _ _ _ _ _ us hl => match us, hl with | [_, _], _ => rfl
  have F6 := fun_mk (st := s__law_same) l6 c6 k6
  have b6 := F6.binds (ps := ["actual", "expected"]) fun _ _ _ _ _ _ us hl => match us, hl with | [_, _], _ => rfl
  have F7 := fun_mk (st := s__law_number) l7 c7 k7
  have b7 := F7.binds (ps := ["box"]) fun _ _ _ _ _ _ us hl => match us, hl with | [_], _ => rfl
  have F8 := fun_mk (st := s__law_text) l8 c8 k8
  have b8 := F8.binds (ps := ["box", "most"]) fun _ _ _ _ _ _ us hl => match us, hl with | [_, _], _ => rfl
  have F9 := fun_mk (st := s__law_value) l9 c9 k9
  have b9 := F9.binds (ps := ["box"]) fun _ _ _ _ _ _ us hl => match us, hl with | [_], _ => rfl
  have F10 := fun_mk (st := s__law_object) l10 c10 k10
  have b10 := F10.binds (ps := ["box"]) fun _ _ _ _ _ _ us hl => match us, hl with | [_], _ => rfl
  have F11 := fun_mk (st := s__law_entry) l11 c11 k11
  have b11 := F11.binds (ps := ["box"]) fun _ _ _ _ _ _ us hl => match us, hl with | [_], _ => rfl
  have F12 := fun_mk (st := s__law_control) l12 c12 k12
  have b12 := F12.binds (ps := ["box"]) fun _ _ _ _ _ _ us hl => match us, hl with | [_], _ => rfl
  have F13 := fun_mk (st := s__law_local) l13 c13 k13
  have b13 := F13.binds (ps := ["box", "address", "operands"]) fun _ _ _ _ _ _ us hl => match us, hl with | [_, _, _], _ => rfl
  have F14 := fun_mk (st := s__law_leave) l14 c14 k14
  have b14 := F14.binds (ps := ["control", "kinds"]) fun _ _ _ _ _ _ us hl => match us, hl with | [_, _], _ => rfl
  have F15 := fun_mk (st := s__law_after) l15 c15 k15
  have b15 := F15.binds (ps := ["cuts", "after"]) fun _ _ _ _ _ _ us hl => match us, hl with | [_, _], _ => rfl
  have F16 := fun_mk (st := s__law_thrown) l16 c16 k16
  have b16 := F16.binds (ps := ["local", "value"]) fun _ _ _ _ _ _ us hl => match us, hl with | [_, _], _ => rfl
  have F17 := fun_mk (st := s_law) l17 c17 k17
  have b17 := F17.binds (ps := ["script"]) fun _ _ _ _ _ _ us hl => match us, hl with | [_], _ => rfl
  let T : Tx K mg w := { d_leave := ⟨_, _, F0, b0, PySem.W.mg_of X G a0⟩, d_passing := ⟨_, _, F1, b1, PySem.W.mg_of X G a1⟩, d_thrown := ⟨_, _, F2, b2, PySem.W.mg_of X G a2⟩, d__law_cell := ⟨_, _, F3, b3, PySem.W.mg_of X G a3⟩, d__law_digits := ⟨_, _, F4, b4, PySem.W.mg_of X G a4⟩, d__law_draw := ⟨_, _, F5, b5, PySem.W.mg_of X G a5⟩, d__law_same := ⟨_, _, F6, b6, PySem.W.mg_of X G a6⟩, d__law_number := ⟨_, _, F7, b7, PySem.W.mg_of X G a7⟩, d__law_text := ⟨_, _, F8, b8, PySem.W.mg_of X G a8⟩, d__law_value := ⟨_, _, F9, b9, PySem.W.mg_of X G a9⟩, d__law_object := ⟨_, _, F10, b10, PySem.W.mg_of X G a10⟩, d__law_entry := ⟨_, _, F11, b11, PySem.W.mg_of X G a11⟩, d__law_control := ⟨_, _, F12, b12, PySem.W.mg_of X G a12⟩, d__law_local := ⟨_, _, F13, b13, PySem.W.mg_of X G a13⟩, d__law_leave := ⟨_, _, F14, b14, PySem.W.mg_of X G a14⟩, d__law_after := ⟨_, _, F15, b15, PySem.W.mg_of X G a15⟩, d__law_thrown := ⟨_, _, F16, b16, PySem.W.mg_of X G a16⟩, d_law := ⟨_, _, F17, b17, PySem.W.mg_of X G a17⟩, z_len := PySem.W.mg_none_of X G z_len, z_isinstance := PySem.W.mg_none_of X G z_isinstance, z_tuple := PySem.W.mg_none_of X G z_tuple, z_int := PySem.W.mg_none_of X G z_int, z_bool := PySem.W.mg_none_of X G z_bool, z_str := PySem.W.mg_none_of X G z_str, z_range := PySem.W.mg_none_of X G z_range, z_enumerate := PySem.W.mg_none_of X G z_enumerate, a_FITTING := u_FITTING, c_FITTING := PySem.W.mg_of X G c_FITTING, es_FITTING := _, g_FITTING := g_FITTING, n_FITTING := _, q_FITTING := ⟨q_FITTING, r_FITTING, s_FITTING⟩, k_FITTING_0 := ⟨_, k_FITTING_0, _, _, _, kk_FITTING_0, rfl, rfl, (by show 1 ≤ sizeLine; decide), (Paired.cons (relS _ _) Paired.nil)⟩, k_FITTING_1 := ⟨_, k_FITTING_1, _, _, _, kk_FITTING_1, rfl, rfl, (by show 2 ≤ sizeLine; decide), (Paired.cons (relS _ _) (Paired.cons (relS _ _) Paired.nil))⟩, k_FITTING_2 := ⟨_, k_FITTING_2, _, _, _, kk_FITTING_2, rfl, rfl, (by show 1 ≤ sizeLine; decide), (Paired.cons (relS _ _) Paired.nil)⟩ }
  exact ⟨_, fun s v => .of_eq rfl, fun base _ _ => ok_law T⟩
theorem walk {l : PySem.W.OpenLaw} {q : Program} {loose : List Str} {XP : (Str → Option Value) → Heap → Prop} {YP : World → Heap → Prop} {d : DefRec} {K : Params → PySem.W.Frag} (hn : l.most = some 63) (hdf : d.params.defaults = [])
    (hY : ∀ (w : World) (h : Heap), YP w h → (K w.params).In h)
    (F : ∀ (w : World) (mg : Str → Option Value) (fa : Addr) (h : Heap), (K w.params).In h → h.Ns mainGlobals mg → mg d.name = some (.ref fa) →
      ∃ fd : FuncData, (∀ (s : Shared) (u : Value), BindsTo s fd ⟨[u], []⟩ [("script", u)]) ∧ ∀ base : Heap, (K w.params).In base → base.Ns mainGlobals mg → FnOk l.prog w (K w.params) mg base CX0 12 fa fd ["script"] (spLaw (K w.params))) :
    PySem.W.WalkO q loose XP YP l.row.toRowW d [] (fun f vs => PySem.call f vs) :=
  L2.walk_ofB (n := 63) (k := 12) (x := "script") (CX := fun _ => CX0) (sp := fun w => spLaw (K w.params)) hn (by decide) hdf ⟨rfl, by decide, by decide⟩ hY F (fun _ _ a ns hl hb _ hS => ⟨a, ns, rfl, hS, hl, hb, fun _ => rfl⟩) fun _ _ _ _ _ z => z
end My
open PySem PySem.W PyProof.Rows
set_option maxRecDepth 100000 in
set_option maxHeartbeats 0 in
theorem PySem.Challenge.cw_foretask_k24_exceptions_find_their_guard_holds : PySem.Challenge.rw_foretask_k24_exceptions_find_their_guard.Holds := by
  w_on; o_law; k_head; (case hw => w_witness2)
  k_fill
  refine My.walk (l := PySem.Challenge.rw_foretask_k24_exceptions_find_their_guard) rfl rfl (fun w h Y => PySem.W.kIn_of Y) ?F
  case F =>
    intro w mg fa h KX G hmg
    refine' My.all_mk KX G hmg ?a0 ?l0 ?c0 ?k0 ?a1 ?l1 ?c1 ?k1 ?a2 ?l2 ?c2 ?k2 ?a3 ?l3 ?c3 ?k3 ?a4 ?l4 ?c4 ?k4 ?a5 ?l5 ?c5 ?k5 ?a6 ?l6 ?c6 ?k6 ?a7 ?l7 ?c7 ?k7 ?a8 ?l8 ?c8 ?k8 ?a9 ?l9 ?c9 ?k9 ?a10 ?l10 ?c10 ?k10 ?a11 ?l11 ?c11 ?k11 ?a12 ?l12 ?c12 ?k12 ?a13 ?l13 ?c13 ?k13 ?a14 ?l14 ?c14 ?k14 ?a15 ?l15 ?c15 ?k15 ?a16 ?l16 ?c16 ?k16 ?a17 ?l17 ?c17 ?k17 ?z_len ?z_isinstance ?z_tuple ?z_int ?z_bool ?z_str ?z_range ?z_enumerate ?c_FITTING ?q_FITTING ?r_FITTING ?s_FITTING ?g_FITTING ?k_FITTING_0 ?kk_FITTING_0 ?k_FITTING_1 ?kk_FITTING_1 ?k_FITTING_2 ?kk_FITTING_2
    (case a0 => k_is)
    (case l0 => k_is)
    (case c0 => k_is)
    (case k0 => k_is)
    (case a1 => k_is)
    (case l1 => k_is)
    (case c1 => k_is)
    (case k1 => k_is)
    (case a2 => k_is)
    (case l2 => k_is)
    (case c2 => k_is)
    (case k2 => k_is)
    (case a3 => k_is)
    (case l3 => k_is)
    (case c3 => k_is)
    (case k3 => k_is)
    (case a4 => k_is)
    (case l4 => k_is)
    (case c4 => k_is)
    (case k4 => k_is)
    (case a5 => k_is)
    (case l5 => k_is)
    (case c5 => k_is)
    (case k5 => k_is)
    (case a6 => k_is)
    (case l6 => k_is)
    (case c6 => k_is)
    (case k6 => k_is)
    (case a7 => k_is)
    (case l7 => k_is)
    (case c7 => k_is)
    (case k7 => k_is)
    (case a8 => k_is)
    (case l8 => k_is)
    (case c8 => k_is)
    (case k8 => k_is)
    (case a9 => k_is)
    (case l9 => k_is)
    (case c9 => k_is)
    (case k9 => k_is)
    (case a10 => k_is)
    (case l10 => k_is)
    (case c10 => k_is)
    (case k10 => k_is)
    (case a11 => k_is)
    (case l11 => k_is)
    (case c11 => k_is)
    (case k11 => k_is)
    (case a12 => k_is)
    (case l12 => k_is)
    (case c12 => k_is)
    (case k12 => k_is)
    (case a13 => k_is)
    (case l13 => k_is)
    (case c13 => k_is)
    (case k13 => k_is)
    (case a14 => k_is)
    (case l14 => k_is)
    (case c14 => k_is)
    (case k14 => k_is)
    (case a15 => k_is)
    (case l15 => k_is)
    (case c15 => k_is)
    (case k15 => k_is)
    (case a16 => k_is)
    (case l16 => k_is)
    (case c16 => k_is)
    (case k16 => k_is)
    (case a17 => k_is)
    (case l17 => k_is)
    (case c17 => k_is)
    (case k17 => k_is)
    (case z_len => k_is)
    (case z_isinstance => k_is)
    (case z_tuple => k_is)
    (case z_int => k_is)
    (case z_bool => k_is)
    (case z_str => k_is)
    (case z_range => k_is)
    (case z_enumerate => k_is)
    (case c_FITTING => k_is)
    (case q_FITTING => k_is)
    (case g_FITTING => exact ⟨⟨_, rfl⟩, ⟨_, rfl⟩, ⟨_, rfl⟩, True.intro⟩)
    (case r_FITTING => exact ⟨⟨_, _, rfl, rfl⟩, ⟨_, _, rfl, rfl⟩, ⟨_, _, rfl, rfl⟩, True.intro⟩)
    (case s_FITTING => decide)
    (case k_FITTING_0 => k_is)
    (case kk_FITTING_0 => k_is)
    (case k_FITTING_1 => k_is)
    (case kk_FITTING_1 => k_is)
    (case k_FITTING_2 => k_is)
    (case kk_FITTING_2 => k_is)
