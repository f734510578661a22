import PyProof.Rows.All
import Wide.All
import OpenK.AllK
import Wide.FinOn
import HandS.ForMost
import HandS.IsInst
import HandS.Wide
import HandS.EndBits
import HandS.TupAny
import HandS.TupMul
import HandS.Strs
import HandS.Codes
import HandS.More
import HandS.StrMore
import HandS.Comp
import KE.GoesMore
import PySem.Challenge.RW_foretask_k22_cells_of_fields_and_items
set_option Elab.async false
set_option maxRecDepth 100000
set_option maxHeartbeats 4000000
namespace My
open PySem L2
/-! ### the text by places -/
def top (i : Nat) : Stmt := PySem.Challenge.pw_foretask_k22_cells_of_fields_and_items.main.body.getD i (.Pass ⟨0, 0, 0, 0⟩)
abbrev s_field_cell : Stmt := top 3
abbrev N_field_cell : List Str := ["records", "held", "name", "record", "fields"]
abbrev P_field_cell : List Str := ["records", "held", "name"]
theorem sc_field_cell : FnScope ["records", "held", "name", "record", "fields"] ["records", "held", "name"] (defScope s_field_cell) := ⟨rfl, rfl, rfl, by decide +kernel, rfl, by decide +kernel, by decide +kernel⟩
abbrev s_item_cell : Stmt := top 4
abbrev N_item_cell : List Str := ["held", "at"]
abbrev P_item_cell : List Str := ["held", "at"]
theorem sc_item_cell : FnScope ["held", "at"] ["held", "at"] (defScope s_item_cell) := ⟨rfl, rfl, rfl, by decide +kernel, rfl, by decide +kernel, by decide +kernel⟩
abbrev s_array_size : Stmt := top 5
abbrev N_array_size : List Str := ["value"]
abbrev P_array_size : List Str := ["value"]
theorem sc_array_size : FnScope ["value"] ["value"] (defScope s_array_size) := ⟨rfl, rfl, rfl, by decide +kernel, rfl, by decide +kernel, by decide +kernel⟩
abbrev s__law_cell : Stmt := top 7
abbrev N__law_cell : List Str := ["script", "k"]
abbrev P__law_cell : List Str := ["script", "k"]
theorem sc__law_cell : FnScope ["script", "k"] ["script", "k"] (defScope s__law_cell) := ⟨rfl, rfl, rfl, by decide +kernel, rfl, by decide +kernel, by decide +kernel⟩
abbrev s__law_digits : Stmt := top 8
abbrev N__law_digits : List Str := ["script", "first", "last", "digits", "k", "cell", "turn", "seed"]
abbrev P__law_digits : List Str := ["script", "first", "last"]
theorem sc__law_digits : FnScope ["script", "first", "last", "digits", "k", "cell", "turn", "seed"] ["script", "first", "last"] (defScope s__law_digits) := ⟨rfl, rfl, rfl, by decide +kernel, rfl, by decide +kernel, by decide +kernel⟩
abbrev s__law_draw : Stmt := top 9
abbrev N__law_draw : List Str := ["box", "many", "at"]
abbrev P__law_draw : List Str := ["box", "many"]
theorem sc__law_draw : FnScope ["box", "many", "at"] ["box", "many"] (defScope s__law_draw) := ⟨rfl, rfl, rfl, by decide +kernel, rfl, by decide +kernel, by decide +kernel⟩
abbrev s__law_same : Stmt := top 10
abbrev N__law_same : List Str := ["actual", "expected", "k"]
abbrev P__law_same : List Str := ["actual", "expected"]
theorem sc__law_same : FnScope ["actual", "expected", "k"] ["actual", "expected"] (defScope s__law_same) := ⟨rfl, rfl, rfl, by decide +kernel, rfl, by decide +kernel, by decide +kernel⟩
abbrev s__law_number : Stmt := top 11
abbrev N__law_number : List Str := ["box", "kind", "size"]
abbrev P__law_number : List Str := ["box"]
theorem sc__law_number : FnScope ["box", "kind", "size"] ["box"] (defScope s__law_number) := ⟨rfl, rfl, rfl, by decide +kernel, rfl, by decide +kernel, by decide +kernel⟩
abbrev s__law_text : Stmt := top 12
abbrev N__law_text : List Str := ["box", "most", "signs", "text", "k"]
abbrev P__law_text : List Str := ["box", "most"]
theorem sc__law_text : FnScope ["box", "most", "signs", "text", "k"] ["box", "most"] (defScope s__law_text) := ⟨rfl, rfl, rfl, by decide +kernel, rfl, by decide +kernel, by decide +kernel⟩
abbrev s__law_value : Stmt := top 13
abbrev N__law_value : List Str := ["box", "kind", "task", "k"]
abbrev P__law_value : List Str := ["box"]
theorem sc__law_value : FnScope ["box", "kind", "task", "k"] ["box"] (defScope s__law_value) := ⟨rfl, rfl, rfl, by decide +kernel, rfl, by decide +kernel, by decide +kernel⟩
abbrev s__law_name : Stmt := top 14
abbrev N__law_name : List Str := ["cell", "k", "letters"]
abbrev P__law_name : List Str := ["cell", "k"]
theorem sc__law_name : FnScope ["cell", "k", "letters"] ["cell", "k"] (defScope s__law_name) := ⟨rfl, rfl, rfl, by decide +kernel, rfl, by decide +kernel, by decide +kernel⟩
abbrev s__law_records : Stmt := top 15
abbrev N__law_records : List Str := ["box", "cell", "records", "k", "fields", "n"]
abbrev P__law_records : List Str := ["box", "cell"]
theorem sc__law_records : FnScope ["box", "cell", "records", "k", "fields", "n"] ["box", "cell"] (defScope s__law_records) := ⟨rfl, rfl, rfl, by decide +kernel, rfl, by decide +kernel, by decide +kernel⟩
abbrev s__law_due_field : Stmt := top 16
abbrev N__law_due_field : List Str := ["records", "held", "name", "record", "k"]
abbrev P__law_due_field : List Str := ["records", "held", "name"]
theorem sc__law_due_field : FnScope ["records", "held", "name", "record", "k"] ["records", "held", "name"] (defScope s__law_due_field) := ⟨rfl, rfl, rfl, by decide +kernel, rfl, by decide +kernel, by decide +kernel⟩
abbrev s__law_due_item : Stmt := top 17
abbrev N__law_due_item : List Str := ["held", "at"]
abbrev P__law_due_item : List Str := ["held", "at"]
theorem sc__law_due_item : FnScope ["held", "at"] ["held", "at"] (defScope s__law_due_item) := ⟨rfl, rfl, rfl, by decide +kernel, rfl, by decide +kernel, by decide +kernel⟩
abbrev s__law_due_size : Stmt := top 18
abbrev N__law_due_size : List Str := ["value"]
abbrev P__law_due_size : List Str := ["value"]
theorem sc__law_due_size : FnScope ["value"] ["value"] (defScope s__law_due_size) := ⟨rfl, rfl, rfl, by decide +kernel, rfl, by decide +kernel, by decide +kernel⟩
abbrev s_law : Stmt := top 19
abbrev N_law : List Str := ["script", "box", "cell", "records", "k", "held", "kind", "n", "name", "numbers", "at"]
abbrev P_law : List Str := ["script"]
theorem sc_law : FnScope ["script", "box", "cell", "records", "k", "held", "kind", "n", "name", "numbers", "at"] ["script"] (defScope s_law) := ⟨rfl, rfl, rfl, by decide +kernel, rfl, by decide +kernel, by decide +kernel⟩
structure Df (K : PySem.W.Frag) (mg : Str → Option Value) (x : Str) (st : Stmt) (ps : List Str) where
  f : Addr
  fd : FuncData
  F : Fun K x x st f fd
  b : Binds K fd ps []
  m : mg x = some (.ref f)
structure Mf (K : PySem.W.Frag) (C : Addr) (x qual : Str) (st : Stmt) (ps : List Str) where
  f : Addr
  fd : FuncData
  F : Fun K x qual st f fd
  b : Binds K fd ps []
  mt : Meth K C x f
structure Nf (K : PySem.W.Frag) (x qual : Str) (st : Stmt) (ps : List Str) where
  f : Addr
  fd : FuncData
  F : Fun K x qual st f fd
  b : Binds K fd ps []
def KTup (K : PySem.W.Frag) (a : Addr) (xs : List Str) : Prop := ∃ (o : Obj) (its : Array Value) (n : Nat), K.lookup a = some o ∧ o.cls = .type "tuple" ∧ o.data = .seq its n ∧ its.size ≤ sizeLine ∧ Vals (xs.map V.str) its.toList
theorem relS (x : Str) (t : Tok) : RelV (.str x) (.str x t) := ⟨t, rfl⟩
structure Tx (K : PySem.W.Frag) (mg : Str → Option Value) where
  d_field_cell : Df K mg "field_cell" s_field_cell ["records", "held", "name"]
  d_item_cell : Df K mg "item_cell" s_item_cell ["held", "at"]
  d_array_size : Df K mg "array_size" s_array_size ["value"]
  d__law_cell : Df K mg "_law_cell" s__law_cell ["script", "k"]
  d__law_digits : Df K mg "_law_digits" s__law_digits ["script", "first", "last"]
  d__law_draw : Df K mg "_law_draw" s__law_draw ["box", "many"]
  d__law_same : Df K mg "_law_same" s__law_same ["actual", "expected"]
  d__law_number : Df K mg "_law_number" s__law_number ["box"]
  d__law_text : Df K mg "_law_text" s__law_text ["box", "most"]
  d__law_value : Df K mg "_law_value" s__law_value ["box"]
  d__law_name : Df K mg "_law_name" s__law_name ["cell", "k"]
  d__law_records : Df K mg "_law_records" s__law_records ["box", "cell"]
  d__law_due_field : Df K mg "_law_due_field" s__law_due_field ["records", "held", "name"]
  d__law_due_item : Df K mg "_law_due_item" s__law_due_item ["held", "at"]
  d__law_due_size : Df K mg "_law_due_size" s__law_due_size ["value"]
  d_law : Df K mg "law" s_law ["script"]
  z_len : mg "len" = none
  z_isinstance : mg "isinstance" = none
  z_tuple : mg "tuple" = none
  z_int : mg "int" = none
  z_bool : mg "bool" = none
  z_str : mg "str" = none
  z_range : mg "range" = none
  t_ITEMS : Tok
  c_ITEMS : mg "ITEMS" = some (.int (40) t_ITEMS)
  a_KIND : Addr
  c_KIND : mg "KIND" = some (.ref a_KIND)
  q_KIND : ∃ (dd : Option Addr) (n : Nat) (sl : Array (Option Value)) (k0 k1 : Tok), K.lookup a_KIND = some ⟨.type "tuple", dd, .seq #[.str "error" k0, .str "kind" k1] n, sl⟩
/-! ### operators -/
section
open PySem.Spec PyProof.Rows
variable {X : Cx}
def CMulX (i j : Int) : Prop := i.natAbs.log2 + j.natAbs.log2 < 134000000
theorem mulX_fits {i j : Int} (h : CMulX i j) : IntMulOk i j := by
  have hb : ∀ x : Int, Builtin.Int.intBits x ≤ x.natAbs.log2 + 1 := by
    intro x
    unfold Builtin.Int.intBits
    split
    · omega
    · omega
  intro hh
  simp only [Bool.and_eq_true, Builtin.Int.intTooBig, decide_eq_true_eq] at hh
  have hl : bitsLine = 134217728 := by decide
  have h1 := hb i
  have h2 := hb j
  unfold CMulX at h
  omega
theorem op_mulX : OpR X (binaryOp .Mult) (rI CMulX fun i j => .int (i * j)) := opI fun _ _ _ _ _ _ _ c q => mul_int q (mulX_fits c)
def CDivG (_ j : Int) : Prop := j ≠ 0 ∧ j.natAbs.log2 < 9000
theorem op_fdivG : OpR X (binaryOp .FloorDiv) (rI CDivG fun i j => .int (i.fdiv j)) := opI fun _ _ _ _ _ _ _ c q => floordiv_int c.1 q (.inl (PyProof.noPylong_of_log2 c.2))
end
theorem two240 : (10000000000000000000000000000000000000000000000000000000000000000000000 : Nat) < 2 ^ 240 := by decide +kernel
theorem log_small {i : Int} (h : i.natAbs < 10000000000000000000000000000000000000000000000000000000000000000000000) : i.natAbs.log2 < 240 :=
  PySem.Flt.log2_lt_of (by decide) (Nat.lt_trans h two240)
theorem mulX_small {i j : Int} (h1 : i.natAbs < 10000000000000000000000000000000000000000000000000000000000000000000000) (h2 : j.natAbs < 10000000000000000000000000000000000000000000000000000000000000000000000) : CMulX i j := by
  have a := log_small h1
  have b := log_small h2
  unfold CMulX
  omega
theorem bits_log {z : Int} (h : Builtin.Int.intBits z ≤ 1048576) : z.natAbs.log2 ≤ 1048576 := by
  unfold Builtin.Int.intBits at h
  split at h
  · rename_i e
    simp_all
  · omega
/-! ### heaps -/
theorem same_new {H : Hp} {p : Addr} (h : H p = none) (o : HO) : Same H (upd H p o) := fun b u q => by rw [upd_ne (ne_of_none q h)]; exact q
/-- all but what stands at p is as it was -/
def Keep (p : Addr) (H H' : Hp) : Prop := ∀ b o, H b = some o → b ≠ p → H' b = some o
theorem Keep.refl {p : Addr} {H : Hp} : Keep p H H := fun _ _ h _ => h
theorem Keep.trans {p : Addr} {H H1 H2 : Hp} (a : Keep p H H1) (b : Keep p H1 H2) : Keep p H H2 := fun c o h n => b c o (a c o h n) n
theorem Keep.of {p : Addr} {H H' : Hp} (h : Same H H') : Keep p H H' := fun b o e _ => h b o e
theorem Keep.upd {p : Addr} {H : Hp} {o : HO} : Keep p H (upd H p o) := fun b u e n => by rw [upd_ne n]; exact e
theorem same_upd {H H2 : Hp} {l : Addr} {o : HO} (s : Same H H2) (h : H l = none) : Same H (upd H2 l o) := fun b u e => by
  rw [upd_ne (ne_of_none e h)]
  exact s b u e
theorem lines {n : Nat} (h : n ≤ 100000) : n < sizeLine := Nat.lt_of_le_of_lt h (by decide)
/-- a list [digits, at] stands at p, its digits at l -/
structure BoxAt (H : Hp) (p l : Addr) : Prop where
  bx : ∃ k : Int, 0 ≤ k ∧ H p = some (.lst [.ref l, .int k])
  dg : ∃ ds : List Int, H l = some (.lst (ds.map V.int))
  ne : l ≠ p
theorem BoxAt.same {H H' : Hp} {p l : Addr} (B : BoxAt H p l) (s : Same H H') : BoxAt H' p l := by
  obtain ⟨⟨k, h0, h1⟩, ⟨ds, h2⟩, n⟩ := B
  exact ⟨⟨k, h0, s _ _ h1⟩, ⟨ds, s _ _ h2⟩, n⟩
/-! ### the promises of the law's helpers -/
def spCell (K : PySem.W.Frag) : Sp := fun vs H Q _ => ∃ (a : Addr) (ns : List Int) (k : Int), vs = [.ref a, .int k] ∧ SqL K H a (ns.map V.int) ∧ 0 ≤ k ∧ ∀ c : Int, (c = 0 ∨ c ∈ ns) → Q (.int c) H
def spDigits (K : PySem.W.Frag) : Sp := fun vs H Q _ => ∃ (a : Addr) (ns : List Int), vs = [.ref a, .int 0, .int 63] ∧ SqL K H a (ns.map V.int) ∧ ns.length ≤ 63 ∧ (∀ z ∈ ns, Builtin.Int.intBits z ≤ 1048576) ∧
  ∀ (l : Addr) (ds : List Int) (H' : Hp), H l = none → H' l = some (.lst (ds.map V.int)) → Same H H' → Q (.ref l) H'
def spDraw : Sp := fun vs H Q _ => ∃ (p l : Addr) (m : Int), vs = [.ref p, .int m] ∧ 0 < m ∧ BoxAt H p l ∧ ∀ (r : Int) (H' : Hp), 0 ≤ r → r < m → BoxAt H' p l → Keep p H H' → Q (.int r) H'
def spLaw (K : PySem.W.Frag) : Sp := fun vs H Q _ => ∃ (a : Addr) (ns : List Int), vs = [.ref a] ∧ SqL K H a (ns.map V.int) ∧ ns.length ≤ 63 ∧ (∀ z ∈ ns, Builtin.Int.intBits z ≤ 1048576) ∧ ∀ H', Q (.bl true) H'
theorem ifT {b : Bool} {A B : Prop} (h : b = true) (a : A) : if b = true then A else B := by
  subst h
  exact iteT a
theorem ifF {b : Bool} {A B : Prop} (h : b = false) (a : B) : if b = true then A else B := by
  subst h
  exact iteF a
section
variable {P : Program} {w : World} {K : PySem.W.Frag} {mg : Str → Option Value} {base : Heap}
theorem ok__law_cell (T : Tx K mg) : FnOk P w K mg base CX0 1 T.d__law_cell.f T.d__law_cell.fd P__law_cell (spCell K) := by
  refine T.d__law_cell.F.ok sc__law_cell (fun vs H Q E h => ?_) (fun cdv A outer s H vs Q E hr h => ?_)
  · obtain ⟨a, ns, k, rfl, _⟩ := h
    rfl
  obtain ⟨a, ns, k, rfl, hS, h0, q⟩ := h
  refine ⟨_, (pss_cons (ps_if (pt_cmpR op_lt (pv 1) (pe_callB call_len_seq (by rfl) T.z_len PySem.boot_len (pa_cons (pv 0) pa_nil)) (nomark _))
      (pss_one (ps_ret (pe_ix ix_list (pv 0) (pv 1) (fun _ _ => rfl))))
      pss_nil)
    (pss_one (ps_ret pe_int))), ?_⟩
  have hl : (ns.map V.int).length = ns.length := List.length_map _
  refine ⟨_, rfl, _, rfl, a, _, rfl, .inl hS, _, _, rfl, rfl, _, rfl, ?_⟩
  refine ite2 (fun c => ?_) (fun c => ?_)
  · have c' : k < (((ns.map V.int).length : Nat) : Int) := of_decide_eq_true c
    rw [hl] at c'
    have hk : k.toNat < ns.length := by omega
    refine ⟨_, rfl, _, rfl, a, _, _, _, rfl, rfl, hS, at_of (j := k.toNat) (v := V.int ns[k.toNat]) (by omega) (by rw [List.getElem?_map, List.getElem?_eq_getElem hk] <;> rfl), ?_⟩
    exact q _ (Or.inr (List.getElem_mem hk))
  · exact q 0 (Or.inl rfl)
theorem ok__law_draw (T : Tx K mg) : FnOk P w K mg base CX0 1 T.d__law_draw.f T.d__law_draw.fd P__law_draw spDraw := by
  refine T.d__law_draw.F.ok sc__law_draw (fun vs H Q E h => ?_) (fun cdv A outer s H vs Q E hr h => ?_)
  · obtain ⟨p, l, m, rfl, _⟩ := h
    rfl
  obtain ⟨p, l, m, rfl, hm, ⟨⟨k, k0, hp⟩, ⟨ds, hd⟩, ne⟩, q⟩ := h
  refine ⟨_, (pss_cons (ps_set (i := 2) sc__law_draw.nd rfl (Or.inl rfl) (pe_ix ix_list (pv 0) pe_int (fun _ _ => rfl)))
    (pss_cons (ps_asg (pe_op op_add (pv 2) pe_int) (pg_sub (pv 0) pe_int set_list))
    (pss_cons (ps_if (pt_cmpR op_lt (pv 2) (pe_callB call_len_seq (by rfl) T.z_len PySem.boot_len (pa_cons (pe_ix ix_list (pv 0) pe_int (fun _ _ => rfl)) pa_nil)) (nomark _))
      (pss_one (ps_ret (pe_op op_mod (pe_callTy call_int1 (by rfl) T.z_int (by decide +kernel) (pa_cons (pe_ix ix_list (pe_ix ix_list (pv 0) pe_int (fun _ _ => rfl)) (pv 2) (fun _ _ => rfl)) pa_nil)) (pv 1))))
      pss_nil)
    (pss_one (ps_ret pe_int))))), ?_⟩
  have hl : (ds.map V.int).length = ds.length := List.length_map _
  have B' : BoxAt (upd H p (.lst [.ref l, .int (k + 1)])) p l := ⟨⟨k + 1, by omega, upd_same⟩, ⟨ds, by rw [upd_ne ne]; exact hd⟩, ne⟩
  -- at = box[1]
  refine ⟨_, rfl, p, _, _, _, rfl, rfl, SqL.of hp, at_of (j := 1) rfl rfl, ?_⟩
  -- box[1] = at + 1
  refine ⟨_, rfl, _, _, rfl, rfl, _, rfl, p, _, _, 1, rfl, rfl, hp, rfl, ?_⟩
  have hp' : upd H p (.lst [.ref l, .int (k + 1)]) p = some (.lst [.ref l, .int (k + 1)]) := upd_same
  have hd' : upd H p (.lst [.ref l, .int (k + 1)]) l = some (.lst (ds.map V.int)) := by rw [upd_ne ne]; exact hd
  refine ⟨_, rfl, _, rfl, p, _, _, _, rfl, rfl, SqL.of hp', at_of (j := 0) rfl rfl, l, _, rfl, .inl (SqL.of hd'), _, _, rfl, rfl, _, rfl, ?_⟩
  refine ite2 (fun c => ?_) (fun c => ?_)
  · have c' : k < (((ds.map V.int).length : Nat) : Int) := of_decide_eq_true c
    rw [hl] at c'
    have hk : k.toNat < ds.length := by omega
    refine ⟨_, rfl, p, _, _, _, rfl, rfl, SqL.of hp', at_of (j := 0) rfl rfl, _, rfl, l, _, _, _, rfl, rfl, SqL.of hd', at_of (j := k.toNat) (v := V.int ds[k.toNat]) (by omega) (by rw [List.getElem?_map, List.getElem?_eq_getElem hk] <;> rfl), ?_⟩
    refine .inl ⟨_, rfl, _, rfl, _, _, rfl, rfl, hm, ?_⟩
    exact q _ _ (Int.emod_nonneg _ (by omega)) (Int.emod_lt_of_pos _ hm) B' Keep.upd
  · exact q 0 _ (Int.le_refl 0) hm B' Keep.upd
theorem cell_log {ns : List Int} {c : Int} (hb : ∀ z ∈ ns, Builtin.Int.intBits z ≤ 1048576) (h : c = 0 ∨ c ∈ ns) : c.natAbs.log2 ≤ 1048576 := by
  rcases h with rfl | h
  · decide
  · exact bits_log (hb c h)
theorem map_append1 (ds : List Int) (z : Int) : ds.map V.int ++ [V.int z] = (ds ++ [z]).map V.int := by rw [List.map_append]; rfl
theorem ok__law_digits (T : Tx K mg) : FnOk P w K mg base CX0 2 T.d__law_digits.f T.d__law_digits.fd P__law_digits (spDigits K) := by
  have G__law_cell := ok__law_cell (P := P) (w := w) (base := base) T
  refine T.d__law_digits.F.ok sc__law_digits (fun vs H Q E h => ?_) (fun cdv A outer s H vs Q E hr h => ?_)
  · obtain ⟨a, ns, rfl, _⟩ := h
    rfl
  obtain ⟨a, ns, rfl, hS, h63, hb, q⟩ := h
  refine ⟨_, (pss_cons (ps_set (i := 3) sc__law_digits.nd rfl (Or.inl rfl) (pe_lst pa_nil))
    (pss_cons (ps_for PassesOwn.never rfl (pi_range2 (by rfl) T.z_range (pa_cons (pv 1) (pa_cons (pv 2) pa_nil))) (pg_name (i := 4) sc__law_digits.nd rfl (Or.inl rfl))
      (pss_cons (ps_set (i := 5) sc__law_digits.nd rfl (Or.inl rfl) (pe_call G__law_cell (hr.mono (by omega)) (by rfl) T.d__law_cell.m T.d__law_cell.F.kp T.d__law_cell.b .nil pass0 (pa_cons (pv 0) (pa_cons (pv 4) pa_nil))))
    (pss_cons (ps_if (pt_cmpR op_lt (pv 5) pe_int (nomark _))
      (pss_one (ps_set (i := 5) sc__law_digits.nd rfl (Or.inl rfl) (pe_op op_sub pe_int (pe_op op_mulX pe_int (pv 5)))))
      pss_nil)
    (pss_one (ps_if (pt_cmpR op_ge (pv 5) (pe_op op_pow pe_int pe_int) (nomark _))
      (pss_one (ps_for PassesOwn.never rfl (pi_range1 (by rfl) T.z_range (pa_cons pe_int pa_nil)) (pg_name (i := 6) sc__law_digits.nd rfl (Or.inl rfl))
      (pss_one (ps_if (pt_cmpR op_gt (pv 5) pe_int (nomark _))
      (pss_cons (ps_expr (pe_bm PySem.F.plainAttrs_list PySem.F.slot_list_append PySem.F.type_list_append mt_append (pv 3) (pa_cons (pe_op op_mod (pe_callTy call_int1 (by rfl) T.z_int (by decide +kernel) (pa_cons (pv 5) pa_nil)) pe_int) pa_nil)))
    (pss_one (ps_set (i := 5) sc__law_digits.nd rfl (Or.inl rfl) (pe_op op_fdiv (pv 5) pe_int))))
      pss_nil))))
      (pss_cons (ps_set (i := 7) sc__law_digits.nd rfl (Or.inl rfl) (pe_op op_mod (pe_callTy call_int1 (by rfl) T.z_int (by decide +kernel) (pa_cons (pe_op op_add (pe_op op_add (pe_op op_mulX (pv 5) pe_int) (pe_op op_mulX (pv 4) pe_int)) pe_int) pa_nil)) pe_int))
    (pss_one (ps_for PassesOwn.never rfl (pi_range1 (by rfl) T.z_range (pa_cons pe_int pa_nil)) (pg_name (i := 6) sc__law_digits.nd rfl (Or.inl rfl))
      (pss_cons (ps_set (i := 7) sc__law_digits.nd rfl (Or.inl rfl) (pe_op op_mod (pe_callTy call_int1 (by rfl) T.z_int (by decide +kernel) (pa_cons (pe_op op_add (pe_op op_add (pe_op op_mulX (pv 7) pe_int) (pe_op op_mulX pe_int (pv 6))) pe_int) pa_nil)) pe_int))
    (pss_one (ps_expr (pe_bm PySem.F.plainAttrs_list PySem.F.slot_list_append PySem.F.type_list_append mt_append (pv 3) (pa_cons (pe_op op_mod (pe_callTy call_int1 (by rfl) T.z_int (by decide +kernel) (pa_cons (pe_op op_fdiv (pv 7) pe_int) pa_nil)) pe_int) pa_nil)))))))))))))
    (pss_one (ps_ret (pv 3))))), ?_⟩
  refine ⟨(by show 0 ≤ sizeLine; decide), fun l hl => ?_⟩
  have s0 := same_new hl (.lst [])
  refine ⟨_, rfl, _, rfl, _, _, rfl, by decide, for_range (lo := 0) (n := 63) (fun i σ H1 => ∃ (ds : List Int) (v4 v5 v6 v7 : Option V), σ = [some (.ref a), some (.int 0), some (.int 63), some (.ref l), v4, v5, v6, v7] ∧ Same H H1 ∧ H1 l = some (.lst (ds.map V.int)) ∧ ds.length ≤ 60 * i)
    ⟨[], none, none, none, none, rfl, s0, upd_same, Nat.le_refl 0⟩ ?_ ?_⟩
  · rintro i σ H1 hi ⟨ds, v4, v5, v6, v7, rfl, s1, h1, hn⟩
    -- cell = _law_cell(script, k)
    refine ⟨_, rfl, _, rfl, a, ns, _, rfl, s1.seq hS, by omega, fun c hc => ?_⟩
    have hlog := cell_log hb hc
    refine ⟨_, rfl, _, _, rfl, rfl, _, rfl, ?_⟩
    have e2 : (2 : Int).natAbs.log2 = 1 := by decide
    refine ite2 (fun e0 => ?g1) (fun e0 => ?g2)
    case g1 =>
      have e0' : c < 0 := of_decide_eq_true e0
      refine ⟨_, rfl, _, _, rfl, rfl, (by unfold CMulX; omega), _, _, rfl, rfl, ?_⟩
      have hc0 : 0 ≤ 1 - 2 * c := by omega
      dsimp only
      generalize (1 - 2 * c : Int) = c2 at hc0 ⊢
      refine ⟨_, rfl, _, _, rfl, rfl, ⟨by decide, by decide, by decide⟩, _, _, rfl, rfl, _, rfl, ?_⟩
      refine ite2 (fun e1 => ?_) (fun e1 => ?_)
      · refine ⟨60, rfl, by decide, by decide, for_range (lo := 0) (n := 60) (fun j σ H2 => ∃ (ds : List Int) (c3 : Int) (v4 v6 v7 : Option V), σ = [some (.ref a), some (.int 0), some (.int 63), some (.ref l), v4, some (.int c3), v6, v7] ∧ Same H H2 ∧ H2 l = some (.lst (ds.map V.int)) ∧ ds.length ≤ 60 * i + j)
          ⟨ds, c2, _, _, _, rfl, s1, h1, hn⟩ ?_ ?_⟩
        · rintro j σ H2 hj ⟨ds, c3, v4, v6, v7, rfl, s2, h2, hn⟩
          refine ⟨_, rfl, _, _, rfl, rfl, _, rfl, ?_⟩
          refine ite2 (fun e3 => ?_) (fun e3 => ?_)
          · refine ⟨_, rfl, .inl ⟨rfl, _, SqL.of h2⟩, _, rfl, .inl ⟨_, rfl, _, _, rfl, rfl, (by show (0 : Int) < 1000; decide), l, _, _, rfl, rfl, h2, (by rw [List.length_map]; exact lines (by omega)), ?_⟩⟩
            refine ⟨_, rfl, _, _, rfl, rfl, ⟨by decide, by decide⟩, ?_⟩
            exact ⟨ds ++ [c3 % 1000], _, _, _, _, rfl, same_upd s2 hl, by rw [upd_same, map_append1], by rw [List.length_append, List.length_singleton]; omega⟩
          · exact ⟨ds, c3, _, _, _, rfl, s2, h2, by omega⟩
        · rintro σ H2 ⟨ds, c3, v4, v6, v7, rfl, s2, h2, hn⟩
          exact ⟨ds, _, _, _, _, rfl, s2, h2, by omega⟩
      · have e1' : ¬ (10 : Int) ^ (18 : Int).toNat ≤ c2 := of_decide_eq_false (Bool.eq_false_iff.mpr e1)
        have e18 : (10 : Int) ^ (18 : Int).toNat = 1000000000000000000 := by decide
        rw [e18] at e1'
        refine ⟨_, rfl, _, _, rfl, rfl, mulX_small (by omega) (by decide), _, rfl, _, _, rfl, rfl, mulX_small (by omega) (by decide), _, _, rfl, rfl, _, _, rfl, rfl, .inl ⟨_, rfl, _, _, rfl, rfl, (by show (0 : Int) < 2147483647; decide), ?_⟩⟩
        refine ⟨12, rfl, by decide, by decide, for_range (lo := 0) (n := 12) (fun j σ H2 => ∃ (ds : List Int) (z : Int) (v4 v5 v6 : Option V), σ = [some (.ref a), some (.int 0), some (.int 63), some (.ref l), v4, v5, v6, some (.int z)] ∧ Same H H2 ∧ H2 l = some (.lst (ds.map V.int)) ∧ ds.length ≤ 60 * i + j ∧ 0 ≤ z ∧ z < 2147483647)
          ⟨ds, _, _, _, _, rfl, s1, h1, hn, Int.emod_nonneg _ (by decide), Int.emod_lt_of_pos _ (by decide)⟩ ?_ ?_⟩
        · rintro j σ H2 hj ⟨ds, z, v4, v5, v6, rfl, s2, h2, hn, hz0, hz1⟩
          refine ⟨_, rfl, _, _, rfl, rfl, mulX_small (by omega) (by decide), _, rfl, _, _, rfl, rfl, mulX_small (by decide) (by omega), _, _, rfl, rfl, _, _, rfl, rfl, .inl ⟨_, rfl, _, _, rfl, rfl, (by show (0 : Int) < 2147483647; decide), ?_⟩⟩
          refine ⟨_, rfl, .inl ⟨rfl, _, SqL.of h2⟩, _, rfl, _, _, rfl, rfl, ⟨by decide, by decide⟩, .inl ⟨_, rfl, _, _, rfl, rfl, (by show (0 : Int) < 1000; decide), l, _, _, rfl, rfl, h2, (by rw [List.length_map]; exact lines (by omega)), ?_⟩⟩
          exact ⟨ds ++ [_], _, _, _, _, rfl, same_upd s2 hl, by rw [upd_same, map_append1], by rw [List.length_append, List.length_singleton]; omega, Int.emod_nonneg _ (by decide), Int.emod_lt_of_pos _ (by decide)⟩
        · rintro σ H2 ⟨ds, z, v4, v5, v6, rfl, s2, h2, hn, hz0, hz1⟩
          exact ⟨ds, _, _, _, _, rfl, s2, h2, by omega⟩
    case g2 =>
      have hc0 : 0 ≤ c := by
        have e0' : ¬ c < 0 := of_decide_eq_false (Bool.eq_false_iff.mpr e0)
        omega
      obtain ⟨c2, rfl⟩ : ∃ c2, c2 = c := ⟨c, rfl⟩
      refine ⟨_, rfl, _, _, rfl, rfl, ⟨by decide, by decide, by decide⟩, _, _, rfl, rfl, _, rfl, ?_⟩
      refine ite2 (fun e1 => ?_) (fun e1 => ?_)
      · refine ⟨60, rfl, by decide, by decide, for_range (lo := 0) (n := 60) (fun j σ H2 => ∃ (ds : List Int) (c3 : Int) (v4 v6 v7 : Option V), σ = [some (.ref a), some (.int 0), some (.int 63), some (.ref l), v4, some (.int c3), v6, v7] ∧ Same H H2 ∧ H2 l = some (.lst (ds.map V.int)) ∧ ds.length ≤ 60 * i + j)
          ⟨ds, c2, _, _, _, rfl, s1, h1, hn⟩ ?_ ?_⟩
        · rintro j σ H2 hj ⟨ds, c3, v4, v6, v7, rfl, s2, h2, hn⟩
          refine ⟨_, rfl, _, _, rfl, rfl, _, rfl, ?_⟩
          refine ite2 (fun e3 => ?_) (fun e3 => ?_)
          · refine ⟨_, rfl, .inl ⟨rfl, _, SqL.of h2⟩, _, rfl, .inl ⟨_, rfl, _, _, rfl, rfl, (by show (0 : Int) < 1000; decide), l, _, _, rfl, rfl, h2, (by rw [List.length_map]; exact lines (by omega)), ?_⟩⟩
            refine ⟨_, rfl, _, _, rfl, rfl, ⟨by decide, by decide⟩, ?_⟩
            exact ⟨ds ++ [c3 % 1000], _, _, _, _, rfl, same_upd s2 hl, by rw [upd_same, map_append1], by rw [List.length_append, List.length_singleton]; omega⟩
          · exact ⟨ds, c3, _, _, _, rfl, s2, h2, by omega⟩
        · rintro σ H2 ⟨ds, c3, v4, v6, v7, rfl, s2, h2, hn⟩
          exact ⟨ds, _, _, _, _, rfl, s2, h2, by omega⟩
      · have e1' : ¬ (10 : Int) ^ (18 : Int).toNat ≤ c2 := of_decide_eq_false (Bool.eq_false_iff.mpr e1)
        have e18 : (10 : Int) ^ (18 : Int).toNat = 1000000000000000000 := by decide
        rw [e18] at e1'
        refine ⟨_, rfl, _, _, rfl, rfl, mulX_small (by omega) (by decide), _, rfl, _, _, rfl, rfl, mulX_small (by omega) (by decide), _, _, rfl, rfl, _, _, rfl, rfl, .inl ⟨_, rfl, _, _, rfl, rfl, (by show (0 : Int) < 2147483647; decide), ?_⟩⟩
        refine ⟨12, rfl, by decide, by decide, for_range (lo := 0) (n := 12) (fun j σ H2 => ∃ (ds : List Int) (z : Int) (v4 v5 v6 : Option V), σ = [some (.ref a), some (.int 0), some (.int 63), some (.ref l), v4, v5, v6, some (.int z)] ∧ Same H H2 ∧ H2 l = some (.lst (ds.map V.int)) ∧ ds.length ≤ 60 * i + j ∧ 0 ≤ z ∧ z < 2147483647)
          ⟨ds, _, _, _, _, rfl, s1, h1, hn, Int.emod_nonneg _ (by decide), Int.emod_lt_of_pos _ (by decide)⟩ ?_ ?_⟩
        · rintro j σ H2 hj ⟨ds, z, v4, v5, v6, rfl, s2, h2, hn, hz0, hz1⟩
          refine ⟨_, rfl, _, _, rfl, rfl, mulX_small (by omega) (by decide), _, rfl, _, _, rfl, rfl, mulX_small (by decide) (by omega), _, _, rfl, rfl, _, _, rfl, rfl, .inl ⟨_, rfl, _, _, rfl, rfl, (by show (0 : Int) < 2147483647; decide), ?_⟩⟩
          refine ⟨_, rfl, .inl ⟨rfl, _, SqL.of h2⟩, _, rfl, _, _, rfl, rfl, ⟨by decide, by decide⟩, .inl ⟨_, rfl, _, _, rfl, rfl, (by show (0 : Int) < 1000; decide), l, _, _, rfl, rfl, h2, (by rw [List.length_map]; exact lines (by omega)), ?_⟩⟩
          exact ⟨ds ++ [_], _, _, _, _, rfl, same_upd s2 hl, by rw [upd_same, map_append1], by rw [List.length_append, List.length_singleton]; omega, Int.emod_nonneg _ (by decide), Int.emod_lt_of_pos _ (by decide)⟩
        · rintro σ H2 ⟨ds, z, v4, v5, v6, rfl, s2, h2, hn, hz0, hz1⟩
          exact ⟨ds, _, _, _, _, rfl, s2, h2, by omega⟩
  · rintro σ H1 ⟨ds, v4, v5, v6, v7, rfl, s1, h1, hn⟩
    exact ⟨_, rfl, q l ds H1 hl h1 s1⟩
/-! ### a drawn number -/
theorem e60 : (10 : Int) ^ (60 : Int).toNat = 1000000000000000000000000000000000000000000000000000000000000 := by decide +kernel
theorem e27 : (10 : Int) ^ (27 : Int).toNat = 1000000000000000000000000000 := by decide +kernel
theorem e28 : (10 : Int) ^ (28 : Int).toNat = 10000000000000000000000000000 := by decide +kernel
theorem e12 : (10 : Int) ^ (12 : Int).toNat = 1000000000000 := by decide +kernel
theorem powC {j : Int} (h0 : 0 ≤ j) (h : j ≤ 1000000) : CPow 10 j := ⟨h0, h, by decide⟩
def spNumber : Sp := fun vs H Q _ => ∃ (p l : Addr), vs = [.ref p] ∧ BoxAt H p l ∧ ∀ (z : Int) (H' : Hp), z.natAbs < 1000000000000000000000000000000000000000000000000000000000000 → BoxAt H' p l → Keep p H H' → Q (.int z) H'
theorem dec_eq_int {i j : Int} (h : decide (V.int i = V.int j) = true) : i = j := V.int.inj (of_decide_eq_true h)
theorem ok__law_number (T : Tx K mg) : FnOk P w K mg base CX0 2 T.d__law_number.f T.d__law_number.fd P__law_number spNumber := by
  have G__law_draw := ok__law_draw (P := P) (w := w) (base := base) T
  refine T.d__law_number.F.ok sc__law_number (fun vs H Q E h => ?_) (fun cdv A outer s H vs Q E hr h => ?_)
  · obtain ⟨p, l, rfl, _⟩ := h
    rfl
  obtain ⟨p, l, rfl, B, q⟩ := h
  refine ⟨_, (pss_cons (ps_set (i := 1) sc__law_number.nd rfl (Or.inl rfl) (pe_call G__law_draw (hr.mono (by omega)) (by rfl) T.d__law_draw.m T.d__law_draw.F.kp T.d__law_draw.b .nil pass0 (pa_cons (pv 0) (pa_cons pe_int pa_nil))))
    (pss_cons (ps_set (i := 2) sc__law_number.nd rfl (Or.inl rfl) (pe_call G__law_draw (hr.mono (by omega)) (by rfl) T.d__law_draw.m T.d__law_draw.F.kp T.d__law_draw.b .nil pass0 (pa_cons (pv 0) (pa_cons pe_int pa_nil))))
    (pss_cons (ps_if (pt_cmpR op_eq (pv 1) pe_int (nomark _))
      (pss_one (ps_ret (pe_op op_sub (pe_op op_sub (pe_op op_pow pe_int pe_int) pe_int) (pe_op op_mod (pv 2) pe_int))))
      pss_nil)
    (pss_cons (ps_if (pt_cmpR op_eq (pv 1) pe_int (nomark _))
      (pss_one (ps_ret (pe_op op_sub (pe_op op_add (pe_op op_mod (pv 2) pe_int) pe_int) (pe_op op_pow pe_int pe_int))))
      pss_nil)
    (pss_cons (ps_if (pt_cmpR op_eq (pv 1) pe_int (nomark _))
      (pss_one (ps_ret (pe_op op_add (pe_op op_add (pe_op op_mulX (pv 2) (pe_op op_pow pe_int pe_int)) (pe_op op_mulX (pe_call G__law_draw (hr.mono (by omega)) (by rfl) T.d__law_draw.m T.d__law_draw.F.kp T.d__law_draw.b .nil pass0 (pa_cons (pv 0) (pa_cons pe_int pa_nil))) (pe_op op_pow pe_int pe_int))) (pe_call G__law_draw (hr.mono (by omega)) (by rfl) T.d__law_draw.m T.d__law_draw.F.kp T.d__law_draw.b .nil pass0 (pa_cons (pv 0) (pa_cons pe_int pa_nil))))))
      pss_nil)
    (pss_cons (ps_if (pt_cmpR op_eq (pv 1) pe_int (nomark _))
      (pss_one (ps_ret (pe_op op_sub (pe_op op_sub pe_int (pe_op op_mulX (pv 2) (pe_op op_pow pe_int pe_int))) (pe_call G__law_draw (hr.mono (by omega)) (by rfl) T.d__law_draw.m T.d__law_draw.F.kp T.d__law_draw.b .nil pass0 (pa_cons (pv 0) (pa_cons pe_int pa_nil))))))
      pss_nil)
    (pss_cons (ps_if (pt_cmpR op_eq (pv 1) pe_int (nomark _))
      (pss_one (ps_ret (pe_op op_sub pe_int (pv 2))))
      pss_nil)
    (pss_cons (ps_if (pt_cmpR op_eq (pv 1) pe_int (nomark _))
      (pss_one (ps_ret (pe_op op_mod (pv 2) pe_int)))
      pss_nil)
    (pss_one (ps_ret (pv 2))))))))))), ?_⟩
  refine ⟨_, rfl, p, l, _, rfl, by decide, B, fun kd H1 a0 a1 B1 k1 => ?_⟩
  refine ⟨_, rfl, p, l, _, rfl, by decide, B1, fun sz H2 b0 b1 B2 k2 => ?_⟩
  have k12 := k1.trans k2
  refine ⟨_, rfl, rfl, _, rfl, ite2 (fun _ => ?_) (fun _ => ?_)⟩
  · refine ⟨_, _, rfl, rfl, powC (by decide) (by decide), _, _, rfl, rfl, _, rfl, _, _, rfl, rfl, (by show (0 : Int) < 3; decide), _, _, rfl, rfl, ?_⟩
    exact q _ _ (by rw [e60]; omega) B2 k12
  refine ⟨_, rfl, rfl, _, rfl, ite2 (fun _ => ?_) (fun _ => ?_)⟩
  · refine ⟨_, rfl, _, _, rfl, rfl, (by show (0 : Int) < 3; decide), _, _, rfl, rfl, _, _, rfl, rfl, powC (by decide) (by decide), _, _, rfl, rfl, ?_⟩
    exact q _ _ (by rw [e60]; omega) B2 k12
  refine ⟨_, rfl, rfl, _, rfl, ite2 (fun _ => ?_) (fun _ => ?_)⟩
  · refine ⟨_, rfl, _, _, rfl, rfl, powC (by decide) (by decide), _, _, rfl, rfl, mulX_small (by omega) (by rw [e27]; decide), ?_⟩
    refine ⟨_, rfl, p, l, _, rfl, by decide, B2, fun c1 H3 c0 c2 B3 k3 => ?_⟩
    refine ⟨_, _, rfl, rfl, powC (by decide) (by decide), _, _, rfl, rfl, mulX_small (by omega) (by rw [e12]; decide), _, _, rfl, rfl, ?_⟩
    refine ⟨_, rfl, p, l, _, rfl, by decide, B3, fun c3 H4 c4 c5 B4 k4 => ?_⟩
    refine ⟨_, _, rfl, rfl, ?_⟩
    exact q _ _ (by rw [e27, e12]; omega) B4 ((k12.trans k3).trans k4)
  refine ⟨_, rfl, rfl, _, rfl, ite2 (fun _ => ?_) (fun _ => ?_)⟩
  · refine ⟨_, rfl, _, _, rfl, rfl, powC (by decide) (by decide), _, _, rfl, rfl, mulX_small (by omega) (by rw [e28]; decide), _, _, rfl, rfl, ?_⟩
    refine ⟨_, rfl, p, l, _, rfl, by decide, B2, fun c1 H3 c0 c2 B3 k3 => ?_⟩
    refine ⟨_, _, rfl, rfl, ?_⟩
    exact q _ _ (by rw [e28]; omega) B3 (k12.trans k3)
  refine ⟨_, rfl, rfl, _, rfl, ite2 (fun _ => ?_) (fun _ => ?_)⟩
  · refine ⟨_, rfl, _, _, rfl, rfl, ?_⟩
    exact q _ _ (by omega) B2 k12
  refine ⟨_, rfl, rfl, _, rfl, ite2 (fun _ => ?_) (fun _ => ?_)⟩
  · refine ⟨_, rfl, _, _, rfl, rfl, (by show (0 : Int) < 3; decide), ?_⟩
    exact q _ _ (by omega) B2 k12
  refine ⟨_, rfl, ?_⟩
  exact q _ _ (by omega) B2 k12
/-! ### the values of programs, as data -/
mutual
theorem dp_same {K : PySem.W.Frag} {H H' : Hp} (s : Same H H') : ∀ {v : V} {d : PyData}, Dp K H v d → Dp K H' v d
  | _, _, .non => .non
  | _, _, .bl b => .bl b
  | _, _, .int i => .int i
  | _, _, .str x => .str x
  | _, _, .lst h a => .lst (s.seq h) (dp_sames s a)
  | _, _, .tup h a => .tup (by
      rcases h with (h | ⟨o, h⟩) | h
      · exact .inl (.inl (s _ _ h))
      · exact .inl (.inr ⟨o, s _ _ h⟩)
      · exact .inr h) (dp_sames s a)
theorem dp_sames {K : PySem.W.Frag} {H H' : Hp} (s : Same H H') : ∀ {vs : List V} {ds : List PyData}, DpAll K H vs ds → DpAll K H' vs ds
  | _, _, .nil => .nil
  | _, _, .cons a b => .cons (dp_same s a) (dp_sames s b)
end
inductive Vl where
  | non
  | bl (b : Bool)
  | int (n : Int)
  | txt (s : Str)
  | obj (t : PyData) (n : Int)
def Vl.kind : Vl → Str
  | .non => "none"
  | .bl _ => "bool"
  | .int _ => "int"
  | .txt _ => "text"
  | .obj _ _ => "object"
def Vl.rest : Vl → List PyData
  | .non => []
  | .bl b => [.bool b]
  | .int n => [.int n]
  | .txt s => [.str s]
  | .obj t n => [t, .int n]
def Vl.d (a : Vl) : PyData := .tuple (.str a.kind :: a.rest)
theorem dp_tup {K : PySem.W.Frag} {H : Hp} {x : V} {ds : List PyData} (h : Dp K H x (.tuple ds)) : ∃ (p : Addr) (xs : List V), x = .ref p ∧ SqT K H p xs ∧ DpAll K H xs ds := by
  cases h with
  | tup a b => exact ⟨_, _, rfl, a, b⟩
/-- a value is a tuple whose first item is its kind -/
theorem vl_at {K : PySem.W.Frag} {H : Hp} {x : V} {a : Vl} (h : Dp K H x a.d) : ∃ (p : Addr) (xs : List V), x = .ref p ∧ SqT K H p (.str a.kind :: xs) ∧ DpAll K H xs a.rest := by
  obtain ⟨p, xs, rfl, hs, ha⟩ := dp_tup h
  cases ha with
  | cons h1 h2 =>
    cases h1
    exact ⟨p, _, rfl, hs, h2⟩
theorem int_at {K : PySem.W.Frag} {H : Hp} {x : V} {n : Int} (h : Dp K H x (Vl.int n).d) : ∃ (p : Addr), x = .ref p ∧ SqT K H p [.str "int", .int n] := by
  obtain ⟨p, xs, rfl, hs, ha⟩ := vl_at h
  cases ha with
  | cons h1 h2 =>
    cases h1
    cases h2
    exact ⟨p, rfl, hs⟩
theorem txt_at {K : PySem.W.Frag} {H : Hp} {x : V} {z : Str} (h : Dp K H x (Vl.txt z).d) : ∃ (p : Addr), x = .ref p ∧ SqT K H p [.str "text", .str z] := by
  obtain ⟨p, xs, rfl, hs, ha⟩ := vl_at h
  cases ha with
  | cons h1 h2 =>
    cases h1
    cases h2
    exact ⟨p, rfl, hs⟩
theorem bl_at {K : PySem.W.Frag} {H : Hp} {x : V} {b : Bool} (h : Dp K H x (Vl.bl b).d) : ∃ (p : Addr), x = .ref p ∧ SqT K H p [.str "bool", .bl b] := by
  obtain ⟨p, xs, rfl, hs, ha⟩ := vl_at h
  cases ha with
  | cons h1 h2 =>
    cases h1
    cases h2
    exact ⟨p, rfl, hs⟩
/-- the value that a scalar is -/
inductive Sc : V → PyData → Prop
  | bl (b : Bool) : Sc (.bl b) (.bool b)
  | int (i : Int) : Sc (.int i) (.int i)
  | str (x : Str) : Sc (.str x) (.str x)
theorem Sc.dp {K : PySem.W.Frag} {H : Hp} {v : V} {d : PyData} : Sc v d → Dp K H v d
  | .bl b => .bl b
  | .int i => .int i
  | .str x => .str x
theorem dp_two {K : PySem.W.Frag} {H : Hp} {p : Addr} {k : Str} {v : V} {d : PyData} (h : H p = some (.tup [.str k, v])) (s : Dp K H v d) : Dp K H (.ref p) (.tuple [.str k, d]) :=
  .tup (SqT.of h) (.cons (.str k) (.cons s .nil))
/-- a new pair (k, v); then a new pair of a text and it -/
theorem new_two {K : PySem.W.Frag} {H : Hp} {p r : Addr} {k m : Str} {v : V} {d : PyData} (sc : Sc v d) (h1 : H p = none) (h2 : upd H p (.tup [.str k, v]) r = none) :
    Same H (upd (upd H p (.tup [.str k, v])) r (.tup [.str m, .ref p])) ∧ Dp K (upd (upd H p (.tup [.str k, v])) r (.tup [.str m, .ref p])) (.ref r) (.tuple [.str m, .tuple [.str k, d]]) := by
  have s2 := same_new h2 (.tup [.str m, .ref p])
  refine ⟨(same_new h1 _).trans s2, dp_two upd_same (dp_two (s2 _ _ upd_same) sc.dp)⟩
theorem new_one {K : PySem.W.Frag} {H : Hp} {p : Addr} {k : Str} {v : V} {d : PyData} (sc : Sc v d) (h1 : H p = none) :
    Same H (upd H p (.tup [.str k, v])) ∧ Dp K (upd H p (.tup [.str k, v])) (.ref p) (.tuple [.str k, d]) := ⟨same_new h1 _, dp_two upd_same sc.dp⟩
theorem one_le : 1 ≤ sizeLine := by decide
theorem two_le : 2 ≤ sizeLine := by decide
theorem three_le : 3 ≤ sizeLine := by decide
theorem four_le : 4 ≤ sizeLine := by decide
/-- what a def does that makes tuples and changes nothing -/
abbrev Gives (K : PySem.W.Frag) (H : Hp) (d : PyData) (Q : VK) : Prop := ∀ (v : V) (H' : Hp), Same H H' → Dp K H' v d → Q v H'
/-! ### the law's own comparison -/
mutual
def sameD : PyData → PyData → Bool
  | .none, .none => true
  | .bool a, .bool b => a == b
  | .int a, .int b => a == b
  | .str a, .str b => a == b
  | .tuple xs, .tuple ys => sameAll xs ys
  | _, _ => false
def sameAll : List PyData → List PyData → Bool
  | [], [] => true
  | x :: xs, y :: ys => sameD x y && sameAll xs ys
  | _, _ => false
end
theorem sameAll_nil : sameAll [] [] = true := by simp [sameAll]
theorem sameAll_cons (x y : PyData) (xs ys : List PyData) : sameAll (x :: xs) (y :: ys) = (sameD x y && sameAll xs ys) := by simp [sameAll]
theorem sameAll_nc (y : PyData) (ys : List PyData) : sameAll [] (y :: ys) = false := by simp [sameAll]
theorem sameAll_cn (x : PyData) (xs : List PyData) : sameAll (x :: xs) [] = false := by simp [sameAll]
theorem sameD_tup (xs ys : List PyData) : sameD (.tuple xs) (.tuple ys) = sameAll xs ys := by simp [sameD]
theorem sameAll_true : ∀ {ds es : List PyData}, ds.length = es.length → (∀ (j : Nat) (d e : PyData), ds[j]? = some d → es[j]? = some e → sameD d e = true) → sameAll ds es = true
  | [], [], _, _ => sameAll_nil
  | [], _ :: _, h, _ => by simp at h
  | _ :: _, [], h, _ => by simp at h
  | d :: ds, e :: es, h, f => by
    rw [sameAll_cons, f 0 d e rfl rfl, sameAll_true (by simpa using h) fun j d' e' h1 h2 => f (j + 1) d' e' (by simpa using h1) (by simpa using h2)]
    rfl
theorem sameAll_false : ∀ {ds es : List PyData} {j : Nat} {d e : PyData}, ds[j]? = some d → es[j]? = some e → sameD d e = false → sameAll ds es = false
  | [], _, _, _, _, h, _, _ => by simp at h
  | _ :: _, [], _, _, _, _, h, _ => by simp at h
  | d :: ds, e :: es, 0, _, _, h1, h2, h3 => by
    have a := Option.some.inj h1
    have b := Option.some.inj h2
    subst a b
    rw [sameAll_cons, h3, Bool.false_and]
  | d :: ds, e :: es, j + 1, _, _, h1, h2, h3 => by
    rw [sameAll_cons, sameAll_false (j := j) (by simpa using h1) (by simpa using h2) h3, Bool.and_false]
theorem sameAll_len : ∀ {ds es : List PyData}, ds.length ≠ es.length → sameAll ds es = false
  | [], [], h => absurd rfl h
  | [], _ :: _, _ => sameAll_nc _ _
  | _ :: _, [], _ => sameAll_cn _ _
  | d :: ds, e :: es, h => by rw [sameAll_cons, sameAll_len (fun q => h (by simpa using q)), Bool.and_false]
/-- data of texts, numbers, bools, None and tuples, less than n deep -/
def okD : Nat → PyData → Bool
  | 0, _ => false
  | _ + 1, .none => true
  | _ + 1, .bool _ => true
  | _ + 1, .int _ => true
  | _ + 1, .str _ => true
  | n + 1, .tuple xs => decide (xs.length ≤ 1000) && xs.all (okD n)
  | _ + 1, _ => false
theorem okD_tup {n : Nat} {xs : List PyData} (h : okD (n + 1) (.tuple xs) = true) : xs.length ≤ 1000 ∧ ∀ x ∈ xs, okD n x = true := by
  simp only [okD, Bool.and_eq_true, decide_eq_true_eq, List.all_eq_true] at h
  exact h
def tyN : PyData → String
  | .none => "NoneType"
  | .bool _ => "bool"
  | .int _ => "int"
  | .str _ => "str"
  | .list _ => "list"
  | .tuple _ => "tuple"
  | .dict _ => "dict"
theorem dpAll_len {K : PySem.W.Frag} {H : Hp} : ∀ {xs : List V} {ds : List PyData}, DpAll K H xs ds → xs.length = ds.length
  | _, _, .nil => rfl
  | _, _, .cons _ t => congrArg (· + 1) (dpAll_len t)
theorem dpAll_get {K : PySem.W.Frag} {H : Hp} : ∀ {xs : List V} {ds : List PyData} {j : Nat} {d : PyData}, DpAll K H xs ds → ds[j]? = some d → ∃ v, xs[j]? = some v ∧ Dp K H v d
  | _, _, _, _, .nil, h => by simp at h
  | _, _, 0, _, .cons a _, h => by
    have e := Option.some.inj h
    subst e
    exact ⟨_, rfl, a⟩
  | _, _, j + 1, _, .cons _ t, h => by
    obtain ⟨v, h1, h2⟩ := dpAll_get (j := j) t (by simpa using h)
    exact ⟨v, by simpa using h1, h2⟩
theorem ty_of {K : PySem.W.Frag} {H : Hp} {x : V} {d : PyData} {m : Nat} (h : Dp K H x d) (ok : okD m d = true) : TyX K H x (.type (tyN d)) := by
  cases m with
  | zero => simp [okD] at ok
  | succ m =>
    cases h with
    | non => exact .base .non
    | bl b => exact .base (.bl b)
    | int i => exact .base (.int i)
    | str s => exact .base (.str s)
    | lst => simp [okD] at ok
    | tup hs _ =>
      rcases hs with (h | ⟨o, h⟩) | ⟨o, its, n, hk, hc, _⟩
      · exact .base (.tup h)
      · exact .fTuple h
      · exact .kTuple hk hc
theorem kt_NoneType_tuple {K : PySem.W.Frag} : PySem.W.kitOne K (.type "NoneType") (.type "tuple") = some false := kit_ty (by decide +kernel)
theorem kt_NoneType_bool {K : PySem.W.Frag} : PySem.W.kitOne K (.type "NoneType") (.type "bool") = some false := kit_ty (by decide +kernel)
theorem kt_NoneType_int {K : PySem.W.Frag} : PySem.W.kitOne K (.type "NoneType") (.type "int") = some false := kit_ty (by decide +kernel)
theorem kt_NoneType_str {K : PySem.W.Frag} : PySem.W.kitOne K (.type "NoneType") (.type "str") = some false := kit_ty (by decide +kernel)
theorem kt_bool_tuple {K : PySem.W.Frag} : PySem.W.kitOne K (.type "bool") (.type "tuple") = some false := kit_ty (by decide +kernel)
theorem kt_bool_bool {K : PySem.W.Frag} : PySem.W.kitOne K (.type "bool") (.type "bool") = some true := kit_ty (by decide +kernel)
theorem kt_bool_int {K : PySem.W.Frag} : PySem.W.kitOne K (.type "bool") (.type "int") = some true := kit_ty (by decide +kernel)
theorem kt_bool_str {K : PySem.W.Frag} : PySem.W.kitOne K (.type "bool") (.type "str") = some false := kit_ty (by decide +kernel)
theorem kt_int_tuple {K : PySem.W.Frag} : PySem.W.kitOne K (.type "int") (.type "tuple") = some false := kit_ty (by decide +kernel)
theorem kt_int_bool {K : PySem.W.Frag} : PySem.W.kitOne K (.type "int") (.type "bool") = some false := kit_ty (by decide +kernel)
theorem kt_int_int {K : PySem.W.Frag} : PySem.W.kitOne K (.type "int") (.type "int") = some true := kit_ty (by decide +kernel)
theorem kt_int_str {K : PySem.W.Frag} : PySem.W.kitOne K (.type "int") (.type "str") = some false := kit_ty (by decide +kernel)
theorem kt_str_tuple {K : PySem.W.Frag} : PySem.W.kitOne K (.type "str") (.type "tuple") = some false := kit_ty (by decide +kernel)
theorem kt_str_bool {K : PySem.W.Frag} : PySem.W.kitOne K (.type "str") (.type "bool") = some false := kit_ty (by decide +kernel)
theorem kt_str_int {K : PySem.W.Frag} : PySem.W.kitOne K (.type "str") (.type "int") = some false := kit_ty (by decide +kernel)
theorem kt_str_str {K : PySem.W.Frag} : PySem.W.kitOne K (.type "str") (.type "str") = some true := kit_ty (by decide +kernel)
theorem kt_tuple_tuple {K : PySem.W.Frag} : PySem.W.kitOne K (.type "tuple") (.type "tuple") = some true := kit_ty (by decide +kernel)
theorem kt_tuple_bool {K : PySem.W.Frag} : PySem.W.kitOne K (.type "tuple") (.type "bool") = some false := kit_ty (by decide +kernel)
theorem kt_tuple_int {K : PySem.W.Frag} : PySem.W.kitOne K (.type "tuple") (.type "int") = some false := kit_ty (by decide +kernel)
theorem kt_tuple_str {K : PySem.W.Frag} : PySem.W.kitOne K (.type "tuple") (.type "str") = some false := kit_ty (by decide +kernel)
def spSame (K : PySem.W.Frag) (n : Nat) : Sp := fun vs H Q _ => ∃ (x y : V) (d e : PyData) (m : Nat), vs = [x, y] ∧ Dp K H x d ∧ Dp K H y e ∧ okD m d = true ∧ okD n e = true ∧ Q (.bl (sameD d e)) H
theorem same_step (T : Tx K mg) {n : Nat} (G__law_same : FnOk P w K mg base CX0 n T.d__law_same.f T.d__law_same.fd P__law_same (spSame K n)) :
    FnOk P w K mg base CX0 (n + 1) T.d__law_same.f T.d__law_same.fd P__law_same (spSame K (n + 1)) := by
  refine T.d__law_same.F.ok sc__law_same (fun vs H Q E h => ?_) (fun cdv A outer s H vs Q E hr h => ?_)
  · obtain ⟨x, y, d, e, m, rfl, _⟩ := h
    rfl
  obtain ⟨x, y, d, e, m, rfl, hd, he, okd, oke, q⟩ := h
  refine ⟨_, (pss_cons (ps_if (pt_val (pe_callB call_isi (by rfl) T.z_isinstance (by decide +kernel) (pa_cons (pv 1) (pa_cons (pe_bltn (v := V.ty "tuple") (by rfl) T.z_tuple (by decide +kernel) rfl) pa_nil))))
      (pss_cons (ps_if (PW.pt (pw_or (pt_not (pt_val (pe_callB call_isi (by rfl) T.z_isinstance (by decide +kernel) (pa_cons (pv 0) (pa_cons (pe_bltn (v := V.ty "tuple") (by rfl) T.z_tuple (by decide +kernel) rfl) pa_nil))))) (pw_or1 (pt_cmpR op_ne (pe_callB call_len_seq (by rfl) T.z_len PySem.boot_len (pa_cons (pv 0) pa_nil)) (pe_callB call_len_seq (by rfl) T.z_len PySem.boot_len (pa_cons (pv 1) pa_nil)) (nomark _)))))
      (pss_one (ps_ret pe_bl))
      pss_nil)
    (pss_cons (ps_for PassesOwn.never rfl (pi_range1 (by rfl) T.z_range (pa_cons (pe_callB call_len_seq (by rfl) T.z_len PySem.boot_len (pa_cons (pv 1) pa_nil)) pa_nil)) (pg_name (i := 2) sc__law_same.nd rfl (Or.inl rfl))
      (pss_one (ps_if (pt_not (pt_val (pe_call G__law_same (hr.mono (by omega)) (by rfl) T.d__law_same.m T.d__law_same.F.kp T.d__law_same.b .nil pass0 (pa_cons (pe_ix ix_tup (pv 0) (pv 2) (fun _ _ => rfl)) (pa_cons (pe_ix ix_tup (pv 1) (pv 2) (fun _ _ => rfl)) pa_nil)))))
      (pss_one (ps_ret pe_bl))
      pss_nil)))
    (pss_one (ps_ret pe_bl))))
      pss_nil)
    (pss_cons (ps_if (pt_cmpR op_isN (pv 1) pe_non (nomark _))
      (pss_one (ps_ret (pe_cmpR op_isN (pv 0) pe_non (nomark _))))
      pss_nil)
    (pss_cons (ps_if (pt_val (pe_callB call_isi (by rfl) T.z_isinstance (by decide +kernel) (pa_cons (pv 1) (pa_cons (pe_bltn (v := V.ty "bool") (by rfl) T.z_bool (by decide +kernel) rfl) pa_nil))))
      (pss_one (ps_ret (pe_and (pe_callB call_isi (by rfl) T.z_isinstance (by decide +kernel) (pa_cons (pv 0) (pa_cons (pe_bltn (v := V.ty "bool") (by rfl) T.z_bool (by decide +kernel) rfl) pa_nil))) (pe_one (pe_cmpR op_eq (pv 0) (pv 1) (nomark _))))))
      pss_nil)
    (pss_cons (ps_if (pt_val (pe_callB call_isi (by rfl) T.z_isinstance (by decide +kernel) (pa_cons (pv 1) (pa_cons (pe_bltn (v := V.ty "int") (by rfl) T.z_int (by decide +kernel) rfl) pa_nil))))
      (pss_one (ps_ret (pe_and (pe_callB call_isi (by rfl) T.z_isinstance (by decide +kernel) (pa_cons (pv 0) (pa_cons (pe_bltn (v := V.ty "int") (by rfl) T.z_int (by decide +kernel) rfl) pa_nil))) (pe_and (pe_not (pe_callB call_isi (by rfl) T.z_isinstance (by decide +kernel) (pa_cons (pv 0) (pa_cons (pe_bltn (v := V.ty "bool") (by rfl) T.z_bool (by decide +kernel) rfl) pa_nil)))) (pe_one (pe_cmpR op_eq (pv 0) (pv 1) (nomark _)))))))
      pss_nil)
    (pss_one (ps_ret (pe_and (pe_callB call_isi (by rfl) T.z_isinstance (by decide +kernel) (pa_cons (pv 0) (pa_cons (pe_bltn (v := V.ty "str") (by rfl) T.z_str (by decide +kernel) rfl) pa_nil))) (pe_one (pe_cmpR op_eq (pv 0) (pv 1) (nomark _)))))))))), ?_⟩
  cases e with
  | list es => simp [okD] at oke
  | dict es => simp [okD] at oke
  | tuple es =>
    refine ⟨_, rfl, _, _, _, _, true, rfl, .ty _, ty_of he oke, kt_tuple_tuple, _, rfl, ifT rfl ?_⟩
    cases he with
    | @tup b ys _ hs ha =>
    have oke' := okD_tup oke
    have hys := dpAll_len ha
    have no : (∀ ds, d ≠ .tuple ds) → sameD d (.tuple es) = false := fun h => by
      cases d with
      | tuple ds => exact absurd rfl (h ds)
      | _ => simp [sameD]
    have ret : sameD d (.tuple es) = false → Q (.bl false) H := fun h => by
      rw [h] at q
      exact q
    by_cases ht : ∃ ds, d = .tuple ds
    · obtain ⟨ds, rfl⟩ := ht
      refine ⟨_, rfl, _, _, _, _, true, rfl, .ty _, ty_of hd okd, kt_tuple_tuple, _, rfl, iteF ?_⟩
      cases hd with
      | @tup a xs _ hsx hax =>
      have hxs := dpAll_len hax
      refine ⟨_, rfl, a, _, rfl, .inr hsx, _, rfl, b, _, rfl, .inr hs, rfl, _, rfl, ?_⟩
      by_cases hl : ds.length = es.length
      · refine ifF (by rw [hxs, hys, hl]; simp) ?_
        refine ⟨_, rfl, b, _, rfl, .inr hs, _, rfl, by omega, by omega, for_range (lo := 0) (n := ys.length) (fun i σ H1 => H1 = H ∧ (∃ v2, σ = [some (.ref a), some (.ref b), v2]) ∧ ∀ (j : Nat) (d e : PyData), j < i → ds[j]? = some d → es[j]? = some e → sameD d e = true)
          ⟨rfl, ⟨none, rfl⟩, fun j _ _ hj => absurd hj (Nat.not_lt_zero _)⟩ ?_ ?_⟩
        · rintro i σ H1 hi ⟨rfl, ⟨v2, rfl⟩, so⟩
          have hi1 : i < es.length := by omega
          have hi2 : i < ds.length := by omega
          have g1 : ds[i]? = some ds[i] := List.getElem?_eq_getElem hi2
          have g2 : es[i]? = some es[i] := List.getElem?_eq_getElem hi1
          obtain ⟨v, hv, dv⟩ := dpAll_get hax g1
          obtain ⟨u, hu, du⟩ := dpAll_get ha g2
          have okd' : ∃ m', okD m' ds[i] = true := by
            cases m with
            | zero => simp [okD] at okd
            | succ m => exact ⟨m, (okD_tup okd).2 _ (List.getElem_mem hi2)⟩
          obtain ⟨m', okd'⟩ := okd'
          refine ⟨_, rfl, _, rfl, a, _, _, _, rfl, rfl, hsx, at_of (j := i) (by omega) hv, _, rfl, _, rfl, b, _, _, _, rfl, rfl, hs, at_of (j := i) (by omega) hu, _, _, _, _, _, rfl, dv, du, okd', oke'.2 _ (List.getElem_mem hi1), _, rfl, ?_⟩
          cases hsd : sameD ds[i] es[i] with
          | true =>
            refine iteF ?_
            refine ⟨rfl, ⟨_, rfl⟩, fun j d e hj h1 h2 => ?_⟩
            by_cases hji : j = i
            · subst hji
              rw [g1] at h1
              rw [g2] at h2
              cases h1
              cases h2
              exact hsd
            · exact so j d e (by omega) h1 h2
          | false =>
            refine iteT ?_
            exact ret (by rw [sameD_tup]; exact sameAll_false g1 g2 hsd)
        · rintro σ H1 ⟨rfl, ⟨v2, rfl⟩, so⟩
          have z : sameD (.tuple ds) (.tuple es) = true := by
            rw [sameD_tup]
            refine sameAll_true hl fun j d e h1 h2 => so j d e ?_ h1 h2
            have := (List.getElem?_eq_some_iff.mp h2).1
            omega
          rw [z] at q
          exact q
      · refine ifT ?_ (ret (by rw [sameD_tup]; exact sameAll_len hl))
        have z : ¬ (V.int ((xs.length : Nat) : Int) = V.int ((ys.length : Nat) : Int)) := fun z => hl (by
          injection z with z
          omega)
        rw [decide_eq_false z]
        rfl
    · have hn : ∀ ds, d ≠ .tuple ds := fun ds h => ht ⟨ds, h⟩
      cases d with
      | tuple ds => exact absurd rfl (hn ds)
      | list ds => cases m <;> simp [okD] at okd
      | dict ds => cases m <;> simp [okD] at okd
      | _ =>
        refine ⟨_, rfl, _, _, _, _, false, rfl, .ty _, ty_of hd okd, (by first | exact kt_NoneType_tuple | exact kt_bool_tuple | exact kt_int_tuple | exact kt_str_tuple), _, rfl, iteT (iteT ?_)⟩
        exact ret (no hn)
  | none =>
    refine ⟨_, rfl, _, _, _, _, false, rfl, .ty _, ty_of he oke, kt_NoneType_tuple, _, rfl, iteF ?_⟩
    cases he
    refine ⟨_, rfl, rfl, _, rfl, ifT rfl ?_⟩
    refine ⟨_, rfl, rfl, ?_⟩
    have z : decide (x = V.non) = sameD d .none := by cases hd <;> simp [sameD]
    rw [z]
    exact q
  | bool b =>
    refine ⟨_, rfl, _, _, _, _, false, rfl, .ty _, ty_of he oke, kt_bool_tuple, _, rfl, iteF ?_⟩
    have he' := he
    cases he'
    refine ⟨_, rfl, rfl, _, rfl, ifF rfl ?_⟩
    refine ⟨_, rfl, _, _, _, _, true, rfl, .ty _, ty_of he oke, kt_bool_bool, _, rfl, iteT ?_⟩
    cases d with
    | list ds => cases m <;> simp [okD] at okd
    | dict ds => cases m <;> simp [okD] at okd
    | bool a =>
      refine ⟨_, rfl, _, _, _, _, true, rfl, .ty _, ty_of hd okd, kt_bool_bool, _, rfl, iteT ?_⟩
      cases hd
      refine ⟨_, rfl, _, rfl, rfl, ?_⟩
      rw [dec_bl]
      simp only [sameD] at q
      exact q
    | _ =>
      refine ⟨_, rfl, _, _, _, _, false, rfl, .ty _, ty_of hd okd, (by first | exact kt_NoneType_bool | exact kt_int_bool | exact kt_str_bool | exact kt_tuple_bool), _, rfl, iteF ?_⟩
      simp only [sameD] at q
      exact q
  | int b =>
    refine ⟨_, rfl, _, _, _, _, false, rfl, .ty _, ty_of he oke, kt_int_tuple, _, rfl, iteF ?_⟩
    have he' := he
    cases he'
    refine ⟨_, rfl, rfl, _, rfl, ifF rfl ?_⟩
    refine ⟨_, rfl, _, _, _, _, false, rfl, .ty _, ty_of he oke, kt_int_bool, _, rfl, iteF ?_⟩
    refine ⟨_, rfl, _, _, _, _, true, rfl, .ty _, ty_of he oke, kt_int_int, _, rfl, iteT ?_⟩
    cases d with
    | list ds => cases m <;> simp [okD] at okd
    | dict ds => cases m <;> simp [okD] at okd
    | int a =>
      refine ⟨_, rfl, _, _, _, _, true, rfl, .ty _, ty_of hd okd, kt_int_int, _, rfl, iteT ?_⟩
      refine ⟨_, rfl, _, _, _, _, false, rfl, .ty _, ty_of hd okd, kt_int_bool, _, rfl, _, rfl, iteT ?_⟩
      cases hd
      refine ⟨_, rfl, _, rfl, rfl, ?_⟩
      rw [dec_int]
      simp only [sameD] at q
      exact q
    | bool a =>
      refine ⟨_, rfl, _, _, _, _, true, rfl, .ty _, ty_of hd okd, kt_bool_int, _, rfl, iteT ?_⟩
      refine ⟨_, rfl, _, _, _, _, true, rfl, .ty _, ty_of hd okd, kt_bool_bool, _, rfl, _, rfl, iteF ?_⟩
      simp only [sameD] at q
      exact q
    | _ =>
      refine ⟨_, rfl, _, _, _, _, false, rfl, .ty _, ty_of hd okd, (by first | exact kt_NoneType_int | exact kt_str_int | exact kt_tuple_int), _, rfl, iteF ?_⟩
      simp only [sameD] at q
      exact q
  | str b =>
    refine ⟨_, rfl, _, _, _, _, false, rfl, .ty _, ty_of he oke, kt_str_tuple, _, rfl, iteF ?_⟩
    have he' := he
    cases he'
    refine ⟨_, rfl, rfl, _, rfl, ifF rfl ?_⟩
    refine ⟨_, rfl, _, _, _, _, false, rfl, .ty _, ty_of he oke, kt_str_bool, _, rfl, iteF ?_⟩
    refine ⟨_, rfl, _, _, _, _, false, rfl, .ty _, ty_of he oke, kt_str_int, _, rfl, iteF ?_⟩
    cases d with
    | list ds => cases m <;> simp [okD] at okd
    | dict ds => cases m <;> simp [okD] at okd
    | str a =>
      refine ⟨_, rfl, _, _, _, _, true, rfl, .ty _, ty_of hd okd, kt_str_str, _, rfl, iteT ?_⟩
      cases hd
      refine ⟨_, rfl, _, rfl, rfl, ?_⟩
      rw [dec_str]
      simp only [sameD] at q
      exact q
    | _ =>
      refine ⟨_, rfl, _, _, _, _, false, rfl, .ty _, ty_of hd okd, (by first | exact kt_NoneType_str | exact kt_bool_str | exact kt_int_str | exact kt_tuple_str), _, rfl, iteF ?_⟩
      simp only [sameD] at q
      exact q
theorem ok__law_same (T : Tx K mg) : ∀ n : Nat, FnOk P w K mg base CX0 n T.d__law_same.f T.d__law_same.fd P__law_same (spSame K n)
  | 0 => by
    have no : ∀ vs H Q E, ¬ spSame K 0 vs H Q E := fun vs H Q E h => by
      obtain ⟨x, y, d, e, m, _, _, _, _, h2, _⟩ := h
      simp [okD] at h2
    exact ⟨fun vs H Q E h => absurd h (no vs H Q E), fun A outer s H args us vs Q E _ _ _ _ h => absurd h (no vs H Q E)⟩
  | n + 1 => same_step T (ok__law_same T n)
theorem same_refl : ∀ (n : Nat) (d : PyData), okD n d = true → sameD d d = true
  | 0, d, h => by simp [okD] at h
  | n + 1, d, h => by
    cases d with
    | none => simp [sameD]
    | bool b => simp [sameD]
    | int i => simp [sameD]
    | str s => simp [sameD]
    | list xs => simp [okD] at h
    | dict xs => simp [okD] at h
    | tuple xs =>
      rw [sameD_tup]
      refine sameAll_true rfl fun j d e h1 h2 => ?_
      rw [h1] at h2
      have e' := Option.some.inj h2
      subst e'
      exact same_refl n d ((okD_tup h).2 _ (List.mem_of_getElem? h1))
theorem kind_dp (T : Tx K mg) (H : Hp) : Dp K H (.ref T.a_KIND) (.tuple [.str "error", .str "kind"]) := by
  obtain ⟨dd, n, sl, k0, k1, hk⟩ := T.q_KIND
  exact .tup (.inr ⟨_, _, n, hk, rfl, rfl, by show 2 ≤ sizeLine; decide, Paired.cons (relS _ _) (Paired.cons (relS _ _) Paired.nil)⟩) (.cons (.str "error") (.cons (.str "kind") .nil))
/-! ### kinds, pairs -/
def okP (k : Str) (d : PyData) : PyData := .tuple [.str "ok", .tuple [.str k, d]]
def errP (x : Str) : PyData := .tuple [.str "error", .str x]
def Vl.ok : Vl → Prop
  | .int n => n.natAbs < 1000000000000000000000000000000000000000000000000000000000000
  | .txt s => s.length ≤ 1000
  | _ => True
theorem op_if {op x : Str} {A B : Prop} (h1 : op = x → A) (h2 : op ≠ x → B) : if decide (V.str op = V.str x) = true then A else B := by
  by_cases e : op = x
  · rw [if_pos (decide_eq_true (congrArg V.str e))]
    exact h1 e
  · rw [if_neg (fun q => e (V.str.inj (of_decide_eq_true q)))]
    exact h2 e
theorem ne_if {k x : Str} {A B : Prop} (h1 : k ≠ x → A) (h2 : k = x → B) : if (!decide (V.str k = V.str x)) = true then A else B := by
  by_cases e : k = x
  · rw [decide_eq_true (congrArg V.str e)]
    exact iteF (h2 e)
  · rw [decide_eq_false (fun q => e (V.str.inj q))]
    exact iteT (h1 e)
theorem kind_txt {a : Vl} (h : a.kind = "text") : ∃ s, a = .txt s := by
  cases a with
  | txt s => exact ⟨s, rfl⟩
  | non => exact absurd h (by decide +kernel)
  | bl b => exact absurd h (by show ¬ ("bool" : Str) = "text"; decide +kernel)
  | int n => exact absurd h (by show ¬ ("int" : Str) = "text"; decide +kernel)
  | obj t n => exact absurd h (by show ¬ ("object" : Str) = "text"; decide +kernel)
theorem kind_int {a : Vl} (h : a.kind = "int") : ∃ n, a = .int n := by
  cases a with
  | int n => exact ⟨n, rfl⟩
  | non => exact absurd h (by decide +kernel)
  | bl b => exact absurd h (by show ¬ ("bool" : Str) = "int"; decide +kernel)
  | txt n => exact absurd h (by show ¬ ("text" : Str) = "int"; decide +kernel)
  | obj t n => exact absurd h (by show ¬ ("object" : Str) = "int"; decide +kernel)
theorem kind_bl {a : Vl} (h : a.kind = "bool") : ∃ b, a = .bl b := by
  cases a with
  | bl n => exact ⟨n, rfl⟩
  | non => exact absurd h (by decide +kernel)
  | int b => exact absurd h (by show ¬ ("int" : Str) = "bool"; decide +kernel)
  | txt n => exact absurd h (by show ¬ ("text" : Str) = "bool"; decide +kernel)
  | obj t n => exact absurd h (by show ¬ ("object" : Str) = "bool"; decide +kernel)
/-! ### drawn texts and values -/
section
open PySem.Spec PyProof.Rows
variable {X : Cx}
/-- one sign, n times -/
def rMulS : R2 := fun x y H Q => ∃ (c : Nat) (n : Int), x = .str ⟨#[c]⟩ ∧ y = .int n ∧ 0 ≤ n ∧ n ≤ 1000 ∧ Q (.str ⟨(List.replicate n.toNat c).toArray⟩) H
theorem rep_acc (c : Nat) : ∀ (n : Nat) (acc : List Nat), List.foldl (fun x y => x ++ y) acc.toArray (List.replicate n #[c]) = (acc ++ List.replicate n c).toArray
  | 0, acc => by simp
  | n + 1, acc => by
    have e : acc.toArray ++ #[c] = (acc ++ [c]).toArray := by simp
    rw [List.replicate_succ, List.foldl_cons, e, rep_acc c n (acc ++ [c]), List.replicate_succ, List.append_assoc]
    rfl
theorem rep_one (c n : Nat) : List.foldl (fun x y => x ++ y) #[] (List.replicate n #[c]) = (List.replicate n c).toArray := rep_acc c n []
theorem op_mulS : OpR X (binaryOp .Mult) rMulS := by
  intro pins s σ H x y v u Q I rx ry h
  obtain ⟨c, n, rfl, rfl, h0, h1, q⟩ := h
  obtain ⟨t, rfl⟩ := rx
  obtain ⟨t', rfl⟩ := ry
  have l1 : (⟨#[c]⟩ : Str).length = 1 := rfl
  have hs : 1000 ≤ sizeLine := by decide
  refine PySem.P.mul_str ?_ ?_ ?_ ?_
  · rw [decide_eq_false (by omega), decide_eq_false (by omega)]
    rfl
  · intro a _ z
    rw [l1] at z
    have d : 1 ≤ (2 ^ 63 - 1 : Int) / n := (Int.le_ediv_iff_mul_le (by omega)).mpr (by omega)
    omega
  · intro _ _
    rw [l1]
    show decide (1 * n.toNat > sizeLine) = false
    exact decide_eq_false (by omega)
  · by_cases a : n < 1
    · rw [if_pos a]
      have e : n = 0 := by omega
      subst e
      exact ⟨by decide, .str _, H, I.tok _, ⟨_, rfl⟩, q⟩
    · rw [if_neg a]
      by_cases b : n = 1
      · subst b
        exact ⟨.str _, H, I, ⟨_, rfl⟩, q⟩
      · have e : ((n == 1) || (⟨#[c]⟩ : Str).length == 0) = false := by
          rw [l1, beq_eq_false_iff_ne.mpr b]
          rfl
        rw [e, if_neg Bool.false_ne_true]
        have z := rep_one c n.toNat
        have z2 : (⟨List.foldl (fun x1 x2 => x1 ++ x2) #[] (List.replicate n.toNat (⟨#[c]⟩ : Str).cps)⟩ : Str) = ⟨(List.replicate n.toNat c).toArray⟩ := congrArg Str.mk z
        refine ⟨?_, .str ⟨(List.replicate n.toNat c).toArray⟩, H, I.tok _, ⟨s.toks, ?_⟩, q⟩
        · rw [z2]
          show (List.replicate n.toNat c).toArray.size ≤ sizeLine
          rw [List.size_toArray, List.length_replicate]
          omega
        · rw [z2]
end
def txtOk (z : Str) : Prop := ∀ c ∈ z.cps.toList, c < 1114112
theorem len_cps (z : Str) : z.cps.toList.length = z.length := by simp [Str.length]
theorem txtOk_app {x y : Str} (h1 : txtOk x) (h2 : txtOk y) : txtOk (x ++ y) := by
  intro c hc
  have e : (x ++ y).cps.toList = x.cps.toList ++ y.cps.toList := by
    show (x.cps ++ y.cps).toList = _
    simp
  rw [e] at hc
  rcases List.mem_append.mp hc with h | h
  · exact h1 c h
  · exact h2 c h
theorem txtOk_rep {c n : Nat} (h : c < 1114112) : txtOk ⟨(List.replicate n c).toArray⟩ := by
  intro d hd
  have e := List.eq_of_mem_replicate hd
  omega
theorem txtOk_one {c : Nat} (h : c < 1114112) : txtOk ⟨#[c]⟩ := by
  intro d hd
  have e : d = c := by simpa using hd
  omega
def sgn : Str := ((" !\"#$&'()*+,-./0123456789:;<=>?@ABCDEFGHIJKLMNOPQRSTUVWXYZ[\\]^_`" : Str) ++ ("abcdefghijklmnopqrstuvwxyz{|}~\n" : Str))
theorem sgn_len : sgn.length = 95 := by decide +kernel
theorem sgn_ok : txtOk sgn := by
  have h : (sgn.cps.toList.all fun c => decide (c < 1114112)) = true := by decide +kernel
  intro c hc
  exact of_decide_eq_true (List.all_eq_true.mp h c hc)
theorem at_str {xs : List Nat} {z : Int} {j c : Nat} (e : z = (j : Int)) (h : xs[j]? = some c) : atI xs z = some c := by
  rw [e]
  exact atI_nat h
/-- a place of the signs -/
theorem sgn_at {i : Int} (h0 : 0 ≤ i) (h1 : i < 95) : ∃ c, atI sgn.cps.toList i = some c ∧ c < 1114112 := by
  have hl := len_cps sgn
  rw [sgn_len] at hl
  have hk : i.toNat < sgn.cps.toList.length := by omega
  have g : sgn.cps.toList[i.toNat]? = some sgn.cps.toList[i.toNat] := List.getElem?_eq_getElem hk
  exact ⟨_, at_str (by omega) g, sgn_ok _ (List.getElem_mem hk)⟩
def spText : Sp := fun vs H Q _ => ∃ (p l : Addr), vs = [.ref p, .int 200] ∧ BoxAt H p l ∧ ∀ (z : Str) (H' : Hp), z.length ≤ 200 → txtOk z → BoxAt H' p l → Keep p H H' → Q (.str z) H'
theorem ok__law_text (T : Tx K mg) : FnOk P w K mg base CX0 2 T.d__law_text.f T.d__law_text.fd P__law_text spText := by
  have G__law_draw := ok__law_draw (P := P) (w := w) (base := base) T
  refine T.d__law_text.F.ok sc__law_text (fun vs H Q E h => ?_) (fun cdv A outer s H vs Q E hr h => ?_)
  · obtain ⟨p, l, rfl, _⟩ := h
    rfl
  obtain ⟨p, l, rfl, B, q⟩ := h
  have big : 1000 ≤ sizeLine := by decide
  refine ⟨_, (pss_cons (ps_set (i := 2) sc__law_text.nd rfl (Or.inl rfl) pe_str)
    (pss_cons (ps_set (i := 2) sc__law_text.nd rfl (Or.inl rfl) (pe_op op_add_str (pv 2) pe_str))
    (pss_cons (ps_set (i := 3) sc__law_text.nd rfl (Or.inl rfl) pe_str)
    (pss_cons (ps_if (pt_cmpR op_eq (pe_call G__law_draw (hr.mono (by omega)) (by rfl) T.d__law_draw.m T.d__law_draw.F.kp T.d__law_draw.b .nil pass0 (pa_cons (pv 0) (pa_cons pe_int pa_nil))) pe_int (nomark _))
      (pss_one (ps_set (i := 3) sc__law_text.nd rfl (Or.inl rfl) (pe_op op_mulS (pe_ix ix_str (pv 2) (pe_call G__law_draw (hr.mono (by omega)) (by rfl) T.d__law_draw.m T.d__law_draw.F.kp T.d__law_draw.b .nil pass0 (pa_cons (pv 0) (pa_cons pe_int pa_nil))) (fun _ _ => rfl)) (pe_call G__law_draw (hr.mono (by omega)) (by rfl) T.d__law_draw.m T.d__law_draw.F.kp T.d__law_draw.b .nil pass0 (pa_cons (pv 0) (pa_cons (pe_op op_add (pv 1) pe_int) pa_nil))))))
      pss_nil)
    (pss_cons (ps_for PassesOwn.never rfl (pi_range1 (by rfl) T.z_range (pa_cons (pe_call G__law_draw (hr.mono (by omega)) (by rfl) T.d__law_draw.m T.d__law_draw.F.kp T.d__law_draw.b .nil pass0 (pa_cons (pv 0) (pa_cons pe_int pa_nil))) pa_nil)) (pg_name (i := 4) sc__law_text.nd rfl (Or.inl rfl))
      (pss_one (ps_if (pt_cmpR op_lt (pe_callB call_len_str (by rfl) T.z_len PySem.boot_len (pa_cons (pv 3) pa_nil)) (pv 1) (nomark _))
      (pss_one (ps_set (i := 3) sc__law_text.nd rfl (Or.inl rfl) (pe_op op_add_str (pv 3) (pe_ix ix_str (pv 2) (pe_call G__law_draw (hr.mono (by omega)) (by rfl) T.d__law_draw.m T.d__law_draw.F.kp T.d__law_draw.b .nil pass0 (pa_cons (pv 0) (pa_cons pe_int pa_nil))) (fun _ _ => rfl)))))
      pss_nil)))
    (pss_one (ps_ret (pv 3)))))))), ?_⟩
  refine ⟨_, rfl, _, _, rfl, rfl, (by decide +kernel), ?_⟩
  have hsg : sgn.length ≤ sizeLine := by rw [sgn_len]; decide
  have eg : ((" !\"#$&'()*+,-./0123456789:;<=>?@ABCDEFGHIJKLMNOPQRSTUVWXYZ[\\]^_`" : Str) ++ ("abcdefghijklmnopqrstuvwxyz{|}~\n" : Str)) = sgn := rfl
  rw [eg]
  refine ⟨_, rfl, p, l, _, rfl, by decide, B, fun r H1 _ _ B1 k1 => ⟨rfl, _, rfl, ite2 (fun _ => ?g1) (fun _ => ?g2)⟩⟩
  case g1 =>
    refine ⟨_, rfl, _, rfl, p, l, _, rfl, by decide, B1, fun i H2 i0 i1 B2 k2 => ?_⟩
    obtain ⟨c, hc, lc⟩ := sgn_at i0 i1
    refine ⟨_, _, c, rfl, rfl, hsg, hc, ?_⟩
    refine ⟨_, rfl, _, rfl, _, _, rfl, rfl, p, l, _, rfl, by decide, B2, fun n H3 n0 n1 B3 k3 => ?_⟩
    refine ⟨c, n, rfl, rfl, n0, by omega, ?_⟩
    have k1 := (k1.trans k2).trans k3
    have tl : (⟨(List.replicate n.toNat c).toArray⟩ : Str).length ≤ 200 := by
      show (List.replicate n.toNat c).toArray.size ≤ 200
      rw [List.size_toArray, List.length_replicate]
      omega
    have tk : txtOk ⟨(List.replicate n.toNat c).toArray⟩ := txtOk_rep lc
    generalize (⟨(List.replicate n.toNat c).toArray⟩ : Str) = t0 at tl tk ⊢
    refine ⟨_, rfl, p, l, _, rfl, by decide, B3, fun m H4 m0 m1 B4 k4 => ?_⟩
    refine ⟨m, rfl, by omega, by omega, for_range (lo := 0) (n := m.toNat) (fun i σ H5 => ∃ (z : Str) (v4 : Option V), σ = [some (.ref p), some (.int 200), some (.str sgn), some (.str z), v4] ∧ z.length ≤ 200 ∧ txtOk z ∧ BoxAt H5 p l ∧ Keep p H H5)
      ⟨t0, _, rfl, tl, tk, B4, k1.trans k4⟩ ?_ ?_⟩
    · rintro i σ H5 hi ⟨z, v4, rfl, zl, zk, B5, k5⟩
      refine ⟨_, rfl, _, rfl, by omega, _, rfl, _, _, rfl, rfl, _, rfl, ite2 (fun c => ?_) (fun c => ?_)⟩
      · have c' : ((z.length : Nat) : Int) < 200 := of_decide_eq_true c
        refine ⟨_, rfl, _, rfl, _, rfl, p, l, _, rfl, by decide, B5, fun i H6 i0 i1 B6 k6 => ?_⟩
        obtain ⟨c, hc, lc⟩ := sgn_at i0 i1
        have l1 : (⟨#[c]⟩ : Str).length = 1 := rfl
        refine ⟨_, _, c, rfl, rfl, hsg, hc, _, _, rfl, rfl, by omega, ?_⟩
        exact ⟨_, _, rfl, by rw [PySem.Str.length_append]; omega, txtOk_app zk (txtOk_one lc), B6, k5.trans k6⟩
      · exact ⟨z, _, rfl, zl, zk, B5, k5⟩
    · rintro σ H5 ⟨z, v4, rfl, zl, zk, B5, k5⟩
      exact ⟨_, rfl, q z H5 zl zk B5 k5⟩
  case g2 =>
    have tl : (Str.ofString "").length ≤ 200 := by decide
    have tk : txtOk (Str.ofString "") := fun c hc => by
      have e : (Str.ofString "").cps.toList = [] := by decide +kernel
      rw [e] at hc
      cases hc
    generalize Str.ofString "" = t0 at tl tk ⊢
    refine ⟨_, rfl, p, l, _, rfl, by decide, B1, fun m H4 m0 m1 B4 k4 => ?_⟩
    refine ⟨m, rfl, by omega, by omega, for_range (lo := 0) (n := m.toNat) (fun i σ H5 => ∃ (z : Str) (v4 : Option V), σ = [some (.ref p), some (.int 200), some (.str sgn), some (.str z), v4] ∧ z.length ≤ 200 ∧ txtOk z ∧ BoxAt H5 p l ∧ Keep p H H5)
      ⟨t0, _, rfl, tl, tk, B4, k1.trans k4⟩ ?_ ?_⟩
    · rintro i σ H5 hi ⟨z, v4, rfl, zl, zk, B5, k5⟩
      refine ⟨_, rfl, _, rfl, by omega, _, rfl, _, _, rfl, rfl, _, rfl, ite2 (fun c => ?_) (fun c => ?_)⟩
      · have c' : ((z.length : Nat) : Int) < 200 := of_decide_eq_true c
        refine ⟨_, rfl, _, rfl, _, rfl, p, l, _, rfl, by decide, B5, fun i H6 i0 i1 B6 k6 => ?_⟩
        obtain ⟨c, hc, lc⟩ := sgn_at i0 i1
        have l1 : (⟨#[c]⟩ : Str).length = 1 := rfl
        refine ⟨_, _, c, rfl, rfl, hsg, hc, _, _, rfl, rfl, by omega, ?_⟩
        exact ⟨_, _, rfl, by rw [PySem.Str.length_append]; omega, txtOk_app zk (txtOk_one lc), B6, k5.trans k6⟩
      · exact ⟨z, _, rfl, zl, zk, B5, k5⟩
    · rintro σ H5 ⟨z, v4, rfl, zl, zk, B5, k5⟩
      exact ⟨_, rfl, q z H5 zl zk B5 k5⟩
structure Good (a : Vl) : Prop where
  ok : a.ok
  sh : SeqAt.shaped a.d = true
  dk : okD 6 a.d = true
  ob : ∀ t n, a = .obj t n → ∃ ts : List Int, t = .tuple (ts.map PyData.int)
theorem lay_txt {z : Str} (h : txtOk z) : PyData.canLay0 (.str z) = true := by
  show (z.cps.all fun x => decide (x < 0x110000)) = true
  rw [← Array.all_toList, List.all_eq_true]
  exact fun c hc => decide_eq_true (h c hc)
theorem good_non : Good .non := ⟨trivial, by decide +kernel, by decide +kernel, fun _ _ e => nomatch e⟩
theorem good_bl (b : Bool) : Good (.bl b) := ⟨trivial, by cases b <;> decide +kernel, by cases b <;> decide +kernel, fun _ _ e => nomatch e⟩
theorem lay_two {k : Str} {d : PyData} (hk : PyData.canLay0 (.str k) = true) (hd : PyData.canLay0 d = true) (h : d.depth = 0) : SeqAt.shaped (.tuple [.str k, d]) = true := by
  have e1 : PyData.canLay0 (.tuple [.str k, d]) = true := by
    simp only [PyData.canLay0, PyData.canLayAll0] at hk ⊢
    rw [hk, hd]
    rfl
  have e2 : (PyData.tuple [.str k, d]).depth ≤ 64 := by
    simp only [PyData.depth, PyData.depthAll]
    rw [h]
    decide
  unfold SeqAt.shaped
  rw [e1, decide_eq_true e2]
  rfl
theorem good_int {n : Int} (h : n.natAbs < 1000000000000000000000000000000000000000000000000000000000000) : Good (.int n) :=
  ⟨h, lay_two (k := "int") (by decide +kernel) (by simp only [PyData.canLay0]) (by simp only [PyData.depth]), by simp [Vl.d, Vl.rest, okD], fun _ _ e => nomatch e⟩
theorem good_txt {z : Str} (h : z.length ≤ 1000) (k : txtOk z) : Good (.txt z) :=
  ⟨h, lay_two (k := "text") (by decide +kernel) (lay_txt k) (by simp only [PyData.depth]), by simp [Vl.d, Vl.rest, okD], fun _ _ e => nomatch e⟩
theorem lay_ints : ∀ ts : List Int, PyData.canLayAll0 (ts.map PyData.int) = true ∧ PyData.depthAll (ts.map PyData.int) = 0
  | [] => ⟨by simp only [List.map_nil, PyData.canLayAll0], by simp only [List.map_nil, PyData.depthAll]⟩
  | t :: ts => by
    obtain ⟨h1, h2⟩ := lay_ints ts
    refine ⟨?_, ?_⟩
    · simp only [List.map_cons, PyData.canLayAll0, PyData.canLay0]
      rw [h1]
      rfl
    · simp only [List.map_cons, PyData.depthAll, PyData.depth]
      rw [h2]
      rfl
theorem good_obj {ts : List Int} {n : Int} (h : ts.length ≤ 1000) : Good (.obj (.tuple (ts.map PyData.int)) n) := by
  obtain ⟨h1, h2⟩ := lay_ints ts
  have hk : PyData.canLay0 (.str "object") = true := by decide +kernel
  refine ⟨trivial, ?_, ?_, fun _ _ e => ⟨ts, (Vl.obj.inj e).1.symm⟩⟩
  · have e1 : PyData.canLay0 (Vl.obj (.tuple (ts.map PyData.int)) n).d = true := by
      simp only [Vl.d, Vl.kind, Vl.rest, PyData.canLay0, PyData.canLayAll0] at hk ⊢
      rw [hk, h1]
      rfl
    have e2 : (Vl.obj (.tuple (ts.map PyData.int)) n).d.depth ≤ 64 := by
      simp only [Vl.d, Vl.kind, Vl.rest, PyData.depth, PyData.depthAll]
      rw [h2]
      decide
    unfold SeqAt.shaped
    rw [e1, decide_eq_true e2]
    rfl
  · simp [Vl.d, Vl.rest, okD, h]
theorem dp_ints {K : PySem.W.Frag} {H : Hp} : ∀ ts : List Int, DpAll K H (ts.map V.int) (ts.map PyData.int)
  | [] => .nil
  | t :: ts => .cons (.int t) (dp_ints ts)
def spValue (K : PySem.W.Frag) : Sp := fun vs H Q _ => ∃ (p l : Addr), vs = [.ref p] ∧ BoxAt H p l ∧ ∀ (v : V) (a : Vl) (H' : Hp), Dp K H' v a.d → Good a → BoxAt H' p l → Keep p H H' → Q v H'
theorem ok__law_value (T : Tx K mg) : FnOk P w K mg base CX0 3 T.d__law_value.f T.d__law_value.fd P__law_value (spValue K) := by
  have G__law_draw := ok__law_draw (P := P) (w := w) (base := base) T
  have G__law_text := ok__law_text (P := P) (w := w) (base := base) T
  have G__law_number := ok__law_number (P := P) (w := w) (base := base) T
  refine T.d__law_value.F.ok sc__law_value (fun vs H Q E h => ?_) (fun cdv A outer s H vs Q E hr h => ?_)
  · obtain ⟨p, l, rfl, _⟩ := h
    rfl
  obtain ⟨p, l, rfl, B, q⟩ := h
  refine ⟨_, (pss_cons (ps_set (i := 1) sc__law_value.nd rfl (Or.inl rfl) (pe_call G__law_draw (hr.mono (by omega)) (by rfl) T.d__law_draw.m T.d__law_draw.F.kp T.d__law_draw.b .nil pass0 (pa_cons (pv 0) (pa_cons pe_int pa_nil))))
    (pss_cons (ps_if (pt_cmpR op_eq (pv 1) pe_int (nomark _))
      (pss_one (ps_ret (pe_tup (pa_cons pe_str pa_nil))))
      pss_nil)
    (pss_cons (ps_if (pt_cmpR op_eq (pv 1) pe_int (nomark _))
      (pss_one (ps_ret (pe_tup (pa_cons pe_str (pa_cons (pe_cmpR op_eq (pe_call G__law_draw (hr.mono (by omega)) (by rfl) T.d__law_draw.m T.d__law_draw.F.kp T.d__law_draw.b .nil pass0 (pa_cons (pv 0) (pa_cons pe_int pa_nil))) pe_int (nomark _)) pa_nil)))))
      pss_nil)
    (pss_cons (ps_if (pt_cmpR op_eq (pv 1) pe_int (nomark _))
      (pss_one (ps_ret (pe_tup (pa_cons pe_str (pa_cons (pe_call G__law_text (hr.mono (by omega)) (by rfl) T.d__law_text.m T.d__law_text.F.kp T.d__law_text.b .nil pass0 (pa_cons (pv 0) (pa_cons pe_int pa_nil))) pa_nil)))))
      pss_nil)
    (pss_cons (ps_if (pt_cmpR op_eq (pv 1) pe_int (nomark _))
      (pss_cons (ps_set (i := 2) sc__law_value.nd rfl (Or.inl rfl) (pe_tup pa_nil))
    (pss_cons (ps_for PassesOwn.never rfl (pi_range1 (by rfl) T.z_range (pa_cons (pe_call G__law_draw (hr.mono (by omega)) (by rfl) T.d__law_draw.m T.d__law_draw.F.kp T.d__law_draw.b .nil pass0 (pa_cons (pv 0) (pa_cons pe_int pa_nil))) pa_nil)) (pg_name (i := 3) sc__law_value.nd rfl (Or.inl rfl))
      (pss_one (ps_set (i := 2) sc__law_value.nd rfl (Or.inl rfl) (pe_op op_catA (pv 2) (pe_tup (pa_cons (pe_call G__law_draw (hr.mono (by omega)) (by rfl) T.d__law_draw.m T.d__law_draw.F.kp T.d__law_draw.b .nil pass0 (pa_cons (pv 0) (pa_cons pe_int pa_nil))) pa_nil))))))
    (pss_one (ps_ret (pe_tup (pa_cons pe_str (pa_cons (pv 2) (pa_cons (pe_call G__law_draw (hr.mono (by omega)) (by rfl) T.d__law_draw.m T.d__law_draw.F.kp T.d__law_draw.b .nil pass0 (pa_cons (pv 0) (pa_cons pe_int pa_nil))) pa_nil))))))))
      pss_nil)
    (pss_one (ps_ret (pe_tup (pa_cons pe_str (pa_cons (pe_call G__law_number (hr.mono (by omega)) (by rfl) T.d__law_number.m T.d__law_number.F.kp T.d__law_number.b .nil pass0 (pa_cons (pv 0) pa_nil)) pa_nil)))))))))), ?_⟩
  refine ⟨_, rfl, p, l, _, rfl, by decide, B, fun kd H1 _ _ B1 k1 => ?_⟩
  refine ⟨_, rfl, rfl, _, rfl, ite2 (fun _ => ?_) (fun _ => ?_)⟩
  · refine ⟨(by decide), fun r nr => ?_⟩
    have s1 := same_new nr (.tup [.str "none"])
    exact q _ .non _ (.tup (SqT.of upd_same) (.cons (.str "none") .nil)) good_non (B1.same s1) (k1.trans (.of s1))
  refine ⟨_, rfl, rfl, _, rfl, ite2 (fun _ => ?_) (fun _ => ?_)⟩
  · refine ⟨_, rfl, p, l, _, rfl, by decide, B1, fun z H2 _ _ B2 k2 => ⟨rfl, two_le, fun r nr => ?_⟩⟩
    have s1 := same_new nr (.tup [.str "bool", .bl (decide (V.int z = V.int 1))])
    exact q _ (.bl _) _ (dp_two upd_same (.bl _)) (good_bl _) (B2.same s1) ((k1.trans k2).trans (.of s1))
  refine ⟨_, rfl, rfl, _, rfl, ite2 (fun _ => ?_) (fun _ => ?_)⟩
  · refine ⟨_, rfl, p, l, rfl, B1, fun z H2 hz kz B2 k2 => ⟨two_le, fun r nr => ?_⟩⟩
    have s1 := same_new nr (.tup [.str "text", .str z])
    exact q _ (.txt z) _ (dp_two upd_same (.str z)) (good_txt (by omega) kz) (B2.same s1) ((k1.trans k2).trans (.of s1))
  refine ⟨_, rfl, rfl, _, rfl, ite2 (fun _ => ?_) (fun _ => ?_)⟩
  · refine ⟨(by decide), fun t0 n0 => ?_⟩
    have s0 := same_new n0 (.tup [])
    have B2 := B1.same s0
    have k2 := k1.trans (Keep.of (p := p) s0)
    refine ⟨_, rfl, p, l, _, rfl, by decide, B2, fun m H3 m0 m1 B3 k3 => ?_⟩
    refine ⟨m, rfl, by omega, by omega, for_range (lo := 0) (n := m.toNat) (fun i σ H4 => ∃ (t : Addr) (ts : List Int) (v1 v3 : Option V), σ = [some (.ref p), v1, some (.ref t), v3] ∧ H4 t = some (.tup (ts.map V.int)) ∧ ts.length ≤ i ∧ t ≠ p ∧ BoxAt H4 p l ∧ Keep p H H4)
      ⟨t0, [], _, _, rfl, ?_, Nat.le_refl 0, ?_, B3, k2.trans k3⟩ ?_ ?_⟩
    · obtain ⟨⟨k, _, hp⟩, _, _⟩ := B1
      exact k3 _ _ upd_same (ne_of_none hp n0).symm
    · obtain ⟨⟨k, _, hp⟩, _, _⟩ := B1
      exact (ne_of_none hp n0).symm
    · rintro i σ H4 hi ⟨t, ts, v1, v3, rfl, ht, tl, tp, B4, k4⟩
      refine ⟨_, rfl, _, rfl, p, l, _, rfl, by decide, B4, fun z H5 _ _ B5 k5 => ⟨one_le, fun r nr => ?_⟩⟩
      have s5 := same_new nr (.tup [.int z])
      have ht5 : upd H5 r (.tup [.int z]) t = some (.tup (ts.map V.int)) := s5 _ _ (k5 _ _ ht tp)
      have B6 := B5.same s5
      have k6 := (k4.trans k5).trans (Keep.of (p := p) s5)
      have lin : (ts.map V.int).length + 1 ≤ sizeLine := by
        rw [List.length_map]
        exact lines (by omega)
      have rp : r ≠ p := by
        obtain ⟨⟨k, _, hp⟩, _, _⟩ := B5
        exact (ne_of_none hp nr).symm
      refine ⟨t, r, _, _, rfl, rfl, SqT.of ht5, SqT.of upd_same, lin, fun e => ?_, fun _ e => absurd e (by simp), fun _ _ u nu => ?_⟩
      · exact ⟨r, [z], _, _, rfl, upd_same, by simp, rp, B6, k6⟩
      · have s6 := same_new nu (.tup (ts.map V.int ++ [.int z]))
        have up : u ≠ p := by
          obtain ⟨⟨k, _, hp⟩, _, _⟩ := B6
          exact (ne_of_none hp nu).symm
        exact ⟨u, ts ++ [z], _, _, rfl, by rw [upd_same, List.map_append]; rfl, by rw [List.length_append, List.length_singleton]; omega, up, B6.same s6, k6.trans (.of s6)⟩
    · rintro σ H4 ⟨t, ts, v1, v3, rfl, ht, tl, tp, B4, k4⟩
      refine ⟨_, rfl, _, rfl, p, l, _, rfl, by decide, B4, fun z H5 _ _ B5 k5 => ⟨three_le, fun r nr => ?_⟩⟩
      have s1 := same_new nr (.tup [.str "object", .ref t, .int z])
      refine q _ (.obj (.tuple (ts.map PyData.int)) z) _ ?_ (good_obj (by omega)) (B5.same s1) ((k4.trans k5).trans (.of s1))
      exact .tup (SqT.of upd_same) (.cons (.str "object") (.cons (.tup (SqT.of (s1 _ _ (k5 _ _ ht tp))) (dp_ints ts)) (.cons (.int z) .nil)))
  refine ⟨_, rfl, p, l, rfl, B1, fun z H2 hz B2 k2 => ⟨two_le, fun r nr => ?_⟩⟩
  have s1 := same_new nr (.tup [.str "int", .int z])
  exact q _ (.int z) _ (dp_two upd_same (.int z)) (good_int hz) (B2.same s1) ((k1.trans k2).trans (.of s1))
/-! ### more on data -/
theorem dp_keep {K : PySem.W.Frag} {H H' : Hp} {p : Addr} (hp : ∃ xs, H p = some (.lst xs)) (k : Keep p H H') : ∀ (m : Nat) (v : V) (d : PyData), okD m d = true → Dp K H v d → Dp K H' v d
  | 0, _, d, h, _ => by simp [okD] at h
  | m + 1, v, d, h, x => by
    obtain ⟨ys, hp⟩ := id hp
    cases x with
    | non => exact .non
    | bl b => exact .bl b
    | int i => exact .int i
    | str s => exact .str s
    | lst _ _ => simp [okD] at h
    | @tup a xs ds hs ha =>
      have hd := (okD_tup h).2
      refine .tup (xs := xs) ?_ ?_
      · rcases hs with (g | ⟨o, g⟩) | g
        · exact .inl (.inl (k _ _ g (ne_of g hp (fun z => by cases z))))
        · exact .inl (.inr ⟨o, k _ _ g (ne_of g hp (fun z => by cases z))⟩)
        · exact .inr g
      · have go : ∀ {xs : List V} {ds : List PyData}, DpAll K H xs ds → (∀ d ∈ ds, okD m d = true) → DpAll K H' xs ds := by
          intro xs
          induction xs with
          | nil =>
            intro ds a _
            cases a
            exact .nil
          | cons x xs ih =>
            intro ds a hd
            cases a with
            | cons a b => exact .cons (dp_keep ⟨ys, hp⟩ k m _ _ (hd _ List.mem_cons_self) a) (ih b fun d hd' => hd d (List.mem_cons_of_mem _ hd'))
        exact go ha hd
theorem BoxAt.lst {H : Hp} {p l : Addr} (B : BoxAt H p l) : ∃ xs, H p = some (.lst xs) := by
  obtain ⟨⟨k, _, h⟩, _, _⟩ := B
  exact ⟨_, h⟩
theorem eqv_tup (xs ys : List PyData) : PyData.eqv (.tuple xs) (.tuple ys) = PyData.eqvAll xs ys := by simp only [PyData.eqv]
theorem eqvAll_cons (x y : PyData) (xs ys : List PyData) : PyData.eqvAll (x :: xs) (y :: ys) = (PyData.eqv x y && PyData.eqvAll xs ys) := by simp only [PyData.eqvAll]
theorem eqvAll_nil : PyData.eqvAll [] [] = true := by simp only [PyData.eqvAll]
theorem kinds_apart {k m : Str} {xs ys : List PyData} (h : (k == m) = false) : PyData.eqv (.tuple (.str k :: xs)) (.tuple (.str m :: ys)) = false ∧ sameD (.tuple (.str k :: xs)) (.tuple (.str m :: ys)) = false := by
  refine ⟨?_, ?_⟩
  · rw [eqv_tup, eqvAll_cons]
    simp only [PyData.eqv]
    rw [h]
    rfl
  · rw [sameD_tup, sameAll_cons]
    simp only [sameD]
    rw [h]
    rfl
theorem vl_apart {a b : Vl} (h : (a.kind == b.kind) = false) : PyData.eqv a.d b.d = false ∧ sameD a.d b.d = false := kinds_apart h
/-- all objects but lists are as they were -/
def KeepT (H H' : Hp) : Prop := ∀ b o, H b = some o → (∀ xs, o ≠ .lst xs) → H' b = some o
theorem KeepT.refl (H : Hp) : KeepT H H := fun _ _ h _ => h
theorem KeepT.trans {H H1 H2 : Hp} (a : KeepT H H1) (b : KeepT H1 H2) : KeepT H H2 := fun c o h n => b c o (a c o h n) n
theorem KeepT.same {H H' : Hp} (s : Same H H') : KeepT H H' := fun b o h _ => s b o h
theorem KeepT.keep {p : Addr} {H H' : Hp} (hp : ∃ xs, H p = some (.lst xs)) (k : Keep p H H') : KeepT H H' := fun b o h n => by
  obtain ⟨xs, hp⟩ := hp
  refine k b o h fun e => ?_
  subst e
  rw [hp] at h
  exact n xs (Option.some.inj h).symm
theorem KeepT.updL {p : Addr} {H : Hp} {o : HO} (hp : ∃ xs, H p = some (.lst xs)) : KeepT H (upd H p o) := KeepT.keep hp Keep.upd
theorem sqT_keep {K : PySem.W.Frag} {H H' : Hp} {a : Addr} {xs : List V} (k : KeepT H H') (h : SqT K H a xs) : SqT K H' a xs := by
  rcases h with (g | ⟨o, g⟩) | g
  · exact .inl (.inl (k _ _ g fun _ e => nomatch e))
  · exact .inl (.inr ⟨o, k _ _ g fun _ e => nomatch e⟩)
  · exact .inr g
theorem dp_keepT {K : PySem.W.Frag} {H H' : Hp} (k : KeepT H H') : ∀ (m : Nat) (v : V) (d : PyData), okD m d = true → Dp K H v d → Dp K H' v d
  | 0, _, d, h, _ => by simp [okD] at h
  | m + 1, v, d, h, x => by
    cases x with
    | non => exact .non
    | bl b => exact .bl b
    | int i => exact .int i
    | str s => exact .str s
    | lst _ _ => simp [okD] at h
    | @tup a xs ds hs ha =>
      have hd := (okD_tup h).2
      refine .tup (xs := xs) (sqT_keep k hs) ?_
      have go : ∀ {xs : List V} {ds : List PyData}, DpAll K H xs ds → (∀ d ∈ ds, okD m d = true) → DpAll K H' xs ds := by
        intro xs
        induction xs with
        | nil =>
          intro ds a _
          cases a
          exact .nil
        | cons x xs ih =>
          intro ds a hd
          cases a with
          | cons a b => exact .cons (dp_keepT k m _ _ (hd _ List.mem_cons_self) a) (ih b fun d hd' => hd d (List.mem_cons_of_mem _ hd'))
      exact go ha hd
/-! ### tuples whose object is known, for their methods -/
section
open PySem.Spec PyProof.Rows
variable {X : Cx}
def TupO (o : Obj) : Prop := o.cls = .type "tuple" ∧ o.dict = none
def tTupF (t : TA) : TE := fun σ H Q => t σ H fun xs H' => xs.length ≤ sizeLine ∧ ∀ (p : Addr) (o : Obj), H' p = none → TupO o → Q (.ref p) (upd H' p (.frz o (.tup xs)))
theorem pe_tupF {es : List Expr} {t : TA} {pos : Pos} {x1 : Nat} (h : PA X es t) : PE X (.Tuple es x1 pos) (tTupF t) := by
  constructor
  intro pins s σ H Q I hq
  apply wpAny_Tuple_spliced
  refine thn (h.run pos pins s σ H _ I hq) ?_
  rintro us s1 ⟨xs, H', I', r, z, q⟩
  have fr := I'.hok.fresh (Nat.le_refl s1.heap.objs.size)
  have get := Heap.get?_push_size s1.heap (o := { cls := .type "tuple", data := .seq us.toArray }) rfl
  refine ⟨by rw [← r.length]; exact z, .ref s1.heap.objs.size, _, I'.laid (o := .frz { cls := .type "tuple", data := .seq us.toArray } (.tup xs)) (t' := s1.toks) (fun _ _ e => Heap.get?_push_of_some _ e) (Nat.le_refl _) ?_, rfl, q _ _ fr ⟨rfl, rfl⟩⟩
  exact ⟨get, z, us, r, _, get, rfl, _, rfl⟩
def rCatF (K : PySem.W.Frag) : R2 := fun x y H Q => ∃ a b xs ys, x = .ref a ∧ y = .ref b ∧ SqT K H a xs ∧ SqT K H b ys ∧ xs.length + ys.length ≤ sizeLine ∧ xs ≠ [] ∧ ys ≠ [] ∧ ∀ (p : Addr) (o : Obj), H p = none → TupO o → Q (.ref p) (upd H p (.frz o (.tup (xs ++ ys))))
theorem op_catF : OpR X (binaryOp .Add) (rCatF X.K) := by
  intro pins s σ H x y v u Q I rx ry h
  obtain ⟨a, b, xs, ys, rfl, rfl, ha, hb, hz, hx, hy, q⟩ := h
  cases rx
  cases ry
  obtain ⟨its, r1, p1, _⟩ := I.tuple ha
  obtain ⟨jts, r2, p2, _⟩ := I.tuple hb
  have e1 : its ≠ [] := fun z => hx (r1.nil_iff.mp z)
  have e2 : jts ≠ [] := fun z => hy (r2.nil_iff.mp z)
  have fr := I.hok.fresh (Nat.le_refl s.heap.objs.size)
  have get := Heap.get?_push_size s.heap (o := { cls := .type "tuple", data := .seq (its ++ jts).toArray }) rfl
  refine HT.cat_tup p1 p2 e1 (fun z => absurd z e2) (fun _ => ?_) (by rw [← r1.length, ← r2.length]; exact hz)
  refine ⟨.ref s.heap.objs.size, _, I.laid (o := .frz { cls := .type "tuple", data := .seq (its ++ jts).toArray } (.tup (xs ++ ys))) (t' := s.toks) (fun _ _ e => Heap.get?_push_of_some _ e) (Nat.le_refl _) ?_, rfl, q _ _ fr ⟨rfl, rfl⟩⟩
  exact ⟨get, by rw [List.length_append]; exact hz, _, r1.append r2, _, get, rfl, _, rfl⟩
def rCatE (K : PySem.W.Frag) : R2 := fun x y H Q => (∃ a b ys, x = .ref a ∧ y = .ref b ∧ SqT K H a [] ∧ SqT K H b ys ∧ ys.length ≤ sizeLine ∧ Q (.ref b) H) ∨ rCatF K x y H Q
theorem op_catE : OpR X (binaryOp .Add) (rCatE X.K) := by
  intro pins s σ H x y v u Q I rx ry h
  rcases h with ⟨a, b, ys, rfl, rfl, ha, hb, hz, q⟩ | h
  · exact op_catA pins s σ H _ _ v u Q I rx ry ⟨a, b, [], ys, rfl, rfl, ha, hb, by simpa using hz, fun _ => q, fun z => absurd rfl z, fun z => absurd rfl z⟩
  · exact op_catF pins s σ H x y v u Q I rx ry h
/-- a method of a tuple whose object is known -/
def tMT (r : V → List V → Hp → VK → Prop) (to : TE) (t : TA) : TE := fun σ H Q => to σ H fun x H' => (∃ p o u, x = .ref p ∧ H' p = some (.frz o u) ∧ TupO o) ∧ t σ H' fun xs H'' => r x xs H'' Q
theorem pe_mt {o e : Expr} {to : TE} {t : TA} {nm : Str} {apos cpos : Pos} {id : String} {r : V → List V → Hp → VK → Prop} (slot : Slot "tuple" nm id) (hty : typeOf (.builtin id) = pure (.type "method_descriptor")) (hm : MtR X id r)
    (ho : PE X o to) (ha : PA X [e] t) (hb : attributeBase o nm X.env (eval o X.env) = eval o X.env := by rfl)
    (hf : ((backTo cpos (starEach [e] X.env)).all (fun x => !x.1) && (backToKw cpos (keywordEach [] X.env)).all (fun x => x.1.isSome) && decide (([e] : List Expr).length + ([] : List Keyword).length + (if ([] : List Keyword).isEmpty then 0 else 1) < 30)) = true := by rfl)
    (hl : (apos.endLine == cpos.line) = true := by rfl) (hs : starEach [e] X.env = (false, eval e X.env) :: starEach [] X.env := by rfl) (hp : (backTo cpos (starEach [] X.env)).any (·.1) = false := by rfl) :
    PE X (.Call (.Attribute o nm apos) [e] [] cpos) (tMT r to t) := by
  constructor
  intro pins s σ H Q I h
  refine wpAny_Call_method_late hb hf hl rfl (thn (ho.run pins s σ H _ I h) ?_)
  rintro v s1 ⟨x, H', I', rx, ⟨p, ob, u, rfl, hx, hc, hd⟩, q1⟩
  cases rx
  have ok : ObjOk X.prog X.w H' s1.heap p (.frz ob u) := I'.hok p _ hx
  have g := ok.1
  refine ⟨"tuple", id, PySem.F.plainAttrs_tuple, slot, hty, ⟨ob, g, hc⟩, fun a e => ?_, ?_⟩
  · cases e
    exact ⟨ob, g, hd⟩
  · have hA := ha.run cpos pins s1 σ H' _ I' q1
    rw [hs] at hA ⊢
    refine Calls.callWith_builtin (by show (false || (backTo cpos (starEach [] X.env)).any (·.1)) = false; rw [hp]; rfl) (Calls.evalArgs_plain (thn hA ?_))
    rintro us s2 ⟨vs, H2, I2, r2, q2⟩
    exact hm pins s2 σ H2 (.ref p) vs (.ref p) us Q I2 rfl r2 q2
end
/-! ### records -/
abbrev Rec := Str × List Str
def pos (n : Str) : List Str → Nat
  | [] => 0
  | f :: fs => if f = n then 0 else pos n fs + 1
theorem pos_at {n : Str} : ∀ {fs : List Str}, n ∈ fs → fs[pos n fs]? = some n ∧ ∀ m, m < pos n fs → fs[m]? ≠ some n
  | [], h => by cases h
  | f :: fs, h => by
    by_cases e : f = n
    · have z : pos n (f :: fs) = 0 := by
        unfold pos
        rw [if_pos e]
      rw [z]
      exact ⟨congrArg some e, fun m hm => absurd hm (Nat.not_lt_zero m)⟩
    · have z : pos n (f :: fs) = pos n fs + 1 := by
        rw [pos, if_neg e]
      have h' : n ∈ fs := (List.mem_cons.mp h).elim (fun q => absurd q.symm e) id
      obtain ⟨a, b⟩ := pos_at h'
      rw [z]
      refine ⟨by simpa using a, fun m hm => ?_⟩
      cases m with
      | zero => exact fun q => e (Option.some.inj q)
      | succ m => simpa using b m (by omega)
theorem pos_eq {n : Str} {fs : List Str} {k : Nat} (h : fs[k]? = some n) (hb : ∀ m, m < k → fs[m]? ≠ some n) : n ∈ fs ∧ pos n fs = k := by
  have hm := List.mem_of_getElem? h
  obtain ⟨a, b⟩ := pos_at hm
  refine ⟨hm, ?_⟩
  rcases Nat.lt_trichotomy (pos n fs) k with q | q | q
  · exact absurd a (hb _ q)
  · exact q
  · exact absurd h (b _ q)
def isTxt : Vl → Str → Bool
  | .txt z, r => z == r
  | _, _ => false
theorem eqv_txt (a : Vl) (r : Str) : PyData.eqv a.d (Vl.txt r).d = isTxt a r := by
  cases a with
  | txt z => simp only [Vl.d, Vl.kind, Vl.rest, PyData.eqv, PyData.eqvAll, isTxt]; simp
  | non => exact (vl_apart (a := .non) (b := .txt r) (show (("none" : Str) == "text") = false by decide +kernel)).1
  | bl b => exact (vl_apart (a := .bl b) (b := .txt r) (show (("bool" : Str) == "text") = false by decide +kernel)).1
  | int b => exact (vl_apart (a := .int b) (b := .txt r) (show (("int" : Str) == "text") = false by decide +kernel)).1
  | obj t b => exact (vl_apart (a := .obj t b) (b := .txt r) (show (("object" : Str) == "text") = false by decide +kernel)).1
def cellD (k : Nat) : PyData := .tuple [.str "ok", .int ((k : Int) + 1)]
def fieldD (a : Vl) (n : Str) : List Rec → PyData
  | [] => errP "field"
  | r :: rs => if isTxt a r.1 = true ∧ n ∈ r.2 then cellD (pos n r.2) else fieldD a n rs
theorem field_step {a : Vl} {n : Str} {rs : List Rec} {i : Nat} {r : Rec} (h : rs[i]? = some r) : fieldD a n (rs.drop i) = if isTxt a r.1 = true ∧ n ∈ r.2 then cellD (pos n r.2) else fieldD a n (rs.drop (i + 1)) := by
  obtain ⟨hl, he⟩ := List.getElem?_eq_some_iff.mp h
  rw [List.drop_eq_getElem_cons hl, he]
  rfl
theorem okD_field (a : Vl) (n : Str) : ∀ rs : List Rec, okD 6 (fieldD a n rs) = true
  | [] => by simp [fieldD, errP, okD]
  | r :: rs => by
    unfold fieldD
    split
    · simp [cellD, okD]
    · exact okD_field a n rs
def FldAt (H : Hp) (f : Addr) (fs : List Str) : Prop := ∃ o, H f = some (.frz o (.tup (fs.map V.str))) ∧ TupO o
def RecAt (K : PySem.W.Frag) (H : Hp) (v : V) (r : Rec) : Prop := ∃ a f, v = .ref a ∧ SqT K H a [.str r.1, .ref f] ∧ FldAt H f r.2 ∧ r.2.length ≤ 8 ∧ r.1.length ≤ 1000 ∧ txtOk r.1
def RecsOf (K : PySem.W.Frag) (H : Hp) (vs : List V) (rs : List Rec) : Prop := vs.length = rs.length ∧ ∀ (i : Nat) (r : Rec), rs[i]? = some r → ∃ v, vs[i]? = some v ∧ RecAt K H v r
def RecsAt (K : PySem.W.Frag) (H : Hp) (t : Addr) (rs : List Rec) : Prop := ∃ vs, SqT K H t vs ∧ RecsOf K H vs rs
theorem FldAt.keep {H H' : Hp} {f : Addr} {fs : List Str} (k : KeepT H H') (h : FldAt H f fs) : FldAt H' f fs := by
  obtain ⟨o, h, t⟩ := h
  exact ⟨o, k _ _ h (fun _ e => nomatch e), t⟩
theorem RecAt.keep {K : PySem.W.Frag} {H H' : Hp} {v : V} {r : Rec} (k : KeepT H H') (h : RecAt K H v r) : RecAt K H' v r := by
  obtain ⟨a, f, e, s, g, l⟩ := h
  exact ⟨a, f, e, sqT_keep k s, g.keep k, l⟩
theorem RecsOf.keep {K : PySem.W.Frag} {H H' : Hp} {vs : List V} {rs : List Rec} (k : KeepT H H') (h : RecsOf K H vs rs) : RecsOf K H' vs rs :=
  ⟨h.1, fun i r e => by
    obtain ⟨v, h1, h2⟩ := h.2 i r e
    exact ⟨v, h1, h2.keep k⟩⟩
theorem RecsAt.keep {K : PySem.W.Frag} {H H' : Hp} {t : Addr} {rs : List Rec} (k : KeepT H H') (h : RecsAt K H t rs) : RecsAt K H' t rs := by
  obtain ⟨vs, s, g⟩ := h
  exact ⟨vs, sqT_keep k s, g.keep k⟩
theorem FldAt.sq {K : PySem.W.Frag} {H : Hp} {f : Addr} {fs : List Str} (h : FldAt H f fs) : SqT K H f (fs.map V.str) := by
  obtain ⟨o, h, _⟩ := h
  exact .inl (.inr ⟨o, h⟩)
theorem in_strs (n : Str) : ∀ fs : List Str, inV (.str n) (fs.map V.str) = decide (n ∈ fs)
  | [] => by simp [inV]
  | f :: fs => by
    have ih := in_strs n fs
    simp only [inV, List.map_cons, List.any_cons, eqV] at ih ⊢
    rw [ih, Bool.eq_iff_iff]
    simp only [Bool.or_eq_true, beq_iff_eq, decide_eq_true_eq, List.mem_cons]
    exact ⟨fun h => h.elim (fun e => .inl e.symm) .inr, fun h => h.elim (fun e => .inl e.symm) .inr⟩
theorem flat_strs' (fs : List Str) : (fs.map V.str).all flatV = true := by
  rw [List.all_eq_true]
  intro x hx
  obtain ⟨f, _, rfl⟩ := List.mem_map.mp hx
  rfl
def spField (K : PySem.W.Frag) : Sp := fun vs H Q _ => ∃ (t : Addr) (x : V) (n : Str) (rs : List Rec) (a : Vl), vs = [.ref t, x, .str n] ∧ RecsAt K H t rs ∧ rs.length ≤ 1000 ∧ Dp K H x a.d ∧ Good a ∧ Gives K H (fieldD a n rs) Q
theorem ok_field_cell (T : Tx K mg) : FnOk P w K mg base CX0 1 T.d_field_cell.f T.d_field_cell.fd P_field_cell (spField K) := by
  refine T.d_field_cell.F.ok sc_field_cell (fun vs H Q E h => ?_) (fun cdv A outer s H vs Q E hr h => ?_)
  · obtain ⟨t, x, n, rs, a, rfl, _⟩ := h
    rfl
  obtain ⟨t, x, n, rs, a, rfl, hR, hl, hx, ga, q⟩ := h
  refine ⟨_, (pss_cons (ps_for PassesOwn.never rfl (pi_tup (pv 0)) (pg_tup (by rfl) (pgs_cons (pg_name (i := 3) sc_field_cell.nd rfl (Or.inl rfl)) (pgs_cons (pg_name (i := 4) sc_field_cell.nd rfl (Or.inl rfl)) pgs_nil)))
      (pss_one (ps_if (PW.pt (pw_and (pt_cmpR (op_eqD hr.units) (pv 1) (pe_tup (pa_cons pe_str (pa_cons (pv 3) pa_nil))) (nomark _)) (pw_and1 (pt_cmpR op_in_seq (pv 2) (pv 4) (by rfl)))))
      (pss_one (ps_ret (pe_tup (pa_cons pe_str (pa_cons (pe_op op_add (pe_mt PySem.F.slot_tuple_index PySem.F.type_tuple_index mt_tup_index (pv 4) (pa_cons (pv 2) pa_nil)) pe_int) pa_nil)))))
      pss_nil)))
    (pss_one (ps_ret (pe_tup (pa_cons pe_str (pa_cons pe_str pa_nil)))))), ?_⟩
  obtain ⟨vs, hs, hlen, hget⟩ := id hR
  refine ⟨_, rfl, t, rfl, ⟨_, hs⟩, for_tup (K := K) (a := t) (xs := vs) (fun i σ H1 => (∃ v3 v4 : Option V, σ = [some (.ref t), some x, some (.str n), v3, v4]) ∧ Same H H1 ∧ fieldD a n rs = fieldD a n (rs.drop i))
    ⟨⟨none, none, rfl⟩, Same.refl H, rfl⟩ (fun i σ H1 _ h => sqT_keep (KeepT.same h.2.1) hs) ?_ ?_⟩
  · rintro i y σ H1 hi ⟨⟨v3, v4, rfl⟩, s1, so⟩
    have hir : i < rs.length := by
      have := (List.getElem?_eq_some_iff.mp hi).1
      omega
    have gr : rs[i]? = some rs[i] := List.getElem?_eq_getElem hir
    obtain ⟨v, hv, hrec⟩ := hget i _ gr
    rw [hi] at hv
    cases hv
    rw [field_step gr] at so
    generalize rs[i] = r at hrec so
    obtain ⟨ra, rf, rfl, sr, fa, fl, nl, nk⟩ := hrec.keep (KeepT.same s1)
    refine ⟨ra, _, rfl, sr, rfl, _, _, rfl, _, _, rfl, rfl, ?_⟩
    refine ⟨_, rfl, _, rfl, two_le, fun p1 m1 => ?_⟩
    have s2 := s1.trans (same_new m1 (.tup [.str "text", .str r.1]))
    have gt := good_txt (z := r.1) nl nk
    have fa2 := fa.keep (KeepT.same (same_new m1 (.tup [.str "text", .str r.1])))
    refine ⟨_, _, dp_same s2 hx, dp_two upd_same (.str r.1), ga.sh, gt.sh, _, rfl, ?_⟩
    change if PyData.eqv a.d (Vl.txt r.1).d = true then _ else _
    rw [eqv_txt]
    refine ite2 (fun c1 => ?_) (fun c1 => ?_)
    · refine ⟨_, rfl, _, rfl, rf, _, rfl, .inr fa2.sq, rfl, flat_strs' _, _, rfl, ?_⟩
      change if inV (.str n) (r.2.map V.str) = true then _ else _
      rw [in_strs]
      refine ite2 (fun c2 => ?_) (fun c2 => ?_)
      · have c2' := of_decide_eq_true c2
        rw [if_pos ⟨c1, c2'⟩] at so
        obtain ⟨o, ho, to⟩ := fa2
        obtain ⟨h1, h2⟩ := pos_at c2'
        refine ⟨_, rfl, ⟨rf, o, _, rfl, ho, to⟩, _, rfl, rf, r.2, n, _, rfl, rfl, .inl (.inr ⟨o, ho⟩), h1, h2, _, _, rfl, rfl, two_le, fun p2 m2 => ?_⟩
        obtain ⟨s3, d3⟩ := new_one (K := K) (k := "ok") (.int (((pos n r.2 : Nat) : Int) + 1)) m2
        refine q _ _ (s2.trans s3) ?_
        rw [so]
        exact d3
      · rw [if_neg (fun z => c2 (decide_eq_true z.2))] at so
        exact ⟨⟨_, _, rfl⟩, s2, so⟩
    · rw [if_neg (fun z => c1 z.1)] at so
      exact iteF ⟨⟨_, _, rfl⟩, s2, so⟩
  · rintro σ H1 ⟨⟨v3, v4, rfl⟩, s1, so⟩
    rw [hlen, List.drop_length] at so
    refine ⟨two_le, fun p2 m2 => ?_⟩
    obtain ⟨s3, d3⟩ := new_one (K := K) (k := "error") (.str "field") m2
    refine q _ _ (s1.trans s3) ?_
    rw [so]
    exact d3
theorem ok__law_due_field (T : Tx K mg) : FnOk P w K mg base CX0 1 T.d__law_due_field.f T.d__law_due_field.fd P__law_due_field (spField K) := by
  refine T.d__law_due_field.F.ok sc__law_due_field (fun vs H Q E h => ?_) (fun cdv A outer s H vs Q E hr h => ?_)
  · obtain ⟨t, x, n, rs, a, rfl, _⟩ := h
    rfl
  obtain ⟨t, x, n, rs, a, rfl, hR, hl, hx, ga, q⟩ := h
  refine ⟨_, (pss_cons (ps_if (pt_cmpR op_eq (pe_ix ix_tup (pv 1) pe_int (fun _ _ => rfl)) pe_str (nomark _))
      (pss_one (ps_for PassesOwn.never rfl (pi_tup (pv 0)) (pg_name (i := 3) sc__law_due_field.nd rfl (Or.inl rfl))
      (pss_one (ps_if (pt_cmpR op_eq (pe_ix ix_tup (pv 3) pe_int (fun _ _ => rfl)) (pe_ix ix_tup (pv 1) pe_int (fun _ _ => rfl)) (nomark _))
      (pss_one (ps_for PassesOwn.never rfl (pi_range1 (by rfl) T.z_range (pa_cons (pe_callB call_len_seq (by rfl) T.z_len PySem.boot_len (pa_cons (pe_ix ix_tup (pv 3) pe_int (fun _ _ => rfl)) pa_nil)) pa_nil)) (pg_name (i := 4) sc__law_due_field.nd rfl (Or.inl rfl))
      (pss_one (ps_if (pt_cmpR op_eq (pe_ix ix_tup (pe_ix ix_tup (pv 3) pe_int (fun _ _ => rfl)) (pv 4) (fun _ _ => rfl)) (pv 2) (nomark _))
      (pss_one (ps_ret (pe_tup (pa_cons pe_str (pa_cons (pe_op op_add (pv 4) pe_int) pa_nil)))))
      pss_nil))))
      pss_nil))))
      pss_nil)
    (pss_one (ps_ret (pe_tup (pa_cons pe_str (pa_cons pe_str pa_nil)))))), ?_⟩
  obtain ⟨vs, hs, hlen, hget⟩ := id hR
  obtain ⟨p, xs, rfl, sx, ax⟩ := vl_at hx
  refine ⟨_, rfl, p, _, _, _, rfl, rfl, sx, at_of (j := 0) rfl rfl, rfl, _, rfl, op_if (fun e => ?_) (fun e => ?_)⟩
  · obtain ⟨z, rfl⟩ := kind_txt e
    obtain ⟨p', z1, su⟩ := txt_at hx
    cases z1
    refine ⟨_, rfl, t, rfl, ⟨_, hs⟩, for_tup (K := K) (a := t) (xs := vs) (fun i σ H1 => (∃ v3 v4 : Option V, σ = [some (.ref t), some (.ref p), some (.str n), v3, v4]) ∧ H1 = H ∧ fieldD (.txt z) n rs = fieldD (.txt z) n (rs.drop i))
      ⟨⟨none, none, rfl⟩, rfl, rfl⟩ (fun i σ H1 _ h => by rw [h.2.1]; exact hs) ?_ ?_⟩
    · rintro i y σ H1 hi ⟨⟨v3, v4, rfl⟩, rfl, so⟩
      have hir : i < rs.length := by
        have := (List.getElem?_eq_some_iff.mp hi).1
        omega
      have gr : rs[i]? = some rs[i] := List.getElem?_eq_getElem hir
      obtain ⟨v, hv, hrec⟩ := hget i _ gr
      rw [hi] at hv
      cases hv
      rw [field_step gr] at so
      generalize rs[i] = r at hrec so
      obtain ⟨ra, rf, rfl, sr, fa, fl, nl, nk⟩ := hrec
      have sf : SqT K H1 rf (r.2.map V.str) := fa.sq
      refine ⟨_, rfl, ra, _, _, _, rfl, rfl, sr, at_of (j := 0) rfl rfl, _, rfl, p, _, _, _, rfl, rfl, su, at_of (j := 1) rfl rfl, rfl, _, rfl, op_if (fun c1 => ?_) (fun c1 => ?_)⟩
      · have c1' : isTxt (.txt z) r.1 = true := by
          rw [c1]
          exact beq_self_eq_true z
        refine ⟨_, rfl, ra, _, _, _, rfl, rfl, sr, at_of (j := 1) rfl rfl, rf, _, rfl, .inr sf, _, rfl, by omega, by rw [List.length_map]; omega, for_range (lo := 0) (n := (r.2.map V.str).length) (fun k σ H2 => (∃ v4 : Option V, σ = [some (.ref t), some (.ref p), some (.str n), some (.ref ra), v4]) ∧ H2 = H1 ∧ ∀ m, m < k → r.2[m]? ≠ some n)
          ⟨⟨_, rfl⟩, rfl, fun m hm => absurd hm (Nat.not_lt_zero m)⟩ ?_ ?_⟩
        · rintro k σ H2 hk ⟨⟨v4, rfl⟩, rfl, no⟩
          rw [List.length_map] at hk
          have gk : r.2[k]? = some r.2[k] := List.getElem?_eq_getElem hk
          have gm : (r.2.map V.str)[k]? = some (.str r.2[k]) := by rw [List.getElem?_map, gk]; rfl
          refine ⟨_, rfl, ra, _, _, _, rfl, rfl, sr, at_of (j := 1) rfl rfl, _, rfl, rf, _, _, _, rfl, rfl, sf, at_of (j := k) (by omega) gm, _, rfl, rfl, _, rfl, op_if (fun c2 => ?_) (fun c2 => ?_)⟩
          · rw [c2] at gk
            obtain ⟨h1, h2⟩ := pos_eq gk no
            rw [if_pos ⟨c1', h1⟩, h2] at so
            refine ⟨_, rfl, _, _, rfl, rfl, two_le, fun p2 m2 => ?_⟩
            obtain ⟨s3, d3⟩ := new_one (K := K) (k := "ok") (.int (0 + (k : Int) + 1)) m2
            refine q _ _ s3 ?_
            have e : (k : Int) + 1 = 0 + (k : Int) + 1 := by omega
            have ce : cellD k = .tuple [.str "ok", .int (0 + (k : Int) + 1)] := by
              unfold cellD
              rw [e]
            rw [so, ce]
            exact d3
          · refine ⟨⟨_, rfl⟩, rfl, fun m hm => ?_⟩
            by_cases e : m = k
            · subst e
              rw [gk]
              exact fun z => c2 (Option.some.inj z)
            · exact no m (by omega)
        · rintro σ H2 ⟨⟨v4, rfl⟩, rfl, no⟩
          have nm : ¬ n ∈ r.2 := fun hm => by
            obtain ⟨h1, _⟩ := pos_at hm
            have hlt := (List.getElem?_eq_some_iff.mp h1).1
            exact no _ (by rw [List.length_map]; exact hlt) h1
          rw [if_neg (fun z => nm z.2)] at so
          exact ⟨⟨_, _, rfl⟩, rfl, so⟩
      · rw [if_neg (fun y => c1 (eq_of_beq (show (z == r.1) = true from y.1)).symm)] at so
        exact ⟨⟨_, _, rfl⟩, rfl, so⟩
    · rintro σ H1 ⟨⟨v3, v4, rfl⟩, rfl, so⟩
      rw [hlen, List.drop_length] at so
      refine ⟨two_le, fun p2 m2 => ?_⟩
      obtain ⟨s3, d3⟩ := new_one (K := K) (k := "error") (.str "field") m2
      refine q _ _ s3 ?_
      rw [so]
      exact d3
  · have no : ∀ rs : List Rec, fieldD a n rs = errP "field" := fun rs => by
      induction rs with
      | nil => rfl
      | cons r rs ih =>
        have z : isTxt a r.1 = false := by
          cases a with
          | txt z => exact absurd rfl e
          | _ => rfl
        unfold fieldD
        rw [if_neg (fun y => by rw [z] at y; cases y.1)]
        exact ih
    refine ⟨two_le, fun p2 m2 => ?_⟩
    obtain ⟨s3, d3⟩ := new_one (K := K) (k := "error") (.str "field") m2
    refine q _ _ s3 ?_
    rw [no]
    exact d3
/-! ### items and sizes -/
def itemD (a b : Vl) : PyData := match a, b with
  | .int n, .int k => if 0 ≤ k ∧ k < n then .tuple [.str "ok", .int (k + 1)] else errP "index"
  | _, _ => errP "kind"
def sizeD (a : Vl) : PyData := match a with
  | .int n => if 0 ≤ n ∧ n ≤ 40 then .tuple [.str "ok", a.d] else errP "size"
  | _ => errP "kind"
theorem itemD_no {a b : Vl} (h : a.kind ≠ "int" ∨ b.kind ≠ "int") : itemD a b = errP "kind" := by
  cases a <;> cases b <;> first | rfl | (rcases h with h | h <;> exact absurd rfl h)
theorem sizeD_no {a : Vl} (h : a.kind ≠ "int") : sizeD a = errP "kind" := by
  cases a <;> first | rfl | exact absurd rfl h
theorem okD_item (a b : Vl) : okD 6 (itemD a b) = true := by
  unfold itemD
  split
  · split
    · simp [okD]
    · simp [errP, okD]
  · simp [errP, okD]
theorem okD_size (a : Vl) : okD 6 (sizeD a) = true := by
  unfold sizeD
  split
  · split
    · simp [Vl.d, Vl.rest, okD]
    · simp [errP, okD]
  · simp [errP, okD]
def spItem (K : PySem.W.Frag) : Sp := fun vs H Q _ => ∃ (x y : V) (a b : Vl), vs = [x, y] ∧ Dp K H x a.d ∧ Dp K H y b.d ∧ Gives K H (itemD a b) Q
def spSize (K : PySem.W.Frag) : Sp := fun vs H Q _ => ∃ (x : V) (a : Vl), vs = [x] ∧ Dp K H x a.d ∧ Gives K H (sizeD a) Q
theorem new_err {K : PySem.W.Frag} {H : Hp} {p : Addr} (x : Str) (h : H p = none) : Same H (upd H p (.tup [.str "error", .str x])) ∧ Dp K (upd H p (.tup [.str "error", .str x])) (.ref p) (errP x) := new_one (k := "error") (.str x) h
theorem ok_item_cell (T : Tx K mg) : FnOk P w K mg base CX0 1 T.d_item_cell.f T.d_item_cell.fd P_item_cell (spItem K) := by
  refine T.d_item_cell.F.ok sc_item_cell (fun vs H Q E h => ?_) (fun cdv A outer s H vs Q E hr h => ?_)
  · obtain ⟨x, y, a, b, rfl, _⟩ := h
    rfl
  obtain ⟨x, y, a, b, rfl, hx, hy, q⟩ := h
  refine ⟨_, (pss_cons (ps_if (PW.pt (pw_or (pt_cmpR op_ne (pe_ix ix_tup (pv 0) pe_int (fun _ _ => rfl)) pe_str (nomark _)) (pw_or1 (pt_cmpR op_ne (pe_ix ix_tup (pv 1) pe_int (fun _ _ => rfl)) pe_str (nomark _)))))
      (pss_one (ps_ret (pe_glob (v := V.ref T.a_KIND) (by rfl) T.c_KIND rfl)))
      pss_nil)
    (pss_cons (ps_if (PW.pt (pw_or (pt_cmpR op_lt (pe_ix ix_tup (pv 1) pe_int (fun _ _ => rfl)) pe_int (nomark _)) (pw_or1 (pt_cmpR op_ge (pe_ix ix_tup (pv 1) pe_int (fun _ _ => rfl)) (pe_ix ix_tup (pv 0) pe_int (fun _ _ => rfl)) (nomark _)))))
      (pss_one (ps_ret (pe_tup (pa_cons pe_str (pa_cons pe_str pa_nil)))))
      pss_nil)
    (pss_one (ps_ret (pe_tup (pa_cons pe_str (pa_cons (pe_op op_add (pe_ix ix_tup (pv 1) pe_int (fun _ _ => rfl)) pe_int) pa_nil))))))), ?_⟩
  obtain ⟨p, xs, rfl, sx, ax⟩ := vl_at hx
  obtain ⟨r, ys, rfl, sy, ay⟩ := vl_at hy
  have no : (a.kind ≠ "int" ∨ b.kind ≠ "int") → Q (.ref T.a_KIND) H := fun h => by
    refine q _ _ (Same.refl H) ?_
    rw [itemD_no h]
    exact kind_dp T H
  refine ⟨_, rfl, p, _, _, _, rfl, rfl, sx, at_of (j := 0) rfl rfl, rfl, _, rfl, ne_if (fun e => iteT (no (.inl e))) (fun e1 => ?_)⟩
  refine ⟨_, rfl, r, _, _, _, rfl, rfl, sy, at_of (j := 0) rfl rfl, rfl, _, rfl, ne_if (fun e => no (.inr e)) (fun e2 => ?_)⟩
  obtain ⟨n, rfl⟩ := kind_int e1
  obtain ⟨k, rfl⟩ := kind_int e2
  obtain ⟨p', e3, su⟩ := int_at hx
  cases e3
  obtain ⟨r', e4, sv⟩ := int_at hy
  cases e4
  have q : Gives K H (if 0 ≤ k ∧ k < n then .tuple [.str "ok", .int (k + 1)] else errP "index") Q := q
  have bad : ¬ (0 ≤ k ∧ k < n) → ∀ p, H p = none → Q (.ref p) (upd H p (.tup [.str "error", .str "index"])) := fun h p hp => by
    rw [if_neg h] at q
    obtain ⟨s1, d1⟩ := new_err (K := K) "index" hp
    exact q _ _ s1 d1
  refine ⟨_, rfl, r, _, _, _, rfl, rfl, sv, at_of (j := 1) rfl rfl, _, _, rfl, rfl, _, rfl, ite2 (fun c => iteT ⟨two_le, bad ?_⟩) (fun c => ?_)⟩
  · have c' : k < 0 := of_decide_eq_true c
    omega
  have c1 : ¬ k < 0 := of_decide_eq_false (Bool.eq_false_iff.mpr c)
  refine ⟨_, rfl, r, _, _, _, rfl, rfl, sv, at_of (j := 1) rfl rfl, _, rfl, p, _, _, _, rfl, rfl, su, at_of (j := 1) rfl rfl, _, _, rfl, rfl, _, rfl, ite2 (fun c => ⟨two_le, bad ?_⟩) (fun c => ?_)⟩
  · have c' : n ≤ k := of_decide_eq_true c
    omega
  have c2 : ¬ n ≤ k := of_decide_eq_false (Bool.eq_false_iff.mpr c)
  rw [if_pos ⟨by omega, by omega⟩] at q
  refine ⟨_, rfl, r, _, _, _, rfl, rfl, sv, at_of (j := 1) rfl rfl, _, _, rfl, rfl, two_le, fun p2 m2 => ?_⟩
  obtain ⟨s3, d3⟩ := new_one (K := K) (k := "ok") (.int (k + 1)) m2
  exact q _ _ s3 d3
theorem ok__law_due_item (T : Tx K mg) : FnOk P w K mg base CX0 1 T.d__law_due_item.f T.d__law_due_item.fd P__law_due_item (spItem K) := by
  refine T.d__law_due_item.F.ok sc__law_due_item (fun vs H Q E h => ?_) (fun cdv A outer s H vs Q E hr h => ?_)
  · obtain ⟨x, y, a, b, rfl, _⟩ := h
    rfl
  obtain ⟨x, y, a, b, rfl, hx, hy, q⟩ := h
  refine ⟨_, (pss_cons (ps_if (PW.pt (pw_or (pt_cmpR op_ne (pe_ix ix_tup (pv 0) pe_int (fun _ _ => rfl)) pe_str (nomark _)) (pw_or1 (pt_cmpR op_ne (pe_ix ix_tup (pv 1) pe_int (fun _ _ => rfl)) pe_str (nomark _)))))
      (pss_one (ps_ret (pe_tup (pa_cons pe_str (pa_cons pe_str pa_nil)))))
      pss_nil)
    (pss_cons (ps_if (pt_chain op_le op_lt pe_int (pe_ix ix_tup (pv 1) pe_int (fun _ _ => rfl)) (pe_ix ix_tup (pv 0) pe_int (fun _ _ => rfl)))
      (pss_one (ps_ret (pe_tup (pa_cons pe_str (pa_cons (pe_op op_add (pe_ix ix_tup (pv 1) pe_int (fun _ _ => rfl)) pe_int) pa_nil)))))
      pss_nil)
    (pss_one (ps_ret (pe_tup (pa_cons pe_str (pa_cons pe_str pa_nil))))))), ?_⟩
  obtain ⟨p, xs, rfl, sx, ax⟩ := vl_at hx
  obtain ⟨r, ys, rfl, sy, ay⟩ := vl_at hy
  have no : (a.kind ≠ "int" ∨ b.kind ≠ "int") → ∀ p, H p = none → Q (.ref p) (upd H p (.tup [.str "error", .str "kind"])) := fun h p hp => by
    rw [itemD_no h] at q
    obtain ⟨s1, d1⟩ := new_err (K := K) "kind" hp
    exact q _ _ s1 d1
  refine ⟨_, rfl, p, _, _, _, rfl, rfl, sx, at_of (j := 0) rfl rfl, rfl, _, rfl, ne_if (fun e => iteT ⟨two_le, no (.inl e)⟩) (fun e1 => ?_)⟩
  refine ⟨_, rfl, r, _, _, _, rfl, rfl, sy, at_of (j := 0) rfl rfl, rfl, _, rfl, ne_if (fun e => ⟨two_le, no (.inr e)⟩) (fun e2 => ?_)⟩
  obtain ⟨n, rfl⟩ := kind_int e1
  obtain ⟨k, rfl⟩ := kind_int e2
  obtain ⟨p', e3, su⟩ := int_at hx
  cases e3
  obtain ⟨r', e4, sv⟩ := int_at hy
  cases e4
  have q : Gives K H (if 0 ≤ k ∧ k < n then .tuple [.str "ok", .int (k + 1)] else errP "index") Q := q
  have bad : ¬ (0 ≤ k ∧ k < n) → ∀ p, H p = none → Q (.ref p) (upd H p (.tup [.str "error", .str "index"])) := fun h p hp => by
    rw [if_neg h] at q
    obtain ⟨s1, d1⟩ := new_err (K := K) "index" hp
    exact q _ _ s1 d1
  refine ⟨_, rfl, r, _, _, _, rfl, rfl, sv, at_of (j := 1) rfl rfl, _, _, rfl, rfl, _, rfl, ite2 (fun c => ?_) (fun c => ?_)⟩
  · have c1 : 0 ≤ k := of_decide_eq_true c
    refine ⟨_, rfl, p, _, _, _, rfl, rfl, su, at_of (j := 1) rfl rfl, _, _, rfl, rfl, _, rfl, ite2 (fun c => ?_) (fun c => ⟨two_le, bad ?_⟩)⟩
    · have c2 : k < n := of_decide_eq_true c
      rw [if_pos ⟨c1, c2⟩] at q
      refine ⟨_, rfl, r, _, _, _, rfl, rfl, sv, at_of (j := 1) rfl rfl, _, _, rfl, rfl, two_le, fun p2 m2 => ?_⟩
      obtain ⟨s3, d3⟩ := new_one (K := K) (k := "ok") (.int (k + 1)) m2
      exact q _ _ s3 d3
    · have c2 : ¬ k < n := of_decide_eq_false (Bool.eq_false_iff.mpr c)
      omega
  · have c1 : ¬ 0 ≤ k := of_decide_eq_false (Bool.eq_false_iff.mpr c)
    exact ⟨_, rfl, iteF ⟨two_le, bad (by omega)⟩⟩
theorem ok_array_size (T : Tx K mg) : FnOk P w K mg base CX0 1 T.d_array_size.f T.d_array_size.fd P_array_size (spSize K) := by
  refine T.d_array_size.F.ok sc_array_size (fun vs H Q E h => ?_) (fun cdv A outer s H vs Q E hr h => ?_)
  · obtain ⟨x, a, rfl, _⟩ := h
    rfl
  obtain ⟨x, a, rfl, hx, q⟩ := h
  refine ⟨_, (pss_cons (ps_if (pt_cmpR op_ne (pe_ix ix_tup (pv 0) pe_int (fun _ _ => rfl)) pe_str (nomark _))
      (pss_one (ps_ret (pe_glob (v := V.ref T.a_KIND) (by rfl) T.c_KIND rfl)))
      pss_nil)
    (pss_cons (ps_if (PW.pt (pw_or (pt_cmpR op_lt (pe_ix ix_tup (pv 0) pe_int (fun _ _ => rfl)) pe_int (nomark _)) (pw_or1 (pt_cmpR op_gt (pe_ix ix_tup (pv 0) pe_int (fun _ _ => rfl)) (pe_glob (v := V.int (40)) (by rfl) T.c_ITEMS ⟨_, rfl⟩) (nomark _)))))
      (pss_one (ps_ret (pe_tup (pa_cons pe_str (pa_cons pe_str pa_nil)))))
      pss_nil)
    (pss_one (ps_ret (pe_tup (pa_cons pe_str (pa_cons (pv 0) pa_nil))))))), ?_⟩
  obtain ⟨p, xs, rfl, sx, ax⟩ := vl_at hx
  refine ⟨_, rfl, p, _, _, _, rfl, rfl, sx, at_of (j := 0) rfl rfl, rfl, _, rfl, ne_if (fun e => ?_) (fun e1 => ?_)⟩
  · rw [sizeD_no e] at q
    exact q _ _ (Same.refl H) (kind_dp T H)
  obtain ⟨n, rfl⟩ := kind_int e1
  obtain ⟨p', e3, su⟩ := int_at hx
  cases e3
  have q : Gives K H (if 0 ≤ n ∧ n ≤ 40 then .tuple [.str "ok", (Vl.int n).d] else errP "size") Q := q
  have bad : ¬ (0 ≤ n ∧ n ≤ 40) → ∀ p, H p = none → Q (.ref p) (upd H p (.tup [.str "error", .str "size"])) := fun h p hp => by
    rw [if_neg h] at q
    obtain ⟨s1, d1⟩ := new_err (K := K) "size" hp
    exact q _ _ s1 d1
  refine ⟨_, rfl, p, _, _, _, rfl, rfl, su, at_of (j := 1) rfl rfl, _, _, rfl, rfl, _, rfl, ite2 (fun c => iteT ⟨two_le, bad ?_⟩) (fun c => ?_)⟩
  · have c' : n < 0 := of_decide_eq_true c
    omega
  have c1 : ¬ n < 0 := of_decide_eq_false (Bool.eq_false_iff.mpr c)
  refine ⟨_, rfl, p, _, _, _, rfl, rfl, su, at_of (j := 1) rfl rfl, _, _, rfl, rfl, _, rfl, ite2 (fun c => ⟨two_le, bad ?_⟩) (fun c => ?_)⟩
  · have c' : 40 < n := of_decide_eq_true c
    omega
  have c2 : ¬ 40 < n := of_decide_eq_false (Bool.eq_false_iff.mpr c)
  rw [if_pos ⟨by omega, by omega⟩] at q
  refine ⟨_, rfl, two_le, fun p2 m2 => ?_⟩
  have s3 := same_new m2 (.tup [.str "ok", .ref p])
  exact q _ _ s3 (dp_two upd_same (dp_same s3 hx))
theorem ok__law_due_size (T : Tx K mg) : FnOk P w K mg base CX0 1 T.d__law_due_size.f T.d__law_due_size.fd P__law_due_size (spSize K) := by
  refine T.d__law_due_size.F.ok sc__law_due_size (fun vs H Q E h => ?_) (fun cdv A outer s H vs Q E hr h => ?_)
  · obtain ⟨x, a, rfl, _⟩ := h
    rfl
  obtain ⟨x, a, rfl, hx, q⟩ := h
  refine ⟨_, (pss_cons (ps_if (pt_cmpR op_ne (pe_ix ix_tup (pv 0) pe_int (fun _ _ => rfl)) pe_str (nomark _))
      (pss_one (ps_ret (pe_tup (pa_cons pe_str (pa_cons pe_str pa_nil)))))
      pss_nil)
    (pss_cons (ps_if (pt_chain op_le op_le pe_int (pe_ix ix_tup (pv 0) pe_int (fun _ _ => rfl)) pe_int)
      (pss_one (ps_ret (pe_tup (pa_cons pe_str (pa_cons (pv 0) pa_nil)))))
      pss_nil)
    (pss_one (ps_ret (pe_tup (pa_cons pe_str (pa_cons pe_str pa_nil))))))), ?_⟩
  obtain ⟨p, xs, rfl, sx, ax⟩ := vl_at hx
  refine ⟨_, rfl, p, _, _, _, rfl, rfl, sx, at_of (j := 0) rfl rfl, rfl, _, rfl, ne_if (fun e => ?_) (fun e1 => ?_)⟩
  · rw [sizeD_no e] at q
    refine ⟨two_le, fun p hp => ?_⟩
    obtain ⟨s1, d1⟩ := new_err (K := K) "kind" hp
    exact q _ _ s1 d1
  obtain ⟨n, rfl⟩ := kind_int e1
  obtain ⟨p', e3, su⟩ := int_at hx
  cases e3
  have q : Gives K H (if 0 ≤ n ∧ n ≤ 40 then .tuple [.str "ok", (Vl.int n).d] else errP "size") Q := q
  have bad : ¬ (0 ≤ n ∧ n ≤ 40) → ∀ p, H p = none → Q (.ref p) (upd H p (.tup [.str "error", .str "size"])) := fun h p hp => by
    rw [if_neg h] at q
    obtain ⟨s1, d1⟩ := new_err (K := K) "size" hp
    exact q _ _ s1 d1
  refine ⟨_, rfl, p, _, _, _, rfl, rfl, su, at_of (j := 1) rfl rfl, _, _, rfl, rfl, _, rfl, ite2 (fun c => ?_) (fun c => ?_)⟩
  · have c1 : 0 ≤ n := of_decide_eq_true c
    refine ⟨_, _, rfl, rfl, _, rfl, ite2 (fun c => ?_) (fun c => ⟨two_le, bad ?_⟩)⟩
    · have c2 : n ≤ 40 := of_decide_eq_true c
      rw [if_pos ⟨c1, c2⟩] at q
      refine ⟨_, rfl, two_le, fun p2 m2 => ?_⟩
      have s3 := same_new m2 (.tup [.str "ok", .ref p])
      exact q _ _ s3 (dp_two upd_same (dp_same s3 hx))
    · have c2 : ¬ n ≤ 40 := of_decide_eq_false (Bool.eq_false_iff.mpr c)
      omega
  · have c1 : ¬ 0 ≤ n := of_decide_eq_false (Bool.eq_false_iff.mpr c)
    exact ⟨_, rfl, iteF ⟨two_le, bad (by omega)⟩⟩
/-! ### names and records, drawn -/
theorem RecsOf.snoc {K : PySem.W.Frag} {H : Hp} {vs : List V} {rs : List Rec} {v : V} {r : Rec} (h : RecsOf K H vs rs) (g : RecAt K H v r) : RecsOf K H (vs ++ [v]) (rs ++ [r]) := by
  obtain ⟨hl, hg⟩ := h
  refine ⟨by rw [List.length_append, List.length_append, hl]; rfl, fun i r' e => ?_⟩
  by_cases hi : i < rs.length
  · rw [List.getElem?_append_left hi] at e
    obtain ⟨v', h1, h2⟩ := hg i r' e
    exact ⟨v', by rw [List.getElem?_append_left (by omega)]; exact h1, h2⟩
  · have hi2 : i = rs.length := by
      have := (List.getElem?_eq_some_iff.mp e).1
      rw [List.length_append, List.length_singleton] at this
      omega
    subst hi2
    rw [List.getElem?_append_right (Nat.le_refl _), Nat.sub_self] at e
    have e' := Option.some.inj e
    subst e'
    exact ⟨v, by rw [← hl, List.getElem?_append_right (Nat.le_refl _), Nat.sub_self]; rfl, g⟩
theorem cst_at {S : Str} {n : Nat} (hl : S.length = n) (hk : txtOk S) {i : Int} (h0 : 0 ≤ i) (h1 : i < (n : Int)) : ∃ c, atI S.cps.toList i = some c ∧ c < 1114112 := by
  have hl' := len_cps S
  rw [hl] at hl'
  have hi : i.toNat < S.cps.toList.length := by omega
  exact ⟨_, at_str (by omega) (List.getElem?_eq_getElem hi), hk _ (List.getElem_mem hi)⟩
theorem cst_ok {S : Str} (h : (S.cps.toList.all fun c => decide (c < 1114112)) = true) : txtOk S := fun c hc => of_decide_eq_true (List.all_eq_true.mp h c hc)
def spName : Sp := fun vs H Q _ => ∃ (c k : Int), vs = [.int c, .int k] ∧ c.natAbs < 1000000 ∧ k.natAbs < 1000000 ∧ ∀ z : Str, z.length ≤ 1000 → txtOk z → Q (.str z) H
theorem ok__law_name (T : Tx K mg) : FnOk P w K mg base CX0 1 T.d__law_name.f T.d__law_name.fd P__law_name spName := by
  refine T.d__law_name.F.ok sc__law_name (fun vs H Q E h => ?_) (fun cdv A outer s H vs Q E hr h => ?_)
  · obtain ⟨c, k, rfl, _⟩ := h
    rfl
  obtain ⟨c, k, rfl, hc, hk, q⟩ := h
  have big : 1000 ≤ sizeLine := by decide
  refine ⟨_, (pss_cons (ps_set (i := 2) sc__law_name.nd rfl (Or.inl rfl) pe_str)
    (pss_one (ps_ret (pe_op op_add_str (pe_op op_add_str pe_str (pe_ix ix_str (pv 2) (pe_op op_mod (pe_callTy call_int1 (by rfl) T.z_int (by decide +kernel) (pa_cons (pe_op op_add (pv 0) (pe_op op_mulX pe_int (pv 1))) pa_nil)) pe_int) (fun _ _ => rfl))) pe_str)))), ?_⟩
  obtain ⟨sg, ha, lg⟩ := cst_at (S := "abcdefghijklmnopqrstuvwxyz") (n := 26) (by decide +kernel) (cst_ok (by decide +kernel)) (Int.emod_nonneg (c + 5 * k) (by decide : (26 : Int) ≠ 0)) (Int.emod_lt_of_pos (c + 5 * k) (by decide : (0 : Int) < 26))
  have l1 : (⟨#[sg]⟩ : Str).length = 1 := rfl
  have lf : (Str.ofString "f").length = 1 := by decide +kernel
  have ld : (Str.ofString "d").length = 1 := by decide +kernel
  have la := PySem.Str.length_append (Str.ofString "f") ⟨#[sg]⟩
  have lb := PySem.Str.length_append (Str.ofString "f" ++ ⟨#[sg]⟩) (Str.ofString "d")
  refine ⟨_, rfl, _, rfl, _, rfl, _, _, rfl, rfl, mulX_small (by decide) (by omega), _, _, rfl, rfl, .inl ⟨_, rfl, _, _, rfl, rfl, (by show (0 : Int) < 26; decide), _, _, sg, rfl, rfl, (by decide +kernel), ha, _, _, rfl, rfl, by omega, _, _, rfl, rfl, by omega, ?_⟩⟩
  exact q _ (by omega) (txtOk_app (txtOk_app (cst_ok (by decide +kernel)) (txtOk_one lg)) (cst_ok (by decide +kernel)))
def spRecords (K : PySem.W.Frag) : Sp := fun vs H Q _ => ∃ (p l : Addr) (c : Int), vs = [.ref p, .int c] ∧ c.natAbs < 1000 ∧ BoxAt H p l ∧ ∀ (t : Addr) (rs : List Rec) (H' : Hp), RecsAt K H' t rs → rs.length ≤ 5 → BoxAt H' p l → KeepT H H' → Q (.ref t) H'
theorem BoxAt.updL {H : Hp} {p l L : Addr} {o : HO} (B : BoxAt H p l) (h : L ≠ p) (h' : L ≠ l) : BoxAt (upd H L o) p l := by
  obtain ⟨⟨k, h0, h1⟩, ⟨ds, h2⟩, n⟩ := B
  exact ⟨⟨k, h0, by rw [upd_ne h.symm]; exact h1⟩, ⟨ds, by rw [upd_ne h'.symm]; exact h2⟩, n⟩
theorem ok__law_records (T : Tx K mg) : FnOk P w K mg base CX0 2 T.d__law_records.f T.d__law_records.fd P__law_records (spRecords K) := by
  have G__law_draw := ok__law_draw (P := P) (w := w) (base := base) T
  have G__law_name := ok__law_name (P := P) (w := w) (base := base) T
  refine T.d__law_records.F.ok sc__law_records (fun vs H Q E h => ?_) (fun cdv A outer s H vs Q E hr h => ?_)
  · obtain ⟨p, l, c, rfl, _⟩ := h
    rfl
  obtain ⟨p, l, c, rfl, hc, B, q⟩ := h
  refine ⟨_, (pss_cons (ps_set (i := 2) sc__law_records.nd rfl (Or.inl rfl) (pe_lst pa_nil))
    (pss_cons (ps_for PassesOwn.never rfl (pi_range1 (by rfl) T.z_range (pa_cons (pe_call G__law_draw (hr.mono (by omega)) (by rfl) T.d__law_draw.m T.d__law_draw.F.kp T.d__law_draw.b .nil pass0 (pa_cons (pv 0) (pa_cons pe_int pa_nil))) pa_nil)) (pg_name (i := 3) sc__law_records.nd rfl (Or.inl rfl))
      (pss_cons (ps_set (i := 4) sc__law_records.nd rfl (Or.inl rfl) (pe_tupF pa_nil))
    (pss_cons (ps_for PassesOwn.never rfl (pi_range1 (by rfl) T.z_range (pa_cons pe_int pa_nil)) (pg_name (i := 5) sc__law_records.nd rfl (Or.inl rfl))
      (pss_one (ps_if (PW.pt (pw_and (pt_cmpR op_lt (pe_callB call_len_seq (by rfl) T.z_len PySem.boot_len (pa_cons (pv 4) pa_nil)) pe_int (nomark _)) (pw_and1 (pt_cmpR op_eq (pe_call G__law_draw (hr.mono (by omega)) (by rfl) T.d__law_draw.m T.d__law_draw.F.kp T.d__law_draw.b .nil pass0 (pa_cons (pv 0) (pa_cons pe_int pa_nil))) pe_int (nomark _)))))
      (pss_one (ps_set (i := 4) sc__law_records.nd rfl (Or.inl rfl) (pe_op op_catE (pv 4) (pe_tupF (pa_cons (pe_call G__law_name (hr.mono (by omega)) (by rfl) T.d__law_name.m T.d__law_name.F.kp T.d__law_name.b .nil pass0 (pa_cons (pv 1) (pa_cons (pe_op op_mod (pe_callTy call_int1 (by rfl) T.z_int (by decide +kernel) (pa_cons (pe_op op_add (pv 5) (pe_op op_mulX pe_int (pv 3))) pa_nil)) pe_int) pa_nil))) pa_nil)))))
      pss_nil)))
    (pss_one (ps_expr (pe_bm PySem.F.plainAttrs_list PySem.F.slot_list_append PySem.F.type_list_append mt_append (pv 2) (pa_cons (pe_tupF (pa_cons (pe_call G__law_name (hr.mono (by omega)) (by rfl) T.d__law_name.m T.d__law_name.F.kp T.d__law_name.b .nil pass0 (pa_cons (pv 1) (pa_cons (pe_op op_add pe_int (pv 3)) pa_nil))) (pa_cons (pv 4) pa_nil))) pa_nil)))))))
    (pss_one (ps_ret (pe_callTy call_tuple_of (by rfl) T.z_tuple (by decide +kernel) (pa_cons (pv 2) pa_nil)))))), ?_⟩
  refine ⟨(by show 0 ≤ sizeLine; decide), fun L nL => ?_⟩
  have s0 := same_new nL (.lst [])
  have Lp : L ≠ p := by
    obtain ⟨⟨k, _, hp⟩, _, _⟩ := B
    exact (ne_of_none hp nL).symm
  have Ll : L ≠ l := by
    obtain ⟨_, ⟨ds, hl⟩, _⟩ := B
    exact (ne_of_none hl nL).symm
  refine ⟨_, rfl, p, l, _, rfl, by decide, B.same s0, fun m H1 m0 m1 B1 k1 => ?_⟩
  have hL1 : H1 L = some (.lst []) := k1 _ _ upd_same Lp
  have K1 : KeepT H H1 := (KeepT.same s0).trans (KeepT.keep (B.same s0).lst k1)
  refine ⟨m, rfl, by omega, by omega, for_range (lo := 0) (n := m.toNat) (fun i σ H2 => ∃ (vs : List V) (rs : List Rec) (v3 v4 v5 : Option V), σ = [some (.ref p), some (.int c), some (.ref L), v3, v4, v5] ∧ H2 L = some (.lst vs) ∧ RecsOf K H2 vs rs ∧ rs.length = i ∧ BoxAt H2 p l ∧ KeepT H H2)
    ⟨[], [], none, none, none, rfl, hL1, ⟨rfl, fun i r e => by simp at e⟩, rfl, B1, K1⟩ ?_ ?_⟩
  · rintro i σ H2 hi ⟨vs, rs, v3, v4, v5, rfl, hL, hR, rl, B2, k2⟩
    have hvl : vs.length = i := by rw [hR.1, rl]
    refine ⟨(by show 0 ≤ sizeLine; decide), fun f0 o0 n0 t0 => ?_⟩
    have s3 := same_new n0 (.frz o0 (.tup []))
    refine ⟨8, rfl, by decide, by decide, for_range (lo := 0) (n := 8) (fun j σ H3 => ∃ (f : Addr) (fs : List Str) (v5 : Option V), σ = [some (.ref p), some (.int c), some (.ref L), some (.int (0 + (i : Int))), some (.ref f), v5] ∧ FldAt H3 f fs ∧ fs.length ≤ j ∧ H3 L = some (.lst vs) ∧ RecsOf K H3 vs rs ∧ BoxAt H3 p l ∧ KeepT H H3)
      ⟨f0, [], _, rfl, ⟨o0, upd_same, t0⟩, Nat.le_refl 0, s3 _ _ hL, hR.keep (KeepT.same s3), B2.same s3, k2.trans (KeepT.same s3)⟩ ?_ ?_⟩
    · rintro j σ H3 hj ⟨f, fs, v5, rfl, fa, fl, hL, hR, B3, k3⟩
      refine ⟨_, rfl, f, _, rfl, .inr fa.sq, _, _, rfl, rfl, _, rfl, ite2 (fun _ => ?_) (fun _ => iteF ?_)⟩
      · refine ⟨_, rfl, p, l, _, rfl, by decide, B3, fun d H4 _ _ B4 k4 => ⟨rfl, _, rfl, ite2 (fun _ => ?_) (fun _ => ?_)⟩⟩
        · have K4 := KeepT.keep B3.lst k4
          have fa := fa.keep K4
          have hL := k4 _ _ hL Lp
          have hR := hR.keep K4
          have k4 := k3.trans K4
          refine ⟨_, rfl, _, rfl, _, rfl, _, rfl, _, _, rfl, rfl, mulX_small (by decide) (by omega), _, _, rfl, rfl, .inl ⟨_, rfl, _, _, rfl, rfl, (by show (0 : Int) < 8; decide), _, _, rfl, by omega, ?_, fun z zl zk => ⟨one_le, fun r o nr to => ?_⟩⟩⟩
          · have h1 := Int.emod_nonneg (0 + (j : Int) + 3 * (0 + (i : Int))) (by decide : (8 : Int) ≠ 0)
            have h2 := Int.emod_lt_of_pos (0 + (j : Int) + 3 * (0 + (i : Int))) (by decide : (0 : Int) < 8)
            omega
          have s5 := same_new nr (.frz o (.tup [.str z]))
          have fr : FldAt (upd H4 r (.frz o (.tup [.str z]))) r [z] := ⟨o, upd_same, to⟩
          have fa5 := fa.keep (KeepT.same s5)
          by_cases he : fs = []
          · subst he
            refine .inl ⟨f, r, _, rfl, rfl, fa5.sq, fr.sq, one_le, ?_⟩
            exact ⟨r, [z], _, rfl, fr, by simp, s5 _ _ hL, hR.keep (KeepT.same s5), B4.same s5, k4.trans (KeepT.same s5)⟩
          · refine .inr ⟨f, r, _, _, rfl, rfl, fa5.sq, fr.sq, (by rw [List.length_map]; exact Nat.le_of_lt (lines (by simp; omega))), (by simpa using he), by simp, fun u o2 nu to2 => ?_⟩
            have s6 := s5.trans (same_new nu (.frz o2 (.tup (fs.map V.str ++ [z].map V.str))))
            exact ⟨u, fs ++ [z], _, rfl, ⟨o2, by rw [upd_same, List.map_append], to2⟩, by rw [List.length_append, List.length_singleton]; omega, s6 _ _ hL, hR.keep (KeepT.same s6), B4.same s6, k4.trans (KeepT.same s6)⟩
        · have K4 := KeepT.keep B3.lst k4
          exact ⟨f, fs, _, rfl, fa.keep K4, by omega, k4 _ _ hL Lp, hR.keep K4, B4, k3.trans K4⟩
      · exact ⟨f, fs, _, rfl, fa, by omega, hL, hR, B3, k3⟩
    · rintro σ H3 ⟨f, fs, v5, rfl, fa, fl, hL, hR, B3, k3⟩
      refine ⟨_, rfl, .inl ⟨rfl, _, SqL.of hL⟩, _, rfl, _, rfl, _, _, rfl, rfl, _, _, rfl, by omega, by omega, fun z zl zk => ⟨_, rfl, two_le, fun a o na to => ?_⟩⟩
      have s4 := same_new na (.frz o (.tup [.str z, .ref f]))
      have hL4 := s4 _ _ hL
      have K5 : KeepT H3 (upd (upd H3 a (.frz o (.tup [.str z, .ref f]))) L (.lst (vs ++ [.ref a]))) := (KeepT.same s4).trans (KeepT.updL ⟨_, hL4⟩)
      have aL : a ≠ L := (ne_of_none hL na).symm
      have ga : RecAt K (upd (upd H3 a (.frz o (.tup [.str z, .ref f]))) L (.lst (vs ++ [.ref a]))) (.ref a) (z, fs) := ⟨a, f, rfl, .inl (.inr ⟨o, by rw [upd_ne aL]; exact upd_same⟩), fa.keep K5, fl, zl, zk⟩
      refine ⟨L, _, _, rfl, rfl, hL4, lines (by omega), ?_⟩
      exact ⟨vs ++ [.ref a], rs ++ [(z, fs)], _, _, _, rfl, upd_same, (hR.keep K5).snoc ga, by rw [List.length_append, rl]; rfl, (B3.same s4).updL Lp Ll, k3.trans K5⟩
  · rintro σ H2 ⟨vs, rs, v3, v4, v5, rfl, hL, hR, rl, B2, k2⟩
    refine ⟨_, rfl, L, _, rfl, .inl ⟨SqL.of hL, fun t nt => ?_⟩⟩
    have s3 := same_new nt (.tup vs)
    exact q t rs _ ⟨vs, SqT.of upd_same, hR.keep (KeepT.same s3)⟩ (by omega) (B2.same s3) (k2.trans (KeepT.same s3))
/-! ### the law -/
/-- values, each a datum -/
inductive NumsAt (K : PySem.W.Frag) (H : Hp) : List V → Prop
  | nil : NumsAt K H []
  | cons {v : V} {vs : List V} (h : ∃ b : Vl, Dp K H v b.d ∧ okD 6 b.d = true) (t : NumsAt K H vs) : NumsAt K H (v :: vs)
theorem NumsAt.keep {K : PySem.W.Frag} {H H' : Hp} (k : KeepT H H') : ∀ {vs : List V}, NumsAt K H vs → NumsAt K H' vs
  | _, .nil => .nil
  | _, .cons ⟨b, h, o⟩ t => .cons ⟨b, dp_keepT k 6 _ _ o h, o⟩ (NumsAt.keep k t)
theorem NumsAt.snoc {K : PySem.W.Frag} {H : Hp} {v : V} (h : ∃ b : Vl, Dp K H v b.d ∧ okD 6 b.d = true) : ∀ {vs : List V}, NumsAt K H vs → NumsAt K H (vs ++ [v])
  | _, .nil => .cons h .nil
  | _, .cons g t => .cons g (NumsAt.snoc h t)
theorem NumsAt.get {K : PySem.W.Frag} {H : Hp} : ∀ {vs : List V} {i : Nat} {v : V}, NumsAt K H vs → vs[i]? = some v → ∃ b : Vl, Dp K H v b.d ∧ okD 6 b.d = true
  | _, 0, _, .cons g _, e => by
    have e' := Option.some.inj e
    subst e'
    exact g
  | _, i + 1, _, .cons _ t, e => NumsAt.get (i := i) t (by simpa using e)
  | _, _, _, .nil, e => by simp at e
theorem ok_law (T : Tx K mg) : FnOk P w K mg base CX0 7 T.d_law.f T.d_law.fd P_law (spLaw K) := by
  have G__law_digits := ok__law_digits (P := P) (w := w) (base := base) T
  have G__law_draw := ok__law_draw (P := P) (w := w) (base := base) T
  have G__law_value := ok__law_value (P := P) (w := w) (base := base) T
  have G__law_name := ok__law_name (P := P) (w := w) (base := base) T
  have G__law_records := ok__law_records (P := P) (w := w) (base := base) T
  have G__law_same := ok__law_same (P := P) (w := w) (base := base) T 6
  have G_field_cell := ok_field_cell (P := P) (w := w) (base := base) T
  have G__law_due_field := ok__law_due_field (P := P) (w := w) (base := base) T
  have G_item_cell := ok_item_cell (P := P) (w := w) (base := base) T
  have G__law_due_item := ok__law_due_item (P := P) (w := w) (base := base) T
  have G_array_size := ok_array_size (P := P) (w := w) (base := base) T
  have G__law_due_size := ok__law_due_size (P := P) (w := w) (base := base) T
  refine T.d_law.F.ok sc_law (fun vs H Q E h => ?_) (fun cdv A outer s H vs Q E hr h => ?_)
  · obtain ⟨a, ns, rfl, _⟩ := h
    rfl
  obtain ⟨a, ns, rfl, hS, h63, hb, q⟩ := h
  refine ⟨_, (pss_cons (ps_set (i := 1) sc_law.nd rfl (Or.inl rfl) (pe_lst (pa_cons (pe_call G__law_digits (hr.mono (by omega)) (by rfl) T.d__law_digits.m T.d__law_digits.F.kp T.d__law_digits.b .nil pass0 (pa_cons (pv 0) (pa_cons pe_int (pa_cons pe_int pa_nil)))) (pa_cons pe_int pa_nil))))
    (pss_cons (ps_set (i := 2) sc_law.nd rfl (Or.inl rfl) (pe_call G__law_draw (hr.mono (by omega)) (by rfl) T.d__law_draw.m T.d__law_draw.F.kp T.d__law_draw.b .nil pass0 (pa_cons (pv 1) (pa_cons pe_int pa_nil))))
    (pss_cons (ps_set (i := 3) sc_law.nd rfl (Or.inl rfl) (pe_call G__law_records (hr.mono (by omega)) (by rfl) T.d__law_records.m T.d__law_records.F.kp T.d__law_records.b .nil pass0 (pa_cons (pv 1) (pa_cons (pv 2) pa_nil))))
    (pss_cons (ps_for PassesOwn.never rfl (pi_range1 (by rfl) T.z_range (pa_cons pe_int pa_nil)) (pg_name (i := 4) sc_law.nd rfl (Or.inl rfl))
      (pss_cons (ps_set (i := 5) sc_law.nd rfl (Or.inl rfl) (pe_call G__law_value (hr.mono (by omega)) (by rfl) T.d__law_value.m T.d__law_value.F.kp T.d__law_value.b .nil pass0 (pa_cons (pv 1) pa_nil)))
    (pss_cons (ps_set (i := 6) sc_law.nd rfl (Or.inl rfl) (pe_call G__law_draw (hr.mono (by omega)) (by rfl) T.d__law_draw.m T.d__law_draw.F.kp T.d__law_draw.b .nil pass0 (pa_cons (pv 1) (pa_cons pe_int pa_nil))))
    (C8.pss_cut (ps_if (pt_cmpR op_eq (pv 6) pe_int (nomark _))
      (pss_one (ps_set (i := 5) sc_law.nd rfl (Or.inl rfl) (pe_tup (pa_cons pe_str (pa_cons (pe_call G__law_name (hr.mono (by omega)) (by rfl) T.d__law_name.m T.d__law_name.F.kp T.d__law_name.b .nil pass0 (pa_cons (pv 2) (pa_cons (pe_op op_add pe_int (pe_call G__law_draw (hr.mono (by omega)) (by rfl) T.d__law_draw.m T.d__law_draw.F.kp T.d__law_draw.b .nil pass0 (pa_cons (pv 1) (pa_cons pe_int pa_nil)))) pa_nil))) pa_nil)))))
      pss_nil)
    (C8.pss_cut (ps_if (pt_cmpR op_eq (pv 6) pe_int (nomark _))
      (pss_one (ps_set (i := 5) sc_law.nd rfl (Or.inl rfl) (pe_tup (pa_cons pe_str (pa_cons (pe_op op_sub (pe_call G__law_draw (hr.mono (by omega)) (by rfl) T.d__law_draw.m T.d__law_draw.F.kp T.d__law_draw.b .nil pass0 (pa_cons (pv 1) (pa_cons pe_int pa_nil))) pe_int) pa_nil)))))
      pss_nil)
    (pss_cons (ps_for PassesOwn.never rfl (pi_range1 (by rfl) T.z_range (pa_cons pe_int pa_nil)) (pg_name (i := 7) sc_law.nd rfl (Or.inl rfl))
      (pss_cons (ps_set (i := 8) sc_law.nd rfl (Or.inl rfl) (pe_call G__law_name (hr.mono (by omega)) (by rfl) T.d__law_name.m T.d__law_name.F.kp T.d__law_name.b .nil pass0 (pa_cons (pv 2) (pa_cons (pv 7) pa_nil))))
    (pss_one (ps_if (pt_not (pt_val (pe_call G__law_same (hr.mono (by omega)) (by rfl) T.d__law_same.m T.d__law_same.F.kp T.d__law_same.b .nil pass0 (pa_cons (pe_call G_field_cell (hr.mono (by omega)) (by rfl) T.d_field_cell.m T.d_field_cell.F.kp T.d_field_cell.b .nil pass0 (pa_cons (pv 3) (pa_cons (pv 5) (pa_cons (pv 8) pa_nil)))) (pa_cons (pe_call G__law_due_field (hr.mono (by omega)) (by rfl) T.d__law_due_field.m T.d__law_due_field.F.kp T.d__law_due_field.b .nil pass0 (pa_cons (pv 3) (pa_cons (pv 5) (pa_cons (pv 8) pa_nil)))) pa_nil)))))
      (pss_one (ps_ret pe_bl))
      pss_nil))))
    (pss_cons (ps_set (i := 9) sc_law.nd rfl (Or.inl rfl) (pe_lst (pa_cons (pe_call G__law_value (hr.mono (by omega)) (by rfl) T.d__law_value.m T.d__law_value.F.kp T.d__law_value.b .nil pass0 (pa_cons (pv 1) pa_nil)) (pa_cons (pe_tup (pa_cons pe_str (pa_cons (pe_un un_neg pe_int) pa_nil))) (pa_cons (pe_tup (pa_cons pe_str (pa_cons pe_int pa_nil))) (pa_cons (pv 5) pa_nil))))))
    (C8.pss_cut (ps_if (pt_cmpR op_eq (pe_ix ix_tup (pv 5) pe_int (fun _ _ => rfl)) pe_str (nomark _))
      (pss_one (ps_expr (pe_bm PySem.F.plainAttrs_list PySem.F.slot_list_append PySem.F.type_list_append mt_append (pv 9) (pa_cons (pe_tup (pa_cons pe_str (pa_cons (pe_op op_sub (pe_ix ix_tup (pv 5) pe_int (fun _ _ => rfl)) pe_int) pa_nil))) pa_nil))))
      pss_nil)
    (pss_cons (ps_for PassesOwn.never rfl (pi_list (pv 9)) (pg_name (i := 10) sc_law.nd rfl (Or.inl rfl))
      (pss_one (ps_if (pt_not (pt_val (pe_call G__law_same (hr.mono (by omega)) (by rfl) T.d__law_same.m T.d__law_same.F.kp T.d__law_same.b .nil pass0 (pa_cons (pe_call G_item_cell (hr.mono (by omega)) (by rfl) T.d_item_cell.m T.d_item_cell.F.kp T.d_item_cell.b .nil pass0 (pa_cons (pv 5) (pa_cons (pv 10) pa_nil))) (pa_cons (pe_call G__law_due_item (hr.mono (by omega)) (by rfl) T.d__law_due_item.m T.d__law_due_item.F.kp T.d__law_due_item.b .nil pass0 (pa_cons (pv 5) (pa_cons (pv 10) pa_nil))) pa_nil)))))
      (pss_one (ps_ret pe_bl))
      pss_nil)))
    (pss_one (ps_if (pt_not (pt_val (pe_call G__law_same (hr.mono (by omega)) (by rfl) T.d__law_same.m T.d__law_same.F.kp T.d__law_same.b .nil pass0 (pa_cons (pe_call G_array_size (hr.mono (by omega)) (by rfl) T.d_array_size.m T.d_array_size.F.kp T.d_array_size.b .nil pass0 (pa_cons (pv 5) pa_nil)) (pa_cons (pe_call G__law_due_size (hr.mono (by omega)) (by rfl) T.d__law_due_size.m T.d__law_due_size.F.kp T.d__law_due_size.b .nil pass0 (pa_cons (pv 5) pa_nil)) pa_nil)))))
      (pss_one (ps_ret pe_bl))
      pss_nil)))))))))))
    (pss_one (ps_ret pe_bl)))))), ?_⟩
  refine ⟨_, rfl, a, ns, rfl, hS, h63, hb, fun l ds H1 n1 h1 s1 => ⟨two_le, fun p hp => ?_⟩⟩
  have B0 : BoxAt (upd H1 p (.lst [.ref l, .int 0])) p l := ⟨⟨0, Int.le_refl 0, upd_same⟩, ⟨ds, by rw [upd_ne (ne_of_none h1 hp)]; exact h1⟩, ne_of_none h1 hp⟩
  refine ⟨_, rfl, p, l, _, rfl, by decide, B0, fun cl H2 c0 c1 B1 k1 => ?_⟩
  refine ⟨_, rfl, _, rfl, p, l, cl, rfl, by omega, B1, fun t rs H3 hR rl B2 k2 => ?_⟩
  refine ⟨12, rfl, by decide, by decide, for_range (lo := 0) (n := 12) (fun i σ H4 => ∃ (v4 v5 v6 v7 v8 v9 v10 : Option V), σ = [some (.ref a), some (.ref p), some (.int cl), some (.ref t), v4, v5, v6, v7, v8, v9, v10] ∧ RecsAt K H4 t rs ∧ BoxAt H4 p l)
    ⟨none, none, none, none, none, none, none, rfl, hR, B2⟩ ?_ ?_⟩
  · rintro i σ H4 hi ⟨v4, v5, v6, v7, v8, v9, v10, rfl, hR, B⟩
    refine ⟨_, rfl, p, l, rfl, B, fun x b H5 hx gb B5 k5 => ?_⟩
    have hR := hR.keep (KeepT.keep B.lst k5)
    refine ⟨_, rfl, p, l, _, rfl, by decide, B5, fun kd H6 _ _ B6 k6 => ?_⟩
    have hR := hR.keep (KeepT.keep B5.lst k6)
    have hx := dp_keepT (KeepT.keep B5.lst k6) 6 _ _ gb.dk hx
    -- if kind == 0: held = ('text', _law_name(..))
    refine ⟨fun σ H7 => ∃ (x : V) (b : Vl) (v4 : Option V), σ = [some (.ref a), some (.ref p), some (.int cl), some (.ref t), v4, some x, some (.int kd), v7, v8, v9, v10] ∧ Dp K H7 x b.d ∧ Good b ∧ RecsAt K H7 t rs ∧ BoxAt H7 p l, ?_, ?_⟩
    · refine ⟨_, rfl, rfl, _, rfl, ite2 (fun _ => ?_) (fun _ => ?_)⟩
      · refine ⟨_, rfl, _, rfl, p, l, _, rfl, by decide, B6, fun dd H7 d0 d1 B7 k7 => ?_⟩
        have hR := hR.keep (KeepT.keep B6.lst k7)
        refine ⟨_, _, rfl, rfl, cl, _, rfl, by omega, by omega, fun z zl zk => ⟨two_le, fun r nr => ?_⟩⟩
        have s8 := same_new nr (.tup [.str "text", .str z])
        exact ⟨_, .txt z, _, rfl, dp_two upd_same (.str z), good_txt zl zk, hR.keep (KeepT.same s8), B7.same s8⟩
      · exact ⟨x, b, _, rfl, hx, gb, hR, B6⟩
    rintro σ H7 ⟨x, b, v4, rfl, hx, gb, hR, B7⟩
    -- if kind == 1: held = ('int', _law_draw(box, 43) - 1)
    refine ⟨fun σ H7 => ∃ (x : V) (b : Vl) (v4 : Option V), σ = [some (.ref a), some (.ref p), some (.int cl), some (.ref t), v4, some x, some (.int kd), v7, v8, v9, v10] ∧ Dp K H7 x b.d ∧ Good b ∧ RecsAt K H7 t rs ∧ BoxAt H7 p l, ?_, ?_⟩
    · refine ⟨_, rfl, rfl, _, rfl, ite2 (fun _ => ?_) (fun _ => ?_)⟩
      · refine ⟨_, rfl, p, l, _, rfl, by decide, B7, fun dd H8 d0 d1 B8 k8 => ?_⟩
        have hR := hR.keep (KeepT.keep B7.lst k8)
        refine ⟨_, _, rfl, rfl, two_le, fun r nr => ?_⟩
        have s8 := same_new nr (.tup [.str "int", .int (dd - 1)])
        exact ⟨_, .int (dd - 1), _, rfl, dp_two upd_same (.int _), good_int (by omega), hR.keep (KeepT.same s8), B8.same s8⟩
      · exact ⟨x, b, _, rfl, hx, gb, hR, B7⟩
    rintro σ H8 ⟨x, b, v4, rfl, hx, gb, hR, B8⟩
    -- for n in range(8)
    refine ⟨8, rfl, by decide, by decide, for_range (lo := 0) (n := 8) (fun j σ H9 => (∃ (v7 v8 : Option V), σ = [some (.ref a), some (.ref p), some (.int cl), some (.ref t), v4, some x, some (.int kd), v7, v8, v9, v10]) ∧ Same H8 H9)
      ⟨⟨_, _, rfl⟩, Same.refl _⟩ ?_ ?_⟩
    · rintro j σ H9 hj ⟨⟨v7, v8, rfl⟩, s9⟩
      refine ⟨_, rfl, _, rfl, cl, _, rfl, by omega, by omega, fun z zl zk => ?_⟩
      refine ⟨_, rfl, _, rfl, _, rfl, t, x, z, rs, b, rfl, hR.keep (KeepT.same s9), by omega, dp_same s9 hx, gb, fun u1 H10 s10 d10 => ?_⟩
      have s11 := s9.trans s10
      refine ⟨_, rfl, _, rfl, _, rfl, t, x, z, rs, b, rfl, hR.keep (KeepT.same s11), by omega, dp_same s11 hx, gb, fun u2 H11 s12 d12 => ?_⟩
      refine ⟨_, _, _, _, 6, rfl, dp_same s12 d10, d12, okD_field _ _ _, okD_field _ _ _, _, rfl, ifF (by rw [same_refl 6 _ (okD_field _ _ _)]; rfl) ?_⟩
      exact ⟨⟨_, _, rfl⟩, s11.trans s12⟩
    rintro σ H9 ⟨⟨v7, v8, rfl⟩, s9⟩
    have hR := hR.keep (KeepT.same s9)
    have hx := dp_same s9 hx
    have B9 := B8.same s9
    -- numbers
    refine ⟨_, rfl, p, l, rfl, B9, fun x2 b2 H10 hx2 gb2 B10 k10 => ⟨_, rfl, two_le, fun r1 m1 => ⟨two_le, fun r2 m2 => ⟨_, rfl, (by show 4 ≤ sizeLine; decide), fun LN nLN => ?_⟩⟩⟩⟩
    have hR := hR.keep (KeepT.keep B9.lst k10)
    have hx := dp_keepT (KeepT.keep B9.lst k10) 6 _ _ gb.dk hx
    have t1 := same_new m1 (.tup [.str "int", .int (-1)])
    have t2 := same_new m2 (.tup [.str "int", .int 0])
    have t3 := same_new nLN (.lst [x2, .ref r1, .ref r2, x])
    have t13 := (t1.trans t2).trans t3
    have g1 : Good (.int (-1)) := good_int (by decide)
    have g0 : Good (.int 0) := good_int (by decide)
    have nums : NumsAt K (upd (upd (upd H10 r1 (.tup [.str "int", .int (-1)])) r2 (.tup [.str "int", .int 0])) LN (.lst [x2, .ref r1, .ref r2, x])) [x2, .ref r1, .ref r2, x] :=
      .cons ⟨b2, dp_same t13 hx2, gb2.dk⟩ (.cons ⟨.int (-1), dp_same (t2.trans t3) (dp_two upd_same (.int (-1))), g1.dk⟩ (.cons ⟨.int 0, dp_same t3 (dp_two upd_same (.int 0)), g0.dk⟩ (.cons ⟨b, dp_same t13 hx, gb.dk⟩ .nil)))
    have hR := hR.keep (KeepT.same t13)
    have hx := dp_same t13 hx
    have B13 := B10.same t13
    have LNp : LN ≠ p := by
      obtain ⟨⟨k, _, hp⟩, _, _⟩ := B10.same (t1.trans t2)
      exact (ne_of_none hp nLN).symm
    have LNl : LN ≠ l := by
      obtain ⟨_, ⟨ds, hl⟩, _⟩ := B10.same (t1.trans t2)
      exact (ne_of_none hl nLN).symm
    -- if held[0] == 'int': numbers.append(..)
    refine ⟨fun σ H14 => ∃ ms : List V, σ = [some (.ref a), some (.ref p), some (.int cl), some (.ref t), v4, some x, some (.int kd), v7, v8, some (.ref LN), v10] ∧ H14 LN = some (.lst ms) ∧ NumsAt K H14 ms ∧ Dp K H14 x b.d ∧ RecsAt K H14 t rs ∧ BoxAt H14 p l, ?_, ?_⟩
    · obtain ⟨tx, xs, e1, sx, _⟩ := vl_at hx
      refine ⟨_, rfl, tx, _, _, _, e1, rfl, sx, at_of (j := 0) rfl rfl, rfl, _, rfl, op_if (fun e => ?_) (fun e => ?_)⟩
      · obtain ⟨n, rfl⟩ := kind_int e
        obtain ⟨tx', e2, su⟩ := int_at hx
        have gn : n.natAbs < 1000000000000000000000000000000000000000000000000000000000000 := gb.ok
        refine ⟨_, rfl, .inl ⟨rfl, _, SqL.of upd_same⟩, _, rfl, tx', _, _, _, e2, rfl, su, at_of (j := 1) rfl rfl, _, _, rfl, rfl, two_le, fun r3 m3 => ?_⟩
        have t4 := same_new m3 (.tup [.str "int", .int (n - 1)])
        have hLN := t4 LN _ upd_same
        have k5 : KeepT _ _ := (KeepT.same t4).trans (KeepT.updL (o := .lst ([x2, .ref r1, .ref r2, x] ++ [.ref r3])) ⟨_, hLN⟩)
        refine ⟨LN, _, _, rfl, rfl, hLN, (by show 4 < sizeLine; decide), ?_⟩
        have r3L : r3 ≠ LN := (ne_of_none upd_same m3).symm
        refine ⟨_, rfl, upd_same, (nums.keep k5).snoc ⟨.int (n - 1), ?_, by simp [Vl.d, Vl.rest, okD]⟩, dp_keepT k5 6 _ _ gb.dk hx, hR.keep k5, (B13.same t4).updL LNp LNl⟩
        exact dp_two (by rw [upd_ne r3L]; exact upd_same) (.int (n - 1))
      · exact ⟨_, rfl, upd_same, nums, hx, hR, B13⟩
    rintro σ H14 ⟨ms, rfl, hLN, nums, hx, hR, B14⟩
    -- for at in numbers
    refine ⟨_, rfl, LN, rfl, ⟨_, SqL.of hLN⟩, for_list (K := K) (a := LN) (xs := ms) (fun j σ H15 => (∃ v10 : Option V, σ = [some (.ref a), some (.ref p), some (.int cl), some (.ref t), v4, some x, some (.int kd), v7, v8, some (.ref LN), v10]) ∧ Same H14 H15)
      ⟨⟨_, rfl⟩, Same.refl _⟩ (fun j σ H15 _ h => SqL.of (h.2 _ _ hLN)) ?_ ?_⟩
    · rintro j y σ H15 hj ⟨⟨v10, rfl⟩, s15⟩
      obtain ⟨c, hy, oc⟩ := nums.get hj
      refine ⟨_, rfl, _, rfl, x, y, b, c, rfl, dp_same s15 hx, dp_same s15 hy, fun u1 H16 s16 d16 => ?_⟩
      have s17 := s15.trans s16
      refine ⟨_, rfl, _, rfl, x, y, b, c, rfl, dp_same s17 hx, dp_same s17 hy, fun u2 H17 s18 d18 => ?_⟩
      refine ⟨_, _, _, _, 6, rfl, dp_same s18 d16, d18, okD_item _ _, okD_item _ _, _, rfl, ifF (by rw [same_refl 6 _ (okD_item _ _)]; rfl) ?_⟩
      exact ⟨⟨_, rfl⟩, s17.trans s18⟩
    rintro σ H15 ⟨⟨v10, rfl⟩, s15⟩
    refine ⟨_, rfl, x, b, rfl, dp_same s15 hx, fun u1 H16 s16 d16 => ?_⟩
    have s17 := s15.trans s16
    refine ⟨_, rfl, x, b, rfl, dp_same s17 hx, fun u2 H17 s18 d18 => ?_⟩
    refine ⟨_, _, _, _, 6, rfl, dp_same s18 d16, d18, okD_size _, okD_size _, _, rfl, ifF (by rw [same_refl 6 _ (okD_size _)]; rfl) ?_⟩
    have s19 := s17.trans s18
    exact ⟨_, _, _, _, _, _, _, rfl, hR.keep (KeepT.same s19), B14.same s19⟩
  · rintro σ H4 ⟨v4, v5, v6, v7, v8, v9, v10, rfl, hR, B⟩
    exact q _
end
theorem all_mk {l : PySem.W.OpenLaw} {w : World} {K : PySem.W.Frag} {h : Heap} {mg : Str → Option Value} {fa : Addr} (X : K.In h) (G : h.Ns mainGlobals mg) (hfa : mg "law" = some (.ref fa))
    {f0 f1 f2 f3 f4 f5 f6 f7 f8 f9 f10 f11 f12 f13 f14 f15 : Addr} {od0 an0 od1 an1 od2 an2 od3 an3 od4 an4 od5 an5 od6 an6 od7 an7 od8 an8 od9 an9 od10 an10 od11 an11 od12 an12 od13 an13 od14 an14 od15 an15 : Option Addr} {sl0 sl1 sl2 sl3 sl4 sl5 sl6 sl7 sl8 sl9 sl10 sl11 sl12 sl13 sl14 sl15 : Array (Option Value)} {oc0 kV0 dc0 pm0 cd0 ct0 oc1 kV1 dc1 pm1 cd1 ct1 oc2 kV2 dc2 pm2 cd2 ct2 oc3 kV3 dc3 pm3 cd3 ct3 oc4 kV4 dc4 pm4 cd4 ct4 oc5 kV5 dc5 pm5 cd5 ct5 oc6 kV6 dc6 pm6 cd6 ct6 oc7 kV7 dc7 pm7 cd7 ct7 oc8 kV8 dc8 pm8 cd8 ct8 oc9 kV9 dc9 pm9 cd9 ct9 oc10 kV10 dc10 pm10 cd10 ct10 oc11 kV11 dc11 pm11 cd11 ct11 oc12 kV12 dc12 pm12 cd12 ct12 oc13 kV13 dc13 pm13 cd13 ct13 oc14 kV14 dc14 pm14 cd14 ct14 oc15 kV15 dc15 pm15 cd15 ct15 : Value}
    (a0 : PySem.W.nsIn K mainGlobals "field_cell" = some (some (.ref f0)))
    (l0 : K.lookup f0 = some ⟨oc0, od0, .func (PySem.W.fnOf "field_cell" "field_cell" (defArgs s_field_cell) (defBody s_field_cell) (defScope s_field_cell) .none kV0 dc0 pm0 an0 cd0 ct0), sl0⟩)
    (c0 : PySem.W.codeIn K cd0 "field_cell" = true) (k0 : PySem.W.keepIn K (.ref f0) = true)
    (a1 : PySem.W.nsIn K mainGlobals "item_cell" = some (some (.ref f1)))
    (l1 : K.lookup f1 = some ⟨oc1, od1, .func (PySem.W.fnOf "item_cell" "item_cell" (defArgs s_item_cell) (defBody s_item_cell) (defScope s_item_cell) .none kV1 dc1 pm1 an1 cd1 ct1), sl1⟩)
    (c1 : PySem.W.codeIn K cd1 "item_cell" = true) (k1 : PySem.W.keepIn K (.ref f1) = true)
    (a2 : PySem.W.nsIn K mainGlobals "array_size" = some (some (.ref f2)))
    (l2 : K.lookup f2 = some ⟨oc2, od2, .func (PySem.W.fnOf "array_size" "array_size" (defArgs s_array_size) (defBody s_array_size) (defScope s_array_size) .none kV2 dc2 pm2 an2 cd2 ct2), sl2⟩)
    (c2 : PySem.W.codeIn K cd2 "array_size" = true) (k2 : PySem.W.keepIn K (.ref f2) = true)
    (a3 : PySem.W.nsIn K mainGlobals "_law_cell" = some (some (.ref f3)))
    (l3 : K.lookup f3 = some ⟨oc3, od3, .func (PySem.W.fnOf "_law_cell" "_law_cell" (defArgs s__law_cell) (defBody s__law_cell) (defScope s__law_cell) .none kV3 dc3 pm3 an3 cd3 ct3), sl3⟩)
    (c3 : PySem.W.codeIn K cd3 "_law_cell" = true) (k3 : PySem.W.keepIn K (.ref f3) = true)
    (a4 : PySem.W.nsIn K mainGlobals "_law_digits" = some (some (.ref f4)))
    (l4 : K.lookup f4 = some ⟨oc4, od4, .func (PySem.W.fnOf "_law_digits" "_law_digits" (defArgs s__law_digits) (defBody s__law_digits) (defScope s__law_digits) .none kV4 dc4 pm4 an4 cd4 ct4), sl4⟩)
    (c4 : PySem.W.codeIn K cd4 "_law_digits" = true) (k4 : PySem.W.keepIn K (.ref f4) = true)
    (a5 : PySem.W.nsIn K mainGlobals "_law_draw" = some (some (.ref f5)))
    (l5 : K.lookup f5 = some ⟨oc5, od5, .func (PySem.W.fnOf "_law_draw" "_law_draw" (defArgs s__law_draw) (defBody s__law_draw) (defScope s__law_draw) .none kV5 dc5 pm5 an5 cd5 ct5), sl5⟩)
    (c5 : PySem.W.codeIn K cd5 "_law_draw" = true) (k5 : PySem.W.keepIn K (.ref f5) = true)
    (a6 : PySem.W.nsIn K mainGlobals "_law_same" = some (some (.ref f6)))
    (l6 : K.lookup f6 = some ⟨oc6, od6, .func (PySem.W.fnOf "_law_same" "_law_same" (defArgs s__law_same) (defBody s__law_same) (defScope s__law_same) .none kV6 dc6 pm6 an6 cd6 ct6), sl6⟩)
    (c6 : PySem.W.codeIn K cd6 "_law_same" = true) (k6 : PySem.W.keepIn K (.ref f6) = true)
    (a7 : PySem.W.nsIn K mainGlobals "_law_number" = some (some (.ref f7)))
    (l7 : K.lookup f7 = some ⟨oc7, od7, .func (PySem.W.fnOf "_law_number" "_law_number" (defArgs s__law_number) (defBody s__law_number) (defScope s__law_number) .none kV7 dc7 pm7 an7 cd7 ct7), sl7⟩)
    (c7 : PySem.W.codeIn K cd7 "_law_number" = true) (k7 : PySem.W.keepIn K (.ref f7) = true)
    (a8 : PySem.W.nsIn K mainGlobals "_law_text" = some (some (.ref f8)))
    (l8 : K.lookup f8 = some ⟨oc8, od8, .func (PySem.W.fnOf "_law_text" "_law_text" (defArgs s__law_text) (defBody s__law_text) (defScope s__law_text) .none kV8 dc8 pm8 an8 cd8 ct8), sl8⟩)
    (c8 : PySem.W.codeIn K cd8 "_law_text" = true) (k8 : PySem.W.keepIn K (.ref f8) = true)
    (a9 : PySem.W.nsIn K mainGlobals "_law_value" = some (some (.ref f9)))
    (l9 : K.lookup f9 = some ⟨oc9, od9, .func (PySem.W.fnOf "_law_value" "_law_value" (defArgs s__law_value) (defBody s__law_value) (defScope s__law_value) .none kV9 dc9 pm9 an9 cd9 ct9), sl9⟩)
    (c9 : PySem.W.codeIn K cd9 "_law_value" = true) (k9 : PySem.W.keepIn K (.ref f9) = true)
    (a10 : PySem.W.nsIn K mainGlobals "_law_name" = some (some (.ref f10)))
    (l10 : K.lookup f10 = some ⟨oc10, od10, .func (PySem.W.fnOf "_law_name" "_law_name" (defArgs s__law_name) (defBody s__law_name) (defScope s__law_name) .none kV10 dc10 pm10 an10 cd10 ct10), sl10⟩)
    (c10 : PySem.W.codeIn K cd10 "_law_name" = true) (k10 : PySem.W.keepIn K (.ref f10) = true)
    (a11 : PySem.W.nsIn K mainGlobals "_law_records" = some (some (.ref f11)))
    (l11 : K.lookup f11 = some ⟨oc11, od11, .func (PySem.W.fnOf "_law_records" "_law_records" (defArgs s__law_records) (defBody s__law_records) (defScope s__law_records) .none kV11 dc11 pm11 an11 cd11 ct11), sl11⟩)
    (c11 : PySem.W.codeIn K cd11 "_law_records" = true) (k11 : PySem.W.keepIn K (.ref f11) = true)
    (a12 : PySem.W.nsIn K mainGlobals "_law_due_field" = some (some (.ref f12)))
    (l12 : K.lookup f12 = some ⟨oc12, od12, .func (PySem.W.fnOf "_law_due_field" "_law_due_field" (defArgs s__law_due_field) (defBody s__law_due_field) (defScope s__law_due_field) .none kV12 dc12 pm12 an12 cd12 ct12), sl12⟩)
    (c12 : PySem.W.codeIn K cd12 "_law_due_field" = true) (k12 : PySem.W.keepIn K (.ref f12) = true)
    (a13 : PySem.W.nsIn K mainGlobals "_law_due_item" = some (some (.ref f13)))
    (l13 : K.lookup f13 = some ⟨oc13, od13, .func (PySem.W.fnOf "_law_due_item" "_law_due_item" (defArgs s__law_due_item) (defBody s__law_due_item) (defScope s__law_due_item) .none kV13 dc13 pm13 an13 cd13 ct13), sl13⟩)
    (c13 : PySem.W.codeIn K cd13 "_law_due_item" = true) (k13 : PySem.W.keepIn K (.ref f13) = true)
    (a14 : PySem.W.nsIn K mainGlobals "_law_due_size" = some (some (.ref f14)))
    (l14 : K.lookup f14 = some ⟨oc14, od14, .func (PySem.W.fnOf "_law_due_size" "_law_due_size" (defArgs s__law_due_size) (defBody s__law_due_size) (defScope s__law_due_size) .none kV14 dc14 pm14 an14 cd14 ct14), sl14⟩)
    (c14 : PySem.W.codeIn K cd14 "_law_due_size" = true) (k14 : PySem.W.keepIn K (.ref f14) = true)
    (a15 : PySem.W.nsIn K mainGlobals "law" = some (some (.ref f15)))
    (l15 : K.lookup f15 = some ⟨oc15, od15, .func (PySem.W.fnOf "law" "law" (defArgs s_law) (defBody s_law) (defScope s_law) .none kV15 dc15 pm15 an15 cd15 ct15), sl15⟩)
    (c15 : PySem.W.codeIn K cd15 "law" = true) (k15 : PySem.W.keepIn K (.ref f15) = true)
    (z_len : PySem.W.nsIn K mainGlobals "len" = some none)
    (z_isinstance : PySem.W.nsIn K mainGlobals "isinstance" = some none)
    (z_tuple : PySem.W.nsIn K mainGlobals "tuple" = some none)
    (z_int : PySem.W.nsIn K mainGlobals "int" = some none)
    (z_bool : PySem.W.nsIn K mainGlobals "bool" = some none)
    (z_str : PySem.W.nsIn K mainGlobals "str" = some none)
    (z_range : PySem.W.nsIn K mainGlobals "range" = some none)
    {t_ITEMS : Tok} (c_ITEMS : PySem.W.nsIn K mainGlobals "ITEMS" = some (some (.int (40) t_ITEMS)))
    {u_KIND : Addr} (c_KIND : PySem.W.nsIn K mainGlobals "KIND" = some (some (.ref u_KIND)))
    {dd_KIND : Option Addr} {n_KIND : Nat} {sl_KIND : Array (Option Value)} {k0_KIND k1_KIND : Tok} (q_KIND : K.lookup u_KIND = some ⟨.type "tuple", dd_KIND, .seq #[.str "error" k0_KIND, .str "kind" k1_KIND] n_KIND, sl_KIND⟩)
    : ∃ fd : FuncData, (∀ (s : Shared) (v : Value), BindsTo s fd ⟨[v], []⟩ [("script", v)]) ∧ ∀ base : Heap, K.In base → base.Ns mainGlobals mg → FnOk l.prog w K mg base CX0 7 fa fd ["script"] (spLaw K) := by
  have e := hfa.symm.trans (PySem.W.mg_of X G a15)
  cases e
  have F0 := fun_mk (st := s_field_cell) l0 c0 k0
  have b0 := F0.binds (ps := ["records", "held", "name"]) fun _ _ _ _ _ _ us hl => match us, hl with | [_, _, _], _ => rfl
  have F1 := fun_mk (st := s_item_cell) l1 c1 k1
  have b1 := F1.binds (ps := ["held", "at"]) fun _ _ _ _ _ _ us hl => match us, hl with | [_, _], _ => rfl
  have F2 := fun_mk (st := s_array_size) l2 c2 k2
  have b2 := F2.binds (ps := ["value"]) fun _ _ _ _ _ _ us hl => match us, hl with | [_], _ => rfl
  have F3 := fun_mk (st := s__law_cell) l3 c3 k3
  have b3 := F3.binds (ps := ["script", "k"]) fun _ _ _ _ _ _ us hl => match us, hl with | [_, _], _ => rfl
  have F4 := fun_mk (st := s__law_digits) l4 c4 k4
  have b4 := F4.binds (ps := ["script", "first", "last"]) fun _ _ _ _ _ _ us hl => match us, hl with | [_, _, _], _ => rfl
  have F5 := fun_mk (st := s__law_draw) l5 c5 k5
  have b5 := F5.binds (ps := ["box", "many"]) fun _ _ _ _ _ _ us hl => match us, hl with | [_, _], _ => rfl
  have F6 := fun_mk (st := s__law_same) l6 c6 k6
  have b6 := F6.binds (ps := ["actual", "expected"]) fun _ _ _ _ _ _ us hl => match us, hl with | [_, _], _ => rfl
  have F7 := fun_mk (st := s__law_number) l7 c7 k7
  have b7 := F7.binds (ps := ["box"]) fun _ _ _ _ _ _ us hl => match us, hl with | [_], _ => rfl
  have F8 := fun_mk (st := s__law_text) l8 c8 k8
  have b8 := F8.binds (ps := ["box", "most"]) fun _ _ _ _ _ _ us hl => match us, hl with | [_, _], _ => rfl
  have F9 := fun_mk (st := s__law_value) l9 c9 k9
  have b9 := F9.binds (ps := ["box"]) fun _ _ _ _ _ _ us hl => match us, hl with | [_], _ => rfl
  have F10 := fun_mk (st := s__law_name) l10 c10 k10
  have b10 := F10.binds (ps := ["cell", "k"]) fun _ _ _ _ _ _ us hl => match us, hl with | [_, _], _ => rfl
  have F11 := fun_mk (st := s__law_records) l11 c11 k11
  have b11 := F11.binds (ps := ["box", "cell"]) fun _ _ _ _ _ _ us hl => match us, hl with | [_, _], _ => rfl
  have F12 := fun_mk (st := s__law_due_field) l12 c12 k12
  have b12 := F12.binds (ps := ["records", "held", "name"]) fun _ _ _ _ _ _ us hl => match us, hl with | [_, _, _], _ => rfl
  have F13 := fun_mk (st := s__law_due_item) l13 c13 k13
  have b13 := F13.binds (ps := ["held", "at"]) fun _ _ _ _ _ _ us hl => match us, hl with | [_, _], _ => rfl
  have F14 := fun_mk (st := s__law_due_size) l14 c14 k14
  have b14 := F14.binds (ps := ["value"]) fun _ _ _ _ _ _ us hl => match us, hl with | [_], _ => rfl
  have F15 := fun_mk (st := s_law) l15 c15 k15
  have b15 := F15.binds (ps := ["script"]) fun _ _ _ _ _ _ us hl => match us, hl with | [_], _ => rfl
  let T : Tx K mg := { d_field_cell := ⟨_, _, F0, b0, PySem.W.mg_of X G a0⟩, d_item_cell := ⟨_, _, F1, b1, PySem.W.mg_of X G a1⟩, d_array_size := ⟨_, _, F2, b2, PySem.W.mg_of X G a2⟩, d__law_cell := ⟨_, _, F3, b3, PySem.W.mg_of X G a3⟩, d__law_digits := ⟨_, _, F4, b4, PySem.W.mg_of X G a4⟩, d__law_draw := ⟨_, _, F5, b5, PySem.W.mg_of X G a5⟩, d__law_same := ⟨_, _, F6, b6, PySem.W.mg_of X G a6⟩, d__law_number := ⟨_, _, F7, b7, PySem.W.mg_of X G a7⟩, d__law_text := ⟨_, _, F8, b8, PySem.W.mg_of X G a8⟩, d__law_value := ⟨_, _, F9, b9, PySem.W.mg_of X G a9⟩, d__law_name := ⟨_, _, F10, b10, PySem.W.mg_of X G a10⟩, d__law_records := ⟨_, _, F11, b11, PySem.W.mg_of X G a11⟩, d__law_due_field := ⟨_, _, F12, b12, PySem.W.mg_of X G a12⟩, d__law_due_item := ⟨_, _, F13, b13, PySem.W.mg_of X G a13⟩, d__law_due_size := ⟨_, _, F14, b14, PySem.W.mg_of X G a14⟩, d_law := ⟨_, _, F15, b15, PySem.W.mg_of X G a15⟩, z_len := PySem.W.mg_none_of X G z_len, z_isinstance := PySem.W.mg_none_of X G z_isinstance, z_tuple := PySem.W.mg_none_of X G z_tuple, z_int := PySem.W.mg_none_of X G z_int, z_bool := PySem.W.mg_none_of X G z_bool, z_str := PySem.W.mg_none_of X G z_str, z_range := PySem.W.mg_none_of X G z_range, t_ITEMS := _, c_ITEMS := PySem.W.mg_of X G c_ITEMS, a_KIND := u_KIND, c_KIND := PySem.W.mg_of X G c_KIND, q_KIND := ⟨_, _, _, _, _, q_KIND⟩ }
  exact ⟨_, fun s v => .of_eq rfl, fun base _ _ => ok_law T⟩
theorem walk {l : PySem.W.OpenLaw} {q : Program} {loose : List Str} {XP : (Str → Option Value) → Heap → Prop} {YP : World → Heap → Prop} {d : DefRec} {K : Params → PySem.W.Frag} (hn : l.most = some 63) (hdf : d.params.defaults = [])
    (hY : ∀ (w : World) (h : Heap), YP w h → (K w.params).In h)
    (F : ∀ (w : World) (mg : Str → Option Value) (fa : Addr) (h : Heap), (K w.params).In h → h.Ns mainGlobals mg → mg d.name = some (.ref fa) →
      ∃ fd : FuncData, (∀ (s : Shared) (u : Value), BindsTo s fd ⟨[u], []⟩ [("script", u)]) ∧ ∀ base : Heap, (K w.params).In base → base.Ns mainGlobals mg → FnOk l.prog w (K w.params) mg base CX0 7 fa fd ["script"] (spLaw (K w.params))) :
    PySem.W.WalkO q loose XP YP l.row.toRowW d [] (fun f vs => PySem.call f vs) :=
  L2.walk_ofB (n := 63) (k := 7) (x := "script") (CX := fun _ => CX0) (sp := fun w => spLaw (K w.params)) hn (by decide) hdf ⟨rfl, by decide, by decide⟩ hY F (fun _ _ a ns hl hb _ hS => ⟨a, ns, rfl, hS, hl, hb, fun _ => rfl⟩) fun _ _ _ _ _ z => z
end My
open PySem PySem.W PyProof.Rows
set_option maxRecDepth 100000 in
set_option maxHeartbeats 0 in
theorem PySem.Challenge.cw_foretask_k22_cells_of_fields_and_items_holds : PySem.Challenge.rw_foretask_k22_cells_of_fields_and_items.Holds := by
  w_on; o_law; k_head; (case hw => w_witness2)
  k_fill
  refine My.walk (l := PySem.Challenge.rw_foretask_k22_cells_of_fields_and_items) rfl rfl (fun w h Y => PySem.W.kIn_of Y) ?F
  case F =>
    intro w mg fa h KX G hmg
    refine' My.all_mk KX G hmg ?a0 ?l0 ?c0 ?k0 ?a1 ?l1 ?c1 ?k1 ?a2 ?l2 ?c2 ?k2 ?a3 ?l3 ?c3 ?k3 ?a4 ?l4 ?c4 ?k4 ?a5 ?l5 ?c5 ?k5 ?a6 ?l6 ?c6 ?k6 ?a7 ?l7 ?c7 ?k7 ?a8 ?l8 ?c8 ?k8 ?a9 ?l9 ?c9 ?k9 ?a10 ?l10 ?c10 ?k10 ?a11 ?l11 ?c11 ?k11 ?a12 ?l12 ?c12 ?k12 ?a13 ?l13 ?c13 ?k13 ?a14 ?l14 ?c14 ?k14 ?a15 ?l15 ?c15 ?k15 ?z_len ?z_isinstance ?z_tuple ?z_int ?z_bool ?z_str ?z_range ?c_ITEMS ?c_KIND ?q_KIND
    (case a0 => k_is)
    (case l0 => k_is)
    (case c0 => k_is)
    (case k0 => k_is)
    (case a1 => k_is)
    (case l1 => k_is)
    (case c1 => k_is)
    (case k1 => k_is)
    (case a2 => k_is)
    (case l2 => k_is)
    (case c2 => k_is)
    (case k2 => k_is)
    (case a3 => k_is)
    (case l3 => k_is)
    (case c3 => k_is)
    (case k3 => k_is)
    (case a4 => k_is)
    (case l4 => k_is)
    (case c4 => k_is)
    (case k4 => k_is)
    (case a5 => k_is)
    (case l5 => k_is)
    (case c5 => k_is)
    (case k5 => k_is)
    (case a6 => k_is)
    (case l6 => k_is)
    (case c6 => k_is)
    (case k6 => k_is)
    (case a7 => k_is)
    (case l7 => k_is)
    (case c7 => k_is)
    (case k7 => k_is)
    (case a8 => k_is)
    (case l8 => k_is)
    (case c8 => k_is)
    (case k8 => k_is)
    (case a9 => k_is)
    (case l9 => k_is)
    (case c9 => k_is)
    (case k9 => k_is)
    (case a10 => k_is)
    (case l10 => k_is)
    (case c10 => k_is)
    (case k10 => k_is)
    (case a11 => k_is)
    (case l11 => k_is)
    (case c11 => k_is)
    (case k11 => k_is)
    (case a12 => k_is)
    (case l12 => k_is)
    (case c12 => k_is)
    (case k12 => k_is)
    (case a13 => k_is)
    (case l13 => k_is)
    (case c13 => k_is)
    (case k13 => k_is)
    (case a14 => k_is)
    (case l14 => k_is)
    (case c14 => k_is)
    (case k14 => k_is)
    (case a15 => k_is)
    (case l15 => k_is)
    (case c15 => k_is)
    (case k15 => k_is)
    (case z_len => k_is)
    (case z_isinstance => k_is)
    (case z_tuple => k_is)
    (case z_int => k_is)
    (case z_bool => k_is)
    (case z_str => k_is)
    (case z_range => k_is)
    (case c_ITEMS => k_is)
    (case c_KIND => k_is)
    (case q_KIND => k_is)
