import PyProof.Rows.All
import Wide.All
import OpenK.AllK
import Wide.FinOn
import HandS.ForMost
import HandS.IsInst
import HandS.Wide
import HandS.EndBits
import HandS.TupAny
import HandS.TupMul
import HandS.Strs
import HandS.Codes
import HandS.More
import HandS.StrMore
import HandS.Comp
import KE.GoesMore
import PySem.Challenge.RW_foretask_k21_kinds_of_operands
set_option Elab.async false
set_option maxRecDepth 100000
set_option maxHeartbeats 4000000
namespace My
open PySem L2
/-! ### the text by places -/
def top (i : Nat) : Stmt := PySem.Challenge.pw_foretask_k21_kinds_of_operands.main.body.getD i (.Pass ⟨0, 0, 0, 0⟩)
abbrev s_both : Stmt := top 4
abbrev N_both : List Str := ["op", "a", "b"]
abbrev P_both : List Str := ["op", "a", "b"]
theorem sc_both : FnScope ["op", "a", "b"] ["op", "a", "b"] (defScope s_both) := ⟨rfl, rfl, rfl, by decide +kernel, rfl, by decide +kernel, by decide +kernel⟩
abbrev s_together : Stmt := top 5
abbrev N_together : List Str := ["a", "b", "characters"]
abbrev P_together : List Str := ["a", "b"]
theorem sc_together : FnScope ["a", "b", "characters"] ["a", "b"] (defScope s_together) := ⟨rfl, rfl, rfl, by decide +kernel, rfl, by decide +kernel, by decide +kernel⟩
abbrev s_divided : Stmt := top 6
abbrev N_divided : List Str := ["op", "left", "right"]
abbrev P_divided : List Str := ["op", "left", "right"]
theorem sc_divided : FnScope ["op", "left", "right"] ["op", "left", "right"] (defScope s_divided) := ⟨rfl, rfl, rfl, by decide +kernel, rfl, by decide +kernel, by decide +kernel⟩
abbrev s_computed : Stmt := top 7
abbrev N_computed : List Str := ["op", "left", "right"]
abbrev P_computed : List Str := ["op", "left", "right"]
theorem sc_computed : FnScope ["op", "left", "right"] ["op", "left", "right"] (defScope s_computed) := ⟨rfl, rfl, rfl, by decide +kernel, rfl, by decide +kernel, by decide +kernel⟩
abbrev s_bounded : Stmt := top 8
abbrev N_bounded : List Str := ["number"]
abbrev P_bounded : List Str := ["number"]
theorem sc_bounded : FnScope ["number"] ["number"] (defScope s_bounded) := ⟨rfl, rfl, rfl, by decide +kernel, rfl, by decide +kernel, by decide +kernel⟩
abbrev s_negative : Stmt := top 9
abbrev N_negative : List Str := ["a"]
abbrev P_negative : List Str := ["a"]
theorem sc_negative : FnScope ["a"] ["a"] (defScope s_negative) := ⟨rfl, rfl, rfl, by decide +kernel, rfl, by decide +kernel, by decide +kernel⟩
abbrev s_opposite : Stmt := top 10
abbrev N_opposite : List Str := ["a"]
abbrev P_opposite : List Str := ["a"]
theorem sc_opposite : FnScope ["a"] ["a"] (defScope s_opposite) := ⟨rfl, rfl, rfl, by decide +kernel, rfl, by decide +kernel, by decide +kernel⟩
abbrev s_truth : Stmt := top 11
abbrev N_truth : List Str := ["a"]
abbrev P_truth : List Str := ["a"]
theorem sc_truth : FnScope ["a"] ["a"] (defScope s_truth) := ⟨rfl, rfl, rfl, by decide +kernel, rfl, by decide +kernel, by decide +kernel⟩
abbrev s__law_cell : Stmt := top 13
abbrev N__law_cell : List Str := ["script", "k"]
abbrev P__law_cell : List Str := ["script", "k"]
theorem sc__law_cell : FnScope ["script", "k"] ["script", "k"] (defScope s__law_cell) := ⟨rfl, rfl, rfl, by decide +kernel, rfl, by decide +kernel, by decide +kernel⟩
abbrev s__law_digits : Stmt := top 14
abbrev N__law_digits : List Str := ["script", "first", "last", "digits", "k", "cell", "turn", "seed"]
abbrev P__law_digits : List Str := ["script", "first", "last"]
theorem sc__law_digits : FnScope ["script", "first", "last", "digits", "k", "cell", "turn", "seed"] ["script", "first", "last"] (defScope s__law_digits) := ⟨rfl, rfl, rfl, by decide +kernel, rfl, by decide +kernel, by decide +kernel⟩
abbrev s__law_draw : Stmt := top 15
abbrev N__law_draw : List Str := ["box", "many", "at"]
abbrev P__law_draw : List Str := ["box", "many"]
theorem sc__law_draw : FnScope ["box", "many", "at"] ["box", "many"] (defScope s__law_draw) := ⟨rfl, rfl, rfl, by decide +kernel, rfl, by decide +kernel, by decide +kernel⟩
abbrev s__law_same : Stmt := top 16
abbrev N__law_same : List Str := ["actual", "expected", "k"]
abbrev P__law_same : List Str := ["actual", "expected"]
theorem sc__law_same : FnScope ["actual", "expected", "k"] ["actual", "expected"] (defScope s__law_same) := ⟨rfl, rfl, rfl, by decide +kernel, rfl, by decide +kernel, by decide +kernel⟩
abbrev s__law_number : Stmt := top 17
abbrev N__law_number : List Str := ["box", "kind", "size"]
abbrev P__law_number : List Str := ["box"]
theorem sc__law_number : FnScope ["box", "kind", "size"] ["box"] (defScope s__law_number) := ⟨rfl, rfl, rfl, by decide +kernel, rfl, by decide +kernel, by decide +kernel⟩
abbrev s__law_text : Stmt := top 18
abbrev N__law_text : List Str := ["box", "most", "signs", "text", "k"]
abbrev P__law_text : List Str := ["box", "most"]
theorem sc__law_text : FnScope ["box", "most", "signs", "text", "k"] ["box", "most"] (defScope s__law_text) := ⟨rfl, rfl, rfl, by decide +kernel, rfl, by decide +kernel, by decide +kernel⟩
abbrev s__law_value : Stmt := top 19
abbrev N__law_value : List Str := ["box", "kind", "task", "k"]
abbrev P__law_value : List Str := ["box"]
theorem sc__law_value : FnScope ["box", "kind", "task", "k"] ["box"] (defScope s__law_value) := ⟨rfl, rfl, rfl, by decide +kernel, rfl, by decide +kernel, by decide +kernel⟩
abbrev s__law_one : Stmt := top 20
abbrev N__law_one : List Str := ["value", "due"]
abbrev P__law_one : List Str := ["value"]
theorem sc__law_one : FnScope ["value", "due"] ["value"] (defScope s__law_one) := ⟨rfl, rfl, rfl, by decide +kernel, rfl, by decide +kernel, by decide +kernel⟩
abbrev s__law_two : Stmt := top 21
abbrev N__law_two : List Str := ["first", "second", "wrong", "op"]
abbrev P__law_two : List Str := ["first", "second"]
theorem sc__law_two : FnScope ["first", "second", "wrong", "op"] ["first", "second"] (defScope s__law_two) := ⟨rfl, rfl, rfl, by decide +kernel, rfl, by decide +kernel, by decide +kernel⟩
abbrev s_law : Stmt := top 22
abbrev N_law : List Str := ["script", "box", "k", "first", "second"]
abbrev P_law : List Str := ["script"]
theorem sc_law : FnScope ["script", "box", "k", "first", "second"] ["script"] (defScope s_law) := ⟨rfl, rfl, rfl, by decide +kernel, rfl, by decide +kernel, by decide +kernel⟩
structure Df (K : PySem.W.Frag) (mg : Str → Option Value) (x : Str) (st : Stmt) (ps : List Str) where
  f : Addr
  fd : FuncData
  F : Fun K x x st f fd
  b : Binds K fd ps []
  m : mg x = some (.ref f)
structure Mf (K : PySem.W.Frag) (C : Addr) (x qual : Str) (st : Stmt) (ps : List Str) where
  f : Addr
  fd : FuncData
  F : Fun K x qual st f fd
  b : Binds K fd ps []
  mt : Meth K C x f
structure Nf (K : PySem.W.Frag) (x qual : Str) (st : Stmt) (ps : List Str) where
  f : Addr
  fd : FuncData
  F : Fun K x qual st f fd
  b : Binds K fd ps []
def KTup (K : PySem.W.Frag) (a : Addr) (xs : List Str) : Prop := ∃ (o : Obj) (its : Array Value) (n : Nat), K.lookup a = some o ∧ o.cls = .type "tuple" ∧ o.data = .seq its n ∧ its.size ≤ sizeLine ∧ Vals (xs.map V.str) its.toList
theorem relS (x : Str) (t : Tok) : RelV (.str x) (.str x t) := ⟨t, rfl⟩
structure Tx (K : PySem.W.Frag) (mg : Str → Option Value) where
  d_both : Df K mg "both" s_both ["op", "a", "b"]
  d_together : Df K mg "together" s_together ["a", "b"]
  d_divided : Df K mg "divided" s_divided ["op", "left", "right"]
  d_computed : Df K mg "computed" s_computed ["op", "left", "right"]
  d_bounded : Df K mg "bounded" s_bounded ["number"]
  d_negative : Df K mg "negative" s_negative ["a"]
  d_opposite : Df K mg "opposite" s_opposite ["a"]
  d_truth : Df K mg "truth" s_truth ["a"]
  d__law_cell : Df K mg "_law_cell" s__law_cell ["script", "k"]
  d__law_digits : Df K mg "_law_digits" s__law_digits ["script", "first", "last"]
  d__law_draw : Df K mg "_law_draw" s__law_draw ["box", "many"]
  d__law_same : Df K mg "_law_same" s__law_same ["actual", "expected"]
  d__law_number : Df K mg "_law_number" s__law_number ["box"]
  d__law_text : Df K mg "_law_text" s__law_text ["box", "most"]
  d__law_value : Df K mg "_law_value" s__law_value ["box"]
  d__law_one : Df K mg "_law_one" s__law_one ["value"]
  d__law_two : Df K mg "_law_two" s__law_two ["first", "second"]
  d_law : Df K mg "law" s_law ["script"]
  z_len : mg "len" = none
  z_isinstance : mg "isinstance" = none
  z_tuple : mg "tuple" = none
  z_int : mg "int" = none
  z_bool : mg "bool" = none
  z_str : mg "str" = none
  z_range : mg "range" = none
  z_abs : mg "abs" = none
  t_INTEGER : Tok
  c_INTEGER : mg "INTEGER" = some (.int (1000000000000000000000000000000000000000000000000000000000000) t_INTEGER)
  t_RUN_CHARACTERS : Tok
  c_RUN_CHARACTERS : mg "RUN_CHARACTERS" = some (.int (200) t_RUN_CHARACTERS)
  a_KIND : Addr
  c_KIND : mg "KIND" = some (.ref a_KIND)
  q_KIND : ∃ (dd : Option Addr) (n : Nat) (sl : Array (Option Value)) (k0 k1 : Tok), K.lookup a_KIND = some ⟨.type "tuple", dd, .seq #[.str "error" k0, .str "kind" k1] n, sl⟩
/-! ### operators -/
section
open PySem.Spec PyProof.Rows
variable {X : Cx}
def CMulX (i j : Int) : Prop := i.natAbs.log2 + j.natAbs.log2 < 134000000
theorem mulX_fits {i j : Int} (h : CMulX i j) : IntMulOk i j := by
  have hb : ∀ x : Int, Builtin.Int.intBits x ≤ x.natAbs.log2 + 1 := by
    intro x
    unfold Builtin.Int.intBits
    split
    · omega
    · omega
  intro hh
  simp only [Bool.and_eq_true, Builtin.Int.intTooBig, decide_eq_true_eq] at hh
  have hl : bitsLine = 134217728 := by decide
  have h1 := hb i
  have h2 := hb j
  unfold CMulX at h
  omega
theorem op_mulX : OpR X (binaryOp .Mult) (rI CMulX fun i j => .int (i * j)) := opI fun _ _ _ _ _ _ _ c q => mul_int q (mulX_fits c)
def CDivG (_ j : Int) : Prop := j ≠ 0 ∧ j.natAbs.log2 < 9000
theorem op_fdivG : OpR X (binaryOp .FloorDiv) (rI CDivG fun i j => .int (i.fdiv j)) := opI fun _ _ _ _ _ _ _ c q => floordiv_int c.1 q (.inl (PyProof.noPylong_of_log2 c.2))
end
theorem two240 : (10000000000000000000000000000000000000000000000000000000000000000000000 : Nat) < 2 ^ 240 := by decide +kernel
theorem log_small {i : Int} (h : i.natAbs < 10000000000000000000000000000000000000000000000000000000000000000000000) : i.natAbs.log2 < 240 :=
  PySem.Flt.log2_lt_of (by decide) (Nat.lt_trans h two240)
theorem mulX_small {i j : Int} (h1 : i.natAbs < 10000000000000000000000000000000000000000000000000000000000000000000000) (h2 : j.natAbs < 10000000000000000000000000000000000000000000000000000000000000000000000) : CMulX i j := by
  have a := log_small h1
  have b := log_small h2
  unfold CMulX
  omega
theorem bits_log {z : Int} (h : Builtin.Int.intBits z ≤ 1048576) : z.natAbs.log2 ≤ 1048576 := by
  unfold Builtin.Int.intBits at h
  split at h
  · rename_i e
    simp_all
  · omega
/-! ### heaps -/
theorem same_new {H : Hp} {p : Addr} (h : H p = none) (o : HO) : Same H (upd H p o) := fun b u q => by rw [upd_ne (ne_of_none q h)]; exact q
/-- all but what stands at p is as it was -/
def Keep (p : Addr) (H H' : Hp) : Prop := ∀ b o, H b = some o → b ≠ p → H' b = some o
theorem Keep.refl {p : Addr} {H : Hp} : Keep p H H := fun _ _ h _ => h
theorem Keep.trans {p : Addr} {H H1 H2 : Hp} (a : Keep p H H1) (b : Keep p H1 H2) : Keep p H H2 := fun c o h n => b c o (a c o h n) n
theorem Keep.of {p : Addr} {H H' : Hp} (h : Same H H') : Keep p H H' := fun b o e _ => h b o e
theorem Keep.upd {p : Addr} {H : Hp} {o : HO} : Keep p H (upd H p o) := fun b u e n => by rw [upd_ne n]; exact e
theorem same_upd {H H2 : Hp} {l : Addr} {o : HO} (s : Same H H2) (h : H l = none) : Same H (upd H2 l o) := fun b u e => by
  rw [upd_ne (ne_of_none e h)]
  exact s b u e
theorem lines {n : Nat} (h : n ≤ 100000) : n < sizeLine := Nat.lt_of_le_of_lt h (by decide)
/-- a list [digits, at] stands at p, its digits at l -/
structure BoxAt (H : Hp) (p l : Addr) : Prop where
  bx : ∃ k : Int, 0 ≤ k ∧ H p = some (.lst [.ref l, .int k])
  dg : ∃ ds : List Int, H l = some (.lst (ds.map V.int))
  ne : l ≠ p
theorem BoxAt.same {H H' : Hp} {p l : Addr} (B : BoxAt H p l) (s : Same H H') : BoxAt H' p l := by
  obtain ⟨⟨k, h0, h1⟩, ⟨ds, h2⟩, n⟩ := B
  exact ⟨⟨k, h0, s _ _ h1⟩, ⟨ds, s _ _ h2⟩, n⟩
/-! ### the promises of the law's helpers -/
def spCell (K : PySem.W.Frag) : Sp := fun vs H Q _ => ∃ (a : Addr) (ns : List Int) (k : Int), vs = [.ref a, .int k] ∧ SqL K H a (ns.map V.int) ∧ 0 ≤ k ∧ ∀ c : Int, (c = 0 ∨ c ∈ ns) → Q (.int c) H
def spDigits (K : PySem.W.Frag) : Sp := fun vs H Q _ => ∃ (a : Addr) (ns : List Int), vs = [.ref a, .int 0, .int 63] ∧ SqL K H a (ns.map V.int) ∧ ns.length ≤ 63 ∧ (∀ z ∈ ns, Builtin.Int.intBits z ≤ 1048576) ∧
  ∀ (l : Addr) (ds : List Int) (H' : Hp), H l = none → H' l = some (.lst (ds.map V.int)) → Same H H' → Q (.ref l) H'
def spDraw : Sp := fun vs H Q _ => ∃ (p l : Addr) (m : Int), vs = [.ref p, .int m] ∧ 0 < m ∧ BoxAt H p l ∧ ∀ (r : Int) (H' : Hp), 0 ≤ r → r < m → BoxAt H' p l → Keep p H H' → Q (.int r) H'
def spLaw (K : PySem.W.Frag) : Sp := fun vs H Q _ => ∃ (a : Addr) (ns : List Int), vs = [.ref a] ∧ SqL K H a (ns.map V.int) ∧ ns.length ≤ 63 ∧ (∀ z ∈ ns, Builtin.Int.intBits z ≤ 1048576) ∧ ∀ H', Q (.bl true) H'
theorem ifT {b : Bool} {A B : Prop} (h : b = true) (a : A) : if b = true then A else B := by
  subst h
  exact iteT a
theorem ifF {b : Bool} {A B : Prop} (h : b = false) (a : B) : if b = true then A else B := by
  subst h
  exact iteF a
section
variable {P : Program} {w : World} {K : PySem.W.Frag} {mg : Str → Option Value} {base : Heap}
theorem ok__law_cell (T : Tx K mg) : FnOk P w K mg base CX0 1 T.d__law_cell.f T.d__law_cell.fd P__law_cell (spCell K) := by
  refine T.d__law_cell.F.ok sc__law_cell (fun vs H Q E h => ?_) (fun cdv A outer s H vs Q E hr h => ?_)
  · obtain ⟨a, ns, k, rfl, _⟩ := h
    rfl
  obtain ⟨a, ns, k, rfl, hS, h0, q⟩ := h
  refine ⟨_, (pss_cons (ps_if (pt_cmpR op_lt (pv 1) (pe_callB call_len_seq (by rfl) T.z_len PySem.boot_len (pa_cons (pv 0) pa_nil)) (nomark _))
      (pss_one (ps_ret (pe_ix ix_list (pv 0) (pv 1) (fun _ _ => rfl))))
      pss_nil)
    (pss_one (ps_ret pe_int))), ?_⟩
  have hl : (ns.map V.int).length = ns.length := List.length_map _
  refine ⟨_, rfl, _, rfl, a, _, rfl, .inl hS, _, _, rfl, rfl, _, rfl, ?_⟩
  refine ite2 (fun c => ?_) (fun c => ?_)
  · have c' : k < (((ns.map V.int).length : Nat) : Int) := of_decide_eq_true c
    rw [hl] at c'
    have hk : k.toNat < ns.length := by omega
    refine ⟨_, rfl, _, rfl, a, _, _, _, rfl, rfl, hS, at_of (j := k.toNat) (v := V.int ns[k.toNat]) (by omega) (by rw [List.getElem?_map, List.getElem?_eq_getElem hk] <;> rfl), ?_⟩
    exact q _ (Or.inr (List.getElem_mem hk))
  · exact q 0 (Or.inl rfl)
theorem ok__law_draw (T : Tx K mg) : FnOk P w K mg base CX0 1 T.d__law_draw.f T.d__law_draw.fd P__law_draw spDraw := by
  refine T.d__law_draw.F.ok sc__law_draw (fun vs H Q E h => ?_) (fun cdv A outer s H vs Q E hr h => ?_)
  · obtain ⟨p, l, m, rfl, _⟩ := h
    rfl
  obtain ⟨p, l, m, rfl, hm, ⟨⟨k, k0, hp⟩, ⟨ds, hd⟩, ne⟩, q⟩ := h
  refine ⟨_, (pss_cons (ps_set (i := 2) sc__law_draw.nd rfl (Or.inl rfl) (pe_ix ix_list (pv 0) pe_int (fun _ _ => rfl)))
    (pss_cons (ps_asg (pe_op op_add (pv 2) pe_int) (pg_sub (pv 0) pe_int set_list))
    (pss_cons (ps_if (pt_cmpR op_lt (pv 2) (pe_callB call_len_seq (by rfl) T.z_len PySem.boot_len (pa_cons (pe_ix ix_list (pv 0) pe_int (fun _ _ => rfl)) pa_nil)) (nomark _))
      (pss_one (ps_ret (pe_op op_mod (pe_callTy call_int1 (by rfl) T.z_int (by decide +kernel) (pa_cons (pe_ix ix_list (pe_ix ix_list (pv 0) pe_int (fun _ _ => rfl)) (pv 2) (fun _ _ => rfl)) pa_nil)) (pv 1))))
      pss_nil)
    (pss_one (ps_ret pe_int))))), ?_⟩
  have hl : (ds.map V.int).length = ds.length := List.length_map _
  have B' : BoxAt (upd H p (.lst [.ref l, .int (k + 1)])) p l := ⟨⟨k + 1, by omega, upd_same⟩, ⟨ds, by rw [upd_ne ne]; exact hd⟩, ne⟩
  -- at = box[1]
  refine ⟨_, rfl, p, _, _, _, rfl, rfl, SqL.of hp, at_of (j := 1) rfl rfl, ?_⟩
  -- box[1] = at + 1
  refine ⟨_, rfl, _, _, rfl, rfl, _, rfl, p, _, _, 1, rfl, rfl, hp, rfl, ?_⟩
  have hp' : upd H p (.lst [.ref l, .int (k + 1)]) p = some (.lst [.ref l, .int (k + 1)]) := upd_same
  have hd' : upd H p (.lst [.ref l, .int (k + 1)]) l = some (.lst (ds.map V.int)) := by rw [upd_ne ne]; exact hd
  refine ⟨_, rfl, _, rfl, p, _, _, _, rfl, rfl, SqL.of hp', at_of (j := 0) rfl rfl, l, _, rfl, .inl (SqL.of hd'), _, _, rfl, rfl, _, rfl, ?_⟩
  refine ite2 (fun c => ?_) (fun c => ?_)
  · have c' : k < (((ds.map V.int).length : Nat) : Int) := of_decide_eq_true c
    rw [hl] at c'
    have hk : k.toNat < ds.length := by omega
    refine ⟨_, rfl, p, _, _, _, rfl, rfl, SqL.of hp', at_of (j := 0) rfl rfl, _, rfl, l, _, _, _, rfl, rfl, SqL.of hd', at_of (j := k.toNat) (v := V.int ds[k.toNat]) (by omega) (by rw [List.getElem?_map, List.getElem?_eq_getElem hk] <;> rfl), ?_⟩
    refine .inl ⟨_, rfl, _, rfl, _, _, rfl, rfl, hm, ?_⟩
    exact q _ _ (Int.emod_nonneg _ (by omega)) (Int.emod_lt_of_pos _ hm) B' Keep.upd
  · exact q 0 _ (Int.le_refl 0) hm B' Keep.upd
theorem cell_log {ns : List Int} {c : Int} (hb : ∀ z ∈ ns, Builtin.Int.intBits z ≤ 1048576) (h : c = 0 ∨ c ∈ ns) : c.natAbs.log2 ≤ 1048576 := by
  rcases h with rfl | h
  · decide
  · exact bits_log (hb c h)
theorem map_append1 (ds : List Int) (z : Int) : ds.map V.int ++ [V.int z] = (ds ++ [z]).map V.int := by rw [List.map_append]; rfl
theorem ok__law_digits (T : Tx K mg) : FnOk P w K mg base CX0 2 T.d__law_digits.f T.d__law_digits.fd P__law_digits (spDigits K) := by
  have G__law_cell := ok__law_cell (P := P) (w := w) (base := base) T
  refine T.d__law_digits.F.ok sc__law_digits (fun vs H Q E h => ?_) (fun cdv A outer s H vs Q E hr h => ?_)
  · obtain ⟨a, ns, rfl, _⟩ := h
    rfl
  obtain ⟨a, ns, rfl, hS, h63, hb, q⟩ := h
  refine ⟨_, (pss_cons (ps_set (i := 3) sc__law_digits.nd rfl (Or.inl rfl) (pe_lst pa_nil))
    (pss_cons (ps_for PassesOwn.never rfl (pi_range2 (by rfl) T.z_range (pa_cons (pv 1) (pa_cons (pv 2) pa_nil))) (pg_name (i := 4) sc__law_digits.nd rfl (Or.inl rfl))
      (pss_cons (ps_set (i := 5) sc__law_digits.nd rfl (Or.inl rfl) (pe_call G__law_cell (hr.mono (by omega)) (by rfl) T.d__law_cell.m T.d__law_cell.F.kp T.d__law_cell.b .nil pass0 (pa_cons (pv 0) (pa_cons (pv 4) pa_nil))))
    (pss_cons (ps_if (pt_cmpR op_lt (pv 5) pe_int (nomark _))
      (pss_one (ps_set (i := 5) sc__law_digits.nd rfl (Or.inl rfl) (pe_op op_sub pe_int (pe_op op_mulX pe_int (pv 5)))))
      pss_nil)
    (pss_one (ps_if (pt_cmpR op_ge (pv 5) (pe_op op_pow pe_int pe_int) (nomark _))
      (pss_one (ps_for PassesOwn.never rfl (pi_range1 (by rfl) T.z_range (pa_cons pe_int pa_nil)) (pg_name (i := 6) sc__law_digits.nd rfl (Or.inl rfl))
      (pss_one (ps_if (pt_cmpR op_gt (pv 5) pe_int (nomark _))
      (pss_cons (ps_expr (pe_bm PySem.F.plainAttrs_list PySem.F.slot_list_append PySem.F.type_list_append mt_append (pv 3) (pa_cons (pe_op op_mod (pe_callTy call_int1 (by rfl) T.z_int (by decide +kernel) (pa_cons (pv 5) pa_nil)) pe_int) pa_nil)))
    (pss_one (ps_set (i := 5) sc__law_digits.nd rfl (Or.inl rfl) (pe_op op_fdiv (pv 5) pe_int))))
      pss_nil))))
      (pss_cons (ps_set (i := 7) sc__law_digits.nd rfl (Or.inl rfl) (pe_op op_mod (pe_callTy call_int1 (by rfl) T.z_int (by decide +kernel) (pa_cons (pe_op op_add (pe_op op_add (pe_op op_mulX (pv 5) pe_int) (pe_op op_mulX (pv 4) pe_int)) pe_int) pa_nil)) pe_int))
    (pss_one (ps_for PassesOwn.never rfl (pi_range1 (by rfl) T.z_range (pa_cons pe_int pa_nil)) (pg_name (i := 6) sc__law_digits.nd rfl (Or.inl rfl))
      (pss_cons (ps_set (i := 7) sc__law_digits.nd rfl (Or.inl rfl) (pe_op op_mod (pe_callTy call_int1 (by rfl) T.z_int (by decide +kernel) (pa_cons (pe_op op_add (pe_op op_add (pe_op op_mulX (pv 7) pe_int) (pe_op op_mulX pe_int (pv 6))) pe_int) pa_nil)) pe_int))
    (pss_one (ps_expr (pe_bm PySem.F.plainAttrs_list PySem.F.slot_list_append PySem.F.type_list_append mt_append (pv 3) (pa_cons (pe_op op_mod (pe_callTy call_int1 (by rfl) T.z_int (by decide +kernel) (pa_cons (pe_op op_fdiv (pv 7) pe_int) pa_nil)) pe_int) pa_nil)))))))))))))
    (pss_one (ps_ret (pv 3))))), ?_⟩
  refine ⟨(by show 0 ≤ sizeLine; decide), fun l hl => ?_⟩
  have s0 := same_new hl (.lst [])
  refine ⟨_, rfl, _, rfl, _, _, rfl, by decide, for_range (lo := 0) (n := 63) (fun i σ H1 => ∃ (ds : List Int) (v4 v5 v6 v7 : Option V), σ = [some (.ref a), some (.int 0), some (.int 63), some (.ref l), v4, v5, v6, v7] ∧ Same H H1 ∧ H1 l = some (.lst (ds.map V.int)) ∧ ds.length ≤ 60 * i)
    ⟨[], none, none, none, none, rfl, s0, upd_same, Nat.le_refl 0⟩ ?_ ?_⟩
  · rintro i σ H1 hi ⟨ds, v4, v5, v6, v7, rfl, s1, h1, hn⟩
    -- cell = _law_cell(script, k)
    refine ⟨_, rfl, _, rfl, a, ns, _, rfl, s1.seq hS, by omega, fun c hc => ?_⟩
    have hlog := cell_log hb hc
    refine ⟨_, rfl, _, _, rfl, rfl, _, rfl, ?_⟩
    have e2 : (2 : Int).natAbs.log2 = 1 := by decide
    refine ite2 (fun e0 => ?g1) (fun e0 => ?g2)
    case g1 =>
      have e0' : c < 0 := of_decide_eq_true e0
      refine ⟨_, rfl, _, _, rfl, rfl, (by unfold CMulX; omega), _, _, rfl, rfl, ?_⟩
      have hc0 : 0 ≤ 1 - 2 * c := by omega
      dsimp only
      generalize (1 - 2 * c : Int) = c2 at hc0 ⊢
      refine ⟨_, rfl, _, _, rfl, rfl, ⟨by decide, by decide, by decide⟩, _, _, rfl, rfl, _, rfl, ?_⟩
      refine ite2 (fun e1 => ?_) (fun e1 => ?_)
      · refine ⟨60, rfl, by decide, by decide, for_range (lo := 0) (n := 60) (fun j σ H2 => ∃ (ds : List Int) (c3 : Int) (v4 v6 v7 : Option V), σ = [some (.ref a), some (.int 0), some (.int 63), some (.ref l), v4, some (.int c3), v6, v7] ∧ Same H H2 ∧ H2 l = some (.lst (ds.map V.int)) ∧ ds.length ≤ 60 * i + j)
          ⟨ds, c2, _, _, _, rfl, s1, h1, hn⟩ ?_ ?_⟩
        · rintro j σ H2 hj ⟨ds, c3, v4, v6, v7, rfl, s2, h2, hn⟩
          refine ⟨_, rfl, _, _, rfl, rfl, _, rfl, ?_⟩
          refine ite2 (fun e3 => ?_) (fun e3 => ?_)
          · refine ⟨_, rfl, .inl ⟨rfl, _, SqL.of h2⟩, _, rfl, .inl ⟨_, rfl, _, _, rfl, rfl, (by show (0 : Int) < 1000; decide), l, _, _, rfl, rfl, h2, (by rw [List.length_map]; exact lines (by omega)), ?_⟩⟩
            refine ⟨_, rfl, _, _, rfl, rfl, ⟨by decide, by decide⟩, ?_⟩
            exact ⟨ds ++ [c3 % 1000], _, _, _, _, rfl, same_upd s2 hl, by rw [upd_same, map_append1], by rw [List.length_append, List.length_singleton]; omega⟩
          · exact ⟨ds, c3, _, _, _, rfl, s2, h2, by omega⟩
        · rintro σ H2 ⟨ds, c3, v4, v6, v7, rfl, s2, h2, hn⟩
          exact ⟨ds, _, _, _, _, rfl, s2, h2, by omega⟩
      · have e1' : ¬ (10 : Int) ^ (18 : Int).toNat ≤ c2 := of_decide_eq_false (Bool.eq_false_iff.mpr e1)
        have e18 : (10 : Int) ^ (18 : Int).toNat = 1000000000000000000 := by decide
        rw [e18] at e1'
        refine ⟨_, rfl, _, _, rfl, rfl, mulX_small (by omega) (by decide), _, rfl, _, _, rfl, rfl, mulX_small (by omega) (by decide), _, _, rfl, rfl, _, _, rfl, rfl, .inl ⟨_, rfl, _, _, rfl, rfl, (by show (0 : Int) < 2147483647; decide), ?_⟩⟩
        refine ⟨12, rfl, by decide, by decide, for_range (lo := 0) (n := 12) (fun j σ H2 => ∃ (ds : List Int) (z : Int) (v4 v5 v6 : Option V), σ = [some (.ref a), some (.int 0), some (.int 63), some (.ref l), v4, v5, v6, some (.int z)] ∧ Same H H2 ∧ H2 l = some (.lst (ds.map V.int)) ∧ ds.length ≤ 60 * i + j ∧ 0 ≤ z ∧ z < 2147483647)
          ⟨ds, _, _, _, _, rfl, s1, h1, hn, Int.emod_nonneg _ (by decide), Int.emod_lt_of_pos _ (by decide)⟩ ?_ ?_⟩
        · rintro j σ H2 hj ⟨ds, z, v4, v5, v6, rfl, s2, h2, hn, hz0, hz1⟩
          refine ⟨_, rfl, _, _, rfl, rfl, mulX_small (by omega) (by decide), _, rfl, _, _, rfl, rfl, mulX_small (by decide) (by omega), _, _, rfl, rfl, _, _, rfl, rfl, .inl ⟨_, rfl, _, _, rfl, rfl, (by show (0 : Int) < 2147483647; decide), ?_⟩⟩
          refine ⟨_, rfl, .inl ⟨rfl, _, SqL.of h2⟩, _, rfl, _, _, rfl, rfl, ⟨by decide, by decide⟩, .inl ⟨_, rfl, _, _, rfl, rfl, (by show (0 : Int) < 1000; decide), l, _, _, rfl, rfl, h2, (by rw [List.length_map]; exact lines (by omega)), ?_⟩⟩
          exact ⟨ds ++ [_], _, _, _, _, rfl, same_upd s2 hl, by rw [upd_same, map_append1], by rw [List.length_append, List.length_singleton]; omega, Int.emod_nonneg _ (by decide), Int.emod_lt_of_pos _ (by decide)⟩
        · rintro σ H2 ⟨ds, z, v4, v5, v6, rfl, s2, h2, hn, hz0, hz1⟩
          exact ⟨ds, _, _, _, _, rfl, s2, h2, by omega⟩
    case g2 =>
      have hc0 : 0 ≤ c := by
        have e0' : ¬ c < 0 := of_decide_eq_false (Bool.eq_false_iff.mpr e0)
        omega
      obtain ⟨c2, rfl⟩ : ∃ c2, c2 = c := ⟨c, rfl⟩
      refine ⟨_, rfl, _, _, rfl, rfl, ⟨by decide, by decide, by decide⟩, _, _, rfl, rfl, _, rfl, ?_⟩
      refine ite2 (fun e1 => ?_) (fun e1 => ?_)
      · refine ⟨60, rfl, by decide, by decide, for_range (lo := 0) (n := 60) (fun j σ H2 => ∃ (ds : List Int) (c3 : Int) (v4 v6 v7 : Option V), σ = [some (.ref a), some (.int 0), some (.int 63), some (.ref l), v4, some (.int c3), v6, v7] ∧ Same H H2 ∧ H2 l = some (.lst (ds.map V.int)) ∧ ds.length ≤ 60 * i + j)
          ⟨ds, c2, _, _, _, rfl, s1, h1, hn⟩ ?_ ?_⟩
        · rintro j σ H2 hj ⟨ds, c3, v4, v6, v7, rfl, s2, h2, hn⟩
          refine ⟨_, rfl, _, _, rfl, rfl, _, rfl, ?_⟩
          refine ite2 (fun e3 => ?_) (fun e3 => ?_)
          · refine ⟨_, rfl, .inl ⟨rfl, _, SqL.of h2⟩, _, rfl, .inl ⟨_, rfl, _, _, rfl, rfl, (by show (0 : Int) < 1000; decide), l, _, _, rfl, rfl, h2, (by rw [List.length_map]; exact lines (by omega)), ?_⟩⟩
            refine ⟨_, rfl, _, _, rfl, rfl, ⟨by decide, by decide⟩, ?_⟩
            exact ⟨ds ++ [c3 % 1000], _, _, _, _, rfl, same_upd s2 hl, by rw [upd_same, map_append1], by rw [List.length_append, List.length_singleton]; omega⟩
          · exact ⟨ds, c3, _, _, _, rfl, s2, h2, by omega⟩
        · rintro σ H2 ⟨ds, c3, v4, v6, v7, rfl, s2, h2, hn⟩
          exact ⟨ds, _, _, _, _, rfl, s2, h2, by omega⟩
      · have e1' : ¬ (10 : Int) ^ (18 : Int).toNat ≤ c2 := of_decide_eq_false (Bool.eq_false_iff.mpr e1)
        have e18 : (10 : Int) ^ (18 : Int).toNat = 1000000000000000000 := by decide
        rw [e18] at e1'
        refine ⟨_, rfl, _, _, rfl, rfl, mulX_small (by omega) (by decide), _, rfl, _, _, rfl, rfl, mulX_small (by omega) (by decide), _, _, rfl, rfl, _, _, rfl, rfl, .inl ⟨_, rfl, _, _, rfl, rfl, (by show (0 : Int) < 2147483647; decide), ?_⟩⟩
        refine ⟨12, rfl, by decide, by decide, for_range (lo := 0) (n := 12) (fun j σ H2 => ∃ (ds : List Int) (z : Int) (v4 v5 v6 : Option V), σ = [some (.ref a), some (.int 0), some (.int 63), some (.ref l), v4, v5, v6, some (.int z)] ∧ Same H H2 ∧ H2 l = some (.lst (ds.map V.int)) ∧ ds.length ≤ 60 * i + j ∧ 0 ≤ z ∧ z < 2147483647)
          ⟨ds, _, _, _, _, rfl, s1, h1, hn, Int.emod_nonneg _ (by decide), Int.emod_lt_of_pos _ (by decide)⟩ ?_ ?_⟩
        · rintro j σ H2 hj ⟨ds, z, v4, v5, v6, rfl, s2, h2, hn, hz0, hz1⟩
          refine ⟨_, rfl, _, _, rfl, rfl, mulX_small (by omega) (by decide), _, rfl, _, _, rfl, rfl, mulX_small (by decide) (by omega), _, _, rfl, rfl, _, _, rfl, rfl, .inl ⟨_, rfl, _, _, rfl, rfl, (by show (0 : Int) < 2147483647; decide), ?_⟩⟩
          refine ⟨_, rfl, .inl ⟨rfl, _, SqL.of h2⟩, _, rfl, _, _, rfl, rfl, ⟨by decide, by decide⟩, .inl ⟨_, rfl, _, _, rfl, rfl, (by show (0 : Int) < 1000; decide), l, _, _, rfl, rfl, h2, (by rw [List.length_map]; exact lines (by omega)), ?_⟩⟩
          exact ⟨ds ++ [_], _, _, _, _, rfl, same_upd s2 hl, by rw [upd_same, map_append1], by rw [List.length_append, List.length_singleton]; omega, Int.emod_nonneg _ (by decide), Int.emod_lt_of_pos _ (by decide)⟩
        · rintro σ H2 ⟨ds, z, v4, v5, v6, rfl, s2, h2, hn, hz0, hz1⟩
          exact ⟨ds, _, _, _, _, rfl, s2, h2, by omega⟩
  · rintro σ H1 ⟨ds, v4, v5, v6, v7, rfl, s1, h1, hn⟩
    exact ⟨_, rfl, q l ds H1 hl h1 s1⟩
/-! ### a drawn number -/
theorem e60 : (10 : Int) ^ (60 : Int).toNat = 1000000000000000000000000000000000000000000000000000000000000 := by decide +kernel
theorem e27 : (10 : Int) ^ (27 : Int).toNat = 1000000000000000000000000000 := by decide +kernel
theorem e28 : (10 : Int) ^ (28 : Int).toNat = 10000000000000000000000000000 := by decide +kernel
theorem e12 : (10 : Int) ^ (12 : Int).toNat = 1000000000000 := by decide +kernel
theorem powC {j : Int} (h0 : 0 ≤ j) (h : j ≤ 1000000) : CPow 10 j := ⟨h0, h, by decide⟩
def spNumber : Sp := fun vs H Q _ => ∃ (p l : Addr), vs = [.ref p] ∧ BoxAt H p l ∧ ∀ (z : Int) (H' : Hp), z.natAbs < 1000000000000000000000000000000000000000000000000000000000000 → BoxAt H' p l → Keep p H H' → Q (.int z) H'
theorem dec_eq_int {i j : Int} (h : decide (V.int i = V.int j) = true) : i = j := V.int.inj (of_decide_eq_true h)
theorem ok__law_number (T : Tx K mg) : FnOk P w K mg base CX0 2 T.d__law_number.f T.d__law_number.fd P__law_number spNumber := by
  have G__law_draw := ok__law_draw (P := P) (w := w) (base := base) T
  refine T.d__law_number.F.ok sc__law_number (fun vs H Q E h => ?_) (fun cdv A outer s H vs Q E hr h => ?_)
  · obtain ⟨p, l, rfl, _⟩ := h
    rfl
  obtain ⟨p, l, rfl, B, q⟩ := h
  refine ⟨_, (pss_cons (ps_set (i := 1) sc__law_number.nd rfl (Or.inl rfl) (pe_call G__law_draw (hr.mono (by omega)) (by rfl) T.d__law_draw.m T.d__law_draw.F.kp T.d__law_draw.b .nil pass0 (pa_cons (pv 0) (pa_cons pe_int pa_nil))))
    (pss_cons (ps_set (i := 2) sc__law_number.nd rfl (Or.inl rfl) (pe_call G__law_draw (hr.mono (by omega)) (by rfl) T.d__law_draw.m T.d__law_draw.F.kp T.d__law_draw.b .nil pass0 (pa_cons (pv 0) (pa_cons pe_int pa_nil))))
    (pss_cons (ps_if (pt_cmpR op_eq (pv 1) pe_int (nomark _))
      (pss_one (ps_ret (pe_op op_sub (pe_op op_sub (pe_op op_pow pe_int pe_int) pe_int) (pe_op op_mod (pv 2) pe_int))))
      pss_nil)
    (pss_cons (ps_if (pt_cmpR op_eq (pv 1) pe_int (nomark _))
      (pss_one (ps_ret (pe_op op_sub (pe_op op_add (pe_op op_mod (pv 2) pe_int) pe_int) (pe_op op_pow pe_int pe_int))))
      pss_nil)
    (pss_cons (ps_if (pt_cmpR op_eq (pv 1) pe_int (nomark _))
      (pss_one (ps_ret (pe_op op_add (pe_op op_add (pe_op op_mulX (pv 2) (pe_op op_pow pe_int pe_int)) (pe_op op_mulX (pe_call G__law_draw (hr.mono (by omega)) (by rfl) T.d__law_draw.m T.d__law_draw.F.kp T.d__law_draw.b .nil pass0 (pa_cons (pv 0) (pa_cons pe_int pa_nil))) (pe_op op_pow pe_int pe_int))) (pe_call G__law_draw (hr.mono (by omega)) (by rfl) T.d__law_draw.m T.d__law_draw.F.kp T.d__law_draw.b .nil pass0 (pa_cons (pv 0) (pa_cons pe_int pa_nil))))))
      pss_nil)
    (pss_cons (ps_if (pt_cmpR op_eq (pv 1) pe_int (nomark _))
      (pss_one (ps_ret (pe_op op_sub (pe_op op_sub pe_int (pe_op op_mulX (pv 2) (pe_op op_pow pe_int pe_int))) (pe_call G__law_draw (hr.mono (by omega)) (by rfl) T.d__law_draw.m T.d__law_draw.F.kp T.d__law_draw.b .nil pass0 (pa_cons (pv 0) (pa_cons pe_int pa_nil))))))
      pss_nil)
    (pss_cons (ps_if (pt_cmpR op_eq (pv 1) pe_int (nomark _))
      (pss_one (ps_ret (pe_op op_sub pe_int (pv 2))))
      pss_nil)
    (pss_cons (ps_if (pt_cmpR op_eq (pv 1) pe_int (nomark _))
      (pss_one (ps_ret (pe_op op_mod (pv 2) pe_int)))
      pss_nil)
    (pss_one (ps_ret (pv 2))))))))))), ?_⟩
  refine ⟨_, rfl, p, l, _, rfl, by decide, B, fun kd H1 a0 a1 B1 k1 => ?_⟩
  refine ⟨_, rfl, p, l, _, rfl, by decide, B1, fun sz H2 b0 b1 B2 k2 => ?_⟩
  have k12 := k1.trans k2
  refine ⟨_, rfl, rfl, _, rfl, ite2 (fun _ => ?_) (fun _ => ?_)⟩
  · refine ⟨_, _, rfl, rfl, powC (by decide) (by decide), _, _, rfl, rfl, _, rfl, _, _, rfl, rfl, (by show (0 : Int) < 3; decide), _, _, rfl, rfl, ?_⟩
    exact q _ _ (by rw [e60]; omega) B2 k12
  refine ⟨_, rfl, rfl, _, rfl, ite2 (fun _ => ?_) (fun _ => ?_)⟩
  · refine ⟨_, rfl, _, _, rfl, rfl, (by show (0 : Int) < 3; decide), _, _, rfl, rfl, _, _, rfl, rfl, powC (by decide) (by decide), _, _, rfl, rfl, ?_⟩
    exact q _ _ (by rw [e60]; omega) B2 k12
  refine ⟨_, rfl, rfl, _, rfl, ite2 (fun _ => ?_) (fun _ => ?_)⟩
  · refine ⟨_, rfl, _, _, rfl, rfl, powC (by decide) (by decide), _, _, rfl, rfl, mulX_small (by omega) (by rw [e27]; decide), ?_⟩
    refine ⟨_, rfl, p, l, _, rfl, by decide, B2, fun c1 H3 c0 c2 B3 k3 => ?_⟩
    refine ⟨_, _, rfl, rfl, powC (by decide) (by decide), _, _, rfl, rfl, mulX_small (by omega) (by rw [e12]; decide), _, _, rfl, rfl, ?_⟩
    refine ⟨_, rfl, p, l, _, rfl, by decide, B3, fun c3 H4 c4 c5 B4 k4 => ?_⟩
    refine ⟨_, _, rfl, rfl, ?_⟩
    exact q _ _ (by rw [e27, e12]; omega) B4 ((k12.trans k3).trans k4)
  refine ⟨_, rfl, rfl, _, rfl, ite2 (fun _ => ?_) (fun _ => ?_)⟩
  · refine ⟨_, rfl, _, _, rfl, rfl, powC (by decide) (by decide), _, _, rfl, rfl, mulX_small (by omega) (by rw [e28]; decide), _, _, rfl, rfl, ?_⟩
    refine ⟨_, rfl, p, l, _, rfl, by decide, B2, fun c1 H3 c0 c2 B3 k3 => ?_⟩
    refine ⟨_, _, rfl, rfl, ?_⟩
    exact q _ _ (by rw [e28]; omega) B3 (k12.trans k3)
  refine ⟨_, rfl, rfl, _, rfl, ite2 (fun _ => ?_) (fun _ => ?_)⟩
  · refine ⟨_, rfl, _, _, rfl, rfl, ?_⟩
    exact q _ _ (by omega) B2 k12
  refine ⟨_, rfl, rfl, _, rfl, ite2 (fun _ => ?_) (fun _ => ?_)⟩
  · refine ⟨_, rfl, _, _, rfl, rfl, (by show (0 : Int) < 3; decide), ?_⟩
    exact q _ _ (by omega) B2 k12
  refine ⟨_, rfl, ?_⟩
  exact q _ _ (by omega) B2 k12
/-! ### the values of programs, as data -/
mutual
theorem dp_same {K : PySem.W.Frag} {H H' : Hp} (s : Same H H') : ∀ {v : V} {d : PyData}, Dp K H v d → Dp K H' v d
  | _, _, .non => .non
  | _, _, .bl b => .bl b
  | _, _, .int i => .int i
  | _, _, .str x => .str x
  | _, _, .lst h a => .lst (s.seq h) (dp_sames s a)
  | _, _, .tup h a => .tup (by
      rcases h with (h | ⟨o, h⟩) | h
      · exact .inl (.inl (s _ _ h))
      · exact .inl (.inr ⟨o, s _ _ h⟩)
      · exact .inr h) (dp_sames s a)
theorem dp_sames {K : PySem.W.Frag} {H H' : Hp} (s : Same H H') : ∀ {vs : List V} {ds : List PyData}, DpAll K H vs ds → DpAll K H' vs ds
  | _, _, .nil => .nil
  | _, _, .cons a b => .cons (dp_same s a) (dp_sames s b)
end
inductive Vl where
  | non
  | bl (b : Bool)
  | int (n : Int)
  | txt (s : Str)
  | obj (t : PyData) (n : Int)
def Vl.kind : Vl → Str
  | .non => "none"
  | .bl _ => "bool"
  | .int _ => "int"
  | .txt _ => "text"
  | .obj _ _ => "object"
def Vl.rest : Vl → List PyData
  | .non => []
  | .bl b => [.bool b]
  | .int n => [.int n]
  | .txt s => [.str s]
  | .obj t n => [t, .int n]
def Vl.d (a : Vl) : PyData := .tuple (.str a.kind :: a.rest)
theorem dp_tup {K : PySem.W.Frag} {H : Hp} {x : V} {ds : List PyData} (h : Dp K H x (.tuple ds)) : ∃ (p : Addr) (xs : List V), x = .ref p ∧ SqT K H p xs ∧ DpAll K H xs ds := by
  cases h with
  | tup a b => exact ⟨_, _, rfl, a, b⟩
/-- a value is a tuple whose first item is its kind -/
theorem vl_at {K : PySem.W.Frag} {H : Hp} {x : V} {a : Vl} (h : Dp K H x a.d) : ∃ (p : Addr) (xs : List V), x = .ref p ∧ SqT K H p (.str a.kind :: xs) ∧ DpAll K H xs a.rest := by
  obtain ⟨p, xs, rfl, hs, ha⟩ := dp_tup h
  cases ha with
  | cons h1 h2 =>
    cases h1
    exact ⟨p, _, rfl, hs, h2⟩
theorem int_at {K : PySem.W.Frag} {H : Hp} {x : V} {n : Int} (h : Dp K H x (Vl.int n).d) : ∃ (p : Addr), x = .ref p ∧ SqT K H p [.str "int", .int n] := by
  obtain ⟨p, xs, rfl, hs, ha⟩ := vl_at h
  cases ha with
  | cons h1 h2 =>
    cases h1
    cases h2
    exact ⟨p, rfl, hs⟩
theorem txt_at {K : PySem.W.Frag} {H : Hp} {x : V} {z : Str} (h : Dp K H x (Vl.txt z).d) : ∃ (p : Addr), x = .ref p ∧ SqT K H p [.str "text", .str z] := by
  obtain ⟨p, xs, rfl, hs, ha⟩ := vl_at h
  cases ha with
  | cons h1 h2 =>
    cases h1
    cases h2
    exact ⟨p, rfl, hs⟩
theorem bl_at {K : PySem.W.Frag} {H : Hp} {x : V} {b : Bool} (h : Dp K H x (Vl.bl b).d) : ∃ (p : Addr), x = .ref p ∧ SqT K H p [.str "bool", .bl b] := by
  obtain ⟨p, xs, rfl, hs, ha⟩ := vl_at h
  cases ha with
  | cons h1 h2 =>
    cases h1
    cases h2
    exact ⟨p, rfl, hs⟩
/-- the value that a scalar is -/
inductive Sc : V → PyData → Prop
  | bl (b : Bool) : Sc (.bl b) (.bool b)
  | int (i : Int) : Sc (.int i) (.int i)
  | str (x : Str) : Sc (.str x) (.str x)
theorem Sc.dp {K : PySem.W.Frag} {H : Hp} {v : V} {d : PyData} : Sc v d → Dp K H v d
  | .bl b => .bl b
  | .int i => .int i
  | .str x => .str x
theorem dp_two {K : PySem.W.Frag} {H : Hp} {p : Addr} {k : Str} {v : V} {d : PyData} (h : H p = some (.tup [.str k, v])) (s : Dp K H v d) : Dp K H (.ref p) (.tuple [.str k, d]) :=
  .tup (SqT.of h) (.cons (.str k) (.cons s .nil))
/-- a new pair (k, v); then a new pair of a text and it -/
theorem new_two {K : PySem.W.Frag} {H : Hp} {p r : Addr} {k m : Str} {v : V} {d : PyData} (sc : Sc v d) (h1 : H p = none) (h2 : upd H p (.tup [.str k, v]) r = none) :
    Same H (upd (upd H p (.tup [.str k, v])) r (.tup [.str m, .ref p])) ∧ Dp K (upd (upd H p (.tup [.str k, v])) r (.tup [.str m, .ref p])) (.ref r) (.tuple [.str m, .tuple [.str k, d]]) := by
  have s2 := same_new h2 (.tup [.str m, .ref p])
  refine ⟨(same_new h1 _).trans s2, dp_two upd_same (dp_two (s2 _ _ upd_same) sc.dp)⟩
theorem new_one {K : PySem.W.Frag} {H : Hp} {p : Addr} {k : Str} {v : V} {d : PyData} (sc : Sc v d) (h1 : H p = none) :
    Same H (upd H p (.tup [.str k, v])) ∧ Dp K (upd H p (.tup [.str k, v])) (.ref p) (.tuple [.str k, d]) := ⟨same_new h1 _, dp_two upd_same sc.dp⟩
theorem one_le : 1 ≤ sizeLine := by decide
theorem two_le : 2 ≤ sizeLine := by decide
theorem three_le : 3 ≤ sizeLine := by decide
theorem four_le : 4 ≤ sizeLine := by decide
/-- what a def does that makes tuples and changes nothing -/
abbrev Gives (K : PySem.W.Frag) (H : Hp) (d : PyData) (Q : VK) : Prop := ∀ (v : V) (H' : Hp), Same H H' → Dp K H' v d → Q v H'
/-! ### the law's own comparison -/
mutual
def sameD : PyData → PyData → Bool
  | .none, .none => true
  | .bool a, .bool b => a == b
  | .int a, .int b => a == b
  | .str a, .str b => a == b
  | .tuple xs, .tuple ys => sameAll xs ys
  | _, _ => false
def sameAll : List PyData → List PyData → Bool
  | [], [] => true
  | x :: xs, y :: ys => sameD x y && sameAll xs ys
  | _, _ => false
end
theorem sameAll_nil : sameAll [] [] = true := by simp [sameAll]
theorem sameAll_cons (x y : PyData) (xs ys : List PyData) : sameAll (x :: xs) (y :: ys) = (sameD x y && sameAll xs ys) := by simp [sameAll]
theorem sameAll_nc (y : PyData) (ys : List PyData) : sameAll [] (y :: ys) = false := by simp [sameAll]
theorem sameAll_cn (x : PyData) (xs : List PyData) : sameAll (x :: xs) [] = false := by simp [sameAll]
theorem sameD_tup (xs ys : List PyData) : sameD (.tuple xs) (.tuple ys) = sameAll xs ys := by simp [sameD]
theorem sameAll_true : ∀ {ds es : List PyData}, ds.length = es.length → (∀ (j : Nat) (d e : PyData), ds[j]? = some d → es[j]? = some e → sameD d e = true) → sameAll ds es = true
  | [], [], _, _ => sameAll_nil
  | [], _ :: _, h, _ => by simp at h
  | _ :: _, [], h, _ => by simp at h
  | d :: ds, e :: es, h, f => by
    rw [sameAll_cons, f 0 d e rfl rfl, sameAll_true (by simpa using h) fun j d' e' h1 h2 => f (j + 1) d' e' (by simpa using h1) (by simpa using h2)]
    rfl
theorem sameAll_false : ∀ {ds es : List PyData} {j : Nat} {d e : PyData}, ds[j]? = some d → es[j]? = some e → sameD d e = false → sameAll ds es = false
  | [], _, _, _, _, h, _, _ => by simp at h
  | _ :: _, [], _, _, _, _, h, _ => by simp at h
  | d :: ds, e :: es, 0, _, _, h1, h2, h3 => by
    have a := Option.some.inj h1
    have b := Option.some.inj h2
    subst a b
    rw [sameAll_cons, h3, Bool.false_and]
  | d :: ds, e :: es, j + 1, _, _, h1, h2, h3 => by
    rw [sameAll_cons, sameAll_false (j := j) (by simpa using h1) (by simpa using h2) h3, Bool.and_false]
theorem sameAll_len : ∀ {ds es : List PyData}, ds.length ≠ es.length → sameAll ds es = false
  | [], [], h => absurd rfl h
  | [], _ :: _, _ => sameAll_nc _ _
  | _ :: _, [], _ => sameAll_cn _ _
  | d :: ds, e :: es, h => by rw [sameAll_cons, sameAll_len (fun q => h (by simpa using q)), Bool.and_false]
/-- data of texts, numbers, bools, None and tuples, less than n deep -/
def okD : Nat → PyData → Bool
  | 0, _ => false
  | _ + 1, .none => true
  | _ + 1, .bool _ => true
  | _ + 1, .int _ => true
  | _ + 1, .str _ => true
  | n + 1, .tuple xs => decide (xs.length ≤ 1000) && xs.all (okD n)
  | _ + 1, _ => false
theorem okD_tup {n : Nat} {xs : List PyData} (h : okD (n + 1) (.tuple xs) = true) : xs.length ≤ 1000 ∧ ∀ x ∈ xs, okD n x = true := by
  simp only [okD, Bool.and_eq_true, decide_eq_true_eq, List.all_eq_true] at h
  exact h
def tyN : PyData → String
  | .none => "NoneType"
  | .bool _ => "bool"
  | .int _ => "int"
  | .str _ => "str"
  | .list _ => "list"
  | .tuple _ => "tuple"
  | .dict _ => "dict"
theorem dpAll_len {K : PySem.W.Frag} {H : Hp} : ∀ {xs : List V} {ds : List PyData}, DpAll K H xs ds → xs.length = ds.length
  | _, _, .nil => rfl
  | _, _, .cons _ t => congrArg (· + 1) (dpAll_len t)
theorem dpAll_get {K : PySem.W.Frag} {H : Hp} : ∀ {xs : List V} {ds : List PyData} {j : Nat} {d : PyData}, DpAll K H xs ds → ds[j]? = some d → ∃ v, xs[j]? = some v ∧ Dp K H v d
  | _, _, _, _, .nil, h => by simp at h
  | _, _, 0, _, .cons a _, h => by
    have e := Option.some.inj h
    subst e
    exact ⟨_, rfl, a⟩
  | _, _, j + 1, _, .cons _ t, h => by
    obtain ⟨v, h1, h2⟩ := dpAll_get (j := j) t (by simpa using h)
    exact ⟨v, by simpa using h1, h2⟩
theorem ty_of {K : PySem.W.Frag} {H : Hp} {x : V} {d : PyData} {m : Nat} (h : Dp K H x d) (ok : okD m d = true) : TyX K H x (.type (tyN d)) := by
  cases m with
  | zero => simp [okD] at ok
  | succ m =>
    cases h with
    | non => exact .base .non
    | bl b => exact .base (.bl b)
    | int i => exact .base (.int i)
    | str s => exact .base (.str s)
    | lst => simp [okD] at ok
    | tup hs _ =>
      rcases hs with (h | ⟨o, h⟩) | ⟨o, its, n, hk, hc, _⟩
      · exact .base (.tup h)
      · exact .fTuple h
      · exact .kTuple hk hc
theorem kt_NoneType_tuple {K : PySem.W.Frag} : PySem.W.kitOne K (.type "NoneType") (.type "tuple") = some false := kit_ty (by decide +kernel)
theorem kt_NoneType_bool {K : PySem.W.Frag} : PySem.W.kitOne K (.type "NoneType") (.type "bool") = some false := kit_ty (by decide +kernel)
theorem kt_NoneType_int {K : PySem.W.Frag} : PySem.W.kitOne K (.type "NoneType") (.type "int") = some false := kit_ty (by decide +kernel)
theorem kt_NoneType_str {K : PySem.W.Frag} : PySem.W.kitOne K (.type "NoneType") (.type "str") = some false := kit_ty (by decide +kernel)
theorem kt_bool_tuple {K : PySem.W.Frag} : PySem.W.kitOne K (.type "bool") (.type "tuple") = some false := kit_ty (by decide +kernel)
theorem kt_bool_bool {K : PySem.W.Frag} : PySem.W.kitOne K (.type "bool") (.type "bool") = some true := kit_ty (by decide +kernel)
theorem kt_bool_int {K : PySem.W.Frag} : PySem.W.kitOne K (.type "bool") (.type "int") = some true := kit_ty (by decide +kernel)
theorem kt_bool_str {K : PySem.W.Frag} : PySem.W.kitOne K (.type "bool") (.type "str") = some false := kit_ty (by decide +kernel)
theorem kt_int_tuple {K : PySem.W.Frag} : PySem.W.kitOne K (.type "int") (.type "tuple") = some false := kit_ty (by decide +kernel)
theorem kt_int_bool {K : PySem.W.Frag} : PySem.W.kitOne K (.type "int") (.type "bool") = some false := kit_ty (by decide +kernel)
theorem kt_int_int {K : PySem.W.Frag} : PySem.W.kitOne K (.type "int") (.type "int") = some true := kit_ty (by decide +kernel)
theorem kt_int_str {K : PySem.W.Frag} : PySem.W.kitOne K (.type "int") (.type "str") = some false := kit_ty (by decide +kernel)
theorem kt_str_tuple {K : PySem.W.Frag} : PySem.W.kitOne K (.type "str") (.type "tuple") = some false := kit_ty (by decide +kernel)
theorem kt_str_bool {K : PySem.W.Frag} : PySem.W.kitOne K (.type "str") (.type "bool") = some false := kit_ty (by decide +kernel)
theorem kt_str_int {K : PySem.W.Frag} : PySem.W.kitOne K (.type "str") (.type "int") = some false := kit_ty (by decide +kernel)
theorem kt_str_str {K : PySem.W.Frag} : PySem.W.kitOne K (.type "str") (.type "str") = some true := kit_ty (by decide +kernel)
theorem kt_tuple_tuple {K : PySem.W.Frag} : PySem.W.kitOne K (.type "tuple") (.type "tuple") = some true := kit_ty (by decide +kernel)
theorem kt_tuple_bool {K : PySem.W.Frag} : PySem.W.kitOne K (.type "tuple") (.type "bool") = some false := kit_ty (by decide +kernel)
theorem kt_tuple_int {K : PySem.W.Frag} : PySem.W.kitOne K (.type "tuple") (.type "int") = some false := kit_ty (by decide +kernel)
theorem kt_tuple_str {K : PySem.W.Frag} : PySem.W.kitOne K (.type "tuple") (.type "str") = some false := kit_ty (by decide +kernel)
def spSame (K : PySem.W.Frag) (n : Nat) : Sp := fun vs H Q _ => ∃ (x y : V) (d e : PyData) (m : Nat), vs = [x, y] ∧ Dp K H x d ∧ Dp K H y e ∧ okD m d = true ∧ okD n e = true ∧ Q (.bl (sameD d e)) H
theorem same_step (T : Tx K mg) {n : Nat} (G__law_same : FnOk P w K mg base CX0 n T.d__law_same.f T.d__law_same.fd P__law_same (spSame K n)) :
    FnOk P w K mg base CX0 (n + 1) T.d__law_same.f T.d__law_same.fd P__law_same (spSame K (n + 1)) := by
  refine T.d__law_same.F.ok sc__law_same (fun vs H Q E h => ?_) (fun cdv A outer s H vs Q E hr h => ?_)
  · obtain ⟨x, y, d, e, m, rfl, _⟩ := h
    rfl
  obtain ⟨x, y, d, e, m, rfl, hd, he, okd, oke, q⟩ := h
  refine ⟨_, (pss_cons (ps_if (pt_val (pe_callB call_isi (by rfl) T.z_isinstance (by decide +kernel) (pa_cons (pv 1) (pa_cons (pe_bltn (v := V.ty "tuple") (by rfl) T.z_tuple (by decide +kernel) rfl) pa_nil))))
      (pss_cons (ps_if (PW.pt (pw_or (pt_not (pt_val (pe_callB call_isi (by rfl) T.z_isinstance (by decide +kernel) (pa_cons (pv 0) (pa_cons (pe_bltn (v := V.ty "tuple") (by rfl) T.z_tuple (by decide +kernel) rfl) pa_nil))))) (pw_or1 (pt_cmpR op_ne (pe_callB call_len_seq (by rfl) T.z_len PySem.boot_len (pa_cons (pv 0) pa_nil)) (pe_callB call_len_seq (by rfl) T.z_len PySem.boot_len (pa_cons (pv 1) pa_nil)) (nomark _)))))
      (pss_one (ps_ret pe_bl))
      pss_nil)
    (pss_cons (ps_for PassesOwn.never rfl (pi_range1 (by rfl) T.z_range (pa_cons (pe_callB call_len_seq (by rfl) T.z_len PySem.boot_len (pa_cons (pv 1) pa_nil)) pa_nil)) (pg_name (i := 2) sc__law_same.nd rfl (Or.inl rfl))
      (pss_one (ps_if (pt_not (pt_val (pe_call G__law_same (hr.mono (by omega)) (by rfl) T.d__law_same.m T.d__law_same.F.kp T.d__law_same.b .nil pass0 (pa_cons (pe_ix ix_tup (pv 0) (pv 2) (fun _ _ => rfl)) (pa_cons (pe_ix ix_tup (pv 1) (pv 2) (fun _ _ => rfl)) pa_nil)))))
      (pss_one (ps_ret pe_bl))
      pss_nil)))
    (pss_one (ps_ret pe_bl))))
      pss_nil)
    (pss_cons (ps_if (pt_cmpR op_isN (pv 1) pe_non (nomark _))
      (pss_one (ps_ret (pe_cmpR op_isN (pv 0) pe_non (nomark _))))
      pss_nil)
    (pss_cons (ps_if (pt_val (pe_callB call_isi (by rfl) T.z_isinstance (by decide +kernel) (pa_cons (pv 1) (pa_cons (pe_bltn (v := V.ty "bool") (by rfl) T.z_bool (by decide +kernel) rfl) pa_nil))))
      (pss_one (ps_ret (pe_and (pe_callB call_isi (by rfl) T.z_isinstance (by decide +kernel) (pa_cons (pv 0) (pa_cons (pe_bltn (v := V.ty "bool") (by rfl) T.z_bool (by decide +kernel) rfl) pa_nil))) (pe_one (pe_cmpR op_eq (pv 0) (pv 1) (nomark _))))))
      pss_nil)
    (pss_cons (ps_if (pt_val (pe_callB call_isi (by rfl) T.z_isinstance (by decide +kernel) (pa_cons (pv 1) (pa_cons (pe_bltn (v := V.ty "int") (by rfl) T.z_int (by decide +kernel) rfl) pa_nil))))
      (pss_one (ps_ret (pe_and (pe_callB call_isi (by rfl) T.z_isinstance (by decide +kernel) (pa_cons (pv 0) (pa_cons (pe_bltn (v := V.ty "int") (by rfl) T.z_int (by decide +kernel) rfl) pa_nil))) (pe_and (pe_not (pe_callB call_isi (by rfl) T.z_isinstance (by decide +kernel) (pa_cons (pv 0) (pa_cons (pe_bltn (v := V.ty "bool") (by rfl) T.z_bool (by decide +kernel) rfl) pa_nil)))) (pe_one (pe_cmpR op_eq (pv 0) (pv 1) (nomark _)))))))
      pss_nil)
    (pss_one (ps_ret (pe_and (pe_callB call_isi (by rfl) T.z_isinstance (by decide +kernel) (pa_cons (pv 0) (pa_cons (pe_bltn (v := V.ty "str") (by rfl) T.z_str (by decide +kernel) rfl) pa_nil))) (pe_one (pe_cmpR op_eq (pv 0) (pv 1) (nomark _)))))))))), ?_⟩
  cases e with
  | list es => simp [okD] at oke
  | dict es => simp [okD] at oke
  | tuple es =>
    refine ⟨_, rfl, _, _, _, _, true, rfl, .ty _, ty_of he oke, kt_tuple_tuple, _, rfl, ifT rfl ?_⟩
    cases he with
    | @tup b ys _ hs ha =>
    have oke' := okD_tup oke
    have hys := dpAll_len ha
    have no : (∀ ds, d ≠ .tuple ds) → sameD d (.tuple es) = false := fun h => by
      cases d with
      | tuple ds => exact absurd rfl (h ds)
      | _ => simp [sameD]
    have ret : sameD d (.tuple es) = false → Q (.bl false) H := fun h => by
      rw [h] at q
      exact q
    by_cases ht : ∃ ds, d = .tuple ds
    · obtain ⟨ds, rfl⟩ := ht
      refine ⟨_, rfl, _, _, _, _, true, rfl, .ty _, ty_of hd okd, kt_tuple_tuple, _, rfl, iteF ?_⟩
      cases hd with
      | @tup a xs _ hsx hax =>
      have hxs := dpAll_len hax
      refine ⟨_, rfl, a, _, rfl, .inr hsx, _, rfl, b, _, rfl, .inr hs, rfl, _, rfl, ?_⟩
      by_cases hl : ds.length = es.length
      · refine ifF (by rw [hxs, hys, hl]; simp) ?_
        refine ⟨_, rfl, b, _, rfl, .inr hs, _, rfl, by omega, by omega, for_range (lo := 0) (n := ys.length) (fun i σ H1 => H1 = H ∧ (∃ v2, σ = [some (.ref a), some (.ref b), v2]) ∧ ∀ (j : Nat) (d e : PyData), j < i → ds[j]? = some d → es[j]? = some e → sameD d e = true)
          ⟨rfl, ⟨none, rfl⟩, fun j _ _ hj => absurd hj (Nat.not_lt_zero _)⟩ ?_ ?_⟩
        · rintro i σ H1 hi ⟨rfl, ⟨v2, rfl⟩, so⟩
          have hi1 : i < es.length := by omega
          have hi2 : i < ds.length := by omega
          have g1 : ds[i]? = some ds[i] := List.getElem?_eq_getElem hi2
          have g2 : es[i]? = some es[i] := List.getElem?_eq_getElem hi1
          obtain ⟨v, hv, dv⟩ := dpAll_get hax g1
          obtain ⟨u, hu, du⟩ := dpAll_get ha g2
          have okd' : ∃ m', okD m' ds[i] = true := by
            cases m with
            | zero => simp [okD] at okd
            | succ m => exact ⟨m, (okD_tup okd).2 _ (List.getElem_mem hi2)⟩
          obtain ⟨m', okd'⟩ := okd'
          refine ⟨_, rfl, _, rfl, a, _, _, _, rfl, rfl, hsx, at_of (j := i) (by omega) hv, _, rfl, _, rfl, b, _, _, _, rfl, rfl, hs, at_of (j := i) (by omega) hu, _, _, _, _, _, rfl, dv, du, okd', oke'.2 _ (List.getElem_mem hi1), _, rfl, ?_⟩
          cases hsd : sameD ds[i] es[i] with
          | true =>
            refine iteF ?_
            refine ⟨rfl, ⟨_, rfl⟩, fun j d e hj h1 h2 => ?_⟩
            by_cases hji : j = i
            · subst hji
              rw [g1] at h1
              rw [g2] at h2
              cases h1
              cases h2
              exact hsd
            · exact so j d e (by omega) h1 h2
          | false =>
            refine iteT ?_
            exact ret (by rw [sameD_tup]; exact sameAll_false g1 g2 hsd)
        · rintro σ H1 ⟨rfl, ⟨v2, rfl⟩, so⟩
          have z : sameD (.tuple ds) (.tuple es) = true := by
            rw [sameD_tup]
            refine sameAll_true hl fun j d e h1 h2 => so j d e ?_ h1 h2
            have := (List.getElem?_eq_some_iff.mp h2).1
            omega
          rw [z] at q
          exact q
      · refine ifT ?_ (ret (by rw [sameD_tup]; exact sameAll_len hl))
        have z : ¬ (V.int ((xs.length : Nat) : Int) = V.int ((ys.length : Nat) : Int)) := fun z => hl (by
          injection z with z
          omega)
        rw [decide_eq_false z]
        rfl
    · have hn : ∀ ds, d ≠ .tuple ds := fun ds h => ht ⟨ds, h⟩
      cases d with
      | tuple ds => exact absurd rfl (hn ds)
      | list ds => cases m <;> simp [okD] at okd
      | dict ds => cases m <;> simp [okD] at okd
      | _ =>
        refine ⟨_, rfl, _, _, _, _, false, rfl, .ty _, ty_of hd okd, (by first | exact kt_NoneType_tuple | exact kt_bool_tuple | exact kt_int_tuple | exact kt_str_tuple), _, rfl, iteT (iteT ?_)⟩
        exact ret (no hn)
  | none =>
    refine ⟨_, rfl, _, _, _, _, false, rfl, .ty _, ty_of he oke, kt_NoneType_tuple, _, rfl, iteF ?_⟩
    cases he
    refine ⟨_, rfl, rfl, _, rfl, ifT rfl ?_⟩
    refine ⟨_, rfl, rfl, ?_⟩
    have z : decide (x = V.non) = sameD d .none := by cases hd <;> simp [sameD]
    rw [z]
    exact q
  | bool b =>
    refine ⟨_, rfl, _, _, _, _, false, rfl, .ty _, ty_of he oke, kt_bool_tuple, _, rfl, iteF ?_⟩
    have he' := he
    cases he'
    refine ⟨_, rfl, rfl, _, rfl, ifF rfl ?_⟩
    refine ⟨_, rfl, _, _, _, _, true, rfl, .ty _, ty_of he oke, kt_bool_bool, _, rfl, iteT ?_⟩
    cases d with
    | list ds => cases m <;> simp [okD] at okd
    | dict ds => cases m <;> simp [okD] at okd
    | bool a =>
      refine ⟨_, rfl, _, _, _, _, true, rfl, .ty _, ty_of hd okd, kt_bool_bool, _, rfl, iteT ?_⟩
      cases hd
      refine ⟨_, rfl, _, rfl, rfl, ?_⟩
      rw [dec_bl]
      simp only [sameD] at q
      exact q
    | _ =>
      refine ⟨_, rfl, _, _, _, _, false, rfl, .ty _, ty_of hd okd, (by first | exact kt_NoneType_bool | exact kt_int_bool | exact kt_str_bool | exact kt_tuple_bool), _, rfl, iteF ?_⟩
      simp only [sameD] at q
      exact q
  | int b =>
    refine ⟨_, rfl, _, _, _, _, false, rfl, .ty _, ty_of he oke, kt_int_tuple, _, rfl, iteF ?_⟩
    have he' := he
    cases he'
    refine ⟨_, rfl, rfl, _, rfl, ifF rfl ?_⟩
    refine ⟨_, rfl, _, _, _, _, false, rfl, .ty _, ty_of he oke, kt_int_bool, _, rfl, iteF ?_⟩
    refine ⟨_, rfl, _, _, _, _, true, rfl, .ty _, ty_of he oke, kt_int_int, _, rfl, iteT ?_⟩
    cases d with
    | list ds => cases m <;> simp [okD] at okd
    | dict ds => cases m <;> simp [okD] at okd
    | int a =>
      refine ⟨_, rfl, _, _, _, _, true, rfl, .ty _, ty_of hd okd, kt_int_int, _, rfl, iteT ?_⟩
      refine ⟨_, rfl, _, _, _, _, false, rfl, .ty _, ty_of hd okd, kt_int_bool, _, rfl, _, rfl, iteT ?_⟩
      cases hd
      refine ⟨_, rfl, _, rfl, rfl, ?_⟩
      rw [dec_int]
      simp only [sameD] at q
      exact q
    | bool a =>
      refine ⟨_, rfl, _, _, _, _, true, rfl, .ty _, ty_of hd okd, kt_bool_int, _, rfl, iteT ?_⟩
      refine ⟨_, rfl, _, _, _, _, true, rfl, .ty _, ty_of hd okd, kt_bool_bool, _, rfl, _, rfl, iteF ?_⟩
      simp only [sameD] at q
      exact q
    | _ =>
      refine ⟨_, rfl, _, _, _, _, false, rfl, .ty _, ty_of hd okd, (by first | exact kt_NoneType_int | exact kt_str_int | exact kt_tuple_int), _, rfl, iteF ?_⟩
      simp only [sameD] at q
      exact q
  | str b =>
    refine ⟨_, rfl, _, _, _, _, false, rfl, .ty _, ty_of he oke, kt_str_tuple, _, rfl, iteF ?_⟩
    have he' := he
    cases he'
    refine ⟨_, rfl, rfl, _, rfl, ifF rfl ?_⟩
    refine ⟨_, rfl, _, _, _, _, false, rfl, .ty _, ty_of he oke, kt_str_bool, _, rfl, iteF ?_⟩
    refine ⟨_, rfl, _, _, _, _, false, rfl, .ty _, ty_of he oke, kt_str_int, _, rfl, iteF ?_⟩
    cases d with
    | list ds => cases m <;> simp [okD] at okd
    | dict ds => cases m <;> simp [okD] at okd
    | str a =>
      refine ⟨_, rfl, _, _, _, _, true, rfl, .ty _, ty_of hd okd, kt_str_str, _, rfl, iteT ?_⟩
      cases hd
      refine ⟨_, rfl, _, rfl, rfl, ?_⟩
      rw [dec_str]
      simp only [sameD] at q
      exact q
    | _ =>
      refine ⟨_, rfl, _, _, _, _, false, rfl, .ty _, ty_of hd okd, (by first | exact kt_NoneType_str | exact kt_bool_str | exact kt_int_str | exact kt_tuple_str), _, rfl, iteF ?_⟩
      simp only [sameD] at q
      exact q
theorem ok__law_same (T : Tx K mg) : ∀ n : Nat, FnOk P w K mg base CX0 n T.d__law_same.f T.d__law_same.fd P__law_same (spSame K n)
  | 0 => by
    have no : ∀ vs H Q E, ¬ spSame K 0 vs H Q E := fun vs H Q E h => by
      obtain ⟨x, y, d, e, m, _, _, _, _, h2, _⟩ := h
      simp [okD] at h2
    exact ⟨fun vs H Q E h => absurd h (no vs H Q E), fun A outer s H args us vs Q E _ _ _ _ h => absurd h (no vs H Q E)⟩
  | n + 1 => same_step T (ok__law_same T n)
theorem same_refl : ∀ (n : Nat) (d : PyData), okD n d = true → sameD d d = true
  | 0, d, h => by simp [okD] at h
  | n + 1, d, h => by
    cases d with
    | none => simp [sameD]
    | bool b => simp [sameD]
    | int i => simp [sameD]
    | str s => simp [sameD]
    | list xs => simp [okD] at h
    | dict xs => simp [okD] at h
    | tuple xs =>
      rw [sameD_tup]
      refine sameAll_true rfl fun j d e h1 h2 => ?_
      rw [h1] at h2
      have e' := Option.some.inj h2
      subst e'
      exact same_refl n d ((okD_tup h).2 _ (List.mem_of_getElem? h1))
theorem kind_dp (T : Tx K mg) (H : Hp) : Dp K H (.ref T.a_KIND) (.tuple [.str "error", .str "kind"]) := by
  obtain ⟨dd, n, sl, k0, k1, hk⟩ := T.q_KIND
  exact .tup (.inr ⟨_, _, n, hk, rfl, rfl, by show 2 ≤ sizeLine; decide, Paired.cons (relS _ _) (Paired.cons (relS _ _) Paired.nil)⟩) (.cons (.str "error") (.cons (.str "kind") .nil))
/-! ### kinds, pairs -/
def okP (k : Str) (d : PyData) : PyData := .tuple [.str "ok", .tuple [.str k, d]]
def errP (x : Str) : PyData := .tuple [.str "error", .str x]
def Vl.ok : Vl → Prop
  | .int n => n.natAbs < 1000000000000000000000000000000000000000000000000000000000000
  | .txt s => s.length ≤ 1000
  | _ => True
theorem op_if {op x : Str} {A B : Prop} (h1 : op = x → A) (h2 : op ≠ x → B) : if decide (V.str op = V.str x) = true then A else B := by
  by_cases e : op = x
  · rw [if_pos (decide_eq_true (congrArg V.str e))]
    exact h1 e
  · rw [if_neg (fun q => e (V.str.inj (of_decide_eq_true q)))]
    exact h2 e
theorem ne_if {k x : Str} {A B : Prop} (h1 : k ≠ x → A) (h2 : k = x → B) : if (!decide (V.str k = V.str x)) = true then A else B := by
  by_cases e : k = x
  · rw [decide_eq_true (congrArg V.str e)]
    exact iteF (h2 e)
  · rw [decide_eq_false (fun q => e (V.str.inj q))]
    exact iteT (h1 e)
theorem kind_txt {a : Vl} (h : a.kind = "text") : ∃ s, a = .txt s := by
  cases a with
  | txt s => exact ⟨s, rfl⟩
  | non => exact absurd h (by decide +kernel)
  | bl b => exact absurd h (by show ¬ ("bool" : Str) = "text"; decide +kernel)
  | int n => exact absurd h (by show ¬ ("int" : Str) = "text"; decide +kernel)
  | obj t n => exact absurd h (by show ¬ ("object" : Str) = "text"; decide +kernel)
theorem kind_int {a : Vl} (h : a.kind = "int") : ∃ n, a = .int n := by
  cases a with
  | int n => exact ⟨n, rfl⟩
  | non => exact absurd h (by decide +kernel)
  | bl b => exact absurd h (by show ¬ ("bool" : Str) = "int"; decide +kernel)
  | txt n => exact absurd h (by show ¬ ("text" : Str) = "int"; decide +kernel)
  | obj t n => exact absurd h (by show ¬ ("object" : Str) = "int"; decide +kernel)
theorem kind_bl {a : Vl} (h : a.kind = "bool") : ∃ b, a = .bl b := by
  cases a with
  | bl n => exact ⟨n, rfl⟩
  | non => exact absurd h (by decide +kernel)
  | int b => exact absurd h (by show ¬ ("int" : Str) = "bool"; decide +kernel)
  | txt n => exact absurd h (by show ¬ ("text" : Str) = "bool"; decide +kernel)
  | obj t n => exact absurd h (by show ¬ ("object" : Str) = "bool"; decide +kernel)
/-! ### foretask.operators -/
def bndD (n : Int) : PyData := if n.natAbs < 1000000000000000000000000000000000000000000000000000000000000 then okP "int" (.int n) else errP "overflow"
def divD (op : Str) (a b : Int) : PyData := if b = 0 then errP "division by zero" else okP "int" (.int (if op = "/" then a.fdiv b else a.fmod b))
def cmpZ (op : Str) (a b : Int) : Int := if op = "+" then a + b else if op = "-" then a - b else a * b
def togD (a b : Str) : PyData := if a.length + b.length ≤ 200 then okP "text" (.str (a ++ b)) else errP "size"
def intsD (op : Str) (a b : Int) : PyData :=
  if op = "<" ∨ op = "<=" then okP "bool" (.bool (if op = "<" then decide (a < b) else decide (a ≤ b)))
  else if op = "/" ∨ op = "mod" then divD op a b
  else bndD (cmpZ op a b)
def spBounded (K : PySem.W.Frag) : Sp := fun vs H Q _ => ∃ n : Int, vs = [.int n] ∧ Gives K H (bndD n) Q
def spComputed : Sp := fun vs H Q _ => ∃ (op : Str) (a b : Int), vs = [.str op, .int a, .int b] ∧ a.natAbs < 1000000000000000000000000000000000000000000000000000000000000 ∧ b.natAbs < 1000000000000000000000000000000000000000000000000000000000000 ∧ Q (.int (cmpZ op a b)) H
def spDivided (K : PySem.W.Frag) : Sp := fun vs H Q _ => ∃ (op : Str) (a b : Int), vs = [.str op, .int a, .int b] ∧ b.natAbs < 1000000000000000000000000000000000000000000000000000000000000 ∧ Gives K H (divD op a b) Q
theorem ok_bounded (T : Tx K mg) : FnOk P w K mg base CX0 1 T.d_bounded.f T.d_bounded.fd P_bounded (spBounded K) := by
  refine T.d_bounded.F.ok sc_bounded (fun vs H Q E h => ?_) (fun cdv A outer s H vs Q E hr h => ?_)
  · obtain ⟨n, rfl, _⟩ := h
    rfl
  obtain ⟨n, rfl, q⟩ := h
  refine ⟨_, (pss_cons (ps_if (pt_cmpR op_ge (pe_callB call_abs (by rfl) T.z_abs (by decide +kernel) (pa_cons (pv 0) pa_nil)) (pe_glob (v := V.int (1000000000000000000000000000000000000000000000000000000000000)) (by rfl) T.c_INTEGER ⟨_, rfl⟩) (nomark _))
      (pss_one (ps_ret (pe_tup (pa_cons pe_str (pa_cons pe_str pa_nil)))))
      pss_nil)
    (pss_one (ps_ret (pe_tup (pa_cons pe_str (pa_cons (pe_tup (pa_cons pe_str (pa_cons (pv 0) pa_nil))) pa_nil)))))), ?_⟩
  refine ⟨_, rfl, _, rfl, _, _, rfl, rfl, _, rfl, ite2 (fun c => ?_) (fun c => ?_)⟩
  · have c' : (1000000000000000000000000000000000000000000000000000000000000 : Int) ≤ (if n < 0 then -n else n) := of_decide_eq_true c
    refine ⟨two_le, fun p hp => ?_⟩
    obtain ⟨s1, d1⟩ := new_one (K := K) (k := "error") (.str "overflow") hp
    refine q _ _ s1 ?_
    have z : bndD n = errP "overflow" := by
      unfold bndD
      rw [if_neg (by split at c' <;> omega)]
    rw [z]
    exact d1
  · have c' : ¬ (1000000000000000000000000000000000000000000000000000000000000 : Int) ≤ (if n < 0 then -n else n) := of_decide_eq_false (Bool.eq_false_iff.mpr c)
    refine ⟨_, rfl, two_le, fun p hp => ⟨two_le, fun r hr => ?_⟩⟩
    obtain ⟨s1, d1⟩ := new_two (K := K) (k := "int") (m := "ok") (.int n) hp hr
    refine q _ _ s1 ?_
    have z : bndD n = okP "int" (.int n) := by
      unfold bndD
      rw [if_pos (by split at c' <;> omega)]
    rw [z]
    exact d1
theorem ok_computed (T : Tx K mg) : FnOk P w K mg base CX0 1 T.d_computed.f T.d_computed.fd P_computed spComputed := by
  refine T.d_computed.F.ok sc_computed (fun vs H Q E h => ?_) (fun cdv A outer s H vs Q E hr h => ?_)
  · obtain ⟨op, a, b, rfl, _⟩ := h
    rfl
  obtain ⟨op, a, b, rfl, ha, hb, q⟩ := h
  refine ⟨_, (pss_cons (ps_if (pt_cmpR op_eq (pv 0) pe_str (nomark _))
      (pss_one (ps_ret (pe_op op_add (pv 1) (pv 2))))
      pss_nil)
    (pss_cons (ps_if (pt_cmpR op_eq (pv 0) pe_str (nomark _))
      (pss_one (ps_ret (pe_op op_sub (pv 1) (pv 2))))
      pss_nil)
    (pss_one (ps_ret (pe_op op_mulX (pv 1) (pv 2)))))), ?_⟩
  unfold cmpZ at q
  refine ⟨_, rfl, rfl, _, rfl, op_if (fun e => ?_) (fun e => ?_)⟩
  · rw [if_pos e] at q
    exact ⟨_, rfl, _, rfl, _, _, rfl, rfl, q⟩
  rw [if_neg e] at q
  refine ⟨_, rfl, rfl, _, rfl, op_if (fun e => ?_) (fun e => ?_)⟩
  · rw [if_pos e] at q
    exact ⟨_, rfl, _, rfl, _, _, rfl, rfl, q⟩
  rw [if_neg e] at q
  exact ⟨_, rfl, _, rfl, _, _, rfl, rfl, mulX_small (by omega) (by omega), q⟩
theorem ok_divided (T : Tx K mg) : FnOk P w K mg base CX0 1 T.d_divided.f T.d_divided.fd P_divided (spDivided K) := by
  refine T.d_divided.F.ok sc_divided (fun vs H Q E h => ?_) (fun cdv A outer s H vs Q E hr h => ?_)
  · obtain ⟨op, a, b, rfl, _⟩ := h
    rfl
  obtain ⟨op, a, b, rfl, hb, q⟩ := h
  refine ⟨_, (pss_cons (ps_if (pt_cmpR op_eq (pv 2) pe_int (nomark _))
      (pss_one (ps_ret (pe_tup (pa_cons pe_str (pa_cons pe_str pa_nil)))))
      pss_nil)
    (pss_one (ps_ret (pe_tup (pa_cons pe_str (pa_cons (pe_tup (pa_cons pe_str (pa_cons (pe_ifExp (pt_cmpR op_eq (pv 0) pe_str (nomark _)) (pe_op op_fdivG (pv 1) (pv 2)) (pe_op op_modN (pv 1) (pv 2))) pa_nil))) pa_nil)))))), ?_⟩
  unfold divD at q
  refine ⟨_, rfl, rfl, _, rfl, ite2 (fun c => ?_) (fun c => ?_)⟩
  · have c' : b = 0 := dec_eq_int c
    rw [if_pos c'] at q
    refine ⟨two_le, fun p hp => ?_⟩
    obtain ⟨s1, d1⟩ := new_one (K := K) (k := "error") (.str "division by zero") hp
    exact q _ _ s1 d1
  · have c' : b ≠ 0 := fun z => c (decide_eq_true (congrArg V.int z))
    rw [if_neg c'] at q
    refine ⟨_, rfl, rfl, _, rfl, op_if (fun e => ?_) (fun e => ?_)⟩
    · rw [if_pos e] at q
      refine ⟨_, rfl, _, rfl, _, _, rfl, rfl, ⟨c', Nat.lt_trans (log_small (by omega)) (by decide)⟩, two_le, fun p hp => ⟨two_le, fun r hr => ?_⟩⟩
      obtain ⟨s1, d1⟩ := new_two (K := K) (k := "int") (m := "ok") (.int (a.fdiv b)) hp hr
      exact q _ _ s1 d1
    · rw [if_neg e] at q
      refine ⟨_, rfl, _, rfl, _, _, rfl, rfl, c', two_le, fun p hp => ⟨two_le, fun r hr => ?_⟩⟩
      obtain ⟨s1, d1⟩ := new_two (K := K) (k := "int") (m := "ok") (.int (a.fmod b)) hp hr
      exact q _ _ s1 d1
def tog2 (a b : Vl) : PyData := match a, b with
  | .txt x, .txt y => togD x y
  | _, _ => errP "kind"
def ints2 (op : Str) (a b : Vl) : PyData := match a, b with
  | .int x, .int y => intsD op x y
  | _, _ => errP "kind"
theorem tog2_no {a b : Vl} (h : a.kind ≠ "text" ∨ b.kind ≠ "text") : tog2 a b = errP "kind" := by
  cases a <;> cases b <;> first | rfl | (rcases h with h | h <;> exact absurd rfl h)
theorem ints2_no {op : Str} {a b : Vl} (h : a.kind ≠ "int" ∨ b.kind ≠ "int") : ints2 op a b = errP "kind" := by
  cases a <;> cases b <;> first | rfl | (rcases h with h | h <;> exact absurd rfl h)
def bothV (op : Str) (a b : Vl) : PyData :=
  if op = "==" then okP "bool" (.bool (PyData.eqv a.d b.d))
  else if op = "&" then tog2 a b
  else ints2 op a b
def spTogether (K : PySem.W.Frag) : Sp := fun vs H Q _ => ∃ (x y : V) (a b : Vl), vs = [x, y] ∧ Dp K H x a.d ∧ Dp K H y b.d ∧ a.ok ∧ b.ok ∧ Gives K H (tog2 a b) Q
def spBoth (K : PySem.W.Frag) : Sp := fun vs H Q _ => ∃ (op : Str) (x y : V) (a b : Vl), vs = [.str op, x, y] ∧ Dp K H x a.d ∧ Dp K H y b.d ∧ a.ok ∧ b.ok ∧ SeqAt.shaped a.d = true ∧ SeqAt.shaped b.d = true ∧ Gives K H (bothV op a b) Q
theorem ok_together (T : Tx K mg) : FnOk P w K mg base CX0 1 T.d_together.f T.d_together.fd P_together (spTogether K) := by
  refine T.d_together.F.ok sc_together (fun vs H Q E h => ?_) (fun cdv A outer s H vs Q E hr h => ?_)
  · obtain ⟨x, y, a, b, rfl, _⟩ := h
    rfl
  obtain ⟨x, y, a, b, rfl, hx, hy, oka, okb, q⟩ := h
  refine ⟨_, (pss_cons (ps_if (PW.pt (pw_or (pt_cmpR op_ne (pe_ix ix_tup (pv 0) pe_int (fun _ _ => rfl)) pe_str (nomark _)) (pw_or1 (pt_cmpR op_ne (pe_ix ix_tup (pv 1) pe_int (fun _ _ => rfl)) pe_str (nomark _)))))
      (pss_one (ps_ret (pe_glob (v := V.ref T.a_KIND) (by rfl) T.c_KIND rfl)))
      pss_nil)
    (pss_cons (ps_set (i := 2) sc_together.nd rfl (Or.inl rfl) (pe_op op_add_str (pe_ix ix_tup (pv 0) pe_int (fun _ _ => rfl)) (pe_ix ix_tup (pv 1) pe_int (fun _ _ => rfl))))
    (pss_cons (ps_if (pt_cmpR op_gt (pe_callB call_len_str (by rfl) T.z_len PySem.boot_len (pa_cons (pv 2) pa_nil)) (pe_glob (v := V.int (200)) (by rfl) T.c_RUN_CHARACTERS ⟨_, rfl⟩) (nomark _))
      (pss_one (ps_ret (pe_tup (pa_cons pe_str (pa_cons pe_str pa_nil)))))
      pss_nil)
    (pss_one (ps_ret (pe_tup (pa_cons pe_str (pa_cons (pe_tup (pa_cons pe_str (pa_cons (pv 2) pa_nil))) pa_nil)))))))), ?_⟩
  obtain ⟨p, xs, rfl, sx, ax⟩ := vl_at hx
  obtain ⟨r, ys, rfl, sy, ay⟩ := vl_at hy
  have no : (a.kind ≠ "text" ∨ b.kind ≠ "text") → Q (.ref T.a_KIND) H := fun h => by
    refine q _ _ (Same.refl H) ?_
    rw [tog2_no h]
    exact kind_dp T H
  refine ⟨_, rfl, p, _, _, _, rfl, rfl, sx, at_of (j := 0) rfl rfl, rfl, _, rfl, ?_⟩
  refine ne_if (fun e => iteT (no (.inl e))) (fun e => ?_)
  refine ⟨_, rfl, r, _, _, _, rfl, rfl, sy, at_of (j := 0) rfl rfl, rfl, _, rfl, ?_⟩
  refine ne_if (fun e => no (.inr e)) (fun e' => ?_)
  obtain ⟨u, rfl⟩ := kind_txt e
  obtain ⟨v, rfl⟩ := kind_txt e'
  obtain ⟨p', e1, su⟩ := txt_at hx
  cases e1
  obtain ⟨r', e2, sv⟩ := txt_at hy
  cases e2
  have l1 : u.length ≤ 1000 := oka
  have l2 : v.length ≤ 1000 := okb
  have l3 : (u ++ v).length = u.length + v.length := PySem.Str.length_append u v
  have big : 2000 ≤ sizeLine := by decide
  refine ⟨_, rfl, p, _, _, _, rfl, rfl, su, at_of (j := 1) rfl rfl, _, rfl, r, _, _, _, rfl, rfl, sv, at_of (j := 1) rfl rfl, _, _, rfl, rfl, by omega, ?_⟩
  refine ⟨_, rfl, _, rfl, by omega, _, _, rfl, rfl, _, rfl, ite2 (fun c => ?_) (fun c => ?_)⟩
  · have c' : (200 : Int) < (((u ++ v).length : Nat) : Int) := of_decide_eq_true c
    refine ⟨two_le, fun p hp => ?_⟩
    obtain ⟨s1, d1⟩ := new_one (K := K) (k := "error") (.str "size") hp
    refine q _ _ s1 ?_
    have z : tog2 (.txt u) (.txt v) = errP "size" := by
      show togD u v = _
      unfold togD
      rw [if_neg (by omega)]
    rw [z]
    exact d1
  · have c' : ¬ (200 : Int) < (((u ++ v).length : Nat) : Int) := of_decide_eq_false (Bool.eq_false_iff.mpr c)
    refine ⟨_, rfl, two_le, fun p hp => ⟨two_le, fun r hr => ?_⟩⟩
    obtain ⟨s1, d1⟩ := new_two (K := K) (k := "text") (m := "ok") (.str (u ++ v)) hp hr
    refine q _ _ s1 ?_
    have z : tog2 (.txt u) (.txt v) = okP "text" (.str (u ++ v)) := by
      show togD u v = _
      unfold togD
      rw [if_pos (by omega)]
    rw [z]
    exact d1
theorem in2 {op x y : Str} {A B : Prop} (h1 : (op = x ∨ op = y) → A) (h2 : ¬ (op = x ∨ op = y) → B) : if (inV (.str op) [.str x, .str y]) = true then A else B := by
  have z : inV (.str op) [.str x, .str y] = decide (op = x ∨ op = y) := by
    simp only [inV, List.any_cons, List.any_nil, eqV, Bool.or_false]
    rw [Bool.eq_iff_iff]
    simp only [Bool.or_eq_true, beq_iff_eq, decide_eq_true_eq]
    exact ⟨fun h => h.elim (fun e => .inl e.symm) fun e => .inr e.symm, fun h => h.elim (fun e => .inl e.symm) fun e => .inr e.symm⟩
  rw [z]
  exact ite2 (fun c => h1 (of_decide_eq_true c)) fun c => h2 fun e => c (decide_eq_true e)
theorem ok_both (T : Tx K mg) : FnOk P w K mg base CX0 2 T.d_both.f T.d_both.fd P_both (spBoth K) := by
  have G_together := ok_together (P := P) (w := w) (base := base) T
  have G_divided := ok_divided (P := P) (w := w) (base := base) T
  have G_computed := ok_computed (P := P) (w := w) (base := base) T
  have G_bounded := ok_bounded (P := P) (w := w) (base := base) T
  refine T.d_both.F.ok sc_both (fun vs H Q E h => ?_) (fun cdv A outer s H vs Q E hr h => ?_)
  · obtain ⟨op, x, y, a, b, rfl, _⟩ := h
    rfl
  obtain ⟨op, x, y, a, b, rfl, hx, hy, oka, okb, ha, hb, q⟩ := h
  refine ⟨_, (pss_cons (ps_if (pt_cmpR op_eq (pv 0) pe_str (nomark _))
      (pss_one (ps_ret (pe_tup (pa_cons pe_str (pa_cons (pe_tup (pa_cons pe_str (pa_cons (pe_cmpR (op_eqD hr.units) (pv 1) (pv 2) (nomark _)) pa_nil))) pa_nil)))))
      pss_nil)
    (pss_cons (ps_if (pt_cmpR op_eq (pv 0) pe_str (nomark _))
      (pss_one (ps_ret (pe_call G_together (hr.mono (by omega)) (by rfl) T.d_together.m T.d_together.F.kp T.d_together.b .nil pass0 (pa_cons (pv 1) (pa_cons (pv 2) pa_nil)))))
      pss_nil)
    (pss_cons (ps_if (PW.pt (pw_or (pt_cmpR op_ne (pe_ix ix_tup (pv 1) pe_int (fun _ _ => rfl)) pe_str (nomark _)) (pw_or1 (pt_cmpR op_ne (pe_ix ix_tup (pv 2) pe_int (fun _ _ => rfl)) pe_str (nomark _)))))
      (pss_one (ps_ret (pe_glob (v := V.ref T.a_KIND) (by rfl) T.c_KIND rfl)))
      pss_nil)
    (pss_cons (ps_if (pt_cmpR op_in_seq (pv 0) (pe_tup (pa_cons pe_str (pa_cons pe_str pa_nil))) (by rfl))
      (pss_one (ps_ret (pe_tup (pa_cons pe_str (pa_cons (pe_tup (pa_cons pe_str (pa_cons (pe_ifExp (pt_cmpR op_eq (pv 0) pe_str (nomark _)) (pe_cmpR op_lt (pe_ix ix_tup (pv 1) pe_int (fun _ _ => rfl)) (pe_ix ix_tup (pv 2) pe_int (fun _ _ => rfl)) (nomark _)) (pe_cmpR op_le (pe_ix ix_tup (pv 1) pe_int (fun _ _ => rfl)) (pe_ix ix_tup (pv 2) pe_int (fun _ _ => rfl)) (nomark _))) pa_nil))) pa_nil)))))
      pss_nil)
    (pss_cons (ps_if (pt_cmpR op_in_seq (pv 0) (pe_tup (pa_cons pe_str (pa_cons pe_str pa_nil))) (by rfl))
      (pss_one (ps_ret (pe_call G_divided (hr.mono (by omega)) (by rfl) T.d_divided.m T.d_divided.F.kp T.d_divided.b .nil pass0 (pa_cons (pv 0) (pa_cons (pe_ix ix_tup (pv 1) pe_int (fun _ _ => rfl)) (pa_cons (pe_ix ix_tup (pv 2) pe_int (fun _ _ => rfl)) pa_nil))))))
      pss_nil)
    (pss_one (ps_ret (pe_call G_bounded (hr.mono (by omega)) (by rfl) T.d_bounded.m T.d_bounded.F.kp T.d_bounded.b .nil pass0 (pa_cons (pe_call G_computed (hr.mono (by omega)) (by rfl) T.d_computed.m T.d_computed.F.kp T.d_computed.b .nil pass0 (pa_cons (pv 0) (pa_cons (pe_ix ix_tup (pv 1) pe_int (fun _ _ => rfl)) (pa_cons (pe_ix ix_tup (pv 2) pe_int (fun _ _ => rfl)) pa_nil)))) pa_nil))))))))), ?_⟩
  unfold bothV at q
  refine ⟨_, rfl, rfl, _, rfl, op_if (fun e => ?_) (fun e => ?_)⟩
  · rw [if_pos e] at q
    refine ⟨_, rfl, _, rfl, _, _, hx, hy, ha, hb, two_le, fun p hp => ⟨two_le, fun r hr => ?_⟩⟩
    obtain ⟨s1, d1⟩ := new_two (K := K) (k := "bool") (m := "ok") (.bl (PyData.eqv a.d b.d)) hp hr
    exact q _ _ s1 d1
  rw [if_neg e] at q
  refine ⟨_, rfl, rfl, _, rfl, op_if (fun e => ?_) (fun e => ?_)⟩
  · rw [if_pos e] at q
    exact ⟨_, rfl, _, rfl, _, _, a, b, rfl, hx, hy, oka, okb, q⟩
  rw [if_neg e] at q
  obtain ⟨p, xs, rfl, sx, ax⟩ := vl_at hx
  obtain ⟨r, ys, rfl, sy, ay⟩ := vl_at hy
  have no : (a.kind ≠ "int" ∨ b.kind ≠ "int") → Q (.ref T.a_KIND) H := fun h => by
    refine q _ _ (Same.refl H) ?_
    rw [ints2_no h]
    exact kind_dp T H
  refine ⟨_, rfl, p, _, _, _, rfl, rfl, sx, at_of (j := 0) rfl rfl, rfl, _, rfl, ?_⟩
  refine ne_if (fun e => iteT (no (.inl e))) (fun e1 => ?_)
  refine ⟨_, rfl, r, _, _, _, rfl, rfl, sy, at_of (j := 0) rfl rfl, rfl, _, rfl, ?_⟩
  refine ne_if (fun e => no (.inr e)) (fun e2 => ?_)
  obtain ⟨i, rfl⟩ := kind_int e1
  obtain ⟨j, rfl⟩ := kind_int e2
  have hi : i.natAbs < 1000000000000000000000000000000000000000000000000000000000000 := oka
  have hj : j.natAbs < 1000000000000000000000000000000000000000000000000000000000000 := okb
  have q : Gives K H (intsD op i j) Q := q
  unfold intsD at q
  refine ⟨_, rfl, two_le, fun t1 n1 => ⟨t1, _, rfl, .inr (SqT.of upd_same), rfl, rfl, _, rfl, ?_⟩⟩
  have s1 := same_new n1 (.tup [.str "<", .str "<="])
  obtain ⟨p', e3, su⟩ := int_at (dp_same s1 hx)
  cases e3
  obtain ⟨r', e4, sv⟩ := int_at (dp_same s1 hy)
  cases e4
  refine in2 (fun e => ?_) (fun e => ?_)
  · rw [if_pos e] at q
    refine ⟨_, rfl, rfl, _, rfl, op_if (fun e => ?_) (fun e => ?_)⟩
    · rw [if_pos e] at q
      refine ⟨_, rfl, p, _, _, _, rfl, rfl, su, at_of (j := 1) rfl rfl, _, rfl, r, _, _, _, rfl, rfl, sv, at_of (j := 1) rfl rfl, _, _, rfl, rfl, two_le, fun p hp => ⟨two_le, fun r hr => ?_⟩⟩
      obtain ⟨s2, d1⟩ := new_two (K := K) (k := "bool") (m := "ok") (.bl (decide (i < j))) hp hr
      exact q _ _ (s1.trans s2) d1
    · rw [if_neg e] at q
      refine ⟨_, rfl, p, _, _, _, rfl, rfl, su, at_of (j := 1) rfl rfl, _, rfl, r, _, _, _, rfl, rfl, sv, at_of (j := 1) rfl rfl, _, _, rfl, rfl, two_le, fun p hp => ⟨two_le, fun r hr => ?_⟩⟩
      obtain ⟨s2, d1⟩ := new_two (K := K) (k := "bool") (m := "ok") (.bl (decide (i ≤ j))) hp hr
      exact q _ _ (s1.trans s2) d1
  rw [if_neg e] at q
  refine ⟨_, rfl, two_le, fun t2 n2 => ⟨t2, _, rfl, .inr (SqT.of upd_same), rfl, rfl, _, rfl, ?_⟩⟩
  have s2 := s1.trans (same_new n2 (.tup [.str "/", .str "mod"]))
  obtain ⟨p', e3, su⟩ := int_at (dp_same s2 hx)
  cases e3
  obtain ⟨r', e4, sv⟩ := int_at (dp_same s2 hy)
  cases e4
  refine in2 (fun e => ?_) (fun e => ?_)
  · rw [if_pos e] at q
    exact ⟨_, rfl, _, rfl, p, _, _, _, rfl, rfl, su, at_of (j := 1) rfl rfl, _, rfl, r, _, _, _, rfl, rfl, sv, at_of (j := 1) rfl rfl, op, i, j, rfl, hj, fun v H' s3 d3 => q v H' (s2.trans s3) d3⟩
  rw [if_neg e] at q
  exact ⟨_, rfl, _, rfl, p, _, _, _, rfl, rfl, su, at_of (j := 1) rfl rfl, _, rfl, r, _, _, _, rfl, rfl, sv, at_of (j := 1) rfl rfl, op, i, j, rfl, hi, hj, _, rfl, fun v H' s3 d3 => q v H' (s2.trans s3) d3⟩
/-! ### drawn texts and values -/
section
open PySem.Spec PyProof.Rows
variable {X : Cx}
/-- one sign, n times -/
def rMulS : R2 := fun x y H Q => ∃ (c : Nat) (n : Int), x = .str ⟨#[c]⟩ ∧ y = .int n ∧ 0 ≤ n ∧ n ≤ 1000 ∧ Q (.str ⟨(List.replicate n.toNat c).toArray⟩) H
theorem rep_acc (c : Nat) : ∀ (n : Nat) (acc : List Nat), List.foldl (fun x y => x ++ y) acc.toArray (List.replicate n #[c]) = (acc ++ List.replicate n c).toArray
  | 0, acc => by simp
  | n + 1, acc => by
    have e : acc.toArray ++ #[c] = (acc ++ [c]).toArray := by simp
    rw [List.replicate_succ, List.foldl_cons, e, rep_acc c n (acc ++ [c]), List.replicate_succ, List.append_assoc]
    rfl
theorem rep_one (c n : Nat) : List.foldl (fun x y => x ++ y) #[] (List.replicate n #[c]) = (List.replicate n c).toArray := rep_acc c n []
theorem op_mulS : OpR X (binaryOp .Mult) rMulS := by
  intro pins s σ H x y v u Q I rx ry h
  obtain ⟨c, n, rfl, rfl, h0, h1, q⟩ := h
  obtain ⟨t, rfl⟩ := rx
  obtain ⟨t', rfl⟩ := ry
  have l1 : (⟨#[c]⟩ : Str).length = 1 := rfl
  have hs : 1000 ≤ sizeLine := by decide
  refine PySem.P.mul_str ?_ ?_ ?_ ?_
  · rw [decide_eq_false (by omega), decide_eq_false (by omega)]
    rfl
  · intro a _ z
    rw [l1] at z
    have d : 1 ≤ (2 ^ 63 - 1 : Int) / n := (Int.le_ediv_iff_mul_le (by omega)).mpr (by omega)
    omega
  · intro _ _
    rw [l1]
    show decide (1 * n.toNat > sizeLine) = false
    exact decide_eq_false (by omega)
  · by_cases a : n < 1
    · rw [if_pos a]
      have e : n = 0 := by omega
      subst e
      exact ⟨by decide, .str _, H, I.tok _, ⟨_, rfl⟩, q⟩
    · rw [if_neg a]
      by_cases b : n = 1
      · subst b
        exact ⟨.str _, H, I, ⟨_, rfl⟩, q⟩
      · have e : ((n == 1) || (⟨#[c]⟩ : Str).length == 0) = false := by
          rw [l1, beq_eq_false_iff_ne.mpr b]
          rfl
        rw [e, if_neg Bool.false_ne_true]
        have z := rep_one c n.toNat
        have z2 : (⟨List.foldl (fun x1 x2 => x1 ++ x2) #[] (List.replicate n.toNat (⟨#[c]⟩ : Str).cps)⟩ : Str) = ⟨(List.replicate n.toNat c).toArray⟩ := congrArg Str.mk z
        refine ⟨?_, .str ⟨(List.replicate n.toNat c).toArray⟩, H, I.tok _, ⟨s.toks, ?_⟩, q⟩
        · rw [z2]
          show (List.replicate n.toNat c).toArray.size ≤ sizeLine
          rw [List.size_toArray, List.length_replicate]
          omega
        · rw [z2]
end
def txtOk (z : Str) : Prop := ∀ c ∈ z.cps.toList, c < 1114112
theorem len_cps (z : Str) : z.cps.toList.length = z.length := by simp [Str.length]
theorem txtOk_app {x y : Str} (h1 : txtOk x) (h2 : txtOk y) : txtOk (x ++ y) := by
  intro c hc
  have e : (x ++ y).cps.toList = x.cps.toList ++ y.cps.toList := by
    show (x.cps ++ y.cps).toList = _
    simp
  rw [e] at hc
  rcases List.mem_append.mp hc with h | h
  · exact h1 c h
  · exact h2 c h
theorem txtOk_rep {c n : Nat} (h : c < 1114112) : txtOk ⟨(List.replicate n c).toArray⟩ := by
  intro d hd
  have e := List.eq_of_mem_replicate hd
  omega
theorem txtOk_one {c : Nat} (h : c < 1114112) : txtOk ⟨#[c]⟩ := by
  intro d hd
  have e : d = c := by simpa using hd
  omega
def sgn : Str := ((" !\"#$&'()*+,-./0123456789:;<=>?@ABCDEFGHIJKLMNOPQRSTUVWXYZ[\\]^_`" : Str) ++ ("abcdefghijklmnopqrstuvwxyz{|}~\n" : Str))
theorem sgn_len : sgn.length = 95 := by decide +kernel
theorem sgn_ok : txtOk sgn := by
  have h : (sgn.cps.toList.all fun c => decide (c < 1114112)) = true := by decide +kernel
  intro c hc
  exact of_decide_eq_true (List.all_eq_true.mp h c hc)
theorem at_str {xs : List Nat} {z : Int} {j c : Nat} (e : z = (j : Int)) (h : xs[j]? = some c) : atI xs z = some c := by
  rw [e]
  exact atI_nat h
/-- a place of the signs -/
theorem sgn_at {i : Int} (h0 : 0 ≤ i) (h1 : i < 95) : ∃ c, atI sgn.cps.toList i = some c ∧ c < 1114112 := by
  have hl := len_cps sgn
  rw [sgn_len] at hl
  have hk : i.toNat < sgn.cps.toList.length := by omega
  have g : sgn.cps.toList[i.toNat]? = some sgn.cps.toList[i.toNat] := List.getElem?_eq_getElem hk
  exact ⟨_, at_str (by omega) g, sgn_ok _ (List.getElem_mem hk)⟩
def spText : Sp := fun vs H Q _ => ∃ (p l : Addr), vs = [.ref p, .int 200] ∧ BoxAt H p l ∧ ∀ (z : Str) (H' : Hp), z.length ≤ 200 → txtOk z → BoxAt H' p l → Keep p H H' → Q (.str z) H'
theorem ok__law_text (T : Tx K mg) : FnOk P w K mg base CX0 2 T.d__law_text.f T.d__law_text.fd P__law_text spText := by
  have G__law_draw := ok__law_draw (P := P) (w := w) (base := base) T
  refine T.d__law_text.F.ok sc__law_text (fun vs H Q E h => ?_) (fun cdv A outer s H vs Q E hr h => ?_)
  · obtain ⟨p, l, rfl, _⟩ := h
    rfl
  obtain ⟨p, l, rfl, B, q⟩ := h
  have big : 1000 ≤ sizeLine := by decide
  refine ⟨_, (pss_cons (ps_set (i := 2) sc__law_text.nd rfl (Or.inl rfl) pe_str)
    (pss_cons (ps_set (i := 2) sc__law_text.nd rfl (Or.inl rfl) (pe_op op_add_str (pv 2) pe_str))
    (pss_cons (ps_set (i := 3) sc__law_text.nd rfl (Or.inl rfl) pe_str)
    (pss_cons (ps_if (pt_cmpR op_eq (pe_call G__law_draw (hr.mono (by omega)) (by rfl) T.d__law_draw.m T.d__law_draw.F.kp T.d__law_draw.b .nil pass0 (pa_cons (pv 0) (pa_cons pe_int pa_nil))) pe_int (nomark _))
      (pss_one (ps_set (i := 3) sc__law_text.nd rfl (Or.inl rfl) (pe_op op_mulS (pe_ix ix_str (pv 2) (pe_call G__law_draw (hr.mono (by omega)) (by rfl) T.d__law_draw.m T.d__law_draw.F.kp T.d__law_draw.b .nil pass0 (pa_cons (pv 0) (pa_cons pe_int pa_nil))) (fun _ _ => rfl)) (pe_call G__law_draw (hr.mono (by omega)) (by rfl) T.d__law_draw.m T.d__law_draw.F.kp T.d__law_draw.b .nil pass0 (pa_cons (pv 0) (pa_cons (pe_op op_add (pv 1) pe_int) pa_nil))))))
      pss_nil)
    (pss_cons (ps_for PassesOwn.never rfl (pi_range1 (by rfl) T.z_range (pa_cons (pe_call G__law_draw (hr.mono (by omega)) (by rfl) T.d__law_draw.m T.d__law_draw.F.kp T.d__law_draw.b .nil pass0 (pa_cons (pv 0) (pa_cons pe_int pa_nil))) pa_nil)) (pg_name (i := 4) sc__law_text.nd rfl (Or.inl rfl))
      (pss_one (ps_if (pt_cmpR op_lt (pe_callB call_len_str (by rfl) T.z_len PySem.boot_len (pa_cons (pv 3) pa_nil)) (pv 1) (nomark _))
      (pss_one (ps_set (i := 3) sc__law_text.nd rfl (Or.inl rfl) (pe_op op_add_str (pv 3) (pe_ix ix_str (pv 2) (pe_call G__law_draw (hr.mono (by omega)) (by rfl) T.d__law_draw.m T.d__law_draw.F.kp T.d__law_draw.b .nil pass0 (pa_cons (pv 0) (pa_cons pe_int pa_nil))) (fun _ _ => rfl)))))
      pss_nil)))
    (pss_one (ps_ret (pv 3)))))))), ?_⟩
  refine ⟨_, rfl, _, _, rfl, rfl, (by decide +kernel), ?_⟩
  have hsg : sgn.length ≤ sizeLine := by rw [sgn_len]; decide
  have eg : ((" !\"#$&'()*+,-./0123456789:;<=>?@ABCDEFGHIJKLMNOPQRSTUVWXYZ[\\]^_`" : Str) ++ ("abcdefghijklmnopqrstuvwxyz{|}~\n" : Str)) = sgn := rfl
  rw [eg]
  refine ⟨_, rfl, p, l, _, rfl, by decide, B, fun r H1 _ _ B1 k1 => ⟨rfl, _, rfl, ite2 (fun _ => ?g1) (fun _ => ?g2)⟩⟩
  case g1 =>
    refine ⟨_, rfl, _, rfl, p, l, _, rfl, by decide, B1, fun i H2 i0 i1 B2 k2 => ?_⟩
    obtain ⟨c, hc, lc⟩ := sgn_at i0 i1
    refine ⟨_, _, c, rfl, rfl, hsg, hc, ?_⟩
    refine ⟨_, rfl, _, rfl, _, _, rfl, rfl, p, l, _, rfl, by decide, B2, fun n H3 n0 n1 B3 k3 => ?_⟩
    refine ⟨c, n, rfl, rfl, n0, by omega, ?_⟩
    have k1 := (k1.trans k2).trans k3
    have tl : (⟨(List.replicate n.toNat c).toArray⟩ : Str).length ≤ 200 := by
      show (List.replicate n.toNat c).toArray.size ≤ 200
      rw [List.size_toArray, List.length_replicate]
      omega
    have tk : txtOk ⟨(List.replicate n.toNat c).toArray⟩ := txtOk_rep lc
    generalize (⟨(List.replicate n.toNat c).toArray⟩ : Str) = t0 at tl tk ⊢
    refine ⟨_, rfl, p, l, _, rfl, by decide, B3, fun m H4 m0 m1 B4 k4 => ?_⟩
    refine ⟨m, rfl, by omega, by omega, for_range (lo := 0) (n := m.toNat) (fun i σ H5 => ∃ (z : Str) (v4 : Option V), σ = [some (.ref p), some (.int 200), some (.str sgn), some (.str z), v4] ∧ z.length ≤ 200 ∧ txtOk z ∧ BoxAt H5 p l ∧ Keep p H H5)
      ⟨t0, _, rfl, tl, tk, B4, k1.trans k4⟩ ?_ ?_⟩
    · rintro i σ H5 hi ⟨z, v4, rfl, zl, zk, B5, k5⟩
      refine ⟨_, rfl, _, rfl, by omega, _, rfl, _, _, rfl, rfl, _, rfl, ite2 (fun c => ?_) (fun c => ?_)⟩
      · have c' : ((z.length : Nat) : Int) < 200 := of_decide_eq_true c
        refine ⟨_, rfl, _, rfl, _, rfl, p, l, _, rfl, by decide, B5, fun i H6 i0 i1 B6 k6 => ?_⟩
        obtain ⟨c, hc, lc⟩ := sgn_at i0 i1
        have l1 : (⟨#[c]⟩ : Str).length = 1 := rfl
        refine ⟨_, _, c, rfl, rfl, hsg, hc, _, _, rfl, rfl, by omega, ?_⟩
        exact ⟨_, _, rfl, by rw [PySem.Str.length_append]; omega, txtOk_app zk (txtOk_one lc), B6, k5.trans k6⟩
      · exact ⟨z, _, rfl, zl, zk, B5, k5⟩
    · rintro σ H5 ⟨z, v4, rfl, zl, zk, B5, k5⟩
      exact ⟨_, rfl, q z H5 zl zk B5 k5⟩
  case g2 =>
    have tl : (Str.ofString "").length ≤ 200 := by decide
    have tk : txtOk (Str.ofString "") := fun c hc => by
      have e : (Str.ofString "").cps.toList = [] := by decide +kernel
      rw [e] at hc
      cases hc
    generalize Str.ofString "" = t0 at tl tk ⊢
    refine ⟨_, rfl, p, l, _, rfl, by decide, B1, fun m H4 m0 m1 B4 k4 => ?_⟩
    refine ⟨m, rfl, by omega, by omega, for_range (lo := 0) (n := m.toNat) (fun i σ H5 => ∃ (z : Str) (v4 : Option V), σ = [some (.ref p), some (.int 200), some (.str sgn), some (.str z), v4] ∧ z.length ≤ 200 ∧ txtOk z ∧ BoxAt H5 p l ∧ Keep p H H5)
      ⟨t0, _, rfl, tl, tk, B4, k1.trans k4⟩ ?_ ?_⟩
    · rintro i σ H5 hi ⟨z, v4, rfl, zl, zk, B5, k5⟩
      refine ⟨_, rfl, _, rfl, by omega, _, rfl, _, _, rfl, rfl, _, rfl, ite2 (fun c => ?_) (fun c => ?_)⟩
      · have c' : ((z.length : Nat) : Int) < 200 := of_decide_eq_true c
        refine ⟨_, rfl, _, rfl, _, rfl, p, l, _, rfl, by decide, B5, fun i H6 i0 i1 B6 k6 => ?_⟩
        obtain ⟨c, hc, lc⟩ := sgn_at i0 i1
        have l1 : (⟨#[c]⟩ : Str).length = 1 := rfl
        refine ⟨_, _, c, rfl, rfl, hsg, hc, _, _, rfl, rfl, by omega, ?_⟩
        exact ⟨_, _, rfl, by rw [PySem.Str.length_append]; omega, txtOk_app zk (txtOk_one lc), B6, k5.trans k6⟩
      · exact ⟨z, _, rfl, zl, zk, B5, k5⟩
    · rintro σ H5 ⟨z, v4, rfl, zl, zk, B5, k5⟩
      exact ⟨_, rfl, q z H5 zl zk B5 k5⟩
structure Good (a : Vl) : Prop where
  ok : a.ok
  sh : SeqAt.shaped a.d = true
  dk : okD 6 a.d = true
  ob : ∀ t n, a = .obj t n → ∃ ts : List Int, t = .tuple (ts.map PyData.int)
theorem lay_txt {z : Str} (h : txtOk z) : PyData.canLay0 (.str z) = true := by
  show (z.cps.all fun x => decide (x < 0x110000)) = true
  rw [← Array.all_toList, List.all_eq_true]
  exact fun c hc => decide_eq_true (h c hc)
theorem good_non : Good .non := ⟨trivial, by decide +kernel, by decide +kernel, fun _ _ e => nomatch e⟩
theorem good_bl (b : Bool) : Good (.bl b) := ⟨trivial, by cases b <;> decide +kernel, by cases b <;> decide +kernel, fun _ _ e => nomatch e⟩
theorem lay_two {k : Str} {d : PyData} (hk : PyData.canLay0 (.str k) = true) (hd : PyData.canLay0 d = true) (h : d.depth = 0) : SeqAt.shaped (.tuple [.str k, d]) = true := by
  have e1 : PyData.canLay0 (.tuple [.str k, d]) = true := by
    simp only [PyData.canLay0, PyData.canLayAll0] at hk ⊢
    rw [hk, hd]
    rfl
  have e2 : (PyData.tuple [.str k, d]).depth ≤ 64 := by
    simp only [PyData.depth, PyData.depthAll]
    rw [h]
    decide
  unfold SeqAt.shaped
  rw [e1, decide_eq_true e2]
  rfl
theorem good_int {n : Int} (h : n.natAbs < 1000000000000000000000000000000000000000000000000000000000000) : Good (.int n) :=
  ⟨h, lay_two (k := "int") (by decide +kernel) (by simp only [PyData.canLay0]) (by simp only [PyData.depth]), by simp [Vl.d, Vl.rest, okD], fun _ _ e => nomatch e⟩
theorem good_txt {z : Str} (h : z.length ≤ 1000) (k : txtOk z) : Good (.txt z) :=
  ⟨h, lay_two (k := "text") (by decide +kernel) (lay_txt k) (by simp only [PyData.depth]), by simp [Vl.d, Vl.rest, okD], fun _ _ e => nomatch e⟩
theorem lay_ints : ∀ ts : List Int, PyData.canLayAll0 (ts.map PyData.int) = true ∧ PyData.depthAll (ts.map PyData.int) = 0
  | [] => ⟨by simp only [List.map_nil, PyData.canLayAll0], by simp only [List.map_nil, PyData.depthAll]⟩
  | t :: ts => by
    obtain ⟨h1, h2⟩ := lay_ints ts
    refine ⟨?_, ?_⟩
    · simp only [List.map_cons, PyData.canLayAll0, PyData.canLay0]
      rw [h1]
      rfl
    · simp only [List.map_cons, PyData.depthAll, PyData.depth]
      rw [h2]
      rfl
theorem good_obj {ts : List Int} {n : Int} (h : ts.length ≤ 1000) : Good (.obj (.tuple (ts.map PyData.int)) n) := by
  obtain ⟨h1, h2⟩ := lay_ints ts
  have hk : PyData.canLay0 (.str "object") = true := by decide +kernel
  refine ⟨trivial, ?_, ?_, fun _ _ e => ⟨ts, (Vl.obj.inj e).1.symm⟩⟩
  · have e1 : PyData.canLay0 (Vl.obj (.tuple (ts.map PyData.int)) n).d = true := by
      simp only [Vl.d, Vl.kind, Vl.rest, PyData.canLay0, PyData.canLayAll0] at hk ⊢
      rw [hk, h1]
      rfl
    have e2 : (Vl.obj (.tuple (ts.map PyData.int)) n).d.depth ≤ 64 := by
      simp only [Vl.d, Vl.kind, Vl.rest, PyData.depth, PyData.depthAll]
      rw [h2]
      decide
    unfold SeqAt.shaped
    rw [e1, decide_eq_true e2]
    rfl
  · simp [Vl.d, Vl.rest, okD, h]
theorem dp_ints {K : PySem.W.Frag} {H : Hp} : ∀ ts : List Int, DpAll K H (ts.map V.int) (ts.map PyData.int)
  | [] => .nil
  | t :: ts => .cons (.int t) (dp_ints ts)
def spValue (K : PySem.W.Frag) : Sp := fun vs H Q _ => ∃ (p l : Addr), vs = [.ref p] ∧ BoxAt H p l ∧ ∀ (v : V) (a : Vl) (H' : Hp), Dp K H' v a.d → Good a → BoxAt H' p l → Keep p H H' → Q v H'
theorem ok__law_value (T : Tx K mg) : FnOk P w K mg base CX0 3 T.d__law_value.f T.d__law_value.fd P__law_value (spValue K) := by
  have G__law_draw := ok__law_draw (P := P) (w := w) (base := base) T
  have G__law_text := ok__law_text (P := P) (w := w) (base := base) T
  have G__law_number := ok__law_number (P := P) (w := w) (base := base) T
  refine T.d__law_value.F.ok sc__law_value (fun vs H Q E h => ?_) (fun cdv A outer s H vs Q E hr h => ?_)
  · obtain ⟨p, l, rfl, _⟩ := h
    rfl
  obtain ⟨p, l, rfl, B, q⟩ := h
  refine ⟨_, (pss_cons (ps_set (i := 1) sc__law_value.nd rfl (Or.inl rfl) (pe_call G__law_draw (hr.mono (by omega)) (by rfl) T.d__law_draw.m T.d__law_draw.F.kp T.d__law_draw.b .nil pass0 (pa_cons (pv 0) (pa_cons pe_int pa_nil))))
    (pss_cons (ps_if (pt_cmpR op_eq (pv 1) pe_int (nomark _))
      (pss_one (ps_ret (pe_tup (pa_cons pe_str pa_nil))))
      pss_nil)
    (pss_cons (ps_if (pt_cmpR op_eq (pv 1) pe_int (nomark _))
      (pss_one (ps_ret (pe_tup (pa_cons pe_str (pa_cons (pe_cmpR op_eq (pe_call G__law_draw (hr.mono (by omega)) (by rfl) T.d__law_draw.m T.d__law_draw.F.kp T.d__law_draw.b .nil pass0 (pa_cons (pv 0) (pa_cons pe_int pa_nil))) pe_int (nomark _)) pa_nil)))))
      pss_nil)
    (pss_cons (ps_if (pt_cmpR op_eq (pv 1) pe_int (nomark _))
      (pss_one (ps_ret (pe_tup (pa_cons pe_str (pa_cons (pe_call G__law_text (hr.mono (by omega)) (by rfl) T.d__law_text.m T.d__law_text.F.kp T.d__law_text.b .nil pass0 (pa_cons (pv 0) (pa_cons pe_int pa_nil))) pa_nil)))))
      pss_nil)
    (pss_cons (ps_if (pt_cmpR op_eq (pv 1) pe_int (nomark _))
      (pss_cons (ps_set (i := 2) sc__law_value.nd rfl (Or.inl rfl) (pe_tup pa_nil))
    (pss_cons (ps_for PassesOwn.never rfl (pi_range1 (by rfl) T.z_range (pa_cons (pe_call G__law_draw (hr.mono (by omega)) (by rfl) T.d__law_draw.m T.d__law_draw.F.kp T.d__law_draw.b .nil pass0 (pa_cons (pv 0) (pa_cons pe_int pa_nil))) pa_nil)) (pg_name (i := 3) sc__law_value.nd rfl (Or.inl rfl))
      (pss_one (ps_set (i := 2) sc__law_value.nd rfl (Or.inl rfl) (pe_op op_catA (pv 2) (pe_tup (pa_cons (pe_call G__law_draw (hr.mono (by omega)) (by rfl) T.d__law_draw.m T.d__law_draw.F.kp T.d__law_draw.b .nil pass0 (pa_cons (pv 0) (pa_cons pe_int pa_nil))) pa_nil))))))
    (pss_one (ps_ret (pe_tup (pa_cons pe_str (pa_cons (pv 2) (pa_cons (pe_call G__law_draw (hr.mono (by omega)) (by rfl) T.d__law_draw.m T.d__law_draw.F.kp T.d__law_draw.b .nil pass0 (pa_cons (pv 0) (pa_cons pe_int pa_nil))) pa_nil))))))))
      pss_nil)
    (pss_one (ps_ret (pe_tup (pa_cons pe_str (pa_cons (pe_call G__law_number (hr.mono (by omega)) (by rfl) T.d__law_number.m T.d__law_number.F.kp T.d__law_number.b .nil pass0 (pa_cons (pv 0) pa_nil)) pa_nil)))))))))), ?_⟩
  refine ⟨_, rfl, p, l, _, rfl, by decide, B, fun kd H1 _ _ B1 k1 => ?_⟩
  refine ⟨_, rfl, rfl, _, rfl, ite2 (fun _ => ?_) (fun _ => ?_)⟩
  · refine ⟨(by decide), fun r nr => ?_⟩
    have s1 := same_new nr (.tup [.str "none"])
    exact q _ .non _ (.tup (SqT.of upd_same) (.cons (.str "none") .nil)) good_non (B1.same s1) (k1.trans (.of s1))
  refine ⟨_, rfl, rfl, _, rfl, ite2 (fun _ => ?_) (fun _ => ?_)⟩
  · refine ⟨_, rfl, p, l, _, rfl, by decide, B1, fun z H2 _ _ B2 k2 => ⟨rfl, two_le, fun r nr => ?_⟩⟩
    have s1 := same_new nr (.tup [.str "bool", .bl (decide (V.int z = V.int 1))])
    exact q _ (.bl _) _ (dp_two upd_same (.bl _)) (good_bl _) (B2.same s1) ((k1.trans k2).trans (.of s1))
  refine ⟨_, rfl, rfl, _, rfl, ite2 (fun _ => ?_) (fun _ => ?_)⟩
  · refine ⟨_, rfl, p, l, rfl, B1, fun z H2 hz kz B2 k2 => ⟨two_le, fun r nr => ?_⟩⟩
    have s1 := same_new nr (.tup [.str "text", .str z])
    exact q _ (.txt z) _ (dp_two upd_same (.str z)) (good_txt (by omega) kz) (B2.same s1) ((k1.trans k2).trans (.of s1))
  refine ⟨_, rfl, rfl, _, rfl, ite2 (fun _ => ?_) (fun _ => ?_)⟩
  · refine ⟨(by decide), fun t0 n0 => ?_⟩
    have s0 := same_new n0 (.tup [])
    have B2 := B1.same s0
    have k2 := k1.trans (Keep.of (p := p) s0)
    refine ⟨_, rfl, p, l, _, rfl, by decide, B2, fun m H3 m0 m1 B3 k3 => ?_⟩
    refine ⟨m, rfl, by omega, by omega, for_range (lo := 0) (n := m.toNat) (fun i σ H4 => ∃ (t : Addr) (ts : List Int) (v1 v3 : Option V), σ = [some (.ref p), v1, some (.ref t), v3] ∧ H4 t = some (.tup (ts.map V.int)) ∧ ts.length ≤ i ∧ t ≠ p ∧ BoxAt H4 p l ∧ Keep p H H4)
      ⟨t0, [], _, _, rfl, ?_, Nat.le_refl 0, ?_, B3, k2.trans k3⟩ ?_ ?_⟩
    · obtain ⟨⟨k, _, hp⟩, _, _⟩ := B1
      exact k3 _ _ upd_same (ne_of_none hp n0).symm
    · obtain ⟨⟨k, _, hp⟩, _, _⟩ := B1
      exact (ne_of_none hp n0).symm
    · rintro i σ H4 hi ⟨t, ts, v1, v3, rfl, ht, tl, tp, B4, k4⟩
      refine ⟨_, rfl, _, rfl, p, l, _, rfl, by decide, B4, fun z H5 _ _ B5 k5 => ⟨one_le, fun r nr => ?_⟩⟩
      have s5 := same_new nr (.tup [.int z])
      have ht5 : upd H5 r (.tup [.int z]) t = some (.tup (ts.map V.int)) := s5 _ _ (k5 _ _ ht tp)
      have B6 := B5.same s5
      have k6 := (k4.trans k5).trans (Keep.of (p := p) s5)
      have lin : (ts.map V.int).length + 1 ≤ sizeLine := by
        rw [List.length_map]
        exact lines (by omega)
      have rp : r ≠ p := by
        obtain ⟨⟨k, _, hp⟩, _, _⟩ := B5
        exact (ne_of_none hp nr).symm
      refine ⟨t, r, _, _, rfl, rfl, SqT.of ht5, SqT.of upd_same, lin, fun e => ?_, fun _ e => absurd e (by simp), fun _ _ u nu => ?_⟩
      · exact ⟨r, [z], _, _, rfl, upd_same, by simp, rp, B6, k6⟩
      · have s6 := same_new nu (.tup (ts.map V.int ++ [.int z]))
        have up : u ≠ p := by
          obtain ⟨⟨k, _, hp⟩, _, _⟩ := B6
          exact (ne_of_none hp nu).symm
        exact ⟨u, ts ++ [z], _, _, rfl, by rw [upd_same, List.map_append]; rfl, by rw [List.length_append, List.length_singleton]; omega, up, B6.same s6, k6.trans (.of s6)⟩
    · rintro σ H4 ⟨t, ts, v1, v3, rfl, ht, tl, tp, B4, k4⟩
      refine ⟨_, rfl, _, rfl, p, l, _, rfl, by decide, B4, fun z H5 _ _ B5 k5 => ⟨three_le, fun r nr => ?_⟩⟩
      have s1 := same_new nr (.tup [.str "object", .ref t, .int z])
      refine q _ (.obj (.tuple (ts.map PyData.int)) z) _ ?_ (good_obj (by omega)) (B5.same s1) ((k4.trans k5).trans (.of s1))
      exact .tup (SqT.of upd_same) (.cons (.str "object") (.cons (.tup (SqT.of (s1 _ _ (k5 _ _ ht tp))) (dp_ints ts)) (.cons (.int z) .nil)))
  refine ⟨_, rfl, p, l, rfl, B1, fun z H2 hz B2 k2 => ⟨two_le, fun r nr => ?_⟩⟩
  have s1 := same_new nr (.tup [.str "int", .int z])
  exact q _ (.int z) _ (dp_two upd_same (.int z)) (good_int hz) (B2.same s1) ((k1.trans k2).trans (.of s1))
/-! ### more on data -/
theorem dp_keep {K : PySem.W.Frag} {H H' : Hp} {p : Addr} (hp : ∃ xs, H p = some (.lst xs)) (k : Keep p H H') : ∀ (m : Nat) (v : V) (d : PyData), okD m d = true → Dp K H v d → Dp K H' v d
  | 0, _, d, h, _ => by simp [okD] at h
  | m + 1, v, d, h, x => by
    obtain ⟨ys, hp⟩ := id hp
    cases x with
    | non => exact .non
    | bl b => exact .bl b
    | int i => exact .int i
    | str s => exact .str s
    | lst _ _ => simp [okD] at h
    | @tup a xs ds hs ha =>
      have hd := (okD_tup h).2
      refine .tup (xs := xs) ?_ ?_
      · rcases hs with (g | ⟨o, g⟩) | g
        · exact .inl (.inl (k _ _ g (ne_of g hp (fun z => by cases z))))
        · exact .inl (.inr ⟨o, k _ _ g (ne_of g hp (fun z => by cases z))⟩)
        · exact .inr g
      · have go : ∀ {xs : List V} {ds : List PyData}, DpAll K H xs ds → (∀ d ∈ ds, okD m d = true) → DpAll K H' xs ds := by
          intro xs
          induction xs with
          | nil =>
            intro ds a _
            cases a
            exact .nil
          | cons x xs ih =>
            intro ds a hd
            cases a with
            | cons a b => exact .cons (dp_keep ⟨ys, hp⟩ k m _ _ (hd _ List.mem_cons_self) a) (ih b fun d hd' => hd d (List.mem_cons_of_mem _ hd'))
        exact go ha hd
theorem BoxAt.lst {H : Hp} {p l : Addr} (B : BoxAt H p l) : ∃ xs, H p = some (.lst xs) := by
  obtain ⟨⟨k, _, h⟩, _, _⟩ := B
  exact ⟨_, h⟩
theorem eqv_tup (xs ys : List PyData) : PyData.eqv (.tuple xs) (.tuple ys) = PyData.eqvAll xs ys := by simp only [PyData.eqv]
theorem eqvAll_cons (x y : PyData) (xs ys : List PyData) : PyData.eqvAll (x :: xs) (y :: ys) = (PyData.eqv x y && PyData.eqvAll xs ys) := by simp only [PyData.eqvAll]
theorem eqvAll_nil : PyData.eqvAll [] [] = true := by simp only [PyData.eqvAll]
theorem kinds_apart {k m : Str} {xs ys : List PyData} (h : (k == m) = false) : PyData.eqv (.tuple (.str k :: xs)) (.tuple (.str m :: ys)) = false ∧ sameD (.tuple (.str k :: xs)) (.tuple (.str m :: ys)) = false := by
  refine ⟨?_, ?_⟩
  · rw [eqv_tup, eqvAll_cons]
    simp only [PyData.eqv]
    rw [h]
    rfl
  · rw [sameD_tup, sameAll_cons]
    simp only [sameD]
    rw [h]
    rfl
theorem vl_apart {a b : Vl} (h : (a.kind == b.kind) = false) : PyData.eqv a.d b.d = false ∧ sameD a.d b.d = false := kinds_apart h
/-- all objects but lists are as they were -/
def KeepT (H H' : Hp) : Prop := ∀ b o, H b = some o → (∀ xs, o ≠ .lst xs) → H' b = some o
theorem KeepT.refl (H : Hp) : KeepT H H := fun _ _ h _ => h
theorem KeepT.trans {H H1 H2 : Hp} (a : KeepT H H1) (b : KeepT H1 H2) : KeepT H H2 := fun c o h n => b c o (a c o h n) n
theorem KeepT.same {H H' : Hp} (s : Same H H') : KeepT H H' := fun b o h _ => s b o h
theorem KeepT.keep {p : Addr} {H H' : Hp} (hp : ∃ xs, H p = some (.lst xs)) (k : Keep p H H') : KeepT H H' := fun b o h n => by
  obtain ⟨xs, hp⟩ := hp
  refine k b o h fun e => ?_
  subst e
  rw [hp] at h
  exact n xs (Option.some.inj h).symm
theorem KeepT.updL {p : Addr} {H : Hp} {o : HO} (hp : ∃ xs, H p = some (.lst xs)) : KeepT H (upd H p o) := KeepT.keep hp Keep.upd
theorem sqT_keep {K : PySem.W.Frag} {H H' : Hp} {a : Addr} {xs : List V} (k : KeepT H H') (h : SqT K H a xs) : SqT K H' a xs := by
  rcases h with (g | ⟨o, g⟩) | g
  · exact .inl (.inl (k _ _ g fun _ e => nomatch e))
  · exact .inl (.inr ⟨o, k _ _ g fun _ e => nomatch e⟩)
  · exact .inr g
theorem dp_keepT {K : PySem.W.Frag} {H H' : Hp} (k : KeepT H H') : ∀ (m : Nat) (v : V) (d : PyData), okD m d = true → Dp K H v d → Dp K H' v d
  | 0, _, d, h, _ => by simp [okD] at h
  | m + 1, v, d, h, x => by
    cases x with
    | non => exact .non
    | bl b => exact .bl b
    | int i => exact .int i
    | str s => exact .str s
    | lst _ _ => simp [okD] at h
    | @tup a xs ds hs ha =>
      have hd := (okD_tup h).2
      refine .tup (xs := xs) (sqT_keep k hs) ?_
      have go : ∀ {xs : List V} {ds : List PyData}, DpAll K H xs ds → (∀ d ∈ ds, okD m d = true) → DpAll K H' xs ds := by
        intro xs
        induction xs with
        | nil =>
          intro ds a _
          cases a
          exact .nil
        | cons x xs ih =>
          intro ds a hd
          cases a with
          | cons a b => exact .cons (dp_keepT k m _ _ (hd _ List.mem_cons_self) a) (ih b fun d hd' => hd d (List.mem_cons_of_mem _ hd'))
      exact go ha hd
/-! ### negative, opposite, truth -/
def negD : Vl → PyData
  | .int n => okP "int" (.int (-n))
  | _ => errP "kind"
def oppD : Vl → PyData
  | .bl b => okP "bool" (.bool (!b))
  | _ => errP "kind"
def truD : Vl → PyData
  | .bl b => .tuple [.str "ok", .bool b]
  | _ => errP "kind"
theorem negD_no {a : Vl} (h : a.kind ≠ "int") : negD a = errP "kind" := by
  cases a <;> first | rfl | exact absurd rfl h
theorem oppD_no {a : Vl} (h : a.kind ≠ "bool") : oppD a = errP "kind" := by
  cases a <;> first | rfl | exact absurd rfl h
theorem truD_no {a : Vl} (h : a.kind ≠ "bool") : truD a = errP "kind" := by
  cases a <;> first | rfl | exact absurd rfl h
def spUn (K : PySem.W.Frag) (g : Vl → PyData) : Sp := fun vs H Q _ => ∃ (x : V) (a : Vl), vs = [x] ∧ Dp K H x a.d ∧ Gives K H (g a) Q
theorem ok_negative (T : Tx K mg) : FnOk P w K mg base CX0 1 T.d_negative.f T.d_negative.fd P_negative (spUn K negD) := by
  refine T.d_negative.F.ok sc_negative (fun vs H Q E h => ?_) (fun cdv A outer s H vs Q E hr h => ?_)
  · obtain ⟨x, a, rfl, _⟩ := h
    rfl
  obtain ⟨x, a, rfl, hx, q⟩ := h
  refine ⟨_, (pss_cons (ps_if (pt_cmpR op_ne (pe_ix ix_tup (pv 0) pe_int (fun _ _ => rfl)) pe_str (nomark _))
      (pss_one (ps_ret (pe_glob (v := V.ref T.a_KIND) (by rfl) T.c_KIND rfl)))
      pss_nil)
    (pss_one (ps_ret (pe_tup (pa_cons pe_str (pa_cons (pe_tup (pa_cons pe_str (pa_cons (pe_un un_neg (pe_ix ix_tup (pv 0) pe_int (fun _ _ => rfl))) pa_nil))) pa_nil)))))), ?_⟩
  obtain ⟨p, xs, rfl, sx, ax⟩ := vl_at hx
  refine ⟨_, rfl, p, _, _, _, rfl, rfl, sx, at_of (j := 0) rfl rfl, rfl, _, rfl, ne_if (fun e => ?_) (fun e => ?_)⟩
  · rw [negD_no e] at q
    exact q _ _ (Same.refl H) (kind_dp T H)
  · obtain ⟨n, rfl⟩ := kind_int e
    obtain ⟨p', e1, su⟩ := int_at hx
    cases e1
    refine ⟨_, rfl, p, _, _, _, rfl, rfl, su, at_of (j := 1) rfl rfl, _, rfl, two_le, fun r1 n1 => ⟨two_le, fun r2 n2 => ?_⟩⟩
    obtain ⟨s1, d1⟩ := new_two (K := K) (k := "int") (m := "ok") (.int (-n)) n1 n2
    exact q _ _ s1 d1
theorem ok_opposite (T : Tx K mg) : FnOk P w K mg base CX0 1 T.d_opposite.f T.d_opposite.fd P_opposite (spUn K oppD) := by
  refine T.d_opposite.F.ok sc_opposite (fun vs H Q E h => ?_) (fun cdv A outer s H vs Q E hr h => ?_)
  · obtain ⟨x, a, rfl, _⟩ := h
    rfl
  obtain ⟨x, a, rfl, hx, q⟩ := h
  refine ⟨_, (pss_cons (ps_if (pt_cmpR op_ne (pe_ix ix_tup (pv 0) pe_int (fun _ _ => rfl)) pe_str (nomark _))
      (pss_one (ps_ret (pe_glob (v := V.ref T.a_KIND) (by rfl) T.c_KIND rfl)))
      pss_nil)
    (pss_one (ps_ret (pe_tup (pa_cons pe_str (pa_cons (pe_tup (pa_cons pe_str (pa_cons (pe_not (pe_ix ix_tup (pv 0) pe_int (fun _ _ => rfl))) pa_nil))) pa_nil)))))), ?_⟩
  obtain ⟨p, xs, rfl, sx, ax⟩ := vl_at hx
  refine ⟨_, rfl, p, _, _, _, rfl, rfl, sx, at_of (j := 0) rfl rfl, rfl, _, rfl, ne_if (fun e => ?_) (fun e => ?_)⟩
  · rw [oppD_no e] at q
    exact q _ _ (Same.refl H) (kind_dp T H)
  · obtain ⟨b, rfl⟩ := kind_bl e
    obtain ⟨p', e1, su⟩ := bl_at hx
    cases e1
    refine ⟨_, rfl, p, _, _, _, rfl, rfl, su, at_of (j := 1) rfl rfl, _, rfl, two_le, fun r1 n1 => ⟨two_le, fun r2 n2 => ?_⟩⟩
    obtain ⟨s1, d1⟩ := new_two (K := K) (k := "bool") (m := "ok") (.bl (!b)) n1 n2
    exact q _ _ s1 d1
theorem ok_truth (T : Tx K mg) : FnOk P w K mg base CX0 1 T.d_truth.f T.d_truth.fd P_truth (spUn K truD) := by
  refine T.d_truth.F.ok sc_truth (fun vs H Q E h => ?_) (fun cdv A outer s H vs Q E hr h => ?_)
  · obtain ⟨x, a, rfl, _⟩ := h
    rfl
  obtain ⟨x, a, rfl, hx, q⟩ := h
  refine ⟨_, (pss_cons (ps_if (pt_cmpR op_ne (pe_ix ix_tup (pv 0) pe_int (fun _ _ => rfl)) pe_str (nomark _))
      (pss_one (ps_ret (pe_glob (v := V.ref T.a_KIND) (by rfl) T.c_KIND rfl)))
      pss_nil)
    (pss_one (ps_ret (pe_tup (pa_cons pe_str (pa_cons (pe_ix ix_tup (pv 0) pe_int (fun _ _ => rfl)) pa_nil)))))), ?_⟩
  obtain ⟨p, xs, rfl, sx, ax⟩ := vl_at hx
  refine ⟨_, rfl, p, _, _, _, rfl, rfl, sx, at_of (j := 0) rfl rfl, rfl, _, rfl, ne_if (fun e => ?_) (fun e => ?_)⟩
  · rw [truD_no e] at q
    exact q _ _ (Same.refl H) (kind_dp T H)
  · obtain ⟨b, rfl⟩ := kind_bl e
    obtain ⟨p', e1, su⟩ := bl_at hx
    cases e1
    refine ⟨_, rfl, p, _, _, _, rfl, rfl, su, at_of (j := 1) rfl rfl, two_le, fun r1 n1 => ?_⟩
    obtain ⟨s1, d1⟩ := new_one (K := K) (k := "ok") (.bl b) n1
    exact q _ _ s1 d1
theorem okD_err (x : Str) : okD 5 (errP x) = true := by simp [errP, okD]
theorem okD_neg (a : Vl) : okD 5 (negD a) = true := by cases a <;> simp [negD, okP, errP, okD]
theorem okD_opp (a : Vl) : okD 5 (oppD a) = true := by cases a <;> simp [oppD, okP, errP, okD]
theorem okD_tru (a : Vl) : okD 5 (truD a) = true := by cases a <;> simp [truD, errP, okD]
def spOne (K : PySem.W.Frag) : Sp := fun vs H Q _ => ∃ (x : V) (a : Vl), vs = [x] ∧ Dp K H x a.d ∧ ∀ H', Same H H' → Q (.bl true) H'
theorem ok__law_one (T : Tx K mg) : FnOk P w K mg base CX0 6 T.d__law_one.f T.d__law_one.fd P__law_one (spOne K) := by
  have G_negative := ok_negative (P := P) (w := w) (base := base) T
  have G_opposite := ok_opposite (P := P) (w := w) (base := base) T
  have G_truth := ok_truth (P := P) (w := w) (base := base) T
  have G__law_same := ok__law_same (P := P) (w := w) (base := base) T 5
  refine T.d__law_one.F.ok sc__law_one (fun vs H Q E h => ?_) (fun cdv A outer s H vs Q E hr h => ?_)
  · obtain ⟨x, a, rfl, _⟩ := h
    rfl
  obtain ⟨x, a, rfl, hx, q⟩ := h
  refine ⟨_, (pss_cons (ps_set (i := 1) sc__law_one.nd rfl (Or.inl rfl) (pe_lst (pa_cons (pe_tup (pa_cons pe_str (pa_cons pe_str pa_nil))) (pa_cons (pe_tup (pa_cons pe_str (pa_cons pe_str pa_nil))) (pa_cons (pe_tup (pa_cons pe_str (pa_cons pe_str pa_nil))) pa_nil)))))
    (pss_cons (ps_if (pt_cmpR op_eq (pe_ix ix_tup (pv 0) pe_int (fun _ _ => rfl)) pe_str (nomark _))
      (pss_one (ps_asg (pe_tup (pa_cons pe_str (pa_cons (pe_tup (pa_cons pe_str (pa_cons (pe_op op_sub pe_int (pe_ix ix_tup (pv 0) pe_int (fun _ _ => rfl))) pa_nil))) pa_nil))) (pg_sub (pv 1) pe_int set_list)))
      pss_nil)
    (pss_cons (ps_if (pt_cmpR op_eq (pe_ix ix_tup (pv 0) pe_int (fun _ _ => rfl)) pe_str (nomark _))
      (pss_cons (ps_asg (pe_tup (pa_cons pe_str (pa_cons (pe_tup (pa_cons pe_str (pa_cons (pe_not (pe_ix ix_tup (pv 0) pe_int (fun _ _ => rfl))) pa_nil))) pa_nil))) (pg_sub (pv 1) pe_int set_list))
    (pss_one (ps_asg (pe_tup (pa_cons pe_str (pa_cons (pe_ix ix_tup (pv 0) pe_int (fun _ _ => rfl)) pa_nil))) (pg_sub (pv 1) pe_int set_list))))
      pss_nil)
    (pss_cons (ps_if (PW.pt (pw_or (pt_not (pt_val (pe_call G__law_same (hr.mono (by omega)) (by rfl) T.d__law_same.m T.d__law_same.F.kp T.d__law_same.b .nil pass0 (pa_cons (pe_call G_negative (hr.mono (by omega)) (by rfl) T.d_negative.m T.d_negative.F.kp T.d_negative.b .nil pass0 (pa_cons (pv 0) pa_nil)) (pa_cons (pe_ix ix_list (pv 1) pe_int (fun _ _ => rfl)) pa_nil))))) (pw_or1 (pt_not (pt_val (pe_call G__law_same (hr.mono (by omega)) (by rfl) T.d__law_same.m T.d__law_same.F.kp T.d__law_same.b .nil pass0 (pa_cons (pe_call G_opposite (hr.mono (by omega)) (by rfl) T.d_opposite.m T.d_opposite.F.kp T.d_opposite.b .nil pass0 (pa_cons (pv 0) pa_nil)) (pa_cons (pe_ix ix_list (pv 1) pe_int (fun _ _ => rfl)) pa_nil))))))))
      (pss_one (ps_ret pe_bl))
      pss_nil)
    (pss_one (ps_ret (pe_call G__law_same (hr.mono (by omega)) (by rfl) T.d__law_same.m T.d__law_same.F.kp T.d__law_same.b .nil pass0 (pa_cons (pe_call G_truth (hr.mono (by omega)) (by rfl) T.d_truth.m T.d_truth.F.kp T.d_truth.b .nil pass0 (pa_cons (pv 0) pa_nil)) (pa_cons (pe_ix ix_list (pv 1) pe_int (fun _ _ => rfl)) pa_nil))))))))), ?_⟩
  refine ⟨two_le, fun t0 m0 => ⟨two_le, fun t1 m1 => ⟨two_le, fun t2 m2 => ⟨three_le, fun L mL => ?_⟩⟩⟩⟩
  have a0 := same_new m0 (.tup [.str "error", .str "kind"])
  have a1 := same_new m1 (.tup [.str "error", .str "kind"])
  have a2 := same_new m2 (.tup [.str "error", .str "kind"])
  have a3 := same_new mL (.lst [.ref t0, .ref t1, .ref t2])
  have sX := ((a0.trans a1).trans a2).trans a3
  have e0 : Dp K _ (.ref t0) (errP "kind") := dp_same ((a1.trans a2).trans a3) (dp_two (K := K) upd_same (.str "kind"))
  have e1 : Dp K _ (.ref t1) (errP "kind") := dp_same (a2.trans a3) (dp_two (K := K) upd_same (.str "kind"))
  have e2 : Dp K _ (.ref t2) (errP "kind") := dp_same a3 (dp_two (K := K) upd_same (.str "kind"))
  have hL : upd (upd (upd (upd H t0 (.tup [.str "error", .str "kind"])) t1 (.tup [.str "error", .str "kind"])) t2 (.tup [.str "error", .str "kind"])) L (.lst [.ref t0, .ref t1, .ref t2]) L = some (.lst [.ref t0, .ref t1, .ref t2]) := upd_same
  have nL : H L = none := ((a0.trans a1).trans a2).free mL
  generalize upd (upd (upd (upd H t0 (.tup [.str "error", .str "kind"])) t1 (.tup [.str "error", .str "kind"])) t2 (.tup [.str "error", .str "kind"])) L (.lst [.ref t0, .ref t1, .ref t2]) = HX at sX e0 e1 e2 hL ⊢
  obtain ⟨p, xs, rfl, sx, ax⟩ := vl_at (dp_same sX hx)
  refine ⟨_, rfl, p, _, _, _, rfl, rfl, sx, at_of (j := 0) rfl rfl, rfl, _, rfl, op_if (fun e => ?g1) (fun e => ?_)⟩
  case g1 =>
    obtain ⟨n, rfl⟩ := kind_int e
    obtain ⟨p', z1, su⟩ := int_at (dp_same sX hx)
    cases z1
    refine ⟨_, rfl, p, _, _, _, rfl, rfl, su, at_of (j := 1) rfl rfl, _, _, rfl, rfl, two_le, fun r1 n1 => ⟨two_le, fun r2 n2 => ?_⟩⟩
    obtain ⟨s1, d1⟩ := new_two (K := K) (k := "int") (m := "ok") (.int (0 - n)) n1 n2
    refine ⟨_, rfl, L, _, _, 0, rfl, rfl, s1 _ _ hL, rfl, ?_⟩
    have hn : negD (.int n) = okP "int" (.int (0 - n)) := by rw [Int.zero_sub]; rfl
    have sY := same_upd (o := .lst [.ref r2, .ref t1, .ref t2]) (sX.trans s1) nL
    have k := Keep.upd (p := L) (H := upd (upd HX r1 (.tup [.str "int", .int (0 - n)])) r2 (.tup [.str "ok", .ref r1])) (o := .lst [.ref r2, .ref t1, .ref t2])
    have hl := s1 _ _ hL
    have f0 := dp_keep ⟨_, hl⟩ k 5 _ _ (by simp [okD]) d1
    have f1 := dp_keep ⟨_, hl⟩ k 5 _ _ (okD_err _) (dp_same s1 e1)
    have f2 := dp_keep ⟨_, hl⟩ k 5 _ _ (okD_err _) (dp_same s1 e2)
    have hM : upd (upd (upd HX r1 (.tup [.str "int", .int (0 - n)])) r2 (.tup [.str "ok", .ref r1])) L (.lst [.ref r2, .ref t1, .ref t2]) L = some (.lst [.ref r2, .ref t1, .ref t2]) := upd_same
    obtain ⟨p2, z2, sy⟩ := int_at (dp_same sY hx)
    cases z2
    refine ⟨_, rfl, p, _, _, _, rfl, rfl, sy, at_of (j := 0) rfl rfl, rfl, _, rfl, op_if (fun e => absurd e (by decide +kernel)) (fun _ => ?_)⟩
    change Dp K _ _ (okP "int" (.int (0 - n))) at f0
    rw [← hn] at f0
    have f1 : Dp K _ (.ref t1) (oppD (.int n)) := f1
    have f2 : Dp K _ (.ref t2) (truD (.int n)) := f2
    have hx2 := dp_same sY hx
    refine ⟨_, rfl, _, _, rfl, hx2, fun v1 HA s1 d1 => ?_⟩
    refine ⟨_, rfl, L, _, _, _, rfl, rfl, SqL.of (s1 _ _ hM), at_of (j := 0) rfl rfl, _, _, _, _, 5, rfl, d1, dp_same s1 f0, okD_neg _, okD_neg _, _, rfl, ifF (by rw [same_refl 5 _ (okD_neg _)]; rfl) ?_⟩
    refine ⟨_, rfl, _, _, rfl, dp_same s1 hx2, fun v2 HB s2 d2 => ?_⟩
    have s2 := s1.trans s2
    refine ⟨_, rfl, L, _, _, _, rfl, rfl, SqL.of (s2 _ _ hM), at_of (j := 1) rfl rfl, _, _, _, _, 5, rfl, d2, dp_same s2 f1, okD_opp _, okD_opp _, _, rfl, ifF (by rw [same_refl 5 _ (okD_opp _)]; rfl) ?_⟩
    refine ⟨_, rfl, _, _, rfl, dp_same s2 hx2, fun v3 HC s3 d3 => ?_⟩
    have s3 := s2.trans s3
    refine ⟨_, rfl, L, _, _, _, rfl, rfl, SqL.of (s3 _ _ hM), at_of (j := 2) rfl rfl, _, _, _, _, 5, rfl, d3, dp_same s3 f2, okD_tru _, okD_tru _, ?_⟩
    rw [same_refl 5 _ (okD_tru _)]
    exact q _ (sY.trans s3)
  refine ⟨_, rfl, p, _, _, _, rfl, rfl, sx, at_of (j := 0) rfl rfl, rfl, _, rfl, op_if (fun e' => ?g2) (fun e' => ?g3)⟩
  case g2 =>
    obtain ⟨b, rfl⟩ := kind_bl e'
    obtain ⟨p', z1, su⟩ := bl_at (dp_same sX hx)
    cases z1
    -- due[1] = ('ok', ('bool', not value[1]))
    refine ⟨_, rfl, p, _, _, _, rfl, rfl, su, at_of (j := 1) rfl rfl, _, rfl, two_le, fun r1 n1 => ⟨two_le, fun r2 n2 => ?_⟩⟩
    obtain ⟨s1, d1⟩ := new_two (K := K) (k := "bool") (m := "ok") (.bl (!b)) n1 n2
    have hl := s1 _ _ hL
    refine ⟨_, rfl, L, _, _, 1, rfl, rfl, hl, rfl, ?_⟩
    have sY := same_upd (o := .lst [.ref t0, .ref r2, .ref t2]) (sX.trans s1) nL
    have k := Keep.upd (p := L) (H := upd (upd HX r1 (.tup [.str "bool", .bl (!b)])) r2 (.tup [.str "ok", .ref r1])) (o := .lst [.ref t0, .ref r2, .ref t2])
    have f0 := dp_keep ⟨_, hl⟩ k 5 _ _ (okD_err _) (dp_same s1 e0)
    have f1 := dp_keep ⟨_, hl⟩ k 5 _ _ (by simp [okD]) d1
    have hM : upd (upd (upd HX r1 (.tup [.str "bool", .bl (!b)])) r2 (.tup [.str "ok", .ref r1])) L (.lst [.ref t0, .ref r2, .ref t2]) L = some (.lst [.ref t0, .ref r2, .ref t2]) := upd_same
    -- due[2] = ('ok', value[1])
    obtain ⟨p2, z2, sy⟩ := bl_at (dp_same sY hx)
    cases z2
    refine ⟨_, rfl, p, _, _, _, rfl, rfl, sy, at_of (j := 1) rfl rfl, two_le, fun r3 n3 => ?_⟩
    obtain ⟨s3, d3⟩ := new_one (K := K) (k := "ok") (.bl b) n3
    have hl3 := s3 _ _ hM
    refine ⟨_, rfl, L, _, _, 2, rfl, rfl, hl3, rfl, ?_⟩
    have sZ := same_upd (o := .lst [.ref t0, .ref r2, .ref r3]) (sY.trans s3) nL
    have k3 := Keep.upd (p := L) (H := upd (upd (upd (upd HX r1 (.tup [.str "bool", .bl (!b)])) r2 (.tup [.str "ok", .ref r1])) L (.lst [.ref t0, .ref r2, .ref t2])) r3 (.tup [.str "ok", .bl b])) (o := .lst [.ref t0, .ref r2, .ref r3])
    have f0 := dp_keep ⟨_, hl3⟩ k3 5 _ _ (okD_err _) (dp_same s3 f0)
    have f1 := dp_keep ⟨_, hl3⟩ k3 5 _ _ (by simp [okD]) (dp_same s3 f1)
    have f2 := dp_keep ⟨_, hl3⟩ k3 5 _ _ (by simp [okD]) d3
    have hM : upd (upd (upd (upd (upd HX r1 (.tup [.str "bool", .bl (!b)])) r2 (.tup [.str "ok", .ref r1])) L (.lst [.ref t0, .ref r2, .ref t2])) r3 (.tup [.str "ok", .bl b])) L (.lst [.ref t0, .ref r2, .ref r3]) L = some (.lst [.ref t0, .ref r2, .ref r3]) := upd_same
    have f0 : Dp K _ (.ref t0) (negD (.bl b)) := f0
    have f1 : Dp K _ (.ref r2) (oppD (.bl b)) := f1
    have f2 : Dp K _ (.ref r3) (truD (.bl b)) := f2
    have hx2 := dp_same sZ hx
    refine ⟨_, rfl, _, _, rfl, hx2, fun v1 HA s1 d1 => ?_⟩
    refine ⟨_, rfl, L, _, _, _, rfl, rfl, SqL.of (s1 _ _ hM), at_of (j := 0) rfl rfl, _, _, _, _, 5, rfl, d1, dp_same s1 f0, okD_neg _, okD_neg _, _, rfl, ifF (by rw [same_refl 5 _ (okD_neg _)]; rfl) ?_⟩
    refine ⟨_, rfl, _, _, rfl, dp_same s1 hx2, fun v2 HB s2 d2 => ?_⟩
    have s2 := s1.trans s2
    refine ⟨_, rfl, L, _, _, _, rfl, rfl, SqL.of (s2 _ _ hM), at_of (j := 1) rfl rfl, _, _, _, _, 5, rfl, d2, dp_same s2 f1, okD_opp _, okD_opp _, _, rfl, ifF (by rw [same_refl 5 _ (okD_opp _)]; rfl) ?_⟩
    refine ⟨_, rfl, _, _, rfl, dp_same s2 hx2, fun v3 HC s3 d3 => ?_⟩
    have s3 := s2.trans s3
    refine ⟨_, rfl, L, _, _, _, rfl, rfl, SqL.of (s3 _ _ hM), at_of (j := 2) rfl rfl, _, _, _, _, 5, rfl, d3, dp_same s3 f2, okD_tru _, okD_tru _, ?_⟩
    rw [same_refl 5 _ (okD_tru _)]
    exact q _ (sZ.trans s3)
  case g3 =>
    have f0 := e0
    have f1 := e1
    have f2 := e2
    rw [← negD_no e] at f0
    rw [← oppD_no e'] at f1
    rw [← truD_no e'] at f2
    have hM := hL
    have hx2 := dp_same sX hx
    refine ⟨_, rfl, _, _, rfl, hx2, fun v1 HA s1 d1 => ?_⟩
    refine ⟨_, rfl, L, _, _, _, rfl, rfl, SqL.of (s1 _ _ hM), at_of (j := 0) rfl rfl, _, _, _, _, 5, rfl, d1, dp_same s1 f0, okD_neg _, okD_neg _, _, rfl, ifF (by rw [same_refl 5 _ (okD_neg _)]; rfl) ?_⟩
    refine ⟨_, rfl, _, _, rfl, dp_same s1 hx2, fun v2 HB s2 d2 => ?_⟩
    have s2 := s1.trans s2
    refine ⟨_, rfl, L, _, _, _, rfl, rfl, SqL.of (s2 _ _ hM), at_of (j := 1) rfl rfl, _, _, _, _, 5, rfl, d2, dp_same s2 f1, okD_opp _, okD_opp _, _, rfl, ifF (by rw [same_refl 5 _ (okD_opp _)]; rfl) ?_⟩
    refine ⟨_, rfl, _, _, rfl, dp_same s2 hx2, fun v3 HC s3 d3 => ?_⟩
    have s3 := s2.trans s3
    refine ⟨_, rfl, L, _, _, _, rfl, rfl, SqL.of (s3 _ _ hM), at_of (j := 2) rfl rfl, _, _, _, _, 5, rfl, d3, dp_same s3 f2, okD_tru _, okD_tru _, ?_⟩
    rw [same_refl 5 _ (okD_tru _)]
    exact q _ (sX.trans s3)
def spTwo (K : PySem.W.Frag) : Sp := fun vs H Q _ => ∃ (x y : V) (a b : Vl), vs = [x, y] ∧ Dp K H x a.d ∧ Dp K H y b.d ∧ Good a ∧ Good b ∧ ∀ H', Same H H' → Q (.bl true) H'
theorem both_no {op : Str} {a b : Vl} (h1 : op ≠ "==") (h2 : op ≠ "&") (h : a.kind ≠ "int" ∨ b.kind ≠ "int") : bothV op a b = errP "kind" := by
  unfold bothV
  rw [if_neg h1, if_neg h2]
  exact ints2_no h
theorem both_amp {a b : Vl} (h : a.kind ≠ "text" ∨ b.kind ≠ "text") : bothV "&" a b = errP "kind" := by
  unfold bothV
  rw [if_neg (by decide +kernel), if_pos rfl]
  exact tog2_no h
theorem ok__law_two (T : Tx K mg) : FnOk P w K mg base CX0 6 T.d__law_two.f T.d__law_two.fd P__law_two (spTwo K) := by
  have G_both := ok_both (P := P) (w := w) (base := base) T
  have G__law_same := ok__law_same (P := P) (w := w) (base := base) T 5
  refine T.d__law_two.F.ok sc__law_two (fun vs H Q E h => ?_) (fun cdv A outer s H vs Q E hr h => ?_)
  · obtain ⟨x, y, a, b, rfl, _⟩ := h
    rfl
  obtain ⟨x, y, a, b, rfl, hx, hy, ga, gb, q⟩ := h
  refine ⟨_, (pss_cons (ps_set (i := 2) sc__law_two.nd rfl (Or.inl rfl) (pe_tup (pa_cons pe_str (pa_cons pe_str pa_nil))))
    (pss_cons (ps_if (PW.pt (pw_or (pt_cmpR op_ne (pe_ix ix_tup (pv 0) pe_int (fun _ _ => rfl)) pe_str (nomark _)) (pw_or1 (pt_cmpR op_ne (pe_ix ix_tup (pv 1) pe_int (fun _ _ => rfl)) pe_str (nomark _)))))
      (pss_one (ps_for PassesOwn.never rfl (pi_list (pe_lst (pa_cons pe_str (pa_cons pe_str (pa_cons pe_str (pa_cons pe_str (pa_cons pe_str (pa_cons pe_str (pa_cons pe_str pa_nil))))))))) (pg_name (i := 3) sc__law_two.nd rfl (Or.inl rfl))
      (pss_one (ps_if (pt_not (pt_val (pe_call G__law_same (hr.mono (by omega)) (by rfl) T.d__law_same.m T.d__law_same.F.kp T.d__law_same.b .nil pass0 (pa_cons (pe_call G_both (hr.mono (by omega)) (by rfl) T.d_both.m T.d_both.F.kp T.d_both.b .nil pass0 (pa_cons (pv 3) (pa_cons (pv 0) (pa_cons (pv 1) pa_nil)))) (pa_cons (pv 2) pa_nil)))))
      (pss_one (ps_ret pe_bl))
      pss_nil))))
      pss_nil)
    (pss_cons (ps_if (PW.pt (pw_or (pt_cmpR op_ne (pe_ix ix_tup (pv 0) pe_int (fun _ _ => rfl)) pe_str (nomark _)) (pw_or1 (pt_cmpR op_ne (pe_ix ix_tup (pv 1) pe_int (fun _ _ => rfl)) pe_str (nomark _)))))
      (pss_one (ps_ret (pe_call G__law_same (hr.mono (by omega)) (by rfl) T.d__law_same.m T.d__law_same.F.kp T.d__law_same.b .nil pass0 (pa_cons (pe_call G_both (hr.mono (by omega)) (by rfl) T.d_both.m T.d_both.F.kp T.d_both.b .nil pass0 (pa_cons pe_str (pa_cons (pv 0) (pa_cons (pv 1) pa_nil)))) (pa_cons (pv 2) pa_nil)))))
      pss_nil)
    (pss_one (ps_ret pe_bl))))), ?_⟩
  refine ⟨two_le, fun t0 m0 => ?_⟩
  have s0 := same_new m0 (.tup [.str "error", .str "kind"])
  have e0 : Dp K (upd H t0 (.tup [.str "error", .str "kind"])) (.ref t0) (errP "kind") := dp_two upd_same (.str "kind")
  generalize upd H t0 (.tup [.str "error", .str "kind"]) = HX at s0 e0 ⊢
  have smE : sameD (errP "kind") (errP "kind") = true := same_refl 5 _ (okD_err _)
  obtain ⟨p, xs, rfl, sx, ax⟩ := vl_at (dp_same s0 hx)
  obtain ⟨r, ys, rfl, sy, ay⟩ := vl_at (dp_same s0 hy)
  refine ⟨_, rfl, p, _, _, _, rfl, rfl, sx, at_of (j := 0) rfl rfl, rfl, _, rfl, ne_if (fun e => iteT ?g1) (fun e => ⟨_, rfl, r, _, _, _, rfl, rfl, sy, at_of (j := 0) rfl rfl, rfl, _, rfl, ne_if (fun e' => ?g2) (fun e' => ?g3)⟩)⟩
  case g1 =>
    have no : a.kind ≠ "int" ∨ b.kind ≠ "int" := .inl e
    refine ⟨(by decide), fun pl nl => ⟨pl, rfl, ⟨_, SqL.of upd_same⟩, for_list (K := K) (a := pl) (xs := [.str "+", .str "-", .str "*", .str "/", .str "mod", .str "<", .str "<="]) (fun i σ H1 => (∃ v3 : Option V, σ = [some (.ref p), some (.ref r), some (.ref t0), v3]) ∧ Same (upd HX pl (.lst [.str "+", .str "-", .str "*", .str "/", .str "mod", .str "<", .str "<="])) H1)
      ⟨⟨none, rfl⟩, Same.refl _⟩ (fun i σ H1 _ h => SqL.of (h.2 _ _ upd_same)) ?_ ?_⟩⟩
    · rintro i y σ H1 hi ⟨⟨v3, rfl⟩, s1⟩
      have sN := (same_new nl (.lst [.str "+", .str "-", .str "*", .str "/", .str "mod", .str "<", .str "<="])).trans s1
      have hop : ∃ op : Str, y = .str op ∧ op ≠ "==" ∧ op ≠ "&" := by
        have hm := List.mem_of_getElem? hi
        simp only [List.mem_cons, List.not_mem_nil, or_false] at hm
        rcases hm with rfl | rfl | rfl | rfl | rfl | rfl | rfl <;> exact ⟨_, rfl, by decide +kernel, by decide +kernel⟩
      obtain ⟨op, rfl, o1, o2⟩ := hop
      refine ⟨_, rfl, _, rfl, _, rfl, _, _, _, a, b, rfl, dp_same (s0.trans sN) hx, dp_same (s0.trans sN) hy, ga.ok, gb.ok, ga.sh, gb.sh, fun v H' s d => ?_⟩
      rw [both_no o1 o2 no] at d
      refine ⟨_, rfl, _, _, _, _, 5, rfl, d, dp_same (sN.trans s) e0, okD_err _, okD_err _, _, rfl, ifF (by rw [smE]; rfl) ?_⟩
      exact ⟨⟨_, rfl⟩, s1.trans s⟩
    · rintro σ H1 ⟨⟨v3, rfl⟩, s1⟩
      have s1 := (same_new nl (.lst [.str "+", .str "-", .str "*", .str "/", .str "mod", .str "<", .str "<="])).trans s1
      have hx1 := dp_same (s0.trans s1) hx
      have hy1 := dp_same (s0.trans s1) hy
      obtain ⟨p1, xs1, z1, sx1, _⟩ := vl_at hx1
      cases z1
      obtain ⟨r1, ys1, z2, sy1, _⟩ := vl_at hy1
      cases z2
      have amp : (a.kind ≠ "text" ∨ b.kind ≠ "text") → ∀ (v : V) (H' : Hp), Same H1 H' → Dp K H' v (bothV "&" a b) → Dp K H' v (errP "kind") ∧ Same H H' := fun h v H' s d => by
        rw [both_amp h] at d
        exact ⟨d, (s0.trans s1).trans s⟩
      refine ⟨_, rfl, p, _, _, _, rfl, rfl, sx1, at_of (j := 0) rfl rfl, rfl, _, rfl, ne_if (fun e => iteT ?h1) (fun e => ⟨_, rfl, r, _, _, _, rfl, rfl, sy1, at_of (j := 0) rfl rfl, rfl, _, rfl, ne_if (fun e' => ?h2) (fun e' => ?h3)⟩)⟩
      case h1 =>
        refine ⟨_, rfl, _, rfl, _, _, _, a, b, rfl, hx1, hy1, ga.ok, gb.ok, ga.sh, gb.sh, fun v H' s' d => ?_⟩
        obtain ⟨d, s⟩ := amp (.inl e) v H' s' d
        refine ⟨_, rfl, _, _, _, _, 5, rfl, d, dp_same (s1.trans s') e0, okD_err _, okD_err _, ?_⟩
        rw [smE]
        exact q _ s
      case h2 =>
        refine ⟨_, rfl, _, rfl, _, _, _, a, b, rfl, hx1, hy1, ga.ok, gb.ok, ga.sh, gb.sh, fun v H' s' d => ?_⟩
        obtain ⟨d, s⟩ := amp (.inr e') v H' s' d
        refine ⟨_, rfl, _, _, _, _, 5, rfl, d, dp_same (s1.trans s') e0, okD_err _, okD_err _, ?_⟩
        rw [smE]
        exact q _ s
      case h3 =>
        exact q _ (s0.trans s1)
  case g2 =>
    have no : a.kind ≠ "int" ∨ b.kind ≠ "int" := .inr e'
    refine ⟨(by decide), fun pl nl => ⟨pl, rfl, ⟨_, SqL.of upd_same⟩, for_list (K := K) (a := pl) (xs := [.str "+", .str "-", .str "*", .str "/", .str "mod", .str "<", .str "<="]) (fun i σ H1 => (∃ v3 : Option V, σ = [some (.ref p), some (.ref r), some (.ref t0), v3]) ∧ Same (upd HX pl (.lst [.str "+", .str "-", .str "*", .str "/", .str "mod", .str "<", .str "<="])) H1)
      ⟨⟨none, rfl⟩, Same.refl _⟩ (fun i σ H1 _ h => SqL.of (h.2 _ _ upd_same)) ?_ ?_⟩⟩
    · rintro i y σ H1 hi ⟨⟨v3, rfl⟩, s1⟩
      have sN := (same_new nl (.lst [.str "+", .str "-", .str "*", .str "/", .str "mod", .str "<", .str "<="])).trans s1
      have hop : ∃ op : Str, y = .str op ∧ op ≠ "==" ∧ op ≠ "&" := by
        have hm := List.mem_of_getElem? hi
        simp only [List.mem_cons, List.not_mem_nil, or_false] at hm
        rcases hm with rfl | rfl | rfl | rfl | rfl | rfl | rfl <;> exact ⟨_, rfl, by decide +kernel, by decide +kernel⟩
      obtain ⟨op, rfl, o1, o2⟩ := hop
      refine ⟨_, rfl, _, rfl, _, rfl, _, _, _, a, b, rfl, dp_same (s0.trans sN) hx, dp_same (s0.trans sN) hy, ga.ok, gb.ok, ga.sh, gb.sh, fun v H' s d => ?_⟩
      rw [both_no o1 o2 no] at d
      refine ⟨_, rfl, _, _, _, _, 5, rfl, d, dp_same (sN.trans s) e0, okD_err _, okD_err _, _, rfl, ifF (by rw [smE]; rfl) ?_⟩
      exact ⟨⟨_, rfl⟩, s1.trans s⟩
    · rintro σ H1 ⟨⟨v3, rfl⟩, s1⟩
      have s1 := (same_new nl (.lst [.str "+", .str "-", .str "*", .str "/", .str "mod", .str "<", .str "<="])).trans s1
      have hx1 := dp_same (s0.trans s1) hx
      have hy1 := dp_same (s0.trans s1) hy
      obtain ⟨p1, xs1, z1, sx1, _⟩ := vl_at hx1
      cases z1
      obtain ⟨r1, ys1, z2, sy1, _⟩ := vl_at hy1
      cases z2
      have amp : (a.kind ≠ "text" ∨ b.kind ≠ "text") → ∀ (v : V) (H' : Hp), Same H1 H' → Dp K H' v (bothV "&" a b) → Dp K H' v (errP "kind") ∧ Same H H' := fun h v H' s d => by
        rw [both_amp h] at d
        exact ⟨d, (s0.trans s1).trans s⟩
      refine ⟨_, rfl, p, _, _, _, rfl, rfl, sx1, at_of (j := 0) rfl rfl, rfl, _, rfl, ne_if (fun e => iteT ?h1) (fun e => ⟨_, rfl, r, _, _, _, rfl, rfl, sy1, at_of (j := 0) rfl rfl, rfl, _, rfl, ne_if (fun e' => ?h2) (fun e' => ?h3)⟩)⟩
      case h1 =>
        refine ⟨_, rfl, _, rfl, _, _, _, a, b, rfl, hx1, hy1, ga.ok, gb.ok, ga.sh, gb.sh, fun v H' s' d => ?_⟩
        obtain ⟨d, s⟩ := amp (.inl e) v H' s' d
        refine ⟨_, rfl, _, _, _, _, 5, rfl, d, dp_same (s1.trans s') e0, okD_err _, okD_err _, ?_⟩
        rw [smE]
        exact q _ s
      case h2 =>
        refine ⟨_, rfl, _, rfl, _, _, _, a, b, rfl, hx1, hy1, ga.ok, gb.ok, ga.sh, gb.sh, fun v H' s' d => ?_⟩
        obtain ⟨d, s⟩ := amp (.inr e') v H' s' d
        refine ⟨_, rfl, _, _, _, _, 5, rfl, d, dp_same (s1.trans s') e0, okD_err _, okD_err _, ?_⟩
        rw [smE]
        exact q _ s
      case h3 =>
        exact q _ (s0.trans s1)
  case g3 =>
    have s1 := Same.refl HX
    have hx1 := dp_same (s0.trans s1) hx
    have hy1 := dp_same (s0.trans s1) hy
    obtain ⟨p1, xs1, z1, sx1, _⟩ := vl_at hx1
    cases z1
    obtain ⟨r1, ys1, z2, sy1, _⟩ := vl_at hy1
    cases z2
    have amp : (a.kind ≠ "text" ∨ b.kind ≠ "text") → ∀ (v : V) (H' : Hp), Same HX H' → Dp K H' v (bothV "&" a b) → Dp K H' v (errP "kind") ∧ Same H H' := fun h v H' s d => by
      rw [both_amp h] at d
      exact ⟨d, (s0.trans s1).trans s⟩
    refine ⟨_, rfl, p, _, _, _, rfl, rfl, sx1, at_of (j := 0) rfl rfl, rfl, _, rfl, ne_if (fun e => iteT ?h1) (fun e => ⟨_, rfl, r, _, _, _, rfl, rfl, sy1, at_of (j := 0) rfl rfl, rfl, _, rfl, ne_if (fun e' => ?h2) (fun e' => ?h3)⟩)⟩
    case h1 =>
      refine ⟨_, rfl, _, rfl, _, _, _, a, b, rfl, hx1, hy1, ga.ok, gb.ok, ga.sh, gb.sh, fun v H' s' d => ?_⟩
      obtain ⟨d, s⟩ := amp (.inl e) v H' s' d
      refine ⟨_, rfl, _, _, _, _, 5, rfl, d, dp_same (s1.trans s') e0, okD_err _, okD_err _, ?_⟩
      rw [smE]
      exact q _ s
    case h2 =>
      refine ⟨_, rfl, _, rfl, _, _, _, a, b, rfl, hx1, hy1, ga.ok, gb.ok, ga.sh, gb.sh, fun v H' s' d => ?_⟩
      obtain ⟨d, s⟩ := amp (.inr e') v H' s' d
      refine ⟨_, rfl, _, _, _, _, 5, rfl, d, dp_same (s1.trans s') e0, okD_err _, okD_err _, ?_⟩
      rw [smE]
      exact q _ s
    case h3 =>
      exact q _ (s0.trans s1)
theorem ok_law (T : Tx K mg) : FnOk P w K mg base CX0 7 T.d_law.f T.d_law.fd P_law (spLaw K) := by
  have G__law_digits := ok__law_digits (P := P) (w := w) (base := base) T
  have G__law_value := ok__law_value (P := P) (w := w) (base := base) T
  have G__law_one := ok__law_one (P := P) (w := w) (base := base) T
  have G__law_two := ok__law_two (P := P) (w := w) (base := base) T
  refine T.d_law.F.ok sc_law (fun vs H Q E h => ?_) (fun cdv A outer s H vs Q E hr h => ?_)
  · obtain ⟨a, ns, rfl, _⟩ := h
    rfl
  obtain ⟨a, ns, rfl, hS, h63, hb, q⟩ := h
  refine ⟨_, (pss_cons (ps_set (i := 1) sc_law.nd rfl (Or.inl rfl) (pe_lst (pa_cons (pe_call G__law_digits (hr.mono (by omega)) (by rfl) T.d__law_digits.m T.d__law_digits.F.kp T.d__law_digits.b .nil pass0 (pa_cons (pv 0) (pa_cons pe_int (pa_cons pe_int pa_nil)))) (pa_cons pe_int pa_nil))))
    (pss_cons (ps_for PassesOwn.never rfl (pi_range1 (by rfl) T.z_range (pa_cons pe_int pa_nil)) (pg_name (i := 2) sc_law.nd rfl (Or.inl rfl))
      (pss_cons (ps_set (i := 3) sc_law.nd rfl (Or.inl rfl) (pe_call G__law_value (hr.mono (by omega)) (by rfl) T.d__law_value.m T.d__law_value.F.kp T.d__law_value.b .nil pass0 (pa_cons (pv 1) pa_nil)))
    (pss_cons (ps_set (i := 4) sc_law.nd rfl (Or.inl rfl) (pe_call G__law_value (hr.mono (by omega)) (by rfl) T.d__law_value.m T.d__law_value.F.kp T.d__law_value.b .nil pass0 (pa_cons (pv 1) pa_nil)))
    (pss_cons (ps_if (PW.pt (pw_or (pt_not (pt_val (pe_call G__law_one (hr.mono (by omega)) (by rfl) T.d__law_one.m T.d__law_one.F.kp T.d__law_one.b .nil pass0 (pa_cons (pv 3) pa_nil)))) (pw_or (pt_not (pt_val (pe_call G__law_two (hr.mono (by omega)) (by rfl) T.d__law_two.m T.d__law_two.F.kp T.d__law_two.b .nil pass0 (pa_cons (pv 3) (pa_cons (pv 4) pa_nil))))) (pw_or1 (pt_not (pt_val (pe_call G__law_two (hr.mono (by omega)) (by rfl) T.d__law_two.m T.d__law_two.F.kp T.d__law_two.b .nil pass0 (pa_cons (pv 4) (pa_cons (pv 3) pa_nil)))))))))
      (pss_one (ps_ret pe_bl))
      pss_nil)
    (pss_one (ps_if (PW.pt (pw_or (pt_not (pt_val (pe_call G__law_two (hr.mono (by omega)) (by rfl) T.d__law_two.m T.d__law_two.F.kp T.d__law_two.b .nil pass0 (pa_cons (pv 4) (pa_cons (pe_tup (pa_cons pe_str (pa_cons pe_int pa_nil))) pa_nil))))) (pw_or1 (pt_not (pt_val (pe_call G__law_two (hr.mono (by omega)) (by rfl) T.d__law_two.m T.d__law_two.F.kp T.d__law_two.b .nil pass0 (pa_cons (pe_tup (pa_cons pe_str (pa_cons pe_int pa_nil))) (pa_cons (pv 4) pa_nil))))))))
      (pss_one (ps_ret pe_bl))
      pss_nil))))))
    (pss_one (ps_ret pe_bl)))), ?_⟩
  refine ⟨_, rfl, a, ns, rfl, hS, h63, hb, fun l ds H1 n1 h1 s1 => ⟨two_le, fun p hp => ?_⟩⟩
  have B0 : BoxAt (upd H1 p (.lst [.ref l, .int 0])) p l := ⟨⟨0, Int.le_refl 0, upd_same⟩, ⟨ds, by rw [upd_ne (ne_of_none h1 hp)]; exact h1⟩, ne_of_none h1 hp⟩
  refine ⟨20, rfl, by decide, by decide, for_range (lo := 0) (n := 20) (fun i σ H2 => ∃ (v2 v3 v4 : Option V), σ = [some (.ref a), some (.ref p), v2, v3, v4] ∧ BoxAt H2 p l)
    ⟨none, none, none, rfl, B0⟩ ?_ ?_⟩
  · rintro i σ H2 hi ⟨v2, v3, v4, rfl, B⟩
    refine ⟨_, rfl, p, l, rfl, B, fun x a H3 hx ga B1 k1 => ?_⟩
    refine ⟨_, rfl, p, l, rfl, B1, fun y b H4 hy gb B2 k2 => ?_⟩
    have hx := dp_keep B1.lst k2 6 _ _ ga.dk hx
    refine ⟨_, rfl, x, a, rfl, hx, fun H5 s5 => ⟨_, rfl, iteF ?_⟩⟩
    refine ⟨_, rfl, _, rfl, x, y, a, b, rfl, dp_same s5 hx, dp_same s5 hy, ga, gb, fun H6 s6 => ⟨_, rfl, iteF ?_⟩⟩
    have s6 := s5.trans s6
    refine ⟨_, rfl, _, rfl, y, x, b, a, rfl, dp_same s6 hy, dp_same s6 hx, gb, ga, fun H7 s7 => ⟨_, rfl, iteF ?_⟩⟩
    have s7 := s6.trans s7
    have g0 : Good (.int 0) := good_int (by decide)
    refine ⟨_, rfl, two_le, fun r1 m1 => ?_⟩
    have s8 := s7.trans (same_new m1 (.tup [.str "int", .int 0]))
    refine ⟨y, _, b, .int 0, rfl, dp_same s8 hy, dp_two upd_same (.int 0), gb, g0, fun H8 s9 => ⟨_, rfl, iteF ?_⟩⟩
    have s9 := s8.trans s9
    refine ⟨two_le, fun r2 m2 => ⟨_, rfl, ?_⟩⟩
    have s10 := s9.trans (same_new m2 (.tup [.str "int", .int 0]))
    refine ⟨_, y, .int 0, b, rfl, dp_two upd_same (.int 0), dp_same s10 hy, g0, gb, fun H9 s11 => ⟨_, rfl, iteF ?_⟩⟩
    exact ⟨_, _, _, rfl, B2.same (s10.trans s11)⟩
  · rintro σ H2 ⟨v2, v3, v4, rfl, B⟩
    exact q _
end
theorem all_mk {l : PySem.W.OpenLaw} {w : World} {K : PySem.W.Frag} {h : Heap} {mg : Str → Option Value} {fa : Addr} (X : K.In h) (G : h.Ns mainGlobals mg) (hfa : mg "law" = some (.ref fa))
    {f0 f1 f2 f3 f4 f5 f6 f7 f8 f9 f10 f11 f12 f13 f14 f15 f16 f17 : Addr} {od0 an0 od1 an1 od2 an2 od3 an3 od4 an4 od5 an5 od6 an6 od7 an7 od8 an8 od9 an9 od10 an10 od11 an11 od12 an12 od13 an13 od14 an14 od15 an15 od16 an16 od17 an17 : Option Addr} {sl0 sl1 sl2 sl3 sl4 sl5 sl6 sl7 sl8 sl9 sl10 sl11 sl12 sl13 sl14 sl15 sl16 sl17 : Array (Option Value)} {oc0 kV0 dc0 pm0 cd0 ct0 oc1 kV1 dc1 pm1 cd1 ct1 oc2 kV2 dc2 pm2 cd2 ct2 oc3 kV3 dc3 pm3 cd3 ct3 oc4 kV4 dc4 pm4 cd4 ct4 oc5 kV5 dc5 pm5 cd5 ct5 oc6 kV6 dc6 pm6 cd6 ct6 oc7 kV7 dc7 pm7 cd7 ct7 oc8 kV8 dc8 pm8 cd8 ct8 oc9 kV9 dc9 pm9 cd9 ct9 oc10 kV10 dc10 pm10 cd10 ct10 oc11 kV11 dc11 pm11 cd11 ct11 oc12 kV12 dc12 pm12 cd12 ct12 oc13 kV13 dc13 pm13 cd13 ct13 oc14 kV14 dc14 pm14 cd14 ct14 oc15 kV15 dc15 pm15 cd15 ct15 oc16 kV16 dc16 pm16 cd16 ct16 oc17 kV17 dc17 pm17 cd17 ct17 : Value}
    (a0 : PySem.W.nsIn K mainGlobals "both" = some (some (.ref f0)))
    (l0 : K.lookup f0 = some ⟨oc0, od0, .func (PySem.W.fnOf "both" "both" (defArgs s_both) (defBody s_both) (defScope s_both) .none kV0 dc0 pm0 an0 cd0 ct0), sl0⟩)
    (c0 : PySem.W.codeIn K cd0 "both" = true) (k0 : PySem.W.keepIn K (.ref f0) = true)
    (a1 : PySem.W.nsIn K mainGlobals "together" = some (some (.ref f1)))
    (l1 : K.lookup f1 = some ⟨oc1, od1, .func (PySem.W.fnOf "together" "together" (defArgs s_together) (defBody s_together) (defScope s_together) .none kV1 dc1 pm1 an1 cd1 ct1), sl1⟩)
    (c1 : PySem.W.codeIn K cd1 "together" = true) (k1 : PySem.W.keepIn K (.ref f1) = true)
    (a2 : PySem.W.nsIn K mainGlobals "divided" = some (some (.ref f2)))
    (l2 : K.lookup f2 = some ⟨oc2, od2, .func (PySem.W.fnOf "divided" "divided" (defArgs s_divided) (defBody s_divided) (defScope s_divided) .none kV2 dc2 pm2 an2 cd2 ct2), sl2⟩)
    (c2 : PySem.W.codeIn K cd2 "divided" = true) (k2 : PySem.W.keepIn K (.ref f2) = true)
    (a3 : PySem.W.nsIn K mainGlobals "computed" = some (some (.ref f3)))
    (l3 : K.lookup f3 = some ⟨oc3, od3, .func (PySem.W.fnOf "computed" "computed" (defArgs s_computed) (defBody s_computed) (defScope s_computed) .none kV3 dc3 pm3 an3 cd3 ct3), sl3⟩)
    (c3 : PySem.W.codeIn K cd3 "computed" = true) (k3 : PySem.W.keepIn K (.ref f3) = true)
    (a4 : PySem.W.nsIn K mainGlobals "bounded" = some (some (.ref f4)))
    (l4 : K.lookup f4 = some ⟨oc4, od4, .func (PySem.W.fnOf "bounded" "bounded" (defArgs s_bounded) (defBody s_bounded) (defScope s_bounded) .none kV4 dc4 pm4 an4 cd4 ct4), sl4⟩)
    (c4 : PySem.W.codeIn K cd4 "bounded" = true) (k4 : PySem.W.keepIn K (.ref f4) = true)
    (a5 : PySem.W.nsIn K mainGlobals "negative" = some (some (.ref f5)))
    (l5 : K.lookup f5 = some ⟨oc5, od5, .func (PySem.W.fnOf "negative" "negative" (defArgs s_negative) (defBody s_negative) (defScope s_negative) .none kV5 dc5 pm5 an5 cd5 ct5), sl5⟩)
    (c5 : PySem.W.codeIn K cd5 "negative" = true) (k5 : PySem.W.keepIn K (.ref f5) = true)
    (a6 : PySem.W.nsIn K mainGlobals "opposite" = some (some (.ref f6)))
    (l6 : K.lookup f6 = some ⟨oc6, od6, .func (PySem.W.fnOf "opposite" "opposite" (defArgs s_opposite) (defBody s_opposite) (defScope s_opposite) .none kV6 dc6 pm6 an6 cd6 ct6), sl6⟩)
    (c6 : PySem.W.codeIn K cd6 "opposite" = true) (k6 : PySem.W.keepIn K (.ref f6) = true)
    (a7 : PySem.W.nsIn K mainGlobals "truth" = some (some (.ref f7)))
    (l7 : K.lookup f7 = some ⟨oc7, od7, .func (PySem.W.fnOf "truth" "truth" (defArgs s_truth) (defBody s_truth) (defScope s_truth) .none kV7 dc7 pm7 an7 cd7 ct7), sl7⟩)
    (c7 : PySem.W.codeIn K cd7 "truth" = true) (k7 : PySem.W.keepIn K (.ref f7) = true)
    (a8 : PySem.W.nsIn K mainGlobals "_law_cell" = some (some (.ref f8)))
    (l8 : K.lookup f8 = some ⟨oc8, od8, .func (PySem.W.fnOf "_law_cell" "_law_cell" (defArgs s__law_cell) (defBody s__law_cell) (defScope s__law_cell) .none kV8 dc8 pm8 an8 cd8 ct8), sl8⟩)
    (c8 : PySem.W.codeIn K cd8 "_law_cell" = true) (k8 : PySem.W.keepIn K (.ref f8) = true)
    (a9 : PySem.W.nsIn K mainGlobals "_law_digits" = some (some (.ref f9)))
    (l9 : K.lookup f9 = some ⟨oc9, od9, .func (PySem.W.fnOf "_law_digits" "_law_digits" (defArgs s__law_digits) (defBody s__law_digits) (defScope s__law_digits) .none kV9 dc9 pm9 an9 cd9 ct9), sl9⟩)
    (c9 : PySem.W.codeIn K cd9 "_law_digits" = true) (k9 : PySem.W.keepIn K (.ref f9) = true)
    (a10 : PySem.W.nsIn K mainGlobals "_law_draw" = some (some (.ref f10)))
    (l10 : K.lookup f10 = some ⟨oc10, od10, .func (PySem.W.fnOf "_law_draw" "_law_draw" (defArgs s__law_draw) (defBody s__law_draw) (defScope s__law_draw) .none kV10 dc10 pm10 an10 cd10 ct10), sl10⟩)
    (c10 : PySem.W.codeIn K cd10 "_law_draw" = true) (k10 : PySem.W.keepIn K (.ref f10) = true)
    (a11 : PySem.W.nsIn K mainGlobals "_law_same" = some (some (.ref f11)))
    (l11 : K.lookup f11 = some ⟨oc11, od11, .func (PySem.W.fnOf "_law_same" "_law_same" (defArgs s__law_same) (defBody s__law_same) (defScope s__law_same) .none kV11 dc11 pm11 an11 cd11 ct11), sl11⟩)
    (c11 : PySem.W.codeIn K cd11 "_law_same" = true) (k11 : PySem.W.keepIn K (.ref f11) = true)
    (a12 : PySem.W.nsIn K mainGlobals "_law_number" = some (some (.ref f12)))
    (l12 : K.lookup f12 = some ⟨oc12, od12, .func (PySem.W.fnOf "_law_number" "_law_number" (defArgs s__law_number) (defBody s__law_number) (defScope s__law_number) .none kV12 dc12 pm12 an12 cd12 ct12), sl12⟩)
    (c12 : PySem.W.codeIn K cd12 "_law_number" = true) (k12 : PySem.W.keepIn K (.ref f12) = true)
    (a13 : PySem.W.nsIn K mainGlobals "_law_text" = some (some (.ref f13)))
    (l13 : K.lookup f13 = some ⟨oc13, od13, .func (PySem.W.fnOf "_law_text" "_law_text" (defArgs s__law_text) (defBody s__law_text) (defScope s__law_text) .none kV13 dc13 pm13 an13 cd13 ct13), sl13⟩)
    (c13 : PySem.W.codeIn K cd13 "_law_text" = true) (k13 : PySem.W.keepIn K (.ref f13) = true)
    (a14 : PySem.W.nsIn K mainGlobals "_law_value" = some (some (.ref f14)))
    (l14 : K.lookup f14 = some ⟨oc14, od14, .func (PySem.W.fnOf "_law_value" "_law_value" (defArgs s__law_value) (defBody s__law_value) (defScope s__law_value) .none kV14 dc14 pm14 an14 cd14 ct14), sl14⟩)
    (c14 : PySem.W.codeIn K cd14 "_law_value" = true) (k14 : PySem.W.keepIn K (.ref f14) = true)
    (a15 : PySem.W.nsIn K mainGlobals "_law_one" = some (some (.ref f15)))
    (l15 : K.lookup f15 = some ⟨oc15, od15, .func (PySem.W.fnOf "_law_one" "_law_one" (defArgs s__law_one) (defBody s__law_one) (defScope s__law_one) .none kV15 dc15 pm15 an15 cd15 ct15), sl15⟩)
    (c15 : PySem.W.codeIn K cd15 "_law_one" = true) (k15 : PySem.W.keepIn K (.ref f15) = true)
    (a16 : PySem.W.nsIn K mainGlobals "_law_two" = some (some (.ref f16)))
    (l16 : K.lookup f16 = some ⟨oc16, od16, .func (PySem.W.fnOf "_law_two" "_law_two" (defArgs s__law_two) (defBody s__law_two) (defScope s__law_two) .none kV16 dc16 pm16 an16 cd16 ct16), sl16⟩)
    (c16 : PySem.W.codeIn K cd16 "_law_two" = true) (k16 : PySem.W.keepIn K (.ref f16) = true)
    (a17 : PySem.W.nsIn K mainGlobals "law" = some (some (.ref f17)))
    (l17 : K.lookup f17 = some ⟨oc17, od17, .func (PySem.W.fnOf "law" "law" (defArgs s_law) (defBody s_law) (defScope s_law) .none kV17 dc17 pm17 an17 cd17 ct17), sl17⟩)
    (c17 : PySem.W.codeIn K cd17 "law" = true) (k17 : PySem.W.keepIn K (.ref f17) = true)
    (z_len : PySem.W.nsIn K mainGlobals "len" = some none)
    (z_isinstance : PySem.W.nsIn K mainGlobals "isinstance" = some none)
    (z_tuple : PySem.W.nsIn K mainGlobals "tuple" = some none)
    (z_int : PySem.W.nsIn K mainGlobals "int" = some none)
    (z_bool : PySem.W.nsIn K mainGlobals "bool" = some none)
    (z_str : PySem.W.nsIn K mainGlobals "str" = some none)
    (z_range : PySem.W.nsIn K mainGlobals "range" = some none)
    (z_abs : PySem.W.nsIn K mainGlobals "abs" = some none)
    {t_INTEGER : Tok} (c_INTEGER : PySem.W.nsIn K mainGlobals "INTEGER" = some (some (.int (1000000000000000000000000000000000000000000000000000000000000) t_INTEGER)))
    {t_RUN_CHARACTERS : Tok} (c_RUN_CHARACTERS : PySem.W.nsIn K mainGlobals "RUN_CHARACTERS" = some (some (.int (200) t_RUN_CHARACTERS)))
    {u_KIND : Addr} (c_KIND : PySem.W.nsIn K mainGlobals "KIND" = some (some (.ref u_KIND)))
    {dd_KIND : Option Addr} {n_KIND : Nat} {sl_KIND : Array (Option Value)} {k0_KIND k1_KIND : Tok} (q_KIND : K.lookup u_KIND = some ⟨.type "tuple", dd_KIND, .seq #[.str "error" k0_KIND, .str "kind" k1_KIND] n_KIND, sl_KIND⟩)
    : ∃ fd : FuncData, (∀ (s : Shared) (v : Value), BindsTo s fd ⟨[v], []⟩ [("script", v)]) ∧ ∀ base : Heap, K.In base → base.Ns mainGlobals mg → FnOk l.prog w K mg base CX0 7 fa fd ["script"] (spLaw K) := by
  have e := hfa.symm.trans (PySem.W.mg_of X G a17)
  cases e
  have F0 := fun_mk (st := s_both) l0 c0 k0
  have b0 := F0.binds (ps := ["op", "a", "b"]) fun _ _ _ _ _ _ us hl => match us, hl with | [_, _, _], _ => rfl
  have F1 := fun_mk (st := s_together) l1 c1 k1
  have b1 := F1.binds (ps := ["a", "b"]) fun _ _ _ _ _ _ us hl => match us, hl with | [_, _], _ => rfl
  have F2 := fun_mk (st := s_divided) l2 c2 k2
  have b2 := F2.binds (ps := ["op", "left", "right"]) fun _ _ _ _ _ _ us hl => match us, hl with | [_, _, _], _ => rfl
  have F3 := fun_mk (st := s_computed) l3 c3 k3
  have b3 := F3.binds (ps := ["op", "left", "right"]) fun _ _ _ _ _ _ us hl => match us, hl with | [_, _, _], _ => rfl
  have F4 := fun_mk (st := s_bounded) l4 c4 k4
  have b4 := F4.binds (ps := ["number"]) fun _ _ _ _ _ _ us hl => match us, hl with | [_], _ => rfl
  have F5 := fun_mk (st := s_negative) l5 c5 k5
  have b5 := F5.binds (ps := ["a"]) fun _ _ _ _ _ _ us hl => match us, hl with | [_], _ => rfl
  have F6 := fun_mk (st := s_opposite) l6 c6 k6
  have b6 := F6.binds (ps := ["a"]) fun _ _ _ _ _ _ us hl => match us, hl with | [_], _ => rfl
  have F7 := fun_mk (st := s_truth) l7 c7 k7
  have b7 := F7.binds (ps := ["a"]) fun _ _ _ _ _ _ us hl => match us, hl with | [_], _ => rfl
  have F8 := fun_mk (st := s__law_cell) l8 c8 k8
  have b8 := F8.binds (ps := ["script", "k"]) fun _ _ _ _ _ _ us hl => match us, hl with | [_, _], _ => rfl
  have F9 := fun_mk (st := s__law_digits) l9 c9 k9
  have b9 := F9.binds (ps := ["script", "first", "last"]) fun _ _ _ _ _ _ us hl => match us, hl with | [_, _, _], _ => rfl
  have F10 := fun_mk (st := s__law_draw) l10 c10 k10
  have b10 := F10.binds (ps := ["box", "many"]) fun _ _ _ _ _ _ us hl => match us, hl with | [_, _], _ => rfl
  have F11 := fun_mk (st := s__law_same) l11 c11 k11
  have b11 := F11.binds (ps := ["actual", "expected"]) fun _ _ _ _ _ _ us hl => match us, hl with | [_, _], _ => rfl
  have F12 := fun_mk (st := s__law_number) l12 c12 k12
  have b12 := F12.binds (ps := ["box"]) fun _ _ _ _ _ _ us hl => match us, hl with | [_], _ => rfl
  have F13 := fun_mk (st := s__law_text) l13 c13 k13
  have b13 := F13.binds (ps := ["box", "most"]) fun _ _ _ _ _ _ us hl => match us, hl with | [_, _], _ => rfl
  have F14 := fun_mk (st := s__law_value) l14 c14 k14
  have b14 := F14.binds (ps := ["box"]) fun _ _ _ _ _ _ us hl => match us, hl with | [_], _ => rfl
  have F15 := fun_mk (st := s__law_one) l15 c15 k15
  have b15 := F15.binds (ps := ["value"]) fun _ _ _ _ _ _ us hl => match us, hl with | [_], _ => rfl
  have F16 := fun_mk (st := s__law_two) l16 c16 k16
  have b16 := F16.binds (ps := ["first", "second"]) fun _ _ _ _ _ _ us hl => match us, hl with | [_, _], _ => rfl
  have F17 := fun_mk (st := s_law) l17 c17 k17
  have b17 := F17.binds (ps := ["script"]) fun _ _ _ _ _ _ us hl => match us, hl with | [_], _ => rfl
  let T : Tx K mg := { d_both := ⟨_, _, F0, b0, PySem.W.mg_of X G a0⟩, d_together := ⟨_, _, F1, b1, PySem.W.mg_of X G a1⟩, d_divided := ⟨_, _, F2, b2, PySem.W.mg_of X G a2⟩, d_computed := ⟨_, _, F3, b3, PySem.W.mg_of X G a3⟩, d_bounded := ⟨_, _, F4, b4, PySem.W.mg_of X G a4⟩, d_negative := ⟨_, _, F5, b5, PySem.W.mg_of X G a5⟩, d_opposite := ⟨_, _, F6, b6, PySem.W.mg_of X G a6⟩, d_truth := ⟨_, _, F7, b7, PySem.W.mg_of X G a7⟩, d__law_cell := ⟨_, _, F8, b8, PySem.W.mg_of X G a8⟩, d__law_digits := ⟨_, _, F9, b9, PySem.W.mg_of X G a9⟩, d__law_draw := ⟨_, _, F10, b10, PySem.W.mg_of X G a10⟩, d__law_same := ⟨_, _, F11, b11, PySem.W.mg_of X G a11⟩, d__law_number := ⟨_, _, F12, b12, PySem.W.mg_of X G a12⟩, d__law_text := ⟨_, _, F13, b13, PySem.W.mg_of X G a13⟩, d__law_value := ⟨_, _, F14, b14, PySem.W.mg_of X G a14⟩, d__law_one := ⟨_, _, F15, b15, PySem.W.mg_of X G a15⟩, d__law_two := ⟨_, _, F16, b16, PySem.W.mg_of X G a16⟩, d_law := ⟨_, _, F17, b17, PySem.W.mg_of X G a17⟩, z_len := PySem.W.mg_none_of X G z_len, z_isinstance := PySem.W.mg_none_of X G z_isinstance, z_tuple := PySem.W.mg_none_of X G z_tuple, z_int := PySem.W.mg_none_of X G z_int, z_bool := PySem.W.mg_none_of X G z_bool, z_str := PySem.W.mg_none_of X G z_str, z_range := PySem.W.mg_none_of X G z_range, z_abs := PySem.W.mg_none_of X G z_abs, t_INTEGER := _, c_INTEGER := PySem.W.mg_of X G c_INTEGER, t_RUN_CHARACTERS := _, c_RUN_CHARACTERS := PySem.W.mg_of X G c_RUN_CHARACTERS, a_KIND := u_KIND, c_KIND := PySem.W.mg_of X G c_KIND, q_KIND := ⟨_, _, _, _, _, q_KIND⟩ }
  exact ⟨_, fun s v => .of_eq rfl, fun base _ _ => ok_law T⟩
theorem walk {l : PySem.W.OpenLaw} {q : Program} {loose : List Str} {XP : (Str → Option Value) → Heap → Prop} {YP : World → Heap → Prop} {d : DefRec} {K : Params → PySem.W.Frag} (hn : l.most = some 63) (hdf : d.params.defaults = [])
    (hY : ∀ (w : World) (h : Heap), YP w h → (K w.params).In h)
    (F : ∀ (w : World) (mg : Str → Option Value) (fa : Addr) (h : Heap), (K w.params).In h → h.Ns mainGlobals mg → mg d.name = some (.ref fa) →
      ∃ fd : FuncData, (∀ (s : Shared) (u : Value), BindsTo s fd ⟨[u], []⟩ [("script", u)]) ∧ ∀ base : Heap, (K w.params).In base → base.Ns mainGlobals mg → FnOk l.prog w (K w.params) mg base CX0 7 fa fd ["script"] (spLaw (K w.params))) :
    PySem.W.WalkO q loose XP YP l.row.toRowW d [] (fun f vs => PySem.call f vs) :=
  L2.walk_ofB (n := 63) (k := 7) (x := "script") (CX := fun _ => CX0) (sp := fun w => spLaw (K w.params)) hn (by decide) hdf ⟨rfl, by decide, by decide⟩ hY F (fun _ _ a ns hl hb _ hS => ⟨a, ns, rfl, hS, hl, hb, fun _ => rfl⟩) fun _ _ _ _ _ z => z
end My
open PySem PySem.W PyProof.Rows
set_option maxRecDepth 100000 in
set_option maxHeartbeats 0 in
theorem PySem.Challenge.cw_foretask_k21_kinds_of_operands_holds : PySem.Challenge.rw_foretask_k21_kinds_of_operands.Holds := by
  w_on; o_law; k_head; (case hw => w_witness2)
  k_fill
  refine My.walk (l := PySem.Challenge.rw_foretask_k21_kinds_of_operands) rfl rfl (fun w h Y => PySem.W.kIn_of Y) ?F
  case F =>
    intro w mg fa h KX G hmg
    refine' My.all_mk KX G hmg ?a0 ?l0 ?c0 ?k0 ?a1 ?l1 ?c1 ?k1 ?a2 ?l2 ?c2 ?k2 ?a3 ?l3 ?c3 ?k3 ?a4 ?l4 ?c4 ?k4 ?a5 ?l5 ?c5 ?k5 ?a6 ?l6 ?c6 ?k6 ?a7 ?l7 ?c7 ?k7 ?a8 ?l8 ?c8 ?k8 ?a9 ?l9 ?c9 ?k9 ?a10 ?l10 ?c10 ?k10 ?a11 ?l11 ?c11 ?k11 ?a12 ?l12 ?c12 ?k12 ?a13 ?l13 ?c13 ?k13 ?a14 ?l14 ?c14 ?k14 ?a15 ?l15 ?c15 ?k15 ?a16 ?l16 ?c16 ?k16 ?a17 ?l17 ?c17 ?k17 ?z_len ?z_isinstance ?z_tuple ?z_int ?z_bool ?z_str ?z_range ?z_abs ?c_INTEGER ?c_RUN_CHARACTERS ?c_KIND ?q_KIND
    (case a0 => k_is)
    (case l0 => k_is)
    (case c0 => k_is)
    (case k0 => k_is)
    (case a1 => k_is)
    (case l1 => k_is)
    (case c1 => k_is)
    (case k1 => k_is)
    (case a2 => k_is)
    (case l2 => k_is)
    (case c2 => k_is)
    (case k2 => k_is)
    (case a3 => k_is)
    (case l3 => k_is)
    (case c3 => k_is)
    (case k3 => k_is)
    (case a4 => k_is)
    (case l4 => k_is)
    (case c4 => k_is)
    (case k4 => k_is)
    (case a5 => k_is)
    (case l5 => k_is)
    (case c5 => k_is)
    (case k5 => k_is)
    (case a6 => k_is)
    (case l6 => k_is)
    (case c6 => k_is)
    (case k6 => k_is)
    (case a7 => k_is)
    (case l7 => k_is)
    (case c7 => k_is)
    (case k7 => k_is)
    (case a8 => k_is)
    (case l8 => k_is)
    (case c8 => k_is)
    (case k8 => k_is)
    (case a9 => k_is)
    (case l9 => k_is)
    (case c9 => k_is)
    (case k9 => k_is)
    (case a10 => k_is)
    (case l10 => k_is)
    (case c10 => k_is)
    (case k10 => k_is)
    (case a11 => k_is)
    (case l11 => k_is)
    (case c11 => k_is)
    (case k11 => k_is)
    (case a12 => k_is)
    (case l12 => k_is)
    (case c12 => k_is)
    (case k12 => k_is)
    (case a13 => k_is)
    (case l13 => k_is)
    (case c13 => k_is)
    (case k13 => k_is)
    (case a14 => k_is)
    (case l14 => k_is)
    (case c14 => k_is)
    (case k14 => k_is)
    (case a15 => k_is)
    (case l15 => k_is)
    (case c15 => k_is)
    (case k15 => k_is)
    (case a16 => k_is)
    (case l16 => k_is)
    (case c16 => k_is)
    (case k16 => k_is)
    (case a17 => k_is)
    (case l17 => k_is)
    (case c17 => k_is)
    (case k17 => k_is)
    (case z_len => k_is)
    (case z_isinstance => k_is)
    (case z_tuple => k_is)
    (case z_int => k_is)
    (case z_bool => k_is)
    (case z_str => k_is)
    (case z_range => k_is)
    (case z_abs => k_is)
    (case c_INTEGER => k_is)
    (case c_RUN_CHARACTERS => k_is)
    (case c_KIND => k_is)
    (case q_KIND => k_is)
