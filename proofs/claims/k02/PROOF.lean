
import PyProof.Rows.All
import Wide.All
import OpenK.AllK
import Wide.FinOn
import HandS.ForMost
import HandS.IsInst
import HandS.Wide
import HandS.EndBits
import HandS.TupAny
import HandS.TupMul
import HandS.Strs
import HandS.Codes
import HandS.More
import HandS.StrMore
import HandS.Comp
import KE.GoesMore
import PySem.Challenge.RW_foretask_k02_values_are_spelled_and_read
set_option Elab.async false
set_option maxRecDepth 100000
set_option maxHeartbeats 4000000
namespace My
open PySem L2
/-! ### the text by places -/
def top (i : Nat) : Stmt := PySem.Challenge.pw_foretask_k02_values_are_spelled_and_read.main.body.getD i (.Pass ⟨0, 0, 0, 0⟩)
abbrev s_quoted : Stmt := top 2
abbrev N_quoted : List Str := ["characters", "written", "character"]
abbrev P_quoted : List Str := ["characters"]
theorem sc_quoted : FnScope ["characters", "written", "character"] ["characters"] (defScope s_quoted) := ⟨rfl, rfl, rfl, by decide +kernel, rfl, by decide +kernel, by decide +kernel⟩
abbrev s_shown_value : Stmt := top 3
abbrev N_shown_value : List Str := ["value", "kind"]
abbrev P_shown_value : List Str := ["value"]
theorem sc_shown_value : FnScope ["value", "kind"] ["value"] (defScope s_shown_value) := ⟨rfl, rfl, rfl, by decide +kernel, rfl, by decide +kernel, by decide +kernel⟩
abbrev s_tokens : Stmt := top 17
abbrev N_tokens : List Str := ["text", "cutter"]
abbrev P_tokens : List Str := ["text"]
theorem sc_tokens : FnScope ["text", "cutter"] ["text"] (defScope s_tokens) := ⟨rfl, rfl, rfl, by decide +kernel, rfl, by decide +kernel, by decide +kernel⟩
abbrev s_cut : Stmt := top 18
abbrev N_cut : List Str := ["cutter", "first"]
abbrev P_cut : List Str := ["cutter"]
theorem sc_cut : FnScope ["cutter", "first"] ["cutter"] (defScope s_cut) := ⟨rfl, rfl, rfl, by decide +kernel, rfl, by decide +kernel, by decide +kernel⟩
abbrev s_is_letter : Stmt := top 19
abbrev N_is_letter : List Str := ["character"]
abbrev P_is_letter : List Str := ["character"]
theorem sc_is_letter : FnScope ["character"] ["character"] (defScope s_is_letter) := ⟨rfl, rfl, rfl, by decide +kernel, rfl, by decide +kernel, by decide +kernel⟩
abbrev s_is_digit : Stmt := top 20
abbrev N_is_digit : List Str := ["character"]
abbrev P_is_digit : List Str := ["character"]
theorem sc_is_digit : FnScope ["character"] ["character"] (defScope s_is_digit) := ⟨rfl, rfl, rfl, by decide +kernel, rfl, by decide +kernel, by decide +kernel⟩
abbrev s_is_of_name : Stmt := top 21
abbrev N_is_of_name : List Str := ["character"]
abbrev P_is_of_name : List Str := ["character"]
theorem sc_is_of_name : FnScope ["character"] ["character"] (defScope s_is_of_name) := ⟨rfl, rfl, rfl, by decide +kernel, rfl, by decide +kernel, by decide +kernel⟩
abbrev s_pass_remark : Stmt := top 22
abbrev N_pass_remark : List Str := ["cutter", "end"]
abbrev P_pass_remark : List Str := ["cutter"]
theorem sc_pass_remark : FnScope ["cutter", "end"] ["cutter"] (defScope s_pass_remark) := ⟨rfl, rfl, rfl, by decide +kernel, rfl, by decide +kernel, by decide +kernel⟩
abbrev s_cut_name : Stmt := top 23
abbrev N_cut_name : List Str := ["cutter", "text", "end", "name"]
abbrev P_cut_name : List Str := ["cutter"]
theorem sc_cut_name : FnScope ["cutter", "text", "end", "name"] ["cutter"] (defScope s_cut_name) := ⟨rfl, rfl, rfl, by decide +kernel, rfl, by decide +kernel, by decide +kernel⟩
abbrev s_cut_number : Stmt := top 24
abbrev N_cut_number : List Str := ["cutter", "text", "end"]
abbrev P_cut_number : List Str := ["cutter"]
theorem sc_cut_number : FnScope ["cutter", "text", "end"] ["cutter"] (defScope s_cut_number) := ⟨rfl, rfl, rfl, by decide +kernel, rfl, by decide +kernel, by decide +kernel⟩
abbrev s_cut_literal : Stmt := top 25
abbrev N_cut_literal : List Str := ["cutter", "meant", "at"]
abbrev P_cut_literal : List Str := ["cutter"]
theorem sc_cut_literal : FnScope ["cutter", "meant", "at"] ["cutter"] (defScope s_cut_literal) := ⟨rfl, rfl, rfl, by decide +kernel, rfl, by decide +kernel, by decide +kernel⟩
abbrev s_character_in : Stmt := top 26
abbrev N_character_in : List Str := ["cutter", "at"]
abbrev P_character_in : List Str := ["cutter", "at"]
theorem sc_character_in : FnScope ["cutter", "at"] ["cutter", "at"] (defScope s_character_in) := ⟨rfl, rfl, rfl, by decide +kernel, rfl, by decide +kernel, by decide +kernel⟩
abbrev s_escaped : Stmt := top 27
abbrev N_escaped : List Str := ["cutter", "at", "letter"]
abbrev P_escaped : List Str := ["cutter", "at"]
theorem sc_escaped : FnScope ["cutter", "at", "letter"] ["cutter", "at"] (defScope s_escaped) := ⟨rfl, rfl, rfl, by decide +kernel, rfl, by decide +kernel, by decide +kernel⟩
abbrev s_cut_sign : Stmt := top 28
abbrev N_cut_sign : List Str := ["cutter", "at", "pair"]
abbrev P_cut_sign : List Str := ["cutter"]
theorem sc_cut_sign : FnScope ["cutter", "at", "pair"] ["cutter"] (defScope s_cut_sign) := ⟨rfl, rfl, rfl, by decide +kernel, rfl, by decide +kernel, by decide +kernel⟩
abbrev s__law_cell : Stmt := top 30
abbrev N__law_cell : List Str := ["script", "k"]
abbrev P__law_cell : List Str := ["script", "k"]
theorem sc__law_cell : FnScope ["script", "k"] ["script", "k"] (defScope s__law_cell) := ⟨rfl, rfl, rfl, by decide +kernel, rfl, by decide +kernel, by decide +kernel⟩
abbrev s__law_digits : Stmt := top 31
abbrev N__law_digits : List Str := ["script", "first", "last", "digits", "k", "cell", "turn", "seed"]
abbrev P__law_digits : List Str := ["script", "first", "last"]
theorem sc__law_digits : FnScope ["script", "first", "last", "digits", "k", "cell", "turn", "seed"] ["script", "first", "last"] (defScope s__law_digits) := ⟨rfl, rfl, rfl, by decide +kernel, rfl, by decide +kernel, by decide +kernel⟩
abbrev s__law_draw : Stmt := top 32
abbrev N__law_draw : List Str := ["box", "many", "at"]
abbrev P__law_draw : List Str := ["box", "many"]
theorem sc__law_draw : FnScope ["box", "many", "at"] ["box", "many"] (defScope s__law_draw) := ⟨rfl, rfl, rfl, by decide +kernel, rfl, by decide +kernel, by decide +kernel⟩
abbrev s__law_same : Stmt := top 33
abbrev N__law_same : List Str := ["actual", "expected", "k"]
abbrev P__law_same : List Str := ["actual", "expected"]
theorem sc__law_same : FnScope ["actual", "expected", "k"] ["actual", "expected"] (defScope s__law_same) := ⟨rfl, rfl, rfl, by decide +kernel, rfl, by decide +kernel, by decide +kernel⟩
abbrev s__law_sign : Stmt := top 34
abbrev N__law_sign : List Str := ["box", "signs"]
abbrev P__law_sign : List Str := ["box"]
theorem sc__law_sign : FnScope ["box", "signs"] ["box"] (defScope s__law_sign) := ⟨rfl, rfl, rfl, by decide +kernel, rfl, by decide +kernel, by decide +kernel⟩
abbrev s__law_spelled : Stmt := top 37
abbrev N__law_spelled : List Str := ["characters", "text", "sign"]
abbrev P__law_spelled : List Str := ["characters"]
theorem sc__law_spelled : FnScope ["characters", "text", "sign"] ["characters"] (defScope s__law_spelled) := ⟨rfl, rfl, rfl, by decide +kernel, rfl, by decide +kernel, by decide +kernel⟩
abbrev s__law_characters : Stmt := top 38
abbrev N__law_characters : List Str := ["box", "text", "k"]
abbrev P__law_characters : List Str := ["box"]
theorem sc__law_characters : FnScope ["box", "text", "k"] ["box"] (defScope s__law_characters) := ⟨rfl, rfl, rfl, by decide +kernel, rfl, by decide +kernel, by decide +kernel⟩
abbrev s__law_number : Stmt := top 42
abbrev N__law_number : List Str := ["box", "number"]
abbrev P__law_number : List Str := ["box"]
theorem sc__law_number : FnScope ["box", "number"] ["box"] (defScope s__law_number) := ⟨rfl, rfl, rfl, by decide +kernel, rfl, by decide +kernel, by decide +kernel⟩
abbrev s__law_plain : Stmt := top 43
abbrev N__law_plain : List Str := ["box", "kind", "word", "number", "text", "read", "characters"]
abbrev P__law_plain : List Str := ["box"]
theorem sc__law_plain : FnScope ["box", "kind", "word", "number", "text", "read", "characters"] ["box"] (defScope s__law_plain) := ⟨rfl, rfl, rfl, by decide +kernel, rfl, by decide +kernel, by decide +kernel⟩
abbrev s_law : Stmt := top 44
abbrev N_law : List Str := ["script", "box", "k", "plain"]
abbrev P_law : List Str := ["script"]
theorem sc_law : FnScope ["script", "box", "k", "plain"] ["script"] (defScope s_law) := ⟨rfl, rfl, rfl, by decide +kernel, rfl, by decide +kernel, by decide +kernel⟩
abbrev s_Cutter_init : Stmt := inClass (top 16) 0
abbrev N_Cutter_init : List Str := ["self", "text"]
abbrev P_Cutter_init : List Str := ["self", "text"]
theorem sc_Cutter_init : FnScope ["self", "text"] ["self", "text"] (defScope s_Cutter_init) := ⟨rfl, rfl, rfl, by decide +kernel, rfl, by decide +kernel, by decide +kernel⟩
abbrev s_Cutter_column_of : Stmt := inClass (top 16) 1
abbrev N_Cutter_column_of : List Str := ["self", "at"]
abbrev P_Cutter_column_of : List Str := ["self", "at"]
theorem sc_Cutter_column_of : FnScope ["self", "at"] ["self", "at"] (defScope s_Cutter_column_of) := ⟨rfl, rfl, rfl, by decide +kernel, rfl, by decide +kernel, by decide +kernel⟩
abbrev s_Cutter_put : Stmt := inClass (top 16) 2
abbrev N_Cutter_put : List Str := ["self", "kind", "value", "end"]
abbrev P_Cutter_put : List Str := ["self", "kind", "value", "end"]
theorem sc_Cutter_put : FnScope ["self", "kind", "value", "end"] ["self", "kind", "value", "end"] (defScope s_Cutter_put) := ⟨rfl, rfl, rfl, by decide +kernel, rfl, by decide +kernel, by decide +kernel⟩
structure Df (K : PySem.W.Frag) (mg : Str → Option Value) (x : Str) (st : Stmt) (ps : List Str) where
  f : Addr
  fd : FuncData
  F : Fun K x x st f fd
  b : Binds K fd ps []
  m : mg x = some (.ref f)
structure Mf (K : PySem.W.Frag) (C : Addr) (x qual : Str) (st : Stmt) (ps : List Str) where
  f : Addr
  fd : FuncData
  F : Fun K x qual st f fd
  b : Binds K fd ps []
  mt : Meth K C x f
structure Nf (K : PySem.W.Frag) (x qual : Str) (st : Stmt) (ps : List Str) where
  f : Addr
  fd : FuncData
  F : Fun K x qual st f fd
  b : Binds K fd ps []
def KTup (K : PySem.W.Frag) (a : Addr) (xs : List Str) : Prop := ∃ (o : Obj) (its : Array Value) (n : Nat), K.lookup a = some o ∧ o.cls = .type "tuple" ∧ o.data = .seq its n ∧ its.size ≤ sizeLine ∧ Vals (xs.map V.str) its.toList
theorem relS (x : Str) (t : Tok) : RelV (.str x) (.str x t) := ⟨t, rfl⟩
def L_KEYWORDS : List Str := ["record", "proc", "var", "if", "else", "while", "for", "to", "return", "throw", "try", "catch", "print", "read", "break", "ahead", "none", "true", "false", "and", "or", "not", "mod", "new", "array", "size"]
def L_LONG_SIGNS : List Str := ["<=", ">=", "==", "!="]
def L_SHORT_SIGNS : List Str := ["(", ")", "{", "}", "[", "]", ",", ";", ".", "=", "+", "-", "*", "/", "&", "<", ">"]
def KeysAre : List DictEntry → List Str → Prop
  | [], [] => True
  | e :: r, k :: ks => (∃ t, e.key = .str k t) ∧ KeysAre r ks
  | _, _ => False
structure Tx (K : PySem.W.Frag) (mg : Str → Option Value) (w : World) where
  C_Cutter : Addr
  cl_Cutter : Cls K C_Cutter
  mg_Cutter : mg "Cutter" = some (.ref C_Cutter)
  na_text : NoAttr K C_Cutter "text"
  na_at : NoAttr K C_Cutter "at"
  na_line : NoAttr K C_Cutter "line"
  na_line_start : NoAttr K C_Cutter "line_start"
  na_row : NoAttr K C_Cutter "row"
  d_quoted : Df K mg "quoted" s_quoted ["characters"]
  d_shown_value : Df K mg "shown_value" s_shown_value ["value"]
  d_tokens : Df K mg "tokens" s_tokens ["text"]
  d_cut : Df K mg "cut" s_cut ["cutter"]
  d_is_letter : Df K mg "is_letter" s_is_letter ["character"]
  d_is_digit : Df K mg "is_digit" s_is_digit ["character"]
  d_is_of_name : Df K mg "is_of_name" s_is_of_name ["character"]
  d_pass_remark : Df K mg "pass_remark" s_pass_remark ["cutter"]
  d_cut_name : Df K mg "cut_name" s_cut_name ["cutter"]
  d_cut_number : Df K mg "cut_number" s_cut_number ["cutter"]
  d_cut_literal : Df K mg "cut_literal" s_cut_literal ["cutter"]
  d_character_in : Df K mg "character_in" s_character_in ["cutter", "at"]
  d_escaped : Df K mg "escaped" s_escaped ["cutter", "at"]
  d_cut_sign : Df K mg "cut_sign" s_cut_sign ["cutter"]
  d__law_cell : Df K mg "_law_cell" s__law_cell ["script", "k"]
  d__law_digits : Df K mg "_law_digits" s__law_digits ["script", "first", "last"]
  d__law_draw : Df K mg "_law_draw" s__law_draw ["box", "many"]
  d__law_same : Df K mg "_law_same" s__law_same ["actual", "expected"]
  d__law_sign : Df K mg "_law_sign" s__law_sign ["box"]
  d__law_spelled : Df K mg "_law_spelled" s__law_spelled ["characters"]
  d__law_characters : Df K mg "_law_characters" s__law_characters ["box"]
  d__law_number : Df K mg "_law_number" s__law_number ["box"]
  d__law_plain : Df K mg "_law_plain" s__law_plain ["box"]
  d_law : Df K mg "law" s_law ["script"]
  d_Cutter_init : Nf K "__init__" "Cutter.__init__" s_Cutter_init ["self", "text"]
  mk_Cutter : Mk K C_Cutter d_Cutter_init.f
  d_Cutter_column_of : Mf K C_Cutter "column_of" "Cutter.column_of" s_Cutter_column_of ["self", "at"]
  d_Cutter_put : Mf K C_Cutter "put" "Cutter.put" s_Cutter_put ["self", "kind", "value", "end"]
  z_len : mg "len" = none
  z_isinstance : mg "isinstance" = none
  z_tuple : mg "tuple" = none
  z_int : mg "int" = none
  z_bool : mg "bool" = none
  z_str : mg "str" = none
  z_range : mg "range" = none
  a_KEYWORDS : Addr
  c_KEYWORDS : mg "KEYWORDS" = some (.ref a_KEYWORDS)
  q_KEYWORDS : KTup K a_KEYWORDS L_KEYWORDS
  a_LONG_SIGNS : Addr
  c_LONG_SIGNS : mg "LONG_SIGNS" = some (.ref a_LONG_SIGNS)
  q_LONG_SIGNS : KTup K a_LONG_SIGNS L_LONG_SIGNS
  a_SHORT_SIGNS : Addr
  c_SHORT_SIGNS : mg "SHORT_SIGNS" = some (.ref a_SHORT_SIGNS)
  q_SHORT_SIGNS : KTup K a_SHORT_SIGNS L_SHORT_SIGNS
  t_TEXT_CHARACTERS : Tok
  c_TEXT_CHARACTERS : mg "TEXT_CHARACTERS" = some (.int (8000) t_TEXT_CHARACTERS)
  t_NAME_CHARACTERS : Tok
  c_NAME_CHARACTERS : mg "NAME_CHARACTERS" = some (.int (20) t_NAME_CHARACTERS)
  t_NUMBER_DIGITS : Tok
  c_NUMBER_DIGITS : mg "NUMBER_DIGITS" = some (.int (60) t_NUMBER_DIGITS)
  t_LITERAL_CHARACTERS : Tok
  c_LITERAL_CHARACTERS : mg "LITERAL_CHARACTERS" = some (.int (100) t_LITERAL_CHARACTERS)
  a_ESCAPES : Addr
  c_ESCAPES : mg "ESCAPES" = some (.ref a_ESCAPES)
  es_ESCAPES : Array DictEntry
  g_ESCAPES : KeysAre es_ESCAPES.toList ["\"", "\\", "n"]
  n_ESCAPES : Nat
  q_ESCAPES : KDict K w a_ESCAPES es_ESCAPES n_ESCAPES
  k_ESCAPES_0 : ∃ t, PySem.W.nsIn K a_ESCAPES "\"" = some (some (.str "\"" t))
  k_ESCAPES_1 : ∃ t, PySem.W.nsIn K a_ESCAPES "\\" = some (some (.str "\\" t))
  k_ESCAPES_2 : ∃ t, PySem.W.nsIn K a_ESCAPES "n" = some (some (.str "\n" t))
  a_ESCAPED : Addr
  c_ESCAPED : mg "ESCAPED" = some (.ref a_ESCAPED)
  es_ESCAPED : Array DictEntry
  g_ESCAPED : KeysAre es_ESCAPED.toList ["\"", "\\", "\n"]
  n_ESCAPED : Nat
  q_ESCAPED : KDict K w a_ESCAPED es_ESCAPED n_ESCAPED
  k_ESCAPED_0 : ∃ t, PySem.W.nsIn K a_ESCAPED "\"" = some (some (.str "\\\"" t))
  k_ESCAPED_1 : ∃ t, PySem.W.nsIn K a_ESCAPED "\\" = some (some (.str "\\\\" t))
  k_ESCAPED_2 : ∃ t, PySem.W.nsIn K a_ESCAPED "\n" = some (some (.str "\\n" t))
/-! ### operators -/
section
open PySem.Spec PyProof.Rows
variable {X : Cx}
def CMulX (i j : Int) : Prop := i.natAbs.log2 + j.natAbs.log2 < 134000000
theorem mulX_fits {i j : Int} (h : CMulX i j) : IntMulOk i j := by
  have hb : ∀ x : Int, Builtin.Int.intBits x ≤ x.natAbs.log2 + 1 := by
    intro x
    unfold Builtin.Int.intBits
    split
    · omega
    · omega
  intro hh
  simp only [Bool.and_eq_true, Builtin.Int.intTooBig, decide_eq_true_eq] at hh
  have hl : bitsLine = 134217728 := by decide
  have h1 := hb i
  have h2 := hb j
  unfold CMulX at h
  omega
theorem op_mulX : OpR X (binaryOp .Mult) (rI CMulX fun i j => .int (i * j)) := opI fun _ _ _ _ _ _ _ c q => mul_int q (mulX_fits c)
def CDivG (_ j : Int) : Prop := j ≠ 0 ∧ j.natAbs.log2 < 9000
theorem op_fdivG : OpR X (binaryOp .FloorDiv) (rI CDivG fun i j => .int (i.fdiv j)) := opI fun _ _ _ _ _ _ _ c q => floordiv_int c.1 q (.inl (PyProof.noPylong_of_log2 c.2))
end
theorem two240 : (10000000000000000000000000000000000000000000000000000000000000000000000 : Nat) < 2 ^ 240 := by decide +kernel
theorem log_small {i : Int} (h : i.natAbs < 10000000000000000000000000000000000000000000000000000000000000000000000) : i.natAbs.log2 < 240 :=
  PySem.Flt.log2_lt_of (by decide) (Nat.lt_trans h two240)
theorem mulX_small {i j : Int} (h1 : i.natAbs < 10000000000000000000000000000000000000000000000000000000000000000000000) (h2 : j.natAbs < 10000000000000000000000000000000000000000000000000000000000000000000000) : CMulX i j := by
  have a := log_small h1
  have b := log_small h2
  unfold CMulX
  omega
theorem bits_log {z : Int} (h : Builtin.Int.intBits z ≤ 1048576) : z.natAbs.log2 ≤ 1048576 := by
  unfold Builtin.Int.intBits at h
  split at h
  · rename_i e
    simp_all
  · omega
/-! ### heaps -/
theorem same_new {H : Hp} {p : Addr} (h : H p = none) (o : HO) : Same H (upd H p o) := fun b u q => by rw [upd_ne (ne_of_none q h)]; exact q
/-- all but what stands at p is as it was -/
def Keep (p : Addr) (H H' : Hp) : Prop := ∀ b o, H b = some o → b ≠ p → H' b = some o
theorem Keep.refl {p : Addr} {H : Hp} : Keep p H H := fun _ _ h _ => h
theorem Keep.trans {p : Addr} {H H1 H2 : Hp} (a : Keep p H H1) (b : Keep p H1 H2) : Keep p H H2 := fun c o h n => b c o (a c o h n) n
theorem Keep.of {p : Addr} {H H' : Hp} (h : Same H H') : Keep p H H' := fun b o e _ => h b o e
theorem Keep.upd {p : Addr} {H : Hp} {o : HO} : Keep p H (upd H p o) := fun b u e n => by rw [upd_ne n]; exact e
theorem same_upd {H H2 : Hp} {l : Addr} {o : HO} (s : Same H H2) (h : H l = none) : Same H (upd H2 l o) := fun b u e => by
  rw [upd_ne (ne_of_none e h)]
  exact s b u e
theorem lines {n : Nat} (h : n ≤ 100000) : n < sizeLine := Nat.lt_of_le_of_lt h (by decide)
/-- a list [digits, at] stands at p, its digits at l -/
structure BoxAt (H : Hp) (p l : Addr) : Prop where
  bx : ∃ k : Int, 0 ≤ k ∧ H p = some (.lst [.ref l, .int k])
  dg : ∃ ds : List Int, H l = some (.lst (ds.map V.int))
  ne : l ≠ p
theorem BoxAt.same {H H' : Hp} {p l : Addr} (B : BoxAt H p l) (s : Same H H') : BoxAt H' p l := by
  obtain ⟨⟨k, h0, h1⟩, ⟨ds, h2⟩, n⟩ := B
  exact ⟨⟨k, h0, s _ _ h1⟩, ⟨ds, s _ _ h2⟩, n⟩
/-! ### the promises of the law's helpers -/
def spCell (K : PySem.W.Frag) : Sp := fun vs H Q _ => ∃ (a : Addr) (ns : List Int) (k : Int), vs = [.ref a, .int k] ∧ SqL K H a (ns.map V.int) ∧ 0 ≤ k ∧ ∀ c : Int, (c = 0 ∨ c ∈ ns) → Q (.int c) H
def spDigits (K : PySem.W.Frag) : Sp := fun vs H Q _ => ∃ (a : Addr) (ns : List Int), vs = [.ref a, .int 0, .int 63] ∧ SqL K H a (ns.map V.int) ∧ ns.length ≤ 63 ∧ (∀ z ∈ ns, Builtin.Int.intBits z ≤ 1048576) ∧
  ∀ (l : Addr) (ds : List Int) (H' : Hp), H l = none → H' l = some (.lst (ds.map V.int)) → Same H H' → Q (.ref l) H'
def spDraw : Sp := fun vs H Q _ => ∃ (p l : Addr) (m : Int), vs = [.ref p, .int m] ∧ 0 < m ∧ BoxAt H p l ∧ ∀ (r : Int) (H' : Hp), 0 ≤ r → r < m → BoxAt H' p l → Keep p H H' → Q (.int r) H'
def spLaw (K : PySem.W.Frag) : Sp := fun vs H Q _ => ∃ (a : Addr) (ns : List Int), vs = [.ref a] ∧ SqL K H a (ns.map V.int) ∧ ns.length ≤ 63 ∧ (∀ z ∈ ns, Builtin.Int.intBits z ≤ 1048576) ∧ ∀ H', Q (.bl true) H'
theorem ifT {b : Bool} {A B : Prop} (h : b = true) (a : A) : if b = true then A else B := by
  subst h
  exact iteT a
theorem ifF {b : Bool} {A B : Prop} (h : b = false) (a : B) : if b = true then A else B := by
  subst h
  exact iteF a
section
variable {P : Program} {w : World} {K : PySem.W.Frag} {mg : Str → Option Value} {base : Heap}
theorem ok__law_cell (T : Tx K mg w) : FnOk P w K mg base CX0 1 T.d__law_cell.f T.d__law_cell.fd P__law_cell (spCell K) := by
  refine T.d__law_cell.F.ok sc__law_cell (fun vs H Q E h => ?_) (fun cdv A outer s H vs Q E hr h => ?_)
  · obtain ⟨a, ns, k, rfl, _⟩ := h
    rfl
  obtain ⟨a, ns, k, rfl, hS, h0, q⟩ := h
  refine ⟨_, (pss_cons (ps_if (pt_cmpR op_lt (pv 1) (pe_callB call_len_seq (by rfl) T.z_len PySem.boot_len (pa_cons (pv 0) pa_nil)) (nomark _))
      (pss_one (ps_ret (pe_ix ix_list (pv 0) (pv 1) (fun _ _ => rfl))))
      pss_nil)
    (pss_one (ps_ret pe_int))), ?_⟩
  have hl : (ns.map V.int).length = ns.length := List.length_map _
  refine ⟨_, rfl, _, rfl, a, _, rfl, .inl hS, _, _, rfl, rfl, _, rfl, ?_⟩
  refine ite2 (fun c => ?_) (fun c => ?_)
  · have c' : k < (((ns.map V.int).length : Nat) : Int) := of_decide_eq_true c
    rw [hl] at c'
    have hk : k.toNat < ns.length := by omega
    refine ⟨_, rfl, _, rfl, a, _, _, _, rfl, rfl, hS, at_of (j := k.toNat) (v := V.int ns[k.toNat]) (by omega) (by rw [List.getElem?_map, List.getElem?_eq_getElem hk] <;> rfl), ?_⟩
    exact q _ (Or.inr (List.getElem_mem hk))
  · exact q 0 (Or.inl rfl)
theorem ok__law_draw (T : Tx K mg w) : FnOk P w K mg base CX0 1 T.d__law_draw.f T.d__law_draw.fd P__law_draw spDraw := by
  refine T.d__law_draw.F.ok sc__law_draw (fun vs H Q E h => ?_) (fun cdv A outer s H vs Q E hr h => ?_)
  · obtain ⟨p, l, m, rfl, _⟩ := h
    rfl
  obtain ⟨p, l, m, rfl, hm, ⟨⟨k, k0, hp⟩, ⟨ds, hd⟩, ne⟩, q⟩ := h
  refine ⟨_, (pss_cons (ps_set (i := 2) sc__law_draw.nd rfl (Or.inl rfl) (pe_ix ix_list (pv 0) pe_int (fun _ _ => rfl)))
    (pss_cons (ps_asg (pe_op op_add (pv 2) pe_int) (pg_sub (pv 0) pe_int set_list))
    (pss_cons (ps_if (pt_cmpR op_lt (pv 2) (pe_callB call_len_seq (by rfl) T.z_len PySem.boot_len (pa_cons (pe_ix ix_list (pv 0) pe_int (fun _ _ => rfl)) pa_nil)) (nomark _))
      (pss_one (ps_ret (pe_op op_mod (pe_callTy call_int1 (by rfl) T.z_int (by decide +kernel) (pa_cons (pe_ix ix_list (pe_ix ix_list (pv 0) pe_int (fun _ _ => rfl)) (pv 2) (fun _ _ => rfl)) pa_nil)) (pv 1))))
      pss_nil)
    (pss_one (ps_ret pe_int))))), ?_⟩
  have hl : (ds.map V.int).length = ds.length := List.length_map _
  have B' : BoxAt (upd H p (.lst [.ref l, .int (k + 1)])) p l := ⟨⟨k + 1, by omega, upd_same⟩, ⟨ds, by rw [upd_ne ne]; exact hd⟩, ne⟩
  -- at = box[1]
  refine ⟨_, rfl, p, _, _, _, rfl, rfl, SqL.of hp, at_of (j := 1) rfl rfl, ?_⟩
  -- box[1] = at + 1
  refine ⟨_, rfl, _, _, rfl, rfl, _, rfl, p, _, _, 1, rfl, rfl, hp, rfl, ?_⟩
  have hp' : upd H p (.lst [.ref l, .int (k + 1)]) p = some (.lst [.ref l, .int (k + 1)]) := upd_same
  have hd' : upd H p (.lst [.ref l, .int (k + 1)]) l = some (.lst (ds.map V.int)) := by rw [upd_ne ne]; exact hd
  refine ⟨_, rfl, _, rfl, p, _, _, _, rfl, rfl, SqL.of hp', at_of (j := 0) rfl rfl, l, _, rfl, .inl (SqL.of hd'), _, _, rfl, rfl, _, rfl, ?_⟩
  refine ite2 (fun c => ?_) (fun c => ?_)
  · have c' : k < (((ds.map V.int).length : Nat) : Int) := of_decide_eq_true c
    rw [hl] at c'
    have hk : k.toNat < ds.length := by omega
    refine ⟨_, rfl, p, _, _, _, rfl, rfl, SqL.of hp', at_of (j := 0) rfl rfl, _, rfl, l, _, _, _, rfl, rfl, SqL.of hd', at_of (j := k.toNat) (v := V.int ds[k.toNat]) (by omega) (by rw [List.getElem?_map, List.getElem?_eq_getElem hk] <;> rfl), ?_⟩
    refine .inl ⟨_, rfl, _, rfl, _, _, rfl, rfl, hm, ?_⟩
    exact q _ _ (Int.emod_nonneg _ (by omega)) (Int.emod_lt_of_pos _ hm) B' Keep.upd
  · exact q 0 _ (Int.le_refl 0) hm B' Keep.upd
theorem cell_log {ns : List Int} {c : Int} (hb : ∀ z ∈ ns, Builtin.Int.intBits z ≤ 1048576) (h : c = 0 ∨ c ∈ ns) : c.natAbs.log2 ≤ 1048576 := by
  rcases h with rfl | h
  · decide
  · exact bits_log (hb c h)
theorem map_append1 (ds : List Int) (z : Int) : ds.map V.int ++ [V.int z] = (ds ++ [z]).map V.int := by rw [List.map_append]; rfl
theorem ok__law_digits (T : Tx K mg w) : FnOk P w K mg base CX0 2 T.d__law_digits.f T.d__law_digits.fd P__law_digits (spDigits K) := by
  have G__law_cell := ok__law_cell (P := P) (w := w) (base := base) T
  refine T.d__law_digits.F.ok sc__law_digits (fun vs H Q E h => ?_) (fun cdv A outer s H vs Q E hr h => ?_)
  · obtain ⟨a, ns, rfl, _⟩ := h
    rfl
  obtain ⟨a, ns, rfl, hS, h63, hb, q⟩ := h
  refine ⟨_, (pss_cons (ps_set (i := 3) sc__law_digits.nd rfl (Or.inl rfl) (pe_lst pa_nil))
    (pss_cons (ps_for PassesOwn.never rfl (pi_range2 (by rfl) T.z_range (pa_cons (pv 1) (pa_cons (pv 2) pa_nil))) (pg_name (i := 4) sc__law_digits.nd rfl (Or.inl rfl))
      (pss_cons (ps_set (i := 5) sc__law_digits.nd rfl (Or.inl rfl) (pe_call G__law_cell (hr.mono (by omega)) (by rfl) T.d__law_cell.m T.d__law_cell.F.kp T.d__law_cell.b .nil pass0 (pa_cons (pv 0) (pa_cons (pv 4) pa_nil))))
    (pss_cons (ps_if (pt_cmpR op_lt (pv 5) pe_int (nomark _))
      (pss_one (ps_set (i := 5) sc__law_digits.nd rfl (Or.inl rfl) (pe_op op_sub pe_int (pe_op op_mulX pe_int (pv 5)))))
      pss_nil)
    (pss_one (ps_if (pt_cmpR op_ge (pv 5) (pe_op op_pow pe_int pe_int) (nomark _))
      (pss_one (ps_for PassesOwn.never rfl (pi_range1 (by rfl) T.z_range (pa_cons pe_int pa_nil)) (pg_name (i := 6) sc__law_digits.nd rfl (Or.inl rfl))
      (pss_one (ps_if (pt_cmpR op_gt (pv 5) pe_int (nomark _))
      (pss_cons (ps_expr (pe_bm PySem.F.plainAttrs_list PySem.F.slot_list_append PySem.F.type_list_append mt_append (pv 3) (pa_cons (pe_op op_mod (pe_callTy call_int1 (by rfl) T.z_int (by decide +kernel) (pa_cons (pv 5) pa_nil)) pe_int) pa_nil)))
    (pss_one (ps_set (i := 5) sc__law_digits.nd rfl (Or.inl rfl) (pe_op op_fdiv (pv 5) pe_int))))
      pss_nil))))
      (pss_cons (ps_set (i := 7) sc__law_digits.nd rfl (Or.inl rfl) (pe_op op_mod (pe_callTy call_int1 (by rfl) T.z_int (by decide +kernel) (pa_cons (pe_op op_add (pe_op op_add (pe_op op_mulX (pv 5) pe_int) (pe_op op_mulX (pv 4) pe_int)) pe_int) pa_nil)) pe_int))
    (pss_one (ps_for PassesOwn.never rfl (pi_range1 (by rfl) T.z_range (pa_cons pe_int pa_nil)) (pg_name (i := 6) sc__law_digits.nd rfl (Or.inl rfl))
      (pss_cons (ps_set (i := 7) sc__law_digits.nd rfl (Or.inl rfl) (pe_op op_mod (pe_callTy call_int1 (by rfl) T.z_int (by decide +kernel) (pa_cons (pe_op op_add (pe_op op_add (pe_op op_mulX (pv 7) pe_int) (pe_op op_mulX pe_int (pv 6))) pe_int) pa_nil)) pe_int))
    (pss_one (ps_expr (pe_bm PySem.F.plainAttrs_list PySem.F.slot_list_append PySem.F.type_list_append mt_append (pv 3) (pa_cons (pe_op op_mod (pe_callTy call_int1 (by rfl) T.z_int (by decide +kernel) (pa_cons (pe_op op_fdiv (pv 7) pe_int) pa_nil)) pe_int) pa_nil)))))))))))))
    (pss_one (ps_ret (pv 3))))), ?_⟩
  refine ⟨(by show 0 ≤ sizeLine; decide), fun l hl => ?_⟩
  have s0 := same_new hl (.lst [])
  refine ⟨_, rfl, _, rfl, _, _, rfl, by decide, for_range (lo := 0) (n := 63) (fun i σ H1 => ∃ (ds : List Int) (v4 v5 v6 v7 : Option V), σ = [some (.ref a), some (.int 0), some (.int 63), some (.ref l), v4, v5, v6, v7] ∧ Same H H1 ∧ H1 l = some (.lst (ds.map V.int)) ∧ ds.length ≤ 60 * i)
    ⟨[], none, none, none, none, rfl, s0, upd_same, Nat.le_refl 0⟩ ?_ ?_⟩
  · rintro i σ H1 hi ⟨ds, v4, v5, v6, v7, rfl, s1, h1, hn⟩
    -- cell = _law_cell(script, k)
    refine ⟨_, rfl, _, rfl, a, ns, _, rfl, s1.seq hS, by omega, fun c hc => ?_⟩
    have hlog := cell_log hb hc
    refine ⟨_, rfl, _, _, rfl, rfl, _, rfl, ?_⟩
    have e2 : (2 : Int).natAbs.log2 = 1 := by decide
    refine ite2 (fun e0 => ?g1) (fun e0 => ?g2)
    case g1 =>
      have e0' : c < 0 := of_decide_eq_true e0
      refine ⟨_, rfl, _, _, rfl, rfl, (by unfold CMulX; omega), _, _, rfl, rfl, ?_⟩
      have hc0 : 0 ≤ 1 - 2 * c := by omega
      dsimp only
      generalize (1 - 2 * c : Int) = c2 at hc0 ⊢
      refine ⟨_, rfl, _, _, rfl, rfl, ⟨by decide, by decide, by decide⟩, _, _, rfl, rfl, _, rfl, ?_⟩
      refine ite2 (fun e1 => ?_) (fun e1 => ?_)
      · refine ⟨60, rfl, by decide, by decide, for_range (lo := 0) (n := 60) (fun j σ H2 => ∃ (ds : List Int) (c3 : Int) (v4 v6 v7 : Option V), σ = [some (.ref a), some (.int 0), some (.int 63), some (.ref l), v4, some (.int c3), v6, v7] ∧ Same H H2 ∧ H2 l = some (.lst (ds.map V.int)) ∧ ds.length ≤ 60 * i + j)
          ⟨ds, c2, _, _, _, rfl, s1, h1, hn⟩ ?_ ?_⟩
        · rintro j σ H2 hj ⟨ds, c3, v4, v6, v7, rfl, s2, h2, hn⟩
          refine ⟨_, rfl, _, _, rfl, rfl, _, rfl, ?_⟩
          refine ite2 (fun e3 => ?_) (fun e3 => ?_)
          · refine ⟨_, rfl, .inl ⟨rfl, _, SqL.of h2⟩, _, rfl, .inl ⟨_, rfl, _, _, rfl, rfl, (by show (0 : Int) < 1000; decide), l, _, _, rfl, rfl, h2, (by rw [List.length_map]; exact lines (by omega)), ?_⟩⟩
            refine ⟨_, rfl, _, _, rfl, rfl, ⟨by decide, by decide⟩, ?_⟩
            exact ⟨ds ++ [c3 % 1000], _, _, _, _, rfl, same_upd s2 hl, by rw [upd_same, map_append1], by rw [List.length_append, List.length_singleton]; omega⟩
          · exact ⟨ds, c3, _, _, _, rfl, s2, h2, by omega⟩
        · rintro σ H2 ⟨ds, c3, v4, v6, v7, rfl, s2, h2, hn⟩
          exact ⟨ds, _, _, _, _, rfl, s2, h2, by omega⟩
      · have e1' : ¬ (10 : Int) ^ (18 : Int).toNat ≤ c2 := of_decide_eq_false (Bool.eq_false_iff.mpr e1)
        have e18 : (10 : Int) ^ (18 : Int).toNat = 1000000000000000000 := by decide
        rw [e18] at e1'
        refine ⟨_, rfl, _, _, rfl, rfl, mulX_small (by omega) (by decide), _, rfl, _, _, rfl, rfl, mulX_small (by omega) (by decide), _, _, rfl, rfl, _, _, rfl, rfl, .inl ⟨_, rfl, _, _, rfl, rfl, (by show (0 : Int) < 2147483647; decide), ?_⟩⟩
        refine ⟨12, rfl, by decide, by decide, for_range (lo := 0) (n := 12) (fun j σ H2 => ∃ (ds : List Int) (z : Int) (v4 v5 v6 : Option V), σ = [some (.ref a), some (.int 0), some (.int 63), some (.ref l), v4, v5, v6, some (.int z)] ∧ Same H H2 ∧ H2 l = some (.lst (ds.map V.int)) ∧ ds.length ≤ 60 * i + j ∧ 0 ≤ z ∧ z < 2147483647)
          ⟨ds, _, _, _, _, rfl, s1, h1, hn, Int.emod_nonneg _ (by decide), Int.emod_lt_of_pos _ (by decide)⟩ ?_ ?_⟩
        · rintro j σ H2 hj ⟨ds, z, v4, v5, v6, rfl, s2, h2, hn, hz0, hz1⟩
          refine ⟨_, rfl, _, _, rfl, rfl, mulX_small (by omega) (by decide), _, rfl, _, _, rfl, rfl, mulX_small (by decide) (by omega), _, _, rfl, rfl, _, _, rfl, rfl, .inl ⟨_, rfl, _, _, rfl, rfl, (by show (0 : Int) < 2147483647; decide), ?_⟩⟩
          refine ⟨_, rfl, .inl ⟨rfl, _, SqL.of h2⟩, _, rfl, _, _, rfl, rfl, ⟨by decide, by decide⟩, .inl ⟨_, rfl, _, _, rfl, rfl, (by show (0 : Int) < 1000; decide), l, _, _, rfl, rfl, h2, (by rw [List.length_map]; exact lines (by omega)), ?_⟩⟩
          exact ⟨ds ++ [_], _, _, _, _, rfl, same_upd s2 hl, by rw [upd_same, map_append1], by rw [List.length_append, List.length_singleton]; omega, Int.emod_nonneg _ (by decide), Int.emod_lt_of_pos _ (by decide)⟩
        · rintro σ H2 ⟨ds, z, v4, v5, v6, rfl, s2, h2, hn, hz0, hz1⟩
          exact ⟨ds, _, _, _, _, rfl, s2, h2, by omega⟩
    case g2 =>
      have hc0 : 0 ≤ c := by
        have e0' : ¬ c < 0 := of_decide_eq_false (Bool.eq_false_iff.mpr e0)
        omega
      obtain ⟨c2, rfl⟩ : ∃ c2, c2 = c := ⟨c, rfl⟩
      refine ⟨_, rfl, _, _, rfl, rfl, ⟨by decide, by decide, by decide⟩, _, _, rfl, rfl, _, rfl, ?_⟩
      refine ite2 (fun e1 => ?_) (fun e1 => ?_)
      · refine ⟨60, rfl, by decide, by decide, for_range (lo := 0) (n := 60) (fun j σ H2 => ∃ (ds : List Int) (c3 : Int) (v4 v6 v7 : Option V), σ = [some (.ref a), some (.int 0), some (.int 63), some (.ref l), v4, some (.int c3), v6, v7] ∧ Same H H2 ∧ H2 l = some (.lst (ds.map V.int)) ∧ ds.length ≤ 60 * i + j)
          ⟨ds, c2, _, _, _, rfl, s1, h1, hn⟩ ?_ ?_⟩
        · rintro j σ H2 hj ⟨ds, c3, v4, v6, v7, rfl, s2, h2, hn⟩
          refine ⟨_, rfl, _, _, rfl, rfl, _, rfl, ?_⟩
          refine ite2 (fun e3 => ?_) (fun e3 => ?_)
          · refine ⟨_, rfl, .inl ⟨rfl, _, SqL.of h2⟩, _, rfl, .inl ⟨_, rfl, _, _, rfl, rfl, (by show (0 : Int) < 1000; decide), l, _, _, rfl, rfl, h2, (by rw [List.length_map]; exact lines (by omega)), ?_⟩⟩
            refine ⟨_, rfl, _, _, rfl, rfl, ⟨by decide, by decide⟩, ?_⟩
            exact ⟨ds ++ [c3 % 1000], _, _, _, _, rfl, same_upd s2 hl, by rw [upd_same, map_append1], by rw [List.length_append, List.length_singleton]; omega⟩
          · exact ⟨ds, c3, _, _, _, rfl, s2, h2, by omega⟩
        · rintro σ H2 ⟨ds, c3, v4, v6, v7, rfl, s2, h2, hn⟩
          exact ⟨ds, _, _, _, _, rfl, s2, h2, by omega⟩
      · have e1' : ¬ (10 : Int) ^ (18 : Int).toNat ≤ c2 := of_decide_eq_false (Bool.eq_false_iff.mpr e1)
        have e18 : (10 : Int) ^ (18 : Int).toNat = 1000000000000000000 := by decide
        rw [e18] at e1'
        refine ⟨_, rfl, _, _, rfl, rfl, mulX_small (by omega) (by decide), _, rfl, _, _, rfl, rfl, mulX_small (by omega) (by decide), _, _, rfl, rfl, _, _, rfl, rfl, .inl ⟨_, rfl, _, _, rfl, rfl, (by show (0 : Int) < 2147483647; decide), ?_⟩⟩
        refine ⟨12, rfl, by decide, by decide, for_range (lo := 0) (n := 12) (fun j σ H2 => ∃ (ds : List Int) (z : Int) (v4 v5 v6 : Option V), σ = [some (.ref a), some (.int 0), some (.int 63), some (.ref l), v4, v5, v6, some (.int z)] ∧ Same H H2 ∧ H2 l = some (.lst (ds.map V.int)) ∧ ds.length ≤ 60 * i + j ∧ 0 ≤ z ∧ z < 2147483647)
          ⟨ds, _, _, _, _, rfl, s1, h1, hn, Int.emod_nonneg _ (by decide), Int.emod_lt_of_pos _ (by decide)⟩ ?_ ?_⟩
        · rintro j σ H2 hj ⟨ds, z, v4, v5, v6, rfl, s2, h2, hn, hz0, hz1⟩
          refine ⟨_, rfl, _, _, rfl, rfl, mulX_small (by omega) (by decide), _, rfl, _, _, rfl, rfl, mulX_small (by decide) (by omega), _, _, rfl, rfl, _, _, rfl, rfl, .inl ⟨_, rfl, _, _, rfl, rfl, (by show (0 : Int) < 2147483647; decide), ?_⟩⟩
          refine ⟨_, rfl, .inl ⟨rfl, _, SqL.of h2⟩, _, rfl, _, _, rfl, rfl, ⟨by decide, by decide⟩, .inl ⟨_, rfl, _, _, rfl, rfl, (by show (0 : Int) < 1000; decide), l, _, _, rfl, rfl, h2, (by rw [List.length_map]; exact lines (by omega)), ?_⟩⟩
          exact ⟨ds ++ [_], _, _, _, _, rfl, same_upd s2 hl, by rw [upd_same, map_append1], by rw [List.length_append, List.length_singleton]; omega, Int.emod_nonneg _ (by decide), Int.emod_lt_of_pos _ (by decide)⟩
        · rintro σ H2 ⟨ds, z, v4, v5, v6, rfl, s2, h2, hn, hz0, hz1⟩
          exact ⟨ds, _, _, _, _, rfl, s2, h2, by omega⟩
  · rintro σ H1 ⟨ds, v4, v5, v6, v7, rfl, s1, h1, hn⟩
    exact ⟨_, rfl, q l ds H1 hl h1 s1⟩
/-! ### the law's own comparison -/
mutual
def sameD : PyData → PyData → Bool
  | .none, .none => true
  | .bool a, .bool b => a == b
  | .int a, .int b => a == b
  | .str a, .str b => a == b
  | .tuple xs, .tuple ys => sameAll xs ys
  | _, _ => false
def sameAll : List PyData → List PyData → Bool
  | [], [] => true
  | x :: xs, y :: ys => sameD x y && sameAll xs ys
  | _, _ => false
end
theorem sameAll_nil : sameAll [] [] = true := by simp [sameAll]
theorem sameAll_cons (x y : PyData) (xs ys : List PyData) : sameAll (x :: xs) (y :: ys) = (sameD x y && sameAll xs ys) := by simp [sameAll]
theorem sameAll_nc (y : PyData) (ys : List PyData) : sameAll [] (y :: ys) = false := by simp [sameAll]
theorem sameAll_cn (x : PyData) (xs : List PyData) : sameAll (x :: xs) [] = false := by simp [sameAll]
theorem sameD_tup (xs ys : List PyData) : sameD (.tuple xs) (.tuple ys) = sameAll xs ys := by simp [sameD]
theorem sameAll_true : ∀ {ds es : List PyData}, ds.length = es.length → (∀ (j : Nat) (d e : PyData), ds[j]? = some d → es[j]? = some e → sameD d e = true) → sameAll ds es = true
  | [], [], _, _ => sameAll_nil
  | [], _ :: _, h, _ => by simp at h
  | _ :: _, [], h, _ => by simp at h
  | d :: ds, e :: es, h, f => by
    rw [sameAll_cons, f 0 d e rfl rfl, sameAll_true (by simpa using h) fun j d' e' h1 h2 => f (j + 1) d' e' (by simpa using h1) (by simpa using h2)]
    rfl
theorem sameAll_false : ∀ {ds es : List PyData} {j : Nat} {d e : PyData}, ds[j]? = some d → es[j]? = some e → sameD d e = false → sameAll ds es = false
  | [], _, _, _, _, h, _, _ => by simp at h
  | _ :: _, [], _, _, _, _, h, _ => by simp at h
  | d :: ds, e :: es, 0, _, _, h1, h2, h3 => by
    have a := Option.some.inj h1
    have b := Option.some.inj h2
    subst a b
    rw [sameAll_cons, h3, Bool.false_and]
  | d :: ds, e :: es, j + 1, _, _, h1, h2, h3 => by
    rw [sameAll_cons, sameAll_false (j := j) (by simpa using h1) (by simpa using h2) h3, Bool.and_false]
theorem sameAll_len : ∀ {ds es : List PyData}, ds.length ≠ es.length → sameAll ds es = false
  | [], [], h => absurd rfl h
  | [], _ :: _, _ => sameAll_nc _ _
  | _ :: _, [], _ => sameAll_cn _ _
  | d :: ds, e :: es, h => by rw [sameAll_cons, sameAll_len (fun q => h (by simpa using q)), Bool.and_false]
/-- data of texts, numbers, bools, None and tuples, less than n deep -/
def okD : Nat → PyData → Bool
  | 0, _ => false
  | _ + 1, .none => true
  | _ + 1, .bool _ => true
  | _ + 1, .int _ => true
  | _ + 1, .str _ => true
  | n + 1, .tuple xs => decide (xs.length ≤ 1000) && xs.all (okD n)
  | _ + 1, _ => false
theorem okD_tup {n : Nat} {xs : List PyData} (h : okD (n + 1) (.tuple xs) = true) : xs.length ≤ 1000 ∧ ∀ x ∈ xs, okD n x = true := by
  simp only [okD, Bool.and_eq_true, decide_eq_true_eq, List.all_eq_true] at h
  exact h
def tyN : PyData → String
  | .none => "NoneType"
  | .bool _ => "bool"
  | .int _ => "int"
  | .str _ => "str"
  | .list _ => "list"
  | .tuple _ => "tuple"
  | .dict _ => "dict"
theorem dpAll_len {K : PySem.W.Frag} {H : Hp} : ∀ {xs : List V} {ds : List PyData}, DpAll K H xs ds → xs.length = ds.length
  | _, _, .nil => rfl
  | _, _, .cons _ t => congrArg (· + 1) (dpAll_len t)
theorem dpAll_get {K : PySem.W.Frag} {H : Hp} : ∀ {xs : List V} {ds : List PyData} {j : Nat} {d : PyData}, DpAll K H xs ds → ds[j]? = some d → ∃ v, xs[j]? = some v ∧ Dp K H v d
  | _, _, _, _, .nil, h => by simp at h
  | _, _, 0, _, .cons a _, h => by
    have e := Option.some.inj h
    subst e
    exact ⟨_, rfl, a⟩
  | _, _, j + 1, _, .cons _ t, h => by
    obtain ⟨v, h1, h2⟩ := dpAll_get (j := j) t (by simpa using h)
    exact ⟨v, by simpa using h1, h2⟩
theorem ty_of {K : PySem.W.Frag} {H : Hp} {x : V} {d : PyData} {m : Nat} (h : Dp K H x d) (ok : okD m d = true) : TyX K H x (.type (tyN d)) := by
  cases m with
  | zero => simp [okD] at ok
  | succ m =>
    cases h with
    | non => exact .base .non
    | bl b => exact .base (.bl b)
    | int i => exact .base (.int i)
    | str s => exact .base (.str s)
    | lst => simp [okD] at ok
    | tup hs _ =>
      rcases hs with (h | ⟨o, h⟩) | ⟨o, its, n, hk, hc, _⟩
      · exact .base (.tup h)
      · exact .fTuple h
      · exact .kTuple hk hc
theorem kt_NoneType_tuple {K : PySem.W.Frag} : PySem.W.kitOne K (.type "NoneType") (.type "tuple") = some false := kit_ty (by decide +kernel)
theorem kt_NoneType_bool {K : PySem.W.Frag} : PySem.W.kitOne K (.type "NoneType") (.type "bool") = some false := kit_ty (by decide +kernel)
theorem kt_NoneType_int {K : PySem.W.Frag} : PySem.W.kitOne K (.type "NoneType") (.type "int") = some false := kit_ty (by decide +kernel)
theorem kt_NoneType_str {K : PySem.W.Frag} : PySem.W.kitOne K (.type "NoneType") (.type "str") = some false := kit_ty (by decide +kernel)
theorem kt_bool_tuple {K : PySem.W.Frag} : PySem.W.kitOne K (.type "bool") (.type "tuple") = some false := kit_ty (by decide +kernel)
theorem kt_bool_bool {K : PySem.W.Frag} : PySem.W.kitOne K (.type "bool") (.type "bool") = some true := kit_ty (by decide +kernel)
theorem kt_bool_int {K : PySem.W.Frag} : PySem.W.kitOne K (.type "bool") (.type "int") = some true := kit_ty (by decide +kernel)
theorem kt_bool_str {K : PySem.W.Frag} : PySem.W.kitOne K (.type "bool") (.type "str") = some false := kit_ty (by decide +kernel)
theorem kt_int_tuple {K : PySem.W.Frag} : PySem.W.kitOne K (.type "int") (.type "tuple") = some false := kit_ty (by decide +kernel)
theorem kt_int_bool {K : PySem.W.Frag} : PySem.W.kitOne K (.type "int") (.type "bool") = some false := kit_ty (by decide +kernel)
theorem kt_int_int {K : PySem.W.Frag} : PySem.W.kitOne K (.type "int") (.type "int") = some true := kit_ty (by decide +kernel)
theorem kt_int_str {K : PySem.W.Frag} : PySem.W.kitOne K (.type "int") (.type "str") = some false := kit_ty (by decide +kernel)
theorem kt_str_tuple {K : PySem.W.Frag} : PySem.W.kitOne K (.type "str") (.type "tuple") = some false := kit_ty (by decide +kernel)
theorem kt_str_bool {K : PySem.W.Frag} : PySem.W.kitOne K (.type "str") (.type "bool") = some false := kit_ty (by decide +kernel)
theorem kt_str_int {K : PySem.W.Frag} : PySem.W.kitOne K (.type "str") (.type "int") = some false := kit_ty (by decide +kernel)
theorem kt_str_str {K : PySem.W.Frag} : PySem.W.kitOne K (.type "str") (.type "str") = some true := kit_ty (by decide +kernel)
theorem kt_tuple_tuple {K : PySem.W.Frag} : PySem.W.kitOne K (.type "tuple") (.type "tuple") = some true := kit_ty (by decide +kernel)
theorem kt_tuple_bool {K : PySem.W.Frag} : PySem.W.kitOne K (.type "tuple") (.type "bool") = some false := kit_ty (by decide +kernel)
theorem kt_tuple_int {K : PySem.W.Frag} : PySem.W.kitOne K (.type "tuple") (.type "int") = some false := kit_ty (by decide +kernel)
theorem kt_tuple_str {K : PySem.W.Frag} : PySem.W.kitOne K (.type "tuple") (.type "str") = some false := kit_ty (by decide +kernel)
def spSame (K : PySem.W.Frag) (n : Nat) : Sp := fun vs H Q _ => ∃ (x y : V) (d e : PyData) (m : Nat), vs = [x, y] ∧ Dp K H x d ∧ Dp K H y e ∧ okD m d = true ∧ okD n e = true ∧ Q (.bl (sameD d e)) H
theorem same_step (T : Tx K mg w) {n : Nat} (G__law_same : FnOk P w K mg base CX0 n T.d__law_same.f T.d__law_same.fd P__law_same (spSame K n)) :
    FnOk P w K mg base CX0 (n + 1) T.d__law_same.f T.d__law_same.fd P__law_same (spSame K (n + 1)) := by
  refine T.d__law_same.F.ok sc__law_same (fun vs H Q E h => ?_) (fun cdv A outer s H vs Q E hr h => ?_)
  · obtain ⟨x, y, d, e, m, rfl, _⟩ := h
    rfl
  obtain ⟨x, y, d, e, m, rfl, hd, he, okd, oke, q⟩ := h
  refine ⟨_, (pss_cons (ps_if (pt_val (pe_callB call_isi (by rfl) T.z_isinstance (by decide +kernel) (pa_cons (pv 1) (pa_cons (pe_bltn (v := V.ty "tuple") (by rfl) T.z_tuple (by decide +kernel) rfl) pa_nil))))
      (pss_cons (ps_if (PW.pt (pw_or (pt_not (pt_val (pe_callB call_isi (by rfl) T.z_isinstance (by decide +kernel) (pa_cons (pv 0) (pa_cons (pe_bltn (v := V.ty "tuple") (by rfl) T.z_tuple (by decide +kernel) rfl) pa_nil))))) (pw_or1 (pt_cmpR op_ne (pe_callB call_len_seq (by rfl) T.z_len PySem.boot_len (pa_cons (pv 0) pa_nil)) (pe_callB call_len_seq (by rfl) T.z_len PySem.boot_len (pa_cons (pv 1) pa_nil)) (nomark _)))))
      (pss_one (ps_ret pe_bl))
      pss_nil)
    (pss_cons (ps_for PassesOwn.never rfl (pi_range1 (by rfl) T.z_range (pa_cons (pe_callB call_len_seq (by rfl) T.z_len PySem.boot_len (pa_cons (pv 1) pa_nil)) pa_nil)) (pg_name (i := 2) sc__law_same.nd rfl (Or.inl rfl))
      (pss_one (ps_if (pt_not (pt_val (pe_call G__law_same (hr.mono (by omega)) (by rfl) T.d__law_same.m T.d__law_same.F.kp T.d__law_same.b .nil pass0 (pa_cons (pe_ix ix_tup (pv 0) (pv 2) (fun _ _ => rfl)) (pa_cons (pe_ix ix_tup (pv 1) (pv 2) (fun _ _ => rfl)) pa_nil)))))
      (pss_one (ps_ret pe_bl))
      pss_nil)))
    (pss_one (ps_ret pe_bl))))
      pss_nil)
    (pss_cons (ps_if (pt_cmpR op_isN (pv 1) pe_non (nomark _))
      (pss_one (ps_ret (pe_cmpR op_isN (pv 0) pe_non (nomark _))))
      pss_nil)
    (pss_cons (ps_if (pt_val (pe_callB call_isi (by rfl) T.z_isinstance (by decide +kernel) (pa_cons (pv 1) (pa_cons (pe_bltn (v := V.ty "bool") (by rfl) T.z_bool (by decide +kernel) rfl) pa_nil))))
      (pss_one (ps_ret (pe_and (pe_callB call_isi (by rfl) T.z_isinstance (by decide +kernel) (pa_cons (pv 0) (pa_cons (pe_bltn (v := V.ty "bool") (by rfl) T.z_bool (by decide +kernel) rfl) pa_nil))) (pe_one (pe_cmpR op_eq (pv 0) (pv 1) (nomark _))))))
      pss_nil)
    (pss_cons (ps_if (pt_val (pe_callB call_isi (by rfl) T.z_isinstance (by decide +kernel) (pa_cons (pv 1) (pa_cons (pe_bltn (v := V.ty "int") (by rfl) T.z_int (by decide +kernel) rfl) pa_nil))))
      (pss_one (ps_ret (pe_and (pe_callB call_isi (by rfl) T.z_isinstance (by decide +kernel) (pa_cons (pv 0) (pa_cons (pe_bltn (v := V.ty "int") (by rfl) T.z_int (by decide +kernel) rfl) pa_nil))) (pe_and (pe_not (pe_callB call_isi (by rfl) T.z_isinstance (by decide +kernel) (pa_cons (pv 0) (pa_cons (pe_bltn (v := V.ty "bool") (by rfl) T.z_bool (by decide +kernel) rfl) pa_nil)))) (pe_one (pe_cmpR op_eq (pv 0) (pv 1) (nomark _)))))))
      pss_nil)
    (pss_one (ps_ret (pe_and (pe_callB call_isi (by rfl) T.z_isinstance (by decide +kernel) (pa_cons (pv 0) (pa_cons (pe_bltn (v := V.ty "str") (by rfl) T.z_str (by decide +kernel) rfl) pa_nil))) (pe_one (pe_cmpR op_eq (pv 0) (pv 1) (nomark _)))))))))), ?_⟩
  cases e with
  | list es => simp [okD] at oke
  | dict es => simp [okD] at oke
  | tuple es =>
    refine ⟨_, rfl, _, _, _, _, true, rfl, .ty _, ty_of he oke, kt_tuple_tuple, _, rfl, ifT rfl ?_⟩
    cases he with
    | @tup b ys _ hs ha =>
    have oke' := okD_tup oke
    have hys := dpAll_len ha
    have no : (∀ ds, d ≠ .tuple ds) → sameD d (.tuple es) = false := fun h => by
      cases d with
      | tuple ds => exact absurd rfl (h ds)
      | _ => simp [sameD]
    have ret : sameD d (.tuple es) = false → Q (.bl false) H := fun h => by
      rw [h] at q
      exact q
    by_cases ht : ∃ ds, d = .tuple ds
    · obtain ⟨ds, rfl⟩ := ht
      refine ⟨_, rfl, _, _, _, _, true, rfl, .ty _, ty_of hd okd, kt_tuple_tuple, _, rfl, iteF ?_⟩
      cases hd with
      | @tup a xs _ hsx hax =>
      have hxs := dpAll_len hax
      refine ⟨_, rfl, a, _, rfl, .inr hsx, _, rfl, b, _, rfl, .inr hs, rfl, _, rfl, ?_⟩
      by_cases hl : ds.length = es.length
      · refine ifF (by rw [hxs, hys, hl]; simp) ?_
        refine ⟨_, rfl, b, _, rfl, .inr hs, _, rfl, by omega, by omega, for_range (lo := 0) (n := ys.length) (fun i σ H1 => H1 = H ∧ (∃ v2, σ = [some (.ref a), some (.ref b), v2]) ∧ ∀ (j : Nat) (d e : PyData), j < i → ds[j]? = some d → es[j]? = some e → sameD d e = true)
          ⟨rfl, ⟨none, rfl⟩, fun j _ _ hj => absurd hj (Nat.not_lt_zero _)⟩ ?_ ?_⟩
        · rintro i σ H1 hi ⟨rfl, ⟨v2, rfl⟩, so⟩
          have hi1 : i < es.length := by omega
          have hi2 : i < ds.length := by omega
          have g1 : ds[i]? = some ds[i] := List.getElem?_eq_getElem hi2
          have g2 : es[i]? = some es[i] := List.getElem?_eq_getElem hi1
          obtain ⟨v, hv, dv⟩ := dpAll_get hax g1
          obtain ⟨u, hu, du⟩ := dpAll_get ha g2
          have okd' : ∃ m', okD m' ds[i] = true := by
            cases m with
            | zero => simp [okD] at okd
            | succ m => exact ⟨m, (okD_tup okd).2 _ (List.getElem_mem hi2)⟩
          obtain ⟨m', okd'⟩ := okd'
          refine ⟨_, rfl, _, rfl, a, _, _, _, rfl, rfl, hsx, at_of (j := i) (by omega) hv, _, rfl, _, rfl, b, _, _, _, rfl, rfl, hs, at_of (j := i) (by omega) hu, _, _, _, _, _, rfl, dv, du, okd', oke'.2 _ (List.getElem_mem hi1), _, rfl, ?_⟩
          cases hsd : sameD ds[i] es[i] with
          | true =>
            refine iteF ?_
            refine ⟨rfl, ⟨_, rfl⟩, fun j d e hj h1 h2 => ?_⟩
            by_cases hji : j = i
            · subst hji
              rw [g1] at h1
              rw [g2] at h2
              cases h1
              cases h2
              exact hsd
            · exact so j d e (by omega) h1 h2
          | false =>
            refine iteT ?_
            exact ret (by rw [sameD_tup]; exact sameAll_false g1 g2 hsd)
        · rintro σ H1 ⟨rfl, ⟨v2, rfl⟩, so⟩
          have z : sameD (.tuple ds) (.tuple es) = true := by
            rw [sameD_tup]
            refine sameAll_true hl fun j d e h1 h2 => so j d e ?_ h1 h2
            have := (List.getElem?_eq_some_iff.mp h2).1
            omega
          rw [z] at q
          exact q
      · refine ifT ?_ (ret (by rw [sameD_tup]; exact sameAll_len hl))
        have z : ¬ (V.int ((xs.length : Nat) : Int) = V.int ((ys.length : Nat) : Int)) := fun z => hl (by
          injection z with z
          omega)
        rw [decide_eq_false z]
        rfl
    · have hn : ∀ ds, d ≠ .tuple ds := fun ds h => ht ⟨ds, h⟩
      cases d with
      | tuple ds => exact absurd rfl (hn ds)
      | list ds => cases m <;> simp [okD] at okd
      | dict ds => cases m <;> simp [okD] at okd
      | _ =>
        refine ⟨_, rfl, _, _, _, _, false, rfl, .ty _, ty_of hd okd, (by first | exact kt_NoneType_tuple | exact kt_bool_tuple | exact kt_int_tuple | exact kt_str_tuple), _, rfl, iteT (iteT ?_)⟩
        exact ret (no hn)
  | none =>
    refine ⟨_, rfl, _, _, _, _, false, rfl, .ty _, ty_of he oke, kt_NoneType_tuple, _, rfl, iteF ?_⟩
    cases he
    refine ⟨_, rfl, rfl, _, rfl, ifT rfl ?_⟩
    refine ⟨_, rfl, rfl, ?_⟩
    have z : decide (x = V.non) = sameD d .none := by cases hd <;> simp [sameD]
    rw [z]
    exact q
  | bool b =>
    refine ⟨_, rfl, _, _, _, _, false, rfl, .ty _, ty_of he oke, kt_bool_tuple, _, rfl, iteF ?_⟩
    have he' := he
    cases he'
    refine ⟨_, rfl, rfl, _, rfl, ifF rfl ?_⟩
    refine ⟨_, rfl, _, _, _, _, true, rfl, .ty _, ty_of he oke, kt_bool_bool, _, rfl, iteT ?_⟩
    cases d with
    | list ds => cases m <;> simp [okD] at okd
    | dict ds => cases m <;> simp [okD] at okd
    | bool a =>
      refine ⟨_, rfl, _, _, _, _, true, rfl, .ty _, ty_of hd okd, kt_bool_bool, _, rfl, iteT ?_⟩
      cases hd
      refine ⟨_, rfl, _, rfl, rfl, ?_⟩
      rw [dec_bl]
      simp only [sameD] at q
      exact q
    | _ =>
      refine ⟨_, rfl, _, _, _, _, false, rfl, .ty _, ty_of hd okd, (by first | exact kt_NoneType_bool | exact kt_int_bool | exact kt_str_bool | exact kt_tuple_bool), _, rfl, iteF ?_⟩
      simp only [sameD] at q
      exact q
  | int b =>
    refine ⟨_, rfl, _, _, _, _, false, rfl, .ty _, ty_of he oke, kt_int_tuple, _, rfl, iteF ?_⟩
    have he' := he
    cases he'
    refine ⟨_, rfl, rfl, _, rfl, ifF rfl ?_⟩
    refine ⟨_, rfl, _, _, _, _, false, rfl, .ty _, ty_of he oke, kt_int_bool, _, rfl, iteF ?_⟩
    refine ⟨_, rfl, _, _, _, _, true, rfl, .ty _, ty_of he oke, kt_int_int, _, rfl, iteT ?_⟩
    cases d with
    | list ds => cases m <;> simp [okD] at okd
    | dict ds => cases m <;> simp [okD] at okd
    | int a =>
      refine ⟨_, rfl, _, _, _, _, true, rfl, .ty _, ty_of hd okd, kt_int_int, _, rfl, iteT ?_⟩
      refine ⟨_, rfl, _, _, _, _, false, rfl, .ty _, ty_of hd okd, kt_int_bool, _, rfl, _, rfl, iteT ?_⟩
      cases hd
      refine ⟨_, rfl, _, rfl, rfl, ?_⟩
      rw [dec_int]
      simp only [sameD] at q
      exact q
    | bool a =>
      refine ⟨_, rfl, _, _, _, _, true, rfl, .ty _, ty_of hd okd, kt_bool_int, _, rfl, iteT ?_⟩
      refine ⟨_, rfl, _, _, _, _, true, rfl, .ty _, ty_of hd okd, kt_bool_bool, _, rfl, _, rfl, iteF ?_⟩
      simp only [sameD] at q
      exact q
    | _ =>
      refine ⟨_, rfl, _, _, _, _, false, rfl, .ty _, ty_of hd okd, (by first | exact kt_NoneType_int | exact kt_str_int | exact kt_tuple_int), _, rfl, iteF ?_⟩
      simp only [sameD] at q
      exact q
  | str b =>
    refine ⟨_, rfl, _, _, _, _, false, rfl, .ty _, ty_of he oke, kt_str_tuple, _, rfl, iteF ?_⟩
    have he' := he
    cases he'
    refine ⟨_, rfl, rfl, _, rfl, ifF rfl ?_⟩
    refine ⟨_, rfl, _, _, _, _, false, rfl, .ty _, ty_of he oke, kt_str_bool, _, rfl, iteF ?_⟩
    refine ⟨_, rfl, _, _, _, _, false, rfl, .ty _, ty_of he oke, kt_str_int, _, rfl, iteF ?_⟩
    cases d with
    | list ds => cases m <;> simp [okD] at okd
    | dict ds => cases m <;> simp [okD] at okd
    | str a =>
      refine ⟨_, rfl, _, _, _, _, true, rfl, .ty _, ty_of hd okd, kt_str_str, _, rfl, iteT ?_⟩
      cases hd
      refine ⟨_, rfl, _, rfl, rfl, ?_⟩
      rw [dec_str]
      simp only [sameD] at q
      exact q
    | _ =>
      refine ⟨_, rfl, _, _, _, _, false, rfl, .ty _, ty_of hd okd, (by first | exact kt_NoneType_str | exact kt_bool_str | exact kt_int_str | exact kt_tuple_str), _, rfl, iteF ?_⟩
      simp only [sameD] at q
      exact q
theorem ok__law_same (T : Tx K mg w) : ∀ n : Nat, FnOk P w K mg base CX0 n T.d__law_same.f T.d__law_same.fd P__law_same (spSame K n)
  | 0 => by
    have no : ∀ vs H Q E, ¬ spSame K 0 vs H Q E := fun vs H Q E h => by
      obtain ⟨x, y, d, e, m, _, _, _, _, h2, _⟩ := h
      simp [okD] at h2
    exact ⟨fun vs H Q E h => absurd h (no vs H Q E), fun A outer s H args us vs Q E _ _ _ _ h => absurd h (no vs H Q E)⟩
  | n + 1 => same_step T (ok__law_same T n)
theorem same_refl : ∀ (n : Nat) (d : PyData), okD n d = true → sameD d d = true
  | 0, d, h => by simp [okD] at h
  | n + 1, d, h => by
    cases d with
    | none => simp [sameD]
    | bool b => simp [sameD]
    | int i => simp [sameD]
    | str s => simp [sameD]
    | list xs => simp [okD] at h
    | dict xs => simp [okD] at h
    | tuple xs =>
      rw [sameD_tup]
      refine sameAll_true rfl fun j d e h1 h2 => ?_
      rw [h1] at h2
      have e' := Option.some.inj h2
      subst e'
      exact same_refl n d ((okD_tup h).2 _ (List.mem_of_getElem? h1))
/-! ### characters -/
def isLetter (c : Nat) : Bool := decide ((97 ≤ c ∧ c ≤ 122) ∨ (65 ≤ c ∧ c ≤ 90))
def isDigit (c : Nat) : Bool := decide (48 ≤ c ∧ c ≤ 57)
def isName (c : Nat) : Bool := isLetter c || isDigit c || decide (c = 95)
abbrev sg (c : Nat) : Str := ⟨#[c]⟩
theorem lt_one (a b : Nat) : ([a] < [b]) ↔ a < b := by
  constructor
  · intro h
    cases h with
    | rel h => exact h
    | cons h => cases h
  · exact fun h => .rel h
theorem le_right {S : Str} {k c : Nat} (h : S = sg k) : (!decide ((sg c).cps.toList < S.cps.toList)) = decide (k ≤ c) := by
  subst h
  show (!decide ([c] < [k])) = _
  rw [Bool.eq_iff_iff]
  simp only [Bool.not_eq_true', decide_eq_false_iff_not, decide_eq_true_eq, lt_one]
  omega
theorem le_left {S : Str} {k c : Nat} (h : S = sg k) : (!decide (S.cps.toList < (sg c).cps.toList)) = decide (c ≤ k) := by
  subst h
  show (!decide ([k] < [c])) = _
  rw [Bool.eq_iff_iff]
  simp only [Bool.not_eq_true', decide_eq_false_iff_not, decide_eq_true_eq, lt_one]
  omega
theorem sg_inj {a b : Nat} (h : sg a = sg b) : a = b := by
  have e := congrArg Str.cps h
  simpa using e
theorem eq_sg {S : Str} {k c : Nat} (h : S = sg k) : decide (V.str (sg c) = V.str S) = decide (c = k) := by
  subst h
  rw [Bool.eq_iff_iff]
  simp only [decide_eq_true_eq]
  exact ⟨fun e => sg_inj (V.str.inj e), fun e => by rw [e]⟩
/-- a text of one sign, held against another one -/
theorem sg_if {S : Str} {k c : Nat} {A B : Prop} (h : S = sg k) (h1 : c = k → A) (h2 : c ≠ k → B) : if decide (V.str (sg c) = V.str S) = true then A else B := by
  rw [eq_sg h]
  exact ite2 (fun e => h1 (of_decide_eq_true e)) fun e => h2 fun z => e (decide_eq_true z)
theorem sg_ne {S : Str} {k c : Nat} {A B : Prop} (h : S = sg k) (h1 : c ≠ k → A) (h2 : c = k → B) : if (!decide (V.str (sg c) = V.str S)) = true then A else B := by
  rw [eq_sg h]
  by_cases e : c = k
  · rw [decide_eq_true e]
    exact iteF (h2 e)
  · rw [decide_eq_false e]
    exact iteT (h1 e)
theorem s_a : Str.ofString "a" = sg 97 := by decide +kernel
theorem s_z : Str.ofString "z" = sg 122 := by decide +kernel
theorem s_A : Str.ofString "A" = sg 65 := by decide +kernel
theorem s_Z : Str.ofString "Z" = sg 90 := by decide +kernel
theorem s_0 : Str.ofString "0" = sg 48 := by decide +kernel
theorem s_9 : Str.ofString "9" = sg 57 := by decide +kernel
theorem s_u : Str.ofString "_" = sg 95 := by decide +kernel
theorem s_n : Str.ofString "n" = sg 110 := by decide +kernel
theorem s_nl : Str.ofString "\n" = sg 10 := by decide +kernel
theorem s_sp : Str.ofString " " = sg 32 := by decide +kernel
theorem s_hash : Str.ofString "#" = sg 35 := by decide +kernel
theorem s_quo : Str.ofString "\"" = sg 34 := by decide +kernel
theorem s_bs : Str.ofString "\\" = sg 92 := by decide +kernel
def spOn (p : Nat → Bool) : Sp := fun vs H Q _ => ∃ c : Nat, vs = [.str (sg c)] ∧ Q (.bl (p c)) H
theorem ok_is_letter (T : Tx K mg w) : FnOk P w K mg base CX0 1 T.d_is_letter.f T.d_is_letter.fd P_is_letter (spOn isLetter) := by
  refine T.d_is_letter.F.ok sc_is_letter (fun vs H Q E h => ?_) (fun cdv A outer s H vs Q E hr h => ?_)
  · obtain ⟨c, rfl, _⟩ := h
    rfl
  obtain ⟨c, rfl, q⟩ := h
  refine ⟨_, (pss_one (ps_ret (pe_or (pe_chain op_le_str op_le_str pe_str (pv 0) pe_str) (pe_one (pe_chain op_le_str op_le_str pe_str (pv 0) pe_str))))), ?_⟩
  have yes : (97 ≤ c ∧ c ≤ 122) ∨ (65 ≤ c ∧ c ≤ 90) → Q (.bl true) H := fun h => by
    rw [show isLetter c = true from decide_eq_true h] at q
    exact q
  have no : ¬ ((97 ≤ c ∧ c ≤ 122) ∨ (65 ≤ c ∧ c ≤ 90)) → Q (.bl false) H := fun h => by
    rw [show isLetter c = false from decide_eq_false h] at q
    exact q
  have second : ¬ (97 ≤ c ∧ c ≤ 122) → ∃ v, [some (V.str (sg c))][0]? = some (some v) ∧ ∃ i j, V.str (Str.ofString "A") = .str i ∧ v = .str j ∧ ∃ k, V.bl (!decide (j.cps.toList < i.cps.toList)) = .bl k ∧ if k = true then ∃ i j, v = .str i ∧ V.str (Str.ofString "Z") = .str j ∧ Q (.bl (!decide (j.cps.toList < i.cps.toList))) H else Q (.bl false) H := fun h => by
    refine ⟨_, rfl, _, _, rfl, rfl, _, rfl, ?_⟩
    rw [le_right s_A]
    refine ite2 (fun e => ⟨_, _, rfl, rfl, ?_⟩) (fun e => no ?_)
    · rw [le_left s_Z]
      have e' : 65 ≤ c := of_decide_eq_true e
      by_cases g : c ≤ 90
      · rw [decide_eq_true g]
        exact yes (.inr ⟨e', g⟩)
      · rw [decide_eq_false g]
        exact no fun z => z.elim h fun z => g z.2
    · have e' : ¬ 65 ≤ c := fun z => e (decide_eq_true z)
      exact fun z => z.elim h fun z => e' z.1
  refine ⟨_, rfl, _, _, rfl, rfl, _, rfl, ?_⟩
  rw [le_right s_a]
  refine ite2 (fun e => ⟨_, _, rfl, rfl, _, rfl, ?_⟩) (fun e => ⟨_, rfl, iteF (second ?_)⟩)
  · rw [le_left s_z]
    have e' : 97 ≤ c := of_decide_eq_true e
    exact ite2 (fun g => yes (.inl ⟨e', of_decide_eq_true g⟩)) fun g => second fun z => g (decide_eq_true z.2)
  · exact fun z => e (decide_eq_true z.1)
theorem ok_is_digit (T : Tx K mg w) : FnOk P w K mg base CX0 1 T.d_is_digit.f T.d_is_digit.fd P_is_digit (spOn isDigit) := by
  refine T.d_is_digit.F.ok sc_is_digit (fun vs H Q E h => ?_) (fun cdv A outer s H vs Q E hr h => ?_)
  · obtain ⟨c, rfl, _⟩ := h
    rfl
  obtain ⟨c, rfl, q⟩ := h
  refine ⟨_, (pss_one (ps_ret (pe_chain op_le_str op_le_str pe_str (pv 0) pe_str))), ?_⟩
  refine ⟨_, rfl, _, _, rfl, rfl, _, rfl, ?_⟩
  rw [le_right s_0]
  refine ite2 (fun e => ⟨_, _, rfl, rfl, ?_⟩) (fun e => ?_)
  · have e' : 48 ≤ c := of_decide_eq_true e
    show Q (V.bl (!decide ((Str.ofString "9").cps.toList < (sg c).cps.toList))) H
    rw [le_left s_9, show decide (c ≤ 57) = isDigit c from decide_eq_decide.mpr ⟨fun z => ⟨e', z⟩, fun z => z.2⟩]
    exact q
  · rw [show isDigit c = false from decide_eq_false fun z => e (decide_eq_true z.1)] at q
    exact q
theorem ok_is_of_name (T : Tx K mg w) : FnOk P w K mg base CX0 2 T.d_is_of_name.f T.d_is_of_name.fd P_is_of_name (spOn isName) := by
  have G_is_letter := ok_is_letter (P := P) (w := w) (base := base) T
  have G_is_digit := ok_is_digit (P := P) (w := w) (base := base) T
  refine T.d_is_of_name.F.ok sc_is_of_name (fun vs H Q E h => ?_) (fun cdv A outer s H vs Q E hr h => ?_)
  · obtain ⟨c, rfl, _⟩ := h
    rfl
  obtain ⟨c, rfl, q⟩ := h
  refine ⟨_, (pss_one (ps_ret (pe_or (pe_call G_is_letter (hr.mono (by omega)) (by rfl) T.d_is_letter.m T.d_is_letter.F.kp T.d_is_letter.b .nil pass0 (pa_cons (pv 0) pa_nil)) (pe_or (pe_call G_is_digit (hr.mono (by omega)) (by rfl) T.d_is_digit.m T.d_is_digit.F.kp T.d_is_digit.b .nil pass0 (pa_cons (pv 0) pa_nil)) (pe_one (pe_cmpR op_eq (pv 0) pe_str (nomark _))))))), ?_⟩
  unfold isName at q
  refine ⟨_, rfl, c, rfl, _, rfl, ?_⟩
  cases e : isLetter c with
  | true =>
    rw [e] at q
    exact iteT q
  | false =>
    rw [e] at q
    refine iteF ⟨_, rfl, c, rfl, _, rfl, ?_⟩
    cases e2 : isDigit c with
    | true =>
      rw [e2] at q
      exact iteT q
    | false =>
      rw [e2] at q
      refine iteF ⟨_, rfl, rfl, ?_⟩
      show Q (V.bl (decide (V.str (sg c) = V.str (Str.ofString "_")))) H
      rw [eq_sg s_u]
      exact q
/-! ### data under change -/
/-- all tuples are as they were -/
def KeepX (H H' : Hp) : Prop := ∀ a xs, Rd H a (.tup xs) → Rd H' a (.tup xs)
theorem KeepX.refl (H : Hp) : KeepX H H := fun _ _ h => h
theorem KeepX.trans {H H1 H2 : Hp} (a : KeepX H H1) (b : KeepX H1 H2) : KeepX H H2 := fun c o h => b c o (a c o h)
theorem KeepX.same {H H' : Hp} (s : Same H H') : KeepX H H' := fun a xs h => by
  rcases h with h | ⟨o, h⟩
  · exact .inl (s _ _ h)
  · exact .inr ⟨o, s _ _ h⟩
theorem KeepX.upd {H : Hp} {p : Addr} {o u : HO} (h : H p = some u) (h1 : ∀ xs, u ≠ .tup xs) (h2 : ∀ b xs, u ≠ .frz b (.tup xs)) : KeepX H (upd H p o) := fun a xs g => by
  rcases g with g | ⟨b, g⟩
  · refine .inl ?_
    rw [upd_ne (fun e => by subst e; rw [h] at g; exact h1 xs (Option.some.inj g))]
    exact g
  · refine .inr ⟨b, ?_⟩
    rw [upd_ne (fun e => by subst e; rw [h] at g; exact h2 b xs (Option.some.inj g))]
    exact g
mutual
def noL : PyData → Bool
  | .list _ => false
  | .dict _ => false
  | .tuple xs => noLs xs
  | _ => true
def noLs : List PyData → Bool
  | [] => true
  | x :: xs => noL x && noLs xs
end
mutual
theorem dp_keepX {K : PySem.W.Frag} {H H' : Hp} (k : KeepX H H') : ∀ {v : V} {d : PyData}, noL d = true → Dp K H v d → Dp K H' v d
  | _, _, _, .non => .non
  | _, _, _, .bl b => .bl b
  | _, _, _, .int i => .int i
  | _, _, _, .str x => .str x
  | _, _, h, .lst _ _ => by simp [noL] at h
  | _, _, h, .tup g a => .tup (g.elim (fun g => .inl (k _ _ g)) .inr) (dp_keepXs k (by simpa [noL] using h) a)
theorem dp_keepXs {K : PySem.W.Frag} {H H' : Hp} (k : KeepX H H') : ∀ {vs : List V} {ds : List PyData}, noLs ds = true → DpAll K H vs ds → DpAll K H' vs ds
  | _, _, _, .nil => .nil
  | _, _, h, .cons a b => by
    simp only [noLs, Bool.and_eq_true] at h
    exact .cons (dp_keepX k h.1 a) (dp_keepXs k h.2 b)
end
theorem dpAll_length {K : PySem.W.Frag} {H : Hp} : ∀ {vs : List V} {ds : List PyData}, DpAll K H vs ds → vs.length = ds.length
  | _, _, .nil => rfl
  | _, _, .cons _ t => congrArg (· + 1) (dpAll_length t)
theorem noLs_append {a b : List PyData} (ha : noLs a = true) (hb : noLs b = true) : noLs (a ++ b) = true := by
  induction a with
  | nil => exact hb
  | cons x xs ih =>
    simp only [noLs, Bool.and_eq_true, List.cons_append] at ha ⊢
    exact ⟨ha.1, ih ha.2⟩
theorem dpAll_append {K : PySem.W.Frag} {H : Hp} : ∀ {vs ws : List V} {ds es : List PyData}, DpAll K H vs ds → DpAll K H ws es → DpAll K H (vs ++ ws) (ds ++ es)
  | _, _, _, _, .nil, b => b
  | _, _, _, _, .cons a t, b => .cons a (dpAll_append t b)
/-- the value that a scalar is -/
inductive Sc : V → PyData → Prop
  | bl (b : Bool) : Sc (.bl b) (.bool b)
  | int (i : Int) : Sc (.int i) (.int i)
  | str (x : Str) : Sc (.str x) (.str x)
theorem Sc.dp {K : PySem.W.Frag} {H : Hp} {v : V} {d : PyData} : Sc v d → Dp K H v d
  | .bl b => .bl b
  | .int i => .int i
  | .str x => .str x
theorem Sc.noL {v : V} {d : PyData} (h : Sc v d) : noL d = true := by cases h <;> simp [My.noL]
theorem two_le : 2 ≤ sizeLine := by decide
theorem three_le : 3 ≤ sizeLine := by decide
theorem four_le : 4 ≤ sizeLine := by decide
/-! ### the Cutter -/
theorem n_at_text : ¬ ("at" : Str) = "text" := by decide +kernel
theorem n_line_text : ¬ ("line" : Str) = "text" := by decide +kernel
theorem n_line_at : ¬ ("line" : Str) = "at" := by decide +kernel
theorem n_ls_text : ¬ ("line_start" : Str) = "text" := by decide +kernel
theorem n_ls_at : ¬ ("line_start" : Str) = "at" := by decide +kernel
theorem n_ls_line : ¬ ("line_start" : Str) = "line" := by decide +kernel
theorem n_row_text : ¬ ("row" : Str) = "text" := by decide +kernel
theorem n_row_at : ¬ ("row" : Str) = "at" := by decide +kernel
theorem n_row_line : ¬ ("row" : Str) = "line" := by decide +kernel
theorem n_row_ls : ¬ ("row" : Str) = "line_start" := by decide +kernel
def flds (z : Str) (a l s : Int) (r : Addr) : List (Str × V) := putF "row" (.ref r) (putF "line_start" (.int s) (putF "line" (.int l) (putF "at" (.int a) (putF "text" (.str z) []))))
theorem flds_eq (z : Str) (a l s : Int) (r : Addr) : flds z a l s r = ([("text", V.str z), ("at", V.int a), ("line", V.int l), ("line_start", V.int s), ("row", V.ref r)] : List (Str × V)) := by
  unfold flds
  simp only [putF, if_neg (fun e => n_at_text (Eq.symm e)), if_neg (fun e => n_line_text (Eq.symm e)), if_neg (fun e => n_line_at (Eq.symm e)), if_neg (fun e => n_ls_text (Eq.symm e)), if_neg (fun e => n_ls_at (Eq.symm e)), if_neg (fun e => n_ls_line (Eq.symm e)),
    if_neg (fun e => n_row_text (Eq.symm e)), if_neg (fun e => n_row_at (Eq.symm e)), if_neg (fun e => n_row_line (Eq.symm e)), if_neg (fun e => n_row_ls (Eq.symm e))]
theorem fl_row (z : Str) (a l s : Int) (r : Addr) : (flds z a l s r).lookup ("row" : Str) = some (.ref r) := by
  unfold flds
  rw [lookup_putF, if_pos rfl]
theorem fl_ls (z : Str) (a l s : Int) (r : Addr) : (flds z a l s r).lookup ("line_start" : Str) = some (.int s) := by
  unfold flds
  rw [lookup_putF, if_neg (fun e => n_row_ls (Eq.symm e)), lookup_putF, if_pos rfl]
theorem fl_line (z : Str) (a l s : Int) (r : Addr) : (flds z a l s r).lookup ("line" : Str) = some (.int l) := by
  unfold flds
  rw [lookup_putF, if_neg (fun e => n_row_line (Eq.symm e)), lookup_putF, if_neg (fun e => n_ls_line (Eq.symm e)), lookup_putF, if_pos rfl]
theorem fl_at (z : Str) (a l s : Int) (r : Addr) : (flds z a l s r).lookup ("at" : Str) = some (.int a) := by
  unfold flds
  rw [lookup_putF, if_neg (fun e => n_row_at (Eq.symm e)), lookup_putF, if_neg (fun e => n_ls_at (Eq.symm e)), lookup_putF, if_neg (fun e => n_line_at (Eq.symm e)), lookup_putF, if_pos rfl]
theorem fl_text (z : Str) (a l s : Int) (r : Addr) : (flds z a l s r).lookup ("text" : Str) = some (.str z) := by
  unfold flds
  rw [lookup_putF, if_neg (fun e => n_row_text (Eq.symm e)), lookup_putF, if_neg (fun e => n_ls_text (Eq.symm e)), lookup_putF, if_neg (fun e => n_line_text (Eq.symm e)), lookup_putF, if_neg (fun e => n_at_text (Eq.symm e)), lookup_putF, if_pos rfl]
theorem fl_no {z : Str} {a l s : Int} {r : Addr} {m : Str} (h1 : ¬ m = "row") (h2 : ¬ m = "line_start") (h3 : ¬ m = "line") (h4 : ¬ m = "at") (h5 : ¬ m = "text") : (flds z a l s r).lookup m = none := by
  unfold flds
  rw [lookup_putF, if_neg h1, lookup_putF, if_neg h2, lookup_putF, if_neg h3, lookup_putF, if_neg h4, lookup_putF, if_neg h5]
  all_goals rfl
theorem fl_len (z : Str) (a l s : Int) (r : Addr) : (flds z a l s r).length < 1000 := by
  rw [flds_eq]
  show 5 < 1000
  decide
theorem put_at (z : Str) (a l s b : Int) (r : Addr) : putF "at" (.int b) (flds z a l s r) = flds z b l s r := by
  rw [flds_eq, flds_eq]
  simp only [putF, if_neg (fun e => n_at_text (Eq.symm e)), if_pos]
theorem put_line (z : Str) (a l s b : Int) (r : Addr) : putF "line" (.int b) (flds z a l s r) = flds z a b s r := by
  rw [flds_eq, flds_eq]
  simp only [putF, if_neg (fun e => n_line_text (Eq.symm e)), if_neg (fun e => n_line_at (Eq.symm e)), if_pos]
theorem put_ls (z : Str) (a l s b : Int) (r : Addr) : putF "line_start" (.int b) (flds z a l s r) = flds z a l b r := by
  rw [flds_eq, flds_eq]
  simp only [putF, if_neg (fun e => n_ls_text (Eq.symm e)), if_neg (fun e => n_ls_at (Eq.symm e)), if_neg (fun e => n_ls_line (Eq.symm e)), if_pos]
/-- a Cutter stands at c: its text, where it is, its row at r -/
structure CutS (K : PySem.W.Frag) (C : Addr) (H : Hp) (c r : Addr) (z : Str) (i line ls : Int) (row : List PyData) : Prop where
  ob : ∃ dx, H c = some (.ins C dx (flds z i line ls r))
  rw : ∃ vs, H r = some (.lst vs) ∧ DpAll K H vs row
  nl : noLs row = true
def KeepC (c r : Addr) (H H' : Hp) : Prop := ∀ b o, H b = some o → b ≠ c → b ≠ r → H' b = some o
theorem KeepC.refl {c r : Addr} {H : Hp} : KeepC c r H H := fun _ _ h _ _ => h
theorem KeepC.trans {c r : Addr} {H H1 H2 : Hp} (a : KeepC c r H H1) (b : KeepC c r H1 H2) : KeepC c r H H2 := fun d o h n m => b d o (a d o h n m) n m
theorem KeepC.same {c r : Addr} {H H' : Hp} (s : Same H H') : KeepC c r H H' := fun b o h _ _ => s b o h
theorem KeepC.at_ {c r : Addr} {H : Hp} {o : HO} : KeepC c r H (upd H c o) := fun b u h n _ => by rw [upd_ne n]; exact h
theorem KeepC.row {c r : Addr} {H : Hp} {o : HO} : KeepC c r H (upd H r o) := fun b u h _ n => by rw [upd_ne n]; exact h
theorem CutS.ne {K : PySem.W.Frag} {C c r : Addr} {H : Hp} {z : Str} {i line ls : Int} {row : List PyData} (S : CutS K C H c r z i line ls row) : c ≠ r := by
  obtain ⟨⟨dx, h1⟩, ⟨vs, h2, _⟩, _⟩ := S
  exact ne_of h1 h2 (fun e => by cases e)
theorem CutS.same {K : PySem.W.Frag} {C c r : Addr} {H H' : Hp} {z : Str} {i line ls : Int} {row : List PyData} (S : CutS K C H c r z i line ls row) (s : Same H H') : CutS K C H' c r z i line ls row := by
  obtain ⟨⟨dx, h1⟩, ⟨vs, h2, h3⟩, h4⟩ := S
  exact ⟨⟨dx, s _ _ h1⟩, ⟨vs, s _ _ h2, dp_keepXs (KeepX.same s) h4 h3⟩, h4⟩
/-- the object is written anew -/
theorem CutS.put {K : PySem.W.Frag} {C c r dx : Addr} {H : Hp} {z : Str} {i line ls i' line' ls' : Int} {row : List PyData} (S : CutS K C H c r z i line ls row) : CutS K C (upd H c (.ins C dx (flds z i' line' ls' r))) c r z i' line' ls' row := by
  have hn := S.ne
  obtain ⟨⟨dx, h1⟩, ⟨vs, h2, h3⟩, h4⟩ := S
  exact ⟨⟨_, upd_same⟩, ⟨vs, by rw [upd_ne hn.symm]; exact h2, dp_keepXs (KeepX.upd h1 (fun _ e => nomatch e) (fun _ _ e => nomatch e)) h4 h3⟩, h4⟩
/-- another list is written -/
theorem CutS.updL {K : PySem.W.Frag} {C c r L : Addr} {H : Hp} {z : Str} {i line ls : Int} {row : List PyData} {xs : List V} {o : HO} (S : CutS K C H c r z i line ls row) (h : H L = some (.lst xs)) (n : L ≠ c) (m : L ≠ r) : CutS K C (upd H L o) c r z i line ls row := by
  obtain ⟨⟨dx, h1⟩, ⟨vs, h2, h3⟩, h4⟩ := S
  exact ⟨⟨dx, by rw [upd_ne n.symm]; exact h1⟩, ⟨vs, by rw [upd_ne m.symm]; exact h2, dp_keepXs (KeepX.upd h (fun _ e => nomatch e) (fun _ _ e => nomatch e)) h4 h3⟩, h4⟩
def tokD (kind : Str) (d : PyData) (line col : Int) : PyData := .tuple [.str kind, d, .int line, .int col]
def spInit (K : PySem.W.Frag) (C : Addr) : Sp := fun vs H Q _ => ∃ (c dx : Addr) (z : Str), vs = [.ref c, .str z] ∧ H c = some (.ins C dx []) ∧ ∀ (r : Addr) (H' : Hp), H r = none → CutS K C H' c r z 0 1 0 [] → (∀ b o, H b = some o → b ≠ c → H' b = some o) → Q .non H'
theorem ok_Cutter_init (T : Tx K mg w) : FnOk P w K mg base CX0 1 T.d_Cutter_init.f T.d_Cutter_init.fd P_Cutter_init (spInit K T.C_Cutter) := by
  refine T.d_Cutter_init.F.ok sc_Cutter_init (fun vs H Q E h => ?_) (fun cdv A outer s H vs Q E hr h => ?_)
  · obtain ⟨c, dx, z, rfl, _⟩ := h
    rfl
  obtain ⟨c, dx, z, rfl, hc, q⟩ := h
  refine ⟨_, (pss_cons (ps_fld (pv 0) (pv 1) rfl)
    (pss_cons (ps_fld (pv 0) pe_int rfl)
    (pss_cons (ps_fld (pv 0) pe_int rfl)
    (pss_cons (ps_fld (pv 0) pe_int rfl)
    (pss_one (ps_fld (pv 0) (pe_lst pa_nil) rfl)))))), ?_⟩
  refine ⟨_, rfl, _, rfl, c, _, dx, _, rfl, hc, T.cl_Cutter, T.na_text, (by show 0 < 1000; decide), ?_⟩
  refine ⟨_, rfl, c, _, dx, _, rfl, upd_same, T.cl_Cutter, T.na_at, (by show 1 < 1000; decide), ?_⟩
  refine ⟨_, rfl, c, _, dx, _, rfl, upd_same, T.cl_Cutter, T.na_line, ?_, ?_⟩
  · show (putF "at" (.int 0) (putF "text" (.str z) [])).length < 1000
    have h1 := length_putF "text" (.str z) ([] : List (Str × V))
    have h2 := length_putF "at" (.int 0) (putF "text" (.str z) [])
    simp only [List.length_nil] at h1
    omega
  refine ⟨_, rfl, c, _, dx, _, rfl, upd_same, T.cl_Cutter, T.na_line_start, ?_, ?_⟩
  · show (putF "line" (.int 1) (putF "at" (.int 0) (putF "text" (.str z) []))).length < 1000
    have h1 := length_putF "text" (.str z) ([] : List (Str × V))
    have h2 := length_putF "at" (.int 0) (putF "text" (.str z) [])
    have h3 := length_putF "line" (.int 1) (putF "at" (.int 0) (putF "text" (.str z) []))
    simp only [List.length_nil] at h1
    omega
  refine ⟨(by show 0 ≤ sizeLine; decide), fun r nr => ?_⟩
  have cr : c ≠ r := ne_of_none (upd_same) nr
  refine ⟨_, rfl, c, _, dx, _, rfl, (by rw [upd_ne cr]; exact upd_same), T.cl_Cutter, T.na_row, ?_, ?_⟩
  · show (putF "line_start" (.int 0) (putF "line" (.int 1) (putF "at" (.int 0) (putF "text" (.str z) [])))).length < 1000
    have h1 := length_putF "text" (.str z) ([] : List (Str × V))
    have h2 := length_putF "at" (.int 0) (putF "text" (.str z) [])
    have h3 := length_putF "line" (.int 1) (putF "at" (.int 0) (putF "text" (.str z) []))
    have h4 := length_putF "line_start" (.int 0) (putF "line" (.int 1) (putF "at" (.int 0) (putF "text" (.str z) [])))
    simp only [List.length_nil] at h1
    omega
  have nr0 : H r = none := by
    rw [upd_ne cr.symm, upd_ne cr.symm, upd_ne cr.symm, upd_ne cr.symm] at nr
    exact nr
  refine q r _ nr0 ⟨⟨dx, upd_same⟩, ⟨[], by rw [upd_ne cr.symm]; exact upd_same, .nil⟩, rfl⟩ fun b o h n => ?_
  rw [upd_ne n, upd_ne (ne_of_none h nr0), upd_ne n, upd_ne n, upd_ne n, upd_ne n]
  exact h
def spCol (K : PySem.W.Frag) (C : Addr) : Sp := fun vs H Q _ => ∃ (c r : Addr) (z : Str) (i line ls a : Int) (row : List PyData), vs = [.ref c, .int a] ∧ CutS K C H c r z i line ls row ∧ Q (.int (a - ls + 1)) H
theorem ok_Cutter_column_of (T : Tx K mg w) : FnOk P w K mg base CX0 1 T.d_Cutter_column_of.f T.d_Cutter_column_of.fd P_Cutter_column_of (spCol K T.C_Cutter) := by
  refine T.d_Cutter_column_of.F.ok sc_Cutter_column_of (fun vs H Q E h => ?_) (fun cdv A outer s H vs Q E hr h => ?_)
  · obtain ⟨c, r, z, i, line, ls, a, row, rfl, _⟩ := h
    rfl
  obtain ⟨c, r, z, i, line, ls, a, row, rfl, ⟨⟨dx, hc⟩, _, _⟩, q⟩ := h
  refine ⟨_, (pss_one (ps_ret (pe_op op_add (pe_op op_sub (pv 1) (pe_fld (pv 0) rfl)) pe_int))), ?_⟩
  exact ⟨_, rfl, _, rfl, c, _, dx, _, _, rfl, hc, T.cl_Cutter, T.na_line_start, fl_ls _ _ _ _ _, _, _, rfl, rfl, _, _, rfl, rfl, q⟩
def spPut (K : PySem.W.Frag) (C : Addr) : Sp := fun vs H Q _ => ∃ (c r : Addr) (z kind : Str) (v : V) (d : PyData) (i line ls e : Int) (row : List PyData), vs = [.ref c, .str kind, v, .int e] ∧ Sc v d ∧ row.length ≤ 10000 ∧ CutS K C H c r z i line ls row ∧
  ∀ H', CutS K C H' c r z e line ls (row ++ [tokD kind d line (i - ls + 1)]) → KeepC c r H H' → Q .non H'
theorem ok_Cutter_put (T : Tx K mg w) : FnOk P w K mg base CX0 2 T.d_Cutter_put.f T.d_Cutter_put.fd P_Cutter_put (spPut K T.C_Cutter) := by
  have G_Cutter_column_of := ok_Cutter_column_of (P := P) (w := w) (base := base) T
  refine T.d_Cutter_put.F.ok sc_Cutter_put (fun vs H Q E h => ?_) (fun cdv A outer s H vs Q E hr h => ?_)
  · obtain ⟨c, r, z, kind, v, d, i, line, ls, e, row, rfl, _⟩ := h
    rfl
  obtain ⟨c, r, z, kind, v, d, i, line, ls, e, row, rfl, hv, hl, S, q⟩ := h
  refine ⟨_, (pss_cons (ps_expr (pe_bm PySem.F.plainAttrs_list PySem.F.slot_list_append PySem.F.type_list_append mt_append (pe_fld (pv 0) rfl) (pa_cons (pe_tup (pa_cons (pv 1) (pa_cons (pv 2) (pa_cons (pe_fld (pv 0) rfl) (pa_cons (pe_meth (pv 0) T.cl_Cutter T.d_Cutter_column_of.mt G_Cutter_column_of (hr.mono (by omega)) T.d_Cutter_column_of.b .nil pass0 (pa_cons (pe_fld (pv 0) rfl) pa_nil)) pa_nil))))) pa_nil)))
    (pss_one (ps_fld (pv 0) (pv 3) rfl))), ?_⟩
  obtain ⟨⟨dx, hc⟩, ⟨vs, hrw, hd⟩, hn⟩ := id S
  have nlk : (flds z i line ls r).lookup ("column_of" : Str) = none := fl_no (by decide +kernel) (by decide +kernel) (by decide +kernel) (by decide +kernel) (by decide +kernel)
  have hlen := dpAll_length hd
  refine ⟨_, rfl, c, _, dx, _, _, rfl, hc, T.cl_Cutter, T.na_row, fl_row _ _ _ _ _, .inl ⟨rfl, _, SqL.of hrw⟩, _, rfl, _, rfl, _, rfl, c, _, dx, _, _, rfl, hc, T.cl_Cutter, T.na_line, fl_line _ _ _ _ _, _, rfl, c, dx, _, rfl, hc, nlk,
    _, rfl, c, _, dx, _, _, rfl, hc, T.cl_Cutter, T.na_at, fl_at _ _ _ _ _, c, r, z, i, line, ls, i, row, rfl, S, four_le, fun t nt => ?_⟩
  have s1 := same_new nt (.tup [.str kind, v, .int line, .int (i - ls + 1)])
  have S1 := S.same s1
  obtain ⟨⟨dx1, hc1⟩, ⟨vs1, hrw1, hd1⟩, _⟩ := id S1
  have hlen1 := dpAll_length hd1
  have cr := S.ne
  refine ⟨r, _, _, rfl, rfl, hrw1, lines (by omega), ?_⟩
  refine ⟨_, rfl, _, rfl, c, _, dx1, _, rfl, (by rw [upd_ne cr]; exact hc1), T.cl_Cutter, T.na_at, fl_len _ _ _ _ _, ?_⟩
  have tr : t ≠ r := (ne_of_none hrw nt).symm
  have tc : t ≠ c := (ne_of_none hc nt).symm
  rw [put_at]
  refine q _ ⟨⟨dx1, upd_same⟩, ⟨_, by rw [upd_ne cr.symm]; exact upd_same, ?_⟩, noLs_append hn (by simp [noLs, tokD, noL, hv.noL])⟩ ?_
  · have k1 : KeepX _ _ := KeepX.upd (o := .lst (vs1 ++ [.ref t])) hrw1 (fun _ e => nomatch e) (fun _ _ e => nomatch e)
    have k2 := KeepX.upd (H := upd (upd H t (.tup [.str kind, v, .int line, .int (i - ls + 1)])) r (.lst (vs1 ++ [.ref t]))) (p := c) (o := .ins T.C_Cutter dx1 (flds z e line ls r)) (u := .ins T.C_Cutter dx1 (flds z i line ls r)) (by rw [upd_ne cr]; exact hc1) (fun _ e => nomatch e) (fun _ _ e => nomatch e)
    refine dpAll_append (dp_keepXs (k1.trans k2) hn hd1) (.cons ?_ .nil)
    refine .tup (.inl (k2 _ _ (k1 _ _ (.inl upd_same)))) (.cons (.str kind) (.cons hv.dp (.cons (.int line) (.cons (.int _) .nil))))
  · intro b o h n m
    rw [upd_ne n, upd_ne m]
    exact s1 _ _ h
/-! ### places in a text -/
abbrev cp (z : Str) : List Nat := z.cps.toList
theorem len_cp (z : Str) : (cp z).length = z.length := by simp [Str.length]
theorem drop_len {cs a b : List Nat} {i : Nat} (hi : i ≤ cs.length) (h : cs.drop i = a ++ b) : cs.length = i + a.length + b.length := by
  have e := congrArg List.length h
  rw [List.length_drop, List.length_append] at e
  omega
theorem drop_app {cs a b : List Nat} {i : Nat} (h : cs.drop i = a ++ b) : cs.drop (i + a.length) = b := by
  rw [← List.drop_drop, h, List.drop_left]
theorem drop_get {cs a b : List Nat} {i k : Nat} (h : cs.drop i = a ++ b) (hk : k < a.length) : cs[i + k]? = a[k]? := by
  have e : (cs.drop i)[k]? = cs[i + k]? := List.getElem?_drop
  rw [← e, h, List.getElem?_append_left hk]
theorem drop_head {cs b : List Nat} {c : Nat} {i : Nat} (h : cs.drop i = c :: b) : cs[i]? = some c ∧ i < cs.length := by
  have e : (cs.drop i)[0]? = cs[i + 0]? := List.getElem?_drop
  rw [h] at e
  have e' : cs[i]? = some c := e.symm
  exact ⟨e', (List.getElem?_eq_some_iff.mp e').1⟩
theorem at_char {cs : List Nat} {z : Int} {j c : Nat} (e : z = (j : Int)) (h : cs[j]? = some c) : atI cs z = some c := by
  rw [e]
  exact atI_nat h
theorem cut_word {z : Str} {a b : List Nat} {i : Nat} (hi : i ≤ z.length) (h : (cp z).drop i = a ++ b) : cutS z (some (i : Int)) (some (((i + a.length : Nat)) : Int)) = ⟨a.toArray⟩ := by
  have hl := drop_len (by rw [len_cp]; exact hi) h
  rw [len_cp] at hl
  unfold cutS
  rw [HT.sIx_nat, HT.sIx_nat, Nat.min_eq_left hi, Nat.min_eq_left (by omega), Nat.add_sub_cancel_left]
  have e : (z.cps.toList.drop i).take a.length = a := by
    rw [show z.cps.toList.drop i = a ++ b from h, List.take_left]
  rw [e]
theorem in_strs (n : Str) : ∀ fs : List Str, inV (.str n) (fs.map V.str) = decide (n ∈ fs)
  | [] => by simp [inV]
  | f :: fs => by
    have ih := in_strs n fs
    simp only [inV, List.map_cons, List.any_cons, eqV] at ih ⊢
    rw [ih, Bool.eq_iff_iff]
    simp only [Bool.or_eq_true, beq_iff_eq, decide_eq_true_eq, List.mem_cons]
    exact ⟨fun h => h.elim (fun e => .inl e.symm) .inr, fun h => h.elim (fun e => .inl e.symm) .inr⟩
theorem flats (fs : List Str) : (fs.map V.str).all flatV = true := by
  rw [List.all_eq_true]
  intro x hx
  obtain ⟨f, _, rfl⟩ := List.mem_map.mp hx
  rfl
/-- the text stops being of p -/
def Stops (p : Nat → Bool) (tail : List Nat) : Prop := ∀ d t, tail = d :: t → p d = false
theorem nk {z : Str} {a l s : Int} {r : Addr} : (flds z a l s r).lookup ("put" : Str) = none := fl_no (by decide +kernel) (by decide +kernel) (by decide +kernel) (by decide +kernel) (by decide +kernel)
def kwD (word : List Nat) : Str := if (⟨word.toArray⟩ : Str) ∈ L_KEYWORDS then "word" else "name"
def spCutName (K : PySem.W.Frag) (C : Addr) : Sp := fun vs H Q _ => ∃ (c r : Addr) (z : Str) (i : Nat) (line ls : Int) (row : List PyData) (word tail : List Nat), vs = [.ref c] ∧ CutS K C H c r z i line ls row ∧ i ≤ z.length ∧ z.length ≤ 8000 ∧ row.length ≤ 10000 ∧
  (cp z).drop i = word ++ tail ∧ (∀ d ∈ word, isName d = true) ∧ Stops isName tail ∧ word.length ≤ 20 ∧
  ∀ H', CutS K C H' c r z ((i + word.length : Nat) : Int) line ls (row ++ [tokD (kwD word) (.str ⟨word.toArray⟩) line (i - ls + 1)]) → KeepC c r H H' → Q .non H'
theorem ok_cut_name (T : Tx K mg w) : FnOk P w K mg base CX0 3 T.d_cut_name.f T.d_cut_name.fd P_cut_name (spCutName K T.C_Cutter) := by
  have G_is_of_name := ok_is_of_name (P := P) (w := w) (base := base) T
  have G_Cutter_put := ok_Cutter_put (P := P) (w := w) (base := base) T
  refine T.d_cut_name.F.ok sc_cut_name (fun vs H Q E h => ?_) (fun cdv A outer s H vs Q E hr h => ?_)
  · obtain ⟨c, r, z, i, line, ls, row, word, tail, rfl, _⟩ := h
    rfl
  obtain ⟨c, r, z, i, line, ls, row, word, tail, rfl, S, hi, hz, hrow, hd, hw, hst, h20, q⟩ := h
  refine ⟨_, (pss_cons (ps_set (i := 1) sc_cut_name.nd rfl (Or.inl rfl) (pe_fld (pv 0) rfl))
    (pss_cons (ps_set (i := 2) sc_cut_name.nd rfl (Or.inl rfl) (pe_fld (pv 0) rfl))
    (pss_cons (ps_while PassesOwn.never (PW.pt (pw_and (pt_cmpR op_lt (pv 2) (pe_callB call_len_str (by rfl) T.z_len PySem.boot_len (pa_cons (pv 1) pa_nil)) (nomark _)) (pw_and1 (pt_val (pe_call G_is_of_name (hr.mono (by omega)) (by rfl) T.d_is_of_name.m T.d_is_of_name.F.kp T.d_is_of_name.b .nil pass0 (pa_cons (pe_ix ix_str (pv 1) (pv 2) (fun _ _ => rfl)) pa_nil))))))
      (pss_one (ps_aug (i := 2) sc_cut_name.nd rfl (Or.inl rfl) pe_int ip_add)))
    (pss_cons (ps_set (i := 3) sc_cut_name.nd rfl (Or.inl rfl) (pe_slice sl_str (pv 1) (po_some (pe_fld (pv 0) rfl)) (po_some (pv 2))))
    (pss_cons (ps_if (pt_cmpR op_gt (pe_callB call_len_str (by rfl) T.z_len PySem.boot_len (pa_cons (pv 3) pa_nil)) (pe_glob (v := V.int (20)) (by rfl) T.c_NAME_CHARACTERS ⟨_, rfl⟩) (nomark _))
      (pss_one ps_never)
      pss_nil)
    (pss_one (ps_expr (pe_meth (pv 0) T.cl_Cutter T.d_Cutter_put.mt G_Cutter_put (hr.mono (by omega)) T.d_Cutter_put.b .nil pass0 (pa_cons (pe_ifExp (pt_cmpR op_in_seq (pv 3) (pe_glob (v := V.ref T.a_KEYWORDS) (by rfl) T.c_KEYWORDS rfl) (by rfl)) pe_str pe_str) (pa_cons (pv 3) (pa_cons (pv 2) pa_nil))))))))))), ?_⟩
  obtain ⟨⟨dx, hc⟩, _, _⟩ := id S
  have big : 8000 ≤ sizeLine := by decide
  have hlen := drop_len (by rw [len_cp]; exact hi) hd
  rw [len_cp] at hlen
  refine ⟨_, rfl, c, _, dx, _, _, rfl, hc, T.cl_Cutter, T.na_text, fl_text _ _ _ _ _, ?_⟩
  refine ⟨_, rfl, c, _, dx, _, _, rfl, hc, T.cl_Cutter, T.na_at, fl_at _ _ _ _ _, ?_⟩
  have test : ∀ (k : Nat), k ≤ word.length → (k < word.length ∧ ∃ d, (cp z)[i + k]? = some d ∧ isName d = true ∧ i + k < z.length) ∨ (k = word.length ∧ ((tail = [] ∧ ¬ i + k < z.length) ∨ ∃ d t, tail = d :: t ∧ (cp z)[i + k]? = some d ∧ isName d = false ∧ i + k < z.length)) := fun k hk => by
    by_cases h : k < word.length
    · have g : word[k]? = some word[k] := List.getElem?_eq_getElem h
      exact .inl ⟨h, word[k], by rw [drop_get hd h]; exact g, hw _ (List.getElem_mem h), by omega⟩
    · have e : k = word.length := by omega
      subst e
      cases tail with
      | nil => exact .inr ⟨rfl, .inl ⟨rfl, by simp only [List.length_nil] at hlen; omega⟩⟩
      | cons d t => exact .inr ⟨rfl, .inr ⟨d, t, rfl, (drop_head (drop_app hd)).1, hst d t rfl, by simp only [List.length_cons] at hlen; omega⟩⟩
  refine ⟨fun m σ H1 => ∃ k : Nat, σ = [some (.ref c), some (.str z), some (.int ((i + k : Nat) : Int)), none] ∧ H1 = H ∧ k ≤ word.length ∧ m = word.length - k, ⟨_, 0, rfl, rfl, Nat.zero_le _, rfl⟩, ?_⟩
  rintro m σ H1 ⟨k, rfl, rfl, hk, rfl⟩
  rcases test k hk with ⟨h, d, hd1, hp, hlt⟩ | ⟨rfl, hcase⟩
  · refine ⟨_, rfl, _, rfl, _, rfl, by omega, _, _, rfl, rfl, _, rfl, ifT (decide_eq_true (by omega)) ?_⟩
    refine ⟨_, rfl, _, rfl, z, _, d, rfl, rfl, by omega, at_char rfl hd1, d, rfl, _, rfl, ifT hp ?_⟩
    refine ⟨_, fun _ _ h => h, ?_⟩
    refine ⟨_, rfl, _, _, rfl, rfl, ?_⟩
    exact ⟨word.length - (k + 1), by omega, k + 1, rfl, rfl, h, rfl⟩
  · rcases hcase with ⟨_, hlt⟩ | ⟨d, t, _, hd1, hp, hlt⟩
    · refine ⟨_, rfl, _, rfl, _, rfl, by omega, _, _, rfl, rfl, _, rfl, ifF (decide_eq_false (by omega)) (iteF ?_)⟩
      refine ⟨_, rfl, _, rfl, c, _, dx, _, _, rfl, hc, T.cl_Cutter, T.na_at, fl_at _ _ _ _ _, _, rfl, _, rfl, _, rfl, z, rfl, by omega, ?_⟩
      rw [cut_word hi hd]
      have wl : (⟨word.toArray⟩ : Str).length = word.length := by
        show word.toArray.size = _
        rw [List.size_toArray]
      refine ⟨_, rfl, _, rfl, by omega, _, _, rfl, rfl, _, rfl, ifF (decide_eq_false (by omega)) ?_⟩
      refine ⟨_, rfl, c, dx, _, rfl, hc, nk, _, rfl, _, _, rfl, .inr (.inr T.q_KEYWORDS), rfl, flats _, _, rfl, ?_⟩
      change if inV (.str ⟨word.toArray⟩) (L_KEYWORDS.map V.str) = true then _ else _
      rw [in_strs]
      refine ite2 (fun e => ?_) (fun e => ?_)
      · have kd : kwD word = "word" := if_pos (of_decide_eq_true e)
        rw [kd] at q
        exact ⟨_, rfl, _, rfl, c, r, z, _, _, _, _, _, _, _, row, rfl, .str _, hrow, S, q⟩
      · have kd : kwD word = "name" := if_neg (fun z => e (decide_eq_true z))
        rw [kd] at q
        exact ⟨_, rfl, _, rfl, c, r, z, _, _, _, _, _, _, _, row, rfl, .str _, hrow, S, q⟩
    · refine ⟨_, rfl, _, rfl, _, rfl, by omega, _, _, rfl, rfl, _, rfl, ifT (decide_eq_true (by omega)) ?_⟩
      refine ⟨_, rfl, _, rfl, z, _, d, rfl, rfl, by omega, at_char rfl hd1, d, rfl, _, rfl, ifF hp ?_⟩
      refine ⟨_, rfl, _, rfl, c, _, dx, _, _, rfl, hc, T.cl_Cutter, T.na_at, fl_at _ _ _ _ _, _, rfl, _, rfl, _, rfl, z, rfl, by omega, ?_⟩
      rw [cut_word hi hd]
      have wl : (⟨word.toArray⟩ : Str).length = word.length := by
        show word.toArray.size = _
        rw [List.size_toArray]
      refine ⟨_, rfl, _, rfl, by omega, _, _, rfl, rfl, _, rfl, ifF (decide_eq_false (by omega)) ?_⟩
      refine ⟨_, rfl, c, dx, _, rfl, hc, nk, _, rfl, _, _, rfl, .inr (.inr T.q_KEYWORDS), rfl, flats _, _, rfl, ?_⟩
      change if inV (.str ⟨word.toArray⟩) (L_KEYWORDS.map V.str) = true then _ else _
      rw [in_strs]
      refine ite2 (fun e => ?_) (fun e => ?_)
      · have kd : kwD word = "word" := if_pos (of_decide_eq_true e)
        rw [kd] at q
        exact ⟨_, rfl, _, rfl, c, r, z, _, _, _, _, _, _, _, row, rfl, .str _, hrow, S, q⟩
      · have kd : kwD word = "name" := if_neg (fun z => e (decide_eq_true z))
        rw [kd] at q
        exact ⟨_, rfl, _, rfl, c, r, z, _, _, _, _, _, _, _, row, rfl, .str _, hrow, S, q⟩
def spCutNumber (K : PySem.W.Frag) (C : Addr) : Sp := fun vs H Q _ => ∃ (c r : Addr) (z : Str) (i : Nat) (line ls : Int) (row : List PyData) (word tail : List Nat) (n : Int), vs = [.ref c] ∧ CutS K C H c r z i line ls row ∧ i ≤ z.length ∧ z.length ≤ 8000 ∧ row.length ≤ 10000 ∧
  (cp z).drop i = word ++ tail ∧ (∀ d ∈ word, isDigit d = true) ∧ Stops isName tail ∧ word.length ≤ 60 ∧ PySem.intText? ⟨word.toArray⟩ = some n ∧
  ∀ H', CutS K C H' c r z ((i + word.length : Nat) : Int) line ls (row ++ [tokD "number" (.int n) line (i - ls + 1)]) → KeepC c r H H' → Q .non H'
theorem ok_cut_number (T : Tx K mg w) : FnOk P w K mg base CX0 3 T.d_cut_number.f T.d_cut_number.fd P_cut_number (spCutNumber K T.C_Cutter) := by
  have G_is_of_name := ok_is_of_name (P := P) (w := w) (base := base) T
  have G_is_digit := ok_is_digit (P := P) (w := w) (base := base) T
  have G_Cutter_put := ok_Cutter_put (P := P) (w := w) (base := base) T
  refine T.d_cut_number.F.ok sc_cut_number (fun vs H Q E h => ?_) (fun cdv A outer s H vs Q E hr h => ?_)
  · obtain ⟨c, r, z, i, line, ls, row, word, tail, n, rfl, _⟩ := h
    rfl
  obtain ⟨c, r, z, i, line, ls, row, word, tail, n, rfl, S, hi, hz, hrow, hd, hw, hst', h60, hn, q⟩ := h
  refine ⟨_, (pss_cons (ps_set (i := 1) sc_cut_number.nd rfl (Or.inl rfl) (pe_fld (pv 0) rfl))
    (pss_cons (ps_set (i := 2) sc_cut_number.nd rfl (Or.inl rfl) (pe_fld (pv 0) rfl))
    (pss_cons (ps_while PassesOwn.never (PW.pt (pw_and (pt_cmpR op_lt (pv 2) (pe_callB call_len_str (by rfl) T.z_len PySem.boot_len (pa_cons (pv 1) pa_nil)) (nomark _)) (pw_and1 (pt_val (pe_call G_is_digit (hr.mono (by omega)) (by rfl) T.d_is_digit.m T.d_is_digit.F.kp T.d_is_digit.b .nil pass0 (pa_cons (pe_ix ix_str (pv 1) (pv 2) (fun _ _ => rfl)) pa_nil))))))
      (pss_one (ps_aug (i := 2) sc_cut_number.nd rfl (Or.inl rfl) pe_int ip_add)))
    (pss_cons (ps_if (pt_cmpR op_gt (pe_op op_sub (pv 2) (pe_fld (pv 0) rfl)) (pe_glob (v := V.int (60)) (by rfl) T.c_NUMBER_DIGITS ⟨_, rfl⟩) (nomark _))
      (pss_one ps_never)
      pss_nil)
    (pss_cons (ps_if (PW.pt (pw_and (pt_cmpR op_lt (pv 2) (pe_callB call_len_str (by rfl) T.z_len PySem.boot_len (pa_cons (pv 1) pa_nil)) (nomark _)) (pw_and1 (pt_val (pe_call G_is_of_name (hr.mono (by omega)) (by rfl) T.d_is_of_name.m T.d_is_of_name.F.kp T.d_is_of_name.b .nil pass0 (pa_cons (pe_ix ix_str (pv 1) (pv 2) (fun _ _ => rfl)) pa_nil))))))
      (pss_one ps_never)
      pss_nil)
    (pss_one (ps_expr (pe_meth (pv 0) T.cl_Cutter T.d_Cutter_put.mt G_Cutter_put (hr.mono (by omega)) T.d_Cutter_put.b .nil pass0 (pa_cons pe_str (pa_cons (pe_callTy call_int_str (by rfl) T.z_int (by decide +kernel) (pa_cons (pe_slice sl_str (pv 1) (po_some (pe_fld (pv 0) rfl)) (po_some (pv 2))) pa_nil)) (pa_cons (pv 2) pa_nil))))))))))), ?_⟩
  obtain ⟨⟨dx, hc⟩, _, _⟩ := id S
  have big : 8000 ≤ sizeLine := by decide
  have hlen := drop_len (by rw [len_cp]; exact hi) hd
  rw [len_cp] at hlen
  have hst : Stops isDigit tail := fun d t e => by
    have h := hst' d t e
    unfold isName at h
    cases g : isDigit d with
    | false => rfl
    | true =>
      rw [g, Bool.or_true, Bool.true_or] at h
      cases h
  refine ⟨_, rfl, c, _, dx, _, _, rfl, hc, T.cl_Cutter, T.na_text, fl_text _ _ _ _ _, ?_⟩
  refine ⟨_, rfl, c, _, dx, _, _, rfl, hc, T.cl_Cutter, T.na_at, fl_at _ _ _ _ _, ?_⟩
  have test : ∀ (k : Nat), k ≤ word.length → (k < word.length ∧ ∃ d, (cp z)[i + k]? = some d ∧ isDigit d = true ∧ i + k < z.length) ∨ (k = word.length ∧ ((tail = [] ∧ ¬ i + k < z.length) ∨ ∃ d t, tail = d :: t ∧ (cp z)[i + k]? = some d ∧ isDigit d = false ∧ i + k < z.length)) := fun k hk => by
    by_cases h : k < word.length
    · have g : word[k]? = some word[k] := List.getElem?_eq_getElem h
      exact .inl ⟨h, word[k], by rw [drop_get hd h]; exact g, hw _ (List.getElem_mem h), by omega⟩
    · have e : k = word.length := by omega
      subst e
      cases tail with
      | nil => exact .inr ⟨rfl, .inl ⟨rfl, by simp only [List.length_nil] at hlen; omega⟩⟩
      | cons d t => exact .inr ⟨rfl, .inr ⟨d, t, rfl, (drop_head (drop_app hd)).1, hst d t rfl, by simp only [List.length_cons] at hlen; omega⟩⟩
  refine ⟨fun m σ H1 => ∃ k : Nat, σ = [some (.ref c), some (.str z), some (.int ((i + k : Nat) : Int))] ∧ H1 = H ∧ k ≤ word.length ∧ m = word.length - k, ⟨_, 0, rfl, rfl, Nat.zero_le _, rfl⟩, ?_⟩
  rintro m σ H1 ⟨k, rfl, rfl, hk, rfl⟩
  rcases test k hk with ⟨h, d, hd1, hp, hlt⟩ | ⟨rfl, hcase⟩
  · refine ⟨_, rfl, _, rfl, _, rfl, by omega, _, _, rfl, rfl, _, rfl, ifT (decide_eq_true (by omega)) ?_⟩
    refine ⟨_, rfl, _, rfl, z, _, d, rfl, rfl, by omega, at_char rfl hd1, d, rfl, _, rfl, ifT hp ?_⟩
    refine ⟨_, fun _ _ h => h, ?_⟩
    refine ⟨_, rfl, _, _, rfl, rfl, ?_⟩
    exact ⟨word.length - (k + 1), by omega, k + 1, rfl, rfl, h, rfl⟩
  · rcases hcase with ⟨_, hlt⟩ | ⟨d, t, ht, hd1, hp, hlt⟩
    · refine ⟨_, rfl, _, rfl, _, rfl, by omega, _, _, rfl, rfl, _, rfl, ifF (decide_eq_false (by omega)) (iteF ?_)⟩
      refine ⟨_, rfl, _, rfl, c, _, dx, _, _, rfl, hc, T.cl_Cutter, T.na_at, fl_at _ _ _ _ _, _, _, rfl, rfl, _, _, rfl, rfl, _, rfl, ifF (decide_eq_false (by omega)) ?_⟩
      refine ⟨_, rfl, _, rfl, _, rfl, by omega, _, _, rfl, rfl, _, rfl, ifF (decide_eq_false (by omega)) (iteF ?_)⟩
      refine ⟨_, rfl, c, dx, _, rfl, hc, nk, _, rfl, _, rfl, c, _, dx, _, _, rfl, hc, T.cl_Cutter, T.na_at, fl_at _ _ _ _ _, _, rfl, _, rfl, _, rfl, z, rfl, by omega, ?_⟩
      rw [cut_word hi hd]
      have wl : (⟨word.toArray⟩ : Str).length = word.length := by
        show word.toArray.size = _
        rw [List.size_toArray]
      exact ⟨_, n, rfl, hn, by omega, _, rfl, c, r, z, _, _, _, _, _, _, _, row, rfl, .int n, hrow, S, q⟩
    · refine ⟨_, rfl, _, rfl, _, rfl, by omega, _, _, rfl, rfl, _, rfl, ifT (decide_eq_true (by omega)) ?_⟩
      refine ⟨_, rfl, _, rfl, z, _, d, rfl, rfl, by omega, at_char rfl hd1, d, rfl, _, rfl, ifF hp ?_⟩
      refine ⟨_, rfl, _, rfl, c, _, dx, _, _, rfl, hc, T.cl_Cutter, T.na_at, fl_at _ _ _ _ _, _, _, rfl, rfl, _, _, rfl, rfl, _, rfl, ifF (decide_eq_false (by omega)) ?_⟩
      refine ⟨_, rfl, _, rfl, _, rfl, by omega, _, _, rfl, rfl, _, rfl, ifT (decide_eq_true (by omega)) ?_⟩
      refine ⟨_, rfl, _, rfl, z, _, d, rfl, rfl, by omega, at_char rfl hd1, d, rfl, _, rfl, ifF (hst' d t ht) ?_⟩
      refine ⟨_, rfl, c, dx, _, rfl, hc, nk, _, rfl, _, rfl, c, _, dx, _, _, rfl, hc, T.cl_Cutter, T.na_at, fl_at _ _ _ _ _, _, rfl, _, rfl, _, rfl, z, rfl, by omega, ?_⟩
      rw [cut_word hi hd]
      have wl : (⟨word.toArray⟩ : Str).length = word.length := by
        show word.toArray.size = _
        rw [List.size_toArray]
      exact ⟨_, n, rfl, hn, by omega, _, rfl, c, r, z, _, _, _, _, _, _, _, row, rfl, .int n, hrow, S, q⟩
/-! ### string literals -/
def spCharIn (K : PySem.W.Frag) (C : Addr) : Sp := fun vs H Q _ => ∃ (c r : Addr) (z : Str) (i line ls : Int) (row : List PyData) (j d : Nat), vs = [.ref c, .int (j : Int)] ∧ CutS K C H c r z i line ls row ∧ z.length ≤ 8000 ∧ (cp z)[j]? = some d ∧ d ≠ 10 ∧ Q (.str (sg d)) H
theorem ok_character_in (T : Tx K mg w) : FnOk P w K mg base CX0 1 T.d_character_in.f T.d_character_in.fd P_character_in (spCharIn K T.C_Cutter) := by
  refine T.d_character_in.F.ok sc_character_in (fun vs H Q E h => ?_) (fun cdv A outer s H vs Q E hr h => ?_)
  · obtain ⟨c, r, z, i, line, ls, row, j, d, rfl, _⟩ := h
    rfl
  obtain ⟨c, r, z, i, line, ls, row, j, d, rfl, ⟨⟨dx, hc⟩, _, _⟩, hz, hj, hd, q⟩ := h
  refine ⟨_, (pss_cons (ps_if (PW.pt (pw_or (pt_cmpR op_ge (pv 1) (pe_callB call_len_str (by rfl) T.z_len PySem.boot_len (pa_cons (pe_fld (pv 0) rfl) pa_nil)) (nomark _)) (pw_or1 (pt_cmpR op_eq (pe_ix ix_str (pe_fld (pv 0) rfl) (pv 1) (fun _ _ => rfl)) pe_str (nomark _)))))
      (pss_one ps_never)
      pss_nil)
    (pss_one (ps_ret (pe_ix ix_str (pe_fld (pv 0) rfl) (pv 1) (fun _ _ => rfl))))), ?_⟩
  have big : 8000 ≤ sizeLine := by decide
  have hlt := (List.getElem?_eq_some_iff.mp hj).1
  rw [len_cp] at hlt
  refine ⟨_, rfl, _, rfl, c, _, dx, _, _, rfl, hc, T.cl_Cutter, T.na_text, fl_text _ _ _ _ _, _, rfl, by omega, _, _, rfl, rfl, _, rfl, ifF (decide_eq_false (by omega)) ?_⟩
  refine ⟨_, rfl, c, _, dx, _, _, rfl, hc, T.cl_Cutter, T.na_text, fl_text _ _ _ _ _, _, rfl, z, _, d, rfl, rfl, by omega, at_char rfl hj, rfl, _, rfl, ?_⟩
  refine sg_if s_nl (fun e => absurd e hd) (fun _ => ?_)
  exact ⟨_, rfl, c, _, dx, _, _, rfl, hc, T.cl_Cutter, T.na_text, fl_text _ _ _ _ _, _, rfl, z, _, d, rfl, rfl, by omega, at_char rfl hj, q⟩
/-- what an escape means -/
def escD (d : Nat) : Nat := if d = 110 then 10 else d
def spEscaped (K : PySem.W.Frag) (C : Addr) : Sp := fun vs H Q _ => ∃ (c r : Addr) (z : Str) (i line ls : Int) (row : List PyData) (j d : Nat), vs = [.ref c, .int (j : Int)] ∧ CutS K C H c r z i line ls row ∧ z.length ≤ 8000 ∧ (cp z)[j + 1]? = some d ∧ (d = 34 ∨ d = 92 ∨ d = 110) ∧ Q (.str (sg (escD d))) H
theorem ok_escaped (T : Tx K mg w) : FnOk P w K mg base CX0 2 T.d_escaped.f T.d_escaped.fd P_escaped (spEscaped K T.C_Cutter) := by
  have G_character_in := ok_character_in (P := P) (w := w) (base := base) T
  refine T.d_escaped.F.ok sc_escaped (fun vs H Q E h => ?_) (fun cdv A outer s H vs Q E hr h => ?_)
  · obtain ⟨c, r, z, i, line, ls, row, j, d, rfl, _⟩ := h
    rfl
  obtain ⟨c, r, z, i, line, ls, row, j, d, rfl, S, hz, hj, hd, q⟩ := h
  refine ⟨_, (pss_cons (ps_set (i := 2) sc_escaped.nd rfl (Or.inl rfl) (pe_call G_character_in (hr.mono (by omega)) (by rfl) T.d_character_in.m T.d_character_in.F.kp T.d_character_in.b .nil pass0 (pa_cons (pv 0) (pa_cons (pe_op op_add (pv 1) pe_int) pa_nil))))
    (pss_cons (ps_if (pt_cmpR (op_notIn_kd T.q_ESCAPES) (pv 2) (pe_glob (v := V.ref T.a_ESCAPES) (by rfl) T.c_ESCAPES rfl) (by rfl))
      (pss_one ps_never)
      pss_nil)
    (pss_one (ps_ret (pe_ix ix_kdict (pe_glob (v := V.ref T.a_ESCAPES) (by rfl) T.c_ESCAPES rfl) (pv 2) (fun _ _ => rfl)))))), ?_⟩
  have key : ∃ t, PySem.W.nsIn K T.a_ESCAPES (sg d) = some (some (.str (sg (escD d)) t)) := by
    rcases hd with rfl | rfl | rfl
    · obtain ⟨t, h⟩ := T.k_ESCAPES_0
      rw [s_quo] at h
      exact ⟨t, h⟩
    · obtain ⟨t, h⟩ := T.k_ESCAPES_1
      rw [s_bs] at h
      exact ⟨t, h⟩
    · obtain ⟨t, h⟩ := T.k_ESCAPES_2
      rw [s_nl, s_n] at h
      exact ⟨t, h⟩
  obtain ⟨t, key⟩ := key
  have hd10 : d ≠ 10 := by omega
  refine ⟨_, rfl, _, rfl, _, _, rfl, rfl, c, r, z, i, line, ls, row, j + 1, d, rfl, S, hz, hj, hd10, ?_⟩
  refine ⟨_, rfl, _, _, rfl, rfl, key, _, rfl, iteF ?_⟩
  exact ⟨_, rfl, _, _, _, rfl, rfl, ⟨_, _, _, T.q_ESCAPES.at_, T.q_ESCAPES.lit, key, relS _ _⟩, q⟩
/-- src, between the quotes, means m -/
inductive Lit : List Nat → List Nat → Prop
  | nil : Lit [] []
  | plain {d : Nat} {s m : List Nat} (h1 : d ≠ 34) (h2 : d ≠ 92) (h3 : d ≠ 10) (t : Lit s m) : Lit (d :: s) (d :: m)
  | esc {d : Nat} {s m : List Nat} (h : d = 34 ∨ d = 92 ∨ d = 110) (t : Lit s m) : Lit (92 :: d :: s) (escD d :: m)
theorem Lit.len {s m : List Nat} (h : Lit s m) : m.length ≤ s.length := by
  induction h with
  | nil => exact Nat.le_refl _
  | plain _ _ _ _ ih => exact Nat.succ_le_succ ih
  | esc _ _ ih => exact Nat.le_succ_of_le (Nat.succ_le_succ ih)
theorem app_mk (a b : Array Nat) : (⟨a⟩ : Str) ++ (⟨b⟩ : Str) = ⟨a ++ b⟩ := rfl
theorem join_sgs (m : List Nat) : Txt.join (Str.ofString "") (m.map sg) = ⟨m.toArray⟩ := by
  have e0 : Str.ofString "" = ⟨#[]⟩ := by decide +kernel
  rw [TL.join_eq, e0]
  induction m with
  | nil => rfl
  | cons x r ih =>
    cases r with
    | nil => rfl
    | cons y r =>
      have e : Str.join (⟨#[]⟩ : Str) ((x :: y :: r).map sg) = sg x ++ (⟨#[]⟩ : Str) ++ Str.join (⟨#[]⟩ : Str) ((y :: r).map sg) := rfl
      rw [e, ih, app_mk, app_mk]
      exact congrArg Str.mk (by simp)
theorem sum_ones : ∀ m : List Nat, ((m.map sg).map fun x => x.length).sum = m.length
  | [] => rfl
  | _ :: r => by
    have ih := sum_ones r
    simp only [List.map_cons, List.sum_cons, List.length_cons]
    rw [ih]
    show 1 + r.length = r.length + 1
    omega
def spCutLit (K : PySem.W.Frag) (C : Addr) : Sp := fun vs H Q _ => ∃ (c r : Addr) (z : Str) (i : Nat) (line ls : Int) (row : List PyData) (src m tail : List Nat), vs = [.ref c] ∧ CutS K C H c r z i line ls row ∧ i ≤ z.length ∧ z.length ≤ 8000 ∧ row.length ≤ 10000 ∧
  (cp z).drop i = 34 :: (src ++ 34 :: tail) ∧ Lit src m ∧ m.length ≤ 100 ∧
  ∀ H', CutS K C H' c r z ((i + (src.length + 2) : Nat) : Int) line ls (row ++ [tokD "text" (.str ⟨m.toArray⟩) line (i - ls + 1)]) → KeepC c r H H' → Q .non H'
theorem ok_cut_literal (T : Tx K mg w) : FnOk P w K mg base CX0 3 T.d_cut_literal.f T.d_cut_literal.fd P_cut_literal (spCutLit K T.C_Cutter) := by
  have G_character_in := ok_character_in (P := P) (w := w) (base := base) T
  have G_escaped := ok_escaped (P := P) (w := w) (base := base) T
  have G_Cutter_put := ok_Cutter_put (P := P) (w := w) (base := base) T
  refine T.d_cut_literal.F.ok sc_cut_literal (fun vs H Q E h => ?_) (fun cdv A outer s H vs Q E hr h => ?_)
  · obtain ⟨c, r, z, i, line, ls, row, src, m, tail, rfl, _⟩ := h
    rfl
  obtain ⟨c, r, z, i, line, ls, row, src, m, tail, rfl, S, hi, hz, hrow, hd, hlit, h100, q⟩ := h
  refine ⟨_, (pss_cons (ps_set (i := 1) sc_cut_literal.nd rfl (Or.inl rfl) (pe_lst pa_nil))
    (pss_cons (ps_set (i := 2) sc_cut_literal.nd rfl (Or.inl rfl) (pe_op op_add (pe_fld (pv 0) rfl) pe_int))
    (pss_cons (ps_while PassesOwn.never (pt_cmpR op_ne (pe_call G_character_in (hr.mono (by omega)) (by rfl) T.d_character_in.m T.d_character_in.F.kp T.d_character_in.b .nil pass0 (pa_cons (pv 0) (pa_cons (pv 2) pa_nil))) pe_str (nomark _))
      (pss_one (ps_if (pt_cmpR op_eq (pe_ix ix_str (pe_fld (pv 0) rfl) (pv 2) (fun _ _ => rfl)) pe_str (nomark _))
      (pss_cons (ps_expr (pe_bm PySem.F.plainAttrs_list PySem.F.slot_list_append PySem.F.type_list_append mt_append (pv 1) (pa_cons (pe_call G_escaped (hr.mono (by omega)) (by rfl) T.d_escaped.m T.d_escaped.F.kp T.d_escaped.b .nil pass0 (pa_cons (pv 0) (pa_cons (pv 2) pa_nil))) pa_nil)))
    (pss_one (ps_aug (i := 2) sc_cut_literal.nd rfl (Or.inl rfl) pe_int ip_add)))
      (pss_cons (ps_expr (pe_bm PySem.F.plainAttrs_list PySem.F.slot_list_append PySem.F.type_list_append mt_append (pv 1) (pa_cons (pe_ix ix_str (pe_fld (pv 0) rfl) (pv 2) (fun _ _ => rfl)) pa_nil)))
    (pss_one (ps_aug (i := 2) sc_cut_literal.nd rfl (Or.inl rfl) pe_int ip_add))))))
    (pss_cons (ps_if (pt_cmpR op_gt (pe_callB call_len_seq (by rfl) T.z_len PySem.boot_len (pa_cons (pv 1) pa_nil)) (pe_glob (v := V.int (100)) (by rfl) T.c_LITERAL_CHARACTERS ⟨_, rfl⟩) (nomark _))
      (pss_one ps_never)
      pss_nil)
    (pss_one (ps_expr (pe_meth (pv 0) T.cl_Cutter T.d_Cutter_put.mt G_Cutter_put (hr.mono (by omega)) T.d_Cutter_put.b .nil pass0 (pa_cons pe_str (pa_cons (pe_join pe_str (pv 1)) (pa_cons (pe_op op_add (pv 2) pe_int) pa_nil)))))))))), ?_⟩
  have big : 10000 ≤ sizeLine := by decide
  have hd' : (cp z).drop i = ([34] ++ src) ++ ([34] ++ tail) := by simpa using hd
  have hlen := drop_len (by rw [len_cp]; exact hi) hd'
  rw [len_cp] at hlen
  simp only [List.length_append, List.length_singleton] at hlen
  -- meant = []; at = cutter.at + 1
  refine ⟨(by show 0 ≤ sizeLine; decide), fun L nL => ?_⟩
  have s0 := same_new nL (.lst [])
  have S0 := S.same s0
  obtain ⟨⟨dx, hc⟩, _, _⟩ := id S0
  have Lc : L ≠ c := (ne_of_none S.ob.choose_spec nL).symm
  have Lr : L ≠ r := by
    obtain ⟨vs, h, _⟩ := S.rw
    exact (ne_of_none h nL).symm
  refine ⟨_, rfl, c, _, dx, _, _, rfl, hc, T.cl_Cutter, T.na_at, fl_at _ _ _ _ _, _, _, rfl, rfl, ?_⟩
  -- the loop
  refine ⟨fun n σ H1 => ∃ (s1 s2 m1 m2 : List Nat), σ = [some (.ref c), some (.ref L), some (.int ((i + (s1.length + 1) : Nat) : Int))] ∧ H1 L = some (.lst ((m1.map sg).map V.str)) ∧ src = s1 ++ s2 ∧ m = m1 ++ m2 ∧ Lit s2 m2 ∧ CutS K T.C_Cutter H1 c r z i line ls row ∧ Same H H1 ∧ n = s2.length,
    ⟨_, [], src, [], m, rfl, upd_same, rfl, rfl, hlit, S0, s0, rfl⟩, ?_⟩
  rintro n σ H1 ⟨s1, s2, m1, m2, rfl, hL, rfl, rfl, hl2, S1, sm1, rfl⟩
  obtain ⟨⟨dx1, hc1⟩, _, _⟩ := id S1
  have hd1 : (cp z).drop i = ([34] ++ s1) ++ (s2 ++ 34 :: tail) := by rw [hd']; simp
  have hd2 := drop_app hd1
  have e34 : ([34] ++ s1).length = s1.length + 1 := by simp [Nat.add_comm]
  rw [e34] at hd2
  have m1len : m1.length ≤ 100 := by
    rw [List.length_append] at h100
    omega
  cases hl2 with
  | nil =>
    -- the closing quote
    rw [List.nil_append] at hd2
    have g := (drop_head hd2).1
    refine ⟨_, rfl, _, rfl, c, r, z, _, _, _, _, _, 34, rfl, S1, hz, g, by decide, rfl, _, rfl, sg_ne s_quo (fun e => absurd rfl e) (fun _ => ?_)⟩
    refine ⟨_, rfl, L, _, rfl, .inl (SqL.of hL), _, _, rfl, rfl, _, rfl, ifF (decide_eq_false (by rw [List.length_map, List.length_map]; omega)) ?_⟩
    refine ⟨_, rfl, c, dx1, _, rfl, hc1, nk, ⟨_, rfl⟩, _, rfl, _, L, m1.map sg, rfl, rfl, .inl (SqL.of hL), ?_, ?_⟩
    · have e := sum_ones m1
      have e0 : (Str.ofString "").length = 0 := by decide +kernel
      rw [e, e0]
      omega
    rw [join_sgs]
    refine ⟨_, rfl, _, _, rfl, rfl, c, r, z, _, _, _, _, _, _, _, row, rfl, .str _, hrow, S1, fun H' S' k' => ?_⟩
    have ei : ((i + (s1.length + 1) : Nat) : Int) + 1 = ((i + ((s1 ++ []).length + 2) : Nat) : Int) := by
      rw [List.append_nil]
      omega
    rw [ei] at S'
    simp only [List.append_nil] at q S'
    exact q H' S' ((KeepC.same sm1).trans k')
  | @plain d s m' h1 h2 h3 ht =>
    rw [List.cons_append] at hd2
    have g := (drop_head hd2).1
    refine ⟨_, rfl, _, rfl, c, r, z, _, _, _, _, _, d, rfl, S1, hz, g, h3, rfl, _, rfl, sg_ne s_quo (fun _ => ?_) (fun e => absurd e h1)⟩
    refine ⟨_, fun _ _ h => h, ?_⟩
    refine ⟨_, rfl, c, _, dx1, _, _, rfl, hc1, T.cl_Cutter, T.na_text, fl_text _ _ _ _ _, _, rfl, z, _, d, rfl, rfl, by omega, at_char rfl g, rfl, _, rfl, sg_if s_bs (fun e => absurd e h2) (fun _ => ?_)⟩
    refine ⟨_, rfl, .inl ⟨rfl, _, SqL.of hL⟩, _, rfl, c, _, dx1, _, _, rfl, hc1, T.cl_Cutter, T.na_text, fl_text _ _ _ _ _, _, rfl, z, _, d, rfl, rfl, by omega, at_char rfl g, L, _, _, rfl, rfl, hL, lines (by rw [List.length_map, List.length_map]; omega), ?_⟩
    refine ⟨_, rfl, _, _, rfl, rfl, ?_⟩
    refine ⟨s.length, Nat.lt_succ_self _, s1 ++ [d], s, m1 ++ [d], m', ?_, by rw [upd_same]; simp, by simp, by simp, ht, ?_, same_upd sm1 nL, rfl⟩
    · rw [show (i + ((s1 ++ [d]).length + 1) : Nat) = (i + (s1.length + 1)) + 1 by simp; omega]
      rfl
    · exact S1.updL hL Lc Lr
  | @esc d s m' h ht =>
    rw [List.cons_append, List.cons_append] at hd2
    have g := (drop_head hd2).1
    have g2 := (drop_head (drop_app (a := [92]) (b := d :: (s ++ 34 :: tail)) hd2)).1
    refine ⟨_, rfl, _, rfl, c, r, z, _, _, _, _, _, 92, rfl, S1, hz, g, by decide, rfl, _, rfl, sg_ne s_quo (fun _ => ?_) (fun e => absurd e (by decide))⟩
    refine ⟨_, fun _ _ h => h, ?_⟩
    refine ⟨_, rfl, c, _, dx1, _, _, rfl, hc1, T.cl_Cutter, T.na_text, fl_text _ _ _ _ _, _, rfl, z, _, 92, rfl, rfl, by omega, at_char rfl g, rfl, _, rfl, sg_if s_bs (fun _ => ?_) (fun e => absurd rfl e)⟩
    refine ⟨_, rfl, .inl ⟨rfl, _, SqL.of hL⟩, _, rfl, _, rfl, c, r, z, _, _, _, _, _, d, rfl, S1, hz, g2, h, L, _, _, rfl, rfl, hL, lines (by rw [List.length_map, List.length_map]; omega), ?_⟩
    refine ⟨_, rfl, _, _, rfl, rfl, ?_⟩
    refine ⟨s.length, by show s.length < s.length + 2; omega, s1 ++ [92, d], s, m1 ++ [escD d], m', ?_, by rw [upd_same]; simp, by simp, by simp, ht, ?_, same_upd sm1 nL, rfl⟩
    · rw [show (i + ((s1 ++ [92, d]).length + 1) : Nat) = (i + (s1.length + 1)) + 2 by simp; omega]
      rfl
    · exact S1.updL hL Lc Lr
/-! ### signs and remarks -/
theorem cut_two {z : Str} {i : Nat} (hi : i ≤ z.length) : cutS z (some (i : Int)) (some ((i : Int) + 2)) = ⟨(((cp z).drop i).take 2).toArray⟩ := by
  have e : (i : Int) + 2 = ((i + 2 : Nat) : Int) := rfl
  rw [e]
  unfold cutS
  rw [HT.sIx_nat, HT.sIx_nat, Nat.min_eq_left hi]
  have hl : ((cp z).drop i).length = z.length - i := by rw [List.length_drop, len_cp]
  by_cases h : i + 2 ≤ z.length
  · rw [Nat.min_eq_left h, Nat.add_sub_cancel_left]
  · rw [Nat.min_eq_right (by omega)]
    have e1 : (z.cps.toList.drop i).take (z.length - i) = (cp z).drop i := List.take_of_length_le (by show ((cp z).drop i).length ≤ _; omega)
    have e2 : ((cp z).drop i).take 2 = (cp z).drop i := List.take_of_length_le (by omega)
    rw [e1, e2]
def spCutSign (K : PySem.W.Frag) (C : Addr) : Sp := fun vs H Q _ => ∃ (c r : Addr) (z : Str) (i : Nat) (line ls : Int) (row : List PyData) (a : Nat) (tail : List Nat), vs = [.ref c] ∧ CutS K C H c r z i line ls row ∧ i ≤ z.length ∧ z.length ≤ 8000 ∧ row.length ≤ 10000 ∧
  (cp z).drop i = a :: tail ∧
  (((⟨((a :: tail).take 2).toArray⟩ : Str) ∈ L_LONG_SIGNS ∧ ∀ H', CutS K C H' c r z ((i + 2 : Nat) : Int) line ls (row ++ [tokD "sign" (.str ⟨((a :: tail).take 2).toArray⟩) line (i - ls + 1)]) → KeepC c r H H' → Q .non H') ∨
   (¬ (⟨((a :: tail).take 2).toArray⟩ : Str) ∈ L_LONG_SIGNS ∧ sg a ∈ L_SHORT_SIGNS ∧ ∀ H', CutS K C H' c r z ((i + 1 : Nat) : Int) line ls (row ++ [tokD "sign" (.str (sg a)) line (i - ls + 1)]) → KeepC c r H H' → Q .non H'))
theorem ok_cut_sign (T : Tx K mg w) : FnOk P w K mg base CX0 3 T.d_cut_sign.f T.d_cut_sign.fd P_cut_sign (spCutSign K T.C_Cutter) := by
  have G_Cutter_put := ok_Cutter_put (P := P) (w := w) (base := base) T
  refine T.d_cut_sign.F.ok sc_cut_sign (fun vs H Q E h => ?_) (fun cdv A outer s H vs Q E hr h => ?_)
  · obtain ⟨c, r, z, i, line, ls, row, a, tail, rfl, _⟩ := h
    rfl
  obtain ⟨c, r, z, i, line, ls, row, a, tail, rfl, S, hi, hz, hrow, hd, q⟩ := h
  refine ⟨_, (pss_cons (ps_set (i := 1) sc_cut_sign.nd rfl (Or.inl rfl) (pe_fld (pv 0) rfl))
    (pss_cons (ps_set (i := 2) sc_cut_sign.nd rfl (Or.inl rfl) (pe_slice sl_str (pe_fld (pv 0) rfl) (po_some (pv 1)) (po_some (pe_op op_add (pv 1) pe_int))))
    (pss_one (ps_if (pt_cmpR op_in_seq (pv 2) (pe_glob (v := V.ref T.a_LONG_SIGNS) (by rfl) T.c_LONG_SIGNS rfl) (by rfl))
      (pss_one (ps_expr (pe_meth (pv 0) T.cl_Cutter T.d_Cutter_put.mt G_Cutter_put (hr.mono (by omega)) T.d_Cutter_put.b .nil pass0 (pa_cons pe_str (pa_cons (pv 2) (pa_cons (pe_op op_add (pv 1) pe_int) pa_nil))))))
      (pss_one (ps_if (pt_cmpR op_in_seq (pe_ix ix_str (pe_fld (pv 0) rfl) (pv 1) (fun _ _ => rfl)) (pe_glob (v := V.ref T.a_SHORT_SIGNS) (by rfl) T.c_SHORT_SIGNS rfl) (by rfl))
      (pss_one (ps_expr (pe_meth (pv 0) T.cl_Cutter T.d_Cutter_put.mt G_Cutter_put (hr.mono (by omega)) T.d_Cutter_put.b .nil pass0 (pa_cons pe_str (pa_cons (pe_ix ix_str (pe_fld (pv 0) rfl) (pv 1) (fun _ _ => rfl)) (pa_cons (pe_op op_add (pv 1) pe_int) pa_nil))))))
      (pss_one ps_never))))))), ?_⟩
  have big : 10000 ≤ sizeLine := by decide
  obtain ⟨⟨dx, hc⟩, _, _⟩ := id S
  have g := (drop_head hd).1
  refine ⟨_, rfl, c, _, dx, _, _, rfl, hc, T.cl_Cutter, T.na_at, fl_at _ _ _ _ _, ?_⟩
  refine ⟨_, rfl, c, _, dx, _, _, rfl, hc, T.cl_Cutter, T.na_text, fl_text _ _ _ _ _, _, rfl, _, rfl, _, rfl, _, _, rfl, rfl, _, rfl, z, rfl, by omega, ?_⟩
  rw [cut_two hi, hd]
  refine ⟨_, rfl, _, _, rfl, .inr (.inr T.q_LONG_SIGNS), rfl, flats _, _, rfl, ?_⟩
  change if inV (.str ⟨((a :: tail).take 2).toArray⟩) (L_LONG_SIGNS.map V.str) = true then _ else _
  rw [in_strs]
  refine ite2 (fun e => ?_) (fun e => ?_)
  · have e' := of_decide_eq_true e
    have q : ∀ H', CutS K T.C_Cutter H' c r z ((i + 2 : Nat) : Int) line ls (row ++ [tokD "sign" (.str ⟨((a :: tail).take 2).toArray⟩) line (i - ls + 1)]) → KeepC c r H H' → Q .non H' := q.elim (fun q => q.2) fun q => absurd e' q.1
    exact ⟨_, rfl, c, dx, _, rfl, hc, nk, _, rfl, _, rfl, _, _, rfl, rfl, c, r, z, _, _, _, _, _, _, _, row, rfl, .str _, hrow, S, q⟩
  · have e' : ¬ (⟨((a :: tail).take 2).toArray⟩ : Str) ∈ L_LONG_SIGNS := fun h => e (decide_eq_true h)
    obtain ⟨_, hs, q⟩ := q.resolve_left fun q => e' q.1
    refine ⟨_, rfl, c, _, dx, _, _, rfl, hc, T.cl_Cutter, T.na_text, fl_text _ _ _ _ _, _, rfl, z, _, a, rfl, rfl, by omega, at_char rfl g, _, _, rfl, .inr (.inr T.q_SHORT_SIGNS), rfl, flats _, _, rfl, ?_⟩
    change if inV (.str (sg a)) (L_SHORT_SIGNS.map V.str) = true then _ else _
    rw [in_strs]
    refine ifT (decide_eq_true hs) ?_
    exact ⟨_, rfl, c, dx, _, rfl, hc, nk, _, rfl, c, _, dx, _, _, rfl, hc, T.cl_Cutter, T.na_text, fl_text _ _ _ _ _, _, rfl, z, _, a, rfl, rfl, by omega, at_char rfl g, _, rfl, _, _, rfl, rfl, c, r, z, _, _, _, _, _, _, _, row, rfl, .str _, hrow, S, q⟩
theorem get_D {x : Str} {v c : Nat} (h : (cp x)[v]? = some c) : x.cps.getD v 0 = c := by
  have e : x.cps[v]? = some c := by rw [← Array.getElem?_toList]; exact h
  rw [Array.getD_eq_getD_getElem?, e]
  rfl
theorem find_nl {z : Str} {i : Nat} {word tail : List Nat} (hi : i ≤ z.length) (hd : (cp z).drop i = word ++ tail) (hw : ∀ d ∈ word, d ≠ 10) (ht : tail = [] ∨ ∃ t, tail = 10 :: t) :
    (if Txt.find3 z (Str.ofString "\n") (i : Int) < 0 then (z.length : Int) else Txt.find3 z (Str.ofString "\n") (i : Int)) = ((i + word.length : Nat) : Int) := by
  have hl := drop_len (by rw [len_cp]; exact hi) hd
  rw [len_cp] at hl
  have hf : PySem.fromIndex z.length (i : Int) = i := by
    unfold PySem.fromIndex
    omega
  have inw : ∀ k, k < word.length → z.cps.getD (i + k) 0 ≠ 10 := fun k hk => by
    have g : word[k]? = some word[k] := List.getElem?_eq_getElem hk
    have g2 := drop_get hd hk
    rw [g] at g2
    rw [get_D g2]
    exact hw _ (List.getElem_mem hk)
  rw [s_nl]
  rcases StrLaws.find3_spec z 10 (i : Int) with ⟨h, hno⟩ | ⟨k, h, h1, h2, h3, h4⟩
  · rw [h, if_pos (by decide)]
    rw [hf] at hno
    rcases ht with rfl | ⟨t, rfl⟩
    · simp only [List.length_nil] at hl
      omega
    · have g := (drop_head (drop_app hd)).1
      have lt : i + word.length < z.length := by
        simp only [List.length_cons] at hl
        omega
      exact absurd (get_D g) (hno _ (by omega) lt)
  · rw [h, if_neg (by omega)]
    rw [hf] at h1 h4
    rcases Nat.lt_trichotomy k (i + word.length) with a | a | a
    · have := inw (k - i) (by omega)
      rw [show i + (k - i) = k by omega] at this
      exact absurd h3 this
    · rw [a]
    · rcases ht with rfl | ⟨t, rfl⟩
      · simp only [List.length_nil] at hl
        omega
      · exact absurd (get_D (drop_head (drop_app hd)).1) (h4 _ (by omega) a)
def spRemark (K : PySem.W.Frag) (C : Addr) : Sp := fun vs H Q _ => ∃ (c r : Addr) (z : Str) (i : Nat) (line ls : Int) (row : List PyData) (word tail : List Nat), vs = [.ref c] ∧ CutS K C H c r z i line ls row ∧ i ≤ z.length ∧ z.length ≤ 8000 ∧
  (cp z).drop i = word ++ tail ∧ (∀ d ∈ word, d ≠ 10) ∧ (tail = [] ∨ ∃ t, tail = 10 :: t) ∧ ∀ H', CutS K C H' c r z ((i + word.length : Nat) : Int) line ls row → KeepC c r H H' → Q .non H'
theorem ok_pass_remark (T : Tx K mg w) : FnOk P w K mg base CX0 1 T.d_pass_remark.f T.d_pass_remark.fd P_pass_remark (spRemark K T.C_Cutter) := by
  refine T.d_pass_remark.F.ok sc_pass_remark (fun vs H Q E h => ?_) (fun cdv A outer s H vs Q E hr h => ?_)
  · obtain ⟨c, r, z, i, line, ls, row, word, tail, rfl, _⟩ := h
    rfl
  obtain ⟨c, r, z, i, line, ls, row, word, tail, rfl, S, hi, hz, hd, hw, ht, q⟩ := h
  refine ⟨_, (pss_cons (ps_set (i := 1) sc_pass_remark.nd rfl (Or.inl rfl) (pe_bm PySem.F.plainAttrs_str PySem.F.slot_str_find PySem.F.type_str_find mt_find3 (pe_fld (pv 0) rfl) (pa_cons pe_str (pa_cons (pe_fld (pv 0) rfl) pa_nil))))
    (pss_one (ps_fld (pv 0) (pe_ifExp (pt_cmpR op_lt (pv 1) pe_int (nomark _)) (pe_callB call_len_str (by rfl) T.z_len PySem.boot_len (pa_cons (pe_fld (pv 0) rfl) pa_nil)) (pv 1)) rfl))), ?_⟩
  have big : 10000 ≤ sizeLine := by decide
  obtain ⟨⟨dx, hc⟩, _, _⟩ := id S
  have e := find_nl hi hd hw ht
  have q' : ∀ v : Int, v = ((i + word.length : Nat) : Int) → Q .non (upd H c (.ins T.C_Cutter dx (putF "at" (.int v) (flds z i line ls r)))) := fun v hv => by
    subst hv
    rw [put_at]
    exact q _ S.put KeepC.at_
  refine ⟨_, rfl, c, _, dx, _, _, rfl, hc, T.cl_Cutter, T.na_text, fl_text _ _ _ _ _, rfl, _, rfl, c, _, dx, _, _, rfl, hc, T.cl_Cutter, T.na_at, fl_at _ _ _ _ _, _, _, _, rfl, rfl, ?_⟩
  refine ⟨_, rfl, _, _, rfl, rfl, _, rfl, ite2 (fun g => ?_) (fun g => ?_)⟩
  · rw [if_pos (of_decide_eq_true g)] at e
    exact ⟨_, rfl, c, _, dx, _, _, rfl, hc, T.cl_Cutter, T.na_text, fl_text _ _ _ _ _, _, rfl, by omega, _, rfl, c, _, dx, _, rfl, hc, T.cl_Cutter, T.na_at, fl_len _ _ _ _ _, q' _ e⟩
  · rw [if_neg (fun h => g (decide_eq_true h))] at e
    exact ⟨_, rfl, _, rfl, c, _, dx, _, rfl, hc, T.cl_Cutter, T.na_at, fl_len _ _ _ _ _, q' _ e⟩
/-! ### how a text is cut -/
/-- a sign that begins no name, number, literal, remark and separates nothing -/
def Other (a : Nat) : Prop := a ≠ 10 ∧ a ≠ 32 ∧ a ≠ 35 ∧ a ≠ 34 ∧ isLetter a = false ∧ isDigit a = false
inductive Lex : List Nat → Int → Int → List PyData → Prop
  | done {l c : Int} : Lex [] l c [tokD "end" (.str "") l c]
  | nl {r : List Nat} {l c : Int} {ts : List PyData} (t : Lex r (l + 1) 1 ts) : Lex (10 :: r) l c ts
  | sp {r : List Nat} {l c : Int} {ts : List PyData} (t : Lex r l (c + 1) ts) : Lex (32 :: r) l c ts
  | rem {w r : List Nat} {l c : Int} {ts : List PyData} (h1 : ∀ d ∈ w, d ≠ 10) (h2 : r = [] ∨ ∃ t, r = 10 :: t) (t : Lex r l (c + ((w.length + 1 : Nat) : Int)) ts) : Lex (35 :: (w ++ r)) l c ts
  | name {a : Nat} {w r : List Nat} {l c : Int} {ts : List PyData} (h1 : isLetter a = true) (h2 : ∀ d ∈ w, isName d = true) (h3 : Stops isName r) (h4 : w.length + 1 ≤ 20) (t : Lex r l (c + ((w.length + 1 : Nat) : Int)) ts) :
      Lex (a :: (w ++ r)) l c (tokD (kwD (a :: w)) (.str ⟨(a :: w).toArray⟩) l c :: ts)
  | num {a : Nat} {w r : List Nat} {n l c : Int} {ts : List PyData} (h1 : isDigit a = true) (h2 : ∀ d ∈ w, isDigit d = true) (h3 : Stops isName r) (h4 : w.length + 1 ≤ 60) (h5 : PySem.intText? ⟨(a :: w).toArray⟩ = some n) (t : Lex r l (c + ((w.length + 1 : Nat) : Int)) ts) :
      Lex (a :: (w ++ r)) l c (tokD "number" (.int n) l c :: ts)
  | lit {s m r : List Nat} {l c : Int} {ts : List PyData} (h1 : Lit s m) (h2 : m.length ≤ 100) (t : Lex r l (c + ((s.length + 2 : Nat) : Int)) ts) : Lex (34 :: (s ++ 34 :: r)) l c (tokD "text" (.str ⟨m.toArray⟩) l c :: ts)
  | long {a b : Nat} {r : List Nat} {l c : Int} {ts : List PyData} (h1 : Other a) (h2 : (⟨[a, b].toArray⟩ : Str) ∈ L_LONG_SIGNS) (t : Lex r l (c + 2) ts) : Lex (a :: b :: r) l c (tokD "sign" (.str ⟨[a, b].toArray⟩) l c :: ts)
  | short {a : Nat} {r : List Nat} {l c : Int} {ts : List PyData} (h1 : Other a) (h2 : ¬ (⟨((a :: r).take 2).toArray⟩ : Str) ∈ L_LONG_SIGNS) (h3 : sg a ∈ L_SHORT_SIGNS) (t : Lex r l (c + 1) ts) : Lex (a :: r) l c (tokD "sign" (.str (sg a)) l c :: ts)
theorem letter_apart {a : Nat} (h : isLetter a = true) : a ≠ 10 ∧ a ≠ 32 ∧ a ≠ 35 := by
  have := of_decide_eq_true h
  omega
theorem digit_apart {a : Nat} (h : isDigit a = true) : a ≠ 10 ∧ a ≠ 32 ∧ a ≠ 35 ∧ isLetter a = false := by
  have h' := of_decide_eq_true h
  refine ⟨by omega, by omega, by omega, decide_eq_false (by omega)⟩
theorem letter_name {a : Nat} (h : isLetter a = true) : isName a = true := by
  unfold isName
  rw [h]
  rfl
def spCut (K : PySem.W.Frag) (C : Addr) : Sp := fun vs H Q _ => ∃ (c r : Addr) (z : Str) (i : Nat) (line ls : Int) (row ts : List PyData), vs = [.ref c] ∧ CutS K C H c r z i line ls row ∧ i < z.length ∧ z.length ≤ 8000 ∧ row.length ≤ i ∧ Lex ((cp z).drop i) line (i - ls + 1) ts ∧
  ∀ (i' : Nat) (line' ls' : Int) (row' ts' : List PyData) (H' : Hp), i < i' → i' ≤ z.length → row'.length ≤ i' → CutS K C H' c r z i' line' ls' row' → Lex ((cp z).drop i') line' (i' - ls' + 1) ts' → row' ++ ts' = row ++ ts → KeepC c r H H' → Q .non H'
theorem ok_cut (T : Tx K mg w) : FnOk P w K mg base CX0 4 T.d_cut.f T.d_cut.fd P_cut (spCut K T.C_Cutter) := by
  have G_pass_remark := ok_pass_remark (P := P) (w := w) (base := base) T
  have G_is_letter := ok_is_letter (P := P) (w := w) (base := base) T
  have G_is_digit := ok_is_digit (P := P) (w := w) (base := base) T
  have G_cut_name := ok_cut_name (P := P) (w := w) (base := base) T
  have G_cut_number := ok_cut_number (P := P) (w := w) (base := base) T
  have G_cut_literal := ok_cut_literal (P := P) (w := w) (base := base) T
  have G_cut_sign := ok_cut_sign (P := P) (w := w) (base := base) T
  refine T.d_cut.F.ok sc_cut (fun vs H Q E h => ?_) (fun cdv A outer s H vs Q E hr h => ?_)
  · obtain ⟨c, r, z, i, line, ls, row, ts, rfl, _⟩ := h
    rfl
  obtain ⟨c, r, z, i, line, ls, row, ts, rfl, S, hi, hz, hrow, hlex, q⟩ := h
  refine ⟨_, (pss_cons (ps_set (i := 1) sc_cut.nd rfl (Or.inl rfl) (pe_ix ix_str (pe_fld (pv 0) rfl) (pe_fld (pv 0) rfl) (fun _ _ => rfl)))
    (pss_one (ps_if (pt_cmpR op_eq (pv 1) pe_str (nomark _))
      (pss_cons (ps_fldaug (pv 0) pe_int in_add)
    (pss_cons (ps_fldaug (pv 0) pe_int in_add)
    (pss_one (ps_fld (pv 0) (pe_fld (pv 0) rfl) rfl))))
      (pss_one (ps_if (pt_cmpR op_eq (pv 1) pe_str (nomark _))
      (pss_one (ps_fldaug (pv 0) pe_int in_add))
      (pss_one (ps_if (pt_cmpR op_eq (pv 1) pe_str (nomark _))
      (pss_one (ps_expr (pe_call G_pass_remark (hr.mono (by omega)) (by rfl) T.d_pass_remark.m T.d_pass_remark.F.kp T.d_pass_remark.b .nil pass0 (pa_cons (pv 0) pa_nil))))
      (pss_one (ps_if (pt_val (pe_call G_is_letter (hr.mono (by omega)) (by rfl) T.d_is_letter.m T.d_is_letter.F.kp T.d_is_letter.b .nil pass0 (pa_cons (pv 1) pa_nil)))
      (pss_one (ps_expr (pe_call G_cut_name (hr.mono (by omega)) (by rfl) T.d_cut_name.m T.d_cut_name.F.kp T.d_cut_name.b .nil pass0 (pa_cons (pv 0) pa_nil))))
      (pss_one (ps_if (pt_val (pe_call G_is_digit (hr.mono (by omega)) (by rfl) T.d_is_digit.m T.d_is_digit.F.kp T.d_is_digit.b .nil pass0 (pa_cons (pv 1) pa_nil)))
      (pss_one (ps_expr (pe_call G_cut_number (hr.mono (by omega)) (by rfl) T.d_cut_number.m T.d_cut_number.F.kp T.d_cut_number.b .nil pass0 (pa_cons (pv 0) pa_nil))))
      (pss_one (ps_if (pt_cmpR op_eq (pv 1) pe_str (nomark _))
      (pss_one (ps_expr (pe_call G_cut_literal (hr.mono (by omega)) (by rfl) T.d_cut_literal.m T.d_cut_literal.F.kp T.d_cut_literal.b .nil pass0 (pa_cons (pv 0) pa_nil))))
      (pss_one (ps_expr (pe_call G_cut_sign (hr.mono (by omega)) (by rfl) T.d_cut_sign.m T.d_cut_sign.F.kp T.d_cut_sign.b .nil pass0 (pa_cons (pv 0) pa_nil))))))))))))))))), ?_⟩
  have big : 10000 ≤ sizeLine := by decide
  obtain ⟨⟨dx, hc⟩, _, _⟩ := id S
  have hi' : i ≤ z.length := by omega
  generalize hrest : (cp z).drop i = rest at hlex
  generalize hcol : (i : Int) - ls + 1 = col at hlex
  have first : ∀ a tail, rest = a :: tail → (cp z)[i]? = some a := fun a tail e => (drop_head (hrest.trans e)).1
  have after : ∀ a b : List Nat, rest = a ++ b → (cp z).drop (i + a.length) = b ∧ z.length = i + a.length + b.length := fun a b e => by
    have h := hrest.trans e
    have hl := drop_len (by rw [len_cp]; exact hi') h
    rw [len_cp] at hl
    exact ⟨drop_app h, hl⟩
  cases hlex with
  | done =>
    have h := congrArg List.length hrest
    rw [List.length_drop, len_cp] at h
    simp only [List.length_nil] at h
    omega
  | @nl rr _ _ _ t =>
    obtain ⟨h1, h2⟩ := after [10] rr rfl
    simp only [List.length_singleton] at h1 h2
    refine ⟨_, rfl, c, _, dx, _, _, rfl, hc, T.cl_Cutter, T.na_text, fl_text _ _ _ _ _, _, rfl, c, _, dx, _, _, rfl, hc, T.cl_Cutter, T.na_at, fl_at _ _ _ _ _, z, _, 10, rfl, rfl, by omega, at_char rfl (first _ _ rfl), ?_⟩
    refine ⟨_, rfl, rfl, _, rfl, sg_if s_nl (fun _ => ?_) (fun e => absurd rfl e)⟩
    refine ⟨_, rfl, c, _, dx, _, _, rfl, hc, T.cl_Cutter, T.na_at, fl_at _ _ _ _ _, _, _, rfl, rfl, dx, _, hc, fl_len _ _ _ _ _, ?_⟩
    rw [put_at]
    refine ⟨_, rfl, c, _, dx, _, _, rfl, upd_same, T.cl_Cutter, T.na_line, fl_line _ _ _ _ _, _, _, rfl, rfl, dx, _, upd_same, fl_len _ _ _ _ _, ?_⟩
    rw [put_line]
    refine ⟨_, rfl, c, _, dx, _, _, rfl, upd_same, T.cl_Cutter, T.na_at, fl_at _ _ _ _ _, _, rfl, c, _, dx, _, rfl, upd_same, T.cl_Cutter, T.na_line_start, fl_len _ _ _ _ _, ?_⟩
    rw [put_ls]
    have S1 := (S.put (dx := dx) (i' := (i : Int) + 1) (line' := line) (ls' := ls))
    have S2 := (S1.put (dx := dx) (i' := (i : Int) + 1) (line' := line + 1) (ls' := ls))
    have S3 := (S2.put (dx := dx) (i' := (i : Int) + 1) (line' := line + 1) (ls' := (i : Int) + 1))
    refine q (i + 1) (line + 1) ((i : Int) + 1) row ts _ (by omega) (by omega) (by omega) S3 ?_ rfl ((KeepC.at_.trans KeepC.at_).trans KeepC.at_)
    rw [h1]
    have e : ((i + 1 : Nat) : Int) - ((i : Int) + 1) + 1 = 1 := by omega
    rw [e]
    exact t
  | @sp rr _ _ _ t =>
    obtain ⟨h1, h2⟩ := after [32] rr rfl
    simp only [List.length_singleton] at h1 h2
    refine ⟨_, rfl, c, _, dx, _, _, rfl, hc, T.cl_Cutter, T.na_text, fl_text _ _ _ _ _, _, rfl, c, _, dx, _, _, rfl, hc, T.cl_Cutter, T.na_at, fl_at _ _ _ _ _, z, _, 32, rfl, rfl, by omega, at_char rfl (first _ _ rfl), ?_⟩
    refine ⟨_, rfl, rfl, _, rfl, sg_if s_nl (fun e => absurd e (by decide)) (fun _ => ?_)⟩
    refine ⟨_, rfl, rfl, _, rfl, sg_if s_sp (fun _ => ?_) (fun e => absurd rfl e)⟩
    refine ⟨_, rfl, c, _, dx, _, _, rfl, hc, T.cl_Cutter, T.na_at, fl_at _ _ _ _ _, _, _, rfl, rfl, dx, _, hc, fl_len _ _ _ _ _, ?_⟩
    rw [put_at]
    have S1 := (S.put (dx := dx) (i' := (i : Int) + 1) (line' := line) (ls' := ls))
    refine q (i + 1) line ls row ts _ (by omega) (by omega) (by omega) S1 ?_ rfl KeepC.at_
    rw [h1]
    have e : ((i + 1 : Nat) : Int) - ls + 1 = col + 1 := by omega
    rw [e]
    exact t
  | @rem wd rr _ _ _ g1 g2 t =>
    obtain ⟨h1, h2⟩ := after (35 :: wd) rr rfl
    refine ⟨_, rfl, c, _, dx, _, _, rfl, hc, T.cl_Cutter, T.na_text, fl_text _ _ _ _ _, _, rfl, c, _, dx, _, _, rfl, hc, T.cl_Cutter, T.na_at, fl_at _ _ _ _ _, z, _, 35, rfl, rfl, by omega, at_char rfl (first _ _ rfl), ?_⟩
    refine ⟨_, rfl, rfl, _, rfl, sg_if s_nl (fun e => absurd e (by decide)) (fun _ => ?_)⟩
    refine ⟨_, rfl, rfl, _, rfl, sg_if s_sp (fun e => absurd e (by decide)) (fun _ => ?_)⟩
    refine ⟨_, rfl, rfl, _, rfl, sg_if s_hash (fun _ => ?_) (fun e => absurd rfl e)⟩
    refine ⟨_, rfl, c, r, z, i, line, ls, row, 35 :: wd, rr, rfl, S, hi', hz, hrest, ?_, g2, fun H' S' k' => ?_⟩
    · intro d hd
      rcases List.mem_cons.mp hd with rfl | hd
      · decide
      · exact g1 d hd
    refine q (i + (35 :: wd).length) line ls row ts _ (by simp only [List.length_cons]; omega) (by omega) (by omega) S' ?_ rfl k'
    rw [h1]
    have e : ((i + (35 :: wd).length : Nat) : Int) - ls + 1 = col + ((wd.length + 1 : Nat) : Int) := by
      simp only [List.length_cons]
      omega
    rw [e]
    exact t
  | @name a wd rr _ _ ts0 g1 g2 g3 g4 t =>
    obtain ⟨h1, h2⟩ := after (a :: wd) rr rfl
    obtain ⟨n1, n2, n3⟩ := letter_apart g1
    refine ⟨_, rfl, c, _, dx, _, _, rfl, hc, T.cl_Cutter, T.na_text, fl_text _ _ _ _ _, _, rfl, c, _, dx, _, _, rfl, hc, T.cl_Cutter, T.na_at, fl_at _ _ _ _ _, z, _, a, rfl, rfl, by omega, at_char rfl (first _ _ rfl), ?_⟩
    refine ⟨_, rfl, rfl, _, rfl, sg_if s_nl (fun e => absurd e n1) (fun _ => ?_)⟩
    refine ⟨_, rfl, rfl, _, rfl, sg_if s_sp (fun e => absurd e n2) (fun _ => ?_)⟩
    refine ⟨_, rfl, rfl, _, rfl, sg_if s_hash (fun e => absurd e n3) (fun _ => ?_)⟩
    refine ⟨_, rfl, a, rfl, _, rfl, ifT g1 ?_⟩
    refine ⟨_, rfl, c, r, z, i, line, ls, row, a :: wd, rr, rfl, S, hi', hz, by omega, hrest, ?_, g3, g4, fun H' S' k' => ?_⟩
    · intro d hd
      rcases List.mem_cons.mp hd with rfl | hd
      · exact letter_name g1
      · exact g2 d hd
    refine q (i + (a :: wd).length) line ls _ ts0 _ (by simp only [List.length_cons]; omega) (by omega) ?_ S' ?_ (by rw [hcol, List.append_assoc]; rfl) k'
    · rw [List.length_append, List.length_singleton]
      simp only [List.length_cons]
      omega
    rw [h1]
    have e : ((i + (a :: wd).length : Nat) : Int) - ls + 1 = col + ((wd.length + 1 : Nat) : Int) := by
      simp only [List.length_cons]
      omega
    rw [e]
    exact t
  | @num a wd rr n _ _ ts0 g1 g2 g3 g4 g5 t =>
    obtain ⟨h1, h2⟩ := after (a :: wd) rr rfl
    obtain ⟨n1, n2, n3, n4⟩ := digit_apart g1
    refine ⟨_, rfl, c, _, dx, _, _, rfl, hc, T.cl_Cutter, T.na_text, fl_text _ _ _ _ _, _, rfl, c, _, dx, _, _, rfl, hc, T.cl_Cutter, T.na_at, fl_at _ _ _ _ _, z, _, a, rfl, rfl, by omega, at_char rfl (first _ _ rfl), ?_⟩
    refine ⟨_, rfl, rfl, _, rfl, sg_if s_nl (fun e => absurd e n1) (fun _ => ?_)⟩
    refine ⟨_, rfl, rfl, _, rfl, sg_if s_sp (fun e => absurd e n2) (fun _ => ?_)⟩
    refine ⟨_, rfl, rfl, _, rfl, sg_if s_hash (fun e => absurd e n3) (fun _ => ?_)⟩
    refine ⟨_, rfl, a, rfl, _, rfl, ifF n4 ?_⟩
    refine ⟨_, rfl, a, rfl, _, rfl, ifT g1 ?_⟩
    refine ⟨_, rfl, c, r, z, i, line, ls, row, a :: wd, rr, n, rfl, S, hi', hz, by omega, hrest, ?_, g3, g4, g5, fun H' S' k' => ?_⟩
    · intro d hd
      rcases List.mem_cons.mp hd with rfl | hd
      · exact g1
      · exact g2 d hd
    refine q (i + (a :: wd).length) line ls _ ts0 _ (by simp only [List.length_cons]; omega) (by omega) ?_ S' ?_ (by rw [hcol, List.append_assoc]; rfl) k'
    · rw [List.length_append, List.length_singleton]
      simp only [List.length_cons]
      omega
    rw [h1]
    have e : ((i + (a :: wd).length : Nat) : Int) - ls + 1 = col + ((wd.length + 1 : Nat) : Int) := by
      simp only [List.length_cons]
      omega
    rw [e]
    exact t
  | @lit src m rr _ _ ts0 g1 g2 t =>
    obtain ⟨h1, h2⟩ := after (34 :: (src ++ [34])) rr (by simp)
    have hl : (34 :: (src ++ [34])).length = src.length + 2 := by simp
    rw [hl] at h1 h2
    refine ⟨_, rfl, c, _, dx, _, _, rfl, hc, T.cl_Cutter, T.na_text, fl_text _ _ _ _ _, _, rfl, c, _, dx, _, _, rfl, hc, T.cl_Cutter, T.na_at, fl_at _ _ _ _ _, z, _, 34, rfl, rfl, by omega, at_char rfl (first _ _ rfl), ?_⟩
    refine ⟨_, rfl, rfl, _, rfl, sg_if s_nl (fun e => absurd e (by decide)) (fun _ => ?_)⟩
    refine ⟨_, rfl, rfl, _, rfl, sg_if s_sp (fun e => absurd e (by decide)) (fun _ => ?_)⟩
    refine ⟨_, rfl, rfl, _, rfl, sg_if s_hash (fun e => absurd e (by decide)) (fun _ => ?_)⟩
    refine ⟨_, rfl, 34, rfl, _, rfl, ifF (by decide) ?_⟩
    refine ⟨_, rfl, 34, rfl, _, rfl, ifF (by decide) ?_⟩
    refine ⟨_, rfl, rfl, _, rfl, sg_if s_quo (fun _ => ?_) (fun e => absurd rfl e)⟩
    refine ⟨_, rfl, c, r, z, i, line, ls, row, src, m, rr, rfl, S, hi', hz, by omega, hrest, g1, g2, fun H' S' k' => ?_⟩
    refine q (i + (src.length + 2)) line ls _ ts0 _ (by omega) (by omega) ?_ S' ?_ (by rw [hcol, List.append_assoc]; rfl) k'
    · rw [List.length_append, List.length_singleton]
      omega
    rw [h1]
    have e : ((i + (src.length + 2) : Nat) : Int) - ls + 1 = col + ((src.length + 2 : Nat) : Int) := by omega
    rw [e]
    exact t
  | @long a b rr _ _ ts0 g1 g2 t =>
    obtain ⟨h1, h2⟩ := after [a, b] rr rfl
    obtain ⟨n1, n2, n3, n4, n5, n6⟩ := g1
    have hl : [a, b].length = 2 := rfl
    rw [hl] at h1 h2
    refine ⟨_, rfl, c, _, dx, _, _, rfl, hc, T.cl_Cutter, T.na_text, fl_text _ _ _ _ _, _, rfl, c, _, dx, _, _, rfl, hc, T.cl_Cutter, T.na_at, fl_at _ _ _ _ _, z, _, a, rfl, rfl, by omega, at_char rfl (first _ _ rfl), ?_⟩
    refine ⟨_, rfl, rfl, _, rfl, sg_if s_nl (fun e => absurd e n1) (fun _ => ?_)⟩
    refine ⟨_, rfl, rfl, _, rfl, sg_if s_sp (fun e => absurd e n2) (fun _ => ?_)⟩
    refine ⟨_, rfl, rfl, _, rfl, sg_if s_hash (fun e => absurd e n3) (fun _ => ?_)⟩
    refine ⟨_, rfl, a, rfl, _, rfl, ifF n5 ?_⟩
    refine ⟨_, rfl, a, rfl, _, rfl, ifF n6 ?_⟩
    refine ⟨_, rfl, rfl, _, rfl, sg_if s_quo (fun e => absurd e n4) (fun _ => ?_)⟩
    refine ⟨_, rfl, c, r, z, i, line, ls, row, a, b :: rr, rfl, S, hi', hz, by omega, hrest, .inl ⟨g2, fun H' S' k' => ?_⟩⟩
    refine q (i + 2) line ls _ ts0 _ (by omega) (by omega) ?_ S' ?_ (by rw [hcol, List.append_assoc]; rfl) k'
    · rw [List.length_append, List.length_singleton]
      omega
    rw [h1]
    have e : ((i + 2 : Nat) : Int) - ls + 1 = col + 2 := by omega
    rw [e]
    exact t
  | @short a rr _ _ ts0 g1 g2 g3 t =>
    obtain ⟨h1, h2⟩ := after [a] rr rfl
    obtain ⟨n1, n2, n3, n4, n5, n6⟩ := g1
    have hl : [a].length = 1 := rfl
    rw [hl] at h1 h2
    refine ⟨_, rfl, c, _, dx, _, _, rfl, hc, T.cl_Cutter, T.na_text, fl_text _ _ _ _ _, _, rfl, c, _, dx, _, _, rfl, hc, T.cl_Cutter, T.na_at, fl_at _ _ _ _ _, z, _, a, rfl, rfl, by omega, at_char rfl (first _ _ rfl), ?_⟩
    refine ⟨_, rfl, rfl, _, rfl, sg_if s_nl (fun e => absurd e n1) (fun _ => ?_)⟩
    refine ⟨_, rfl, rfl, _, rfl, sg_if s_sp (fun e => absurd e n2) (fun _ => ?_)⟩
    refine ⟨_, rfl, rfl, _, rfl, sg_if s_hash (fun e => absurd e n3) (fun _ => ?_)⟩
    refine ⟨_, rfl, a, rfl, _, rfl, ifF n5 ?_⟩
    refine ⟨_, rfl, a, rfl, _, rfl, ifF n6 ?_⟩
    refine ⟨_, rfl, rfl, _, rfl, sg_if s_quo (fun e => absurd e n4) (fun _ => ?_)⟩
    refine ⟨_, rfl, c, r, z, i, line, ls, row, a, rr, rfl, S, hi', hz, by omega, hrest, .inr ⟨g2, g3, fun H' S' k' => ?_⟩⟩
    refine q (i + 1) line ls _ ts0 _ (by omega) (by omega) ?_ S' ?_ (by rw [hcol, List.append_assoc]; rfl) k'
    · rw [List.length_append, List.length_singleton]
      omega
    rw [h1]
    have e : ((i + 1 : Nat) : Int) - ls + 1 = col + 1 := by omega
    rw [e]
    exact t
def spTokens (K : PySem.W.Frag) : Sp := fun vs H Q _ => ∃ (z : Str) (ts : List PyData), vs = [.str z] ∧ z.length ≤ 8000 ∧ Lex (cp z) 1 1 ts ∧ ∀ (v : V) (H' : Hp), Same H H' → Dp K H' v (.tuple ts) → Q v H'
theorem ok_tokens (T : Tx K mg w) : FnOk P w K mg base CX0 5 T.d_tokens.f T.d_tokens.fd P_tokens (spTokens K) := by
  have G_Cutter_init := ok_Cutter_init (P := P) (w := w) (base := base) T
  have G_Cutter_put := ok_Cutter_put (P := P) (w := w) (base := base) T
  have G_cut := ok_cut (P := P) (w := w) (base := base) T
  refine T.d_tokens.F.ok sc_tokens (fun vs H Q E h => ?_) (fun cdv A outer s H vs Q E hr h => ?_)
  · obtain ⟨z, ts, rfl, _⟩ := h
    rfl
  obtain ⟨z, ts, rfl, hz, hlex, q⟩ := h
  refine ⟨_, (pss_cons (ps_if (pt_cmpR op_gt (pe_callB call_len_str (by rfl) T.z_len PySem.boot_len (pa_cons (pv 0) pa_nil)) (pe_glob (v := V.int (8000)) (by rfl) T.c_TEXT_CHARACTERS ⟨_, rfl⟩) (nomark _))
      (pss_one ps_never)
      pss_nil)
    (pss_cons (ps_set (i := 1) sc_tokens.nd rfl (Or.inl rfl) (pe_make T.mk_Cutter G_Cutter_init (hr.mono (by omega)) (by rfl) T.mg_Cutter T.d_Cutter_init.b .nil pass0 (pa_cons (pv 0) pa_nil)))
    (pss_cons (ps_while PassesOwn.never (pt_cmpR op_lt (pe_fld (pv 1) rfl) (pe_callB call_len_str (by rfl) T.z_len PySem.boot_len (pa_cons (pv 0) pa_nil)) (nomark _))
      (pss_one (ps_expr (pe_call G_cut (hr.mono (by omega)) (by rfl) T.d_cut.m T.d_cut.F.kp T.d_cut.b .nil pass0 (pa_cons (pv 1) pa_nil)))))
    (pss_cons (ps_expr (pe_meth (pv 1) T.cl_Cutter T.d_Cutter_put.mt G_Cutter_put (hr.mono (by omega)) T.d_Cutter_put.b .nil pass0 (pa_cons pe_str (pa_cons pe_str (pa_cons (pe_fld (pv 1) rfl) pa_nil)))))
    (pss_one (ps_ret (pe_callTy call_tuple_of (by rfl) T.z_tuple (by decide +kernel) (pa_cons (pe_fld (pv 1) rfl) pa_nil)))))))), ?_⟩
  have big : 10000 ≤ sizeLine := by decide
  refine ⟨_, rfl, _, rfl, by omega, _, _, rfl, rfl, _, rfl, ifF (decide_eq_false (by omega)) ?_⟩
  refine ⟨_, rfl, fun c dx nc ndx ne => ?_⟩
  refine ⟨c, dx, z, rfl, upd_same, fun r H1 nr S kp => ⟨rfl, ?_⟩⟩
  have s1 : Same H H1 := Same.made nc ndx kp
  have nr0 : H r = none := by
    have h : upd (upd H dx (.own c)) c (.ins T.C_Cutter dx []) r = none := nr
    by_cases e1 : r = c
    · subst e1
      rw [upd_same] at h
      cases h
    · rw [upd_ne e1] at h
      by_cases e2 : r = dx
      · subst e2
        rw [upd_same] at h
        cases h
      · rw [upd_ne e2] at h
        exact h
  refine ⟨fun m σ H2 => ∃ (i : Nat) (line ls : Int) (row ts' : List PyData), σ = [some (.str z), some (.ref c)] ∧ CutS K T.C_Cutter H2 c r z i line ls row ∧ i ≤ z.length ∧ row.length ≤ i ∧ Lex ((cp z).drop i) line (i - ls + 1) ts' ∧ row ++ ts' = ts ∧ Same H H2 ∧ m = z.length - i,
    ⟨_, 0, 1, 0, [], ts, rfl, S, Nat.zero_le _, Nat.le_refl 0, (by simpa using hlex), rfl, s1, rfl⟩, ?_⟩
  rintro m σ H2 ⟨i, line, ls, row, ts', rfl, S2, hi, hrow, hl, he, s2, rfl⟩
  obtain ⟨⟨dx2, hc⟩, _, _⟩ := id S2
  have keep : ∀ {H3 H4 : Hp}, Same H H3 → KeepC c r H3 H4 → Same H H4 := fun a k b o h => k b o (a b o h) (ne_of_none h nc) (ne_of_none h nr0)
  refine ⟨_, rfl, c, _, dx2, _, _, rfl, hc, T.cl_Cutter, T.na_at, fl_at _ _ _ _ _, _, rfl, _, rfl, by omega, _, _, rfl, rfl, _, rfl, ite2 (fun g => ?_) (fun g => ?_)⟩
  · have g' : (i : Int) < ((z.length : Nat) : Int) := of_decide_eq_true g
    refine ⟨_, fun _ _ h => h, ?_⟩
    refine ⟨_, rfl, c, r, z, i, line, ls, row, ts', rfl, S2, by omega, hz, hrow, hl, fun i' line' ls' row' ts2 H3 a1 a2 a3 S3 l3 e3 k3 => ?_⟩
    exact ⟨z.length - i', by omega, i', line', ls', row', ts2, rfl, S3, a2, a3, l3, e3.trans he, keep s2 k3, rfl⟩
  · have g' : ¬ (i : Int) < ((z.length : Nat) : Int) := fun h => g (decide_eq_true h)
    have ei : i = z.length := by omega
    have hnil : (cp z).drop i = [] := List.drop_eq_nil_of_le (by rw [len_cp]; omega)
    rw [hnil] at hl
    have nkc : (flds z i line ls r).lookup ("put" : Str) = none := nk
    cases hl
    refine ⟨_, rfl, c, dx2, _, rfl, hc, nkc, _, rfl, c, _, dx2, _, _, rfl, hc, T.cl_Cutter, T.na_at, fl_at _ _ _ _ _, c, r, z, _, _, _, _, _, _, _, row, rfl, .str _, by omega, S2, fun H3 S3 k3 => ?_⟩
    obtain ⟨⟨dx3, hc3⟩, ⟨vs, hv, hd⟩, hn⟩ := id S3
    refine ⟨_, rfl, c, _, dx3, _, _, rfl, hc3, T.cl_Cutter, T.na_row, fl_row _ _ _ _ _, r, _, rfl, .inl ⟨SqL.of hv, fun t nt => ?_⟩⟩
    have s4 := same_new nt (.tup vs)
    refine q _ _ ((keep s2 k3).trans s4) ?_
    rw [← he]
    exact .tup (SqT.of upd_same) (dp_keepXs (KeepX.same s4) hn hd)
/-! ### texts by their signs -/
abbrev mk (l : List Nat) : Str := ⟨l.toArray⟩
theorem mk_len (l : List Nat) : (mk l).length = l.length := by
  show l.toArray.size = _
  rw [List.size_toArray]
theorem mk_app (a b : List Nat) : mk a ++ mk b = mk (a ++ b) := congrArg Str.mk (by simp)
theorem mk_cp (z : Str) : mk (cp z) = z := by
  cases z
  simp [mk]
theorem cp_mk (l : List Nat) : cp (mk l) = l := by simp
theorem mk_inj {a b : List Nat} (h : mk a = mk b) : a = b := by
  have e := congrArg cp h
  rw [cp_mk, cp_mk] at e
  exact e
section
open PySem.Spec PyProof.Rows
variable {X : Cx}
/-- a text, n times -/
def rMulS : R2 := fun x y H Q => ∃ (z : Str) (n : Int), x = .str z ∧ y = .int n ∧ 0 ≤ n ∧ n ≤ 1000 ∧ z.length ≤ 1000 ∧ Q (.str (mk (List.replicate n.toNat (cp z)).flatten)) H
theorem rep_acc (c : Array Nat) : ∀ (n : Nat) (acc : List Nat), List.foldl (fun x y => x ++ y) acc.toArray (List.replicate n c) = (acc ++ (List.replicate n c.toList).flatten).toArray
  | 0, acc => by simp
  | n + 1, acc => by
    have e : acc.toArray ++ c = (acc ++ c.toList).toArray := by simp
    rw [List.replicate_succ, List.foldl_cons, e, rep_acc c n (acc ++ c.toList), List.replicate_succ, List.append_assoc]
    rfl
theorem rep_len (c : List Nat) : ∀ n : Nat, (List.replicate n c).flatten.length = n * c.length
  | 0 => by simp
  | n + 1 => by
    rw [List.replicate_succ, List.flatten_cons, List.length_append, rep_len c n, Nat.succ_mul]
    omega
theorem op_mulS : OpR X (binaryOp .Mult) rMulS := by
  intro pins s σ H x y v u Q I rx ry h
  obtain ⟨z, n, rfl, rfl, h0, h1, hz, q⟩ := h
  obtain ⟨t, rfl⟩ := rx
  obtain ⟨t', rfl⟩ := ry
  have hs : 1000000 ≤ sizeLine := by decide
  have prod : z.length * n.toNat ≤ 1000 * 1000 := Nat.mul_le_mul hz (by omega)
  refine PySem.P.mul_str ?_ ?_ ?_ ?_
  · rw [decide_eq_false (by omega), decide_eq_false (by omega)]
    rfl
  · intro a _ g
    have d : 1000 ≤ (2 ^ 63 - 1 : Int) / n := (Int.le_ediv_iff_mul_le (by omega)).mpr (by omega)
    omega
  · intro _ _
    show decide (z.length * n.toNat > sizeLine) = false
    exact decide_eq_false (by omega)
  · have hacc := rep_acc z.cps n.toNat []
    rw [List.nil_append] at hacc
    by_cases a : n < 1
    · rw [if_pos a]
      have e : n = 0 := by omega
      subst e
      exact ⟨by decide, .str _, H, I.tok _, ⟨_, rfl⟩, q⟩
    · rw [if_neg a]
      cases e : (n == 1 || z.length == 0) with
      | true =>
        rw [if_pos rfl]
        have ez : mk (List.replicate n.toNat (cp z)).flatten = z := by
          rw [Bool.or_eq_true] at e
          rcases e with e | e
          · have e' : n = 1 := eq_of_beq e
            subst e'
            show mk (List.replicate 1 (cp z)).flatten = z
            rw [List.replicate_one, List.flatten_cons, List.flatten_nil, List.append_nil, mk_cp]
          · have e' : z.length = 0 := eq_of_beq e
            have e2 : cp z = [] := List.eq_nil_of_length_eq_zero (by rw [len_cp]; exact e')
            have e3 : z = mk [] := by rw [← e2, mk_cp]
            rw [e2, e3]
            have : (List.replicate n.toNat ([] : List Nat)).flatten = [] := List.eq_nil_of_length_eq_zero (by rw [rep_len]; simp)
            rw [this]
        rw [ez] at q
        exact ⟨.str z, H, I, ⟨_, rfl⟩, q⟩
      | false =>
        rw [if_neg Bool.false_ne_true]
        have z2 : (⟨List.foldl (fun x1 x2 => x1 ++ x2) #[] (List.replicate n.toNat z.cps)⟩ : Str) = mk (List.replicate n.toNat (cp z)).flatten := congrArg Str.mk hacc
        refine ⟨?_, .str (mk (List.replicate n.toNat (cp z)).flatten), H, I.tok _, ⟨s.toks, ?_⟩, q⟩
        · rw [z2, mk_len, rep_len, len_cp, Nat.mul_comm]
          omega
        · rw [z2]
end
theorem rep_one (n c : Nat) : (List.replicate n [c]).flatten = List.replicate n c := by
  induction n with
  | zero => rfl
  | succ n ih => rw [List.replicate_succ, List.flatten_cons, ih, List.replicate_succ]; rfl
/-- a loop over the signs of a text -/
theorem for_signs {x : Str} {g : TG} {tb : TS} {D : Ends} {σ : L2.St} {H : Hp} (Pv : Nat → L2.St → Hp → Prop) (h0 : Pv 0 σ H)
    (hs : ∀ i c σ H, (cp x)[i]? = some c → Pv i σ H → g (.str (sg c)) σ H fun σ2 H2 => tb { D with nx := Pv (i + 1), ct := Pv (i + 1), bk := D.nx } σ2 H2) (hd : ∀ σ H, Pv x.length σ H → D.nx σ H) :
    ∃ W : Nat → Nat → L2.St → Hp → Prop, (∃ m, W 0 m σ H) ∧ ∀ i m σ H, W i m σ H →
      ((Its x).stop i H ∧ D.nx σ H) ∨ ((Its x).go i H ∧ ∃ N : L2.St → Hp → Prop, (∀ σ' H', N σ' H' → ∃ m', m' < m ∧ W (i + 1) m' σ' H') ∧ ∀ y H', (Its x).yld i H y H' → g y σ H' fun σ2 H2 => tb { D with nx := N, ct := N, bk := D.nx } σ2 H2) := by
  have ez : x.cps.size = x.length := rfl
  refine ⟨fun i m σ H => m = x.length - i ∧ i ≤ x.length ∧ Pv i σ H, ⟨x.length, rfl, Nat.zero_le _, h0⟩, ?_⟩
  rintro i m σ H ⟨rfl, hi, p⟩
  by_cases hlt : i < x.length
  · refine .inr ⟨hlt, Pv (i + 1), fun σ' H' p' => ⟨x.length - (i + 1), by omega, rfl, hlt, p'⟩, ?_⟩
    rintro y H' ⟨rfl, c, hc, rfl⟩
    exact hs i c σ _ (by rw [← hc, Array.getElem?_toList]) p
  · have e : i = x.length := by omega
    subst e
    exact .inl ⟨Nat.le_refl _, hd σ H p⟩
theorem KeepX.keep {p : Addr} {H H' : Hp} (hp : ∃ xs, H p = some (.lst xs)) (k : Keep p H H') : KeepX H H' := fun a xs h => by
  obtain ⟨ys, hp⟩ := hp
  rcases h with h | ⟨o, h⟩
  · exact .inl (k _ _ h (ne_of h hp (fun e => by cases e)))
  · exact .inr ⟨o, k _ _ h (ne_of h hp (fun e => by cases e))⟩
theorem BoxAt.lst {H : Hp} {p l : Addr} (B : BoxAt H p l) : ∃ xs, H p = some (.lst xs) := by
  obtain ⟨⟨k, _, h⟩, _, _⟩ := B
  exact ⟨_, h⟩
/-! ### pieces of a text -/
def Guard (tok rest : List Nat) : Prop := ∀ a t, rest = a :: t → ¬ (tok.getLast?.any isName = true ∧ isName a = true) ∧ ¬ ((tok = [60] ∨ tok = [62] ∨ tok = [61]) ∧ a = 61)
/-- a piece that is cut as one token -/
structure Cuts (tok : List Nat) (kind : Str) (d : PyData) : Prop where
  ne : tok ≠ []
  nn : ∀ x ∈ tok, x ≠ 10
  cut : ∀ (rest : List Nat) (l c : Int) (ts : List PyData), Guard tok rest → Lex rest l (c + ((tok.length : Nat) : Int)) ts → Lex (tok ++ rest) l c (tokD kind d l c :: ts)
theorem name_no10 {d : Nat} (h : isName d = true) : d ≠ 10 := by
  intro e
  subst e
  revert h
  decide
theorem digit_name {a : Nat} (h : isDigit a = true) : isName a = true := by
  unfold isName
  rw [h, Bool.or_true]
  rfl
theorem last_name : ∀ (a : Nat) (w : List Nat), isName a = true → (∀ d ∈ w, isName d = true) → (a :: w).getLast?.any isName = true
  | a, [], h, _ => by simpa using h
  | a, b :: w, _, h2 => by
    have ih := last_name b w (h2 b List.mem_cons_self) fun d hd => h2 d (List.mem_cons_of_mem _ hd)
    rw [List.getLast?_cons_cons]
    exact ih
theorem stops_of {tok rest : List Nat} (g : Guard tok rest) (h : tok.getLast?.any isName = true) : Stops isName rest := fun d t e => by
  have g1 := (g d t e).1
  cases q : isName d with
  | false => rfl
  | true => exact absurd ⟨h, q⟩ g1
theorem cuts_name {a : Nat} {w : List Nat} (h1 : isLetter a = true) (h2 : ∀ d ∈ w, isName d = true) (h4 : w.length + 1 ≤ 20) : Cuts (a :: w) (kwD (a :: w)) (.str (mk (a :: w))) := by
  refine ⟨by simp, fun x hx => ?_, fun rest l c ts g t => ?_⟩
  · rcases List.mem_cons.mp hx with rfl | hx
    · exact name_no10 (letter_name h1)
    · exact name_no10 (h2 _ hx)
  · exact Lex.name h1 h2 (stops_of g (last_name a w (letter_name h1) h2)) h4 (by simpa using t)
theorem cuts_num {a : Nat} {w : List Nat} {n : Int} (h1 : isDigit a = true) (h2 : ∀ d ∈ w, isDigit d = true) (h4 : w.length + 1 ≤ 60) (h5 : PySem.intText? (mk (a :: w)) = some n) : Cuts (a :: w) "number" (.int n) := by
  refine ⟨by simp, fun x hx => ?_, fun rest l c ts g t => ?_⟩
  · rcases List.mem_cons.mp hx with rfl | hx
    · exact name_no10 (digit_name h1)
    · exact name_no10 (digit_name (h2 _ hx))
  · exact Lex.num h1 h2 (stops_of g (last_name a w (digit_name h1) fun d hd => digit_name (h2 d hd))) h4 h5 (by simpa using t)
theorem Lit.no10 {s m : List Nat} (h : Lit s m) : ∀ x ∈ s, x ≠ 10 := by
  induction h with
  | nil => intro x hx; cases hx
  | plain _ _ h3 _ ih =>
    intro x hx
    rcases List.mem_cons.mp hx with rfl | hx
    · exact h3
    · exact ih x hx
  | esc h _ ih =>
    intro x hx
    rcases List.mem_cons.mp hx with rfl | hx
    · decide
    rcases List.mem_cons.mp hx with rfl | hx
    · omega
    · exact ih x hx
theorem Lit.app {s m s' m' : List Nat} (h : Lit s m) (h' : Lit s' m') : Lit (s ++ s') (m ++ m') := by
  induction h with
  | nil => exact h'
  | plain a b c _ ih => exact .plain a b c ih
  | esc a _ ih => exact .esc a ih
theorem cuts_lit {s m : List Nat} (h : Lit s m) (h2 : m.length ≤ 100) : Cuts (34 :: (s ++ [34])) "text" (.str (mk m)) := by
  refine ⟨by simp, fun x hx => ?_, fun rest l c ts _ t => ?_⟩
  · rcases List.mem_cons.mp hx with rfl | hx
    · decide
    rcases List.mem_append.mp hx with hx | hx
    · exact h.no10 x hx
    · rw [List.mem_singleton] at hx
      subst hx
      decide
  · have e : (34 :: (s ++ [34])) ++ rest = 34 :: (s ++ 34 :: rest) := by simp
    rw [e]
    refine Lex.lit h h2 ?_
    have e2 : ((34 :: (s ++ [34])).length : Nat) = s.length + 2 := by simp
    rw [e2] at t
    exact t
theorem long_pair {a b : Nat} (h : (⟨[a, b].toArray⟩ : Str) ∈ L_LONG_SIGNS) : b = 61 ∧ (a = 60 ∨ a = 62 ∨ a = 61 ∨ a = 33) := by
  have e1 : L_LONG_SIGNS = [mk [60, 61], mk [62, 61], mk [61, 61], mk [33, 61]] := by decide +kernel
  rw [e1] at h
  simp only [List.mem_cons, List.not_mem_nil, or_false] at h
  rcases h with h | h | h | h <;> (have e := mk_inj h; simp only [List.cons.injEq, and_true] at e; omega)
theorem long_single {a : Nat} : ¬ (⟨[a].toArray⟩ : Str) ∈ L_LONG_SIGNS := fun h => by
  have e1 : L_LONG_SIGNS = [mk [60, 61], mk [62, 61], mk [61, 61], mk [33, 61]] := by decide +kernel
  rw [e1] at h
  simp only [List.mem_cons, List.not_mem_nil, or_false] at h
  rcases h with h | h | h | h <;> (have e := mk_inj h; simp at e)
theorem cuts_short {a : Nat} (h1 : Other a) (h3 : sg a ∈ L_SHORT_SIGNS) (h33 : a ≠ 33) : Cuts [a] "sign" (.str (sg a)) := by
  refine ⟨by simp, fun x hx => ?_, fun rest l c ts g t => ?_⟩
  · rw [List.mem_singleton] at hx
    subst hx
    exact h1.1
  · refine Lex.short h1 ?_ h3 (by simpa using t)
    cases rest with
    | nil => exact long_single
    | cons b r =>
      intro h
      obtain ⟨e1, e2⟩ := long_pair (a := a) (b := b) h
      exact (g b r rfl).2 ⟨by rcases e2 with e | e | e | e <;> simp_all, e1⟩
theorem cuts_long {a b : Nat} (h1 : Other a) (h2 : mk [a, b] ∈ L_LONG_SIGNS) : Cuts [a, b] "sign" (.str (mk [a, b])) := by
  obtain ⟨e1, e2⟩ := long_pair h2
  refine ⟨by simp, fun x hx => ?_, fun rest l c ts _ t => ?_⟩
  · simp only [List.mem_cons, List.not_mem_nil, or_false] at hx
    rcases hx with rfl | rfl <;> omega
  · exact Lex.long h1 h2 t
/-- where a text leads from a place -/
def mv : List Nat → Int → Int → Int × Int
  | [], l, c => (l, c)
  | d :: r, l, c => if d = 10 then mv r (l + 1) 1 else mv r l (c + 1)
theorem mv_app : ∀ (a b : List Nat) (l c : Int), mv (a ++ b) l c = mv b (mv a l c).1 (mv a l c).2
  | [], _, _, _ => rfl
  | d :: r, b, l, c => by
    show (if d = 10 then mv (r ++ b) (l + 1) 1 else mv (r ++ b) l (c + 1)) = _
    by_cases h : d = 10
    · have e : mv (d :: r) l c = mv r (l + 1) 1 := if_pos h
      rw [if_pos h, e, mv_app]
    · have e : mv (d :: r) l c = mv r l (c + 1) := if_neg h
      rw [if_neg h, e, mv_app]
theorem mv_line : ∀ (a : List Nat) (l c : Int), (∀ x ∈ a, x ≠ 10) → mv a l c = (l, c + ((a.length : Nat) : Int))
  | [], l, c, _ => by
    show (l, c) = _
    simp
  | d :: r, l, c, h => by
    have e : mv (d :: r) l c = mv r l (c + 1) := if_neg (h d List.mem_cons_self)
    rw [e, mv_line r l (c + 1) fun x hx => h x (List.mem_cons_of_mem _ hx)]
    simp only [List.length_cons]
    rw [Prod.mk.injEq]
    exact ⟨rfl, by omega⟩
/-- what separates pieces -/
structure Sep (b : List Nat) : Prop where
  cut : ∀ (rest : List Nat) (l c : Int) (ts : List PyData), Lex rest (mv b l c).1 (mv b l c).2 ts → Lex (b ++ rest) l c ts
  head : ∀ a t, b = a :: t → a = 10 ∨ a = 32
theorem sep_nil : Sep [] := ⟨fun _ _ _ _ h => h, fun _ _ e => nomatch e⟩
theorem sep_sp {b : List Nat} (h : Sep b) : Sep (32 :: b) :=
  ⟨fun rest l c ts t => Lex.sp (h.cut rest l (c + 1) ts t), fun a t e => .inr (by cases e; rfl)⟩
theorem sep_nl {b : List Nat} (h : Sep b) : Sep (10 :: b) :=
  ⟨fun rest l c ts t => Lex.nl (h.cut rest (l + 1) 1 ts t), fun a t e => .inl (by cases e; rfl)⟩
theorem sep_rem {w : List Nat} (hw : ∀ d ∈ w, d ≠ 10) : Sep (32 :: 35 :: (w ++ [10])) := by
  refine ⟨fun rest l c ts t => ?_, fun a t e => .inr (by cases e; rfl)⟩
  have e1 : mv (32 :: 35 :: (w ++ [10])) l c = (l + 1, 1) := by
    show mv (w ++ [10]) l (c + 1 + 1) = _
    rw [mv_app, mv_line w _ _ hw]
    rfl
  rw [e1] at t
  have e2 : (32 :: 35 :: (w ++ [10])) ++ rest = 32 :: 35 :: (w ++ (10 :: rest)) := by simp
  rw [e2]
  exact Lex.sp (Lex.rem hw (.inr ⟨_, rfl⟩) (Lex.nl t))
theorem sep_sps : ∀ n : Nat, Sep (List.replicate n 32)
  | 0 => sep_nil
  | n + 1 => sep_sp (sep_sps n)
theorem sep_nls {b : List Nat} (h : Sep b) : ∀ n : Nat, Sep (List.replicate n 10 ++ b)
  | 0 => h
  | n + 1 => sep_nl (sep_nls h n)
/-! ### words and signs as tokens -/
theorem Keep.fresh {p r : Addr} {H H' : Hp} (k : Keep p H H') (n : r ≠ p) (h : H' r = none) : H r = none := by
  cases e : H r with
  | none => rfl
  | some o =>
    rw [k r o e n] at h
    cases h
theorem str_at {xs : List Str} {i : Int} (h0 : 0 ≤ i) (h1 : i < ((xs.length : Nat) : Int)) : ∃ x ∈ xs, atI (xs.map V.str) i = some (V.str x) := by
  have hk : i.toNat < xs.length := by omega
  refine ⟨xs[i.toNat], List.getElem_mem hk, at_of (j := i.toNat) (by omega) ?_⟩
  rw [List.getElem?_map, List.getElem?_eq_getElem hk]
  rfl
instance (a : Nat) : Decidable (Other a) := by
  unfold Other
  infer_instance
theorem kw_cuts {x : Str} (h : x ∈ L_KEYWORDS) : Cuts (cp x) "word" (.str x) ∧ x.length ≤ 20 := by
  have g : (L_KEYWORDS.all fun x => match cp x with | [] => false | a :: wd => isLetter a && wd.all isName && decide (wd.length + 1 ≤ 20)) = true := by decide +kernel
  have a := List.all_eq_true.mp g x h
  have e := mk_cp x
  have hl := len_cp x
  revert a e hl
  cases cp x with
  | nil =>
    intro a
    cases a
  | cons a wd =>
    intro b e hl
    simp only [Bool.and_eq_true, List.all_eq_true, decide_eq_true_eq] at b
    have c := cuts_name b.1.1 b.1.2 b.2
    have k : kwD (a :: wd) = "word" := if_pos (by rw [show (⟨(a :: wd).toArray⟩ : Str) = x from e]; exact h)
    rw [k, e] at c
    simp only [List.length_cons] at hl
    exact ⟨c, by omega⟩
def signT : Str := "<= >= == != ( ) { } [ ] , ; . = + - * / & < >"
def SIGNS : List Str := ["<=", ">=", "==", "!=", "(", ")", "{", "}", "[", "]", ",", ";", ".", "=", "+", "-", "*", "/", "&", "<", ">"]
theorem sign_split : Txt.split signT (" " : Str) = SIGNS := by decide +kernel
theorem sign_len : signT.length + 2 ≤ sizeLine := by decide +kernel
theorem sign_cuts {x : Str} (h : x ∈ SIGNS) : Cuts (cp x) "sign" (.str x) ∧ x.length ≤ 2 := by
  have g : (SIGNS.all fun x => match cp x with | [a] => decide (Other a) && decide (sg a ∈ L_SHORT_SIGNS) && decide (a ≠ 33) | [a, b] => decide (Other a) && decide (mk [a, b] ∈ L_LONG_SIGNS) | _ => false) = true := by decide +kernel
  have a := List.all_eq_true.mp g x h
  have e := mk_cp x
  have hl := len_cp x
  revert a e hl
  match cp x with
  | [] =>
    intro a
    cases a
  | [a] =>
    intro b e hl
    simp only [Bool.and_eq_true, decide_eq_true_eq] at b
    have c := cuts_short b.1.1 b.1.2 b.2
    rw [show (sg a : Str) = x from e] at c
    simp only [List.length_cons, List.length_nil] at hl
    exact ⟨c, by omega⟩
  | [a, b] =>
    intro d e hl
    simp only [Bool.and_eq_true, decide_eq_true_eq] at d
    have c := cuts_long d.1 d.2
    rw [e] at c
    simp only [List.length_cons, List.length_nil] at hl
    exact ⟨c, by omega⟩
  | _ :: _ :: _ :: _ =>
    intro a
    cases a
/-! ### what the law draws -/
def sgn : Str := ((" !\"#$&'()*+,-./0123456789:;<=>?@ABCDEFGHIJKLMNOPQRSTUVWXYZ[\\]^_`" : Str) ++ ("abcdefghijklmnopqrstuvwxyz{|}~\n" : Str))
theorem sgn_len : sgn.length = 95 := by decide +kernel
theorem sgn_at {i : Int} (h0 : 0 ≤ i) (h1 : i < 95) : ∃ c, atI sgn.cps.toList i = some c := by
  have hl := len_cp sgn
  rw [sgn_len] at hl
  have hk : i.toNat < sgn.cps.toList.length := by
    have : (cp sgn).length = sgn.cps.toList.length := rfl
    omega
  have g : sgn.cps.toList[i.toNat]? = some sgn.cps.toList[i.toNat] := List.getElem?_eq_getElem hk
  exact ⟨_, at_char (by omega) g⟩
def spSign : Sp := fun vs H Q _ => ∃ (p l : Addr), vs = [.ref p] ∧ BoxAt H p l ∧ ∀ (c : Nat) (H' : Hp), BoxAt H' p l → Keep p H H' → Q (.str (sg c)) H'
theorem ok__law_sign (T : Tx K mg w) : FnOk P w K mg base CX0 2 T.d__law_sign.f T.d__law_sign.fd P__law_sign spSign := by
  have G__law_draw := ok__law_draw (P := P) (w := w) (base := base) T
  refine T.d__law_sign.F.ok sc__law_sign (fun vs H Q E h => ?_) (fun cdv A outer s H vs Q E hr h => ?_)
  · obtain ⟨p, l, rfl, _⟩ := h
    rfl
  obtain ⟨p, l, rfl, B, q⟩ := h
  refine ⟨_, (pss_cons (ps_set (i := 1) sc__law_sign.nd rfl (Or.inl rfl) pe_str)
    (pss_cons (ps_set (i := 1) sc__law_sign.nd rfl (Or.inl rfl) (pe_op op_add_str (pv 1) pe_str))
    (pss_one (ps_ret (pe_ix ix_str (pv 1) (pe_call G__law_draw (hr.mono (by omega)) (by rfl) T.d__law_draw.m T.d__law_draw.F.kp T.d__law_draw.b .nil pass0 (pa_cons (pv 0) (pa_cons pe_int pa_nil))) (fun _ _ => rfl)))))), ?_⟩
  refine ⟨_, rfl, _, _, rfl, rfl, (by decide +kernel), ?_⟩
  have hsg : sgn.length ≤ sizeLine := by rw [sgn_len]; decide
  have eg : ((" !\"#$&'()*+,-./0123456789:;<=>?@ABCDEFGHIJKLMNOPQRSTUVWXYZ[\\]^_`" : Str) ++ ("abcdefghijklmnopqrstuvwxyz{|}~\n" : Str)) = sgn := rfl
  rw [eg]
  refine ⟨_, rfl, _, rfl, p, l, _, rfl, by decide, B, fun i H2 i0 i1 B2 k2 => ?_⟩
  obtain ⟨c, hc⟩ := sgn_at i0 i1
  exact ⟨_, _, c, rfl, rfl, hsg, hc, q c H2 B2 k2⟩
/-- a text as a literal -/
theorem lit_one (c : Nat) : (c = 10 ∧ Lit [92, 110] [10]) ∨ (c ≠ 10 ∧ (c = 34 ∨ c = 92) ∧ Lit [92, c] [c]) ∨ (c ≠ 10 ∧ c ≠ 34 ∧ c ≠ 92 ∧ Lit [c] [c]) := by
  by_cases h1 : c = 10
  · exact .inl ⟨h1, .esc (d := 110) (.inr (.inr rfl)) .nil⟩
  by_cases h2 : c = 34 ∨ c = 92
  · refine .inr (.inl ⟨h1, h2, ?_⟩)
    rcases h2 with rfl | rfl
    · exact .esc (d := 34) (.inl rfl) .nil
    · exact .esc (d := 92) (.inr (.inl rfl)) .nil
  · exact .inr (.inr ⟨h1, fun e => h2 (.inl e), fun e => h2 (.inr e), .plain (by omega) (by omega) h1 .nil⟩)
def spSpelled : Sp := fun vs H Q _ => ∃ z : Str, vs = [.str z] ∧ z.length ≤ 1000 ∧ ∀ s : List Nat, Lit s (cp z) → Q (.str (mk (34 :: (s ++ [34])))) H
theorem Lit.src {s m : List Nat} (h : Lit s m) : s.length ≤ 2 * m.length := by
  induction h with
  | nil => exact Nat.le_refl 0
  | plain _ _ _ _ ih => simp only [List.length_cons]; omega
  | esc _ _ ih => simp only [List.length_cons]; omega
theorem ok__law_spelled (T : Tx K mg w) : FnOk P w K mg base CX0 1 T.d__law_spelled.f T.d__law_spelled.fd P__law_spelled spSpelled := by
  refine T.d__law_spelled.F.ok sc__law_spelled (fun vs H Q E h => ?_) (fun cdv A outer s H vs Q E hr h => ?_)
  · obtain ⟨z, rfl, _⟩ := h
    rfl
  obtain ⟨z, rfl, hz, q⟩ := h
  refine ⟨_, (pss_cons (ps_set (i := 1) sc__law_spelled.nd rfl (Or.inl rfl) pe_str)
    (pss_cons (ps_for PassesOwn.never rfl (pi_str (pv 0)) (pg_name (i := 2) sc__law_spelled.nd rfl (Or.inl rfl))
      (pss_one (ps_if (pt_cmpR op_eq (pv 2) pe_str (nomark _))
      (pss_one (ps_set (i := 1) sc__law_spelled.nd rfl (Or.inl rfl) (pe_op op_add_str (pv 1) pe_str)))
      (pss_one (ps_if (PW.pt (pw_or (pt_cmpR op_eq (pv 2) pe_str (nomark _)) (pw_or1 (pt_cmpR op_eq (pv 2) pe_str (nomark _)))))
      (pss_one (ps_set (i := 1) sc__law_spelled.nd rfl (Or.inl rfl) (pe_op op_add_str (pe_op op_add_str (pv 1) pe_str) (pv 2))))
      (pss_one (ps_set (i := 1) sc__law_spelled.nd rfl (Or.inl rfl) (pe_op op_add_str (pv 1) (pv 2)))))))))
    (pss_one (ps_ret (pe_op op_add_str (pe_op op_add_str pe_str (pv 1)) pe_str))))), ?_⟩
  have big : 10000 ≤ sizeLine := by decide
  have e0 : Str.ofString "" = mk [] := by decide +kernel
  have e1 : Str.ofString "\\n" = mk [92, 110] := by decide +kernel
  have cpl := len_cp z
  refine ⟨_, rfl, z, rfl, for_signs (x := z) (fun i σ H1 => ∃ (t : Str) (src : List Nat) (v2 : Option V), σ = [some (.str z), some (.str t), v2] ∧ t = mk src ∧ Lit src ((cp z).take i) ∧ H1 = H) ⟨_, [], none, rfl, e0, .nil, rfl⟩ ?_ ?_⟩
  · rintro i c σ H1 hc ⟨t, src, v2, rfl, ht, hl, rfl⟩
    have hi : i < (cp z).length := (List.getElem?_eq_some_iff.mp hc).1
    have ei : (cp z).take (i + 1) = (cp z).take i ++ [c] := by
      rw [List.take_add_one, hc]
      rfl
    have tl : t.length ≤ 2 * i := by
      have := hl.src
      rw [List.length_take, Nat.min_eq_left (by omega)] at this
      rw [ht, mk_len]
      exact this
    have l2 : (Str.ofString "\\n").length = 2 := by decide +kernel
    have l1 : (Str.ofString "\\").length = 1 := by decide +kernel
    have lc : (sg c).length = 1 := rfl
    have lapp : (t ++ Str.ofString "\\").length = t.length + (Str.ofString "\\").length := PySem.Str.length_append ..
    refine ⟨_, rfl, rfl, _, rfl, sg_if s_nl (fun e => ?_) (fun n1 => ?_)⟩
    · refine ⟨_, rfl, _, _, rfl, rfl, by omega, ?_⟩
      refine ⟨_, src ++ [92, 110], _, rfl, ?_, ?_, rfl⟩
      · rw [ht, e1]
        exact mk_app _ _
      · rw [ei, e]
        exact hl.app (.esc (d := 110) (.inr (.inr rfl)) .nil)
    · have esc : (c = 34 ∨ c = 92) → ∃ (t' : Str) (src' : List Nat) (v2 : Option V), [some (V.str z), some (V.str ((t ++ Str.ofString "\\") ++ sg c)), some (V.str (sg c))] = [some (V.str z), some (V.str t'), v2] ∧ t' = mk src' ∧ Lit src' ((cp z).take (i + 1)) ∧ H1 = H1 := fun hh => by
        refine ⟨_, src ++ [92, c], _, rfl, ?_, ?_, rfl⟩
        · rw [ht, s_bs]
          show mk src ++ mk [92] ++ mk [c] = _
          rw [mk_app, mk_app, List.append_assoc]
          rfl
        · rw [ei]
          refine hl.app ?_
          rcases hh with rfl | rfl
          · exact .esc (d := 34) (.inl rfl) .nil
          · exact .esc (d := 92) (.inr (.inl rfl)) .nil
      refine ⟨_, rfl, rfl, _, rfl, sg_if s_quo (fun e => ?_) (fun n2 => ?_)⟩
      · exact ⟨_, rfl, _, _, rfl, rfl, by omega, _, rfl, _, _, rfl, rfl, by omega, esc (.inl e)⟩
      · refine ⟨_, rfl, rfl, _, rfl, sg_if s_bs (fun e => ?_) (fun n3 => ?_)⟩
        · exact ⟨_, rfl, _, _, rfl, rfl, by omega, _, rfl, _, _, rfl, rfl, by omega, esc (.inr e)⟩
        · refine ⟨_, rfl, _, rfl, _, _, rfl, rfl, by omega, ?_⟩
          refine ⟨_, src ++ [c], _, rfl, ?_, ?_, rfl⟩
          · rw [ht]
            exact mk_app _ _
          · rw [ei]
            exact hl.app (.plain n2 n3 n1 .nil)
  · rintro σ H1 ⟨t, src, v2, rfl, ht, hl, rfl⟩
    rw [← cpl, List.take_length] at hl
    have tl : t.length ≤ 2 * z.length := by
      have := hl.src
      rw [ht, mk_len]
      omega
    have lq : (Str.ofString "\"").length = 1 := by decide +kernel
    have lapp : (Str.ofString "\"" ++ t).length = (Str.ofString "\"").length + t.length := PySem.Str.length_append ..
    refine ⟨_, rfl, _, _, rfl, rfl, by omega, _, _, rfl, rfl, by omega, ?_⟩
    have ez : (Str.ofString "\"" ++ t) ++ Str.ofString "\"" = mk (34 :: (src ++ [34])) := by
      rw [ht, s_quo]
      show mk [34] ++ mk src ++ mk [34] = _
      rw [mk_app, mk_app]
      rfl
    rw [ez]
    exact q src hl
theorem cutS_first {z : Str} {n : Nat} : (cutS z none (some (n : Int))).length ≤ n := by
  unfold cutS
  rw [HT.sIx_nat]
  show (List.toArray _).size ≤ n
  rw [List.size_toArray, List.length_take]
  omega
def spChars : Sp := fun vs H Q _ => ∃ (p l : Addr), vs = [.ref p] ∧ BoxAt H p l ∧ ∀ (z : Str) (H' : Hp), z.length ≤ 100 → BoxAt H' p l → Keep p H H' → Q (.str z) H'
theorem ok__law_characters (T : Tx K mg w) : FnOk P w K mg base CX0 3 T.d__law_characters.f T.d__law_characters.fd P__law_characters spChars := by
  have G__law_draw := ok__law_draw (P := P) (w := w) (base := base) T
  have G__law_sign := ok__law_sign (P := P) (w := w) (base := base) T
  refine T.d__law_characters.F.ok sc__law_characters (fun vs H Q E h => ?_) (fun cdv A outer s H vs Q E hr h => ?_)
  · obtain ⟨p, l, rfl, _⟩ := h
    rfl
  obtain ⟨p, l, rfl, B, q⟩ := h
  refine ⟨_, (pss_cons (ps_set (i := 1) sc__law_characters.nd rfl (Or.inl rfl) pe_str)
    (pss_cons (ps_for PassesOwn.never rfl (pi_range1 (by rfl) T.z_range (pa_cons (pe_call G__law_draw (hr.mono (by omega)) (by rfl) T.d__law_draw.m T.d__law_draw.F.kp T.d__law_draw.b .nil pass0 (pa_cons (pv 0) (pa_cons pe_int pa_nil))) pa_nil)) (pg_name (i := 2) sc__law_characters.nd rfl (Or.inl rfl))
      (pss_one (ps_set (i := 1) sc__law_characters.nd rfl (Or.inl rfl) (pe_op op_add_str (pv 1) (pe_call G__law_sign (hr.mono (by omega)) (by rfl) T.d__law_sign.m T.d__law_sign.F.kp T.d__law_sign.b .nil pass0 (pa_cons (pv 0) pa_nil))))))
    (C8.pss_cut (ps_if (pt_cmpR op_eq (pe_call G__law_draw (hr.mono (by omega)) (by rfl) T.d__law_draw.m T.d__law_draw.F.kp T.d__law_draw.b .nil pass0 (pa_cons (pv 0) (pa_cons pe_int pa_nil))) pe_int (nomark _))
      (pss_one (ps_set (i := 1) sc__law_characters.nd rfl (Or.inl rfl) (pe_op op_mulS (pe_op op_add_str (pv 1) (pe_call G__law_sign (hr.mono (by omega)) (by rfl) T.d__law_sign.m T.d__law_sign.F.kp T.d__law_sign.b .nil pass0 (pa_cons (pv 0) pa_nil))) pe_int)))
      pss_nil)
    (pss_one (ps_ret (pe_slice sl_str (pv 1) po_none (po_some pe_int))))))), ?_⟩
  have big : 100000 ≤ sizeLine := by decide
  have l0 : (Str.ofString "").length = 0 := by decide +kernel
  refine ⟨_, rfl, p, l, _, rfl, by decide, B, fun m H1 m0 m1 B1 k1 => ?_⟩
  refine ⟨m, rfl, by omega, by omega, for_range (lo := 0) (n := m.toNat) (fun i σ H2 => ∃ (z : Str) (v2 : Option V), σ = [some (.ref p), some (.str z), v2] ∧ z.length ≤ i ∧ BoxAt H2 p l ∧ Keep p H H2)
    ⟨_, none, rfl, by omega, B1, k1⟩ ?_ ?_⟩
  · rintro i σ H2 hi ⟨z, v2, rfl, hz, B2, k2⟩
    refine ⟨_, rfl, _, rfl, p, l, rfl, B2, fun c H3 B3 k3 => ?_⟩
    have l1 : (⟨#[c]⟩ : Str).length = 1 := rfl
    have l1s : (sg c).length = 1 := rfl
    refine ⟨_, _, rfl, rfl, by omega, ?_⟩
    exact ⟨_, _, rfl, by rw [PySem.Str.length_append]; omega, B3, k2.trans k3⟩
  · rintro σ H2 ⟨z, v2, rfl, hz, B2, k2⟩
    refine ⟨fun σ H3 => ∃ (z : Str) (v2 : Option V), σ = [some (.ref p), some (.str z), v2] ∧ z.length ≤ 1000 ∧ BoxAt H3 p l ∧ Keep p H H3, ?_, ?_⟩
    · refine ⟨_, rfl, p, l, _, rfl, by decide, B2, fun r H3 r0 r1 B3 k3 => ⟨rfl, _, rfl, ite2 (fun _ => ?_) (fun _ => ?_)⟩⟩
      · refine ⟨_, rfl, _, rfl, p, l, rfl, B3, fun c H4 B4 k4 => ?_⟩
        have l1 : (⟨#[c]⟩ : Str).length = 1 := rfl
        have l1s : (sg c).length = 1 := rfl
        have lapp : (z ++ sg c).length = z.length + (sg c).length := PySem.Str.length_append ..
        refine ⟨_, _, rfl, rfl, by omega, ?_⟩
        refine ⟨_, 25, rfl, rfl, by decide, by decide, by omega, ?_⟩
        refine ⟨_, _, rfl, ?_, B4, (k2.trans k3).trans k4⟩
        rw [mk_len, rep_len, len_cp, lapp]
        have e25 : (25 : Int).toNat = 25 := rfl
        rw [e25]
        omega
      · exact ⟨z, _, rfl, by omega, B3, k2.trans k3⟩
    · rintro σ H3 ⟨z, v2, rfl, hz, B3, k3⟩
      refine ⟨_, rfl, _, rfl, z, rfl, by omega, ?_⟩
      refine q _ _ ?_ B3 k3
      exact cutS_first (z := z) (n := 100)
/-! ### d.get(key, value) -/
section
open PySem.Spec PyProof.Rows
/-- d.get(key, value), d a dict of the program's own -/
def tKGet2 (K : PySem.W.Frag) (d : Addr) (to ty tx : TE) : TE := fun σ H Q => to σ H fun x H1 => x = .ref d ∧ ty σ H1 fun y H2 => tx σ H2 fun z H3 => ∃ (k : Str) (r : Option Value) (v : V), y = .str k ∧ PySem.W.nsIn K d k = some r ∧ (∀ u, r = some u → RelV v u) ∧ (r = none → v = z) ∧ Q v H3
theorem pe_kget2 {X : Cx} {o e f : Expr} {apos cpos : Pos} {d : Addr} {es : Array DictEntry} {n : Nat} {to ty tx : TE} {K : PySem.W.Frag} {w : World} (D : KDict K w d es n) (hK : X.K = K) (hw : X.w = w) (ho : PE X o to) (he : PE X e ty) (hf : PE X f tx) (m : M2 X o "get" apos e f cpos) :
    PE X (.Call (.Attribute o "get" apos) [e, f] [] cpos) (tKGet2 K d to ty tx) := by
  subst hK hw
  refine ⟨fun pins s σ H Q I h => ?_⟩
  refine wpAny_Call_method m.base m.few m.line PySem.F.plainAttrs_dict PySem.F.slot_dict_get PySem.F.type_dict_get (thn (ho.run pins s σ H _ I h) fun u s1 ⟨x, H1, I1, rx, ex, q1⟩ => ?_)
  subst ex
  obtain rfl : u = Value.ref d := rx
  refine ⟨(PySem.W.mapOf_K (prog := X.prog) (w := X.w) I1.kIn D.at_ D.lit).typeIs, fun b q => ?_, ?_⟩
  · cases q
    exact ⟨_, I1.kIn _ _ D.at_, rfl⟩
  rw [m.trees]
  refine Calls.callWith_builtin rfl (Calls.evalArgs_plain (Calls.spliced_cons (thn (he.run pins s1 σ H1 _ I1 q1) fun iv s2 ⟨y, H2, I2, ry, q2⟩ =>
    Calls.spliced_cons (thn (hf.run pins s2 σ H2 _ I2 q2) fun fv s3 ⟨z, H3, I3, rz, k, r, v, ey, hn, h1, h2, q3⟩ => Calls.spliced_nil ?_))))
  subst ey
  obtain ⟨t, rfl⟩ := (show ∃ t, iv = Value.str k t from ry)
  have mp := PySem.W.mapOf_K (prog := X.prog) (w := X.w) I3.kIn D.at_ D.lit
  refine call_meetsIn PySem.F.slot_dict_get mp.typeIs PySem.F.entry_dict_get (PySem.F.args_dict_get_3 _ _ _) (meets_dict_get_default (strKind X.prog X.w) d (PySem.strKind_is X.prog X.w k t) D.low fv) ⟨_, mp, ?_⟩
  rw [PySem.W.find_K D.at_ hn]
  refine ⟨v, H3, I3.tok _, ?_, q3⟩
  cases r with
  | none =>
    rw [h2 rfl]
    exact rz
  | some u => exact h1 u rfl
end
theorem key_miss {K : PySem.W.Frag} {w : World} {a : Addr} {es : Array DictEntry} {n : Nat} {ks : List Str} {x : Str} (D : KDict K w a es n) (g : KeysAre es.toList ks) (h : ¬ x ∈ ks) : PySem.W.nsIn K a x = some none := by
  have go : ∀ (l : List DictEntry) (ks : List Str), KeysAre l ks → ¬ x ∈ ks → l.find? (·.key.isStr x) = none ∧ l.any (·.refKey) = false := by
    intro l
    induction l with
    | nil => exact fun _ _ _ => ⟨rfl, rfl⟩
    | cons e r ih =>
      intro ks g h
      cases ks with
      | nil => exact absurd g id
      | cons k ks =>
        obtain ⟨⟨t, hk⟩, g2⟩ := g
        obtain ⟨h1, h2⟩ := ih ks g2 fun m => h (List.mem_cons_of_mem _ m)
        have hne : (k == x) = false := beq_eq_false_iff_ne.mpr fun e => h (by rw [e]; exact List.mem_cons_self)
        have hs : e.key.isStr x = false := by
          rw [hk]
          exact hne
        have hr : e.refKey = false := by
          unfold DictEntry.refKey
          rw [hk]
        refine ⟨?_, ?_⟩
        · rw [List.find?_cons_of_neg (by rw [hs]; exact Bool.false_ne_true)]
          exact h1
        · rw [List.any_cons, hr, h2]
          rfl
  obtain ⟨h1, h2⟩ := go es.toList ks g h
  unfold PySem.W.nsIn
  rw [D.at_]
  dsimp only
  rw [h1]
  dsimp only
  rw [h2]
  rfl
/-! ### literals and values as they are written -/
/-- a comprehension over the signs of a text -/
theorem lc_signs {x : Str} {g : TG} {tt : TT} {te : TE} {vs : List Nat} {σ : L2.St} {H1 : Hp} {D : Addr} {Qd : Hp → Prop} (Pv : Nat → Hp → Prop) (h0 : Pv 0 (upd H1 D (.lst [])))
    (hs : ∀ i c H, (cp x)[i]? = some c → Pv i H → g (.str (sg c)) (wipe σ vs) H fun σ2 H2 => wipe σ2 vs = wipe σ vs ∧ tt σ2 H2 fun b H3 =>
      if b = true then te σ2 H3 fun y H4 => ∃ acc, H4 D = some (.lst acc) ∧ acc.length < sizeLine ∧ Pv (i + 1) (upd H4 D (.lst (acc ++ [y]))) else Pv (i + 1) H3) (hd : ∀ H, Pv x.length H → Qd H) :
    ∃ W : Nat → Nat → Hp → Prop, (∃ m, W 0 m (upd H1 D (.lst []))) ∧ ∀ i m H, W i m H →
      ((Its x).stop i H ∧ Qd H) ∨ ((Its x).go i H ∧ ∃ Nx : Hp → Prop, (∀ H', Nx H' → ∃ m', m' < m ∧ W (i + 1) m' H') ∧ ∀ y H', (Its x).yld i H y H' → g y (wipe σ vs) H' fun σ2 H2 => wipe σ2 vs = wipe σ vs ∧ tt σ2 H2 fun b H3 =>
        if b = true then te σ2 H3 fun y H4 => ∃ acc, H4 D = some (.lst acc) ∧ acc.length < sizeLine ∧ Nx (upd H4 D (.lst (acc ++ [y]))) else Nx H3) := by
  have ez : x.cps.size = x.length := rfl
  refine ⟨fun i m H => m = x.length - i ∧ i ≤ x.length ∧ Pv i H, ⟨x.length, by simp, Nat.zero_le _, h0⟩, ?_⟩
  rintro i m H ⟨rfl, hi, p⟩
  by_cases hlt : i < x.length
  · refine .inr ⟨hlt, Pv (i + 1), fun H' p' => ⟨x.length - (i + 1), by omega, rfl, hlt, p'⟩, fun y H' z => ?_⟩
    obtain ⟨rfl, c, hc, rfl⟩ := z
    exact hs i c _ (by rw [← hc, Array.getElem?_toList]) p
  · have e : i = x.length := by omega
    subst e
    exact .inl ⟨Nat.le_refl _, hd H p⟩
def esc1 (c : Nat) : List Nat := if c = 10 then [92, 110] else if c = 34 ∨ c = 92 then [92, c] else [c]
def spell (m : List Nat) : List Nat := (m.map esc1).flatten
theorem lit_spell {s m : List Nat} (h : Lit s m) : s = spell m := by
  induction h with
  | nil => rfl
  | @plain d s m h1 h2 h3 _ ih =>
    have e : esc1 d = [d] := by
      unfold esc1
      rw [if_neg h3, if_neg fun h => h.elim h1 h2]
    show d :: s = esc1 d ++ spell m
    rw [e, ih]
    rfl
  | @esc d s m h _ ih =>
    have e : esc1 (escD d) = [92, d] := by
      rcases h with rfl | rfl | rfl <;> rfl
    show 92 :: d :: s = esc1 (escD d) ++ spell m
    rw [e, ih]
    rfl
theorem spell_lit : ∀ m : List Nat, Lit (spell m) m
  | [] => .nil
  | c :: m => by
    have ih := spell_lit m
    have e : spell (c :: m) = esc1 c ++ spell m := rfl
    rw [e]
    show Lit (esc1 c ++ spell m) ([c] ++ m)
    refine Lit.app ?_ ih
    unfold esc1
    by_cases h1 : c = 10
    · rw [if_pos h1, h1]
      exact .esc (d := 110) (.inr (.inr rfl)) .nil
    rw [if_neg h1]
    by_cases h2 : c = 34 ∨ c = 92
    · rw [if_pos h2]
      rcases h2 with rfl | rfl
      · exact .esc (d := 34) (.inl rfl) .nil
      · exact .esc (d := 92) (.inr (.inl rfl)) .nil
    · rw [if_neg h2]
      exact .plain (fun e => h2 (.inl e)) (fun e => h2 (.inr e)) h1 .nil
theorem join_mks (ls : List (List Nat)) : Txt.join (Str.ofString "") (ls.map mk) = mk ls.flatten := by
  have e0 : Str.ofString "" = ⟨#[]⟩ := by decide +kernel
  rw [TL.join_eq, e0]
  induction ls with
  | nil => rfl
  | cons x r ih =>
    cases r with
    | nil =>
      show mk x = _
      simp
    | cons y r =>
      have e : Str.join (⟨#[]⟩ : Str) ((x :: y :: r).map mk) = mk x ++ (⟨#[]⟩ : Str) ++ Str.join (⟨#[]⟩ : Str) ((y :: r).map mk) := rfl
      rw [e, ih]
      show mk x ++ mk [] ++ mk _ = _
      rw [mk_app, mk_app]
      simp
theorem esc_len (c : Nat) : (esc1 c).length ≤ 2 := by
  unfold esc1
  split
  · exact Nat.le_refl 2
  · split
    · exact Nat.le_refl 2
    · exact Nat.le_succ 1
theorem sum_esc : ∀ m : List Nat, (((m.map esc1).map mk).map fun x => x.length).sum ≤ 2 * m.length
  | [] => Nat.le_refl 0
  | c :: m => by
    have ih := sum_esc m
    have h1 := esc_len c
    have h2 := mk_len (esc1 c)
    simp only [List.map_cons, List.sum_cons, List.length_cons]
    omega
theorem esc_of (T : Tx K mg w) (c : Nat) : ∃ (r : Option Value) (v : V), PySem.W.nsIn K T.a_ESCAPED (sg c) = some r ∧ (∀ u, r = some u → RelV v u) ∧ (r = none → v = V.str (sg c)) ∧ v = V.str (mk (esc1 c)) := by
  by_cases h1 : c = 34
  · subst h1
    obtain ⟨t, h⟩ := T.k_ESCAPED_0
    exact ⟨_, V.str (mk [92, 34]), h, fun u e => by cases e; exact ⟨t, by rw [show (Str.ofString "\\\"") = mk [92, 34] from by decide +kernel]⟩, fun e => (by cases e), rfl⟩
  by_cases h2 : c = 92
  · subst h2
    obtain ⟨t, h⟩ := T.k_ESCAPED_1
    exact ⟨_, V.str (mk [92, 92]), h, fun u e => by cases e; exact ⟨t, by rw [show (Str.ofString "\\\\") = mk [92, 92] from by decide +kernel]⟩, fun e => (by cases e), rfl⟩
  by_cases h3 : c = 10
  · subst h3
    obtain ⟨t, h⟩ := T.k_ESCAPED_2
    exact ⟨_, V.str (mk [92, 110]), h, fun u e => by cases e; exact ⟨t, by rw [show (Str.ofString "\\n") = mk [92, 110] from by decide +kernel]⟩, fun e => (by cases e), rfl⟩
  · refine ⟨none, V.str (sg c), key_miss T.q_ESCAPED T.g_ESCAPED ?_, fun u e => (by cases e), fun _ => rfl, ?_⟩
    · have ek : ([Str.ofString "\"", Str.ofString "\\", Str.ofString "\n"] : List Str) = [sg 34, sg 92, sg 10] := by rw [s_quo, s_bs, s_nl]
      intro hm
      have hm : sg c ∈ [sg 34, sg 92, sg 10] := by rw [← ek]; exact hm
      simp only [List.mem_cons, List.not_mem_nil, or_false] at hm
      rcases hm with h | h | h
      · exact h1 (sg_inj h)
      · exact h2 (sg_inj h)
      · exact h3 (sg_inj h)
    · unfold esc1
      rw [if_neg h3, if_neg fun h => h.elim h1 h2]
def spQuoted : Sp := fun vs H Q _ => ∃ z : Str, vs = [.str z] ∧ z.length ≤ 1000 ∧ ∀ H', Same H H' → Q (.str (mk (34 :: (spell (cp z) ++ [34])))) H'
theorem spell_len (m : List Nat) : (spell m).length ≤ 2 * m.length := (spell_lit m).src
theorem ok_quoted (T : Tx K mg w) : FnOk P w K mg base CX0 1 T.d_quoted.f T.d_quoted.fd P_quoted spQuoted := by
  refine T.d_quoted.F.ok sc_quoted (fun vs H Q E h => ?_) (fun cdv A outer s H vs Q E hr h => ?_)
  · obtain ⟨z, rfl, _⟩ := h
    rfl
  obtain ⟨z, rfl, hz, q⟩ := h
  refine ⟨_, (pss_cons (ps_set (i := 1) sc_quoted.nd rfl (Or.inl rfl) (pe_join pe_str (by exact pe_lc (own := [("character", 2)]) (g := gName 2) (by rfl) sc_quoted.nd (pi_str (pv 0)) (blkOk_by (own := [("character", 2)]) (N := ["characters", "written", "character"]) (sc := defScope s_quoted) (by decide +kernel)) (fun _ _ _ _ _ => pg_name (i := 2) sc_quoted.nd rfl (Or.inl rfl)) (fun _ _ _ _ _ => pts_nil) (fun _ _ _ _ _ => by exact (pe_kget2 T.q_ESCAPED rfl rfl (pe_glob (v := V.ref T.a_ESCAPED) (by rfl) T.c_ESCAPED rfl) (pv 2) (pv 2) ⟨by rfl, by rfl, by rfl, by rfl⟩)))))
    (pss_one (ps_ret (pe_op op_add_str (pe_op op_add_str pe_str (pv 1)) pe_str)))), ?_⟩
  have big : 10000 ≤ sizeLine := by decide
  have cpl := len_cp z
  have tkl : ∀ i, ((cp z).take i).length ≤ 1000 := fun i => by rw [List.length_take]; omega
  refine ⟨⟨_, rfl⟩, _, rfl, z, rfl, fun D nD => lc_signs (x := z) (fun i H1 => H1 D = some (.lst ((((cp z).take i).map esc1).map mk |>.map V.str)) ∧ Same H H1) ⟨upd_same, same_new nD _⟩ ?_ ?_⟩
  · rintro i c H1 hc ⟨h1, s1⟩
    obtain ⟨r, v, hn, hu, hv, rfl⟩ := esc_of T c
    refine ⟨rfl, ?_⟩
    refine ⟨rfl, _, rfl, _, rfl, sg c, r, _, rfl, hn, hu, hv, _, h1, ?_, ?_, same_upd s1 nD⟩
    · have := tkl i
      rw [List.length_map, List.length_map, List.length_map]
      omega
    · have ei : (cp z).take (i + 1) = (cp z).take i ++ [c] := by
        rw [List.take_add_one, hc]
        rfl
      rw [upd_same, ei, List.map_append, List.map_append, List.map_append]
      rfl
  · rintro H1 ⟨h1, s1⟩
    rw [← cpl, List.take_length] at h1
    refine ⟨_, D, ((cp z).map esc1).map mk, rfl, rfl, .inl (SqL.of h1), ?_, ?_⟩
    · have := sum_esc (cp z)
      have l0 : (Str.ofString "").length = 0 := by decide +kernel
      rw [l0]
      omega
    rw [join_mks]
    have hs := spell_len (cp z)
    have lq : (Str.ofString "\"").length = 1 := by decide +kernel
    have lm := mk_len (spell (cp z))
    have lapp : (Str.ofString "\"" ++ mk (spell (cp z))).length = (Str.ofString "\"").length + (mk (spell (cp z))).length := PySem.Str.length_append ..
    show ∃ _, _
    change ∃ v, [some (V.str z), some (V.str (mk (spell (cp z)))), none][1]? = some (some v) ∧ _
    refine ⟨_, rfl, _, _, rfl, rfl, by omega, _, _, rfl, rfl, by omega, ?_⟩
    have ez : (Str.ofString "\"" ++ mk (spell (cp z))) ++ Str.ofString "\"" = mk (34 :: (spell (cp z) ++ [34])) := by
      rw [s_quo]
      show mk [34] ++ mk _ ++ mk [34] = _
      rw [mk_app, mk_app]
      rfl
    rw [ez]
    exact q H1 s1
/-- a plain value, and how it is written -/
inductive Shown : List V → List PyData → Str → Prop
  | non : Shown [.str "none"] [.str "none"] "none"
  | tt : Shown [.str "bool", .bl true] [.str "bool", .bool true] "true"
  | ff : Shown [.str "bool", .bl false] [.str "bool", .bool false] "false"
  | int (n : Int) (h : n.natAbs < 10000000000000000000000000000000000000000000000000000000000000000000000) : Shown [.str "int", .int n] [.str "int", .int n] (Str.ofString (toString n))
  | txt (z : Str) (h : z.length ≤ 1000) : Shown [.str "text", .str z] [.str "text", .str z] (mk (34 :: (spell (cp z) ++ [34])))
def spShown (K : PySem.W.Frag) : Sp := fun vs H Q _ => ∃ (a : Addr) (ws : List V) (ds : List PyData) (zs : Str), vs = [.ref a] ∧ SqT K H a ws ∧ Shown ws ds zs ∧ ∀ H', Same H H' → Q (.str zs) H'
theorem ok_shown_value (T : Tx K mg w) : FnOk P w K mg base CX0 2 T.d_shown_value.f T.d_shown_value.fd P_shown_value (spShown K) := by
  have G_quoted := ok_quoted (P := P) (w := w) (base := base) T
  refine T.d_shown_value.F.ok sc_shown_value (fun vs H Q E h => ?_) (fun cdv A outer s H vs Q E hr h => ?_)
  · obtain ⟨a, ws, ds, zs, rfl, _⟩ := h
    rfl
  obtain ⟨a, ws, ds, zs, rfl, S, hs, q⟩ := h
  refine ⟨_, (pss_cons (ps_set (i := 1) sc_shown_value.nd rfl (Or.inl rfl) (pe_ix ix_tup (pv 0) pe_int (fun _ _ => rfl)))
    (pss_cons (ps_if (pt_cmpR op_eq (pv 1) pe_str (nomark _))
      (pss_one (ps_ret pe_str))
      pss_nil)
    (pss_cons (ps_if (pt_cmpR op_eq (pv 1) pe_str (nomark _))
      (pss_one (ps_ret (pe_ifExp (pt_truth (pe_ix ix_tup (pv 0) pe_int (fun _ _ => rfl)) (by intro _; rfl)) pe_str pe_str)))
      pss_nil)
    (pss_cons (ps_if (pt_cmpR op_eq (pv 1) pe_str (nomark _))
      (pss_one (ps_ret (pe_callTy call_str_int (by rfl) T.z_str (by decide +kernel) (pa_cons (pe_ix ix_tup (pv 0) pe_int (fun _ _ => rfl)) pa_nil))))
      pss_nil)
    (pss_one (ps_ret (pe_call G_quoted (hr.mono (by omega)) (by rfl) T.d_quoted.m T.d_quoted.F.kp T.d_quoted.b .nil pass0 (pa_cons (pe_ix ix_tup (pv 0) pe_int (fun _ _ => rfl)) pa_nil)))))))), ?_⟩
  have q0 := q H (fun _ _ h => h)
  cases hs with
  | non =>
    refine ⟨_, rfl, a, _, 0, _, rfl, rfl, S, at_of (j := 0) rfl rfl, ?_⟩
    exact ⟨_, rfl, rfl, _, rfl, ifT (by decide +kernel) q0⟩
  | tt =>
    refine ⟨_, rfl, a, _, 0, _, rfl, rfl, S, at_of (j := 0) rfl rfl, ?_⟩
    refine ⟨_, rfl, rfl, _, rfl, ifF (by decide +kernel) ?_⟩
    refine ⟨_, rfl, rfl, _, rfl, ifT (by decide +kernel) ?_⟩
    exact ⟨_, rfl, a, _, 1, _, rfl, rfl, S, at_of (j := 1) rfl rfl, true, rfl, iteT q0⟩
  | ff =>
    refine ⟨_, rfl, a, _, 0, _, rfl, rfl, S, at_of (j := 0) rfl rfl, ?_⟩
    refine ⟨_, rfl, rfl, _, rfl, ifF (by decide +kernel) ?_⟩
    refine ⟨_, rfl, rfl, _, rfl, ifT (by decide +kernel) ?_⟩
    exact ⟨_, rfl, a, _, 1, _, rfl, rfl, S, at_of (j := 1) rfl rfl, false, rfl, iteF q0⟩
  | int n h =>
    refine ⟨_, rfl, a, _, 0, _, rfl, rfl, S, at_of (j := 0) rfl rfl, ?_⟩
    refine ⟨_, rfl, rfl, _, rfl, ifF (by decide +kernel) ?_⟩
    refine ⟨_, rfl, rfl, _, rfl, ifF (by decide +kernel) ?_⟩
    refine ⟨_, rfl, rfl, _, rfl, ifT (by decide +kernel) ?_⟩
    exact ⟨_, rfl, a, _, 1, _, rfl, rfl, S, at_of (j := 1) rfl rfl, n, rfl, Nat.lt_trans (log_small h) (by decide), q0⟩
  | txt z h =>
    refine ⟨_, rfl, a, _, 0, _, rfl, rfl, S, at_of (j := 0) rfl rfl, ?_⟩
    refine ⟨_, rfl, rfl, _, rfl, ifF (by decide +kernel) ?_⟩
    refine ⟨_, rfl, rfl, _, rfl, ifF (by decide +kernel) ?_⟩
    refine ⟨_, rfl, rfl, _, rfl, ifF (by decide +kernel) ?_⟩
    exact ⟨_, rfl, a, _, 1, _, rfl, rfl, S, at_of (j := 1) rfl rfl, z, rfl, h, q⟩
/-! ### the values of the law, and their spellings -/
theorem str_num (m : Nat) : Str.ofString (toString ((m : Nat) : Int)) = mk (TL.numL m) := by
  rw [← mk_cp (Str.ofString (toString ((m : Nat) : Int)))]
  exact congrArg mk (TL.tl_num m)
theorem str_neg {n : Int} (m : Nat) (hm : 0 - n = (m : Int)) (h : n < 0) : Str.ofString (toString n) = mk (45 :: TL.numL m) := by
  rw [PyProof.Rows.toString_neg h, hm, PySem.Str.ofString_eq_toList, String.toList_append, List.map_append]
  have e : ((toString ((m : Nat) : Int)).toList.map Char.toNat) = TL.numL m := by
    have h1 := TL.tl_num m
    rw [PySem.Str.ofString_eq_toList] at h1
    simpa [TL.tl] using h1
  rw [e]
  rfl
theorem guard_nil (tok : List Nat) : Guard tok [] := fun a t e => by cases e
theorem lex_one {tok : List Nat} {kind : Str} {d : PyData} (cu : Cuts tok kind d) : Lex tok 1 1 [tokD kind d 1 1, tokD "end" (.str "") 1 (1 + ((tok.length : Nat) : Int))] := by
  have h := cu.cut [] 1 1 _ (guard_nil tok) Lex.done
  rw [List.append_nil] at h
  exact h
theorem lex_minus {tok : List Nat} {d : PyData} (cu : Cuts tok "number" d) (h1 : ∀ a t, tok = a :: t → a ≠ 61) : Lex (45 :: tok) 1 1 [tokD "sign" (.str "-") 1 1, tokD "number" d 1 2, tokD "end" (.str "") 1 (1 + (((45 :: tok).length : Nat) : Int))] := by
  have h2 := cu.cut [] 1 2 _ (guard_nil tok) Lex.done
  rw [List.append_nil] at h2
  obtain ⟨cm, _⟩ := sign_cuts (x := "-") (by decide +kernel)
  have em : cp (Str.ofString "-") = [45] := by decide +kernel
  rw [em] at cm
  have g : Guard [45] tok := fun a t e => ⟨fun z => absurd z.1 (by decide), fun z => h1 a t e z.2⟩
  have h3 := cm.cut tok 1 1 _ g h2
  have el : (1 : Int) + (((45 :: tok).length : Nat) : Int) = 2 + ((tok.length : Nat) : Int) := by
    simp only [List.length_cons]
    omega
  rw [el]
  exact h3
theorem cuts_digits {m : Nat} (h : m < 10 ^ 60) : Cuts (TL.numL m) "number" (.int (m : Int)) ∧ (∀ a t, TL.numL m = a :: t → a ≠ 61) ∧ (TL.numL m).length ≤ 60 := by
  have hd := TL.numL_digits m
  have hn := TL.numL_ne m
  have hl := TL.numL_len (n := m) (k := 60) (by decide) h
  have hi : PySem.intText? (mk (TL.numL m)) = some (m : Int) := by
    have e := TL.int_num (n := m) (by omega)
    rw [str_num] at e
    exact e
  revert hd hn hl hi
  cases TL.numL m with
  | nil => exact fun _ hn => absurd rfl hn
  | cons a wd =>
    intro hd hn hl hi
    refine ⟨cuts_num (decide_eq_true (hd a List.mem_cons_self)) (fun d h => decide_eq_true (hd d (List.mem_cons_of_mem _ h))) hl hi, fun b t e => ?_, hl⟩
    rw [List.cons.injEq] at e
    obtain ⟨rfl, _⟩ := e
    have := hd a List.mem_cons_self
    omega
theorem e57 : (10 : Int) ^ (57 : Int).toNat = 1000000000000000000000000000000000000000000000000000000000 := by decide +kernel
theorem e60n : (10 : Nat) ^ 60 = 1000000000000000000000000000000000000000000000000000000000000 := by decide +kernel
def spNum : Sp := fun vs H Q _ => ∃ (p l : Addr), vs = [.ref p] ∧ BoxAt H p l ∧ ∀ (z : Int) (H' : Hp), z.natAbs < 1000000000000000000000000000000000000000000000000000000000000 → BoxAt H' p l → Keep p H H' → Q (.int z) H'
theorem ok__law_number (T : Tx K mg w) : FnOk P w K mg base CX0 2 T.d__law_number.f T.d__law_number.fd P__law_number spNum := by
  have G__law_draw := ok__law_draw (P := P) (w := w) (base := base) T
  refine T.d__law_number.F.ok sc__law_number (fun vs H Q E h => ?_) (fun cdv A outer s H vs Q E hr h => ?_)
  · obtain ⟨p, l, rfl, _⟩ := h
    rfl
  obtain ⟨p, l, rfl, B, q⟩ := h
  refine ⟨_, (pss_cons (ps_set (i := 1) sc__law_number.nd rfl (Or.inl rfl) (pe_call G__law_draw (hr.mono (by omega)) (by rfl) T.d__law_draw.m T.d__law_draw.F.kp T.d__law_draw.b .nil pass0 (pa_cons (pv 0) (pa_cons pe_int pa_nil))))
    (C8.pss_cut (ps_if (pt_cmpR op_eq (pe_call G__law_draw (hr.mono (by omega)) (by rfl) T.d__law_draw.m T.d__law_draw.F.kp T.d__law_draw.b .nil pass0 (pa_cons (pv 0) (pa_cons pe_int pa_nil))) pe_int (nomark _))
      (pss_one (ps_set (i := 1) sc__law_number.nd rfl (Or.inl rfl) (pe_op op_add (pe_op op_mulX (pv 1) (pe_op op_pow pe_int pe_int)) (pe_call G__law_draw (hr.mono (by omega)) (by rfl) T.d__law_draw.m T.d__law_draw.F.kp T.d__law_draw.b .nil pass0 (pa_cons (pv 0) (pa_cons pe_int pa_nil))))))
      pss_nil)
    (C8.pss_cut (ps_if (pt_cmpR op_eq (pe_call G__law_draw (hr.mono (by omega)) (by rfl) T.d__law_draw.m T.d__law_draw.F.kp T.d__law_draw.b .nil pass0 (pa_cons (pv 0) (pa_cons pe_int pa_nil))) pe_int (nomark _))
      (pss_one (ps_ret (pe_op op_sub pe_int (pv 1))))
      pss_nil)
    (pss_one (ps_ret (pv 1)))))), ?_⟩
  refine ⟨_, rfl, p, l, _, rfl, by decide, B, fun n H1 n0 n1 B1 k1 => ?_⟩
  refine ⟨fun σ H2 => ∃ z : Int, σ = [some (.ref p), some (.int z)] ∧ z.natAbs < 1000000000000000000000000000000000000000000000000000000000000 ∧ BoxAt H2 p l ∧ Keep p H H2, ?_, ?_⟩
  · refine ⟨_, rfl, p, l, _, rfl, by decide, B1, fun r H2 r0 r1 B2 k2 => ⟨rfl, _, rfl, ite2 (fun _ => ?_) (fun _ => ?_)⟩⟩
    · refine ⟨_, rfl, _, _, rfl, rfl, ⟨by decide, by decide, by decide⟩, _, _, rfl, rfl, mulX_small (by omega) (by rw [e57]; decide), ?_⟩
      refine ⟨_, rfl, p, l, _, rfl, by decide, B2, fun m H3 m0 m1 B3 k3 => ?_⟩
      refine ⟨_, _, rfl, rfl, _, rfl, ?_, B3, (k1.trans k2).trans k3⟩
      rw [e57]
      omega
    · exact ⟨n, rfl, by omega, B2, k1.trans k2⟩
  rintro σ H2 ⟨z, rfl, hz, B2, k2⟩
  refine ⟨fun σ H3 => σ = [some (.ref p), some (.int z)] ∧ BoxAt H3 p l ∧ Keep p H H3, ?_, ?_⟩
  · refine ⟨_, rfl, p, l, _, rfl, by decide, B2, fun r H3 r0 r1 B3 k3 => ⟨rfl, _, rfl, ite2 (fun _ => ?_) (fun _ => ?_)⟩⟩
    · exact ⟨_, rfl, _, _, rfl, rfl, q _ _ (by omega) B3 (k2.trans k3)⟩
    · exact ⟨rfl, B3, k2.trans k3⟩
  · rintro σ H3 ⟨rfl, B3, k3⟩
    exact ⟨_, rfl, q z H3 hz B3 k3⟩
theorem dp_tok {K : PySem.W.Frag} {H : Hp} {u : Addr} {kind : Str} {v : V} {d : PyData} {l c : Int} (sc : Sc v d) : Dp K (upd H u (.tup [.str kind, v, .int l, .int c])) (.ref u) (tokD kind d l c) :=
  .tup (SqT.of upd_same) (.cons (.str kind) (.cons sc.dp (.cons (.int l) (.cons (.int c) .nil))))
theorem dp_at (K : PySem.W.Frag) {H : Hp} {u : Addr} {kind : Str} {v : V} {d : PyData} {l c : Int} (sc : Sc v d) (h : H u = some (.tup [.str kind, v, .int l, .int c])) : Dp K H (.ref u) (tokD kind d l c) :=
  .tup (SqT.of h) (.cons (.str kind) (.cons sc.dp (.cons (.int l) (.cons (.int c) .nil))))
def spPlain (K : PySem.W.Frag) : Sp := fun vs H Q _ => ∃ (p l : Addr), vs = [.ref p] ∧ BoxAt H p l ∧
  ∀ (r a0 a2 : Addr) (ws : List V) (ds : List PyData) (zs : Str) (ts : List PyData) (H' : Hp), H' r = some (.lst [.ref a0, .str zs, .ref a2]) → SqT K H' a0 ws → Shown ws ds zs → Dp K H' (.ref a2) (.tuple ts) → noLs ts = true → okD 5 (.tuple ts) = true → Lex (cp zs) 1 1 ts → zs.length ≤ 1000 → BoxAt H' p l → Q (.ref r) H'
theorem one_le : 1 ≤ sizeLine := by decide
theorem ok2 {k1 k2 : Str} {v1 v2 : V} {d1 d2 : PyData} {l1 c1 l2 c2 : Int} (s1 : Sc v1 d1) (s2 : Sc v2 d2) : noLs [tokD k1 d1 l1 c1, tokD k2 d2 l2 c2] = true ∧ okD 5 (.tuple [tokD k1 d1 l1 c1, tokD k2 d2 l2 c2]) = true := by
  cases s1 <;> cases s2 <;> simp [tokD, noLs, noL, okD]
theorem ok3 {k1 k2 k3 : Str} {v1 v2 v3 : V} {d1 d2 d3 : PyData} {l1 c1 l2 c2 l3 c3 : Int} (s1 : Sc v1 d1) (s2 : Sc v2 d2) (s3 : Sc v3 d3) : noLs [tokD k1 d1 l1 c1, tokD k2 d2 l2 c2, tokD k3 d3 l3 c3] = true ∧ okD 5 (.tuple [tokD k1 d1 l1 c1, tokD k2 d2 l2 c2, tokD k3 d3 l3 c3]) = true := by
  cases s1 <;> cases s2 <;> cases s3 <;> simp [tokD, noLs, noL, okD]
theorem ok__law_plain (T : Tx K mg w) : FnOk P w K mg base CX0 4 T.d__law_plain.f T.d__law_plain.fd P__law_plain (spPlain K) := by
  have G__law_draw := ok__law_draw (P := P) (w := w) (base := base) T
  have G__law_number := ok__law_number (P := P) (w := w) (base := base) T
  have G__law_characters := ok__law_characters (P := P) (w := w) (base := base) T
  have G__law_spelled := ok__law_spelled (P := P) (w := w) (base := base) T
  refine T.d__law_plain.F.ok sc__law_plain (fun vs H Q E h => ?_) (fun cdv A outer s H vs Q E hr h => ?_)
  · obtain ⟨p, l, rfl, _⟩ := h
    rfl
  obtain ⟨p, l, rfl, B, q⟩ := h
  refine ⟨_, (pss_cons (ps_set (i := 1) sc__law_plain.nd rfl (Or.inl rfl) (pe_call G__law_draw (hr.mono (by omega)) (by rfl) T.d__law_draw.m T.d__law_draw.F.kp T.d__law_draw.b .nil pass0 (pa_cons (pv 0) (pa_cons pe_int pa_nil))))
    (pss_cons (ps_if (pt_cmpR op_eq (pv 1) pe_int (nomark _))
      (pss_one (ps_ret (pe_lst (pa_cons (pe_tup (pa_cons pe_str pa_nil)) (pa_cons pe_str (pa_cons (pe_tup (pa_cons (pe_tup (pa_cons pe_str (pa_cons pe_str (pa_cons pe_int (pa_cons pe_int pa_nil))))) (pa_cons (pe_tup (pa_cons pe_str (pa_cons pe_str (pa_cons pe_int (pa_cons pe_int pa_nil))))) pa_nil))) pa_nil))))))
      pss_nil)
    (pss_cons (ps_if (pt_cmpR op_eq (pv 1) pe_int (nomark _))
      (pss_cons (ps_set (i := 2) sc__law_plain.nd rfl (Or.inl rfl) (pe_ix ix_list (pe_lst (pa_cons pe_str (pa_cons pe_str pa_nil))) (pe_call G__law_draw (hr.mono (by omega)) (by rfl) T.d__law_draw.m T.d__law_draw.F.kp T.d__law_draw.b .nil pass0 (pa_cons (pv 0) (pa_cons pe_int pa_nil))) (fun _ _ => rfl)))
    (pss_one (ps_ret (pe_lst (pa_cons (pe_tup (pa_cons pe_str (pa_cons (pe_cmpR op_eq (pv 2) pe_str (nomark _)) pa_nil))) (pa_cons (pv 2) (pa_cons (pe_tup (pa_cons (pe_tup (pa_cons pe_str (pa_cons (pv 2) (pa_cons pe_int (pa_cons pe_int pa_nil))))) (pa_cons (pe_tup (pa_cons pe_str (pa_cons pe_str (pa_cons pe_int (pa_cons (pe_op op_add pe_int (pe_callB call_len_str (by rfl) T.z_len PySem.boot_len (pa_cons (pv 2) pa_nil))) pa_nil))))) pa_nil))) pa_nil)))))))
      pss_nil)
    (pss_cons (ps_if (pt_cmpR op_eq (pv 1) pe_int (nomark _))
      (pss_cons (ps_set (i := 3) sc__law_plain.nd rfl (Or.inl rfl) (pe_call G__law_number (hr.mono (by omega)) (by rfl) T.d__law_number.m T.d__law_number.F.kp T.d__law_number.b .nil pass0 (pa_cons (pv 0) pa_nil)))
    (pss_cons (ps_set (i := 4) sc__law_plain.nd rfl (Or.inl rfl) (pe_callTy call_str_int (by rfl) T.z_str (by decide +kernel) (pa_cons (pv 3) pa_nil)))
    (pss_cons (ps_if (pt_cmpR op_lt (pv 3) pe_int (nomark _))
      (pss_cons (ps_set (i := 5) sc__law_plain.nd rfl (Or.inl rfl) (pe_tup (pa_cons (pe_tup (pa_cons pe_str (pa_cons pe_str (pa_cons pe_int (pa_cons pe_int pa_nil))))) (pa_cons (pe_tup (pa_cons pe_str (pa_cons (pe_op op_sub pe_int (pv 3)) (pa_cons pe_int (pa_cons pe_int pa_nil))))) (pa_cons (pe_tup (pa_cons pe_str (pa_cons pe_str (pa_cons pe_int (pa_cons (pe_op op_add pe_int (pe_callB call_len_str (by rfl) T.z_len PySem.boot_len (pa_cons (pv 4) pa_nil))) pa_nil))))) pa_nil)))))
    (pss_one (ps_ret (pe_lst (pa_cons (pe_tup (pa_cons pe_str (pa_cons (pv 3) pa_nil))) (pa_cons (pv 4) (pa_cons (pv 5) pa_nil)))))))
      pss_nil)
    (pss_one (ps_ret (pe_lst (pa_cons (pe_tup (pa_cons pe_str (pa_cons (pv 3) pa_nil))) (pa_cons (pv 4) (pa_cons (pe_tup (pa_cons (pe_tup (pa_cons pe_str (pa_cons (pv 3) (pa_cons pe_int (pa_cons pe_int pa_nil))))) (pa_cons (pe_tup (pa_cons pe_str (pa_cons pe_str (pa_cons pe_int (pa_cons (pe_op op_add pe_int (pe_callB call_len_str (by rfl) T.z_len PySem.boot_len (pa_cons (pv 4) pa_nil))) pa_nil))))) pa_nil))) pa_nil)))))))))
      pss_nil)
    (pss_cons (ps_set (i := 6) sc__law_plain.nd rfl (Or.inl rfl) (pe_call G__law_characters (hr.mono (by omega)) (by rfl) T.d__law_characters.m T.d__law_characters.F.kp T.d__law_characters.b .nil pass0 (pa_cons (pv 0) pa_nil)))
    (pss_cons (ps_set (i := 4) sc__law_plain.nd rfl (Or.inl rfl) (pe_call G__law_spelled (hr.mono (by omega)) (by rfl) T.d__law_spelled.m T.d__law_spelled.F.kp T.d__law_spelled.b .nil pass0 (pa_cons (pv 6) pa_nil)))
    (pss_one (ps_ret (pe_lst (pa_cons (pe_tup (pa_cons pe_str (pa_cons (pv 6) pa_nil))) (pa_cons (pv 4) (pa_cons (pe_tup (pa_cons (pe_tup (pa_cons pe_str (pa_cons (pv 6) (pa_cons pe_int (pa_cons pe_int pa_nil))))) (pa_cons (pe_tup (pa_cons pe_str (pa_cons pe_str (pa_cons pe_int (pa_cons (pe_op op_add pe_int (pe_callB call_len_str (by rfl) T.z_len PySem.boot_len (pa_cons (pv 4) pa_nil))) pa_nil))))) pa_nil))) pa_nil)))))))))))), ?_⟩
  have big : 1000 ≤ sizeLine := by decide
  -- a list of three, over what was made before
  have fin : ∀ {H0 H1 H2 H3 : Hp} {p0 p1 p2 p3 r : Addr} {ws : List V} {ds : List PyData} {zs k1 : Str} {v1 : V} {d1 : PyData} {c2 : Int}, BoxAt H0 p l → H0 p0 = none → H1 = upd H0 p0 (.tup ws) → H1 p1 = none → H2 = upd H1 p1 (.tup [.str k1, v1, .int 1, .int 1]) →
      H2 p2 = none → H3 = upd H2 p2 (.tup [.str "end", .str "", .int 1, .int c2]) → H3 p3 = none → upd H3 p3 (.tup [.ref p1, .ref p2]) r = none → Sc v1 d1 → Shown ws ds zs → Lex (cp zs) 1 1 [tokD k1 d1 1 1, tokD "end" (.str "") 1 c2] → zs.length ≤ 1000 →
      Q (.ref r) (upd (upd H3 p3 (.tup [.ref p1, .ref p2])) r (.lst [.ref p0, .str zs, .ref p3])) := by
    intro H0 H1 H2 H3 p0 p1 p2 p3 r ws ds zs k1 v1 d1 c2 B0 n0 e1 n1 e2 n2 e3 n3 nr sc sh lx hl
    subst e1 e2 e3
    have s0 := same_new n0 (.tup ws)
    have s1 := same_new n1 (.tup [.str k1, v1, .int 1, .int 1])
    have s2 := same_new n2 (.tup [.str "end", .str "", .int 1, .int c2])
    have s3 := same_new n3 (.tup [.ref p1, .ref p2])
    have s4 := same_new nr (.lst [.ref p0, .str zs, .ref p3])
    have s34 := s3.trans s4
    obtain ⟨g1, g2⟩ := ok2 (k1 := k1) (k2 := "end") (l1 := 1) (c1 := 1) (l2 := 1) (c2 := c2) sc (.str (Str.ofString ""))
    refine q r p0 p3 ws ds zs _ _ upd_same (SqT.of (s34 _ _ (s2 _ _ (s1 _ _ upd_same)))) sh ?_ g1 g2 lx hl ((((B0.same s0).same s1).same s2).same s34)
    exact .tup (SqT.of (s4 _ _ upd_same)) (.cons (dp_at K sc (s34 _ _ (s2 _ _ upd_same))) (.cons (dp_at K (.str _) (s34 _ _ upd_same)) .nil))
  refine ⟨_, rfl, p, l, _, rfl, by decide, B, fun kd H1 _ _ B1 k1 => ?_⟩
  refine ⟨_, rfl, rfl, _, rfl, ite2 (fun _ => ?_) (fun _ => ?_)⟩
  · refine ⟨one_le, fun p0 n0 => ⟨four_le, fun p1 n1 => ⟨four_le, fun p2 n2 => ⟨two_le, fun p3 n3 => ⟨three_le, fun r nr => ?_⟩⟩⟩⟩⟩
    obtain ⟨cu, _⟩ := kw_cuts (x := "none") (by decide +kernel)
    have lx := lex_one cu
    have hl : (cp (Str.ofString "none")).length = 4 := by decide +kernel
    rw [hl] at lx
    exact fin B1 n0 rfl n1 rfl n2 rfl n3 nr (.str _) .non lx (by decide +kernel)
  refine ⟨_, rfl, rfl, _, rfl, ite2 (fun _ => ?_) (fun _ => ?_)⟩
  · refine ⟨two_le, fun b nb => ?_⟩
    have sb := same_new nb (.lst ((["false", "true"] : List Str).map V.str))
    have Bb := B1.same sb
    obtain ⟨xs, hp⟩ := B1.lst
    have bp : b ≠ p := (ne_of_none hp nb).symm
    refine ⟨_, rfl, p, l, _, rfl, by decide, Bb, fun i H3 i0 i1 B3 k3 => ?_⟩
    obtain ⟨x, hx, hat⟩ := str_at (xs := (["false", "true"] : List Str)) i0 i1
    refine ⟨b, _, i, _, rfl, rfl, SqL.of (k3 _ _ upd_same bp), hat, ?_⟩
    have hx2 : x = Str.ofString "false" ∨ x = Str.ofString "true" := by simpa using hx
    have hk : x ∈ L_KEYWORDS := by rcases hx2 with rfl | rfl <;> decide +kernel
    obtain ⟨cu, hl⟩ := kw_cuts hk
    have lx := lex_one cu
    rw [len_cp] at lx
    refine ⟨_, rfl, rfl, two_le, fun p0 n0 => ⟨_, rfl, _, rfl, four_le, fun p1 n1 => ⟨_, rfl, _, rfl, by omega, _, _, rfl, rfl, four_le, fun p2 n2 => ⟨two_le, fun p3 n3 => ⟨three_le, fun r nr => ?_⟩⟩⟩⟩⟩
    refine fin (ws := [.str "bool", .bl (decide (V.str x = V.str (Str.ofString "true")))]) (ds := [.str "bool", .bool (decide (V.str x = V.str (Str.ofString "true")))]) B3 n0 rfl n1 rfl n2 rfl n3 nr (.str _) ?_ lx (by omega)
    rcases hx2 with rfl | rfl
    · have e : decide (V.str (Str.ofString "false") = V.str (Str.ofString "true")) = false := by decide +kernel
      rw [e]
      exact .ff
    · have e : decide (V.str (Str.ofString "true") = V.str (Str.ofString "true")) = true := by decide +kernel
      rw [e]
      exact .tt
  refine ⟨_, rfl, rfl, _, rfl, ite2 (fun _ => ?_) (fun _ => ?_)⟩
  · refine ⟨_, rfl, p, l, rfl, B1, fun n H2 hn B2 k2 => ?_⟩
    refine ⟨_, rfl, n, rfl, Nat.lt_trans (log_small (by omega)) (by decide), ?_⟩
    refine ⟨_, rfl, _, _, rfl, rfl, _, rfl, ite2 (fun c => ?_) (fun c => ?_)⟩
    · have c' : n < 0 := of_decide_eq_true c
      obtain ⟨m, hm⟩ : ∃ m : Nat, 0 - n = (m : Int) := ⟨(0 - n).toNat, by omega⟩
      obtain ⟨cu, h61, h60⟩ := cuts_digits (m := m) (by rw [e60n]; omega)
      have lx := lex_minus cu h61
      have ez := str_neg m hm c'
      have hl := mk_len (45 :: TL.numL m)
      simp only [List.length_cons] at hl
      have hln : (Str.ofString (toString n)).length ≤ 1000 := by rw [ez]; omega
      have sh : Shown [.str "int", .int n] [.str "int", .int n] (Str.ofString (toString n)) := .int n (by omega)
      have lx2 : Lex (cp (Str.ofString (toString n))) 1 1 [tokD "sign" (.str "-") 1 1, tokD "number" (.int (0 - n)) 1 2, tokD "end" (.str "") 1 (1 + (((Str.ofString (toString n)).length : Nat) : Int))] := by
        have e3 : (Str.ofString (toString n)).length = (45 :: TL.numL m).length := by rw [ez, mk_len]
        rw [e3, ez, cp_mk, hm]
        exact lx
      generalize Str.ofString (toString n) = zs at hln sh lx2
      refine ⟨four_le, fun p1 n1 => ⟨_, rfl, _, _, rfl, rfl, four_le, fun p2 n2 => ⟨_, rfl, _, rfl, by omega, _, _, rfl, rfl, four_le, fun p3 n3 => ⟨three_le, fun p4 n4 => ?_⟩⟩⟩⟩
      refine ⟨_, rfl, two_le, fun p0 n0 => ⟨_, rfl, _, rfl, three_le, fun r nr => ?_⟩⟩
      have s1 := same_new n1 (.tup [.str "sign", .str "-", .int 1, .int 1])
      have s2 := same_new n2 (.tup [.str "number", .int (0 - n), .int 1, .int 2])
      have s3 := same_new n3 (.tup [.str "end", .str "", .int 1, .int (1 + ((zs.length : Nat) : Int))])
      have s4 := same_new n4 (.tup [.ref p1, .ref p2, .ref p3])
      have s5 := same_new n0 (.tup [.str "int", .int n])
      have s6 := same_new nr (.lst [.ref p0, .str zs, .ref p4])
      have s56 := s5.trans s6
      have s46 := s4.trans s56
      obtain ⟨g1, g2⟩ := ok3 (k1 := "sign") (k2 := "number") (k3 := "end") (l1 := 1) (c1 := 1) (l2 := 1) (c2 := 2) (l3 := 1) (c3 := 1 + ((zs.length : Nat) : Int)) (.str (Str.ofString "-")) (.int (0 - n)) (.str (Str.ofString ""))
      refine q r p0 p4 _ _ zs _ _ upd_same (SqT.of (s6 _ _ upd_same)) sh ?_ g1 g2 lx2 hln ((((B2.same s1).same s2).same s3).same s46)
      exact .tup (SqT.of (s56 _ _ upd_same)) (.cons (dp_at K (.str _) (s46 _ _ (s3 _ _ (s2 _ _ upd_same)))) (.cons (dp_at K (.int _) (s46 _ _ (s3 _ _ upd_same))) (.cons (dp_at K (.str _) (s46 _ _ upd_same)) .nil)))
    · have c' : ¬ n < 0 := of_decide_eq_false (Bool.eq_false_iff.mpr c)
      obtain ⟨m, rfl⟩ : ∃ m : Nat, n = (m : Int) := ⟨n.toNat, by omega⟩
      obtain ⟨cu, _, h60⟩ := cuts_digits (m := m) (by rw [e60n]; omega)
      have lx := lex_one cu
      have ez := str_num m
      have hl := mk_len (TL.numL m)
      have hln : (Str.ofString (toString (m : Int))).length ≤ 1000 := by rw [ez]; omega
      have sh : Shown [.str "int", .int (m : Int)] [.str "int", .int (m : Int)] (Str.ofString (toString (m : Int))) := .int _ (by omega)
      have lx2 : Lex (cp (Str.ofString (toString (m : Int)))) 1 1 [tokD "number" (.int (m : Int)) 1 1, tokD "end" (.str "") 1 (1 + (((Str.ofString (toString (m : Int))).length : Nat) : Int))] := by
        rw [ez, cp_mk, mk_len]
        exact lx
      generalize Str.ofString (toString (m : Int)) = zs at hln sh lx2
      refine ⟨_, rfl, two_le, fun p0 n0 => ⟨_, rfl, _, rfl, four_le, fun p1 n1 => ⟨_, rfl, _, rfl, by omega, _, _, rfl, rfl, four_le, fun p2 n2 => ⟨two_le, fun p3 n3 => ⟨three_le, fun r nr => ?_⟩⟩⟩⟩⟩
      exact fin B2 n0 rfl n1 rfl n2 rfl n3 nr (.int _) sh lx2 hln
  · refine ⟨_, rfl, p, l, rfl, B1, fun z H2 hz B2 k2 => ?_⟩
    refine ⟨_, rfl, z, rfl, by omega, fun s hs => ?_⟩
    have es := lit_spell hs
    have cu := cuts_lit hs (by rw [len_cp]; omega)
    rw [mk_cp] at cu
    have lx := lex_one cu
    have hsl := hs.src
    rw [len_cp] at hsl
    have hl := mk_len (34 :: (s ++ [34]))
    have hl2 : (34 :: (s ++ [34])).length = s.length + 2 := by simp
    have sh : Shown [.str "text", .str z] [.str "text", .str z] (mk (34 :: (s ++ [34]))) := by
      rw [es]
      exact .txt z (by omega)
    have hln : (mk (34 :: (s ++ [34]))).length ≤ 1000 := by omega
    have lx2 : Lex (cp (mk (34 :: (s ++ [34])))) 1 1 [tokD "text" (.str z) 1 1, tokD "end" (.str "") 1 (1 + (((mk (34 :: (s ++ [34]))).length : Nat) : Int))] := by
      rw [cp_mk, mk_len]
      exact lx
    generalize mk (34 :: (s ++ [34])) = zs at hln sh lx2
    refine ⟨_, rfl, two_le, fun p0 n0 => ⟨_, rfl, _, rfl, four_le, fun p1 n1 => ⟨_, rfl, _, rfl, by omega, _, _, rfl, rfl, four_le, fun p2 n2 => ⟨two_le, fun p3 n3 => ⟨three_le, fun r nr => ?_⟩⟩⟩⟩⟩
    exact fin B2 n0 rfl n1 rfl n2 rfl n3 nr (.str _) sh lx2 hln
/-! ### the law -/
theorem sqT_same {K : PySem.W.Frag} {H H' : Hp} {a : Addr} {xs : List V} (s : Same H H') (h : SqT K H a xs) : SqT K H' a xs := h.elim (fun h => .inl ((KeepX.same s) _ _ h)) .inr
theorem ok_law (T : Tx K mg w) : FnOk P w K mg base CX0 6 T.d_law.f T.d_law.fd P_law (spLaw K) := by
  have G__law_digits := ok__law_digits (P := P) (w := w) (base := base) T
  have G__law_plain := ok__law_plain (P := P) (w := w) (base := base) T
  have G_shown_value := ok_shown_value (P := P) (w := w) (base := base) T
  have G_quoted := ok_quoted (P := P) (w := w) (base := base) T
  have G_tokens := ok_tokens (P := P) (w := w) (base := base) T
  have G__law_same := ok__law_same (P := P) (w := w) (base := base) T 5
  refine T.d_law.F.ok sc_law (fun vs H Q E h => ?_) (fun cdv A outer s H vs Q E hr h => ?_)
  · obtain ⟨a, ns, rfl, _⟩ := h
    rfl
  obtain ⟨a, ns, rfl, hS, h63, hb, q⟩ := h
  refine ⟨_, (pss_cons (ps_set (i := 1) sc_law.nd rfl (Or.inl rfl) (pe_lst (pa_cons (pe_call G__law_digits (hr.mono (by omega)) (by rfl) T.d__law_digits.m T.d__law_digits.F.kp T.d__law_digits.b .nil pass0 (pa_cons (pv 0) (pa_cons pe_int (pa_cons pe_int pa_nil)))) (pa_cons pe_int pa_nil))))
    (pss_cons (ps_for PassesOwn.never rfl (pi_range1 (by rfl) T.z_range (pa_cons pe_int pa_nil)) (pg_name (i := 2) sc_law.nd rfl (Or.inl rfl))
      (pss_cons (ps_set (i := 3) sc_law.nd rfl (Or.inl rfl) (pe_call G__law_plain (hr.mono (by omega)) (by rfl) T.d__law_plain.m T.d__law_plain.F.kp T.d__law_plain.b .nil pass0 (pa_cons (pv 1) pa_nil)))
    (pss_cons (ps_if (pt_not (pt_val (pe_call G__law_same (hr.mono (by omega)) (by rfl) T.d__law_same.m T.d__law_same.F.kp T.d__law_same.b .nil pass0 (pa_cons (pe_call G_shown_value (hr.mono (by omega)) (by rfl) T.d_shown_value.m T.d_shown_value.F.kp T.d_shown_value.b .nil pass0 (pa_cons (pe_ix ix_list (pv 3) pe_int (fun _ _ => rfl)) pa_nil)) (pa_cons (pe_ix ix_list (pv 3) pe_int (fun _ _ => rfl)) pa_nil)))))
      (pss_one (ps_ret pe_bl))
      pss_nil)
    (C8.pss_cut (ps_if (PW.pt (pw_and (pt_cmpR op_eq (pe_ix ix_tup (pe_ix ix_list (pv 3) pe_int (fun _ _ => rfl)) pe_int (fun _ _ => rfl)) pe_str (nomark _)) (pw_and1 (pt_not (pt_val (pe_call G__law_same (hr.mono (by omega)) (by rfl) T.d__law_same.m T.d__law_same.F.kp T.d__law_same.b .nil pass0 (pa_cons (pe_call G_quoted (hr.mono (by omega)) (by rfl) T.d_quoted.m T.d_quoted.F.kp T.d_quoted.b .nil pass0 (pa_cons (pe_ix ix_tup (pe_ix ix_list (pv 3) pe_int (fun _ _ => rfl)) pe_int (fun _ _ => rfl)) pa_nil)) (pa_cons (pe_ix ix_list (pv 3) pe_int (fun _ _ => rfl)) pa_nil))))))))
      (pss_one (ps_ret pe_bl))
      pss_nil)
    (pss_one (ps_if (pt_not (pt_val (pe_call G__law_same (hr.mono (by omega)) (by rfl) T.d__law_same.m T.d__law_same.F.kp T.d__law_same.b .nil pass0 (pa_cons (pe_call G_tokens (hr.mono (by omega)) (by rfl) T.d_tokens.m T.d_tokens.F.kp T.d_tokens.b .nil pass0 (pa_cons (pe_ix ix_list (pv 3) pe_int (fun _ _ => rfl)) pa_nil)) (pa_cons (pe_ix ix_list (pv 3) pe_int (fun _ _ => rfl)) pa_nil)))))
      (pss_one (ps_ret pe_bl))
      pss_nil))))))
    (pss_one (ps_ret pe_bl)))), ?_⟩
  have big : 10000 ≤ sizeLine := by decide
  refine ⟨_, rfl, a, ns, rfl, hS, h63, hb, fun l ds0 H1 nl hl s1 => ⟨two_le, fun p np => ?_⟩⟩
  have B1 : BoxAt (upd H1 p (.lst [.ref l, .int 0])) p l := ⟨⟨0, Int.le_refl 0, upd_same⟩, ⟨ds0, by rw [upd_ne (ne_of_none hl np)]; exact hl⟩, ne_of_none hl np⟩
  refine ⟨12, rfl, by decide, by decide, for_range (lo := 0) (n := 12) (fun i σ H2 => ∃ (v2 v3 : Option V), σ = [some (.ref a), some (.ref p), v2, v3] ∧ BoxAt H2 p l)
    ⟨none, none, rfl, B1⟩ ?_ ?_⟩
  · rintro i σ H2 hi ⟨v2, v3, rfl, B2⟩
    refine ⟨_, rfl, p, l, rfl, B2, fun r a0 a2 ws ds zs ts H3 hr h0 sh h2 nl ok lx hln B3 => ?_⟩
    have sameS : ∀ z : Str, sameD (.str z) (.str z) = true := fun z => same_refl 5 _ (by simp [okD])
    have okS : ∀ z : Str, okD 5 (.str z) = true := fun z => by simp [okD]
    refine ⟨_, rfl, r, _, 0, _, rfl, rfl, SqL.of hr, at_of (j := 0) rfl rfl, a0, ws, ds, zs, rfl, h0, sh, fun H4 s4 => ?_⟩
    refine ⟨_, rfl, r, _, 1, _, rfl, rfl, SqL.of (s4 _ _ hr), at_of (j := 1) rfl rfl, _, _, _, _, 5, rfl, .str _, .str _, okS zs, okS zs, _, rfl, ifF (by rw [sameS]; rfl) ?_⟩
    have hr4 := s4 _ _ hr
    have h04 := sqT_same s4 h0
    refine ⟨fun σ H5 => σ = [some (.ref a), some (.ref p), some (.int (0 + (i : Int))), some (.ref r)] ∧ Same H3 H5, ?_, ?_⟩
    · cases sh with
      | txt z h =>
        refine ⟨_, rfl, r, _, 0, _, rfl, rfl, SqL.of hr4, at_of (j := 0) rfl rfl, a0, _, 0, _, rfl, rfl, h04, at_of (j := 0) rfl rfl, rfl, _, rfl, ifT (by decide +kernel) ?_⟩
        refine ⟨_, rfl, r, _, 0, _, rfl, rfl, SqL.of hr4, at_of (j := 0) rfl rfl, a0, _, 1, _, rfl, rfl, h04, at_of (j := 1) rfl rfl, z, rfl, h, fun H5 s5 => ?_⟩
        exact ⟨_, rfl, r, _, 1, _, rfl, rfl, SqL.of (s5 _ _ hr4), at_of (j := 1) rfl rfl, _, _, _, _, 5, rfl, .str _, .str _, okS _, okS _, _, rfl, ifF (by rw [sameS]; rfl) ⟨rfl, s4.trans s5⟩⟩
      | _ => exact ⟨_, rfl, r, _, 0, _, rfl, rfl, SqL.of hr4, at_of (j := 0) rfl rfl, a0, _, 0, _, rfl, rfl, h04, at_of (j := 0) rfl rfl, rfl, _, rfl, ifF (by decide +kernel) (iteF ⟨rfl, s4⟩)⟩
    · rintro σ H5 ⟨rfl, s5⟩
      refine ⟨_, rfl, r, _, 1, _, rfl, rfl, SqL.of (s5 _ _ hr), at_of (j := 1) rfl rfl, zs, ts, rfl, by omega, lx, fun v H6 s6 d6 => ?_⟩
      exact ⟨_, rfl, r, _, 2, _, rfl, rfl, SqL.of (s6 _ _ (s5 _ _ hr)), at_of (j := 2) rfl rfl, v, .ref a2, _, _, 5, rfl, d6, dp_keepX (KeepX.same (s5.trans s6)) (by simpa [noL] using nl) h2, ok, ok, _, rfl, ifF (by rw [same_refl 5 _ ok]; rfl) ⟨_, _, rfl, (B3.same s5).same s6⟩⟩
  · rintro σ H2 ⟨v2, v3, rfl, _⟩
    exact q _
end
theorem all_mk {l : PySem.W.OpenLaw} {w : World} {K : PySem.W.Frag} {h : Heap} {mg : Str → Option Value} {fa : Addr} (X : K.In h) (G : h.Ns mainGlobals mg) (hfa : mg "law" = some (.ref fa))
    {f0 f1 f2 f3 f4 f5 f6 f7 f8 f9 f10 f11 f12 f13 f14 f15 f16 f17 f18 f19 f20 f21 f22 f23 f24 f25 f26 : Addr} {od0 an0 od1 an1 od2 an2 od3 an3 od4 an4 od5 an5 od6 an6 od7 an7 od8 an8 od9 an9 od10 an10 od11 an11 od12 an12 od13 an13 od14 an14 od15 an15 od16 an16 od17 an17 od18 an18 od19 an19 od20 an20 od21 an21 od22 an22 od23 an23 od24 an24 od25 an25 od26 an26 : Option Addr} {sl0 sl1 sl2 sl3 sl4 sl5 sl6 sl7 sl8 sl9 sl10 sl11 sl12 sl13 sl14 sl15 sl16 sl17 sl18 sl19 sl20 sl21 sl22 sl23 sl24 sl25 sl26 : Array (Option Value)} {oc0 kV0 dc0 pm0 cd0 ct0 oc1 kV1 dc1 pm1 cd1 ct1 oc2 kV2 dc2 pm2 cd2 ct2 oc3 kV3 dc3 pm3 cd3 ct3 oc4 kV4 dc4 pm4 cd4 ct4 oc5 kV5 dc5 pm5 cd5 ct5 oc6 kV6 dc6 pm6 cd6 ct6 oc7 kV7 dc7 pm7 cd7 ct7 oc8 kV8 dc8 pm8 cd8 ct8 oc9 kV9 dc9 pm9 cd9 ct9 oc10 kV10 dc10 pm10 cd10 ct10 oc11 kV11 dc11 pm11 cd11 ct11 oc12 kV12 dc12 pm12 cd12 ct12 oc13 kV13 dc13 pm13 cd13 ct13 oc14 kV14 dc14 pm14 cd14 ct14 oc15 kV15 dc15 pm15 cd15 ct15 oc16 kV16 dc16 pm16 cd16 ct16 oc17 kV17 dc17 pm17 cd17 ct17 oc18 kV18 dc18 pm18 cd18 ct18 oc19 kV19 dc19 pm19 cd19 ct19 oc20 kV20 dc20 pm20 cd20 ct20 oc21 kV21 dc21 pm21 cd21 ct21 oc22 kV22 dc22 pm22 cd22 ct22 oc23 kV23 dc23 pm23 cd23 ct23 oc24 kV24 dc24 pm24 cd24 ct24 oc25 kV25 dc25 pm25 cd25 ct25 oc26 kV26 dc26 pm26 cd26 ct26 : Value}
    {C_Cutter : Addr} (mg_Cutter : PySem.W.nsIn K mainGlobals "Cutter" = some (some (.ref C_Cutter)))
    (pg_Cutter : PySem.W.plainGet K C_Cutter Str.empty = true) (hd_Cutter : PySem.W.hasDictIn K C_Cutter = true) (po_Cutter : PySem.W.plainOver K C_Cutter = true) (sa_Cutter : PySem.W.findIn K (.ref C_Cutter) "__setattr__" = some (some (.builtin "object.__setattr__"))) (mk_Cutter : PySem.W.makesIn K C_Cutter = true) (kc_Cutter : PySem.W.keepIn K (.ref C_Cutter) = true)
    (na_text : PySem.W.findIn K (.ref C_Cutter) "text" = some none)
    (na_at : PySem.W.findIn K (.ref C_Cutter) "at" = some none)
    (na_line : PySem.W.findIn K (.ref C_Cutter) "line" = some none)
    (na_line_start : PySem.W.findIn K (.ref C_Cutter) "line_start" = some none)
    (na_row : PySem.W.findIn K (.ref C_Cutter) "row" = some none)
    (a0 : PySem.W.nsIn K mainGlobals "quoted" = some (some (.ref f0)))
    (l0 : K.lookup f0 = some ⟨oc0, od0, .func (PySem.W.fnOf "quoted" "quoted" (defArgs s_quoted) (defBody s_quoted) (defScope s_quoted) .none kV0 dc0 pm0 an0 cd0 ct0), sl0⟩)
    (c0 : PySem.W.codeIn K cd0 "quoted" = true) (k0 : PySem.W.keepIn K (.ref f0) = true)
    (a1 : PySem.W.nsIn K mainGlobals "shown_value" = some (some (.ref f1)))
    (l1 : K.lookup f1 = some ⟨oc1, od1, .func (PySem.W.fnOf "shown_value" "shown_value" (defArgs s_shown_value) (defBody s_shown_value) (defScope s_shown_value) .none kV1 dc1 pm1 an1 cd1 ct1), sl1⟩)
    (c1 : PySem.W.codeIn K cd1 "shown_value" = true) (k1 : PySem.W.keepIn K (.ref f1) = true)
    (a2 : PySem.W.nsIn K mainGlobals "tokens" = some (some (.ref f2)))
    (l2 : K.lookup f2 = some ⟨oc2, od2, .func (PySem.W.fnOf "tokens" "tokens" (defArgs s_tokens) (defBody s_tokens) (defScope s_tokens) .none kV2 dc2 pm2 an2 cd2 ct2), sl2⟩)
    (c2 : PySem.W.codeIn K cd2 "tokens" = true) (k2 : PySem.W.keepIn K (.ref f2) = true)
    (a3 : PySem.W.nsIn K mainGlobals "cut" = some (some (.ref f3)))
    (l3 : K.lookup f3 = some ⟨oc3, od3, .func (PySem.W.fnOf "cut" "cut" (defArgs s_cut) (defBody s_cut) (defScope s_cut) .none kV3 dc3 pm3 an3 cd3 ct3), sl3⟩)
    (c3 : PySem.W.codeIn K cd3 "cut" = true) (k3 : PySem.W.keepIn K (.ref f3) = true)
    (a4 : PySem.W.nsIn K mainGlobals "is_letter" = some (some (.ref f4)))
    (l4 : K.lookup f4 = some ⟨oc4, od4, .func (PySem.W.fnOf "is_letter" "is_letter" (defArgs s_is_letter) (defBody s_is_letter) (defScope s_is_letter) .none kV4 dc4 pm4 an4 cd4 ct4), sl4⟩)
    (c4 : PySem.W.codeIn K cd4 "is_letter" = true) (k4 : PySem.W.keepIn K (.ref f4) = true)
    (a5 : PySem.W.nsIn K mainGlobals "is_digit" = some (some (.ref f5)))
    (l5 : K.lookup f5 = some ⟨oc5, od5, .func (PySem.W.fnOf "is_digit" "is_digit" (defArgs s_is_digit) (defBody s_is_digit) (defScope s_is_digit) .none kV5 dc5 pm5 an5 cd5 ct5), sl5⟩)
    (c5 : PySem.W.codeIn K cd5 "is_digit" = true) (k5 : PySem.W.keepIn K (.ref f5) = true)
    (a6 : PySem.W.nsIn K mainGlobals "is_of_name" = some (some (.ref f6)))
    (l6 : K.lookup f6 = some ⟨oc6, od6, .func (PySem.W.fnOf "is_of_name" "is_of_name" (defArgs s_is_of_name) (defBody s_is_of_name) (defScope s_is_of_name) .none kV6 dc6 pm6 an6 cd6 ct6), sl6⟩)
    (c6 : PySem.W.codeIn K cd6 "is_of_name" = true) (k6 : PySem.W.keepIn K (.ref f6) = true)
    (a7 : PySem.W.nsIn K mainGlobals "pass_remark" = some (some (.ref f7)))
    (l7 : K.lookup f7 = some ⟨oc7, od7, .func (PySem.W.fnOf "pass_remark" "pass_remark" (defArgs s_pass_remark) (defBody s_pass_remark) (defScope s_pass_remark) .none kV7 dc7 pm7 an7 cd7 ct7), sl7⟩)
    (c7 : PySem.W.codeIn K cd7 "pass_remark" = true) (k7 : PySem.W.keepIn K (.ref f7) = true)
    (a8 : PySem.W.nsIn K mainGlobals "cut_name" = some (some (.ref f8)))
    (l8 : K.lookup f8 = some ⟨oc8, od8, .func (PySem.W.fnOf "cut_name" "cut_name" (defArgs s_cut_name) (defBody s_cut_name) (defScope s_cut_name) .none kV8 dc8 pm8 an8 cd8 ct8), sl8⟩)
    (c8 : PySem.W.codeIn K cd8 "cut_name" = true) (k8 : PySem.W.keepIn K (.ref f8) = true)
    (a9 : PySem.W.nsIn K mainGlobals "cut_number" = some (some (.ref f9)))
    (l9 : K.lookup f9 = some ⟨oc9, od9, .func (PySem.W.fnOf "cut_number" "cut_number" (defArgs s_cut_number) (defBody s_cut_number) (defScope s_cut_number) .none kV9 dc9 pm9 an9 cd9 ct9), sl9⟩)
    (c9 : PySem.W.codeIn K cd9 "cut_number" = true) (k9 : PySem.W.keepIn K (.ref f9) = true)
    (a10 : PySem.W.nsIn K mainGlobals "cut_literal" = some (some (.ref f10)))
    (l10 : K.lookup f10 = some ⟨oc10, od10, .func (PySem.W.fnOf "cut_literal" "cut_literal" (defArgs s_cut_literal) (defBody s_cut_literal) (defScope s_cut_literal) .none kV10 dc10 pm10 an10 cd10 ct10), sl10⟩)
    (c10 : PySem.W.codeIn K cd10 "cut_literal" = true) (k10 : PySem.W.keepIn K (.ref f10) = true)
    (a11 : PySem.W.nsIn K mainGlobals "character_in" = some (some (.ref f11)))
    (l11 : K.lookup f11 = some ⟨oc11, od11, .func (PySem.W.fnOf "character_in" "character_in" (defArgs s_character_in) (defBody s_character_in) (defScope s_character_in) .none kV11 dc11 pm11 an11 cd11 ct11), sl11⟩)
    (c11 : PySem.W.codeIn K cd11 "character_in" = true) (k11 : PySem.W.keepIn K (.ref f11) = true)
    (a12 : PySem.W.nsIn K mainGlobals "escaped" = some (some (.ref f12)))
    (l12 : K.lookup f12 = some ⟨oc12, od12, .func (PySem.W.fnOf "escaped" "escaped" (defArgs s_escaped) (defBody s_escaped) (defScope s_escaped) .none kV12 dc12 pm12 an12 cd12 ct12), sl12⟩)
    (c12 : PySem.W.codeIn K cd12 "escaped" = true) (k12 : PySem.W.keepIn K (.ref f12) = true)
    (a13 : PySem.W.nsIn K mainGlobals "cut_sign" = some (some (.ref f13)))
    (l13 : K.lookup f13 = some ⟨oc13, od13, .func (PySem.W.fnOf "cut_sign" "cut_sign" (defArgs s_cut_sign) (defBody s_cut_sign) (defScope s_cut_sign) .none kV13 dc13 pm13 an13 cd13 ct13), sl13⟩)
    (c13 : PySem.W.codeIn K cd13 "cut_sign" = true) (k13 : PySem.W.keepIn K (.ref f13) = true)
    (a14 : PySem.W.nsIn K mainGlobals "_law_cell" = some (some (.ref f14)))
    (l14 : K.lookup f14 = some ⟨oc14, od14, .func (PySem.W.fnOf "_law_cell" "_law_cell" (defArgs s__law_cell) (defBody s__law_cell) (defScope s__law_cell) .none kV14 dc14 pm14 an14 cd14 ct14), sl14⟩)
    (c14 : PySem.W.codeIn K cd14 "_law_cell" = true) (k14 : PySem.W.keepIn K (.ref f14) = true)
    (a15 : PySem.W.nsIn K mainGlobals "_law_digits" = some (some (.ref f15)))
    (l15 : K.lookup f15 = some ⟨oc15, od15, .func (PySem.W.fnOf "_law_digits" "_law_digits" (defArgs s__law_digits) (defBody s__law_digits) (defScope s__law_digits) .none kV15 dc15 pm15 an15 cd15 ct15), sl15⟩)
    (c15 : PySem.W.codeIn K cd15 "_law_digits" = true) (k15 : PySem.W.keepIn K (.ref f15) = true)
    (a16 : PySem.W.nsIn K mainGlobals "_law_draw" = some (some (.ref f16)))
    (l16 : K.lookup f16 = some ⟨oc16, od16, .func (PySem.W.fnOf "_law_draw" "_law_draw" (defArgs s__law_draw) (defBody s__law_draw) (defScope s__law_draw) .none kV16 dc16 pm16 an16 cd16 ct16), sl16⟩)
    (c16 : PySem.W.codeIn K cd16 "_law_draw" = true) (k16 : PySem.W.keepIn K (.ref f16) = true)
    (a17 : PySem.W.nsIn K mainGlobals "_law_same" = some (some (.ref f17)))
    (l17 : K.lookup f17 = some ⟨oc17, od17, .func (PySem.W.fnOf "_law_same" "_law_same" (defArgs s__law_same) (defBody s__law_same) (defScope s__law_same) .none kV17 dc17 pm17 an17 cd17 ct17), sl17⟩)
    (c17 : PySem.W.codeIn K cd17 "_law_same" = true) (k17 : PySem.W.keepIn K (.ref f17) = true)
    (a18 : PySem.W.nsIn K mainGlobals "_law_sign" = some (some (.ref f18)))
    (l18 : K.lookup f18 = some ⟨oc18, od18, .func (PySem.W.fnOf "_law_sign" "_law_sign" (defArgs s__law_sign) (defBody s__law_sign) (defScope s__law_sign) .none kV18 dc18 pm18 an18 cd18 ct18), sl18⟩)
    (c18 : PySem.W.codeIn K cd18 "_law_sign" = true) (k18 : PySem.W.keepIn K (.ref f18) = true)
    (a19 : PySem.W.nsIn K mainGlobals "_law_spelled" = some (some (.ref f19)))
    (l19 : K.lookup f19 = some ⟨oc19, od19, .func (PySem.W.fnOf "_law_spelled" "_law_spelled" (defArgs s__law_spelled) (defBody s__law_spelled) (defScope s__law_spelled) .none kV19 dc19 pm19 an19 cd19 ct19), sl19⟩)
    (c19 : PySem.W.codeIn K cd19 "_law_spelled" = true) (k19 : PySem.W.keepIn K (.ref f19) = true)
    (a20 : PySem.W.nsIn K mainGlobals "_law_characters" = some (some (.ref f20)))
    (l20 : K.lookup f20 = some ⟨oc20, od20, .func (PySem.W.fnOf "_law_characters" "_law_characters" (defArgs s__law_characters) (defBody s__law_characters) (defScope s__law_characters) .none kV20 dc20 pm20 an20 cd20 ct20), sl20⟩)
    (c20 : PySem.W.codeIn K cd20 "_law_characters" = true) (k20 : PySem.W.keepIn K (.ref f20) = true)
    (a21 : PySem.W.nsIn K mainGlobals "_law_number" = some (some (.ref f21)))
    (l21 : K.lookup f21 = some ⟨oc21, od21, .func (PySem.W.fnOf "_law_number" "_law_number" (defArgs s__law_number) (defBody s__law_number) (defScope s__law_number) .none kV21 dc21 pm21 an21 cd21 ct21), sl21⟩)
    (c21 : PySem.W.codeIn K cd21 "_law_number" = true) (k21 : PySem.W.keepIn K (.ref f21) = true)
    (a22 : PySem.W.nsIn K mainGlobals "_law_plain" = some (some (.ref f22)))
    (l22 : K.lookup f22 = some ⟨oc22, od22, .func (PySem.W.fnOf "_law_plain" "_law_plain" (defArgs s__law_plain) (defBody s__law_plain) (defScope s__law_plain) .none kV22 dc22 pm22 an22 cd22 ct22), sl22⟩)
    (c22 : PySem.W.codeIn K cd22 "_law_plain" = true) (k22 : PySem.W.keepIn K (.ref f22) = true)
    (a23 : PySem.W.nsIn K mainGlobals "law" = some (some (.ref f23)))
    (l23 : K.lookup f23 = some ⟨oc23, od23, .func (PySem.W.fnOf "law" "law" (defArgs s_law) (defBody s_law) (defScope s_law) .none kV23 dc23 pm23 an23 cd23 ct23), sl23⟩)
    (c23 : PySem.W.codeIn K cd23 "law" = true) (k23 : PySem.W.keepIn K (.ref f23) = true)
    (a24 : PySem.W.findIn K (.ref C_Cutter) "__init__" = some (some (.ref f24))) (i24 : PySem.W.isFn K (.ref f24) = true)
    (l24 : K.lookup f24 = some ⟨oc24, od24, .func (PySem.W.fnOf "__init__" "Cutter.__init__" (defArgs s_Cutter_init) (defBody s_Cutter_init) (defScope s_Cutter_init) .none kV24 dc24 pm24 an24 cd24 ct24), sl24⟩)
    (c24 : PySem.W.codeIn K cd24 "Cutter.__init__" = true) (k24 : PySem.W.keepIn K (.ref f24) = true)
    (a25 : PySem.W.findIn K (.ref C_Cutter) "column_of" = some (some (.ref f25))) (i25 : PySem.W.isFn K (.ref f25) = true)
    (l25 : K.lookup f25 = some ⟨oc25, od25, .func (PySem.W.fnOf "column_of" "Cutter.column_of" (defArgs s_Cutter_column_of) (defBody s_Cutter_column_of) (defScope s_Cutter_column_of) .none kV25 dc25 pm25 an25 cd25 ct25), sl25⟩)
    (c25 : PySem.W.codeIn K cd25 "Cutter.column_of" = true) (k25 : PySem.W.keepIn K (.ref f25) = true)
    (a26 : PySem.W.findIn K (.ref C_Cutter) "put" = some (some (.ref f26))) (i26 : PySem.W.isFn K (.ref f26) = true)
    (l26 : K.lookup f26 = some ⟨oc26, od26, .func (PySem.W.fnOf "put" "Cutter.put" (defArgs s_Cutter_put) (defBody s_Cutter_put) (defScope s_Cutter_put) .none kV26 dc26 pm26 an26 cd26 ct26), sl26⟩)
    (c26 : PySem.W.codeIn K cd26 "Cutter.put" = true) (k26 : PySem.W.keepIn K (.ref f26) = true)
    (z_len : PySem.W.nsIn K mainGlobals "len" = some none)
    (z_isinstance : PySem.W.nsIn K mainGlobals "isinstance" = some none)
    (z_tuple : PySem.W.nsIn K mainGlobals "tuple" = some none)
    (z_int : PySem.W.nsIn K mainGlobals "int" = some none)
    (z_bool : PySem.W.nsIn K mainGlobals "bool" = some none)
    (z_str : PySem.W.nsIn K mainGlobals "str" = some none)
    (z_range : PySem.W.nsIn K mainGlobals "range" = some none)
    {u_KEYWORDS : Addr} (c_KEYWORDS : PySem.W.nsIn K mainGlobals "KEYWORDS" = some (some (.ref u_KEYWORDS)))
    {dd_KEYWORDS : Option Addr} {n_KEYWORDS : Nat} {sl_KEYWORDS : Array (Option Value)} {k0_KEYWORDS k1_KEYWORDS k2_KEYWORDS k3_KEYWORDS k4_KEYWORDS k5_KEYWORDS k6_KEYWORDS k7_KEYWORDS k8_KEYWORDS k9_KEYWORDS k10_KEYWORDS k11_KEYWORDS k12_KEYWORDS k13_KEYWORDS k14_KEYWORDS k15_KEYWORDS k16_KEYWORDS k17_KEYWORDS k18_KEYWORDS k19_KEYWORDS k20_KEYWORDS k21_KEYWORDS k22_KEYWORDS k23_KEYWORDS k24_KEYWORDS k25_KEYWORDS : Tok} (q_KEYWORDS : K.lookup u_KEYWORDS = some ⟨.type "tuple", dd_KEYWORDS, .seq #[.str "record" k0_KEYWORDS, .str "proc" k1_KEYWORDS, .str "var" k2_KEYWORDS, .str "if" k3_KEYWORDS, .str "else" k4_KEYWORDS, .str "while" k5_KEYWORDS, .str "for" k6_KEYWORDS, .str "to" k7_KEYWORDS, .str "return" k8_KEYWORDS, .str "throw" k9_KEYWORDS, .str "try" k10_KEYWORDS, .str "catch" k11_KEYWORDS, .str "print" k12_KEYWORDS, .str "read" k13_KEYWORDS, .str "break" k14_KEYWORDS, .str "ahead" k15_KEYWORDS, .str "none" k16_KEYWORDS, .str "true" k17_KEYWORDS, .str "false" k18_KEYWORDS, .str "and" k19_KEYWORDS, .str "or" k20_KEYWORDS, .str "not" k21_KEYWORDS, .str "mod" k22_KEYWORDS, .str "new" k23_KEYWORDS, .str "array" k24_KEYWORDS, .str "size" k25_KEYWORDS] n_KEYWORDS, sl_KEYWORDS⟩)
    {u_LONG_SIGNS : Addr} (c_LONG_SIGNS : PySem.W.nsIn K mainGlobals "LONG_SIGNS" = some (some (.ref u_LONG_SIGNS)))
    {dd_LONG_SIGNS : Option Addr} {n_LONG_SIGNS : Nat} {sl_LONG_SIGNS : Array (Option Value)} {k0_LONG_SIGNS k1_LONG_SIGNS k2_LONG_SIGNS k3_LONG_SIGNS : Tok} (q_LONG_SIGNS : K.lookup u_LONG_SIGNS = some ⟨.type "tuple", dd_LONG_SIGNS, .seq #[.str "<=" k0_LONG_SIGNS, .str ">=" k1_LONG_SIGNS, .str "==" k2_LONG_SIGNS, .str "!=" k3_LONG_SIGNS] n_LONG_SIGNS, sl_LONG_SIGNS⟩)
    {u_SHORT_SIGNS : Addr} (c_SHORT_SIGNS : PySem.W.nsIn K mainGlobals "SHORT_SIGNS" = some (some (.ref u_SHORT_SIGNS)))
    {dd_SHORT_SIGNS : Option Addr} {n_SHORT_SIGNS : Nat} {sl_SHORT_SIGNS : Array (Option Value)} {k0_SHORT_SIGNS k1_SHORT_SIGNS k2_SHORT_SIGNS k3_SHORT_SIGNS k4_SHORT_SIGNS k5_SHORT_SIGNS k6_SHORT_SIGNS k7_SHORT_SIGNS k8_SHORT_SIGNS k9_SHORT_SIGNS k10_SHORT_SIGNS k11_SHORT_SIGNS k12_SHORT_SIGNS k13_SHORT_SIGNS k14_SHORT_SIGNS k15_SHORT_SIGNS k16_SHORT_SIGNS : Tok} (q_SHORT_SIGNS : K.lookup u_SHORT_SIGNS = some ⟨.type "tuple", dd_SHORT_SIGNS, .seq #[.str "(" k0_SHORT_SIGNS, .str ")" k1_SHORT_SIGNS, .str "{" k2_SHORT_SIGNS, .str "}" k3_SHORT_SIGNS, .str "[" k4_SHORT_SIGNS, .str "]" k5_SHORT_SIGNS, .str "," k6_SHORT_SIGNS, .str ";" k7_SHORT_SIGNS, .str "." k8_SHORT_SIGNS, .str "=" k9_SHORT_SIGNS, .str "+" k10_SHORT_SIGNS, .str "-" k11_SHORT_SIGNS, .str "*" k12_SHORT_SIGNS, .str "/" k13_SHORT_SIGNS, .str "&" k14_SHORT_SIGNS, .str "<" k15_SHORT_SIGNS, .str ">" k16_SHORT_SIGNS] n_SHORT_SIGNS, sl_SHORT_SIGNS⟩)
    {t_TEXT_CHARACTERS : Tok} (c_TEXT_CHARACTERS : PySem.W.nsIn K mainGlobals "TEXT_CHARACTERS" = some (some (.int (8000) t_TEXT_CHARACTERS)))
    {t_NAME_CHARACTERS : Tok} (c_NAME_CHARACTERS : PySem.W.nsIn K mainGlobals "NAME_CHARACTERS" = some (some (.int (20) t_NAME_CHARACTERS)))
    {t_NUMBER_DIGITS : Tok} (c_NUMBER_DIGITS : PySem.W.nsIn K mainGlobals "NUMBER_DIGITS" = some (some (.int (60) t_NUMBER_DIGITS)))
    {t_LITERAL_CHARACTERS : Tok} (c_LITERAL_CHARACTERS : PySem.W.nsIn K mainGlobals "LITERAL_CHARACTERS" = some (some (.int (100) t_LITERAL_CHARACTERS)))
    {u_ESCAPES : Addr} (c_ESCAPES : PySem.W.nsIn K mainGlobals "ESCAPES" = some (some (.ref u_ESCAPES)))
    {es_ESCAPES : Array DictEntry} {n_ESCAPES : Nat} (q_ESCAPES : K.lookup u_ESCAPES = some ⟨.type "dict", none, .dict es_ESCAPES n_ESCAPES, #[]⟩) (r_ESCAPES : PySem.W.KeysLit w.params es_ESCAPES.toList) (s_ESCAPES : (u_ESCAPES == sysModules) = false)
    (g_ESCAPES : KeysAre es_ESCAPES.toList ["\"", "\\", "n"])
    {j_ESCAPES_0 : Tok} (k_ESCAPES_0 : PySem.W.nsIn K u_ESCAPES "\"" = some (some (.str "\"" j_ESCAPES_0)))
    {j_ESCAPES_1 : Tok} (k_ESCAPES_1 : PySem.W.nsIn K u_ESCAPES "\\" = some (some (.str "\\" j_ESCAPES_1)))
    {j_ESCAPES_2 : Tok} (k_ESCAPES_2 : PySem.W.nsIn K u_ESCAPES "n" = some (some (.str "\n" j_ESCAPES_2)))
    {u_ESCAPED : Addr} (c_ESCAPED : PySem.W.nsIn K mainGlobals "ESCAPED" = some (some (.ref u_ESCAPED)))
    {es_ESCAPED : Array DictEntry} {n_ESCAPED : Nat} (q_ESCAPED : K.lookup u_ESCAPED = some ⟨.type "dict", none, .dict es_ESCAPED n_ESCAPED, #[]⟩) (r_ESCAPED : PySem.W.KeysLit w.params es_ESCAPED.toList) (s_ESCAPED : (u_ESCAPED == sysModules) = false)
    (g_ESCAPED : KeysAre es_ESCAPED.toList ["\"", "\\", "\n"])
    {j_ESCAPED_0 : Tok} (k_ESCAPED_0 : PySem.W.nsIn K u_ESCAPED "\"" = some (some (.str "\\\"" j_ESCAPED_0)))
    {j_ESCAPED_1 : Tok} (k_ESCAPED_1 : PySem.W.nsIn K u_ESCAPED "\\" = some (some (.str "\\\\" j_ESCAPED_1)))
    {j_ESCAPED_2 : Tok} (k_ESCAPED_2 : PySem.W.nsIn K u_ESCAPED "\n" = some (some (.str "\\n" j_ESCAPED_2)))
    : ∃ fd : FuncData, (∀ (s : Shared) (v : Value), BindsTo s fd ⟨[v], []⟩ [("script", v)]) ∧ ∀ base : Heap, K.In base → base.Ns mainGlobals mg → FnOk l.prog w K mg base CX0 6 fa fd ["script"] (spLaw K) := by
  have e := hfa.symm.trans (PySem.W.mg_of X G a23)
  cases e
  have F0 := fun_mk (st := s_quoted) l0 c0 k0
  have b0 := F0.binds (ps := ["characters"]) fun _ _ _ _ _ _ us hl => match us, hl with | [_], _ => rfl
  have F1 := fun_mk (st := s_shown_value) l1 c1 k1
  have b1 := F1.binds (ps := ["value"]) fun _ _ _ _ _ _ us hl => match us, hl with | [_], _ => rfl
  have F2 := fun_mk (st := s_tokens) l2 c2 k2
  have b2 := F2.binds (ps := ["text"]) fun _ _ _ _ _ _ us hl => match us, hl with | [_], _ => rfl
  have F3 := fun_mk (st := s_cut) l3 c3 k3
  have b3 := F3.binds (ps := ["cutter"]) fun _ _ _ _ _ _ us hl => match us, hl with | [_], _ => rfl
  have F4 := fun_mk (st := s_is_letter) l4 c4 k4
  have b4 := F4.binds (ps := ["character"]) fun _ _ _ _ _ _ us hl => match us, hl with | [_], _ => rfl
  have F5 := fun_mk (st := s_is_digit) l5 c5 k5
  have b5 := F5.binds (ps := ["character"]) fun _ _ _ _ _ _ us hl => match us, hl with | [_], _ => rfl
  have F6 := fun_mk (st := s_is_of_name) l6 c6 k6
  have b6 := F6.binds (ps := ["character"]) fun _ _ _ _ _ _ us hl => match us, hl with | [_], _ => rfl
  have F7 := fun_mk (st := s_pass_remark) l7 c7 k7
  have b7 := F7.binds (ps := ["cutter"]) fun _ _ _ _ _ _ us hl => match us, hl with | [_], _ => rfl
  have F8 := fun_mk (st := s_cut_name) l8 c8 k8
  have b8 := F8.binds (ps := ["cutter"]) fun _ _ _ _ _ _ us hl => match us, hl with | [_], _ => rfl
  have F9 := fun_mk (st := s_cut_number) l9 c9 k9
  have b9 := F9.binds (ps := ["cutter"]) fun _ _ _ _ _ _ us hl => match us, hl with | [_], _ => rfl
  have F10 := fun_mk (st := s_cut_literal) l10 c10 k10
  have b10 := F10.binds (ps := ["cutter"]) fun _ _ _ _ _ _ us hl => match us, hl with | [_], _ => rfl
  have F11 := fun_mk (st := s_character_in) l11 c11 k11
  have b11 := F11.binds (ps := ["cutter", "at"]) fun _ _ _ _ _ _ us hl => match us, hl with | [_, _], _ => rfl
  have F12 := fun_mk (st := s_escaped) l12 c12 k12
  have b12 := F12.binds (ps := ["cutter", "at"]) fun _ _ _ _ _ _ us hl => match us, hl with | [_, _], _ => rfl
  have F13 := fun_mk (st := s_cut_sign) l13 c13 k13
  have b13 := F13.binds (ps := ["cutter"]) fun _ _ _ _ _ _ us hl => match us, hl with | [_], _ => rfl
  have F14 := fun_mk (st := s__law_cell) l14 c14 k14
  have b14 := F14.binds (ps := ["script", "k"]) fun _ _ _ _ _ _ us hl => match us, hl with | [_, _], _ => rfl
  have F15 := fun_mk (st := s__law_digits) l15 c15 k15
  have b15 := F15.binds (ps := ["script", "first", "last"]) fun _ _ _ _ _ _ us hl => match us, hl with | [_, _, _], _ => rfl
  have F16 := fun_mk (st := s__law_draw) l16 c16 k16
  have b16 := F16.binds (ps := ["box", "many"]) fun _ _ _ _ _ _ us hl => match us, hl with | [_, _], _ => rfl
  have F17 := fun_mk (st := s__law_same) l17 c17 k17
  have b17 := F17.binds (ps := ["actual", "expected"]) fun _ _ _ _ _ _ us hl => match us, hl with | [_, _], _ => rfl
  have F18 := fun_mk (st := s__law_sign) l18 c18 k18
  have b18 := F18.binds (ps := ["box"]) fun _ _ _ _ _ _ us hl => match us, hl with | [_], _ => rfl
  have F19 := fun_mk (st := s__law_spelled) l19 c19 k19
  have b19 := F19.binds (ps := ["characters"]) fun _ _ _ _ _ _ us hl => match us, hl with | [_], _ => rfl
  have F20 := fun_mk (st := s__law_characters) l20 c20 k20
  have b20 := F20.binds (ps := ["box"]) fun _ _ _ _ _ _ us hl => match us, hl with | [_], _ => rfl
  have F21 := fun_mk (st := s__law_number) l21 c21 k21
  have b21 := F21.binds (ps := ["box"]) fun _ _ _ _ _ _ us hl => match us, hl with | [_], _ => rfl
  have F22 := fun_mk (st := s__law_plain) l22 c22 k22
  have b22 := F22.binds (ps := ["box"]) fun _ _ _ _ _ _ us hl => match us, hl with | [_], _ => rfl
  have F23 := fun_mk (st := s_law) l23 c23 k23
  have b23 := F23.binds (ps := ["script"]) fun _ _ _ _ _ _ us hl => match us, hl with | [_], _ => rfl
  have F24 := fun_mk (st := s_Cutter_init) l24 c24 k24
  have b24 := F24.binds (ps := ["self", "text"]) fun _ _ _ _ _ _ us hl => match us, hl with | [_, _], _ => rfl
  have F25 := fun_mk (st := s_Cutter_column_of) l25 c25 k25
  have b25 := F25.binds (ps := ["self", "at"]) fun _ _ _ _ _ _ us hl => match us, hl with | [_, _], _ => rfl
  have F26 := fun_mk (st := s_Cutter_put) l26 c26 k26
  have b26 := F26.binds (ps := ["self", "kind", "value", "end"]) fun _ _ _ _ _ _ us hl => match us, hl with | [_, _, _, _], _ => rfl
  let T : Tx K mg w := { C_Cutter := C_Cutter, cl_Cutter := ⟨pg_Cutter, hd_Cutter, po_Cutter, sa_Cutter⟩, mg_Cutter := PySem.W.mg_of X G mg_Cutter, na_text := na_text, na_at := na_at, na_line := na_line, na_line_start := na_line_start, na_row := na_row, d_quoted := ⟨_, _, F0, b0, PySem.W.mg_of X G a0⟩, d_shown_value := ⟨_, _, F1, b1, PySem.W.mg_of X G a1⟩, d_tokens := ⟨_, _, F2, b2, PySem.W.mg_of X G a2⟩, d_cut := ⟨_, _, F3, b3, PySem.W.mg_of X G a3⟩, d_is_letter := ⟨_, _, F4, b4, PySem.W.mg_of X G a4⟩, d_is_digit := ⟨_, _, F5, b5, PySem.W.mg_of X G a5⟩, d_is_of_name := ⟨_, _, F6, b6, PySem.W.mg_of X G a6⟩, d_pass_remark := ⟨_, _, F7, b7, PySem.W.mg_of X G a7⟩, d_cut_name := ⟨_, _, F8, b8, PySem.W.mg_of X G a8⟩, d_cut_number := ⟨_, _, F9, b9, PySem.W.mg_of X G a9⟩, d_cut_literal := ⟨_, _, F10, b10, PySem.W.mg_of X G a10⟩, d_character_in := ⟨_, _, F11, b11, PySem.W.mg_of X G a11⟩, d_escaped := ⟨_, _, F12, b12, PySem.W.mg_of X G a12⟩, d_cut_sign := ⟨_, _, F13, b13, PySem.W.mg_of X G a13⟩, d__law_cell := ⟨_, _, F14, b14, PySem.W.mg_of X G a14⟩, d__law_digits := ⟨_, _, F15, b15, PySem.W.mg_of X G a15⟩, d__law_draw := ⟨_, _, F16, b16, PySem.W.mg_of X G a16⟩, d__law_same := ⟨_, _, F17, b17, PySem.W.mg_of X G a17⟩, d__law_sign := ⟨_, _, F18, b18, PySem.W.mg_of X G a18⟩, d__law_spelled := ⟨_, _, F19, b19, PySem.W.mg_of X G a19⟩, d__law_characters := ⟨_, _, F20, b20, PySem.W.mg_of X G a20⟩, d__law_number := ⟨_, _, F21, b21, PySem.W.mg_of X G a21⟩, d__law_plain := ⟨_, _, F22, b22, PySem.W.mg_of X G a22⟩, d_law := ⟨_, _, F23, b23, PySem.W.mg_of X G a23⟩, d_Cutter_init := ⟨_, _, F24, b24⟩, mk_Cutter := ⟨mk_Cutter, a24, i24, kc_Cutter⟩, d_Cutter_column_of := ⟨_, _, F25, b25, ⟨a25, i25, k25⟩⟩, d_Cutter_put := ⟨_, _, F26, b26, ⟨a26, i26, k26⟩⟩, z_len := PySem.W.mg_none_of X G z_len, z_isinstance := PySem.W.mg_none_of X G z_isinstance, z_tuple := PySem.W.mg_none_of X G z_tuple, z_int := PySem.W.mg_none_of X G z_int, z_bool := PySem.W.mg_none_of X G z_bool, z_str := PySem.W.mg_none_of X G z_str, z_range := PySem.W.mg_none_of X G z_range, a_KEYWORDS := u_KEYWORDS, c_KEYWORDS := PySem.W.mg_of X G c_KEYWORDS, q_KEYWORDS := ⟨_, _, _, q_KEYWORDS, rfl, rfl, (by show 26 ≤ sizeLine; decide), (Paired.cons (relS _ _) (Paired.cons (relS _ _) (Paired.cons (relS _ _) (Paired.cons (relS _ _) (Paired.cons (relS _ _) (Paired.cons (relS _ _) (Paired.cons (relS _ _) (Paired.cons (relS _ _) (Paired.cons (relS _ _) (Paired.cons (relS _ _) (Paired.cons (relS _ _) (Paired.cons (relS _ _) (Paired.cons (relS _ _) (Paired.cons (relS _ _) (Paired.cons (relS _ _) (Paired.cons (relS _ _) (Paired.cons (relS _ _) (Paired.cons (relS _ _) (Paired.cons (relS _ _) (Paired.cons (relS _ _) (Paired.cons (relS _ _) (Paired.cons (relS _ _) (Paired.cons (relS _ _) (Paired.cons (relS _ _) (Paired.cons (relS _ _) (Paired.cons (relS _ _) Paired.nil))))))))))))))))))))))))))⟩, a_LONG_SIGNS := u_LONG_SIGNS, c_LONG_SIGNS := PySem.W.mg_of X G c_LONG_SIGNS, q_LONG_SIGNS := ⟨_, _, _, q_LONG_SIGNS, rfl, rfl, (by show 4 ≤ sizeLine; decide), (Paired.cons (relS _ _) (Paired.cons (relS _ _) (Paired.cons (relS _ _) (Paired.cons (relS _ _) Paired.nil))))⟩, a_SHORT_SIGNS := u_SHORT_SIGNS, c_SHORT_SIGNS := PySem.W.mg_of X G c_SHORT_SIGNS, q_SHORT_SIGNS := ⟨_, _, _, q_SHORT_SIGNS, rfl, rfl, (by show 17 ≤ sizeLine; decide), (Paired.cons (relS _ _) (Paired.cons (relS _ _) (Paired.cons (relS _ _) (Paired.cons (relS _ _) (Paired.cons (relS _ _) (Paired.cons (relS _ _) (Paired.cons (relS _ _) (Paired.cons (relS _ _) (Paired.cons (relS _ _) (Paired.cons (relS _ _) (Paired.cons (relS _ _) (Paired.cons (relS _ _) (Paired.cons (relS _ _) (Paired.cons (relS _ _) (Paired.cons (relS _ _) (Paired.cons (relS _ _) (Paired.cons (relS _ _) Paired.nil)))))))))))))))))⟩, t_TEXT_CHARACTERS := _, c_TEXT_CHARACTERS := PySem.W.mg_of X G c_TEXT_CHARACTERS, t_NAME_CHARACTERS := _, c_NAME_CHARACTERS := PySem.W.mg_of X G c_NAME_CHARACTERS, t_NUMBER_DIGITS := _, c_NUMBER_DIGITS := PySem.W.mg_of X G c_NUMBER_DIGITS, t_LITERAL_CHARACTERS := _, c_LITERAL_CHARACTERS := PySem.W.mg_of X G c_LITERAL_CHARACTERS, a_ESCAPES := u_ESCAPES, c_ESCAPES := PySem.W.mg_of X G c_ESCAPES, es_ESCAPES := _, g_ESCAPES := g_ESCAPES, n_ESCAPES := _, q_ESCAPES := ⟨q_ESCAPES, r_ESCAPES, s_ESCAPES⟩, k_ESCAPES_0 := ⟨_, k_ESCAPES_0⟩, k_ESCAPES_1 := ⟨_, k_ESCAPES_1⟩, k_ESCAPES_2 := ⟨_, k_ESCAPES_2⟩, a_ESCAPED := u_ESCAPED, c_ESCAPED := PySem.W.mg_of X G c_ESCAPED, es_ESCAPED := _, g_ESCAPED := g_ESCAPED, n_ESCAPED := _, q_ESCAPED := ⟨q_ESCAPED, r_ESCAPED, s_ESCAPED⟩, k_ESCAPED_0 := ⟨_, k_ESCAPED_0⟩, k_ESCAPED_1 := ⟨_, k_ESCAPED_1⟩, k_ESCAPED_2 := ⟨_, k_ESCAPED_2⟩ }
  exact ⟨_, fun s v => .of_eq rfl, fun base _ _ => ok_law T⟩
theorem walk {l : PySem.W.OpenLaw} {q : Program} {loose : List Str} {XP : (Str → Option Value) → Heap → Prop} {YP : World → Heap → Prop} {d : DefRec} {K : Params → PySem.W.Frag} (hn : l.most = some 63) (hdf : d.params.defaults = [])
    (hY : ∀ (w : World) (h : Heap), YP w h → (K w.params).In h)
    (F : ∀ (w : World) (mg : Str → Option Value) (fa : Addr) (h : Heap), (K w.params).In h → h.Ns mainGlobals mg → mg d.name = some (.ref fa) →
      ∃ fd : FuncData, (∀ (s : Shared) (u : Value), BindsTo s fd ⟨[u], []⟩ [("script", u)]) ∧ ∀ base : Heap, (K w.params).In base → base.Ns mainGlobals mg → FnOk l.prog w (K w.params) mg base CX0 6 fa fd ["script"] (spLaw (K w.params))) :
    PySem.W.WalkO q loose XP YP l.row.toRowW d [] (fun f vs => PySem.call f vs) :=
  L2.walk_ofB (n := 63) (k := 6) (x := "script") (CX := fun _ => CX0) (sp := fun w => spLaw (K w.params)) hn (by decide) hdf ⟨rfl, by decide, by decide⟩ hY F (fun _ _ a ns hl hb _ hS => ⟨a, ns, rfl, hS, hl, hb, fun _ => rfl⟩) fun _ _ _ _ _ z => z
end My
open PySem PySem.W PyProof.Rows
set_option maxRecDepth 100000 in
set_option maxHeartbeats 0 in
theorem PySem.Challenge.cw_foretask_k02_values_are_spelled_and_read_holds : PySem.Challenge.rw_foretask_k02_values_are_spelled_and_read.Holds := by
  w_on; o_law; k_head; (case hw => w_witness2)
  k_fill
  refine My.walk (l := PySem.Challenge.rw_foretask_k02_values_are_spelled_and_read) rfl rfl (fun w h Y => PySem.W.kIn_of Y) ?F
  case F =>
    intro w mg fa h KX G hmg
    refine' My.all_mk KX G hmg ?mg_Cutter ?pg_Cutter ?hd_Cutter ?po_Cutter ?sa_Cutter ?mk_Cutter ?kc_Cutter ?na_text ?na_at ?na_line ?na_line_start ?na_row ?a0 ?l0 ?c0 ?k0 ?a1 ?l1 ?c1 ?k1 ?a2 ?l2 ?c2 ?k2 ?a3 ?l3 ?c3 ?k3 ?a4 ?l4 ?c4 ?k4 ?a5 ?l5 ?c5 ?k5 ?a6 ?l6 ?c6 ?k6 ?a7 ?l7 ?c7 ?k7 ?a8 ?l8 ?c8 ?k8 ?a9 ?l9 ?c9 ?k9 ?a10 ?l10 ?c10 ?k10 ?a11 ?l11 ?c11 ?k11 ?a12 ?l12 ?c12 ?k12 ?a13 ?l13 ?c13 ?k13 ?a14 ?l14 ?c14 ?k14 ?a15 ?l15 ?c15 ?k15 ?a16 ?l16 ?c16 ?k16 ?a17 ?l17 ?c17 ?k17 ?a18 ?l18 ?c18 ?k18 ?a19 ?l19 ?c19 ?k19 ?a20 ?l20 ?c20 ?k20 ?a21 ?l21 ?c21 ?k21 ?a22 ?l22 ?c22 ?k22 ?a23 ?l23 ?c23 ?k23 ?a24 ?i24 ?l24 ?c24 ?k24 ?a25 ?i25 ?l25 ?c25 ?k25 ?a26 ?i26 ?l26 ?c26 ?k26 ?z_len ?z_isinstance ?z_tuple ?z_int ?z_bool ?z_str ?z_range ?c_KEYWORDS ?q_KEYWORDS ?c_LONG_SIGNS ?q_LONG_SIGNS ?c_SHORT_SIGNS ?q_SHORT_SIGNS ?c_TEXT_CHARACTERS ?c_NAME_CHARACTERS ?c_NUMBER_DIGITS ?c_LITERAL_CHARACTERS ?c_ESCAPES ?q_ESCAPES ?r_ESCAPES ?s_ESCAPES ?g_ESCAPES ?k_ESCAPES_0 ?k_ESCAPES_1 ?k_ESCAPES_2 ?c_ESCAPED ?q_ESCAPED ?r_ESCAPED ?s_ESCAPED ?g_ESCAPED ?k_ESCAPED_0 ?k_ESCAPED_1 ?k_ESCAPED_2
    (case mg_Cutter => k_is)
    (case pg_Cutter => k_is)
    (case hd_Cutter => k_is)
    (case po_Cutter => k_is)
    (case sa_Cutter => k_is)
    (case mk_Cutter => k_is)
    (case kc_Cutter => k_is)
    (case na_text => k_is)
    (case na_at => k_is)
    (case na_line => k_is)
    (case na_line_start => k_is)
    (case na_row => k_is)
    (case a0 => k_is)
    (case l0 => k_is)
    (case c0 => k_is)
    (case k0 => k_is)
    (case a1 => k_is)
    (case l1 => k_is)
    (case c1 => k_is)
    (case k1 => k_is)
    (case a2 => k_is)
    (case l2 => k_is)
    (case c2 => k_is)
    (case k2 => k_is)
    (case a3 => k_is)
    (case l3 => k_is)
    (case c3 => k_is)
    (case k3 => k_is)
    (case a4 => k_is)
    (case l4 => k_is)
    (case c4 => k_is)
    (case k4 => k_is)
    (case a5 => k_is)
    (case l5 => k_is)
    (case c5 => k_is)
    (case k5 => k_is)
    (case a6 => k_is)
    (case l6 => k_is)
    (case c6 => k_is)
    (case k6 => k_is)
    (case a7 => k_is)
    (case l7 => k_is)
    (case c7 => k_is)
    (case k7 => k_is)
    (case a8 => k_is)
    (case l8 => k_is)
    (case c8 => k_is)
    (case k8 => k_is)
    (case a9 => k_is)
    (case l9 => k_is)
    (case c9 => k_is)
    (case k9 => k_is)
    (case a10 => k_is)
    (case l10 => k_is)
    (case c10 => k_is)
    (case k10 => k_is)
    (case a11 => k_is)
    (case l11 => k_is)
    (case c11 => k_is)
    (case k11 => k_is)
    (case a12 => k_is)
    (case l12 => k_is)
    (case c12 => k_is)
    (case k12 => k_is)
    (case a13 => k_is)
    (case l13 => k_is)
    (case c13 => k_is)
    (case k13 => k_is)
    (case a14 => k_is)
    (case l14 => k_is)
    (case c14 => k_is)
    (case k14 => k_is)
    (case a15 => k_is)
    (case l15 => k_is)
    (case c15 => k_is)
    (case k15 => k_is)
    (case a16 => k_is)
    (case l16 => k_is)
    (case c16 => k_is)
    (case k16 => k_is)
    (case a17 => k_is)
    (case l17 => k_is)
    (case c17 => k_is)
    (case k17 => k_is)
    (case a18 => k_is)
    (case l18 => k_is)
    (case c18 => k_is)
    (case k18 => k_is)
    (case a19 => k_is)
    (case l19 => k_is)
    (case c19 => k_is)
    (case k19 => k_is)
    (case a20 => k_is)
    (case l20 => k_is)
    (case c20 => k_is)
    (case k20 => k_is)
    (case a21 => k_is)
    (case l21 => k_is)
    (case c21 => k_is)
    (case k21 => k_is)
    (case a22 => k_is)
    (case l22 => k_is)
    (case c22 => k_is)
    (case k22 => k_is)
    (case a23 => k_is)
    (case l23 => k_is)
    (case c23 => k_is)
    (case k23 => k_is)
    (case a24 => k_is)
    (case i24 => k_is)
    (case l24 => k_is)
    (case c24 => k_is)
    (case k24 => k_is)
    (case a25 => k_is)
    (case i25 => k_is)
    (case l25 => k_is)
    (case c25 => k_is)
    (case k25 => k_is)
    (case a26 => k_is)
    (case i26 => k_is)
    (case l26 => k_is)
    (case c26 => k_is)
    (case k26 => k_is)
    (case z_len => k_is)
    (case z_isinstance => k_is)
    (case z_tuple => k_is)
    (case z_int => k_is)
    (case z_bool => k_is)
    (case z_str => k_is)
    (case z_range => k_is)
    (case c_KEYWORDS => k_is)
    (case q_KEYWORDS => k_is)
    (case c_LONG_SIGNS => k_is)
    (case q_LONG_SIGNS => k_is)
    (case c_SHORT_SIGNS => k_is)
    (case q_SHORT_SIGNS => k_is)
    (case c_TEXT_CHARACTERS => k_is)
    (case c_NAME_CHARACTERS => k_is)
    (case c_NUMBER_DIGITS => k_is)
    (case c_LITERAL_CHARACTERS => k_is)
    (case c_ESCAPES => k_is)
    (case q_ESCAPES => k_is)
    (case g_ESCAPES => exact ⟨⟨_, rfl⟩, ⟨_, rfl⟩, ⟨_, rfl⟩, True.intro⟩)
    (case r_ESCAPES => exact ⟨⟨_, _, rfl, rfl⟩, ⟨_, _, rfl, rfl⟩, ⟨_, _, rfl, rfl⟩, True.intro⟩)
    (case s_ESCAPES => decide)
    (case k_ESCAPES_0 => k_is)
    (case k_ESCAPES_1 => k_is)
    (case k_ESCAPES_2 => k_is)
    (case c_ESCAPED => k_is)
    (case q_ESCAPED => k_is)
    (case g_ESCAPED => exact ⟨⟨_, rfl⟩, ⟨_, rfl⟩, ⟨_, rfl⟩, True.intro⟩)
    (case r_ESCAPED => exact ⟨⟨_, _, rfl, rfl⟩, ⟨_, _, rfl, rfl⟩, ⟨_, _, rfl, rfl⟩, True.intro⟩)
    (case s_ESCAPED => decide)
    (case k_ESCAPED_0 => k_is)
    (case k_ESCAPED_1 => k_is)
    (case k_ESCAPED_2 => k_is)
