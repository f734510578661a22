import PyProof.Rows.All
import Wide.All
import OpenK.AllK
import Wide.FinOn
import HandS.ForMost
import HandS.IsInst
import HandS.Wide
import HandS.EndBits
import HandS.TupAny
import HandS.TupMul
import HandS.Strs
import HandS.Codes
import HandS.More
import HandS.StrMore
import HandS.Comp
import KE.GoesMore
import HandS.CallLocal
import HandS.HeadHook3
import HandS.Head2
import HandS.TupLe
import PySem.Challenge.RW_foretask_k26_instructions_of_objects
set_option Elab.async false
set_option linter.all false
set_option maxRecDepth 100000
set_option maxHeartbeats 4000000
namespace My
open PySem L2 PySem.Spec PyProof.Rows
/-! ### the head by facts: what is looked at -/
mutual
def klitB (K : PySem.W.Frag) : PyData → Value → Bool
  | .none, u => (match u with
    | .none => true
    | _ => false)
  | .bool b, u => (match u with
    | .bool c => b == c
    | _ => false)
  | .int i, u => (match u with
    | .int j _ => decide (j = i)
    | _ => false)
  | .str s, u => (match u with
    | .str t _ => decide (t = s)
    | _ => false)
  | .tuple ds, u => (match u with
    | .ref a => (match K.lookup a with
      | some ⟨.type c, none, .seq its _, _⟩ => decide (c = "tuple") && (decide (its.toList.length ≤ 1000) && klitsB K ds its.toList)
      | _ => false)
    | _ => false)
  | .list _, _ => false
  | .dict _, _ => false
def klitsB (K : PySem.W.Frag) : List PyData → List Value → Bool
  | [], us => us.isEmpty
  | d :: ds, us => (match us with
    | u :: us => klitB K d u && klitsB K ds us
    | [] => false)
end
/-- facts besides: a constant, an entry of a table (a def, data), two classes that are not one -/
inductive Fx where
  | con (x : Str) (d : PyData)
  | ent (t z f : Str)
  | dat (t z : Str) (d : PyData)
  | ne (a b : Str)
  | sys (t : Str)
open Classical in
def Fx.ok (K : PySem.W.Frag) : Fx → Bool
  | .con x d => (match PySem.W.nsIn K mainGlobals x with
    | some (some u) => klitB K d u
    | _ => false)
  | .ent t z f => He.eqO (PySem.W.nsIn K (He.ga K t) z) (some (some (.ref (He.ga K f))))
  | .dat t z d => (match PySem.W.nsIn K (He.ga K t) z with
    | some (some u) => klitB K d u
    | _ => false)
  | .ne a b => !(He.ga K a == He.ga K b)
  | .sys t => !(He.ga K t == sysModules)
/-- what the module's names reach in n steps, from step to step -/
def nexts (g : Addr → Option Obj) (as : List Addr) : List Addr := as.flatMap fun a => match g a with
  | some o => He.refsD o
  | none => []
def asF (g : Addr → Option Obj) : Nat → List Addr → List Addr
  | 0, fr => fr
  | n + 1, fr => fr ++ asF g n (nexts g fr)
abbrev AlM : Type := (He.Al × List (Option (List (Option (Str × Int))))) × Bool
def obsM (fa : List He.Fa) (fn : List He.FnD) (ts : List He.Tab) (ex : List Fx) (K : PySem.W.Frag) : AlM := ((He.obsE fa fn K, ts.map fun t => He.dicW K (t.1 K)), (ex.all fun f => f.ok K) && fn.all fun d => PySem.W.keepIn K (.ref (He.fAd K d.at_)))
def valM (fn : List He.FnD) (ts : List He.Tab) (w : World) : AlM := ((He.valE fn, ts.map fun t => some (He.keysIn w.params t.2)), true)
def obsMG (n : Nat) (fa : List He.Fa) (fn : List He.FnD) (ts : List He.Tab) (ex : List Fx) (g : Addr → Option Obj) : AlM := obsM fa fn ts ex (He.frG g (asF g n [mainGlobals]))
def SaysM (fa : List He.Fa) (fn : List He.FnD) (ts : List He.Tab) (ex : List Fx) (w : World) (K : PySem.W.Frag) : Prop := obsM fa fn ts ex K = valM fn ts w
def hookM (n : Nat) (fa : List He.Fa) (fn : List He.FnD) (ts : List He.Tab) (ex : List Fx) : PySem.W.Hook where
  α := AlM
  obs := fun s => obsMG n fa fn ts ex s.heap.get?
  val := fun w => valM fn ts w
  says := fun w h => ∃ K : PySem.W.Frag, K.In h ∧ SaysM fa fn ts ex w K
  of := fun _ _ e => ⟨_, He.frG_in, e⟩
  keeps := fun _ _ _ ⟨K, hK, c⟩ k => ⟨K, PySem.W.Frag.In.keeps hK k, c⟩
theorem obsMG_eq {n : Nat} {fa : List He.Fa} {fn : List He.FnD} {ts : List He.Tab} {ex : List Fx} {g : Addr → Option Obj} {s : Shared} (h : ∀ a, g a = s.heap.get? a) : obsMG n fa fn ts ex g = (hookM n fa fn ts ex).obs s := by
  have e : g = s.heap.get? := funext h
  rw [e] <;> rfl
/-! ### tuples whose object is known -/
section
open PySem.Spec PyProof.Rows
variable {X : Cx}
def TupO (o : Obj) : Prop := o.cls = .type "tuple" ∧ o.dict = none
def tTupF (t : TA) : TE := fun σ H Q => t σ H fun xs H' => xs.length ≤ sizeLine ∧ ∀ (p : Addr) (o : Obj), H' p = none → TupO o → Q (.ref p) (upd H' p (.frz o (.tup xs)))
theorem pe_tupF {es : List Expr} {t : TA} {pos : Pos} {x1 : Nat} (h : PA X es t) : PE X (.Tuple es x1 pos) (tTupF t) := by
  constructor
  intro pins s σ H Q I hq
  apply wpAny_Tuple_spliced
  refine thn (h.run pos pins s σ H _ I hq) ?_
  rintro us s1 ⟨xs, H', I', r, z, q⟩
  have fr := I'.hok.fresh (Nat.le_refl s1.heap.objs.size)
  have get := Heap.get?_push_size s1.heap (o := { cls := .type "tuple", data := .seq us.toArray }) rfl
  refine ⟨by rw [← r.length]; exact z, .ref s1.heap.objs.size, _, I'.laid (o := .frz { cls := .type "tuple", data := .seq us.toArray } (.tup xs)) (t' := s1.toks) (fun _ _ e => Heap.get?_push_of_some _ e) (Nat.le_refl _) ?_, rfl, q _ _ fr ⟨rfl, rfl⟩⟩
  exact ⟨get, z, us, r, _, get, rfl, _, rfl⟩
def rCatF (K : PySem.W.Frag) : R2 := fun x y H Q => ∃ a b xs ys, x = .ref a ∧ y = .ref b ∧ SqT K H a xs ∧ SqT K H b ys ∧ xs.length + ys.length ≤ sizeLine ∧ xs ≠ [] ∧ ys ≠ [] ∧ ∀ (p : Addr) (o : Obj), H p = none → TupO o → Q (.ref p) (upd H p (.frz o (.tup (xs ++ ys))))
theorem op_catF : OpR X (binaryOp .Add) (rCatF X.K) := by
  intro pins s σ H x y v u Q I rx ry h
  obtain ⟨a, b, xs, ys, rfl, rfl, ha, hb, hz, hx, hy, q⟩ := h
  cases rx
  cases ry
  obtain ⟨its, r1, p1, _⟩ := I.tuple ha
  obtain ⟨jts, r2, p2, _⟩ := I.tuple hb
  have e1 : its ≠ [] := fun z => hx (r1.nil_iff.mp z)
  have e2 : jts ≠ [] := fun z => hy (r2.nil_iff.mp z)
  have fr := I.hok.fresh (Nat.le_refl s.heap.objs.size)
  have get := Heap.get?_push_size s.heap (o := { cls := .type "tuple", data := .seq (its ++ jts).toArray }) rfl
  refine HT.cat_tup p1 p2 e1 (fun z => absurd z e2) (fun _ => ?_) (by rw [← r1.length, ← r2.length]; exact hz)
  refine ⟨.ref s.heap.objs.size, _, I.laid (o := .frz { cls := .type "tuple", data := .seq (its ++ jts).toArray } (.tup (xs ++ ys))) (t' := s.toks) (fun _ _ e => Heap.get?_push_of_some _ e) (Nat.le_refl _) ?_, rfl, q _ _ fr ⟨rfl, rfl⟩⟩
  exact ⟨get, by rw [List.length_append]; exact hz, _, r1.append r2, _, get, rfl, _, rfl⟩
def rCatZ (K : PySem.W.Frag) : R2 := fun x y H Q => ∃ a b xs ys, x = .ref a ∧ y = .ref b ∧ SqT K H a xs ∧ SqT K H b ys ∧ xs.length + ys.length ≤ sizeLine ∧
  (xs = [] → Q (.ref b) H) ∧ (xs ≠ [] → ys = [] → Q (.ref a) H) ∧ (xs ≠ [] → ys ≠ [] → ∀ (p : Addr) (o : Obj), H p = none → TupO o → Q (.ref p) (upd H p (.frz o (.tup (xs ++ ys)))))
theorem op_catZ : OpR X (binaryOp .Add) (rCatZ X.K) := by
  intro pins s σ H x y v u Q I rx ry h
  obtain ⟨a, b, xs, ys, rfl, rfl, ha, hb, hz, q0, q1, q2⟩ := h
  by_cases hx : xs = []
  · exact op_catA pins s σ H _ _ v u Q I rx ry ⟨a, b, xs, ys, rfl, rfl, ha, hb, hz, q0, fun z => absurd hx z, fun z => absurd hx z⟩
  · by_cases hy : ys = []
    · exact op_catA pins s σ H _ _ v u Q I rx ry ⟨a, b, xs, ys, rfl, rfl, ha, hb, hz, q0, q1, fun _ z => absurd hy z⟩
    · exact op_catF pins s σ H _ _ v u Q I rx ry ⟨a, b, xs, ys, rfl, rfl, ha, hb, hz, hx, hy, q2 hx hy⟩
def rSlZ (K : PySem.W.Frag) : V → Option Int → Option Int → Hp → VK → Prop := fun x lo hi H Q => ∃ a xs, x = .ref a ∧ SqT K H a xs ∧
  (HT.sIx xs.length 0 lo = 0 ∧ HT.sIx xs.length xs.length hi = xs.length → Q (.ref a) H) ∧ (¬ (HT.sIx xs.length 0 lo = 0 ∧ HT.sIx xs.length xs.length hi = xs.length) → ∀ (p : Addr) (o : Obj), H p = none → TupO o → Q (.ref p) (upd H p (.frz o (.tup (cutV xs lo hi)))))
theorem sl_tupZ : SlR X (rSlZ X.K) := by
  intro pins s σ H x v vl vu lo hi sl Q I rx hs pl pu h
  obtain ⟨a, xs, rfl, hx, q1, q2⟩ := h
  by_cases hw : HT.sIx xs.length 0 lo = 0 ∧ HT.sIx xs.length xs.length hi = xs.length
  · exact sl_tupA pins s σ H _ v vl vu lo hi sl Q I rx hs pl pu ⟨a, xs, rfl, hx, q1, fun z => absurd hw z⟩
  · cases rx
    obtain ⟨its, r, ht, hz⟩ := I.tuple hx
    have hlen : its.toArray.size = xs.length := by rw [List.size_toArray]; exact r.length.symm
    refine ⟨"tuple", _, PyProof.Rows.slot_tuple_getitem.lookup, ht.typeIs, ?_⟩
    refine HT.getItem_tuple_cut ht hs pl pu (by rw [hlen]; exact hw) ?_ (by rw [hlen]; exact hz)
    rw [hlen]
    refine ⟨.ref s.heap.objs.size, _, I.laid (t' := s.toks) (o := .frz { cls := .type "tuple", data := .seq ((its.drop (HT.sIx xs.length 0 lo)).take (HT.sIx xs.length xs.length hi - HT.sIx xs.length 0 lo)).toArray } (.tup (cutV xs lo hi))) (fun b ob q => Heap.get?_push_of_some _ q) (Nat.le_refl _) ?_, rfl, q2 hw _ _ (I.hok.fresh (Nat.le_refl _)) ⟨rfl, rfl⟩⟩
    have get := Heap.get?_push_size s.heap (o := { cls := .type "tuple", data := .seq ((its.drop (HT.sIx xs.length 0 lo)).take (HT.sIx xs.length xs.length hi - HT.sIx xs.length 0 lo)).toArray }) rfl
    exact ⟨get, Nat.le_trans (cutV_length xs lo hi) hz, _, (r.drop (HT.sIx xs.length 0 lo)).take (HT.sIx xs.length xs.length hi - HT.sIx xs.length 0 lo), _, get, rfl, _, rfl⟩
def rRepZ (K : PySem.W.Frag) : R2 := fun x y H Q => ∃ l k xs, x = .ref l ∧ y = .int k ∧ SqT K H l xs ∧ xs ≠ [] ∧ 2 ≤ k ∧ k ≤ 1000 ∧ xs.length ≤ 1000 ∧ ∀ (p : Addr) (o : Obj), H p = none → TupO o → Q (.ref p) (upd H p (.frz o (.tup (List.replicate k.toNat xs).flatten)))
theorem op_repZ : OpR X (binaryOp .Mult) (rRepZ X.K) := by
  intro pins s σ H x y v u Q I rx ry h
  obtain ⟨l, k, xs, rfl, rfl, hT, hne, h1, h2, hz, q⟩ := h
  cases rx
  obtain ⟨t, rfl⟩ := ry
  obtain ⟨its, r, ⟨⟨cls, dd, data, sl⟩, ho, hc, n, hd⟩, hs⟩ := I.tuple hT
  simp only at hc hd
  subst hc hd
  have hle : its.length = xs.length := r.length.symm
  have hn : its ≠ [] := fun e => hne (by
    rw [e] at hle
    exact List.eq_nil_of_length_eq_zero hle.symm)
  have hi : its.toArray.isEmpty = false := by
    cases its with
    | nil => exact absurd rfl hn
    | cons a b => rfl
  have hsz0 : its.toArray.size = xs.length := by rw [List.size_toArray, hle]
  have hm : ((its.toArray.size : Nat) : Int) * k ≤ 1000000 := by
    rw [hsz0]
    have a1 : ((xs.length : Nat) : Int) * k ≤ 1000 * k := Int.mul_le_mul_of_nonneg_right (by omega) (by omega)
    omega
  have flen : (List.replicate k.toNat its).flatten.length ≤ sizeLine := by
    rw [PyProof.Rows.lm_len_rep_flat, hle, sizeLine_eq]
    have a1 : k.toNat * xs.length ≤ 1000 * 1000 := Nat.mul_le_mul (by omega) hz
    omega
  have c0 : (decide (k < -(2 ^ 63)) || decide (k ≥ 2 ^ 63)) = false := by
    rw [decide_eq_false (by omega), decide_eq_false (by omega)] <;> rfl
  have c1 : (its.toArray.isEmpty || k == 1) = false := by
    rw [hi, Bool.false_or]
    exact beq_eq_false_iff_ne.mpr (by omega)
  have c2 : (decide (k ≤ 0) || its.toArray.isEmpty) = false := by
    rw [hi, Bool.or_false]
    exact decide_eq_false (by omega)
  have c4 : Builtin.Tuple.tupleTooMany (((its.toArray.size : Nat) : Int) * k) = false := by
    unfold Builtin.Tuple.tupleTooMany
    rw [sizeLine_eq]
    exact decide_eq_false (by omega)
  refine wpAny_binaryOp_repeat_ref (T := "tuple") (U := "int") (by decide) ⟨_, ho, rfl⟩ (fun s' => typeIs_int s' k t) noFill_tuple_mul F.fills_int_mul F.slot_int_rmul repeat_tuple F.slot_int_index.lookup
    (call_meets F.slot_int_rmul (typeIs_int s k t) F.entry_int_rmul (F.args_int_rmul_2 _ _) (int_rmul_tuple k t l its.toArray n dd sl)
      ⟨ho, rfl, ⟨_, ho, rfl⟩, call_meets F.slot_tuple_mul ⟨_, ho, rfl⟩ F.entry_tuple_mul (F.args_tuple_mul_2 _ _) (tuple_mulW l its.toArray n dd sl k t c0 c1 c2 (by omega) c4 (by rw [size_rep, List.size_toArray]; exact flen)) ⟨ho, ?_⟩⟩)
  rw [size_rep]
  refine ⟨.ref s.heap.objs.size, _, I.laid (t' := s.toks) (o := .frz { cls := .type "tuple", data := .seq (List.replicate k.toNat its).flatten.toArray } (.tup (List.replicate k.toNat xs).flatten)) (fun b ob q => Heap.get?_push_of_some _ q) (Nat.le_refl _) ?_, rfl, q _ _ (I.hok.fresh (Nat.le_refl _)) ⟨rfl, rfl⟩⟩
  have get := Heap.get?_push_size s.heap (o := { cls := .type "tuple", data := .seq (List.replicate k.toNat its).flatten.toArray }) rfl
  exact ⟨get, by rw [PyProof.Rows.lm_len_rep_flat, sizeLine_eq]; have a1 : k.toNat * xs.length ≤ 1000 * 1000 := Nat.mul_le_mul (by omega) hz; omega, _, r.rep k.toNat, _, get, rfl, _, rfl⟩
theorem call_tupleZ : CallR X (.type "tuple") (fun xs H Q => ∃ p ys, xs = [.ref p] ∧ ((SqL X.K H p ys ∧ ∀ (l : Addr) (o : Obj), H l = none → TupO o → Q (.ref l) (upd H l (.frz o (.tup ys)))) ∨ (SqT X.K H p ys ∧ Q (.ref p) H))) := by
  intro pins s σ H xs us Q I r h
  obtain ⟨p, ys, rfl, h⟩ := h
  obtain ⟨u, rfl, rx⟩ := vals1 r
  cases rx
  rcases h with ⟨hq, q⟩ | ⟨hq, q⟩
  · obtain ⟨its, r', pl, hz⟩ := I.list hq
    have hlen := r'.length
    refine call_tuple_list pl.isList (fun h' kp => ?_) (by simp only [List.size_toArray] <;> omega)
    have I1 : Inv X pins σ H { s with heap := h' } := I.kept (t' := s.toks) kp
    have get := Heap.get?_push_size h' (o := { cls := .type "tuple", data := .seq its.toArray }) rfl
    have I2 : Inv X pins σ (upd H h'.objs.size (.frz { cls := .type "tuple", data := .seq its.toArray } (.tup ys))) { s with heap := h'.push { cls := .type "tuple", data := .seq its.toArray } } :=
      I1.laid (t' := s.toks) (fun b o e => Heap.get?_push_of_some _ e) (Nat.le_refl _) (show ObjOk X.prog X.w _ _ _ (.frz _ (.tup ys)) from ⟨get, hz, its, r', _, get, rfl, _, rfl⟩)
    exact ⟨.ref h'.objs.size, _, I2, rfl, q _ _ (I1.hok.fresh (Nat.le_refl _)) ⟨rfl, rfl⟩⟩
  · obtain ⟨its, r', pl, hz⟩ := I.tuple hq
    exact call_tuple_same pl ⟨.ref p, H, I, rfl, q⟩
/-- a method of a tuple whose object is known -/
def tMT (K : PySem.W.Frag) (r : V → List V → Hp → VK → Prop) (to : TE) (t : TA) : TE := fun σ H Q => to σ H fun x H' => (∃ p, x = .ref p ∧ ((∃ o u, H' p = some (.frz o u) ∧ TupO o) ∨ ∃ o, K.lookup p = some o ∧ TupO o)) ∧ t σ H' fun xs H'' => r x xs H'' Q
theorem pe_mt {o e : Expr} {to : TE} {t : TA} {nm : Str} {apos cpos : Pos} {id : String} {r : V → List V → Hp → VK → Prop} (slot : Slot "tuple" nm id) (hty : typeOf (.builtin id) = pure (.type "method_descriptor")) (hm : MtR X id r)
    (ho : PE X o to) (ha : PA X [e] t) (hb : attributeBase o nm X.env (eval o X.env) = eval o X.env := by rfl)
    (hf : ((backTo cpos (starEach [e] X.env)).all (fun x => !x.1) && (backToKw cpos (keywordEach [] X.env)).all (fun x => x.1.isSome) && decide (([e] : List Expr).length + ([] : List Keyword).length + (if ([] : List Keyword).isEmpty then 0 else 1) < 30)) = true := by rfl)
    (hl : (apos.endLine == cpos.line) = true := by rfl) (hs : starEach [e] X.env = (false, eval e X.env) :: starEach [] X.env := by rfl) (hp : (backTo cpos (starEach [] X.env)).any (·.1) = false := by rfl) :
    PE X (.Call (.Attribute o nm apos) [e] [] cpos) (tMT X.K r to t) := by
  constructor
  intro pins s σ H Q I h
  refine wpAny_Call_method_late hb hf hl rfl (thn (ho.run pins s σ H _ I h) ?_)
  rintro v s1 ⟨x, H', I', rx, ⟨p, rfl, hx⟩, q1⟩
  cases rx
  have ⟨ob, g, hc, hd⟩ : ∃ ob, s1.heap.get? p = some ob ∧ ob.cls = .type "tuple" ∧ ob.dict = none := by
    rcases hx with ⟨ob, u, hx, hc, hd⟩ | ⟨ob, hx, hc, hd⟩
    · have ok : ObjOk X.prog X.w H' s1.heap p (.frz ob u) := I'.hok p _ hx
      exact ⟨ob, ok.1, hc, hd⟩
    · exact ⟨ob, I'.kIn _ _ hx, hc, hd⟩
  refine ⟨"tuple", id, PySem.F.plainAttrs_tuple, slot, hty, ⟨ob, g, hc⟩, fun a e => ?_, ?_⟩
  · cases e
    exact ⟨ob, g, hd⟩
  · have hA := ha.run cpos pins s1 σ H' _ I' q1
    rw [hs] at hA ⊢
    refine Calls.callWith_builtin (by show (false || (backTo cpos (starEach [] X.env)).any (·.1)) = false; rw [hp]; rfl) (Calls.evalArgs_plain (thn hA ?_))
    rintro us s2 ⟨vs, H2, I2, r2, q2⟩
    exact hm pins s2 σ H2 (.ref p) vs (.ref p) us Q I2 rfl r2 q2
end
/-- a tuple's items, its object known -/
def Tq (K : PySem.W.Frag) (H : Hp) (a : Addr) (xs : List V) : Prop :=
  (∃ o, H a = some (.frz o (.tup xs)) ∧ TupO o) ∨ ∃ (o : Obj) (its : Array Value) (n : Nat), K.lookup a = some o ∧ TupO o ∧ o.data = .seq its n ∧ its.size ≤ sizeLine ∧ Vals xs its.toList
theorem Tq.sq {K : PySem.W.Frag} {H : Hp} {a : Addr} {xs : List V} (h : Tq K H a xs) : SqT K H a xs := by
  rcases h with ⟨o, h, _⟩ | ⟨o, its, n, h1, h2, h3, h4, h5⟩
  · exact .inl (.inr ⟨o, h⟩)
  · exact .inr ⟨o, its, n, h1, h2.1, h3, h4, h5⟩
theorem Tq.tob {K : PySem.W.Frag} {H : Hp} {a : Addr} {xs : List V} (h : Tq K H a xs) : (∃ o u, H a = some (.frz o u) ∧ TupO o) ∨ ∃ o, K.lookup a = some o ∧ TupO o := by
  rcases h with ⟨o, h, t⟩ | ⟨o, its, n, h1, h2, _⟩
  · exact .inl ⟨o, _, h, t⟩
  · exact .inr ⟨o, h1, h2⟩

mutual
inductive Dq (K : PySem.W.Frag) (H : Hp) : V → PyData → Prop
  | non : Dq K H .non .none
  | bl (b : Bool) : Dq K H (.bl b) (.bool b)
  | int (i : Int) : Dq K H (.int i) (.int i)
  | str (x : Str) : Dq K H (.str x) (.str x)
  | tup {a : Addr} {xs : List V} {ds : List PyData} : Tq K H a xs → DqAll K H xs ds → Dq K H (.ref a) (.tuple ds)
inductive DqAll (K : PySem.W.Frag) (H : Hp) : List V → List PyData → Prop
  | nil : DqAll K H [] []
  | cons {v : V} {vs : List V} {d : PyData} {ds : List PyData} : Dq K H v d → DqAll K H vs ds → DqAll K H (v :: vs) (d :: ds)
end
mutual
theorem Dq.dp {K : PySem.W.Frag} {H : Hp} : ∀ {v : V} {d : PyData}, Dq K H v d → Dp K H v d
  | _, _, .non => .non
  | _, _, .bl b => .bl b
  | _, _, .int i => .int i
  | _, _, .str x => .str x
  | _, _, .tup g a => .tup g.sq (DqAll.dp a)
theorem DqAll.dp {K : PySem.W.Frag} {H : Hp} : ∀ {vs : List V} {ds : List PyData}, DqAll K H vs ds → DpAll K H vs ds
  | _, _, .nil => .nil
  | _, _, .cons a r => .cons (Dq.dp a) (DqAll.dp r)
end
def k_INTEGER : PyData := .int (1000000000000000000000000000000000000000000000000000000000000)
def k_ITEMS : PyData := .int (40)
def k_KIND_cells : PyData := .tuple [.str "error", .str "kind"]
def k_KIND_operators : PyData := .tuple [.str "error", .str "kind"]
def k_NONE : PyData := .tuple [.str "none"]
def k_RUN_CHARACTERS : PyData := .int (200)
def top (i : Nat) : Stmt := PySem.Challenge.pw_foretask_k26_instructions_of_objects.main.body.getD i (.Pass ⟨0, 0, 0, 0⟩)
abbrev s_field_cell : Stmt := top 7
theorem sc_field_cell : FnScope ["records", "held", "name", "record", "fields"] ["records", "held", "name"] (defScope s_field_cell) := ⟨rfl, rfl, rfl, by decide +kernel, rfl, by decide +kernel, by decide +kernel⟩
abbrev s_item_cell : Stmt := top 8
theorem sc_item_cell : FnScope ["held", "at"] ["held", "at"] (defScope s_item_cell) := ⟨rfl, rfl, rfl, by decide +kernel, rfl, by decide +kernel, by decide +kernel⟩
abbrev s_array_size : Stmt := top 9
theorem sc_array_size : FnScope ["value"] ["value"] (defScope s_array_size) := ⟨rfl, rfl, rfl, by decide +kernel, rfl, by decide +kernel, by decide +kernel⟩
abbrev s_both : Stmt := top 12
theorem sc_both : FnScope ["op", "a", "b"] ["op", "a", "b"] (defScope s_both) := ⟨rfl, rfl, rfl, by decide +kernel, rfl, by decide +kernel, by decide +kernel⟩
abbrev s_together : Stmt := top 13
theorem sc_together : FnScope ["a", "b", "characters"] ["a", "b"] (defScope s_together) := ⟨rfl, rfl, rfl, by decide +kernel, rfl, by decide +kernel, by decide +kernel⟩
abbrev s_divided : Stmt := top 14
theorem sc_divided : FnScope ["op", "left", "right"] ["op", "left", "right"] (defScope s_divided) := ⟨rfl, rfl, rfl, by decide +kernel, rfl, by decide +kernel, by decide +kernel⟩
abbrev s_computed : Stmt := top 15
theorem sc_computed : FnScope ["op", "left", "right"] ["op", "left", "right"] (defScope s_computed) := ⟨rfl, rfl, rfl, by decide +kernel, rfl, by decide +kernel, by decide +kernel⟩
abbrev s_bounded : Stmt := top 16
theorem sc_bounded : FnScope ["number"] ["number"] (defScope s_bounded) := ⟨rfl, rfl, rfl, by decide +kernel, rfl, by decide +kernel, by decide +kernel⟩
abbrev s_negative : Stmt := top 17
theorem sc_negative : FnScope ["a"] ["a"] (defScope s_negative) := ⟨rfl, rfl, rfl, by decide +kernel, rfl, by decide +kernel, by decide +kernel⟩
abbrev s_opposite : Stmt := top 18
theorem sc_opposite : FnScope ["a"] ["a"] (defScope s_opposite) := ⟨rfl, rfl, rfl, by decide +kernel, rfl, by decide +kernel, by decide +kernel⟩
abbrev s_truth : Stmt := top 19
theorem sc_truth : FnScope ["a"] ["a"] (defScope s_truth) := ⟨rfl, rfl, rfl, by decide +kernel, rfl, by decide +kernel, by decide +kernel⟩
abbrev s_leave : Stmt := top 22
theorem sc_leave : FnScope ["control", "what", "fitting", "cuts", "at", "entry"] ["control", "what"] (defScope s_leave) := ⟨rfl, rfl, rfl, by decide +kernel, rfl, by decide +kernel, by decide +kernel⟩
abbrev s_passing : Stmt := top 23
theorem sc_passing : FnScope ["cuts", "after"] ["cuts", "after"] (defScope s_passing) := ⟨rfl, rfl, rfl, by decide +kernel, rfl, by decide +kernel, by decide +kernel⟩
abbrev s_thrown : Stmt := top 24
theorem sc_thrown : FnScope ["local", "value", "_", "top", "control", "cuts", "entry", "rest", "address", "frame"] ["local", "value"] (defScope s_thrown) := ⟨rfl, rfl, rfl, by decide +kernel, rfl, by decide +kernel, by decide +kernel⟩
abbrev s_gone_on : Stmt := top 26
theorem sc_gone_on : FnScope ["local", "operands"] ["local", "operands"] (defScope s_gone_on) := ⟨rfl, rfl, rfl, by decide +kernel, rfl, by decide +kernel, by decide +kernel⟩
abbrev s_gone_to : Stmt := top 27
theorem sc_gone_to : FnScope ["local", "address", "operands", "_", "frame", "top", "control"] ["local", "address", "operands"] (defScope s_gone_to) := ⟨rfl, rfl, rfl, by decide +kernel, rfl, by decide +kernel, by decide +kernel⟩
abbrev s_controlled : Stmt := top 28
theorem sc_controlled : FnScope ["local", "operands", "control", "address", "_", "frame", "top"] ["local", "operands", "control"] (defScope s_controlled) := ⟨rfl, rfl, rfl, by decide +kernel, rfl, by decide +kernel, by decide +kernel⟩
abbrev s_fault : Stmt := top 29
theorem sc_fault : FnScope ["local", "words"] ["local", "words"] (defScope s_fault) := ⟨rfl, rfl, rfl, by decide +kernel, rfl, by decide +kernel, by decide +kernel⟩
abbrev s_put : Stmt := top 30
theorem sc_put : FnScope ["local", "value", "operands"] ["local", "value", "operands"] (defScope s_put) := ⟨rfl, rfl, rfl, by decide +kernel, rfl, by decide +kernel, by decide +kernel⟩
abbrev s_put_answer : Stmt := top 31
theorem sc_put_answer : FnScope ["local", "answer", "operands", "said", "found"] ["local", "answer", "operands"] (defScope s_put_answer) := ⟨rfl, rfl, rfl, by decide +kernel, rfl, by decide +kernel, by decide +kernel⟩
abbrev s_do_push : Stmt := top 33
theorem sc_do_push : FnScope ["program", "local", "instruction"] ["program", "local", "instruction"] (defScope s_do_push) := ⟨rfl, rfl, rfl, by decide +kernel, rfl, by decide +kernel, by decide +kernel⟩
abbrev s_do_not : Stmt := top 34
theorem sc_do_not : FnScope ["program", "local", "instruction", "operands"] ["program", "local", "instruction"] (defScope s_do_not) := ⟨rfl, rfl, rfl, by decide +kernel, rfl, by decide +kernel, by decide +kernel⟩
abbrev s_do_minus : Stmt := top 35
theorem sc_do_minus : FnScope ["program", "local", "instruction", "operands"] ["program", "local", "instruction"] (defScope s_do_minus) := ⟨rfl, rfl, rfl, by decide +kernel, rfl, by decide +kernel, by decide +kernel⟩
abbrev s_do_both : Stmt := top 36
theorem sc_do_both : FnScope ["program", "local", "instruction", "operands"] ["program", "local", "instruction"] (defScope s_do_both) := ⟨rfl, rfl, rfl, by decide +kernel, rfl, by decide +kernel, by decide +kernel⟩
abbrev s_do_jump : Stmt := top 37
theorem sc_do_jump : FnScope ["program", "local", "instruction"] ["program", "local", "instruction"] (defScope s_do_jump) := ⟨rfl, rfl, rfl, by decide +kernel, rfl, by decide +kernel, by decide +kernel⟩
abbrev s_do_jump_not : Stmt := top 38
theorem sc_do_jump_not : FnScope ["program", "local", "instruction", "operands", "said", "found"] ["program", "local", "instruction"] (defScope s_do_jump_not) := ⟨rfl, rfl, rfl, by decide +kernel, rfl, by decide +kernel, by decide +kernel⟩
abbrev s_do_and_jump : Stmt := top 39
theorem sc_do_and_jump : FnScope ["program", "local", "instruction"] ["program", "local", "instruction"] (defScope s_do_and_jump) := ⟨rfl, rfl, rfl, by decide +kernel, rfl, by decide +kernel, by decide +kernel⟩
abbrev s_do_or_jump : Stmt := top 40
theorem sc_do_or_jump : FnScope ["program", "local", "instruction"] ["program", "local", "instruction"] (defScope s_do_or_jump) := ⟨rfl, rfl, rfl, by decide +kernel, rfl, by decide +kernel, by decide +kernel⟩
abbrev s_jump_with : Stmt := top 41
theorem sc_jump_with : FnScope ["local", "deciding", "address", "operands", "said", "found"] ["local", "deciding", "address"] (defScope s_jump_with) := ⟨rfl, rfl, rfl, by decide +kernel, rfl, by decide +kernel, by decide +kernel⟩
abbrev s_do_sized : Stmt := top 42
theorem sc_do_sized : FnScope ["program", "local", "instruction", "operands"] ["program", "local", "instruction"] (defScope s_do_sized) := ⟨rfl, rfl, rfl, by decide +kernel, rfl, by decide +kernel, by decide +kernel⟩
abbrev s_do_check_size : Stmt := top 43
theorem sc_do_check_size : FnScope ["program", "local", "instruction", "operands"] ["program", "local", "instruction"] (defScope s_do_check_size) := ⟨rfl, rfl, rfl, by decide +kernel, rfl, by decide +kernel, by decide +kernel⟩
abbrev s_do_drop : Stmt := top 44
theorem sc_do_drop : FnScope ["program", "local", "instruction"] ["program", "local", "instruction"] (defScope s_do_drop) := ⟨rfl, rfl, rfl, by decide +kernel, rfl, by decide +kernel, by decide +kernel⟩
abbrev s_do_print : Stmt := top 45
theorem sc_do_print : FnScope ["program", "local", "instruction", "operands"] ["program", "local", "instruction"] (defScope s_do_print) := ⟨rfl, rfl, rfl, by decide +kernel, rfl, by decide +kernel, by decide +kernel⟩
abbrev s_do_input : Stmt := top 46
theorem sc_do_input : FnScope ["program", "local", "instruction"] ["program", "local", "instruction"] (defScope s_do_input) := ⟨rfl, rfl, rfl, by decide +kernel, rfl, by decide +kernel, by decide +kernel⟩
abbrev s_within : Stmt := top 50
theorem sc_within : FnScope ["local", "operands", "entry"] ["local", "operands", "entry"] (defScope s_within) := ⟨rfl, rfl, rfl, by decide +kernel, rfl, by decide +kernel, by decide +kernel⟩
abbrev s_do_counter : Stmt := top 51
theorem sc_do_counter : FnScope ["program", "local", "instruction"] ["program", "local", "instruction"] (defScope s_do_counter) := ⟨rfl, rfl, rfl, by decide +kernel, rfl, by decide +kernel, by decide +kernel⟩
abbrev s_counter_value : Stmt := top 52
theorem sc_counter_value : FnScope ["control", "number", "passed", "entry"] ["control", "number"] (defScope s_counter_value) := ⟨rfl, rfl, rfl, by decide +kernel, rfl, by decide +kernel, by decide +kernel⟩
abbrev s_do_call : Stmt := top 53
theorem sc_do_call : FnScope ["program", "local", "instruction", "_", "number", "count", "address", "operands", "frame", "top", "control", "begin", "entry"] ["program", "local", "instruction"] (defScope s_do_call) := ⟨rfl, rfl, rfl, by decide +kernel, rfl, by decide +kernel, by decide +kernel⟩
abbrev s_do_return : Stmt := top 54
theorem sc_do_return : FnScope ["program", "local", "instruction", "_", "operands", "top", "control", "cuts", "entry", "rest", "address", "frame"] ["program", "local", "instruction"] (defScope s_do_return) := ⟨rfl, rfl, rfl, by decide +kernel, rfl, by decide +kernel, by decide +kernel⟩
abbrev s_do_break : Stmt := top 55
theorem sc_do_break : FnScope ["program", "local", "instruction", "_", "frame", "top", "control", "cuts", "entry", "rest"] ["program", "local", "instruction"] (defScope s_do_break) := ⟨rfl, rfl, rfl, by decide +kernel, rfl, by decide +kernel, by decide +kernel⟩
abbrev s_do_throw : Stmt := top 56
theorem sc_do_throw : FnScope ["program", "local", "instruction", "value"] ["program", "local", "instruction"] (defScope s_do_throw) := ⟨rfl, rfl, rfl, by decide +kernel, rfl, by decide +kernel, by decide +kernel⟩
abbrev s_do_guard : Stmt := top 57
theorem sc_do_guard : FnScope ["program", "local", "instruction"] ["program", "local", "instruction"] (defScope s_do_guard) := ⟨rfl, rfl, rfl, by decide +kernel, rfl, by decide +kernel, by decide +kernel⟩
abbrev s_do_loop : Stmt := top 58
theorem sc_do_loop : FnScope ["program", "local", "instruction"] ["program", "local", "instruction"] (defScope s_do_loop) := ⟨rfl, rfl, rfl, by decide +kernel, rfl, by decide +kernel, by decide +kernel⟩
abbrev s_do_each : Stmt := top 59
theorem sc_do_each : FnScope ["program", "local", "instruction", "operands", "high", "low"] ["program", "local", "instruction"] (defScope s_do_each) := ⟨rfl, rfl, rfl, by decide +kernel, rfl, by decide +kernel, by decide +kernel⟩
abbrev s_do_leave_entry : Stmt := top 60
theorem sc_do_leave_entry : FnScope ["program", "local", "instruction"] ["program", "local", "instruction"] (defScope s_do_leave_entry) := ⟨rfl, rfl, rfl, by decide +kernel, rfl, by decide +kernel, by decide +kernel⟩
abbrev s_do_test : Stmt := top 61
theorem sc_do_test : FnScope ["program", "local", "instruction", "_", "counter", "last"] ["program", "local", "instruction"] (defScope s_do_test) := ⟨rfl, rfl, rfl, by decide +kernel, rfl, by decide +kernel, by decide +kernel⟩
abbrev s_do_next : Stmt := top 62
theorem sc_do_next : FnScope ["program", "local", "instruction", "_", "operands", "frame", "top", "control", "kind", "end", "counter", "last"] ["program", "local", "instruction"] (defScope s_do_next) := ⟨rfl, rfl, rfl, by decide +kernel, rfl, by decide +kernel, by decide +kernel⟩
abbrev s_do_spawn : Stmt := top 63
theorem sc_do_spawn : FnScope ["program", "local", "instruction", "_", "operands", "control"] ["program", "local", "instruction"] (defScope s_do_spawn) := ⟨rfl, rfl, rfl, by decide +kernel, rfl, by decide +kernel, by decide +kernel⟩
abbrev s_do_stop : Stmt := top 64
theorem sc_do_stop : FnScope ["program", "local", "instruction"] ["program", "local", "instruction"] (defScope s_do_stop) := ⟨rfl, rfl, rfl, by decide +kernel, rfl, by decide +kernel, by decide +kernel⟩
abbrev s_place_in : Stmt := top 67
theorem sc_place_in : FnScope ["thing", "cell", "_", "task", "number"] ["thing", "cell"] (defScope s_place_in) := ⟨rfl, rfl, rfl, by decide +kernel, rfl, by decide +kernel, by decide +kernel⟩
abbrev s_place_of : Stmt := top 68
theorem sc_place_of : FnScope ["local", "variable", "kind", "number", "_", "frame", "top"] ["local", "variable"] (defScope s_place_of) := ⟨rfl, rfl, rfl, by decide +kernel, rfl, by decide +kernel, by decide +kernel⟩
abbrev s_do_load : Stmt := top 69
theorem sc_do_load : FnScope ["program", "local", "instruction"] ["program", "local", "instruction"] (defScope s_do_load) := ⟨rfl, rfl, rfl, by decide +kernel, rfl, by decide +kernel, by decide +kernel⟩
abbrev s_do_store : Stmt := top 70
theorem sc_do_store : FnScope ["program", "local", "instruction", "operands"] ["program", "local", "instruction"] (defScope s_do_store) := ⟨rfl, rfl, rfl, by decide +kernel, rfl, by decide +kernel, by decide +kernel⟩
abbrev s_do_kind : Stmt := top 71
theorem sc_do_kind : FnScope ["program", "local", "instruction", "operands"] ["program", "local", "instruction"] (defScope s_do_kind) := ⟨rfl, rfl, rfl, by decide +kernel, rfl, by decide +kernel, by decide +kernel⟩
abbrev s_read_cell : Stmt := top 72
theorem sc_read_cell : FnScope ["local", "thing", "answer", "operands", "said", "found"] ["local", "thing", "answer", "operands"] (defScope s_read_cell) := ⟨rfl, rfl, rfl, by decide +kernel, rfl, by decide +kernel, by decide +kernel⟩
abbrev s_write_cell : Stmt := top 73
theorem sc_write_cell : FnScope ["local", "thing", "answer", "value", "operands", "said", "found"] ["local", "thing", "answer", "value", "operands"] (defScope s_write_cell) := ⟨rfl, rfl, rfl, by decide +kernel, rfl, by decide +kernel, by decide +kernel⟩
abbrev s_do_field : Stmt := top 74
theorem sc_do_field : FnScope ["program", "local", "instruction", "operands", "held", "thing"] ["program", "local", "instruction"] (defScope s_do_field) := ⟨rfl, rfl, rfl, by decide +kernel, rfl, by decide +kernel, by decide +kernel⟩
abbrev s_do_item : Stmt := top 75
theorem sc_do_item : FnScope ["program", "local", "instruction", "operands", "at", "held", "thing"] ["program", "local", "instruction"] (defScope s_do_item) := ⟨rfl, rfl, rfl, by decide +kernel, rfl, by decide +kernel, by decide +kernel⟩
abbrev s_do_set_field : Stmt := top 76
theorem sc_do_set_field : FnScope ["program", "local", "instruction", "operands", "value", "held", "thing"] ["program", "local", "instruction"] (defScope s_do_set_field) := ⟨rfl, rfl, rfl, by decide +kernel, rfl, by decide +kernel, by decide +kernel⟩
abbrev s_do_set_item : Stmt := top 77
theorem sc_do_set_item : FnScope ["program", "local", "instruction", "operands", "value", "at", "held", "thing"] ["program", "local", "instruction"] (defScope s_do_set_item) := ⟨rfl, rfl, rfl, by decide +kernel, rfl, by decide +kernel, by decide +kernel⟩
abbrev s_do_size : Stmt := top 78
theorem sc_do_size : FnScope ["program", "local", "instruction", "operands", "value"] ["program", "local", "instruction"] (defScope s_do_size) := ⟨rfl, rfl, rfl, by decide +kernel, rfl, by decide +kernel, by decide +kernel⟩
abbrev s_do_make : Stmt := top 79
theorem sc_do_make : FnScope ["program", "local", "instruction"] ["program", "local", "instruction"] (defScope s_do_make) := ⟨rfl, rfl, rfl, by decide +kernel, rfl, by decide +kernel, by decide +kernel⟩
abbrev s_do_tag : Stmt := top 80
theorem sc_do_tag : FnScope ["program", "local", "instruction", "operands"] ["program", "local", "instruction"] (defScope s_do_tag) := ⟨rfl, rfl, rfl, by decide +kernel, rfl, by decide +kernel, by decide +kernel⟩
abbrev s_do_tag_size : Stmt := top 81
theorem sc_do_tag_size : FnScope ["program", "local", "instruction", "operands", "thing", "count"] ["program", "local", "instruction"] (defScope s_do_tag_size) := ⟨rfl, rfl, rfl, by decide +kernel, rfl, by decide +kernel, by decide +kernel⟩
abbrev s_do_enter : Stmt := top 82
theorem sc_do_enter : FnScope ["program", "local", "instruction"] ["program", "local", "instruction"] (defScope s_do_enter) := ⟨rfl, rfl, rfl, by decide +kernel, rfl, by decide +kernel, by decide +kernel⟩
abbrev s_action : Stmt := top 85
theorem sc_action : FnScope ["program", "local", "instruction", "kind", "act"] ["program", "local"] (defScope s_action) := ⟨rfl, rfl, rfl, by decide +kernel, rfl, by decide +kernel, by decide +kernel⟩
abbrev s__law_cell : Stmt := top 89
theorem sc__law_cell : FnScope ["script", "k"] ["script", "k"] (defScope s__law_cell) := ⟨rfl, rfl, rfl, by decide +kernel, rfl, by decide +kernel, by decide +kernel⟩
abbrev s__law_digits : Stmt := top 90
theorem sc__law_digits : FnScope ["script", "first", "last", "digits", "k", "cell", "turn", "seed"] ["script", "first", "last"] (defScope s__law_digits) := ⟨rfl, rfl, rfl, by decide +kernel, rfl, by decide +kernel, by decide +kernel⟩
abbrev s__law_draw : Stmt := top 91
theorem sc__law_draw : FnScope ["box", "many", "at"] ["box", "many"] (defScope s__law_draw) := ⟨rfl, rfl, rfl, by decide +kernel, rfl, by decide +kernel, by decide +kernel⟩
abbrev s__law_same : Stmt := top 92
theorem sc__law_same : FnScope ["actual", "expected", "k"] ["actual", "expected"] (defScope s__law_same) := ⟨rfl, rfl, rfl, by decide +kernel, rfl, by decide +kernel, by decide +kernel⟩
abbrev s__law_number : Stmt := top 93
theorem sc__law_number : FnScope ["box", "kind", "size"] ["box"] (defScope s__law_number) := ⟨rfl, rfl, rfl, by decide +kernel, rfl, by decide +kernel, by decide +kernel⟩
abbrev s__law_text : Stmt := top 94
theorem sc__law_text : FnScope ["box", "most", "signs", "text", "k"] ["box", "most"] (defScope s__law_text) := ⟨rfl, rfl, rfl, by decide +kernel, rfl, by decide +kernel, by decide +kernel⟩
abbrev s__law_value : Stmt := top 95
theorem sc__law_value : FnScope ["box", "kind", "task", "k"] ["box"] (defScope s__law_value) := ⟨rfl, rfl, rfl, by decide +kernel, rfl, by decide +kernel, by decide +kernel⟩
abbrev s__law_object : Stmt := top 96
theorem sc__law_object : FnScope ["box", "task", "k"] ["box"] (defScope s__law_object) := ⟨rfl, rfl, rfl, by decide +kernel, rfl, by decide +kernel, by decide +kernel⟩
abbrev s__law_entry : Stmt := top 97
theorem sc__law_entry : FnScope ["box", "kind"] ["box"] (defScope s__law_entry) := ⟨rfl, rfl, rfl, by decide +kernel, rfl, by decide +kernel, by decide +kernel⟩
abbrev s__law_control : Stmt := top 98
theorem sc__law_control : FnScope ["box", "control", "size", "k"] ["box"] (defScope s__law_control) := ⟨rfl, rfl, rfl, by decide +kernel, rfl, by decide +kernel, by decide +kernel⟩
abbrev s__law_local : Stmt := top 99
theorem sc__law_local : FnScope ["box", "address", "operands", "k"] ["box", "address", "operands"] (defScope s__law_local) := ⟨rfl, rfl, rfl, by decide +kernel, rfl, by decide +kernel, by decide +kernel⟩
abbrev s__law_leave : Stmt := top 100
theorem sc__law_leave : FnScope ["control", "kinds", "cuts", "k"] ["control", "kinds"] (defScope s__law_leave) := ⟨rfl, rfl, rfl, by decide +kernel, rfl, by decide +kernel, by decide +kernel⟩
abbrev s__law_after : Stmt := top 101
theorem sc__law_after : FnScope ["cuts", "after"] ["cuts", "after"] (defScope s__law_after) := ⟨rfl, rfl, rfl, by decide +kernel, rfl, by decide +kernel, by decide +kernel⟩
abbrev s__law_thrown : Stmt := top 102
theorem sc__law_thrown : FnScope ["local", "value", "found"] ["local", "value"] (defScope s__law_thrown) := ⟨rfl, rfl, rfl, by decide +kernel, rfl, by decide +kernel, by decide +kernel⟩
abbrev s__law_error : Stmt := top 103
theorem sc__law_error : FnScope ["local", "words"] ["local", "words"] (defScope s__law_error) := ⟨rfl, rfl, rfl, by decide +kernel, rfl, by decide +kernel, by decide +kernel⟩
abbrev s__law_program : Stmt := top 104
theorem sc__law_program : FnScope ["parts", "address", "records", "procedures", "code", "k"] ["parts", "address", "records", "procedures"] (defScope s__law_program) := ⟨rfl, rfl, rfl, by decide +kernel, rfl, by decide +kernel, by decide +kernel⟩
abbrev s__law_goes : Stmt := top 105
theorem sc__law_goes : FnScope ["local", "operands"] ["local", "operands"] (defScope s__law_goes) := ⟨rfl, rfl, rfl, by decide +kernel, rfl, by decide +kernel, by decide +kernel⟩
abbrev s__law_records : Stmt := top 106
theorem sc__law_records : FnScope ["box", "records", "k", "fields", "n"] ["box"] (defScope s__law_records) := ⟨rfl, rfl, rfl, by decide +kernel, rfl, by decide +kernel, by decide +kernel⟩
abbrev s__law_field : Stmt := top 107
theorem sc__law_field : FnScope ["records", "held", "name", "record", "k"] ["records", "held", "name"] (defScope s__law_field) := ⟨rfl, rfl, rfl, by decide +kernel, rfl, by decide +kernel, by decide +kernel⟩
abbrev s__law_item : Stmt := top 108
theorem sc__law_item : FnScope ["held", "at"] ["held", "at"] (defScope s__law_item) := ⟨rfl, rfl, rfl, by decide +kernel, rfl, by decide +kernel, by decide +kernel⟩
abbrev s__law_cell_of : Stmt := top 109
theorem sc__law_cell_of : FnScope ["thing", "number"] ["thing", "number"] (defScope s__law_cell_of) := ⟨rfl, rfl, rfl, by decide +kernel, rfl, by decide +kernel, by decide +kernel⟩
abbrev s__law_held : Stmt := top 110
theorem sc__law_held : FnScope ["box", "kind"] ["box"] (defScope s__law_held) := ⟨rfl, rfl, rfl, by decide +kernel, rfl, by decide +kernel, by decide +kernel⟩
abbrev s__law_any : Stmt := top 111
theorem sc__law_any : FnScope ["box", "kind"] ["box", "kind"] (defScope s__law_any) := ⟨rfl, rfl, rfl, by decide +kernel, rfl, by decide +kernel, by decide +kernel⟩
abbrev s__law_operands : Stmt := top 112
theorem sc__law_operands : FnScope ["box", "kind", "operands"] ["box", "kind"] (defScope s__law_operands) := ⟨rfl, rfl, rfl, by decide +kernel, rfl, by decide +kernel, by decide +kernel⟩
abbrev s__law_reading : Stmt := top 113
theorem sc__law_reading : FnScope ["local", "thing", "result", "operands"] ["local", "thing", "result", "operands"] (defScope s__law_reading) := ⟨rfl, rfl, rfl, by decide +kernel, rfl, by decide +kernel, by decide +kernel⟩
abbrev s__law_writing : Stmt := top 114
theorem sc__law_writing : FnScope ["local", "thing", "result", "value", "operands"] ["local", "thing", "result", "value", "operands"] (defScope s__law_writing) := ⟨rfl, rfl, rfl, by decide +kernel, rfl, by decide +kernel, by decide +kernel⟩
abbrev s__law_due_cells : Stmt := top 115
theorem sc__law_due_cells : FnScope ["parts", "local", "records", "o"] ["parts", "local", "records"] (defScope s__law_due_cells) := ⟨rfl, rfl, rfl, by decide +kernel, rfl, by decide +kernel, by decide +kernel⟩
abbrev s__law_due : Stmt := top 116
theorem sc__law_due : FnScope ["parts", "local", "records", "kind", "a", "same"] ["parts", "local", "records"] (defScope s__law_due) := ⟨rfl, rfl, rfl, by decide +kernel, rfl, by decide +kernel, by decide +kernel⟩
abbrev s_law : Stmt := top 117
theorem sc_law : FnScope ["script", "box", "kinds", "kind", "records", "parts", "address", "local", "program"] ["script"] (defScope s_law) := ⟨rfl, rfl, rfl, by decide +kernel, rfl, by decide +kernel, by decide +kernel⟩
abbrev s_Program___init__ : Stmt := inClass (top 87) 0
theorem sc_Program___init__ : FnScope ["self", "code", "lines", "records", "variables", "procedures"] ["self", "code", "lines", "records", "variables", "procedures"] (defScope s_Program___init__) := ⟨rfl, rfl, rfl, by decide +kernel, rfl, by decide +kernel, by decide +kernel⟩
def dd_field_cell : He.FnD := ⟨("field_cell", none), "field_cell", "field_cell", defArgs s_field_cell, defBody s_field_cell, defScope s_field_cell⟩
def dd_item_cell : He.FnD := ⟨("item_cell", none), "item_cell", "item_cell", defArgs s_item_cell, defBody s_item_cell, defScope s_item_cell⟩
def dd_array_size : He.FnD := ⟨("array_size", none), "array_size", "array_size", defArgs s_array_size, defBody s_array_size, defScope s_array_size⟩
def dd_both : He.FnD := ⟨("both", none), "both", "both", defArgs s_both, defBody s_both, defScope s_both⟩
def dd_together : He.FnD := ⟨("together", none), "together", "together", defArgs s_together, defBody s_together, defScope s_together⟩
def dd_divided : He.FnD := ⟨("divided", none), "divided", "divided", defArgs s_divided, defBody s_divided, defScope s_divided⟩
def dd_computed : He.FnD := ⟨("computed", none), "computed", "computed", defArgs s_computed, defBody s_computed, defScope s_computed⟩
def dd_bounded : He.FnD := ⟨("bounded", none), "bounded", "bounded", defArgs s_bounded, defBody s_bounded, defScope s_bounded⟩
def dd_negative : He.FnD := ⟨("negative", none), "negative", "negative", defArgs s_negative, defBody s_negative, defScope s_negative⟩
def dd_opposite : He.FnD := ⟨("opposite", none), "opposite", "opposite", defArgs s_opposite, defBody s_opposite, defScope s_opposite⟩
def dd_truth : He.FnD := ⟨("truth", none), "truth", "truth", defArgs s_truth, defBody s_truth, defScope s_truth⟩
def dd_leave : He.FnD := ⟨("leave", none), "leave", "leave", defArgs s_leave, defBody s_leave, defScope s_leave⟩
def dd_passing : He.FnD := ⟨("passing", none), "passing", "passing", defArgs s_passing, defBody s_passing, defScope s_passing⟩
def dd_thrown : He.FnD := ⟨("thrown", none), "thrown", "thrown", defArgs s_thrown, defBody s_thrown, defScope s_thrown⟩
def dd_gone_on : He.FnD := ⟨("gone_on", none), "gone_on", "gone_on", defArgs s_gone_on, defBody s_gone_on, defScope s_gone_on⟩
def dd_gone_to : He.FnD := ⟨("gone_to", none), "gone_to", "gone_to", defArgs s_gone_to, defBody s_gone_to, defScope s_gone_to⟩
def dd_controlled : He.FnD := ⟨("controlled", none), "controlled", "controlled", defArgs s_controlled, defBody s_controlled, defScope s_controlled⟩
def dd_fault : He.FnD := ⟨("fault", none), "fault", "fault", defArgs s_fault, defBody s_fault, defScope s_fault⟩
def dd_put : He.FnD := ⟨("put", none), "put", "put", defArgs s_put, defBody s_put, defScope s_put⟩
def dd_put_answer : He.FnD := ⟨("put_answer", none), "put_answer", "put_answer", defArgs s_put_answer, defBody s_put_answer, defScope s_put_answer⟩
def dd_do_push : He.FnD := ⟨("do_push", none), "do_push", "do_push", defArgs s_do_push, defBody s_do_push, defScope s_do_push⟩
def dd_do_not : He.FnD := ⟨("do_not", none), "do_not", "do_not", defArgs s_do_not, defBody s_do_not, defScope s_do_not⟩
def dd_do_minus : He.FnD := ⟨("do_minus", none), "do_minus", "do_minus", defArgs s_do_minus, defBody s_do_minus, defScope s_do_minus⟩
def dd_do_both : He.FnD := ⟨("do_both", none), "do_both", "do_both", defArgs s_do_both, defBody s_do_both, defScope s_do_both⟩
def dd_do_jump : He.FnD := ⟨("do_jump", none), "do_jump", "do_jump", defArgs s_do_jump, defBody s_do_jump, defScope s_do_jump⟩
def dd_do_jump_not : He.FnD := ⟨("do_jump_not", none), "do_jump_not", "do_jump_not", defArgs s_do_jump_not, defBody s_do_jump_not, defScope s_do_jump_not⟩
def dd_do_and_jump : He.FnD := ⟨("do_and_jump", none), "do_and_jump", "do_and_jump", defArgs s_do_and_jump, defBody s_do_and_jump, defScope s_do_and_jump⟩
def dd_do_or_jump : He.FnD := ⟨("do_or_jump", none), "do_or_jump", "do_or_jump", defArgs s_do_or_jump, defBody s_do_or_jump, defScope s_do_or_jump⟩
def dd_jump_with : He.FnD := ⟨("jump_with", none), "jump_with", "jump_with", defArgs s_jump_with, defBody s_jump_with, defScope s_jump_with⟩
def dd_do_sized : He.FnD := ⟨("do_sized", none), "do_sized", "do_sized", defArgs s_do_sized, defBody s_do_sized, defScope s_do_sized⟩
def dd_do_check_size : He.FnD := ⟨("do_check_size", none), "do_check_size", "do_check_size", defArgs s_do_check_size, defBody s_do_check_size, defScope s_do_check_size⟩
def dd_do_drop : He.FnD := ⟨("do_drop", none), "do_drop", "do_drop", defArgs s_do_drop, defBody s_do_drop, defScope s_do_drop⟩
def dd_do_print : He.FnD := ⟨("do_print", none), "do_print", "do_print", defArgs s_do_print, defBody s_do_print, defScope s_do_print⟩
def dd_do_input : He.FnD := ⟨("do_input", none), "do_input", "do_input", defArgs s_do_input, defBody s_do_input, defScope s_do_input⟩
def dd_within : He.FnD := ⟨("within", none), "within", "within", defArgs s_within, defBody s_within, defScope s_within⟩
def dd_do_counter : He.FnD := ⟨("do_counter", none), "do_counter", "do_counter", defArgs s_do_counter, defBody s_do_counter, defScope s_do_counter⟩
def dd_counter_value : He.FnD := ⟨("counter_value", none), "counter_value", "counter_value", defArgs s_counter_value, defBody s_counter_value, defScope s_counter_value⟩
def dd_do_call : He.FnD := ⟨("do_call", none), "do_call", "do_call", defArgs s_do_call, defBody s_do_call, defScope s_do_call⟩
def dd_do_return : He.FnD := ⟨("do_return", none), "do_return", "do_return", defArgs s_do_return, defBody s_do_return, defScope s_do_return⟩
def dd_do_break : He.FnD := ⟨("do_break", none), "do_break", "do_break", defArgs s_do_break, defBody s_do_break, defScope s_do_break⟩
def dd_do_throw : He.FnD := ⟨("do_throw", none), "do_throw", "do_throw", defArgs s_do_throw, defBody s_do_throw, defScope s_do_throw⟩
def dd_do_guard : He.FnD := ⟨("do_guard", none), "do_guard", "do_guard", defArgs s_do_guard, defBody s_do_guard, defScope s_do_guard⟩
def dd_do_loop : He.FnD := ⟨("do_loop", none), "do_loop", "do_loop", defArgs s_do_loop, defBody s_do_loop, defScope s_do_loop⟩
def dd_do_each : He.FnD := ⟨("do_each", none), "do_each", "do_each", defArgs s_do_each, defBody s_do_each, defScope s_do_each⟩
def dd_do_leave_entry : He.FnD := ⟨("do_leave_entry", none), "do_leave_entry", "do_leave_entry", defArgs s_do_leave_entry, defBody s_do_leave_entry, defScope s_do_leave_entry⟩
def dd_do_test : He.FnD := ⟨("do_test", none), "do_test", "do_test", defArgs s_do_test, defBody s_do_test, defScope s_do_test⟩
def dd_do_next : He.FnD := ⟨("do_next", none), "do_next", "do_next", defArgs s_do_next, defBody s_do_next, defScope s_do_next⟩
def dd_do_spawn : He.FnD := ⟨("do_spawn", none), "do_spawn", "do_spawn", defArgs s_do_spawn, defBody s_do_spawn, defScope s_do_spawn⟩
def dd_do_stop : He.FnD := ⟨("do_stop", none), "do_stop", "do_stop", defArgs s_do_stop, defBody s_do_stop, defScope s_do_stop⟩
def dd_place_in : He.FnD := ⟨("place_in", none), "place_in", "place_in", defArgs s_place_in, defBody s_place_in, defScope s_place_in⟩
def dd_place_of : He.FnD := ⟨("place_of", none), "place_of", "place_of", defArgs s_place_of, defBody s_place_of, defScope s_place_of⟩
def dd_do_load : He.FnD := ⟨("do_load", none), "do_load", "do_load", defArgs s_do_load, defBody s_do_load, defScope s_do_load⟩
def dd_do_store : He.FnD := ⟨("do_store", none), "do_store", "do_store", defArgs s_do_store, defBody s_do_store, defScope s_do_store⟩
def dd_do_kind : He.FnD := ⟨("do_kind", none), "do_kind", "do_kind", defArgs s_do_kind, defBody s_do_kind, defScope s_do_kind⟩
def dd_read_cell : He.FnD := ⟨("read_cell", none), "read_cell", "read_cell", defArgs s_read_cell, defBody s_read_cell, defScope s_read_cell⟩
def dd_write_cell : He.FnD := ⟨("write_cell", none), "write_cell", "write_cell", defArgs s_write_cell, defBody s_write_cell, defScope s_write_cell⟩
def dd_do_field : He.FnD := ⟨("do_field", none), "do_field", "do_field", defArgs s_do_field, defBody s_do_field, defScope s_do_field⟩
def dd_do_item : He.FnD := ⟨("do_item", none), "do_item", "do_item", defArgs s_do_item, defBody s_do_item, defScope s_do_item⟩
def dd_do_set_field : He.FnD := ⟨("do_set_field", none), "do_set_field", "do_set_field", defArgs s_do_set_field, defBody s_do_set_field, defScope s_do_set_field⟩
def dd_do_set_item : He.FnD := ⟨("do_set_item", none), "do_set_item", "do_set_item", defArgs s_do_set_item, defBody s_do_set_item, defScope s_do_set_item⟩
def dd_do_size : He.FnD := ⟨("do_size", none), "do_size", "do_size", defArgs s_do_size, defBody s_do_size, defScope s_do_size⟩
def dd_do_make : He.FnD := ⟨("do_make", none), "do_make", "do_make", defArgs s_do_make, defBody s_do_make, defScope s_do_make⟩
def dd_do_tag : He.FnD := ⟨("do_tag", none), "do_tag", "do_tag", defArgs s_do_tag, defBody s_do_tag, defScope s_do_tag⟩
def dd_do_tag_size : He.FnD := ⟨("do_tag_size", none), "do_tag_size", "do_tag_size", defArgs s_do_tag_size, defBody s_do_tag_size, defScope s_do_tag_size⟩
def dd_do_enter : He.FnD := ⟨("do_enter", none), "do_enter", "do_enter", defArgs s_do_enter, defBody s_do_enter, defScope s_do_enter⟩
def dd_action : He.FnD := ⟨("action", none), "action", "action", defArgs s_action, defBody s_action, defScope s_action⟩
def dd__law_cell : He.FnD := ⟨("_law_cell", none), "_law_cell", "_law_cell", defArgs s__law_cell, defBody s__law_cell, defScope s__law_cell⟩
def dd__law_digits : He.FnD := ⟨("_law_digits", none), "_law_digits", "_law_digits", defArgs s__law_digits, defBody s__law_digits, defScope s__law_digits⟩
def dd__law_draw : He.FnD := ⟨("_law_draw", none), "_law_draw", "_law_draw", defArgs s__law_draw, defBody s__law_draw, defScope s__law_draw⟩
def dd__law_same : He.FnD := ⟨("_law_same", none), "_law_same", "_law_same", defArgs s__law_same, defBody s__law_same, defScope s__law_same⟩
def dd__law_number : He.FnD := ⟨("_law_number", none), "_law_number", "_law_number", defArgs s__law_number, defBody s__law_number, defScope s__law_number⟩
def dd__law_text : He.FnD := ⟨("_law_text", none), "_law_text", "_law_text", defArgs s__law_text, defBody s__law_text, defScope s__law_text⟩
def dd__law_value : He.FnD := ⟨("_law_value", none), "_law_value", "_law_value", defArgs s__law_value, defBody s__law_value, defScope s__law_value⟩
def dd__law_object : He.FnD := ⟨("_law_object", none), "_law_object", "_law_object", defArgs s__law_object, defBody s__law_object, defScope s__law_object⟩
def dd__law_entry : He.FnD := ⟨("_law_entry", none), "_law_entry", "_law_entry", defArgs s__law_entry, defBody s__law_entry, defScope s__law_entry⟩
def dd__law_control : He.FnD := ⟨("_law_control", none), "_law_control", "_law_control", defArgs s__law_control, defBody s__law_control, defScope s__law_control⟩
def dd__law_local : He.FnD := ⟨("_law_local", none), "_law_local", "_law_local", defArgs s__law_local, defBody s__law_local, defScope s__law_local⟩
def dd__law_leave : He.FnD := ⟨("_law_leave", none), "_law_leave", "_law_leave", defArgs s__law_leave, defBody s__law_leave, defScope s__law_leave⟩
def dd__law_after : He.FnD := ⟨("_law_after", none), "_law_after", "_law_after", defArgs s__law_after, defBody s__law_after, defScope s__law_after⟩
def dd__law_thrown : He.FnD := ⟨("_law_thrown", none), "_law_thrown", "_law_thrown", defArgs s__law_thrown, defBody s__law_thrown, defScope s__law_thrown⟩
def dd__law_error : He.FnD := ⟨("_law_error", none), "_law_error", "_law_error", defArgs s__law_error, defBody s__law_error, defScope s__law_error⟩
def dd__law_program : He.FnD := ⟨("_law_program", none), "_law_program", "_law_program", defArgs s__law_program, defBody s__law_program, defScope s__law_program⟩
def dd__law_goes : He.FnD := ⟨("_law_goes", none), "_law_goes", "_law_goes", defArgs s__law_goes, defBody s__law_goes, defScope s__law_goes⟩
def dd__law_records : He.FnD := ⟨("_law_records", none), "_law_records", "_law_records", defArgs s__law_records, defBody s__law_records, defScope s__law_records⟩
def dd__law_field : He.FnD := ⟨("_law_field", none), "_law_field", "_law_field", defArgs s__law_field, defBody s__law_field, defScope s__law_field⟩
def dd__law_item : He.FnD := ⟨("_law_item", none), "_law_item", "_law_item", defArgs s__law_item, defBody s__law_item, defScope s__law_item⟩
def dd__law_cell_of : He.FnD := ⟨("_law_cell_of", none), "_law_cell_of", "_law_cell_of", defArgs s__law_cell_of, defBody s__law_cell_of, defScope s__law_cell_of⟩
def dd__law_held : He.FnD := ⟨("_law_held", none), "_law_held", "_law_held", defArgs s__law_held, defBody s__law_held, defScope s__law_held⟩
def dd__law_any : He.FnD := ⟨("_law_any", none), "_law_any", "_law_any", defArgs s__law_any, defBody s__law_any, defScope s__law_any⟩
def dd__law_operands : He.FnD := ⟨("_law_operands", none), "_law_operands", "_law_operands", defArgs s__law_operands, defBody s__law_operands, defScope s__law_operands⟩
def dd__law_reading : He.FnD := ⟨("_law_reading", none), "_law_reading", "_law_reading", defArgs s__law_reading, defBody s__law_reading, defScope s__law_reading⟩
def dd__law_writing : He.FnD := ⟨("_law_writing", none), "_law_writing", "_law_writing", defArgs s__law_writing, defBody s__law_writing, defScope s__law_writing⟩
def dd__law_due_cells : He.FnD := ⟨("_law_due_cells", none), "_law_due_cells", "_law_due_cells", defArgs s__law_due_cells, defBody s__law_due_cells, defScope s__law_due_cells⟩
def dd__law_due : He.FnD := ⟨("_law_due", none), "_law_due", "_law_due", defArgs s__law_due, defBody s__law_due, defScope s__law_due⟩
def dd_law : He.FnD := ⟨("law", none), "law", "law", defArgs s_law, defBody s_law, defScope s_law⟩
def dd_Program___init__ : He.FnD := ⟨("Program", some "__init__"), "__init__", "Program.__init__", defArgs s_Program___init__, defBody s_Program___init__, defScope s_Program___init__⟩
def hfa_0 : List He.Fa := [.glo "field_cell", .glo "item_cell", .glo "array_size", .glo "both", .glo "together", .glo "divided", .glo "computed", .glo "bounded", .glo "negative", .glo "opposite", .glo "truth", .glo "leave", .glo "passing", .glo "thrown", .glo "gone_on", .glo "gone_to", .glo "controlled", .glo "fault", .glo "put", .glo "put_answer", .glo "do_push", .glo "do_not", .glo "do_minus", .glo "do_both", .glo "do_jump", .glo "do_jump_not", .glo "do_and_jump", .glo "do_or_jump", .glo "jump_with", .glo "do_sized"]
def hfa_1 : List He.Fa := [.glo "do_check_size", .glo "do_drop", .glo "do_print", .glo "do_input", .glo "within", .glo "do_counter", .glo "counter_value", .glo "do_call", .glo "do_return", .glo "do_break", .glo "do_throw", .glo "do_guard", .glo "do_loop", .glo "do_each", .glo "do_leave_entry", .glo "do_test", .glo "do_next", .glo "do_spawn", .glo "do_stop", .glo "place_in", .glo "place_of", .glo "do_load", .glo "do_store", .glo "do_kind", .glo "read_cell", .glo "write_cell", .glo "do_field", .glo "do_item", .glo "do_set_field", .glo "do_set_item"]
def hfa_2 : List He.Fa := [.glo "do_size", .glo "do_make", .glo "do_tag", .glo "do_tag_size", .glo "do_enter", .glo "action", .glo "_law_cell", .glo "_law_digits", .glo "_law_draw", .glo "_law_same", .glo "_law_number", .glo "_law_text", .glo "_law_value", .glo "_law_object", .glo "_law_entry", .glo "_law_control", .glo "_law_local", .glo "_law_leave", .glo "_law_after", .glo "_law_thrown", .glo "_law_error", .glo "_law_program", .glo "_law_goes", .glo "_law_records", .glo "_law_field", .glo "_law_item", .glo "_law_cell_of", .glo "_law_held", .glo "_law_any", .glo "_law_operands"]
def hfa_3 : List He.Fa := [.glo "_law_reading", .glo "_law_writing", .glo "_law_due_cells", .glo "_law_due", .glo "law", .free "len", .free "isinstance", .free "tuple", .free "int", .free "bool", .free "str", .free "range", .free "abs", .free "enumerate", .glo "Program", .cls "Program", .noat "Program" "code", .noat "Program" "lines", .noat "Program" "records", .noat "Program" "variables", .noat "Program" "procedures", .mkr "Program", .glo "COMPUTING", .glo "REACHING", .glo "CONTROLLING", .glo "FITTING"]
def hfa : List He.Fa := hfa_0 ++ hfa_1 ++ hfa_2 ++ hfa_3
def hfn_0 : List He.FnD := [dd_field_cell, dd_item_cell, dd_array_size, dd_both, dd_together, dd_divided, dd_computed, dd_bounded, dd_negative, dd_opposite, dd_truth, dd_leave, dd_passing, dd_thrown, dd_gone_on, dd_gone_to, dd_controlled, dd_fault, dd_put, dd_put_answer, dd_do_push, dd_do_not, dd_do_minus, dd_do_both, dd_do_jump, dd_do_jump_not, dd_do_and_jump, dd_do_or_jump, dd_jump_with, dd_do_sized]
def hfn_1 : List He.FnD := [dd_do_check_size, dd_do_drop, dd_do_print, dd_do_input, dd_within, dd_do_counter, dd_counter_value, dd_do_call, dd_do_return, dd_do_break, dd_do_throw, dd_do_guard, dd_do_loop, dd_do_each, dd_do_leave_entry, dd_do_test, dd_do_next, dd_do_spawn, dd_do_stop, dd_place_in, dd_place_of, dd_do_load, dd_do_store, dd_do_kind, dd_read_cell, dd_write_cell, dd_do_field, dd_do_item, dd_do_set_field, dd_do_set_item]
def hfn_2 : List He.FnD := [dd_do_size, dd_do_make, dd_do_tag, dd_do_tag_size, dd_do_enter, dd_action, dd__law_cell, dd__law_digits, dd__law_draw, dd__law_same, dd__law_number, dd__law_text, dd__law_value, dd__law_object, dd__law_entry, dd__law_control, dd__law_local, dd__law_leave, dd__law_after, dd__law_thrown, dd__law_error, dd__law_program, dd__law_goes, dd__law_records, dd__law_field, dd__law_item, dd__law_cell_of, dd__law_held, dd__law_any, dd__law_operands]
def hfn_3 : List He.FnD := [dd__law_reading, dd__law_writing, dd__law_due_cells, dd__law_due, dd_law, dd_Program___init__]
def hfn : List He.FnD := hfn_0 ++ hfn_1 ++ hfn_2 ++ hfn_3
def hts_0 : List He.Tab := [⟨fun K => He.ga K "COMPUTING", ["push", "not", "minus", "both", "jump", "jump_not", "and_jump", "or_jump", "sized", "check_size", "drop", "print", "input"]⟩, ⟨fun K => He.ga K "REACHING", ["load", "store", "kind", "field", "item", "set_field", "set_item", "size", "make", "tag", "tag_size", "enter"]⟩, ⟨fun K => He.ga K "CONTROLLING", ["counter", "call", "return", "break", "throw", "guard", "unguard", "loop", "end_loop", "each", "test", "next", "spawn", "finish", "halt"]⟩, ⟨fun K => He.ga K "FITTING", ["call", "loop", "guard"]⟩]
def hts : List He.Tab := hts_0
def hex_0 : List Fx := [.con "INTEGER" k_INTEGER, .con "ITEMS" k_ITEMS, .con "KIND_cells" k_KIND_cells, .con "KIND_operators" k_KIND_operators, .con "NONE" k_NONE, .con "RUN_CHARACTERS" k_RUN_CHARACTERS, .ent "COMPUTING" "push" "do_push", .ent "COMPUTING" "not" "do_not", .ent "COMPUTING" "minus" "do_minus", .ent "COMPUTING" "both" "do_both", .ent "COMPUTING" "jump" "do_jump", .ent "COMPUTING" "jump_not" "do_jump_not", .ent "COMPUTING" "and_jump" "do_and_jump", .ent "COMPUTING" "or_jump" "do_or_jump", .ent "COMPUTING" "sized" "do_sized", .ent "COMPUTING" "check_size" "do_check_size", .ent "COMPUTING" "drop" "do_drop", .ent "COMPUTING" "print" "do_print", .ent "COMPUTING" "input" "do_input", .ent "REACHING" "load" "do_load", .ent "REACHING" "store" "do_store", .ent "REACHING" "kind" "do_kind", .ent "REACHING" "field" "do_field", .ent "REACHING" "item" "do_item", .ent "REACHING" "set_field" "do_set_field", .ent "REACHING" "set_item" "do_set_item", .ent "REACHING" "size" "do_size", .ent "REACHING" "make" "do_make", .ent "REACHING" "tag" "do_tag", .ent "REACHING" "tag_size" "do_tag_size"]
def hex_1 : List Fx := [.ent "REACHING" "enter" "do_enter", .ent "CONTROLLING" "counter" "do_counter", .ent "CONTROLLING" "call" "do_call", .ent "CONTROLLING" "return" "do_return", .ent "CONTROLLING" "break" "do_break", .ent "CONTROLLING" "throw" "do_throw", .ent "CONTROLLING" "guard" "do_guard", .ent "CONTROLLING" "unguard" "do_leave_entry", .ent "CONTROLLING" "loop" "do_loop", .ent "CONTROLLING" "end_loop" "do_leave_entry", .ent "CONTROLLING" "each" "do_each", .ent "CONTROLLING" "test" "do_test", .ent "CONTROLLING" "next" "do_next", .ent "CONTROLLING" "spawn" "do_spawn", .ent "CONTROLLING" "finish" "do_stop", .ent "CONTROLLING" "halt" "do_stop", .dat "FITTING" "call" (.tuple [.str "call"]), .dat "FITTING" "loop" (.tuple [.str "loop", .str "count"]), .dat "FITTING" "guard" (.tuple [.str "guard"])]
def hex : List Fx := hex_0 ++ hex_1
def hloose_0 : List Str := ["_wall", "INTEGER", "RUN_CHARACTERS", "ITEMS", "CALLS", "__name__", "KIND_cells", "field_cell", "item_cell", "array_size", "KIND_operators", "both", "together", "divided", "computed", "bounded", "negative", "opposite", "truth", "FITTING", "leave", "passing", "thrown", "gone_on", "gone_to", "controlled", "fault", "put", "put_answer", "do_push"]
def hloose_1 : List Str := ["do_not", "do_minus", "do_both", "do_jump", "do_jump_not", "do_and_jump", "do_or_jump", "jump_with", "do_sized", "do_check_size", "do_drop", "do_print", "do_input", "COMPUTING", "NONE", "within", "do_counter", "counter_value", "do_call", "do_return", "do_break", "do_throw", "do_guard", "do_loop", "do_each", "do_leave_entry", "do_test", "do_next", "do_spawn", "do_stop"]
def hloose_2 : List Str := ["CONTROLLING", "place_in", "place_of", "do_load", "do_store", "do_kind", "read_cell", "write_cell", "do_field", "do_item", "do_set_field", "do_set_item", "do_size", "do_make", "do_tag", "do_tag_size", "do_enter", "REACHING", "action", "Program", "_law_cell", "_law_digits", "_law_draw", "_law_same", "_law_number", "_law_text", "_law_value", "_law_object", "_law_entry", "_law_control"]
def hloose_3 : List Str := ["_law_local", "_law_leave", "_law_after", "_law_thrown", "_law_error", "_law_program", "_law_goes", "_law_records", "_law_field", "_law_item", "_law_cell_of", "_law_held", "_law_any", "_law_operands", "_law_reading", "_law_writing", "_law_due_cells", "_law_due"]
def hloose : List Str := hloose_0 ++ hloose_1 ++ hloose_2 ++ hloose_3
abbrev HR : PySem.W.OpenRow := PySem.W.OpenLaw.row PySem.Challenge.rw_foretask_k26_instructions_of_objects
abbrev hk : PySem.W.Hook := hookM 6 hfa hfn hts hex
def hob (s : PySem.W.SharedT) : AlM := obsMG 6 hfa hfn hts hex (HandSHeadRun.getT s)
theorem hob_eq (s : PySem.W.SharedT) : hob s = hk.obs s.abs := obsMG_eq (HandSHeadRun.getT_eq s)
def runP (w : World) : Prop := HandSHeadRun.RunEq HR (PySem.W.view HR.prog [117]) hk hob 40000 hloose w
theorem run_f (w : World) : runP (w.withFollow "special-get-raises" false) := by intro os; kernel_rfl
theorem run_t (w : World) : runP (w.withFollow "special-get-raises" true) := by intro os; kernel_rfl
theorem run (w : World) : HandSHeadRun.RunEq HR (PySem.W.view HR.prog [117]) hk hob 40000 hloose w := PySem.W.byRow2 "special-get-raises" (P := runP) run_f run_t w
/-! ### what a name may hold, without the heap -/
/-- imm: data that is never changed; the others may change and have one owner; fro: an instance that is never changed again; hol: lent -/
inductive M where
  | imm (d : PyData)
  | scr (ns : List Int)
  | fn (k : Nat)
  | hol
  | lst (xs : List M)
  | ins (c : Nat) (fs : List (Str × M))
  | fro (c : Nat) (fs : List (Str × PyData))
/-- the addresses of the defs and classes that values name; which classes' instances are never written -/
structure Tb where
  fa : Nat → Addr
  ca : Nat → Addr
  fz : Nat → Bool
  ne : ∀ c c', fz c = true → fz c' = false → ca c ≠ ca c'
mutual
def noL : PyData → Bool
  | .list _ => false
  | .dict _ => false
  | .tuple xs => noLs xs
  | _ => true
def noLs : List PyData → Bool
  | [] => true
  | x :: xs => noL x && noLs xs
end
theorem noLs_append {a b : List PyData} (ha : noLs a = true) (hb : noLs b = true) : noLs (a ++ b) = true := by
  induction a with
  | nil => exact hb
  | cons x xs ih =>
    simp only [noLs, Bool.and_eq_true, List.cons_append] at ha ⊢
    exact ⟨ha.1, ih ha.2⟩
theorem noLs_iff : ∀ {a : List PyData}, noLs a = true ↔ ∀ x ∈ a, noL x = true
  | [] => by simp [noLs]
  | x :: xs => by
    simp only [noLs, Bool.and_eq_true, List.mem_cons, noLs_iff]
    exact ⟨fun h y hy => hy.elim (fun e => e ▸ h.1) (h.2 y), fun h => ⟨h x (.inl rfl), fun y hy => h y (.inr hy)⟩⟩
/-- what never changes -/
def Stay (T : Tb) : HO → Prop
  | .tup _ => True
  | .frz _ _ => True
  | .ins C _ _ => ∃ c, T.fz c = true ∧ C = T.ca c
  | _ => False
/-- what an owner may change -/
def Wr (T : Tb) : HO → Prop
  | .lst _ => True
  | .ins C _ _ => ∃ c, T.fz c = false ∧ C = T.ca c
  | _ => False
theorem stay_wr {T : Tb} {o : HO} (h : Stay T o) (g : Wr T o) : False := by
  cases o with
  | ins C dx fs =>
    obtain ⟨c, h1, h2⟩ := h
    obtain ⟨c', g1, g2⟩ := g
    exact T.ne c c' h1 g1 (h2.symm.trans g2)
  | _ => first | exact h | exact g
def ScrAt (K : PySem.W.Frag) (H : Hp) (a : Addr) (xs : List V) : Prop :=
  (∃ o, H a = some (.frz o (.lst xs))) ∨ ∃ (o : Obj) (its : Array Value) (n : Nat), K.lookup a = some o ∧ o.cls = .type "list" ∧ o.dict = none ∧ o.data = .seq its n ∧ its.size ≤ sizeLine ∧ Vals xs its.toList
theorem ScrAt.seq {K : PySem.W.Frag} {H : Hp} {a : Addr} {xs : List V} (h : ScrAt K H a xs) : SqL K H a xs := by
  rcases h with h | h
  · exact .inl (.inr h)
  · exact .inr h
section
variable (K : PySem.W.Frag) (T : Tb) (H : Hp)
mutual
inductive Rep : V → M → List Addr → Prop
  | imm {v : V} {d : PyData} : Dq K H v d → noL d = true → Rep v (.imm d) []
  | scr {a : Addr} {ns : List Int} : ScrAt K H a (ns.map V.int) → Rep (.ref a) (.scr ns) []
  | fn {k : Nat} : Rep (.ref (T.fa k)) (.fn k) []
  | hol {v : V} : Rep v .hol []
  | lst {a : Addr} {vs : List V} {xs : List M} {f : List Addr} : H a = some (.lst vs) → Reps vs xs f → Rep (.ref a) (.lst xs) (a :: f)
  | ins {a dx : Addr} {c : Nat} {fvs : List (Str × V)} {fs : List (Str × M)} {f : List Addr} : H a = some (.ins (T.ca c) dx fvs) → T.fz c = false → fvs.map Prod.fst = fs.map Prod.fst → Reps (fvs.map Prod.snd) (fs.map Prod.snd) f → Rep (.ref a) (.ins c fs) (a :: f)
  | fro {a dx : Addr} {c : Nat} {fvs : List (Str × V)} {fs : List (Str × PyData)} : H a = some (.ins (T.ca c) dx fvs) → T.fz c = true → fvs.map Prod.fst = fs.map Prod.fst → DqAll K H (fvs.map Prod.snd) (fs.map Prod.snd) → noLs (fs.map Prod.snd) = true → Rep (.ref a) (.fro c fs) []
inductive Reps : List V → List M → List Addr → Prop
  | nil : Reps [] [] []
  | cons {v : V} {x : M} {f g : List Addr} {vs : List V} {xs : List M} : Rep v x f → Reps vs xs g → Reps (v :: vs) (x :: xs) (f ++ g)
end
/-- the names' values -/
inductive EnvR : List (Option V) → List (Option M) → List Addr → Prop
  | nil : EnvR [] [] []
  | no {o : Option V} {σ : List (Option V)} {ρ : List (Option M)} {f : List Addr} : EnvR σ ρ f → EnvR (o :: σ) (.none :: ρ) f
  | yes {v : V} {x : M} {f g : List Addr} {σ : List (Option V)} {ρ : List (Option M)} : Rep K T H v x f → EnvR σ ρ g → EnvR (.some v :: σ) (.some x :: ρ) (f ++ g)
end
/-! ### data under change -/
def KeepX (H H' : Hp) : Prop := ∀ a o xs, H a = some (.frz o (.tup xs)) → H' a = some (.frz o (.tup xs))
mutual
theorem dp_keepX {K : PySem.W.Frag} {H H' : Hp} (k : KeepX H H') : ∀ {v : V} {d : PyData}, noL d = true → Dq K H v d → Dq K H' v d
  | _, _, _, .non => .non
  | _, _, _, .bl b => .bl b
  | _, _, _, .int i => .int i
  | _, _, _, .str x => .str x
  | _, _, h, .tup g a => .tup (g.elim (fun ⟨o, g, t⟩ => .inl ⟨o, k _ _ _ g, t⟩) .inr) (dp_keepXs k (by simpa [noL] using h) a)
theorem dp_keepXs {K : PySem.W.Frag} {H H' : Hp} (k : KeepX H H') : ∀ {vs : List V} {ds : List PyData}, noLs ds = true → DqAll K H vs ds → DqAll K H' vs ds
  | _, _, _, .nil => .nil
  | _, _, h, .cons a b => by
    simp only [noLs, Bool.and_eq_true] at h
    exact .cons (dp_keepX k h.1 a) (dp_keepXs k h.2 b)
end
section
variable {K : PySem.W.Frag} {T : Tb} {H H' H1 H2 : Hp}
/-- kept: what stays and what stands at g -/
def Kp (T : Tb) (g : List Addr) (H H' : Hp) : Prop := ∀ b o, H b = some o → (b ∈ g ∨ Stay T o) → H' b = some o
theorem Kp.x {g : List Addr} (k : Kp T g H H') : KeepX H H' := fun a o xs h => k _ _ h (.inr trivial)
theorem Kp.sub {g g' : List Addr} (k : Kp T g H H') (s : ∀ b ∈ g', b ∈ g) : Kp T g' H H' := fun b o h q => k b o h (q.elim (fun z => .inl (s b z)) .inr)
theorem ScrAt.keep {g : List Addr} {a : Addr} {xs : List V} (h : ScrAt K H a xs) (k : Kp T g H H') : ScrAt K H' a xs := by
  rcases h with ⟨o, h⟩ | h
  · exact .inl ⟨o, k _ _ h (.inr trivial)⟩
  · exact .inr h
mutual
theorem Rep.keep : ∀ {v : V} {x : M} {f : List Addr}, Rep K T H v x f → Kp T f H H' → Rep K T H' v x f
  | _, _, _, .imm a n, k => .imm (dp_keepX k.x n a) n
  | _, _, _, .scr h, k => .scr (h.keep k)
  | _, _, _, .fn, _ => .fn
  | _, _, _, .hol, _ => .hol
  | _, _, _, .lst h r, k => .lst (k _ _ h (.inl (List.mem_cons_self ..))) (Reps.keep r (k.sub fun b hb => List.mem_cons_of_mem _ hb))
  | _, _, _, .ins h z e r, k => .ins (k _ _ h (.inl (List.mem_cons_self ..))) z e (Reps.keep r (k.sub fun b hb => List.mem_cons_of_mem _ hb))
  | _, _, _, .fro h z e r n, k => .fro (k _ _ h (.inr ⟨_, z, rfl⟩)) z e (dp_keepXs k.x n r) n
theorem Reps.keep : ∀ {vs : List V} {xs : List M} {f : List Addr}, Reps K T H vs xs f → Kp T f H H' → Reps K T H' vs xs f
  | _, _, _, .nil, _ => .nil
  | _, _, _, .cons a r, k => .cons (Rep.keep a (k.sub fun b hb => List.mem_append_left _ hb)) (Reps.keep r (k.sub fun b hb => List.mem_append_right _ hb))
end
theorem EnvR.keep : ∀ {σ : List (Option V)} {ρ : List (Option M)} {f : List Addr}, EnvR K T H σ ρ f → Kp T f H H' → EnvR K T H' σ ρ f
  | _, _, _, .nil, _ => .nil
  | _, _, _, .no r, k => .no (EnvR.keep r k)
  | _, _, _, .yes a r, k => .yes (a.keep (k.sub fun b hb => List.mem_append_left _ hb)) (EnvR.keep r (k.sub fun b hb => List.mem_append_right _ hb))
/-- what is owned may be written -/
def WrA (T : Tb) (H : Hp) (f : List Addr) : Prop := ∀ b ∈ f, ∃ o, H b = some o ∧ Wr T o
mutual
theorem Rep.wr : ∀ {v : V} {x : M} {f : List Addr}, Rep K T H v x f → WrA T H f
  | _, _, _, .imm _ _, b, hb => nomatch hb
  | _, _, _, .scr _, b, hb => nomatch hb
  | _, _, _, .fn, b, hb => nomatch hb
  | _, _, _, .hol, b, hb => nomatch hb
  | _, _, _, .lst (vs := vs) h r, b, hb => (List.mem_cons.mp hb).elim (fun e => ⟨.lst vs, e ▸ h, trivial⟩) (Reps.wr r b)
  | _, _, _, .ins (dx := dx) (c := c) (fvs := fvs) h z e r, b, hb => (List.mem_cons.mp hb).elim (fun e => ⟨.ins (T.ca c) dx fvs, e ▸ h, ⟨c, z, rfl⟩⟩) (Reps.wr r b)
  | _, _, _, .fro _ _ _ _ _, b, hb => nomatch hb
theorem Reps.wr : ∀ {vs : List V} {xs : List M} {f : List Addr}, Reps K T H vs xs f → WrA T H f
  | _, _, _, .nil, b, hb => nomatch hb
  | _, _, _, .cons a r, b, hb => (List.mem_append.mp hb).elim (Rep.wr a b) (Reps.wr r b)
end
theorem EnvR.wr : ∀ {σ : List (Option V)} {ρ : List (Option M)} {f : List Addr}, EnvR K T H σ ρ f → WrA T H f
  | _, _, _, .nil, b, hb => nomatch hb
  | _, _, _, .no r, b, hb => EnvR.wr r b hb
  | _, _, _, .yes a r, b, hb => (List.mem_append.mp hb).elim (a.wr b) (EnvR.wr r b)
/-- all but f is kept -/
def Chg (f : List Addr) (H H' : Hp) : Prop := ∀ b o, H b = some o → b ∉ f → H' b = some o
theorem Chg.kp {f g : List Addr} (c : Chg f H H') (w : WrA T H f) (d : ∀ b ∈ g, b ∉ f) : Kp T g H H' := fun b o h q => by
  refine c b o h fun hf => ?_
  rcases q with q | q
  · exact d b q hf
  · obtain ⟨o', h', w'⟩ := w b hf
    rw [h] at h'
    cases h'
    exact stay_wr q w'
theorem Same.kp {g : List Addr} (s : Same H H') : Kp T g H H' := fun b o h _ => s b o h
theorem Chg.same {f : List Addr} (s : Same H H') : Chg f H H' := fun b o h _ => s b o h
theorem Chg.nil (c : Chg [] H H') : Same H H' := fun b o h => c b o h (by simp)
/-- from what f owns to what f' owns -/
structure Mv (f : List Addr) (H : Hp) (f' : List Addr) (H' : Hp) : Prop where
  c : Chg f H H'
  n : ∀ b ∈ f', b ∈ f ∨ H b = none
theorem Mv.refl {f f' : List Addr} (s : ∀ b ∈ f', b ∈ f) : Mv f H f' H := ⟨fun _ _ h _ => h, fun b hb => .inl (s b hb)⟩
theorem Mv.same {f f' : List Addr} (s : Same H H') (h : ∀ b ∈ f', b ∈ f) : Mv f H f' H' := ⟨Chg.same s, fun b hb => .inl (h b hb)⟩
theorem Mv.trans {f f1 f2 : List Addr} (a : Mv f H f1 H1) (b : Mv f1 H1 f2 H2) : Mv f H f2 H2 := by
  refine ⟨fun c o h n => ?_, fun c hc => ?_⟩
  · refine b.c c o (a.c c o h n) fun hc => ?_
    rcases a.n c hc with z | z
    · exact n z
    · rw [h] at z
      cases z
  · rcases b.n c hc with z | z
    · exact a.n c z
    · by_cases hf : c ∈ f
      · exact .inl hf
      · refine .inr ?_
        cases e : H c with
        | none => rfl
        | some o =>
          have := a.c c o e hf
          rw [z] at this
          cases this
theorem Mv.sub {f f1 f2 : List Addr} (a : Mv f H f1 H1) (s : ∀ b ∈ f2, b ∈ f1) : Mv f H f2 H1 := ⟨a.c, fun b hb => a.n b (s b hb)⟩
theorem Mv.sup {f f1 g : List Addr} (a : Mv f H f1 H1) (s : ∀ b ∈ f, b ∈ g) : Mv g H f1 H1 := ⟨fun b o h n => a.c b o h fun z => n (s b z), fun b hb => (a.n b hb).elim (fun z => .inl (s b z)) .inr⟩
/-- what lies apart is kept, and lies apart from what is new -/
theorem Mv.apart {f f' g : List Addr} (m : Mv f H f' H') (w : WrA T H f) (wg : WrA T H g) (d : ∀ b ∈ g, b ∉ f) : Kp T g H H' ∧ ∀ b ∈ g, b ∉ f' :=
  ⟨m.c.kp w d, fun b hb hf => (m.n b hf).elim (d b hb) fun z => by
    obtain ⟨o, h, _⟩ := wg b hb
    rw [h] at z
    cases z⟩
end
section
variable {K : PySem.W.Frag} {T : Tb} {H H' H1 H2 : Hp}
theorem EnvR.len : ∀ {σ : List (Option V)} {ρ : List (Option M)} {F : List Addr}, EnvR K T H σ ρ F → σ.length = ρ.length
  | _, _, _, .nil => rfl
  | _, _, _, .no r => congrArg (· + 1) (EnvR.len r)
  | _, _, _, .yes _ r => congrArg (· + 1) (EnvR.len r)
theorem Reps.len : ∀ {vs : List V} {xs : List M} {F : List Addr}, Reps K T H vs xs F → vs.length = xs.length
  | _, _, _, .nil => rfl
  | _, _, _, .cons _ r => congrArg (· + 1) (Reps.len r)
/-- the value of a slot -/
theorem EnvR.get : ∀ {σ : List (Option V)} {ρ : List (Option M)} {F : List Addr} {i : Nat} {x : M}, EnvR K T H σ ρ F → ρ[i]? = some (some x) → ∃ v f, σ[i]? = some (some v) ∧ Rep K T H v x f ∧ ∀ b ∈ f, b ∈ F
  | _, _, _, i, x, .nil, h => by simp at h
  | _, _, _, 0, x, .no r, h => by simp at h
  | _, _, _, 0, x, .yes a r, h => by
    simp at h
    subst h
    exact ⟨_, _, rfl, a, fun b hb => List.mem_append_left _ hb⟩
  | _, _, _, i + 1, x, .no r, h => by
    obtain ⟨v, f, h1, h2, h3⟩ := EnvR.get (i := i) (x := x) r (by simpa using h)
    exact ⟨v, f, by simpa using h1, h2, h3⟩
  | _, _, _, i + 1, x, .yes a r, h => by
    obtain ⟨v, f, h1, h2, h3⟩ := EnvR.get (i := i) (x := x) r (by simpa using h)
    exact ⟨v, f, by simpa using h1, h2, fun b hb => List.mem_append_right _ (h3 b hb)⟩
/-- a slot is given another value -/
theorem EnvR.set : ∀ {σ : List (Option V)} {ρ : List (Option M)} {F : List Addr} {v : V} {x : M} {f : List Addr} (i : Nat), EnvR K T H σ ρ F → Rep K T H v x f → (f ++ F).Nodup →
    ∃ F', EnvR K T H (σ.set i (some v)) (ρ.set i (some x)) F' ∧ F'.Nodup ∧ ∀ b ∈ F', b ∈ f ++ F
  | _, _, _, v, x, f, i, .nil, a, n => ⟨[], .nil, List.nodup_nil, fun b hb => nomatch hb⟩
  | _, _, _, v, x, f, 0, .no r, a, n => ⟨_, .yes a r, n, fun b hb => hb⟩
  | _, _, _, v, x, f, 0, .yes (f := f1) (g := g1) a1 r, a, n => by
    refine ⟨_, .yes a r, ?_, fun b hb => ?_⟩
    · rw [List.nodup_append] at n ⊢
      refine ⟨n.1, (List.nodup_append.mp n.2.1).2.1, fun b hb c hc => n.2.2 b hb c (List.mem_append_right _ hc)⟩
    · rcases List.mem_append.mp hb with h | h
      · exact List.mem_append_left _ h
      · exact List.mem_append_right _ (List.mem_append_right _ h)
  | _, _, _, v, x, f, i + 1, .no r, a, n => by
    obtain ⟨F', h1, h2, h3⟩ := EnvR.set i r a n
    exact ⟨F', .no h1, h2, h3⟩
  | _, _, _, v, x, f, i + 1, .yes (f := f1) (g := g1) a1 r, a, n => by
    have n' : (f ++ g1).Nodup := by
      rw [List.nodup_append] at n ⊢
      exact ⟨n.1, (List.nodup_append.mp n.2.1).2.1, fun b hb c hc => n.2.2 b hb c (List.mem_append_right _ hc)⟩
    obtain ⟨F', h1, h2, h3⟩ := EnvR.set i r a n'
    refine ⟨_, .yes a1 h1, ?_, fun b hb => ?_⟩
    · rw [List.nodup_append] at n ⊢
      have n2 := List.nodup_append.mp n.2.1
      refine ⟨n2.1, h2, fun b hb c hc => ?_⟩
      rcases List.mem_append.mp (h3 c hc) with h | h
      · exact fun e => n.2.2 c h b (List.mem_append_left _ hb) e.symm
      · exact n2.2.2 b hb c h
    · rcases List.mem_append.mp hb with h | h
      · exact List.mem_append_right _ (List.mem_append_left _ h)
      · rcases List.mem_append.mp (h3 b h) with h | h
        · exact List.mem_append_left _ h
        · exact List.mem_append_right _ (List.mem_append_right _ h)
/-- a slot's value is lent -/
theorem EnvR.take : ∀ {σ : List (Option V)} {ρ : List (Option M)} {F : List Addr} {i : Nat} {x : M}, EnvR K T H σ ρ F → ρ[i]? = some (some x) →
    ∃ v f F', σ[i]? = some (some v) ∧ Rep K T H v x f ∧ EnvR K T H σ (ρ.set i (some .hol)) F' ∧ (f ++ F').Perm F
  | _, _, _, i, x, .nil, h => by simp at h
  | _, _, _, 0, x, .no r, h => by simp at h
  | _, _, _, 0, x, .yes a r, h => by
    simp at h
    subst h
    exact ⟨_, _, _, rfl, a, .yes .hol r, List.Perm.refl _⟩
  | _, _, _, i + 1, x, .no r, h => by
    obtain ⟨v, f, F', h1, h2, h3, h4⟩ := EnvR.take (i := i) (x := x) r (by simpa using h)
    exact ⟨v, f, F', by simpa using h1, h2, .no h3, h4⟩
  | _, _, _, i + 1, x, .yes (f := f1) (g := g1) a r, h => by
    obtain ⟨v, f, F', h1, h2, h3, h4⟩ := EnvR.take (i := i) (x := x) r (by simpa using h)
    refine ⟨v, f, f1 ++ F', by simpa using h1, h2, .yes a h3, ?_⟩
    rw [← List.append_assoc]
    refine (List.Perm.append_right _ List.perm_append_comm).trans ?_
    rw [List.append_assoc]
    exact List.Perm.append_left _ h4
/-- what was lent comes back -/
theorem EnvR.put : ∀ {σ : List (Option V)} {ρ : List (Option M)} {F : List Addr} {i : Nat} {v : V} {x : M} {f : List Addr}, EnvR K T H σ ρ F → σ[i]? = some (some v) → ρ[i]? = some (some .hol) → Rep K T H v x f →
    ∃ F', EnvR K T H σ (ρ.set i (some x)) F' ∧ (f ++ F).Perm F'
  | _, _, _, i, v, x, f, .nil, h, g, a => by simp at h
  | _, _, _, 0, v, x, f, .no r, h, g, a => by simp at g
  | _, _, _, 0, v, x, f, .yes b r, h, g, a => by
    simp at h g
    subst h g
    cases b
    exact ⟨_, .yes a r, List.Perm.refl _⟩
  | _, _, _, i + 1, v, x, f, .no r, h, g, a => by
    obtain ⟨F', h1, h2⟩ := EnvR.put (i := i) r (by simpa using h) (by simpa using g) a
    exact ⟨F', .no h1, h2⟩
  | _, _, _, i + 1, v, x, f, .yes (f := f1) (g := g1) b r, h, g, a => by
    obtain ⟨F', h1, h2⟩ := EnvR.put (i := i) r (by simpa using h) (by simpa using g) a
    refine ⟨f1 ++ F', .yes b h1, ?_⟩
    rw [← List.append_assoc]
    refine (List.Perm.append_right _ List.perm_append_comm).trans ?_
    rw [List.append_assoc]
    exact List.Perm.append_left _ h2
theorem EnvR.nones : ∀ (n : Nat), EnvR K T H (List.replicate n none) (List.replicate n none) []
  | 0 => .nil
  | n + 1 => .no (EnvR.nones n)
theorem EnvR.start : ∀ {vs : List V} {xs : List M} {F : List Addr} (n : Nat), Reps K T H vs xs F → EnvR K T H (vs.map some ++ List.replicate n none) (xs.map some ++ List.replicate n none) F
  | _, _, _, n, .nil => EnvR.nones n
  | _, _, _, n, .cons a r => .yes a (EnvR.start n r)
end
/-! ### what a piece of text does -/
abbrev Env' := List (Option M)
/-- how it ends: with a value, or with an exception of the program's own; and the names then -/
inductive Rs (S α : Type) where
  | ok (a : α) (s : S)
  | er (c : Nat) (fs : List (Str × PyData)) (s : S)
abbrev MM (α : Type) := Env' → Option (Rs Env' α)
def bindM {α β : Type} (m : MM α) (k : α → MM β) : MM β := fun ρ => match m ρ with
  | none => none
  | some (.ok a ρ1) => k a ρ1
  | some (.er c fs ρ1) => some (.er c fs ρ1)
def pureM {α : Type} (a : α) : MM α := fun ρ => some (.ok a ρ)
/-- a value that is there or not -/
def optM {α : Type} (o : Option α) : MM α := fun ρ => o.map fun a => .ok a ρ
/-- a pure piece -/
def liftM {α : Type} (m : Env' → Option α) : MM α := fun ρ => (m ρ).map fun a => .ok a ρ
/-- how a statement ends -/
inductive Fl where
  | nx
  | rt (x : M)
  | bk
  | ct
/-- what is wanted of an exception: its class, its dict, the slots, the heap -/
abbrev WXk := Value → Option Addr → L2.St → Hp → Prop
section
variable (K : PySem.W.Frag) (T : Tb)
/-- an exception's fields as its dict -/
def XdOk (H : Hp) (d : Addr) (fs : List (Str × PyData)) : Prop := ∃ vs, H d = some (.xd vs) ∧ ∀ n x, (n, x) ∈ fs → ∃ v, vs.lookup n = some v ∧ Dq K H v x ∧ noL x = true
def XOk (W : WXk) (H : Hp) (F : List Addr) (σ : L2.St) (c : Nat) (fs : List (Str × PyData)) (ρ : Env') : Prop :=
  ∀ d H' F', XdOk K H' d fs → EnvR K T H' σ ρ F' → F'.Nodup → Mv F H F' H' → W (.ref (T.ca c)) (some d) σ H'
/-- behind an expression -/
def GoE (W : WXk) (H : Hp) (F : List Addr) (σ : L2.St) (r : Rs Env' M) (Q : VK) : Prop := match r with
  | .ok x ρ => ∀ v H' f F', Rep K T H' v x f → EnvR K T H' σ ρ F' → (f ++ F').Nodup → Mv F H (f ++ F') H' → Q v H'
  | .er c fs ρ => XOk K T W H F σ c fs ρ
/-- .. a list of values that are data -/
def GoA (W : WXk) (H : Hp) (F : List Addr) (σ : L2.St) (r : Rs Env' (List PyData)) (Q : List V → Hp → Prop) : Prop := match r with
  | .ok xs ρ => ∀ vs H' F', DqAll K H' vs xs → noLs xs = true → EnvR K T H' σ ρ F' → F'.Nodup → Mv F H F' H' → Q vs H'
  | .er c fs ρ => XOk K T W H F σ c fs ρ
/-- behind a test -/
def GoT (W : WXk) (H : Hp) (F : List Addr) (σ : L2.St) (r : Rs Env' Bool) (Q : Bool → Hp → Prop) : Prop := match r with
  | .ok b ρ => ∀ H' F', EnvR K T H' σ ρ F' → F'.Nodup → Mv F H F' H' → Q b H'
  | .er c fs ρ => XOk K T W H F σ c fs ρ
/-- the slots that keep their value through the def -/
def Stb (S : List Nat) (σ σ' : L2.St) : Prop := ∀ i ∈ S, σ'[i]? = σ[i]?
/-- behind a statement -/
def GoS (S : List Nat) (W : WXk) (D : Ends) (H : Hp) (F : List Addr) (σ : L2.St) (r : Rs Env' Fl) : Prop := match r with
  | .ok .nx ρ => ∀ σ' H' F', Stb S σ σ' → EnvR K T H' σ' ρ F' → F'.Nodup → Mv F H F' H' → D.nx σ' H'
  | .ok .bk ρ => ∀ σ' H' F', Stb S σ σ' → EnvR K T H' σ' ρ F' → F'.Nodup → Mv F H F' H' → D.bk σ' H'
  | .ok .ct ρ => ∀ σ' H' F', Stb S σ σ' → EnvR K T H' σ' ρ F' → F'.Nodup → Mv F H F' H' → D.ct σ' H'
  | .ok (.rt x) ρ => ∀ v σ' H' f F', Stb S σ σ' → Rep K T H' v x f → EnvR K T H' σ' ρ F' → (f ++ F').Nodup → Mv F H (f ++ F') H' → D.rt v H'
  | .er c fs ρ => ∀ σ' d H' F', Stb S σ σ' → XdOk K H' d fs → EnvR K T H' σ' ρ F' → F'.Nodup → Mv F H F' H' → W (.ref (T.ca c)) (some d) σ' H'
end
/-- a pure expression, its value data -/
structure QE (T : Tb) (X : Cx) (e : Expr) (m : Env' → Option PyData) : Prop where
  ex : ∃ t : TE, PE X e t ∧ ∀ (σ : L2.St) (H : Hp) (ρ : Env') (F : List Addr) (d : PyData) (Q : VK), EnvR X.K T H σ ρ F → m ρ = some d →
    (∀ v H', Same H H' → Dq X.K H' v d → noL d = true → Q v H') → t σ H Q
/-- an expression that names what stands there already -/
structure QP (T : Tb) (X : Cx) (e : Expr) (m : Env' → Option M) : Prop where
  ex : ∃ t : TE, PE X e t ∧ ∀ (σ : L2.St) (H : Hp) (ρ : Env') (F : List Addr) (x : M) (Q : VK), EnvR X.K T H σ ρ F → m ρ = some x →
    (∀ v f, Rep X.K T H v x f → (∀ b ∈ f, b ∈ F) → Q v H) → t σ H Q
/-- any expression: it may change what the names own, its value is data or new -/
structure QX (T : Tb) (X : Cx) (W : WXk) (e : Expr) (m : MM M) : Prop where
  ex : ∃ t : TE, PE X e t ∧ ∀ (σ : L2.St) (H : Hp) (ρ : Env') (F : List Addr) (r : Rs Env' M) (Q : VK), EnvR X.K T H σ ρ F → F.Nodup → m ρ = some r → GoE X.K T W H F σ r Q → t σ H Q
/-- several, all data -/
structure QA (T : Tb) (X : Cx) (W : WXk) (es : List Expr) (m : MM (List PyData)) : Prop where
  ex : ∃ t : TA, PA X es t ∧ ∀ (σ : L2.St) (H : Hp) (ρ : Env') (F : List Addr) (r : Rs Env' (List PyData)) (Q : List V → Hp → Prop), EnvR X.K T H σ ρ F → F.Nodup → m ρ = some r → GoA X.K T W H F σ r Q → t σ H Q
/-- several pure ones -/
structure QAE (T : Tb) (X : Cx) (es : List Expr) (m : Env' → Option (List PyData)) : Prop where
  ex : ∃ t : TA, PA X es t ∧ ∀ (σ : L2.St) (H : Hp) (ρ : Env') (F : List Addr) (ds : List PyData) (Q : List V → Hp → Prop), EnvR X.K T H σ ρ F → m ρ = some ds →
    (∀ vs H', Same H H' → DqAll X.K H' vs ds → noLs ds = true → Q vs H') → t σ H Q
structure QT (T : Tb) (X : Cx) (W : WXk) (e : Expr) (m : MM Bool) : Prop where
  ex : ∃ t : TT, PT X e t ∧ ∀ (σ : L2.St) (H : Hp) (ρ : Env') (F : List Addr) (r : Rs Env' Bool) (Q : Bool → Hp → Prop), EnvR X.K T H σ ρ F → F.Nodup → m ρ = some r → GoT X.K T W H F σ r Q → t σ H Q
structure QW (T : Tb) (X : Cx) (W : WXk) (e : Expr) (m : MM Bool) : Prop where
  ex : ∃ t : TT, PW X e t ∧ ∀ (σ : L2.St) (H : Hp) (ρ : Env') (F : List Addr) (r : Rs Env' Bool) (Q : Bool → Hp → Prop), EnvR X.K T H σ ρ F → F.Nodup → m ρ = some r → GoT X.K T W H F σ r Q → t σ H Q
structure QS (T : Tb) (S : List Nat) (X : Cx) (W : WXk) (st : Stmt) (m : MM Fl) : Prop where
  ex : ∃ t : TS, PS X st t ∧ ∀ (σ : L2.St) (H : Hp) (ρ : Env') (F : List Addr) (r : Rs Env' Fl) (D : Ends), EnvR X.K T H σ ρ F → F.Nodup → m ρ = some r → GoS X.K T S W D H F σ r → t D σ H
structure QSs (T : Tb) (S : List Nat) (X : Cx) (W : WXk) (st : List Stmt) (m : MM Fl) : Prop where
  ex : ∃ t : TS, PSs X st t ∧ ∀ (σ : L2.St) (H : Hp) (ρ : Env') (F : List Addr) (r : Rs Env' Fl) (D : Ends), EnvR X.K T H σ ρ F → F.Nodup → m ρ = some r → GoS X.K T S W D H F σ r → t D σ H
/-- an expression whose value is data; it may change what the names own -/
def GoD (K : PySem.W.Frag) (T : Tb) (W : WXk) (H : Hp) (F : List Addr) (σ : L2.St) (r : Rs Env' PyData) (Q : VK) : Prop := match r with
  | .ok d ρ => ∀ v H' F', Dq K H' v d → noL d = true → EnvR K T H' σ ρ F' → F'.Nodup → Mv F H F' H' → Q v H'
  | .er c fs ρ => XOk K T W H F σ c fs ρ
structure QD (T : Tb) (X : Cx) (W : WXk) (e : Expr) (m : MM PyData) : Prop where
  ex : ∃ t : TE, PE X e t ∧ ∀ (σ : L2.St) (H : Hp) (ρ : Env') (F : List Addr) (r : Rs Env' PyData) (Q : VK), EnvR X.K T H σ ρ F → F.Nodup → m ρ = some r → GoD X.K T W H F σ r Q → t σ H Q
section
variable {T : Tb} {X : Cx} {W : WXk} {e a b c : Expr} {es : List Expr} {pos : Pos}
/-! #### from one kind to another -/
theorem dpAll_keepX {K : PySem.W.Frag} {H H' : Hp} (s : Same H H') {v : V} {d : PyData} (n : noL d = true) (h : Dq K H v d) : Dq K H' v d := dp_keepX (fun a o xs g => s _ _ g) n h
theorem EnvR.same {K : PySem.W.Frag} {H H' : Hp} {σ : L2.St} {ρ : Env'} {F : List Addr} (E : EnvR K T H σ ρ F) (s : Same H H') : EnvR K T H' σ ρ F := E.keep (Same.kp s)
theorem XOk.from {K : PySem.W.Frag} {H H' : Hp} {F F' : List Addr} {σ : L2.St} {c : Nat} {fs : List (Str × PyData)} {ρ : Env'} (x : XOk K T W H F σ c fs ρ) (m : Mv F H F' H') : XOk K T W H' F' σ c fs ρ :=
  fun d H2 F2 xd E n m2 => x d H2 F2 xd E n (m.trans m2)
def qM (m : Env' → Option PyData) : MM PyData := fun ρ => (m ρ).map fun d => .ok d ρ
theorem qd_e {m : Env' → Option PyData} (h : QE T X e m) : QD T X W e (qM m) := by
  obtain ⟨t, ht, q⟩ := h.ex
  refine ⟨t, ht, fun σ H ρ F r Q E n hm k => ?_⟩
  unfold qM at hm
  cases hd : m ρ with
  | none => rw [hd] at hm; cases hm
  | some d =>
    rw [hd] at hm
    cases hm
    exact q σ H ρ F d Q E hd fun v H' s dp nl => k v H' F dp nl (E.same s) n (Mv.same s fun _ hb => hb)
def dX (m : MM PyData) : MM M := bindM m fun d => pureM (.imm d)
theorem qx_d {m : MM PyData} (h : QD T X W e m) : QX T X W e (dX m) := by
  obtain ⟨t, ht, q⟩ := h.ex
  refine ⟨t, ht, fun σ H ρ F r Q E n hm k => ?_⟩
  unfold dX bindM at hm
  cases hd : m ρ with
  | none => rw [hd] at hm; cases hm
  | some r1 =>
    rw [hd] at hm
    refine q σ H ρ F r1 Q E n hd ?_
    cases r1 with
    | ok d ρ1 =>
      cases hm
      exact fun v H' F' dp nl E' n' mv => k v H' [] F' (.imm dp nl) E' n' mv
    | er c fs ρ1 =>
      cases hm
      exact k
/-- data out of any value -/
def dM : M → Option PyData
  | .imm d => some d
  | _ => none
def xD (m : MM M) : MM PyData := bindM m fun x => optM (dM x)
theorem qd_x {m : MM M} (h : QX T X W e m) : QD T X W e (xD m) := by
  obtain ⟨t, ht, q⟩ := h.ex
  refine ⟨t, ht, fun σ H ρ F r Q E n hm k => ?_⟩
  unfold xD bindM at hm
  cases hd : m ρ with
  | none => rw [hd] at hm; cases hm
  | some r1 =>
    rw [hd] at hm
    refine q σ H ρ F r1 Q E n hd ?_
    cases r1 with
    | ok x ρ1 =>
      cases x with
      | imm d =>
        cases hm
        intro v H' f F' r' E' n' mv
        cases r' with
        | imm dp nl => exact k v H' F' dp nl E' n' mv
      | _ => cases hm
    | er c fs ρ1 =>
      cases hm
      exact k
def pE (m : Env' → Option M) : Env' → Option PyData := fun ρ => (m ρ).bind dM
theorem qe_p {m : Env' → Option M} (h : QP T X e m) : QE T X e (pE m) := by
  obtain ⟨t, ht, q⟩ := h.ex
  refine ⟨t, ht, fun σ H ρ F d Q E hm k => ?_⟩
  unfold pE at hm
  cases hd : m ρ with
  | none => rw [hd] at hm; cases hm
  | some x =>
    rw [hd] at hm
    cases x with
    | imm d' =>
      cases hm
      refine q σ H ρ F _ Q E hd fun v f r _ => ?_
      cases r with
      | imm dp nl => exact k v H (Same.refl H) dp nl
    | _ => cases hm
/-! #### names, constants -/
def eP (i : Nat) : Env' → Option M := fun ρ => (ρ[i]?).join
theorem qp_v {i : Nat} (h : PE X e (tVar i)) : QP T X e (eP i) := by
  refine ⟨_, h, fun σ H ρ F x Q E hm k => ?_⟩
  unfold eP at hm
  cases hg : ρ[i]? with
  | none => rw [hg] at hm; cases hm
  | some o =>
    rw [hg] at hm
    cases o with
    | none => cases hm
    | some y =>
      cases hm
      obtain ⟨v, f, h1, h2, h3⟩ := E.get hg
      exact ⟨v, h1, k v f h2 h3⟩
def eV (i : Nat) : Env' → Option PyData := pE (eP i)
theorem qe_v {i : Nat} (h : PE X e (tVar i)) : QE T X e (eV i) := qe_p (qp_v h)
def eC (d : PyData) : Env' → Option PyData := fun _ => some d
theorem qe_c {v : V} {d : PyData} (h : PE X e (tC v)) (hd : ∀ H, Dq X.K H v d) (n : noL d = true := by rfl) : QE T X e (eC d) :=
  ⟨_, h, fun σ H ρ F d' Q E hm k => by
    cases hm
    exact k v H (Same.refl H) (hd H) n⟩
theorem qe_int {i : Int} {j pos} : QE T X (.Constant (.int i) j pos) (eC (.int i)) := qe_c pe_int fun _ => .int i
theorem qe_bl {i : Bool} {j pos} : QE T X (.Constant (.bool i) j pos) (eC (.bool i)) := qe_c pe_bl fun _ => .bl i
theorem qe_str {i : Str} {j pos} : QE T X (.Constant (.str i) j pos) (eC (.str i)) := qe_c pe_str fun _ => .str i
theorem qe_non {j pos} : QE T X (.Constant .none j pos) (eC .none) := qe_c pe_non fun _ => .non
/-! #### operators with two operands, by values -/
def Snd2 (K : PySem.W.Frag) (r : R2) (o : PyData → PyData → Option PyData) : Prop :=
  ∀ (H : Hp) (x y : V) (p q z : PyData) (Q : VK), Dq K H x p → noL p = true → Dq K H y q → noL q = true → o p q = some z → (∀ v H', Same H H' → Dq K H' v z → noL z = true → Q v H') → r x y H Q
def e2 (o : PyData → PyData → Option PyData) (ma mb : Env' → Option PyData) : Env' → Option PyData := fun ρ => (ma ρ).bind fun x => (mb ρ).bind fun y => o x y
theorem qe_2 {r : R2} {o : PyData → PyData → Option PyData} {ma mb : Env' → Option PyData} (s : Snd2 X.K r o) (mk : ∀ ta tb, PE X a ta → PE X b tb → PE X e (tOp r ta tb)) (ha : QE T X a ma) (hb : QE T X b mb) : QE T X e (e2 o ma mb) := by
  obtain ⟨ta, h1, q1⟩ := ha.ex
  obtain ⟨tb, h2, q2⟩ := hb.ex
  refine ⟨_, mk ta tb h1 h2, fun σ H ρ F d Q E hm k => ?_⟩
  unfold e2 at hm
  cases hx : ma ρ with
  | none => rw [hx] at hm; cases hm
  | some x =>
    cases hy : mb ρ with
    | none => rw [hx, hy] at hm; cases hm
    | some y =>
      rw [hx, hy] at hm
      refine q1 σ H ρ F x _ E hx fun u H1 s1 d1 n1 => ?_
      refine q2 σ H1 ρ F y _ (E.same s1) hy fun v H2 s2 d2 n2 => ?_
      exact s H2 u v x y d Q (dpAll_keepX s2 n1 d1) n1 d2 n2 hm fun w H3 s3 => k w H3 ((s1.trans s2).trans s3)
def d2 (o : PyData → PyData → Option PyData) (ma mb : MM PyData) : MM PyData := bindM ma fun x => bindM mb fun y => optM (o x y)
theorem qd_2 {r : R2} {o : PyData → PyData → Option PyData} {ma mb : MM PyData} (s : Snd2 X.K r o) (mk : ∀ ta tb, PE X a ta → PE X b tb → PE X e (tOp r ta tb)) (ha : QD T X W a ma) (hb : QD T X W b mb) : QD T X W e (d2 o ma mb) := by
  obtain ⟨ta, h1, q1⟩ := ha.ex
  obtain ⟨tb, h2, q2⟩ := hb.ex
  refine ⟨_, mk ta tb h1 h2, fun σ H ρ F r Q E n hm k => ?_⟩
  unfold d2 bindM at hm
  cases hx : ma ρ with
  | none => rw [hx] at hm; cases hm
  | some rx =>
    rw [hx] at hm
    refine q1 σ H ρ F rx _ E n hx ?_
    cases rx with
    | er c fs ρ1 => cases hm; exact k
    | ok x ρ1 =>
      intro u H1 F1 d1 n1 E1 nd1 m1
      dsimp only at hm
      cases hy : mb ρ1 with
      | none => rw [hy] at hm; cases hm
      | some ry =>
        rw [hy] at hm
        refine q2 σ H1 ρ1 F1 ry _ E1 nd1 hy ?_
        cases ry with
        | er c fs ρ2 => cases hm; exact XOk.from k m1
        | ok y ρ2 =>
          intro v H2 F2 d2 n2 E2 nd2 m2
          dsimp only [optM] at hm
          cases hz : o x y with
          | none => rw [hz] at hm; cases hm
          | some z =>
            rw [hz] at hm
            cases hm
            refine s H2 u v x y z Q (dp_keepX (m2.c.kp (g := []) E1.wr (fun _ h => nomatch h)).x n1 d1) n1 d2 n2 hz fun w H3 s3 dz nz => ?_
            exact k w H3 F2 dz nz (E2.same s3) nd2 ((m1.trans m2).trans (Mv.same s3 fun _ h => h))
/-! #### .. with one -/
def Snd1 (K : PySem.W.Frag) (r : V → Hp → VK → Prop) (o : PyData → Option PyData) : Prop :=
  ∀ (H : Hp) (x : V) (p z : PyData) (Q : VK), Dq K H x p → noL p = true → o p = some z → (∀ v H', Same H H' → Dq K H' v z → noL z = true → Q v H') → r x H Q
def e1 (o : PyData → Option PyData) (ma : Env' → Option PyData) : Env' → Option PyData := fun ρ => (ma ρ).bind o
theorem qe_1 {r : V → Hp → VK → Prop} {o : PyData → Option PyData} {ma : Env' → Option PyData} (s : Snd1 X.K r o) (mk : ∀ ta, PE X a ta → PE X e (tUn r ta)) (ha : QE T X a ma) : QE T X e (e1 o ma) := by
  obtain ⟨ta, h1, q1⟩ := ha.ex
  refine ⟨_, mk ta h1, fun σ H ρ F d Q E hm k => ?_⟩
  unfold e1 at hm
  cases hx : ma ρ with
  | none => rw [hx] at hm; cases hm
  | some x =>
    rw [hx] at hm
    refine q1 σ H ρ F x _ E hx fun u H1 s1 d1 n1 => ?_
    exact s H1 u x d Q d1 n1 hm fun w H3 s3 => k w H3 (s1.trans s3)
def d1 (o : PyData → Option PyData) (ma : MM PyData) : MM PyData := bindM ma fun x => optM (o x)
theorem qd_1 {r : V → Hp → VK → Prop} {o : PyData → Option PyData} {ma : MM PyData} (s : Snd1 X.K r o) (mk : ∀ ta, PE X a ta → PE X e (tUn r ta)) (ha : QD T X W a ma) : QD T X W e (d1 o ma) := by
  obtain ⟨ta, h1, q1⟩ := ha.ex
  refine ⟨_, mk ta h1, fun σ H ρ F r Q E n hm k => ?_⟩
  unfold d1 bindM at hm
  cases hx : ma ρ with
  | none => rw [hx] at hm; cases hm
  | some rx =>
    rw [hx] at hm
    refine q1 σ H ρ F rx _ E n hx ?_
    cases rx with
    | er c fs ρ1 => cases hm; exact k
    | ok x ρ1 =>
      intro u H1 F1 d1 n1 E1 nd1 m1
      dsimp only [optM] at hm
      cases hz : o x with
      | none => rw [hz] at hm; cases hm
      | some z =>
        rw [hz] at hm
        cases hm
        refine s H1 u x z Q d1 n1 hz fun w H3 s3 dz nz => ?_
        exact k w H3 F1 dz nz (E1.same s3) nd1 (m1.trans (Mv.same s3 fun _ h => h))
/-! #### rows of expressions -/
def aNil : Env' → Option (List PyData) := fun _ => some []
def aCons (m : Env' → Option PyData) (r : Env' → Option (List PyData)) : Env' → Option (List PyData) := fun ρ => (m ρ).bind fun x => (r ρ).map fun xs => x :: xs
theorem qae_nil : QAE T X [] aNil := ⟨_, pa_nil, fun σ H ρ F ds Q E hm k => by
  cases hm
  exact k [] H (Same.refl H) .nil rfl⟩
theorem qae_cons {m : Env' → Option PyData} {r : Env' → Option (List PyData)} (ha : QE T X a m) (hr : QAE T X es r) (hs : starEach (a :: es) X.env = (false, eval a X.env) :: starEach es X.env := by rfl) : QAE T X (a :: es) (aCons m r) := by
  obtain ⟨ta, h1, q1⟩ := ha.ex
  obtain ⟨tr, h2, q2⟩ := hr.ex
  refine ⟨_, pa_cons h1 h2 hs, fun σ H ρ F ds Q E hm k => ?_⟩
  unfold aCons at hm
  cases hx : m ρ with
  | none => rw [hx] at hm; cases hm
  | some x =>
    cases hy : r ρ with
    | none => rw [hx, hy] at hm; cases hm
    | some xs =>
      rw [hx, hy] at hm
      cases hm
      refine q1 σ H ρ F x _ E hx fun u H1 s1 d1 n1 => ?_
      refine q2 σ H1 ρ F xs _ (E.same s1) hy fun vs H2 s2 d2 n2 => ?_
      exact k _ H2 (s1.trans s2) (.cons (dpAll_keepX s2 n1 d1) d2) (by simp [noLs, n1, n2])
def bNil : MM (List PyData) := pureM []
def bCons (m : MM PyData) (r : MM (List PyData)) : MM (List PyData) := bindM m fun x => bindM r fun xs => pureM (x :: xs)
theorem qa_nil : QA T X W [] bNil := ⟨_, pa_nil, fun σ H ρ F r Q E n hm k => by
  cases hm
  exact k [] H F .nil rfl E n (Mv.refl fun _ h => h)⟩
theorem qa_cons {m : MM PyData} {r : MM (List PyData)} (ha : QD T X W a m) (hr : QA T X W es r) (hs : starEach (a :: es) X.env = (false, eval a X.env) :: starEach es X.env := by rfl) : QA T X W (a :: es) (bCons m r) := by
  obtain ⟨ta, h1, q1⟩ := ha.ex
  obtain ⟨tr, h2, q2⟩ := hr.ex
  refine ⟨_, pa_cons h1 h2 hs, fun σ H ρ F res Q E n hm k => ?_⟩
  unfold bCons bindM at hm
  cases hx : m ρ with
  | none => rw [hx] at hm; cases hm
  | some rx =>
    rw [hx] at hm
    refine q1 σ H ρ F rx _ E n hx ?_
    cases rx with
    | er c fs ρ1 => cases hm; exact k
    | ok x ρ1 =>
      intro u H1 F1 d1 n1 E1 nd1 m1
      dsimp only at hm
      cases hy : r ρ1 with
      | none => rw [hy] at hm; cases hm
      | some ry =>
        rw [hy] at hm
        refine q2 σ H1 ρ1 F1 ry _ E1 nd1 hy ?_
        cases ry with
        | er c fs ρ2 => cases hm; exact XOk.from k m1
        | ok xs ρ2 =>
          cases hm
          intro vs H2 F2 d2 n2 E2 nd2 m2
          exact k _ H2 F2 (.cons (dp_keepX (m2.c.kp (g := []) E1.wr (fun _ h => nomatch h)).x n1 d1) d2) (by simp [noLs, n1, n2]) E2 nd2 (m1.trans m2)
theorem dpAll_len {K : PySem.W.Frag} {H : Hp} : ∀ {vs : List V} {ds : List PyData}, DqAll K H vs ds → vs.length = ds.length
  | _, _, .nil => rfl
  | _, _, .cons _ t => congrArg (· + 1) (dpAll_len t)
/-- how many may stand in one tuple, list or text -/
def most : Nat := 1000000
theorem most_le {n : Nat} (h : n ≤ most) : n ≤ sizeLine := Nat.le_trans h (by decide)
theorem most_lt {n : Nat} (h : n ≤ most) : n < sizeLine := Nat.lt_of_le_of_lt h (by decide)
def eTup (m : Env' → Option (List PyData)) : Env' → Option PyData := fun ρ => (m ρ).bind fun ds => if ds.length ≤ most then some (.tuple ds) else none
theorem qe_tup {m : Env' → Option (List PyData)} {x1 : Nat} (h : QAE T X es m) : QE T X (.Tuple es x1 pos) (eTup m) := by
  obtain ⟨t, h1, q1⟩ := h.ex
  refine ⟨_, pe_tupF h1, fun σ H ρ F d Q E hm k => ?_⟩
  unfold eTup at hm
  cases hx : m ρ with
  | none => rw [hx] at hm; cases hm
  | some ds =>
    rw [hx] at hm
    dsimp only [Option.bind] at hm
    split at hm
    · rename_i hl
      cases hm
      refine q1 σ H ρ F ds _ E hx fun vs H1 s1 d1 n1 => ⟨by rw [dpAll_len d1]; exact most_le hl, fun p ob np to => ?_⟩
      have s2 : Same H1 (upd H1 p (.frz ob (.tup vs))) := fun b u q => by rw [upd_ne (ne_of_none q np)]; exact q
      refine k _ _ (s1.trans s2) (.tup (.inl ⟨ob, upd_same, to⟩) ?_) (by simpa [noL] using n1)
      exact dp_keepXs (fun a o xs g => s2 _ _ g) n1 d1
    · cases hm
def dTup (m : MM (List PyData)) : MM PyData := bindM m fun ds => optM (if ds.length ≤ most then some (.tuple ds) else none)
theorem qd_tup {m : MM (List PyData)} {x1 : Nat} (h : QA T X W es m) : QD T X W (.Tuple es x1 pos) (dTup m) := by
  obtain ⟨t, h1, q1⟩ := h.ex
  refine ⟨_, pe_tupF h1, fun σ H ρ F r Q E n hm k => ?_⟩
  unfold dTup bindM at hm
  cases hx : m ρ with
  | none => rw [hx] at hm; cases hm
  | some rx =>
    rw [hx] at hm
    refine q1 σ H ρ F rx _ E n hx ?_
    cases rx with
    | er c fs ρ1 => cases hm; exact k
    | ok ds ρ1 =>
      intro vs H1 F1 d1 n1 E1 nd1 m1
      dsimp only [optM] at hm
      split at hm
      · rename_i hl
        cases hm
        refine ⟨by rw [dpAll_len d1]; exact most_le hl, fun p ob np to => ?_⟩
        have s2 : Same H1 (upd H1 p (.frz ob (.tup vs))) := fun b u q => by rw [upd_ne (ne_of_none q np)]; exact q
        refine k _ _ F1 (.tup (.inl ⟨ob, upd_same, to⟩) ?_) (by simpa [noL] using n1) (E1.same s2) nd1 (m1.trans (Mv.same s2 fun _ h => h))
        exact dp_keepXs (fun a o xs g => s2 _ _ g) n1 d1
      · cases hm
end
/-! #### tests -/
section
variable {T : Tb} {X : Cx} {W : WXk} {e a b c : Expr} {es rest : List Expr} {pos : Pos}
def bM : PyData → Option Bool
  | .bool b => some b
  | _ => none
def tM (m : MM PyData) : MM Bool := bindM m fun d => optM (bM d)
/-- a value that is a bool, as a test -/
theorem qt_mk {m : MM PyData} {f : TE → TT} (mk : ∀ t, PE X e t → PT X e (f t)) (sp : ∀ (t : TE) (σ : L2.St) (H : Hp) (Q : Bool → Hp → Prop), t σ H (fun v H' => ∃ k, v = .bl k ∧ Q k H') → f t σ H Q) (h : QD T X W e m) : QT T X W e (tM m) := by
  obtain ⟨t, ht, q⟩ := h.ex
  refine ⟨f t, mk t ht, fun σ H ρ F r Q E n hm k => sp t σ H Q ?_⟩
  unfold tM bindM at hm
  cases hd : m ρ with
  | none => rw [hd] at hm; cases hm
  | some r1 =>
    rw [hd] at hm
    refine q σ H ρ F r1 _ E n hd ?_
    cases r1 with
    | ok d ρ1 =>
      cases d with
      | bool b =>
        cases hm
        intro v H' F' dp nl E' n' mv
        cases dp
        exact ⟨b, rfl, k H' F' E' n' mv⟩
      | _ => cases hm
    | er c fs ρ1 =>
      cases hm
      exact k
theorem qt_val {m : MM PyData} (h : QD T X W e m) (he : ∀ whole, isTrue e X.env whole = (do let v ← whole; standAt e.pos; holding [v] (truthy v)) := by intro _; rfl) : QT T X W e (tM m) :=
  qt_mk (f := tB) (fun t ht => pt_val ht he) (fun t σ H Q q => q) h
/-- a comparison as a test -/
theorem qt_cmp {op : CmpOp} {r : R2} {o : PyData → PyData → Option PyData} {ma mb : MM PyData} (ho : OpR X (compareOp op) r) (s : Snd2 X.K r o) (hm : behindInMarks op b = false) (ha : QD T X W a ma) (hb : QD T X W b mb) :
    QT T X W (.Compare a [op] [b] pos) (tM (d2 o ma mb)) := by
  obtain ⟨ta, h1, q1⟩ := ha.ex
  obtain ⟨tb, h2, q2⟩ := hb.ex
  obtain ⟨t, ht, q⟩ := (qd_2 (e := .Compare a [op] [b] pos) s (fun ta tb h1 h2 => pe_cmpR ho h1 h2 hm) ⟨⟨ta, h1, q1⟩⟩ ⟨⟨tb, h2, q2⟩⟩).ex
  have z : QD T X W (.Compare a [op] [b] pos) (d2 o ma mb) := qd_2 s (fun ta tb h1 h2 => pe_cmpR ho h1 h2 hm) ⟨⟨ta, h1, q1⟩⟩ ⟨⟨tb, h2, q2⟩⟩
  refine ⟨tTest (tOp r ta tb), pt_cmpR ho h1 h2 hm, fun σ H ρ F res Q E n hres k => ?_⟩
  show tOp r ta tb σ H fun x H' => ∃ k, x = .bl k ∧ Q k H'
  unfold tM bindM at hres
  cases hx : ma ρ with
  | none =>
    unfold d2 bindM at hres
    rw [hx] at hres
    cases hres
  | some rx =>
    unfold d2 bindM at hres
    rw [hx] at hres
    refine q1 σ H ρ F rx _ E n hx ?_
    cases rx with
    | er c fs ρ1 => cases hres; exact k
    | ok x ρ1 =>
      intro u H1 F1 d1 n1 E1 nd1 m1
      dsimp only at hres
      cases hy : mb ρ1 with
      | none => rw [hy] at hres; cases hres
      | some ry =>
        rw [hy] at hres
        refine q2 σ H1 ρ1 F1 ry _ E1 nd1 hy ?_
        cases ry with
        | er c fs ρ2 => cases hres; exact XOk.from k m1
        | ok y ρ2 =>
          intro v H2 F2 d2 n2 E2 nd2 m2
          dsimp only [optM] at hres
          cases hz : o x y with
          | none => rw [hz] at hres; cases hres
          | some z =>
            rw [hz] at hres
            cases z with
            | bool bb =>
              cases hres
              refine s H2 u v x y (.bool bb) _ (dp_keepX (m2.c.kp (g := []) E1.wr (fun _ h => nomatch h)).x n1 d1) n1 d2 n2 hz fun w H3 s3 dz nz => ?_
              cases dz
              exact ⟨bb, rfl, k H3 F2 (E2.same s3) nd2 ((m1.trans m2).trans (Mv.same s3 fun _ h => h))⟩
            | _ => cases hres
/-- a value's truth -/
def truM : M → Option Bool
  | .imm .none => some false
  | .imm (.bool b) => some b
  | .imm (.int i) => some (i != 0)
  | .imm (.str y) => if y.length ≤ most then some ((y.length : Int) != 0) else none
  | .imm (.tuple xs) => some (!xs.isEmpty)
  | .lst xs => some (!xs.isEmpty)
  | _ => none
theorem tru_d {K : PySem.W.Frag} {H : Hp} {v : V} {x : M} {f : List Addr} {b : Bool} (r : Rep K T H v x f) (h : truM x = some b) : TruV K v H b := by
  cases r with
  | imm dp n =>
    cases dp with
    | non => cases h; rfl
    | bl k => cases h; rfl
    | int i => cases h; rfl
    | str y =>
      simp only [truM] at h
      split at h
      · rename_i hl
        cases h
        exact ⟨most_le hl, rfl⟩
      · cases h
    | tup s a =>
      cases h
      refine .inr (.inl ⟨_, s.sq, ?_⟩)
      cases a <;> rfl
  | lst hl rs =>
    cases h
    refine .inl ⟨_, SqL.of hl, ?_⟩
    cases rs <;> rfl
  | _ => cases h

def uM (m : MM M) : MM Bool := bindM m fun x => optM (truM x)
/-- any value as a test -/
theorem qt_truth {m : MM M} (h : QX T X W e m) (he : ∀ whole, isTrue e X.env whole = (do let v ← whole; standAt e.pos; holding [v] (truthy v)) := by intro _; rfl) : QT T X W e (uM m) := by
  obtain ⟨t, ht, q⟩ := h.ex
  refine ⟨_, pt_truth ht he, fun σ H ρ F r Q E n hm k => ?_⟩
  unfold uM bindM at hm
  cases hd : m ρ with
  | none => rw [hd] at hm; cases hm
  | some r1 =>
    rw [hd] at hm
    refine q σ H ρ F r1 _ E n hd ?_
    cases r1 with
    | ok x ρ1 =>
      dsimp only [optM] at hm
      cases hz : truM x with
      | none => rw [hz] at hm; cases hm
      | some b =>
        rw [hz] at hm
        cases hm
        intro v H' f F' rp E' n' mv
        exact ⟨b, tru_d rp hz, k H' F' E' (List.nodup_append.mp n').2.1 (mv.sub fun _ h => List.mem_append_right _ h)⟩
    | er c fs ρ1 =>
      cases hm
      exact k
def uP (m : Env' → Option M) : MM Bool := fun ρ => ((m ρ).bind truM).map fun b => .ok b ρ
/-- .. of what stands there -/
theorem qt_truthP {m : Env' → Option M} (h : QP T X e m) (he : ∀ whole, isTrue e X.env whole = (do let v ← whole; standAt e.pos; holding [v] (truthy v)) := by intro _; rfl) : QT T X W e (uP m) := by
  obtain ⟨t, ht, q⟩ := h.ex
  refine ⟨_, pt_truth ht he, fun σ H ρ F r Q E n hm k => ?_⟩
  unfold uP at hm
  cases hd : m ρ with
  | none => rw [hd] at hm; cases hm
  | some x =>
    rw [hd] at hm
    dsimp only [Option.bind] at hm
    cases hz : truM x with
    | none => rw [hz] at hm; cases hm
    | some b =>
      rw [hz] at hm
      cases hm
      exact q σ H ρ F x _ E hd fun v f rp _ => ⟨b, tru_d rp hz, k H F E n (Mv.refl fun _ h => h)⟩
theorem qw_t {m : MM Bool} (h : QW T X W e m) : QT T X W e m := by
  obtain ⟨t, ht, q⟩ := h.ex
  exact ⟨t, ht.pt, q⟩
def andM (m k : MM Bool) : MM Bool := bindM m fun b => if b then k else pureM false
def orM (m k : MM Bool) : MM Bool := bindM m fun b => if b then pureM true else k
def notM (m : MM Bool) : MM Bool := bindM m fun b => pureM (!b)
theorem qw_and1 {m : MM Bool} (h : QT T X W a m) : QW T X W (.BoolOp .And [a] pos) m := by
  obtain ⟨t, ht, q⟩ := h.ex
  exact ⟨t, pw_and1 ht, q⟩
theorem qw_or1 {m : MM Bool} (h : QT T X W a m) : QW T X W (.BoolOp .Or [a] pos) m := by
  obtain ⟨t, ht, q⟩ := h.ex
  exact ⟨t, pw_or1 ht, q⟩
theorem goT_bind {K : PySem.W.Frag} {t u : TT} {m k' : MM Bool} {g : Bool → MM Bool} {f : Bool → L2.St → Hp → (Bool → Hp → Prop) → Prop} (q : ∀ (σ : L2.St) (H : Hp) (ρ : Env') (F : List Addr) (r : Rs Env' Bool) (Q : Bool → Hp → Prop), EnvR K T H σ ρ F → F.Nodup → m ρ = some r → GoT K T W H F σ r Q → t σ H Q)
    (q2 : ∀ (b : Bool) (σ : L2.St) (H : Hp) (ρ : Env') (F : List Addr) (r : Rs Env' Bool) (Q : Bool → Hp → Prop), EnvR K T H σ ρ F → F.Nodup → g b ρ = some r → GoT K T W H F σ r Q → f b σ H Q) :
    ∀ (σ : L2.St) (H : Hp) (ρ : Env') (F : List Addr) (r : Rs Env' Bool) (Q : Bool → Hp → Prop), EnvR K T H σ ρ F → F.Nodup → bindM m g ρ = some r → GoT K T W H F σ r Q → t σ H fun b H1 => f b σ H1 Q := by
  intro σ H ρ F r Q E n hm k
  unfold bindM at hm
  cases hd : m ρ with
  | none => rw [hd] at hm; cases hm
  | some r1 =>
    rw [hd] at hm
    refine q σ H ρ F r1 _ E n hd ?_
    cases r1 with
    | er c fs ρ1 => cases hm; exact k
    | ok b ρ1 =>
      intro H' F' E' n' mv
      refine q2 b σ H' ρ1 F' r Q E' n' hm ?_
      cases r with
      | ok b2 ρ2 => exact fun H2 F2 E2 n2 m2 => k H2 F2 E2 n2 (mv.trans m2)
      | er c fs ρ2 => exact XOk.from k mv
theorem goT_pure {K : PySem.W.Frag} {b : Bool} (σ : L2.St) (H : Hp) (ρ : Env') (F : List Addr) (r : Rs Env' Bool) (Q : Bool → Hp → Prop) (E : EnvR K T H σ ρ F) (n : F.Nodup) (hm : pureM b ρ = some r) (k : GoT K T W H F σ r Q) : Q b H := by
  cases hm
  exact k H F E n (Mv.refl fun _ h => h)
theorem qw_and {m k : MM Bool} (h : QT T X W a m) (h2 : QW T X W (.BoolOp .And (b :: rest) pos) k) : QW T X W (.BoolOp .And (a :: b :: rest) pos) (andM m k) := by
  obtain ⟨t, ht, q⟩ := h.ex
  obtain ⟨u, hu, q2⟩ := h2.ex
  refine ⟨_, pw_and ht hu, goT_bind (k' := k) (u := u) (f := fun c σ H Q => if c = true then u σ H Q else Q false H) q fun c σ H ρ F r Q E n hm kk => ?_⟩
  cases c with
  | true => exact q2 σ H ρ F r Q E n hm kk
  | false => exact goT_pure σ H ρ F r Q E n hm kk
theorem qw_or {m k : MM Bool} (h : QT T X W a m) (h2 : QW T X W (.BoolOp .Or (b :: rest) pos) k) : QW T X W (.BoolOp .Or (a :: b :: rest) pos) (orM m k) := by
  obtain ⟨t, ht, q⟩ := h.ex
  obtain ⟨u, hu, q2⟩ := h2.ex
  refine ⟨_, pw_or ht hu, goT_bind (k' := k) (u := u) (f := fun c σ H Q => if c = true then Q true H else u σ H Q) q fun c σ H ρ F r Q E n hm kk => ?_⟩
  cases c with
  | true => exact goT_pure σ H ρ F r Q E n hm kk
  | false => exact q2 σ H ρ F r Q E n hm kk
theorem qt_not {m : MM Bool} (h : QT T X W a m) : QT T X W (.UnaryOp .Not a pos) (notM m) := by
  obtain ⟨t, ht, q⟩ := h.ex
  exact ⟨_, pt_not ht, goT_bind (k' := m) (u := t) (f := fun c σ H Q => Q (!c) H) q fun c σ H ρ F r Q E n hm kk => goT_pure σ H ρ F r Q E n hm kk⟩
/-! #### a and b, a or b, not a, a if t else b, as values -/
def tV (m : MM Bool) : MM PyData := bindM m fun b => pureM (.bool b)
def ifM {α : Type} (t : MM Bool) (m k : MM α) : MM α := bindM t fun b => if b then m else k
theorem qd_if {m k : MM PyData} {tm : MM Bool} (ht : QT T X W c tm) (ha : QD T X W a m) (hb : QD T X W b k) : QD T X W (.IfExp c a b pos) (ifM tm m k) := by
  obtain ⟨t, h1, q1⟩ := ht.ex
  obtain ⟨ta, h2, q2⟩ := ha.ex
  obtain ⟨tb, h3, q3⟩ := hb.ex
  refine ⟨_, pe_ifExp h1 h2 h3, fun σ H ρ F r Q E n hm kk => ?_⟩
  unfold ifM bindM at hm
  cases hd : tm ρ with
  | none => rw [hd] at hm; cases hm
  | some r1 =>
    rw [hd] at hm
    refine q1 σ H ρ F r1 _ E n hd ?_
    cases r1 with
    | er c fs ρ1 => cases hm; exact kk
    | ok b ρ1 =>
      intro H' F' E' n' mv
      have kk' : GoD X.K T W H' F' σ r Q := by
        cases r with
        | ok d ρ2 => exact fun v H2 F2 dp nl E2 n2 m2 => kk v H2 F2 dp nl E2 n2 (mv.trans m2)
        | er c fs ρ2 => exact XOk.from kk mv
      cases b with
      | true => exact q2 σ H' ρ1 F' r Q E' n' hm kk'
      | false => exact q3 σ H' ρ1 F' r Q E' n' hm kk'
/-- x and y, x or y as values, all but the last bools -/
def dAnd (m k : MM PyData) : MM PyData := bindM m fun d => match d with | .bool true => k | .bool false => pureM (.bool false) | _ => fun _ => none
def dOr (m k : MM PyData) : MM PyData := bindM m fun d => match d with | .bool true => pureM (.bool true) | .bool false => k | _ => fun _ => none
theorem qd_one {op} {m : MM PyData} (h : QD T X W a m) : QD T X W (.BoolOp op [a] pos) m := by
  obtain ⟨t, ht, q⟩ := h.ex
  exact ⟨t, pe_one ht, q⟩
theorem goD_pure {K : PySem.W.Frag} {b : PyData} {v : V} (σ : L2.St) (H : Hp) (ρ : Env') (F : List Addr) (r : Rs Env' PyData) (Q : VK) (E : EnvR K T H σ ρ F) (n : F.Nodup) (hm : pureM b ρ = some r) (k : GoD K T W H F σ r Q) (dp : Dq K H v b) (nl : noL b = true) : Q v H := by
  cases hm
  exact k v H F dp nl E n (Mv.refl fun _ h => h)
theorem goD_from {K : PySem.W.Frag} {H H' : Hp} {F F' : List Addr} {σ : L2.St} {r : Rs Env' PyData} {Q : VK} (kk : GoD K T W H F σ r Q) (mv : Mv F H F' H') : GoD K T W H' F' σ r Q := by
  cases r with
  | ok d ρ2 => exact fun v H2 F2 dp nl E2 n2 m2 => kk v H2 F2 dp nl E2 n2 (mv.trans m2)
  | er c fs ρ2 => exact XOk.from kk mv
theorem qd_and {m k : MM PyData} (h : QD T X W a m) (h2 : QD T X W (.BoolOp .And (b :: rest) pos) k) : QD T X W (.BoolOp .And (a :: b :: rest) pos) (dAnd m k) := by
  obtain ⟨t, ht, q⟩ := h.ex
  obtain ⟨u, hu, q2⟩ := h2.ex
  refine ⟨_, pe_and ht hu, fun σ H ρ F r Q E n hm kk => ?_⟩
  unfold dAnd bindM at hm
  cases hd : m ρ with
  | none => rw [hd] at hm; cases hm
  | some r1 =>
    rw [hd] at hm
    refine q σ H ρ F r1 _ E n hd ?_
    cases r1 with
    | er c fs ρ1 => cases hm; exact kk
    | ok d ρ1 =>
      intro v H' F' dp nl E' n' mv
      cases d with
      | bool b =>
        cases dp
        refine ⟨b, rfl, ?_⟩
        cases b with
        | true => exact q2 σ H' ρ1 F' r Q E' n' hm (goD_from kk mv)
        | false => exact goD_pure σ H' ρ1 F' r Q E' n' hm (goD_from kk mv) (.bl false) rfl
      | _ => cases hm
theorem qd_or {m k : MM PyData} (h : QD T X W a m) (h2 : QD T X W (.BoolOp .Or (b :: rest) pos) k) : QD T X W (.BoolOp .Or (a :: b :: rest) pos) (dOr m k) := by
  obtain ⟨t, ht, q⟩ := h.ex
  obtain ⟨u, hu, q2⟩ := h2.ex
  refine ⟨_, pe_or ht hu, fun σ H ρ F r Q E n hm kk => ?_⟩
  unfold dOr bindM at hm
  cases hd : m ρ with
  | none => rw [hd] at hm; cases hm
  | some r1 =>
    rw [hd] at hm
    refine q σ H ρ F r1 _ E n hd ?_
    cases r1 with
    | er c fs ρ1 => cases hm; exact kk
    | ok d ρ1 =>
      intro v H' F' dp nl E' n' mv
      cases d with
      | bool b =>
        cases dp
        refine ⟨b, rfl, ?_⟩
        cases b with
        | true => exact goD_pure σ H' ρ1 F' r Q E' n' hm (goD_from kk mv) (.bl true) rfl
        | false => exact q2 σ H' ρ1 F' r Q E' n' hm (goD_from kk mv)
      | _ => cases hm
def dNot (m : MM PyData) : MM PyData := bindM m fun d => match d with | .bool b => pureM (.bool (!b)) | _ => fun _ => none
theorem qd_not {m : MM PyData} (h : QD T X W a m) : QD T X W (.UnaryOp .Not a pos) (dNot m) := by
  obtain ⟨t, ht, q⟩ := h.ex
  refine ⟨_, pe_not ht, fun σ H ρ F r Q E n hm kk => ?_⟩
  unfold dNot bindM at hm
  cases hd : m ρ with
  | none => rw [hd] at hm; cases hm
  | some r1 =>
    rw [hd] at hm
    refine q σ H ρ F r1 _ E n hd ?_
    cases r1 with
    | er c fs ρ1 => cases hm; exact kk
    | ok d ρ1 =>
      intro v H' F' dp nl E' n' mv
      cases d with
      | bool b =>
        cases dp
        exact ⟨b, rfl, goD_pure σ H' ρ1 F' r Q E' n' hm (goD_from kk mv) (.bl _) rfl⟩
      | _ => cases hm
end
/-! ### the operators on data -/
section
variable {K : PySem.W.Frag} {X : Cx}
theorem dp_int {H : Hp} {v : V} {i : Int} (h : Dq K H v (.int i)) : v = .int i := by cases h; rfl
theorem dp_str {H : Hp} {v : V} {i : Str} (h : Dq K H v (.str i)) : v = .str i := by cases h; rfl
theorem dp_bl {H : Hp} {v : V} {i : Bool} (h : Dq K H v (.bool i)) : v = .bl i := by cases h; rfl
theorem dp_non {H : Hp} {v : V} (h : Dq K H v .none) : v = .non := by cases h; rfl
theorem dp_tupX {H : Hp} {v : V} {ds : List PyData} (h : Dq K H v (.tuple ds)) : ∃ a xs, v = .ref a ∧ Tq K H a xs ∧ DqAll K H xs ds := by cases h with | tup s a => exact ⟨_, _, rfl, s, a⟩
theorem newT {H : Hp} {p : Addr} {ob : Obj} {xs : List V} {ds : List PyData} (np : H p = none) (to : TupO ob) (n : noLs ds = true) (a : DqAll K H xs ds) : Same H (upd H p (.frz ob (.tup xs))) ∧ Dq K (upd H p (.frz ob (.tup xs))) (.ref p) (.tuple ds) := by
  have s2 : Same H (upd H p (.frz ob (.tup xs))) := fun b u q => by rw [upd_ne (ne_of_none q np)]; exact q
  exact ⟨s2, .tup (.inl ⟨ob, upd_same, to⟩) (dp_keepXs (fun a o xs g => s2 _ _ g) n a)⟩
theorem dpAll_app {H : Hp} : ∀ {vs ws : List V} {ds es : List PyData}, DqAll K H vs ds → DqAll K H ws es → DqAll K H (vs ++ ws) (ds ++ es)
  | _, _, _, _, .nil, b => b
  | _, _, _, _, .cons a t, b => .cons a (dpAll_app t b)
theorem dpAll_take {H : Hp} : ∀ {vs : List V} {ds : List PyData} (n : Nat), DqAll K H vs ds → DqAll K H (vs.take n) (ds.take n)
  | _, _, 0, _ => .nil
  | _, _, _ + 1, .nil => .nil
  | _, _, n + 1, .cons a t => .cons a (dpAll_take n t)
theorem dpAll_drop {H : Hp} : ∀ {vs : List V} {ds : List PyData} (n : Nat), DqAll K H vs ds → DqAll K H (vs.drop n) (ds.drop n)
  | _, _, 0, h => h
  | _, _, _ + 1, .nil => .nil
  | _, _, n + 1, .cons a t => dpAll_drop n t
theorem dpAll_at {H : Hp} : ∀ {vs : List V} {ds : List PyData} {i : Nat} {d : PyData}, DqAll K H vs ds → ds[i]? = some d → ∃ v, vs[i]? = some v ∧ Dq K H v d
  | _, _, i, d, .nil, h => by simp at h
  | _, _, 0, d, .cons a t, h => by
    simp at h
    subst h
    exact ⟨_, rfl, a⟩
  | _, _, i + 1, d, .cons a t, h => by
    obtain ⟨v, h1, h2⟩ := dpAll_at (i := i) (d := d) t (by simpa using h)
    exact ⟨v, by simpa using h1, h2⟩
theorem noLs_take {ds : List PyData} (n : Nat) (h : noLs ds = true) : noLs (ds.take n) = true := noLs_iff.mpr fun x hx => noLs_iff.mp h x (List.mem_of_mem_take hx)
theorem noLs_drop {ds : List PyData} (n : Nat) (h : noLs ds = true) : noLs (ds.drop n) = true := noLs_iff.mpr fun x hx => noLs_iff.mp h x (List.mem_of_mem_drop hx)
theorem noLs_at {ds : List PyData} {i : Nat} {d : PyData} (h : noLs ds = true) (e : ds[i]? = some d) : noL d = true := noLs_iff.mp h d (List.mem_of_getElem? e)
/-- a + b -/
def oAdd : PyData → PyData → Option PyData
  | .int a, .int b => some (.int (a + b))
  | .str a, .str b => if a.length + b.length ≤ most then some (.str (a ++ b)) else none
  | .tuple a, .tuple b => if a.length + b.length ≤ most then some (.tuple (a ++ b)) else none
  | _, _ => none
abbrev rAddU (K : PySem.W.Frag) : R2 := fun x y H Q => rI0 (fun i j => .int (i + j)) x y H Q ∨ (∃ i j, x = .str i ∧ y = .str j ∧ i.length + j.length ≤ sizeLine ∧ Q (.str (i ++ j)) H) ∨ rCatZ K x y H Q
theorem op_addU : OpR X (binaryOp .Add) (rAddU X.K) := OpR.or op_add (OpR.or op_add_str op_catZ)
theorem snd_add : Snd2 K (rAddU K) oAdd := by
  intro H x y p q z Q dx nx dy ny h k
  cases p with
  | int a =>
    cases q with
    | int b =>
      cases h
      cases dx
      cases dy
      exact .inl ⟨a, b, rfl, rfl, k _ H (Same.refl H) (.int _) rfl⟩
    | _ => cases h
  | str a =>
    cases q with
    | str b =>
      simp only [oAdd] at h
      split at h
      · rename_i hl
        cases h
        cases dx
        cases dy
        exact .inr (.inl ⟨a, b, rfl, rfl, most_le hl, k _ H (Same.refl H) (.str _) rfl⟩)
      · cases h
    | _ => cases h
  | tuple a =>
    cases q with
    | tuple b =>
      simp only [oAdd] at h
      split at h
      · rename_i hl
        cases h
        obtain ⟨p1, xs, rfl, s1, a1⟩ := dp_tupX dx
        obtain ⟨p2, ys, rfl, s2, a2⟩ := dp_tupX dy
        have e1 := dpAll_len a1
        have e2 := dpAll_len a2
        have n1 : noLs a = true := by simpa [noL] using nx
        have n2 : noLs b = true := by simpa [noL] using ny
        refine .inr (.inr ⟨p1, p2, xs, ys, rfl, rfl, s1.sq, s2.sq, by rw [e1, e2]; exact most_le hl, fun e => ?_, fun e f => ?_, fun e f r ob nr to => ?_⟩)
        · subst e
          cases a1
          exact k _ H (Same.refl H) (.tup s2 a2) (by simpa [noL] using n2)
        · subst f
          cases a2
          refine k _ H (Same.refl H) ?_ ?_
          · rw [List.append_nil]
            exact .tup s1 a1
          · rw [List.append_nil]
            simpa [noL] using n1
        · have nn : noLs (a ++ b) = true := noLs_append n1 n2
          obtain ⟨s3, d3⟩ := newT (K := K) nr to nn (dpAll_app a1 a2)
          exact k _ _ s3 d3 (by simpa [noL] using nn)
      · cases h
    | _ => cases h
  | _ => cases h
/-- ints alone -/
def oI (g : Int → Int → Option PyData) : PyData → PyData → Option PyData
  | .int a, .int b => g a b
  | _, _ => none
theorem snd_I {r : R2} {g : Int → Int → Option PyData} (h : ∀ H i j z Q, g i j = some z → (∀ v, Dq K H v z → noL z = true → Q v H) → r (.int i) (.int j) H Q) : Snd2 K r (oI g) := by
  intro H x y p q z Q dx nx dy ny e k
  cases p with
  | int a =>
    cases q with
    | int b =>
      cases dx
      cases dy
      exact h H a b z Q e fun v dp nl => k v H (Same.refl H) dp nl
    | _ => cases e
  | _ => cases e
def oSub := oI fun a b => some (.int (a - b))
theorem snd_sub : Snd2 K (rI0 fun i j => .int (i - j)) oSub := snd_I fun H i j z Q e k => by
  cases e
  exact ⟨i, j, rfl, rfl, k _ (.int _) rfl⟩
def CMulX (i j : Int) : Prop := i.natAbs.log2 + j.natAbs.log2 < 134000000
instance {i j : Int} : Decidable (CMulX i j) := Nat.decLt ..
theorem mulX_fits {i j : Int} (h : CMulX i j) : IntMulOk i j := by
  have hb : ∀ x : Int, Builtin.Int.intBits x ≤ x.natAbs.log2 + 1 := by
    intro x
    unfold Builtin.Int.intBits
    split
    · omega
    · omega
  intro hh
  simp only [Bool.and_eq_true, Builtin.Int.intTooBig, decide_eq_true_eq] at hh
  have hl : bitsLine = 134217728 := by decide
  have h1 := hb i
  have h2 := hb j
  unfold CMulX at h
  omega
theorem op_mulX : OpR X (binaryOp .Mult) (rI CMulX fun i j => .int (i * j)) := opI fun _ _ _ _ _ _ _ c q => mul_int q (mulX_fits c)
def oMulI := oI fun a b => if CMulX a b then some (.int (a * b)) else none
theorem snd_mulI : Snd2 K (rI CMulX fun i j => .int (i * j)) oMulI := snd_I fun H i j z Q e k => by
  split at e
  · rename_i c
    cases e
    exact ⟨i, j, rfl, rfl, c, k _ (.int _) rfl⟩
  · cases e
def oMod := oI fun a b => if b = 0 then none else some (.int (a.fmod b))
theorem snd_mod : Snd2 K (rI (fun _ j => j ≠ 0) fun i j => .int (i.fmod j)) oMod := snd_I fun H i j z Q e k => by
  split at e
  · cases e
  · rename_i c
    cases e
    exact ⟨i, j, rfl, rfl, c, k _ (.int _) rfl⟩
def CDivG (_ j : Int) : Prop := j ≠ 0 ∧ j.natAbs.log2 < 9000
instance {i j : Int} : Decidable (CDivG i j) := inferInstanceAs (Decidable (j ≠ 0 ∧ j.natAbs.log2 < 9000))
theorem op_fdivG : OpR X (binaryOp .FloorDiv) (rI CDivG fun i j => .int (i.fdiv j)) := opI fun _ _ _ _ _ _ _ c q => floordiv_int c.1 q (.inl (PyProof.noPylong_of_log2 c.2))
def oDiv := oI fun a b => if CDivG a b then some (.int (a.fdiv b)) else none
theorem snd_div : Snd2 K (rI CDivG fun i j => .int (i.fdiv j)) oDiv := snd_I fun H i j z Q e k => by
  split at e
  · rename_i c
    cases e
    exact ⟨i, j, rfl, rfl, c, k _ (.int _) rfl⟩
  · cases e
instance {i j : Int} : Decidable (CPow i j) := inferInstanceAs (Decidable (0 ≤ j ∧ j ≤ 1000000 ∧ i.natAbs < 2 ^ 64))
def oPow := oI fun a b => if CPow a b then some (.int (a ^ b.toNat)) else none
theorem snd_pow : Snd2 K (rI CPow fun i j => .int (i ^ j.toNat)) oPow := snd_I fun H i j z Q e k => by
  split at e
  · rename_i c
    cases e
    exact ⟨i, j, rfl, rfl, c, k _ (.int _) rfl⟩
  · cases e
/-- comparisons of ints or texts -/
def oLt : PyData → PyData → Option PyData
  | .int a, .int b => some (.bool (decide (a < b)))
  | .str a, .str b => some (.bool (decide (a.cps.toList < b.cps.toList)))
  | _, _ => none
abbrev rLtU : R2 := fun x y H Q => rI0 (fun i j => .bl (decide (i < j))) x y H Q ∨ ∃ i j, x = .str i ∧ y = .str j ∧ Q (.bl (decide (i.cps.toList < j.cps.toList))) H
theorem op_ltU : OpR X (compareOp .Lt) rLtU := OpR.or op_lt op_lt_str
theorem snd_lt : Snd2 K rLtU oLt := by
  intro H x y p q z Q dx nx dy ny h k
  cases p with
  | int a =>
    cases q with
    | int b =>
      cases h
      cases dx
      cases dy
      exact .inl ⟨a, b, rfl, rfl, k _ H (Same.refl H) (.bl _) rfl⟩
    | _ => cases h
  | str a =>
    cases q with
    | str b =>
      cases h
      cases dx
      cases dy
      exact .inr ⟨a, b, rfl, rfl, k _ H (Same.refl H) (.bl _) rfl⟩
    | _ => cases h
  | _ => cases h
def oLe := oI fun a b => some (.bool (decide (a ≤ b)))
theorem snd_le : Snd2 K (rI0 fun i j => .bl (decide (i ≤ j))) oLe := snd_I fun H i j z Q e k => by
  cases e
  exact ⟨i, j, rfl, rfl, k _ (.bl _) rfl⟩
def oGt := oI fun a b => some (.bool (decide (b < a)))
theorem snd_gt : Snd2 K (rI0 fun i j => .bl (decide (j < i))) oGt := snd_I fun H i j z Q e k => by
  cases e
  exact ⟨i, j, rfl, rfl, k _ (.bl _) rfl⟩
def oGe := oI fun a b => some (.bool (decide (b ≤ a)))
theorem snd_ge : Snd2 K (rI0 fun i j => .bl (decide (j ≤ i))) oGe := snd_I fun H i j z Q e k => by
  cases e
  exact ⟨i, j, rfl, rfl, k _ (.bl _) rfl⟩
/-- == -/
def scD : PyData → Option V
  | .none => some .non
  | .bool b => some (.bl b)
  | .int i => some (.int i)
  | .str x => some (.str x)
  | _ => none
theorem scD_dp {H : Hp} {v x : V} {d : PyData} (h : Dq K H v d) (e : scD d = some x) : v = x := by
  cases h <;> first | (cases e; rfl) | cases e
def eqS (a b : PyData) : Option Bool := if SeqAt.shaped a && SeqAt.shaped b then some (PyData.eqv a b) else none
def eqB (a b : PyData) : Option Bool := match scD a, scD b with
  | some x, some y => if scal x y then some (decide (x = y)) else eqS a b
  | _, _ => eqS a b
def oEq (a b : PyData) : Option PyData := (eqB a b).map .bool
def oNe (a b : PyData) : Option PyData := (eqB a b).map fun c => .bool (!c)
abbrev rEqU (K : PySem.W.Frag) : R2 := fun x y H Q => rEq x y H Q ∨ rEqD K x y H Q
theorem op_eqU (hu : X.A.units + 64 < cLine) : OpR X (compareOp .Eq) (rEqU X.K) := OpR.or op_eq (op_eqD hu)
abbrev rNeU (K : PySem.W.Frag) : R2 := fun x y H Q => rNe x y H Q ∨ rNeD K x y H Q
theorem op_neU (hu : X.A.units + 64 < cLine) : OpR X (compareOp .NotEq) (rNeU X.K) := OpR.or op_ne (op_neD hu)
theorem eqB_ok {H : Hp} {u v : V} {a b : PyData} {c : Bool} (du : Dq K H u a) (dv : Dq K H v b) (h : eqB a b = some c) :
    (scal u v = true ∧ c = decide (u = v)) ∨ (SeqAt.shaped a = true ∧ SeqAt.shaped b = true ∧ c = PyData.eqv a b) := by
  have go : eqS a b = some c → SeqAt.shaped a = true ∧ SeqAt.shaped b = true ∧ c = PyData.eqv a b := fun h => by
    unfold eqS at h
    split at h
    · rename_i hs
      rw [Bool.and_eq_true] at hs
      cases h
      exact ⟨hs.1, hs.2, rfl⟩
    · cases h
  unfold eqB at h
  split at h
  · rename_i x y hx hy
    obtain rfl := scD_dp du hx
    obtain rfl := scD_dp dv hy
    split at h
    · rename_i hs
      cases h
      exact .inl ⟨hs, rfl⟩
    · exact .inr (go h)
  · exact .inr (go h)
theorem snd_eq : Snd2 K (rEqU K) oEq := by
  intro H x y p q z Q dx nx dy ny h k
  unfold oEq at h
  cases hc : eqB p q with
  | none => rw [hc] at h; cases h
  | some c =>
    rw [hc] at h
    cases h
    rcases eqB_ok dx dy hc with ⟨h1, h2⟩ | ⟨h1, h2, h3⟩
    · subst h2
      exact .inl ⟨h1, k _ H (Same.refl H) (.bl _) rfl⟩
    · subst h3
      exact .inr ⟨p, q, dx.dp, dy.dp, h1, h2, k _ H (Same.refl H) (.bl _) rfl⟩
theorem snd_ne : Snd2 K (rNeU K) oNe := by
  intro H x y p q z Q dx nx dy ny h k
  unfold oNe at h
  cases hc : eqB p q with
  | none => rw [hc] at h; cases h
  | some c =>
    rw [hc] at h
    cases h
    rcases eqB_ok dx dy hc with ⟨h1, h2⟩ | ⟨h1, h2, h3⟩
    · subst h2
      exact .inl ⟨h1, k _ H (Same.refl H) (.bl _) rfl⟩
    · subst h3
      exact .inr ⟨p, q, dx.dp, dy.dp, h1, h2, k _ H (Same.refl H) (.bl _) rfl⟩
/-- is None -/
def isN : PyData → Bool
  | .none => true
  | _ => false
theorem isN_dp {H : Hp} {v : V} {d : PyData} (h : Dq K H v d) : decide (v = .non) = isN d := by cases h <;> rfl
def oIs : PyData → PyData → Option PyData
  | a, .none => some (.bool (isN a))
  | _, _ => none
def oIsNot : PyData → PyData → Option PyData
  | a, .none => some (.bool (!isN a))
  | _, _ => none
theorem snd_is : Snd2 K (fun x y H Q => y = .non ∧ Q (.bl (decide (x = .non))) H) oIs := by
  intro H x y p q z Q dx nx dy ny h k
  cases q with
  | none =>
    cases h
    cases dy
    refine ⟨rfl, ?_⟩
    rw [isN_dp dx]
    exact k _ H (Same.refl H) (.bl _) rfl
  | _ => cases h
theorem snd_isNot : Snd2 K (fun x y H Q => y = .non ∧ Q (.bl (!decide (x = .non))) H) oIsNot := by
  intro H x y p q z Q dx nx dy ny h k
  cases q with
  | none =>
    cases h
    cases dy
    refine ⟨rfl, ?_⟩
    rw [isN_dp dx]
    exact k _ H (Same.refl H) (.bl _) rfl
  | _ => cases h
/-- a in b, b a row of scalars, or a text -/
def scDs : List PyData → Option (List V)
  | [] => some []
  | d :: ds => match scD d, scDs ds with | some v, some vs => some (v :: vs) | _, _ => none
theorem scDs_dp {H : Hp} : ∀ {vs xs : List V} {ds : List PyData}, DqAll K H vs ds → scDs ds = some xs → vs = xs
  | _, _, _, .nil, e => by cases e; rfl
  | _, _, _, .cons a t, e => by
    simp only [scDs] at e
    split at e
    · rename_i v vs h1 h2
      cases e
      rw [scD_dp a h1, scDs_dp t h2]
    · cases e
theorem scD_flat {d : PyData} {v : V} (h : scD d = some v) : flatV v = true := by
  cases d <;> first | (cases h; rfl) | cases h
theorem scDs_flat : ∀ {ds : List PyData} {vs : List V}, scDs ds = some vs → vs.all flatV = true
  | [], _, h => by cases h; rfl
  | d :: ds, _, h => by
    simp only [scDs] at h
    split at h
    · rename_i v vs h1 h2
      cases h
      rw [List.all_cons, scD_flat h1, scDs_flat h2]
      rfl
    · cases h
def inB (a : PyData) (ds : List PyData) : Option Bool := match scD a, scDs ds with
  | some x, some xs => some (inV x xs)
  | _, _ => none
def oIn : PyData → PyData → Option PyData
  | a, .tuple ds => (inB a ds).map .bool
  | .str a, .str b => some (.bool (!(Builtin.Str.occurrences b a 0 b.length 1).isEmpty))
  | _, _ => none
def oNotIn : PyData → PyData → Option PyData
  | a, .tuple ds => (inB a ds).map fun c => .bool (!c)
  | .str a, .str b => some (.bool (!(!(Builtin.Str.occurrences b a 0 b.length 1).isEmpty)))
  | _, _ => none
abbrev rInU (K : PySem.W.Frag) : R2 := fun x y H Q => rIn K false x y H Q ∨ ∃ i j, x = .str i ∧ y = .str j ∧ Q (.bl (!(Builtin.Str.occurrences j i 0 j.length 1).isEmpty)) H
theorem op_inU : OpR X (compareOp .In) (rInU X.K) := OpR.or op_in_seq op_in_str
abbrev rNotInU (K : PySem.W.Frag) : R2 := fun x y H Q => rIn K true x y H Q ∨ ∃ i j, x = .str i ∧ y = .str j ∧ Q (.bl (!(!(Builtin.Str.occurrences j i 0 j.length 1).isEmpty))) H
theorem op_notInU : OpR X (compareOp .NotIn) (rNotInU X.K) := OpR.or op_notIn_seq op_notin_str
theorem inB_ok {H : Hp} {x : V} {xs : List V} {p : PyData} {ds : List PyData} {c : Bool} (dx : Dq K H x p) (a : DqAll K H xs ds) (h : inB p ds = some c) : flatV x = true ∧ xs.all flatV = true ∧ c = inV x xs := by
  unfold inB at h
  split at h
  · rename_i y ys h1 h2
    cases h
    obtain rfl := scD_dp dx h1
    obtain rfl := scDs_dp a h2
    exact ⟨scD_flat h1, scDs_flat h2, rfl⟩
  · cases h
theorem snd_in : Snd2 K (rInU K) oIn := by
  intro H x y p q z Q dx nx dy ny h k
  cases q with
  | tuple ds =>
    simp only [oIn] at h
    cases hc : inB p ds with
    | none => rw [hc] at h; cases h
    | some c =>
      rw [hc] at h
      cases h
      obtain ⟨a, xs, rfl, s, al⟩ := dp_tupX dy
      obtain ⟨h1, h2, rfl⟩ := inB_ok dx al hc
      exact .inl ⟨a, xs, rfl, .inr s.sq, h1, h2, k _ H (Same.refl H) (.bl _) rfl⟩
  | str b =>
    cases p with
    | str a =>
      cases h
      cases dx
      cases dy
      exact .inr ⟨a, b, rfl, rfl, k _ H (Same.refl H) (.bl _) rfl⟩
    | _ => cases h
  | _ => cases p <;> cases h
theorem snd_notIn : Snd2 K (rNotInU K) oNotIn := by
  intro H x y p q z Q dx nx dy ny h k
  cases q with
  | tuple ds =>
    simp only [oNotIn] at h
    cases hc : inB p ds with
    | none => rw [hc] at h; cases h
    | some c =>
      rw [hc] at h
      cases h
      obtain ⟨a, xs, rfl, s, al⟩ := dp_tupX dy
      obtain ⟨h1, h2, rfl⟩ := inB_ok dx al hc
      exact .inl ⟨a, xs, rfl, .inr s.sq, h1, h2, k _ H (Same.refl H) (.bl _) rfl⟩
  | str b =>
    cases p with
    | str a =>
      cases h
      cases dx
      cases dy
      exact .inr ⟨a, b, rfl, rfl, k _ H (Same.refl H) (.bl _) rfl⟩
    | _ => cases h
  | _ => cases p <;> cases h
/-- a[i] -/
def oIx : PyData → PyData → Option PyData
  | .tuple ds, .int i => atI ds i
  | .str z, .int i => if z.length ≤ most then (atI z.cps.toList i).map fun c => .str ⟨#[c]⟩ else none
  | _, _ => none
abbrev rIxU (K : PySem.W.Frag) : R2 := fun x y H Q => rIxT K x y H Q ∨ rIxS x y H Q
theorem ix_U : IxR X (rIxU X.K) := ix_tup.or ix_str
theorem atI_dp {H : Hp} {xs : List V} {ds : List PyData} {i : Int} {d : PyData} (a : DqAll K H xs ds) (n : noLs ds = true) (h : atI ds i = some d) : ∃ v, atI xs i = some v ∧ Dq K H v d ∧ noL d = true := by
  unfold atI at h ⊢
  rw [dpAll_len a]
  cases hj : ixN ds.length i with
  | none => rw [hj] at h; cases h
  | some j =>
    rw [hj] at h
    obtain ⟨v, h1, h2⟩ := dpAll_at a (show ds[j]? = some d from h)
    exact ⟨v, h1, h2, noLs_at n (show ds[j]? = some d from h)⟩
theorem snd_ix : Snd2 K (rIxU K) oIx := by
  intro H x y p q z Q dx nx dy ny h k
  cases p with
  | tuple ds =>
    cases q with
    | int i =>
      cases dy
      obtain ⟨a, xs, rfl, s, al⟩ := dp_tupX dx
      obtain ⟨v, h1, h2, h3⟩ := atI_dp al (by simpa [noL] using nx) h
      exact .inl ⟨a, xs, i, v, rfl, rfl, s.sq, h1, k _ H (Same.refl H) h2 h3⟩
    | _ => cases h
  | str b =>
    cases q with
    | int i =>
      cases dx
      cases dy
      simp only [oIx] at h
      split at h
      · rename_i hl
        cases hc : atI b.cps.toList i with
        | none => rw [hc] at h; cases h
        | some c =>
          rw [hc] at h
          cases h
          exact .inr ⟨b, i, c, rfl, rfl, most_le hl, hc, k _ H (Same.refl H) (.str _) rfl⟩
      · cases h
    | _ => cases h
  | _ => cases h
/-- x[lo:hi] -/
def cutL {α : Type} (xs : List α) (lo hi : Option Int) : List α := (xs.drop (HT.sIx xs.length 0 lo)).take (HT.sIx xs.length xs.length hi - HT.sIx xs.length 0 lo)
def oSl : PyData → Option Int → Option Int → Option PyData
  | .tuple ds, lo, hi => some (.tuple (cutL ds lo hi))
  | .str z, lo, hi => if z.length ≤ most then some (.str (cutS z lo hi)) else none
  | _, _, _ => none
abbrev rSlU (K : PySem.W.Frag) : V → Option Int → Option Int → Hp → VK → Prop := fun x lo hi H Q => rSlZ K x lo hi H Q ∨ rSlS x lo hi H Q
theorem sl_U : SlR X (rSlU X.K) := SlR.or sl_tupZ sl_str
theorem cutL_dp {H : Hp} {xs : List V} {ds : List PyData} {lo hi : Option Int} (a : DqAll K H xs ds) : DqAll K H (cutV xs lo hi) (cutL ds lo hi) := by
  unfold cutV cutL
  rw [dpAll_len a]
  exact dpAll_take _ (dpAll_drop _ a)
theorem snd_sl {H : Hp} {x : V} {p z : PyData} {lo hi : Option Int} {Q : VK} (dx : Dq K H x p) (nx : noL p = true) (h : oSl p lo hi = some z) (k : ∀ v H', Same H H' → Dq K H' v z → noL z = true → Q v H') : rSlU K x lo hi H Q := by
  cases p with
  | tuple ds =>
    cases h
    obtain ⟨a, xs, rfl, s, al⟩ := dp_tupX dx
    have n1 : noLs ds = true := by simpa [noL] using nx
    have nc : noLs (cutL ds lo hi) = true := by
      unfold cutL
      exact noLs_take _ (noLs_drop _ n1)
    refine .inl ⟨a, xs, rfl, s.sq, fun e => ?_, fun _ r ob nr to => ?_⟩
    · refine k _ H (Same.refl H) ?_ (by simpa [noL] using nc)
      have e' : cutL ds lo hi = ds := by
        unfold cutL
        rw [dpAll_len al] at e
        rw [e.1, e.2, List.drop_zero, Nat.sub_zero, List.take_length]
      rw [e']
      exact dx
    · obtain ⟨s3, d3⟩ := newT (K := K) nr to nc (cutL_dp al)
      exact k _ _ s3 d3 (by simpa [noL] using nc)
  | str b =>
    simp only [oSl] at h
    split at h
    · rename_i hl
      cases h
      cases dx
      exact .inr ⟨b, rfl, most_le hl, k _ H (Same.refl H) (.str _) rfl⟩
    · cases h
  | _ => cases h
def oNeg : PyData → Option PyData
  | .int i => some (.int (-i))
  | _ => none
theorem snd_neg : Snd1 K (rU fun i => .int (-i)) oNeg := by
  intro H x p z Q dx nx h k
  cases p with
  | int i =>
    cases h
    cases dx
    exact ⟨i, rfl, k _ H (Same.refl H) (.int _) rfl⟩
  | _ => cases h
end
/-! ### slices, built-ins by their names -/
section
variable {T : Tb} {X : Cx} {W : WXk} {e a b c : Expr} {es rest : List Expr} {pos p2 : Pos}
/-- a slice's bound: left out, or an int -/
structure QO (T : Tb) (X : Cx) (W : WXk) (e : Option Expr) (m : MM (Option Int)) : Prop where
  ex : ∃ t : TO, PO X e t ∧ ∀ (σ : L2.St) (H : Hp) (ρ : Env') (F : List Addr) (r : Rs Env' (Option Int)) (Q : Option Int → Hp → Prop), EnvR X.K T H σ ρ F → F.Nodup → m ρ = some r →
    (match r with
      | .ok i ρ1 => ∀ H' F', EnvR X.K T H' σ ρ1 F' → F'.Nodup → Mv F H F' H' → Q i H'
      | .er c fs ρ1 => XOk X.K T W H F σ c fs ρ1) → t σ H Q
def oN : MM (Option Int) := pureM none
def oS (m : MM PyData) : MM (Option Int) := bindM m fun d => match d with | .int i => pureM (some i) | _ => fun _ => none
theorem qo_none : QO T X W none oN := ⟨_, po_none, fun σ H ρ F r Q E n hm k => by
  cases hm
  exact k H F E n (Mv.refl fun _ h => h)⟩
theorem qo_some {m : MM PyData} (h : QD T X W e m) : QO T X W (some e) (oS m) := by
  obtain ⟨t, ht, q⟩ := h.ex
  refine ⟨_, po_some ht, fun σ H ρ F r Q E n hm k => ?_⟩
  unfold oS bindM at hm
  cases hd : m ρ with
  | none => rw [hd] at hm; cases hm
  | some r1 =>
    rw [hd] at hm
    refine q σ H ρ F r1 _ E n hd ?_
    cases r1 with
    | er c fs ρ1 => cases hm; exact k
    | ok d ρ1 =>
      intro v H' F' dp nl E' n' mv
      cases d with
      | int i =>
        cases hm
        cases dp
        exact ⟨i, rfl, k H' F' E' n' mv⟩
      | _ => cases hm
def dSl (m : MM PyData) (l h : MM (Option Int)) : MM PyData := bindM m fun x => bindM l fun lo => bindM h fun hi => optM (oSl x lo hi)
theorem qd_slice {lo hi : Option Expr} {m : MM PyData} {ml mh : MM (Option Int)} (he : QD T X W e m) (hl : QO T X W lo ml) (hh : QO T X W hi mh) : QD T X W (.Subscript e (.Slice lo hi none p2) pos) (dSl m ml mh) := by
  obtain ⟨t, h1, q1⟩ := he.ex
  obtain ⟨tl, h2, q2⟩ := hl.ex
  obtain ⟨th, h3, q3⟩ := hh.ex
  refine ⟨_, pe_slice sl_U h1 h2 h3, fun σ H ρ F r Q E n hm k => ?_⟩
  unfold dSl bindM at hm
  cases hx : m ρ with
  | none => rw [hx] at hm; cases hm
  | some rx =>
    rw [hx] at hm
    refine q1 σ H ρ F rx _ E n hx ?_
    cases rx with
    | er c fs ρ1 => cases hm; exact k
    | ok x ρ1 =>
      intro u H1 F1 d1 n1 E1 nd1 m1
      dsimp only at hm
      cases hy : ml ρ1 with
      | none => rw [hy] at hm; cases hm
      | some ry =>
        rw [hy] at hm
        refine q2 σ H1 ρ1 F1 ry _ E1 nd1 hy ?_
        cases ry with
        | er c fs ρ2 => cases hm; exact XOk.from k m1
        | ok y ρ2 =>
          intro H2 F2 E2 nd2 m2
          dsimp only at hm
          cases hz : mh ρ2 with
          | none => rw [hz] at hm; cases hm
          | some rz =>
            rw [hz] at hm
            refine q3 σ H2 ρ2 F2 rz _ E2 nd2 hz ?_
            cases rz with
            | er c fs ρ3 => cases hm; exact XOk.from k (m1.trans m2)
            | ok zz ρ3 =>
              intro H3 F3 E3 nd3 m3
              dsimp only [optM] at hm
              cases ho : oSl x y zz with
              | none => rw [ho] at hm; cases hm
              | some w =>
                rw [ho] at hm
                cases hm
                have k13 : Kp T [] H1 H3 := fun b o hb hq => (m2.trans m3).c.kp (g := []) E1.wr (fun _ h => nomatch h) b o hb hq
                refine snd_sl (dp_keepX k13.x n1 d1) n1 ho fun v H4 s4 d4 n4 => ?_
                exact k v H4 F3 d4 n4 (E3.same s4) nd3 (((m1.trans m2).trans m3).trans (Mv.same s4 fun _ h => h))
/-- a built-in that is called with data -/
def SndN (K : PySem.W.Frag) (r : List V → Hp → VK → Prop) (o : List PyData → Option PyData) : Prop :=
  ∀ (H : Hp) (xs : List V) (ps : List PyData) (z : PyData) (Q : VK), DqAll K H xs ps → noLs ps = true → o ps = some z → (∀ v H', Same H H' → Dq K H' v z → noL z = true → Q v H') → r xs H Q
def eN (o : List PyData → Option PyData) (m : Env' → Option (List PyData)) : Env' → Option PyData := fun ρ => (m ρ).bind o
def dN (o : List PyData → Option PyData) (m : MM (List PyData)) : MM PyData := bindM m fun xs => optM (o xs)
theorem qe_n {r : List V → Hp → VK → Prop} {o : List PyData → Option PyData} {m : Env' → Option (List PyData)} (s : SndN X.K r o) (mk : ∀ t, PA X es t → PE X e (tCB r t)) (h : QAE T X es m) : QE T X e (eN o m) := by
  obtain ⟨t, ht, q⟩ := h.ex
  refine ⟨_, mk t ht, fun σ H ρ F d Q E hm k => ?_⟩
  unfold eN at hm
  cases hx : m ρ with
  | none => rw [hx] at hm; cases hm
  | some ds =>
    rw [hx] at hm
    refine q σ H ρ F ds _ E hx fun vs H1 s1 d1 n1 => ?_
    exact s H1 vs ds d Q d1 n1 hm fun v H2 s2 => k v H2 (s1.trans s2)
theorem qd_n {r : List V → Hp → VK → Prop} {o : List PyData → Option PyData} {m : MM (List PyData)} (s : SndN X.K r o) (mk : ∀ t, PA X es t → PE X e (tCB r t)) (h : QA T X W es m) : QD T X W e (dN o m) := by
  obtain ⟨t, ht, q⟩ := h.ex
  refine ⟨_, mk t ht, fun σ H ρ F r Q E n hm k => ?_⟩
  unfold dN bindM at hm
  cases hx : m ρ with
  | none => rw [hx] at hm; cases hm
  | some rx =>
    rw [hx] at hm
    refine q σ H ρ F rx _ E n hx ?_
    cases rx with
    | er c fs ρ1 => cases hm; exact k
    | ok ds ρ1 =>
      intro vs H1 F1 d1 n1 E1 nd1 m1
      dsimp only [optM] at hm
      cases hz : o ds with
      | none => rw [hz] at hm; cases hm
      | some z =>
        rw [hz] at hm
        cases hm
        refine s H1 vs ds z Q d1 n1 hz fun w H3 s3 dz nz => ?_
        exact k w H3 F1 dz nz (E1.same s3) nd1 (m1.trans (Mv.same s3 fun _ h => h))
theorem dpAll1 {K : PySem.W.Frag} {H : Hp} {xs : List V} {d : PyData} (h : DqAll K H xs [d]) : ∃ v, xs = [v] ∧ Dq K H v d := by
  cases h with
  | cons a t =>
    cases t
    exact ⟨_, rfl, a⟩
theorem dpAll2 {K : PySem.W.Frag} {H : Hp} {xs : List V} {d e : PyData} (h : DqAll K H xs [d, e]) : ∃ v w, xs = [v, w] ∧ Dq K H v d ∧ Dq K H w e := by
  cases h with
  | cons a t =>
    obtain ⟨w, rfl, b⟩ := dpAll1 t
    exact ⟨_, w, rfl, a, b⟩
/-- int(x) -/
def oInt : List PyData → Option PyData
  | [.int i] => some (.int i)
  | [.str a] => if a.length ≤ 640 then (PySem.intText? a).map .int else none
  | _ => none
abbrev rInt : List V → Hp → VK → Prop := fun xs H Q => ((∃ i, xs = [.int i] ∧ Q (.int i) H) ∨ ∃ k, xs = [.bl k] ∧ Q (.int (if k then 1 else 0)) H) ∨ ∃ a n, xs = [.str a] ∧ PySem.intText? a = some n ∧ a.length ≤ 640 ∧ Q (.int n) H
theorem call_intU : CallR X (.type "int") rInt := CallR.or call_int1 call_int_str
theorem snd_int {K : PySem.W.Frag} : SndN K rInt oInt := by
  intro H xs ps z Q a n h k
  unfold oInt at h
  split at h
  · cases h
    obtain ⟨v, rfl, dv⟩ := dpAll1 a
    cases dv
    exact .inl (.inl ⟨_, rfl, k _ H (Same.refl H) (.int _) rfl⟩)
  · split at h
    · rename_i x hl
      obtain ⟨v, rfl, dv⟩ := dpAll1 a
      cases dv
      cases ht : PySem.intText? x with
      | none => rw [ht] at h; cases h
      | some m =>
        rw [ht] at h
        cases h
        exact .inr ⟨x, m, rfl, ht, hl, k _ H (Same.refl H) (.int _) rfl⟩
    · cases h
  · cases h
/-- str(i) -/
def oStr : List PyData → Option PyData
  | [.int i] => if i.natAbs.log2 < 1920 then some (.str (toString i)) else none
  | _ => none
theorem snd_str {K : PySem.W.Frag} : SndN K (fun xs H Q => ∃ i, xs = [.int i] ∧ i.natAbs.log2 < 1920 ∧ Q (.str (toString i)) H) oStr := by
  intro H xs ps z Q a n h k
  unfold oStr at h
  split at h
  · split at h
    · rename_i i hl
      cases h
      obtain ⟨v, rfl, dv⟩ := dpAll1 a
      cases dv
      exact ⟨_, rfl, hl, k _ H (Same.refl H) (.str _) rfl⟩
    · cases h
  · cases h
def oAbs : List PyData → Option PyData
  | [.int i] => some (.int (if i < 0 then -i else i))
  | _ => none
theorem snd_abs {K : PySem.W.Frag} : SndN K (fun xs H Q => ∃ i, xs = [.int i] ∧ Q (.int (if i < 0 then -i else i)) H) oAbs := by
  intro H xs ps z Q a n h k
  unfold oAbs at h
  split at h
  · cases h
    obtain ⟨v, rfl, dv⟩ := dpAll1 a
    cases dv
    exact ⟨_, rfl, k _ H (Same.refl H) (.int _) rfl⟩
  · cases h
def oMax : List PyData → Option PyData
  | [.int i, .int j] => some (.int (if j > i then j else i))
  | _ => none
theorem snd_max {K : PySem.W.Frag} : SndN K (fun xs H Q => ∃ i j, xs = [.int i, .int j] ∧ Q (.int (if j > i then j else i)) H) oMax := by
  intro H xs ps z Q a n h k
  unfold oMax at h
  split at h
  · cases h
    obtain ⟨v, w, rfl, dv, dw⟩ := dpAll2 a
    cases dv
    cases dw
    exact ⟨_, _, rfl, k _ H (Same.refl H) (.int _) rfl⟩
  · cases h
/-- len of data -/
def oLen : List PyData → Option PyData
  | [.tuple ds] => some (.int ds.length)
  | [.str z] => if z.length ≤ most then some (.int z.length) else none
  | _ => none
abbrev rLenU (K : PySem.W.Frag) : List V → Hp → VK → Prop := fun xs H Q => (∃ p ys, xs = [.ref p] ∧ (SqL K H p ys ∨ SqT K H p ys) ∧ Q (.int ys.length) H) ∨ ∃ z, xs = [.str z] ∧ z.length ≤ sizeLine ∧ Q (.int z.length) H
theorem call_lenU : CallR X (.builtin "len") (rLenU X.K) := CallR.or call_len_seq call_len_str
theorem snd_len {K : PySem.W.Frag} : SndN K (rLenU K) oLen := by
  intro H xs ps z Q a n h k
  unfold oLen at h
  split at h
  · cases h
    obtain ⟨v, rfl, dv⟩ := dpAll1 a
    obtain ⟨p, ys, rfl, s, al⟩ := dp_tupX dv
    refine .inl ⟨p, ys, rfl, .inr s.sq, ?_⟩
    rw [dpAll_len al]
    exact k _ H (Same.refl H) (.int _) rfl
  · split at h
    · rename_i x hl
      cases h
      obtain ⟨v, rfl, dv⟩ := dpAll1 a
      cases dv
      exact .inr ⟨_, rfl, most_le hl, k _ H (Same.refl H) (.int _) rfl⟩
    · cases h
  · cases h
/-- len of what stands there -/
def lenM : M → Option PyData
  | .imm d => oLen [d]
  | .lst xs => some (.int xs.length)
  | .scr ns => some (.int ns.length)
  | _ => none
def eLenP (m : Env' → Option M) : Env' → Option PyData := fun ρ => (m ρ).bind lenM
theorem lenM_ok {K : PySem.W.Frag} {H : Hp} {v : V} {x : M} {f : List Addr} {z : PyData} {Q : VK} (r : Rep K T H v x f) (h : lenM x = some z) (k : ∀ v, Dq K H v z → noL z = true → Q v H) : rLenU K [v] H Q := by
  cases r with
  | imm dp nl =>
    cases dp with
    | str y =>
      simp only [lenM, oLen] at h
      split at h
      · rename_i hl
        cases h
        exact .inr ⟨_, rfl, most_le hl, k _ (.int _) rfl⟩
      · cases h
    | tup s a =>
      cases h
      refine .inl ⟨_, _, rfl, .inr s.sq, ?_⟩
      rw [dpAll_len a]
      exact k _ (.int _) rfl
    | _ => cases h
  | scr s =>
    cases h
    refine .inl ⟨_, _, rfl, .inl s.seq, ?_⟩
    rw [List.length_map]
    exact k _ (.int _) rfl
  | lst h1 rs =>
    cases h
    refine .inl ⟨_, _, rfl, .inl (SqL.of h1), ?_⟩
    rw [rs.len]
    exact k _ (.int _) rfl
  | _ => cases h

theorem qe_lenP {p : Pos} {m : Env' → Option M} (h : QP T X a m) (hg : Gl X "len") (hm : X.mg "len" = none) (hs : starEach [a] X.env = (false, eval a X.env) :: starEach [] X.env := by rfl) : QE T X (.Call (.Name "len" p) [a] [] pos) (eLenP m) := by
  obtain ⟨t, ht, q⟩ := h.ex
  refine ⟨_, pe_callB call_lenU hg hm PySem.boot_len (pa_cons ht pa_nil hs) (he := hs), fun σ H ρ F d Q E hmm k => ?_⟩
  unfold eLenP at hmm
  cases hx : m ρ with
  | none => rw [hx] at hmm; cases hmm
  | some x =>
    rw [hx] at hmm
    exact q σ H ρ F x _ E hx fun v f r _ => lenM_ok r hmm fun w dz nz => k w H (Same.refl H) dz nz
/-- isinstance -/
def tyN : PyData → String
  | .none => "NoneType"
  | .bool _ => "bool"
  | .int _ => "int"
  | .str _ => "str"
  | .tuple _ => "tuple"
  | _ => "list"
theorem tyX_of {K : PySem.W.Frag} {H : Hp} {x : V} {d : PyData} (h : Dq K H x d) (n : noL d = true) : TyX K H x (.type (tyN d)) := by
  cases h with
  | non => exact .base .non
  | bl b => exact .base (.bl b)
  | int i => exact .base (.int i)
  | str s => exact .base (.str s)
  | tup hs _ =>
    rcases hs with ⟨o, h, _⟩ | ⟨o, its, n, hk, hc, _⟩
    · exact .fTuple h
    · exact .kTuple hk hc.1
theorem kt_NoneType_tuple {K : PySem.W.Frag} : PySem.W.kitOne K (.type "NoneType") (.type "tuple") = some false := kit_ty (by decide +kernel)
theorem kt_NoneType_bool {K : PySem.W.Frag} : PySem.W.kitOne K (.type "NoneType") (.type "bool") = some false := kit_ty (by decide +kernel)
theorem kt_NoneType_int {K : PySem.W.Frag} : PySem.W.kitOne K (.type "NoneType") (.type "int") = some false := kit_ty (by decide +kernel)
theorem kt_NoneType_str {K : PySem.W.Frag} : PySem.W.kitOne K (.type "NoneType") (.type "str") = some false := kit_ty (by decide +kernel)
theorem kt_bool_tuple {K : PySem.W.Frag} : PySem.W.kitOne K (.type "bool") (.type "tuple") = some false := kit_ty (by decide +kernel)
theorem kt_bool_bool {K : PySem.W.Frag} : PySem.W.kitOne K (.type "bool") (.type "bool") = some true := kit_ty (by decide +kernel)
theorem kt_bool_int {K : PySem.W.Frag} : PySem.W.kitOne K (.type "bool") (.type "int") = some true := kit_ty (by decide +kernel)
theorem kt_bool_str {K : PySem.W.Frag} : PySem.W.kitOne K (.type "bool") (.type "str") = some false := kit_ty (by decide +kernel)
theorem kt_int_tuple {K : PySem.W.Frag} : PySem.W.kitOne K (.type "int") (.type "tuple") = some false := kit_ty (by decide +kernel)
theorem kt_int_bool {K : PySem.W.Frag} : PySem.W.kitOne K (.type "int") (.type "bool") = some false := kit_ty (by decide +kernel)
theorem kt_int_int {K : PySem.W.Frag} : PySem.W.kitOne K (.type "int") (.type "int") = some true := kit_ty (by decide +kernel)
theorem kt_int_str {K : PySem.W.Frag} : PySem.W.kitOne K (.type "int") (.type "str") = some false := kit_ty (by decide +kernel)
theorem kt_str_tuple {K : PySem.W.Frag} : PySem.W.kitOne K (.type "str") (.type "tuple") = some false := kit_ty (by decide +kernel)
theorem kt_str_bool {K : PySem.W.Frag} : PySem.W.kitOne K (.type "str") (.type "bool") = some false := kit_ty (by decide +kernel)
theorem kt_str_int {K : PySem.W.Frag} : PySem.W.kitOne K (.type "str") (.type "int") = some false := kit_ty (by decide +kernel)
theorem kt_str_str {K : PySem.W.Frag} : PySem.W.kitOne K (.type "str") (.type "str") = some true := kit_ty (by decide +kernel)
theorem kt_tuple_tuple {K : PySem.W.Frag} : PySem.W.kitOne K (.type "tuple") (.type "tuple") = some true := kit_ty (by decide +kernel)
theorem kt_tuple_bool {K : PySem.W.Frag} : PySem.W.kitOne K (.type "tuple") (.type "bool") = some false := kit_ty (by decide +kernel)
theorem kt_tuple_int {K : PySem.W.Frag} : PySem.W.kitOne K (.type "tuple") (.type "int") = some false := kit_ty (by decide +kernel)
theorem kt_tuple_str {K : PySem.W.Frag} : PySem.W.kitOne K (.type "tuple") (.type "str") = some false := kit_ty (by decide +kernel)
def isTup : PyData → Bool
  | .tuple _ => true
  | _ => false
def isBool : PyData → Bool
  | .bool _ => true
  | _ => false
def isInt : PyData → Bool
  | .int _ => true
  | .bool _ => true
  | _ => false
def isStr : PyData → Bool
  | .str _ => true
  | _ => false
/-- f: what isinstance(x, ty) answers -/
def IsT (ty : String) (f : PyData → Bool) : Prop := ∀ (K : PySem.W.Frag) (d : PyData), noL d = true → PySem.W.kitOne K (.type (tyN d)) (.type ty) = some (f d)
theorem isT_tuple : IsT "tuple" isTup := fun K d n => by
  cases d with
  | none => exact kt_NoneType_tuple
  | bool _ => exact kt_bool_tuple
  | int _ => exact kt_int_tuple
  | str _ => exact kt_str_tuple
  | tuple _ => exact kt_tuple_tuple
  | list _ => simp [noL] at n
  | dict _ => simp [noL] at n
theorem isT_bool : IsT "bool" isBool := fun K d n => by
  cases d with
  | none => exact kt_NoneType_bool
  | bool _ => exact kt_bool_bool
  | int _ => exact kt_int_bool
  | str _ => exact kt_str_bool
  | tuple _ => exact kt_tuple_bool
  | list _ => simp [noL] at n
  | dict _ => simp [noL] at n
theorem isT_int : IsT "int" isInt := fun K d n => by
  cases d with
  | none => exact kt_NoneType_int
  | bool _ => exact kt_bool_int
  | int _ => exact kt_int_int
  | str _ => exact kt_str_int
  | tuple _ => exact kt_tuple_int
  | list _ => simp [noL] at n
  | dict _ => simp [noL] at n
theorem isT_str : IsT "str" isStr := fun K d n => by
  cases d with
  | none => exact kt_NoneType_str
  | bool _ => exact kt_bool_str
  | int _ => exact kt_int_str
  | str _ => exact kt_str_str
  | tuple _ => exact kt_tuple_str
  | list _ => simp [noL] at n
  | dict _ => simp [noL] at n
def dIsi (f : PyData → Bool) (m : MM PyData) : MM PyData := bindM m fun d => pureM (.bool (f d))
theorem qd_isi {p : Pos} {ty : String} {f : PyData → Bool} {m : MM PyData} (i : IsT ty f) (h : QD T X W a m) (hb : PE X b (tC (.ty ty))) (hg : Gl X "isinstance") (hm : X.mg "isinstance" = none)
    (hs : starEach [a, b] X.env = (false, eval a X.env) :: starEach [b] X.env := by rfl) (hs2 : starEach [b] X.env = (false, eval b X.env) :: starEach [] X.env := by rfl) (hpl : (backTo pos (starEach [b] X.env)).any (·.1) = false := by rfl) :
    QD T X W (.Call (.Name "isinstance" p) [a, b] [] pos) (dIsi f m) := by
  obtain ⟨t, ht, q⟩ := h.ex
  refine ⟨_, pe_callB call_isi hg hm (by decide +kernel) (pa_cons ht (pa_cons hb pa_nil hs2) hs) (he := hs) (hpl := hpl), fun σ H ρ F r Q E n hmm k => ?_⟩
  unfold dIsi bindM at hmm
  cases hd : m ρ with
  | none => rw [hd] at hmm; cases hmm
  | some r1 =>
    rw [hd] at hmm
    refine q σ H ρ F r1 _ E n hd ?_
    cases r1 with
    | er c fs ρ1 => cases hmm; exact k
    | ok d ρ1 =>
      intro v H' F' dp nl E' n' mv
      cases hmm
      exact ⟨v, .ty ty, .type (tyN d), .type ty, f d, rfl, .ty ty, tyX_of dp nl, i X.K d nl, k _ H' F' (.bl _) rfl E' n' mv⟩
end
/-! ### targets -/
inductive Pt where
  | nm (i : Nat)
  | tp (ps : List Pt)
mutual
def bindP : Pt → PyData → Env' → Option Env'
  | .nm i, d, ρ => some (ρ.set i (some (.imm d)))
  | .tp ps, .tuple ds, ρ => bindPs ps ds ρ
  | .tp _, _, _ => none
def bindPs : List Pt → List PyData → Env' → Option Env'
  | [], [], ρ => some ρ
  | p :: ps, d :: ds, ρ => (bindP p d ρ).bind fun ρ' => bindPs ps ds ρ'
  | _, _, _ => none
end
section
variable {T : Tb} {S : List Nat} {X : Cx} {W : WXk} {e a b c : Expr} {es rest : List Expr} {st : Stmt} {sts : List Stmt} {pos p2 : Pos}
theorem Stb.refl (σ : L2.St) : Stb S σ σ := fun _ _ => rfl
theorem Stb.trans {σ σ1 σ2 : L2.St} (a : Stb S σ σ1) (b : Stb S σ1 σ2) : Stb S σ σ2 := fun i hi => (b i hi).trans (a i hi)
theorem Stb.set {σ : L2.St} {i : Nat} {o : Option V} (h : i ∉ S) : Stb S σ (σ.set i o) := fun j hj => by
  rw [List.getElem?_set_ne]
  intro e
  subst e
  exact h hj
theorem Stb.sub {S' : List Nat} {σ σ1 : L2.St} (a : Stb S' σ σ1) (h : ∀ i ∈ S, i ∈ S') : Stb S σ σ1 := fun i hi => a i (h i hi)
structure QG (T : Tb) (S : List Nat) (X : Cx) (tg : Expr) (p : Pt) : Prop where
  ex : ∃ g : TG, PG X tg g ∧ ∀ (v : V) (σ : L2.St) (H : Hp) (ρ ρ' : Env') (F : List Addr) (d : PyData) (Q : L2.St → Hp → Prop), EnvR X.K T H σ ρ F → F.Nodup → Dq X.K H v d → noL d = true → bindP p d ρ = some ρ' →
    (∀ σ' F', Stb S σ σ' → EnvR X.K T H σ' ρ' F' → F'.Nodup → (∀ b ∈ F', b ∈ F) → Q σ' H) → g v σ H Q
structure QGs (T : Tb) (S : List Nat) (X : Cx) (tgs : List Expr) (ps : List Pt) : Prop where
  ex : ∃ g : TGs, PGs X tgs g ∧ ∀ (vs : List V) (σ : L2.St) (H : Hp) (ρ ρ' : Env') (F : List Addr) (ds : List PyData) (Q : L2.St → Hp → Prop), EnvR X.K T H σ ρ F → F.Nodup → DqAll X.K H vs ds → noLs ds = true → bindPs ps ds ρ = some ρ' →
    (∀ σ' F', Stb S σ σ' → EnvR X.K T H σ' ρ' F' → F'.Nodup → (∀ b ∈ F', b ∈ F) → Q σ' H) → g vs σ H Q
theorem qg_nm {i : Nat} (h : PG X a (gName i)) (hi : i ∉ S := by decide) : QG T S X a (.nm i) := by
  refine ⟨_, h, fun v σ H ρ ρ' F d Q E n dp nl hb k => ?_⟩
  simp only [bindP] at hb
  cases hb
  obtain ⟨F', h1, h2, h3⟩ := E.set i (.imm dp nl) n
  exact k _ F' (Stb.set hi) h1 h2 h3
theorem qgs_nil : QGs T S X [] [] := by
  refine ⟨_, pgs_nil, fun vs σ H ρ ρ' F ds Q E n dp nl hb k => ?_⟩
  cases ds with
  | nil =>
    simp only [bindPs] at hb
    cases hb
    cases dp
    exact ⟨rfl, k σ F (Stb.refl σ) E n fun _ h => h⟩
  | cons _ _ => simp [bindPs] at hb
theorem qgs_cons {p : Pt} {ps : List Pt} (h : QG T S X a p) (h2 : QGs T S X es ps) (hs : (assignEach (a :: es) X.env).map (·.2) = assign a X.env :: (assignEach es X.env).map (·.2) := by rfl) : QGs T S X (a :: es) (p :: ps) := by
  obtain ⟨g, hg, q⟩ := h.ex
  obtain ⟨gs, hgs, q2⟩ := h2.ex
  refine ⟨_, pgs_cons hg hgs hs, fun vs σ H ρ ρ' F ds Q E n dp nl hb k => ?_⟩
  cases dp with
  | nil => simp [bindPs] at hb
  | cons d1 dr =>
    simp only [bindPs] at hb
    simp only [noLs, Bool.and_eq_true] at nl
    refine ⟨_, _, rfl, ?_⟩
    rename_i d ds
    cases hb1 : bindP p d ρ with
    | none => rw [hb1] at hb; cases hb
    | some ρ1 =>
      rw [hb1] at hb
      refine q _ σ H ρ ρ1 F d _ E n d1 nl.1 hb1 fun σ1 F1 s1 E1 n1 f1 => ?_
      exact q2 _ σ1 H ρ1 ρ' F1 ds Q E1 n1 dr nl.2 hb fun σ2 F2 s2 E2 n2 f2 => k σ2 F2 (s1.trans s2) E2 n2 fun b hb => f1 b (f2 b hb)
theorem qg_tp {k : Nat} {ps : List Pt} {n : Nat} (hc : X.calm = true) (h : QGs T S X es ps) (hl : ps.length = n := by rfl) (hn : (assignEach es X.env).length = n := by rfl) (hst : (assignEach es X.env).findIdx? (·.1) = none := by rfl) : QG T S X (.Tuple es k pos) (.tp ps) := by
  obtain ⟨gs, hgs, q⟩ := h.ex
  refine ⟨_, pg_tup hc hgs hn hst, fun v σ H ρ ρ' F d Q E nd dp nl hb k => ?_⟩
  cases d with
  | tuple ds =>
    obtain ⟨a, xs, rfl, s, al⟩ := dp_tupX dp
    simp only [bindP] at hb
    have len : ∀ (ps : List Pt) (ds : List PyData) (ρ ρ' : Env'), bindPs ps ds ρ = some ρ' → ds.length = ps.length := by
      intro ps
      induction ps with
      | nil =>
        intro ds ρ ρ' h
        cases ds with
        | nil => rfl
        | cons _ _ => simp [bindPs] at h
      | cons p ps ih =>
        intro ds ρ ρ' h
        cases ds with
        | nil => simp [bindPs] at h
        | cons d ds =>
          simp only [bindPs] at h
          cases hb1 : bindP p d ρ with
          | none => rw [hb1] at h; cases h
          | some ρ1 =>
            rw [hb1] at h
            rw [List.length_cons, List.length_cons, ih ds ρ1 ρ' h]
    refine ⟨a, xs, rfl, s.sq, by rw [dpAll_len al, len _ _ _ _ hb, hl], ?_⟩
    exact q xs σ H ρ ρ' F ds Q E nd al (by simpa [noL] using nl) hb k
  | _ => simp [bindP] at hb
/-! ### statements -/
def sSetD (i : Nat) (m : MM PyData) : MM Fl := bindM m fun d ρ => some (.ok .nx (ρ.set i (some (.imm d))))
def sSet (i : Nat) (m : MM M) : MM Fl := bindM m fun x ρ => some (.ok .nx (ρ.set i (some x)))
theorem qs_setD {i : Nat} {m : MM PyData} (mk : ∀ te, PE X e te → PS X st (tAsg te (gName i))) (h : QD T X W e m) (hi : i ∉ S := by decide) : QS T S X W st (sSetD i m) := by
  obtain ⟨t, ht, q⟩ := h.ex
  refine ⟨_, mk t ht, fun σ H ρ F r D E n hm k => ?_⟩
  unfold sSetD bindM at hm
  cases hd : m ρ with
  | none => rw [hd] at hm; cases hm
  | some r1 =>
    rw [hd] at hm
    refine q σ H ρ F r1 _ E n hd ?_
    cases r1 with
    | er c fs ρ1 =>
      cases hm
      exact fun d H' F' xd E' n' mv => k σ d H' F' (Stb.refl σ) xd E' n' mv
    | ok d ρ1 =>
      cases hm
      intro v H' F' dp nl E' n' mv
      obtain ⟨F2, h1, h2, h3⟩ := E'.set i (.imm dp nl) n'
      exact k _ H' F2 (Stb.set hi) h1 h2 (mv.sub h3)
theorem qs_set {i : Nat} {m : MM M} (mk : ∀ te, PE X e te → PS X st (tAsg te (gName i))) (h : QX T X W e m) (hi : i ∉ S := by decide) : QS T S X W st (sSet i m) := by
  obtain ⟨t, ht, q⟩ := h.ex
  refine ⟨_, mk t ht, fun σ H ρ F r D E n hm k => ?_⟩
  unfold sSet bindM at hm
  cases hd : m ρ with
  | none => rw [hd] at hm; cases hm
  | some r1 =>
    rw [hd] at hm
    refine q σ H ρ F r1 _ E n hd ?_
    cases r1 with
    | er c fs ρ1 =>
      cases hm
      exact fun d H' F' xd E' n' mv => k σ d H' F' (Stb.refl σ) xd E' n' mv
    | ok d ρ1 =>
      cases hm
      intro v H' f F' rp E' n' mv
      obtain ⟨F2, h1, h2, h3⟩ := E'.set i rp n'
      exact k _ H' F2 (Stb.set hi) h1 h2 (mv.sub h3)
/-- a, b = a tuple -/
def sPat (p : Pt) (m : MM PyData) : MM Fl := bindM m fun d ρ => (bindP p d ρ).map fun ρ' => .ok .nx ρ'
theorem qs_pat {p : Pt} {m : MM PyData} {tg : Expr} (mk : ∀ te g, PE X e te → PG X tg g → PS X st (tAsg te g)) (h : QD T X W e m) (hg : QG T S X tg p) : QS T S X W st (sPat p m) := by
  obtain ⟨t, ht, q⟩ := h.ex
  obtain ⟨g, hg', qg⟩ := hg.ex
  refine ⟨_, mk t g ht hg', fun σ H ρ F r D E n hm k => ?_⟩
  unfold sPat bindM at hm
  cases hd : m ρ with
  | none => rw [hd] at hm; cases hm
  | some r1 =>
    rw [hd] at hm
    refine q σ H ρ F r1 _ E n hd ?_
    cases r1 with
    | er c fs ρ1 =>
      cases hm
      exact fun d H' F' xd E' n' mv => k σ d H' F' (Stb.refl σ) xd E' n' mv
    | ok d ρ1 =>
      intro v H' F' dp nl E' n' mv
      dsimp only at hm
      cases hb : bindP p d ρ1 with
      | none => rw [hb] at hm; cases hm
      | some ρ2 =>
        rw [hb] at hm
        cases hm
        exact qg v σ H' ρ1 ρ2 F' d _ E' n' dp nl hb fun σ2 F2 s2 E2 n2 f2 => k σ2 H' F2 s2 E2 n2 (mv.sub f2)
def sRetD (m : MM PyData) : MM Fl := bindM m fun d => pureM (.rt (.imm d))
def sRet (m : MM M) : MM Fl := bindM m fun x => pureM (.rt x)
theorem qs_retD {m : MM PyData} (h : QD T X W e m) : QS T S X W (.Return (some e) pos) (sRetD m) := by
  obtain ⟨t, ht, q⟩ := h.ex
  refine ⟨_, ps_ret ht, fun σ H ρ F r D E n hm k => ?_⟩
  unfold sRetD bindM at hm
  cases hd : m ρ with
  | none => rw [hd] at hm; cases hm
  | some r1 =>
    rw [hd] at hm
    refine q σ H ρ F r1 _ E n hd ?_
    cases r1 with
    | er c fs ρ1 =>
      cases hm
      exact fun d H' F' xd E' n' mv => k σ d H' F' (Stb.refl σ) xd E' n' mv
    | ok d ρ1 =>
      cases hm
      exact fun v H' F' dp nl E' n' mv => k v σ H' [] F' (Stb.refl σ) (.imm dp nl) E' n' mv
theorem qs_ret {m : MM M} (h : QX T X W e m) : QS T S X W (.Return (some e) pos) (sRet m) := by
  obtain ⟨t, ht, q⟩ := h.ex
  refine ⟨_, ps_ret ht, fun σ H ρ F r D E n hm k => ?_⟩
  unfold sRet bindM at hm
  cases hd : m ρ with
  | none => rw [hd] at hm; cases hm
  | some r1 =>
    rw [hd] at hm
    refine q σ H ρ F r1 _ E n hd ?_
    cases r1 with
    | er c fs ρ1 =>
      cases hm
      exact fun d H' F' xd E' n' mv => k σ d H' F' (Stb.refl σ) xd E' n' mv
    | ok d ρ1 =>
      cases hm
      exact fun v H' f F' rp E' n' mv => k v σ H' f F' (Stb.refl σ) rp E' n' mv
/-- a local's list is handed out -/
def sRetV (i : Nat) : MM Fl := fun ρ => match ρ[i]? with
  | some (some x) => some (.ok (.rt x) (ρ.set i (some .hol)))
  | _ => none
theorem qs_retV {i : Nat} (h : PE X e (tVar i)) : QS T S X W (.Return (some e) pos) (sRetV i) := by
  refine ⟨_, ps_ret h, fun σ H ρ F r D E n hm k => ?_⟩
  unfold sRetV at hm
  split at hm
  · rename_i x hx
    cases hm
    obtain ⟨v, f, F', h1, h2, h3, h4⟩ := E.take hx
    exact ⟨v, h1, k v σ H f F' (Stb.refl σ) h2 h3 (h4.nodup_iff.mpr n) (Mv.refl fun b hb => h4.mem_iff.mp hb)⟩
  · cases hm
def sRetN : MM Fl := pureM (.rt (.imm .none))
theorem qs_retN : QS T S X W (.Return none pos) sRetN := by
  refine ⟨_, ps_retN, fun σ H ρ F r D E n hm k => ?_⟩
  cases hm
  exact k .non σ H [] F (Stb.refl σ) (.imm .non rfl) E n (Mv.refl fun _ h => h)
def sDrop (m : MM M) : MM Fl := bindM m fun _ => pureM .nx
theorem qs_expr {m : MM M} (h : QX T X W e m) (hs : swapsWith e none pos.line X.env = pure false := by rfl) : QS T S X W (.Expr e pos) (sDrop m) := by
  obtain ⟨t, ht, q⟩ := h.ex
  refine ⟨_, ps_expr ht hs, fun σ H ρ F r D E n hm k => ?_⟩
  unfold sDrop bindM at hm
  cases hd : m ρ with
  | none => rw [hd] at hm; cases hm
  | some r1 =>
    rw [hd] at hm
    refine q σ H ρ F r1 _ E n hd ?_
    cases r1 with
    | er c fs ρ1 =>
      cases hm
      exact fun d H' F' xd E' n' mv => k σ d H' F' (Stb.refl σ) xd E' n' mv
    | ok d ρ1 =>
      cases hm
      exact fun v H' f F' rp E' n' mv => k σ H' F' (Stb.refl σ) E' (List.nodup_append.mp n').2.1 (mv.sub fun _ h => List.mem_append_right _ h)
theorem qs_never : QS T S X W st (fun _ => none) := ⟨_, ps_never, fun σ H ρ F r D E n hm k => by cases hm⟩
theorem qs_pass : QS T S X W (.Pass pos) (pureM .nx) := ⟨_, ps_pass, fun σ H ρ F r D E n hm k => by
  cases hm
  exact k σ H F (Stb.refl σ) E n (Mv.refl fun _ h => h)⟩
theorem qs_break : QS T S X W (.Break pos) (pureM .bk) := ⟨_, ps_break, fun σ H ρ F r D E n hm k => by
  cases hm
  exact k σ H F (Stb.refl σ) E n (Mv.refl fun _ h => h)⟩
theorem qs_cont : QS T S X W (.Continue pos) (pureM .ct) := ⟨_, ps_continue, fun σ H ρ F r D E n hm k => by
  cases hm
  exact k σ H F (Stb.refl σ) E n (Mv.refl fun _ h => h)⟩
/-- from further on -/
theorem GoS.from {K : PySem.W.Frag} {D : Ends} {H H' : Hp} {F F' : List Addr} {σ σ' : L2.St} {r : Rs Env' Fl} (k : GoS K T S W D H F σ r) (s : Stb S σ σ') (m : Mv F H F' H') : GoS K T S W D H' F' σ' r := by
  cases r with
  | er c fs ρ => exact fun σ2 d H2 F2 s2 xd E2 n2 m2 => k σ2 d H2 F2 (s.trans s2) xd E2 n2 (m.trans m2)
  | ok f ρ =>
    cases f with
    | nx => exact fun σ2 H2 F2 s2 E2 n2 m2 => k σ2 H2 F2 (s.trans s2) E2 n2 (m.trans m2)
    | bk => exact fun σ2 H2 F2 s2 E2 n2 m2 => k σ2 H2 F2 (s.trans s2) E2 n2 (m.trans m2)
    | ct => exact fun σ2 H2 F2 s2 E2 n2 m2 => k σ2 H2 F2 (s.trans s2) E2 n2 (m.trans m2)
    | rt x => exact fun v σ2 H2 f F2 s2 rp E2 n2 m2 => k v σ2 H2 f F2 (s.trans s2) rp E2 n2 (m.trans m2)
/-- one after the other -/
def seqM (m k : MM Fl) : MM Fl := bindM m fun f => match f with
  | .nx => k
  | f => pureM f
def endM : MM Fl := pureM .nx
theorem qss_nil : QSs T S X W [] endM := ⟨_, pss_nil, fun σ H ρ F r D E n hm k => by
  cases hm
  exact k σ H F (Stb.refl σ) E n (Mv.refl fun _ h => h)⟩
theorem qss_one {m : MM Fl} (h : QS T S X W st m) : QSs T S X W [st] m := by
  obtain ⟨t, ht, q⟩ := h.ex
  exact ⟨t, pss_one ht, q⟩
theorem qss_cons {m k : MM Fl} (h : QS T S X W st m) (h2 : QSs T S X W sts k) : QSs T S X W (st :: sts) (seqM m k) := by
  obtain ⟨t, ht, q⟩ := h.ex
  obtain ⟨u, hu, q2⟩ := h2.ex
  refine ⟨_, pss_cons ht hu, fun σ H ρ F r D E n hm kk => ?_⟩
  unfold seqM bindM at hm
  cases hd : m ρ with
  | none => rw [hd] at hm; cases hm
  | some r1 =>
    rw [hd] at hm
    refine q σ H ρ F r1 _ E n hd ?_
    cases r1 with
    | er c fs ρ1 => cases hm; exact kk
    | ok f ρ1 =>
      cases f with
      | nx => exact fun σ1 H1 F1 s1 E1 n1 m1 => q2 σ1 H1 ρ1 F1 r D E1 n1 hm (kk.from s1 m1)
      | bk => cases hm; exact kk
      | ct => cases hm; exact kk
      | rt x => cases hm; exact kk
theorem qs_if {sa sb : List Stmt} {tm : MM Bool} {m k : MM Fl} (hc : QT T X W c tm) (ha : QSs T S X W sa m) (hb : QSs T S X W sb k) : QS T S X W (.If c sa sb pos) (ifM tm m k) := by
  obtain ⟨t, h1, q1⟩ := hc.ex
  obtain ⟨ta, h2, q2⟩ := ha.ex
  obtain ⟨tb, h3, q3⟩ := hb.ex
  refine ⟨_, ps_if h1 h2 h3, fun σ H ρ F r D E n hm kk => ?_⟩
  unfold ifM bindM at hm
  cases hd : tm ρ with
  | none => rw [hd] at hm; cases hm
  | some r1 =>
    rw [hd] at hm
    refine q1 σ H ρ F r1 _ E n hd ?_
    cases r1 with
    | er c fs ρ1 =>
      cases hm
      exact fun d H' F' xd E' n' mv => kk σ d H' F' (Stb.refl σ) xd E' n' mv
    | ok b ρ1 =>
      intro H1 F1 E1 n1 m1
      cases b with
      | true => exact q2 σ H1 ρ1 F1 r D E1 n1 hm (kk.from (Stb.refl σ) m1)
      | false => exact q3 σ H1 ρ1 F1 r D E1 n1 hm (kk.from (Stb.refl σ) m1)
/-- x += e, x an int -/
def sAug (i : Nat) (o : PyData → PyData → Option PyData) (m : MM PyData) : MM Fl := fun ρ => match eV i ρ with
  | some x => bindM m (fun y ρ1 => (o x y).map fun z => .ok .nx (ρ1.set i (some (.imm z)))) ρ
  | none => none
def SndA (K : PySem.W.Frag) (r : TIp) (o : PyData → PyData → Option PyData) : Prop :=
  ∀ (H : Hp) (x y : V) (p q z : PyData) (Q : VK), Dq K H x p → noL p = true → Dq K H y q → noL q = true → o p q = some z → (∀ v H', Same H H' → Dq K H' v z → noL z = true → Q v H') → r x y H Q
theorem qs_aug {i : Nat} {ti : TIp} {o : PyData → PyData → Option PyData} {m : MM PyData} (s : SndA X.K ti o) (mk : ∀ te, PE X e te → PS X st (tAug i te ti)) (h : QD T X W e m) (hi : i ∉ S := by decide) : QS T S X W st (sAug i o m) := by
  obtain ⟨t, ht, q⟩ := h.ex
  refine ⟨_, mk t ht, fun σ H ρ F r D E n hm k => ?_⟩
  unfold sAug at hm
  cases hx : eV i ρ with
  | none => rw [hx] at hm; cases hm
  | some x =>
    rw [hx] at hm
    have hx' : ρ[i]? = some (some (.imm x)) := by
      unfold eV pE eP at hx
      cases hg : ρ[i]? with
      | none => rw [hg] at hx; cases hx
      | some o =>
        rw [hg] at hx
        cases o with
        | none => cases hx
        | some y =>
          cases y with
          | imm d => cases hx; rfl
          | _ => cases hx
    obtain ⟨v0, f0, g1, g2, _⟩ := E.get hx'
    cases g2 with
    | imm dp0 nl0 =>
    refine ⟨v0, g1, ?_⟩
    dsimp only at hm
    unfold bindM at hm
    cases hd : m ρ with
    | none => rw [hd] at hm; cases hm
    | some r1 =>
      rw [hd] at hm
      refine q σ H ρ F r1 _ E n hd ?_
      cases r1 with
      | er c fs ρ1 =>
        cases hm
        exact fun d H' F' xd E' n' mv => k σ d H' F' (Stb.refl σ) xd E' n' mv
      | ok y ρ1 =>
        intro v H' F' dp nl E' n' mv
        dsimp only at hm
        cases hz : o x y with
        | none => rw [hz] at hm; cases hm
        | some z =>
          rw [hz] at hm
          cases hm
          refine s H' v0 v x y z _ (dp_keepX (mv.c.kp (g := []) E.wr (fun _ h => nomatch h)).x nl0 dp0) nl0 dp nl hz fun w H2 s2 dz nz => ?_
          obtain ⟨F2, h1, h2, h3⟩ := (E'.same s2).set i (.imm dz nz) n'
          exact k _ H2 F2 (Stb.set hi) h1 h2 (mv.trans (Mv.same s2 h3))
theorem snd_ipadd {K : PySem.W.Frag} : SndA K (ipI fun i j => i + j) (oI fun a b => some (.int (a + b))) := by
  intro H x y p q z Q dx nx dy ny h k
  cases p with
  | int a =>
    cases q with
    | int b =>
      cases h
      cases dx
      cases dy
      exact ⟨a, b, rfl, rfl, k _ H (Same.refl H) (.int _) rfl⟩
    | _ => cases h
  | _ => cases h
theorem snd_ipsub {K : PySem.W.Frag} : SndA K (ipI fun i j => i - j) (oI fun a b => some (.int (a - b))) := by
  intro H x y p q z Q dx nx dy ny h k
  cases p with
  | int a =>
    cases q with
    | int b =>
      cases h
      cases dx
      cases dy
      exact ⟨a, b, rfl, rfl, k _ H (Same.refl H) (.int _) rfl⟩
    | _ => cases h
  | _ => cases h
end
/-! ### loops -/
structure ItOk (K : PySem.W.Frag) (J : It) (items : List PyData) (G : Hp → Prop) : Prop where
  go : ∀ i H, G H → i < items.length → J.go i H
  yld : ∀ i H x H', G H → i < items.length → J.yld i H x H' → ∃ d, items[i]? = some d ∧ Dq K H' x d ∧ noL d = true ∧ Same H H'
  stop : ∀ i H, G H → i = items.length → J.stop i H
structure QI (T : Tb) (X : Cx) (W : WXk) (tg e : Expr) (m : MM (List PyData)) : Prop where
  ex : ∃ wi : TI, PI X tg e wi ∧ ∀ (σ : L2.St) (H : Hp) (ρ : Env') (F : List Addr) (r : Rs Env' (List PyData)) (R : It → Hp → Prop), EnvR X.K T H σ ρ F → F.Nodup → m ρ = some r →
    (match r with
      | .ok items ρ1 => ∀ (J : It) (H' : Hp) (fp F' : List Addr) (G : Hp → Prop), ItOk X.K J items G → (∀ H1 H2, Kp T fp H1 H2 → G H1 → G H2) → G H' → WrA T H' fp → EnvR X.K T H' σ ρ1 F' → (fp ++ F').Nodup → Mv F H (fp ++ F') H' → R J H'
      | .er c fs ρ1 => XOk X.K T W H F σ c fs ρ1) → wi σ H R
def loopM (p : Pt) (mb : MM Fl) : List PyData → MM Fl
  | [] => pureM .nx
  | d :: ds => fun ρ => match bindP p d ρ with
    | none => none
    | some ρ1 => match mb ρ1 with
      | none => none
      | some (.ok .nx ρ2) => loopM p mb ds ρ2
      | some (.ok .ct ρ2) => loopM p mb ds ρ2
      | some (.ok .bk ρ2) => some (.ok .nx ρ2)
      | some (.ok (.rt x) ρ2) => some (.ok (.rt x) ρ2)
      | some (.er c fs ρ2) => some (.er c fs ρ2)
def forM (p : Pt) (m : MM (List PyData)) (mb : MM Fl) : MM Fl := bindM m fun items => loopM p mb items
def whileM (tm : MM Bool) (mb : MM Fl) : Nat → MM Fl
  | 0 => fun _ => none
  | n + 1 => bindM tm fun b => if b then (fun ρ => match mb ρ with
      | none => none
      | some (.ok .nx ρ2) => whileM tm mb n ρ2
      | some (.ok .ct ρ2) => whileM tm mb n ρ2
      | some (.ok .bk ρ2) => some (.ok .nx ρ2)
      | some (.ok (.rt x) ρ2) => some (.ok (.rt x) ρ2)
      | some (.er c fs ρ2) => some (.er c fs ρ2)) else pureM .nx
section
variable {T : Tb} {S S' : List Nat} {X : Cx} {W : WXk} {e a b c tg : Expr} {es rest : List Expr} {st : Stmt} {sts body : List Stmt} {pos p2 : Pos}
theorem wrA_mv {H H' : Hp} {f F F' : List Addr} (w : WrA T H f) (m : Mv F H F' H') (d : ∀ b ∈ f, b ∉ F) : WrA T H' f := fun b hb => by
  obtain ⟨o, h, q⟩ := w b hb
  exact ⟨o, m.c b o h (d b hb), q⟩
theorem nodup_mv {K : PySem.W.Frag} {H H' : Hp} {f F F' : List Addr} {σ : L2.St} {ρ : Env'} (n : (f ++ F).Nodup) (n' : F'.Nodup) (m : Mv F H F' H') (w : WrA T H f) : (f ++ F').Nodup := by
  rw [List.nodup_append] at n ⊢
  refine ⟨n.1, n', fun b hb c hc e => ?_⟩
  subst e
  rcases m.n b hc with z | z
  · exact n.2.2 b hb b z rfl
  · obtain ⟨o, h, _⟩ := w b hb
    rw [z] at h
    cases h
theorem mv_frame {H H' : Hp} {f F F' : List Addr} (m : Mv F H F' H') : Mv (f ++ F) H (f ++ F') H' :=
  ⟨fun b o h n => m.c b o h fun z => n (List.mem_append_right _ z), fun b hb => (List.mem_append.mp hb).elim (fun z => .inl (List.mem_append_left _ z)) fun z => (m.n b z).elim (fun y => .inl (List.mem_append_right _ y)) .inr⟩
theorem qs_for {p : Pt} {m : MM (List PyData)} {mb : MM Fl} (mk : ∀ wi g tb, PI X tg e wi → PG X tg g → PSs X body tb → PS X st (tFor wi g tb)) (hi : QI T X W tg e m) (hg : QG T S X tg p) (hb : QSs T S X W body mb) : QS T S X W st (forM p m mb) := by
  obtain ⟨wi, h1, q1⟩ := hi.ex
  obtain ⟨g, h2, q2⟩ := hg.ex
  obtain ⟨tb, h3, q3⟩ := hb.ex
  refine ⟨_, mk wi g tb h1 h2 h3, fun σ H ρ F r D E n hm k => ?_⟩
  unfold forM bindM at hm
  cases hd : m ρ with
  | none => rw [hd] at hm; cases hm
  | some r1 =>
    rw [hd] at hm
    refine q1 σ H ρ F r1 _ E n hd ?_
    cases r1 with
    | er c fs ρ1 =>
      cases hm
      exact fun d H' F' xd E' n' mv => k σ d H' F' (Stb.refl σ) xd E' n' mv
    | ok items ρ1 =>
      intro J H1 fp F1 G it gk g1 w1 E1 n1 m1
      refine ⟨fun i mm σ' H' => mm = items.length - i ∧ i ≤ items.length ∧ ∃ ρ' F', EnvR X.K T H' σ' ρ' F' ∧ (fp ++ F').Nodup ∧ G H' ∧ WrA T H' fp ∧ Stb S σ σ' ∧ Mv F H (fp ++ F') H' ∧ loopM p mb (items.drop i) ρ' = some r,
        ⟨_, rfl, Nat.zero_le _, ρ1, F1, E1, n1, g1, w1, Stb.refl σ, m1, hm⟩, ?_⟩
      rintro i mm σ2 H2 ⟨rfl, hle, ρ2, F2, E2, n2, g2, w2, s2, m2, hl⟩
      by_cases hlt : i < items.length
      · refine .inr ⟨it.go i H2 g2 hlt, fun σ3 H3 => ∃ ρ3 F3, EnvR X.K T H3 σ3 ρ3 F3 ∧ (fp ++ F3).Nodup ∧ G H3 ∧ WrA T H3 fp ∧ Stb S σ σ3 ∧ Mv F H (fp ++ F3) H3 ∧ loopM p mb (items.drop (i + 1)) ρ3 = some r,
          fun σ3 H3 h => ⟨items.length - (i + 1), by omega, rfl, hlt, h⟩, fun x H3 y => ?_⟩
        obtain ⟨d, hx, dp, nl, s3⟩ := it.yld i H2 x H3 g2 hlt y
        have hdr : items.drop i = d :: items.drop (i + 1) := by
          rw [List.drop_eq_getElem_cons hlt]
          rw [List.getElem?_eq_getElem hlt] at hx
          cases hx
          rfl
        rw [hdr] at hl
        simp only [loopM] at hl
        cases hbp : bindP p d ρ2 with
        | none => rw [hbp] at hl; cases hl
        | some ρ3 =>
          rw [hbp] at hl
          dsimp only at hl
          have n2' := (List.nodup_append.mp n2).2.1
          refine q2 x σ2 H3 ρ2 ρ3 F2 d _ (E2.same s3) n2' dp nl hbp fun σ4 F4 s4 E4 n4 f4 => ?_
          cases hmb : mb ρ3 with
          | none => rw [hmb] at hl; cases hl
          | some r4 =>
            rw [hmb] at hl
            have w3 : WrA T H3 fp := wrA_mv w2 (Mv.same (f := []) (f' := []) s3 fun _ h => h) (fun _ _ h => nomatch h)
            have n34 : (fp ++ F4).Nodup := by
              rw [List.nodup_append] at n2 ⊢
              exact ⟨n2.1, n4, fun b hb c hc => n2.2.2 b hb c (f4 c hc)⟩
            have m34 : Mv F H (fp ++ F4) H3 := m2.trans (Mv.same s3 fun b hb => (List.mem_append.mp hb).elim (List.mem_append_left _) fun z => List.mem_append_right _ (f4 b z))
            have dis : ∀ b ∈ fp, b ∉ F4 := fun b hb hf => (List.nodup_append.mp n34).2.2 b hb b hf rfl
            have g3 : G H3 := gk H2 H3 (Same.kp s3) g2
            have nxt : ∀ (σ5 : L2.St) (H5 : Hp) (F5 : List Addr) (ρ5 : Env'), Stb S σ4 σ5 → EnvR X.K T H5 σ5 ρ5 F5 → F5.Nodup → Mv F4 H3 F5 H5 → loopM p mb (items.drop (i + 1)) ρ5 = some r →
                ∃ ρ3 F3, EnvR X.K T H5 σ5 ρ3 F3 ∧ (fp ++ F3).Nodup ∧ G H5 ∧ WrA T H5 fp ∧ Stb S σ σ5 ∧ Mv F H (fp ++ F3) H5 ∧ loopM p mb (items.drop (i + 1)) ρ3 = some r :=
              fun σ5 H5 F5 ρ5 s5 E5 n5 m5 h5 => ⟨ρ5, F5, E5, nodup_mv (K := X.K) (σ := σ4) (ρ := ρ3) n34 n5 m5 w3, gk H3 H5 (m5.c.kp E4.wr dis) g3, wrA_mv w3 m5 dis, (s2.trans s4).trans s5, m34.trans (mv_frame m5), h5⟩
            have out : ∀ {F5 : List Addr} {H5 : Hp}, Mv F4 H3 F5 H5 → Mv F H F5 H5 := fun {F5 H5} m5 => (m34.trans (mv_frame m5)).sub fun _ h => List.mem_append_right _ h
            refine q3 σ4 H3 ρ3 F4 r4 _ E4 n4 hmb ?_
            cases r4 with
            | er c fs ρ5 =>
              cases hl
              exact fun σ5 d5 H5 F5 s5 xd E5 n5 m5 => k σ5 d5 H5 F5 ((s2.trans s4).trans s5) xd E5 n5 (out m5)
            | ok f ρ5 =>
              cases f with
              | nx => exact fun σ5 H5 F5 s5 E5 n5 m5 => nxt σ5 H5 F5 ρ5 s5 E5 n5 m5 hl
              | ct => exact fun σ5 H5 F5 s5 E5 n5 m5 => nxt σ5 H5 F5 ρ5 s5 E5 n5 m5 hl
              | bk =>
                cases hl
                exact fun σ5 H5 F5 s5 E5 n5 m5 => k σ5 H5 F5 ((s2.trans s4).trans s5) E5 n5 (out m5)
              | rt z =>
                cases hl
                exact fun v σ5 H5 f5 F5 s5 rp E5 n5 m5 => k v σ5 H5 f5 F5 ((s2.trans s4).trans s5) rp E5 n5 (out m5)
      · have e : i = items.length := by omega
        refine .inl ⟨it.stop i H2 g2 e, ?_⟩
        subst e
        rw [List.drop_length] at hl
        cases hl
        exact k σ2 H2 F2 s2 E2 (List.nodup_append.mp n2).2.1 (m2.sub fun _ h => List.mem_append_right _ h)
theorem qs_while {fuel : Nat} {tm : MM Bool} {mb : MM Fl} (mk : ∀ tc tb, PT X c tc → PSs X body tb → PS X st (tWhile tc tb)) (hc : QT T X W c tm) (hb : QSs T S X W body mb) : QS T S X W st (whileM tm mb fuel) := by
  obtain ⟨tc, h1, q1⟩ := hc.ex
  obtain ⟨tb, h2, q2⟩ := hb.ex
  refine ⟨_, mk tc tb h1 h2, fun σ H ρ F r D E n hm k => ?_⟩
  refine ⟨fun mm σ' H' => ∃ ρ' F', EnvR X.K T H' σ' ρ' F' ∧ F'.Nodup ∧ Stb S σ σ' ∧ Mv F H F' H' ∧ whileM tm mb mm ρ' = some r, ⟨fuel, ρ, F, E, n, Stb.refl σ, Mv.refl fun _ h => h, hm⟩, ?_⟩
  rintro mm σ1 H1 ⟨ρ1, F1, E1, n1, s1, m1, hw⟩
  cases mm with
  | zero => cases hw
  | succ mm =>
    simp only [whileM] at hw
    unfold bindM at hw
    cases ht : tm ρ1 with
    | none => rw [ht] at hw; cases hw
    | some r2 =>
      rw [ht] at hw
      refine q1 σ1 H1 ρ1 F1 r2 _ E1 n1 ht ?_
      cases r2 with
      | er c fs ρ2 =>
        cases hw
        exact fun d H' F' xd E' n' mv => k σ1 d H' F' s1 xd E' n' (m1.trans mv)
      | ok b ρ2 =>
        intro H2 F2 E2 n2 m2
        cases b with
        | false =>
          cases hw
          exact k σ1 H2 F2 s1 E2 n2 (m1.trans m2)
        | true =>
          refine ⟨fun σ' H' => ∃ ρ' F', EnvR X.K T H' σ' ρ' F' ∧ F'.Nodup ∧ Stb S σ σ' ∧ Mv F H F' H' ∧ whileM tm mb mm ρ' = some r, fun σ' H' h => ⟨mm, Nat.lt_succ_self _, h⟩, ?_⟩
          dsimp only at hw
          rw [if_pos rfl] at hw
          cases hmb : mb ρ2 with
          | none => rw [hmb] at hw; cases hw
          | some r4 =>
            rw [hmb] at hw
            refine q2 σ1 H2 ρ2 F2 r4 _ E2 n2 hmb ?_
            cases r4 with
            | er c fs ρ5 =>
              cases hw
              exact fun σ5 d5 H5 F5 s5 xd E5 n5 m5 => k σ5 d5 H5 F5 (s1.trans s5) xd E5 n5 ((m1.trans m2).trans m5)
            | ok f ρ5 =>
              cases f with
              | nx => exact fun σ5 H5 F5 s5 E5 n5 m5 => ⟨ρ5, F5, E5, n5, s1.trans s5, (m1.trans m2).trans m5, hw⟩
              | ct => exact fun σ5 H5 F5 s5 E5 n5 m5 => ⟨ρ5, F5, E5, n5, s1.trans s5, (m1.trans m2).trans m5, hw⟩
              | bk =>
                cases hw
                exact fun σ5 H5 F5 s5 E5 n5 m5 => k σ5 H5 F5 (s1.trans s5) E5 n5 ((m1.trans m2).trans m5)
              | rt z =>
                cases hw
                exact fun v σ5 H5 f5 F5 s5 rp E5 n5 m5 => k v σ5 H5 f5 F5 (s1.trans s5) rp E5 n5 ((m1.trans m2).trans m5)
/-! #### what is walked -/
def rangeL (lo : Int) (n : Nat) : List PyData := (List.range n).map fun j => .int (lo + (j : Nat))
theorem rangeL_len (lo : Int) (n : Nat) : (rangeL lo n).length = n := by unfold rangeL; rw [List.length_map, List.length_range]
theorem itr_ok {K : PySem.W.Frag} {lo : Int} {n : Nat} : ItOk K (Itr lo n) (rangeL lo n) (fun _ => True) := by
  refine ⟨fun i H _ h => by rw [rangeL_len] at h; exact h, fun i H x H' _ hi y => ?_, fun i H _ h => by rw [rangeL_len] at h; exact Nat.le_of_eq h.symm⟩
  obtain ⟨rfl, rfl⟩ := y
  rw [rangeL_len] at hi
  refine ⟨.int (lo + (i : Nat)), ?_, .int _, rfl, Same.refl _⟩
  unfold rangeL
  rw [List.getElem?_map, List.getElem?_range hi]
  rfl
theorem itt_ok {K : PySem.W.Frag} {a : Addr} {vs : List V} {ds : List PyData} (n : noLs ds = true) : ItOk K (Itt K a) ds (fun H => Tq K H a vs ∧ DqAll K H vs ds) := by
  refine ⟨fun i H g h => ?_, fun i H x H' g hi y => ?_, fun i H g h => ?_⟩
  · obtain ⟨v, hv, _⟩ := dpAll_at g.2 (List.getElem?_eq_getElem h)
    exact ⟨vs, v, g.1.sq, hv⟩
  · obtain ⟨rfl, y⟩ := y
    obtain ⟨v, hv, dv⟩ := dpAll_at g.2 (List.getElem?_eq_getElem hi)
    have := y vs g.1.sq
    rw [hv] at this
    cases this
    exact ⟨_, List.getElem?_eq_getElem hi, dv, noLs_at n (List.getElem?_eq_getElem hi), Same.refl _⟩
  · exact ⟨vs, g.1.sq, by rw [dpAll_len g.2, h] <;> exact Nat.le_refl _⟩
theorem tq_kp {K : PySem.W.Frag} {H H' : Hp} {f : List Addr} {a : Addr} {vs : List V} (k : Kp T f H H') (h : Tq K H a vs) : Tq K H' a vs := h.elim (fun ⟨o, g, t⟩ => .inl ⟨o, k.x _ _ _ g, t⟩) .inr
/-- over the items of a tuple -/
def tupL : PyData → Option (List PyData)
  | .tuple ds => some ds
  | _ => none
def iT (m : MM PyData) : MM (List PyData) := bindM m fun d => optM (tupL d)
theorem qi_tup {m : MM PyData} (h : QD T X W e m) : QI T X W tg e (iT m) := by
  obtain ⟨t, ht, q⟩ := h.ex
  refine ⟨_, pi_tup ht, fun σ H ρ F r R E n hm k => ?_⟩
  unfold iT bindM at hm
  cases hd : m ρ with
  | none => rw [hd] at hm; cases hm
  | some r1 =>
    rw [hd] at hm
    refine q σ H ρ F r1 _ E n hd ?_
    cases r1 with
    | er c fs ρ1 => cases hm; exact k
    | ok d ρ1 =>
      intro v H' F' dp nl E' n' mv
      cases d with
      | tuple ds =>
        cases hm
        obtain ⟨a, xs, rfl, s, al⟩ := dp_tupX dp
        have nn : noLs ds = true := by simpa [noL] using nl
        refine ⟨a, rfl, ⟨xs, s.sq⟩, ?_⟩
        exact k (Itt X.K a) H' [] F' (fun H => Tq X.K H a xs ∧ DqAll X.K H xs ds) (itt_ok nn) (fun H1 H2 kp g => ⟨tq_kp kp g.1, dp_keepXs kp.x nn g.2⟩) ⟨s, al⟩ (fun _ h => nomatch h) E' n' mv
      | _ => cases hm
/-- over the signs of a text -/
def signsL (z : Str) : List PyData := z.cps.toList.map fun c => .str ⟨#[c]⟩
theorem its_ok {K : PySem.W.Frag} {z : Str} : ItOk K (Its z) (signsL z) (fun _ => True) := by
  have hl : (signsL z).length = z.cps.size := by
    unfold signsL
    rw [List.length_map, Array.length_toList]
  refine ⟨fun i H _ h => by rw [hl] at h; exact h, fun i H x H' _ hi y => ?_, fun i H _ h => by rw [hl] at h; exact Nat.le_of_eq h.symm⟩
  obtain ⟨rfl, c, hc, rfl⟩ := y
  refine ⟨.str ⟨#[c]⟩, ?_, .str _, rfl, Same.refl _⟩
  unfold signsL
  rw [List.getElem?_map, Array.getElem?_toList, hc]
  rfl
def iStrM (m : MM PyData) : MM (List PyData) := bindM m fun d => match d with | .str z => pureM (signsL z) | _ => fun _ => none
theorem qi_str {m : MM PyData} (h : QD T X W e m) : QI T X W tg e (iStrM m) := by
  obtain ⟨t, ht, q⟩ := h.ex
  refine ⟨_, pi_str ht, fun σ H ρ F r R E n hm k => ?_⟩
  unfold iStrM bindM at hm
  cases hd : m ρ with
  | none => rw [hd] at hm; cases hm
  | some r1 =>
    rw [hd] at hm
    refine q σ H ρ F r1 _ E n hd ?_
    cases r1 with
    | er c fs ρ1 => cases hm; exact k
    | ok d ρ1 =>
      intro v H' F' dp nl E' n' mv
      cases d with
      | str z =>
        cases hm
        cases dp
        exact ⟨z, rfl, k (Its z) H' [] F' (fun _ => True) its_ok (fun _ _ _ _ => trivial) trivial (fun _ h => nomatch h) E' n' mv⟩
      | _ => cases hm
/-- over a list of data that is new -/
def immL : List M → Option (List PyData)
  | [] => some []
  | .imm d :: xs => (immL xs).map fun ds => d :: ds
  | _ => none
theorem immL_dp {K : PySem.W.Frag} {H : Hp} : ∀ {vs : List V} {xs : List M} {f : List Addr} {ds : List PyData}, Reps K T H vs xs f → immL xs = some ds → DqAll K H vs ds ∧ noLs ds = true ∧ f = []
  | _, _, _, _, .nil, h => by
    cases h
    exact ⟨.nil, rfl, rfl⟩
  | _, _, _, _, .cons (x := x) a r, h => by
    cases x with
    | imm d =>
      simp only [immL] at h
      rename_i vs xs
      cases hx : immL xs with
      | none => rw [hx] at h; cases h
      | some es =>
        rw [hx] at h
        cases h
        obtain ⟨h1, h2, h3⟩ := immL_dp r hx
        cases a with
        | imm dp nl =>
          subst h3
          exact ⟨.cons dp h1, by simp [noLs, nl, h2], rfl⟩
    | _ => cases h
theorem itl_ok {K : PySem.W.Frag} {a : Addr} {vs : List V} {ds : List PyData} (n : noLs ds = true) : ItOk K (Itl K a) ds (fun H => SqL K H a vs ∧ DqAll K H vs ds) := by
  refine ⟨fun i H g h => ?_, fun i H x H' g hi y => ?_, fun i H g h => ?_⟩
  · obtain ⟨v, hv, _⟩ := dpAll_at g.2 (List.getElem?_eq_getElem h)
    exact ⟨vs, v, g.1, hv⟩
  · obtain ⟨rfl, y⟩ := y
    obtain ⟨v, hv, dv⟩ := dpAll_at g.2 (List.getElem?_eq_getElem hi)
    have := y vs g.1
    rw [hv] at this
    cases this
    exact ⟨_, List.getElem?_eq_getElem hi, dv, noLs_at n (List.getElem?_eq_getElem hi), Same.refl _⟩
  · exact ⟨vs, g.1, by rw [dpAll_len g.2, h] <;> exact Nat.le_refl _⟩
def lstL : M → Option (List PyData)
  | .lst xs => immL xs
  | .scr ns => some (ns.map .int)
  | _ => none
def iL (m : MM M) : MM (List PyData) := bindM m fun x => optM (lstL x)
theorem dpAll_ints {K : PySem.W.Frag} {H : Hp} : ∀ (ns : List Int), DqAll K H (ns.map V.int) (ns.map PyData.int)
  | [] => .nil
  | n :: ns => .cons (.int n) (dpAll_ints ns)
theorem noLs_ints : ∀ (ns : List Int), noLs (ns.map PyData.int) = true
  | [] => rfl
  | n :: ns => by simp [noLs, noL, noLs_ints ns]
theorem qi_lst {m : MM M} (h : QX T X W e m) : QI T X W tg e (iL m) := by
  obtain ⟨t, ht, q⟩ := h.ex
  refine ⟨_, pi_list ht, fun σ H ρ F r R E n hm k => ?_⟩
  unfold iL bindM at hm
  cases hd : m ρ with
  | none => rw [hd] at hm; cases hm
  | some r1 =>
    rw [hd] at hm
    refine q σ H ρ F r1 _ E n hd ?_
    cases r1 with
    | er c fs ρ1 => cases hm; exact k
    | ok x ρ1 =>
      intro v H' f F' rp E' n' mv
      dsimp only [optM] at hm
      cases hx : lstL x with
      | none => rw [hx] at hm; cases hm
      | some ds =>
        rw [hx] at hm
        cases hm
        cases x with
        | lst xs =>
          have wf := rp.wr
          cases rp with
          | lst ha rs =>
          obtain ⟨h1, h2, rfl⟩ := immL_dp rs hx
          rename_i a vs
          refine ⟨a, rfl, ⟨vs, SqL.of ha⟩, ?_⟩
          exact k (Itl X.K a) H' [a] F' (fun H => H a = some (.lst vs) ∧ SqL X.K H a vs ∧ DqAll X.K H vs ds) ⟨fun i H g h => (itl_ok h2).go i H g.2 h, fun i H x H' g hi y => (itl_ok h2).yld i H x H' g.2 hi y, fun i H g h => (itl_ok h2).stop i H g.2 h⟩
            (fun H1 H2 kp g => ⟨kp _ _ g.1 (.inl (by simp)), SqL.of (kp _ _ g.1 (.inl (by simp))), dp_keepXs kp.x h2 g.2.2⟩) ⟨ha, SqL.of ha, h1⟩ wf E' n' mv
        | scr ns =>
          cases hx
          cases rp with
          | scr sa =>
          rename_i a
          refine ⟨a, rfl, ⟨_, sa.seq⟩, ?_⟩
          exact k (Itl X.K a) H' [] F' (fun H => ScrAt X.K H a (ns.map V.int) ∧ SqL X.K H a (ns.map V.int) ∧ DqAll X.K H (ns.map V.int) (ns.map .int)) ⟨fun i H g h => (itl_ok (noLs_ints ns)).go i H g.2 h, fun i H x H' g hi y => (itl_ok (noLs_ints ns)).yld i H x H' g.2 hi y, fun i H g h => (itl_ok (noLs_ints ns)).stop i H g.2 h⟩
            (fun H1 H2 kp g => ⟨g.1.keep kp, (g.1.keep kp).seq, dpAll_ints ns⟩) ⟨sa, sa.seq, dpAll_ints ns⟩ (fun _ h => nomatch h) E' n' mv
        | _ => cases hx
def big62 : Int := 4611686018427387904
theorem big62_eq : (2 : Int) ^ 62 = big62 := by decide
def rng1 : PyData → Option (List PyData)
  | .int j => if -big62 ≤ j ∧ j < big62 then some (rangeL 0 j.toNat) else none
  | _ => none
def rng2 : PyData → PyData → Option (List PyData)
  | .int i, .int j => if (-big62 ≤ i ∧ i < big62) ∧ -big62 ≤ j ∧ j < big62 then some (rangeL i (j - i).toNat) else none
  | _, _ => none
def iR1 (m : MM PyData) : MM (List PyData) := bindM m fun d => optM (rng1 d)
def iR2 (m k : MM PyData) : MM (List PyData) := bindM m fun d => bindM k fun e => optM (rng2 d e)
theorem qi_range1 {m : MM PyData} {p : Pos} (h : QD T X W a m) (hg : Gl X "range") (hz : X.mg "range" = none) (hs : starEach [a] X.env = [(false, eval a X.env)] := by rfl) : QI T X W tg (.Call (.Name "range" p) [a] [] pos) (iR1 m) := by
  obtain ⟨t, ht, q⟩ := h.ex
  refine ⟨_, pi_range1 hg hz (pa_cons ht pa_nil hs) hs, fun σ H ρ F r R E n hm k => ?_⟩
  unfold iR1 bindM at hm
  cases hd : m ρ with
  | none => rw [hd] at hm; cases hm
  | some r1 =>
    rw [hd] at hm
    refine q σ H ρ F r1 _ E n hd ?_
    cases r1 with
    | er c fs ρ1 => cases hm; exact k
    | ok d ρ1 =>
      intro v H' F' dp nl E' n' mv
      cases d with
      | int j =>
        simp only [optM, rng1] at hm
        split at hm
        · rename_i hj
          cases hm
          cases dp
          exact ⟨j, rfl, by rw [big62_eq]; exact hj.1, by rw [big62_eq]; exact hj.2, k (Itr 0 j.toNat) H' [] F' (fun _ => True) itr_ok (fun _ _ _ _ => trivial) trivial (fun _ h => nomatch h) E' n' mv⟩
        · cases hm
      | _ => cases hm
theorem qi_range2 {m m2 : MM PyData} {p : Pos} (h : QD T X W a m) (h2 : QD T X W b m2) (hg : Gl X "range") (hz : X.mg "range" = none) (hs : starEach [a, b] X.env = [(false, eval a X.env), (false, eval b X.env)] := by rfl)
    (hs2 : starEach [b] X.env = [(false, eval b X.env)] := by rfl) : QI T X W tg (.Call (.Name "range" p) [a, b] [] pos) (iR2 m m2) := by
  obtain ⟨t, ht, q⟩ := h.ex
  obtain ⟨t2, ht2, q2⟩ := h2.ex
  refine ⟨_, pi_range2 hg hz (pa_cons ht (pa_cons ht2 pa_nil hs2) (hs.trans (by rw [hs2]))) hs hs2, fun σ H ρ F r R E n hm k => ?_⟩
  unfold iR2 bindM at hm
  cases hd : m ρ with
  | none => rw [hd] at hm; cases hm
  | some r1 =>
    rw [hd] at hm
    refine q σ H ρ F r1 _ E n hd ?_
    cases r1 with
    | er c fs ρ1 => cases hm; exact k
    | ok d ρ1 =>
      intro v H1 F1 d1 nl1 E1 n1 m1
      dsimp only at hm
      cases hd2 : m2 ρ1 with
      | none => rw [hd2] at hm; cases hm
      | some r2 =>
        rw [hd2] at hm
        refine q2 σ H1 ρ1 F1 r2 _ E1 n1 hd2 ?_
        cases r2 with
        | er c fs ρ2 => cases hm; exact XOk.from k m1
        | ok d' ρ2 =>
          intro w H2 F2 d2 nl2 E2 n2 m2'
          cases d with
          | int i =>
            cases d' with
            | int j =>
              simp only [optM, rng2] at hm
              split at hm
              · rename_i hj
                cases hm
                cases d1
                cases d2
                exact ⟨i, j, rfl, by rw [big62_eq]; exact ⟨hj.1.1, hj.1.2, hj.2.1, hj.2.2⟩, k (Itr i (j - i).toNat) H2 [] F2 (fun _ => True) itr_ok (fun _ _ _ _ => trivial) trivial (fun _ h => nomatch h) E2 n2 (m1.trans m2')⟩
              · cases hm
            | _ => cases hm
          | _ => cases hm
end
/-! ### defs and their calls -/
section
variable {K : PySem.W.Frag} {T : Tb}
def spD (K : PySem.W.Frag) (n : Nat) (m : List PyData → Option PyData) : Sp := fun vs H Q _ => ∃ ds r, DqAll K H vs ds ∧ noLs ds = true ∧ ds.length = n ∧ m ds = some r ∧ ∀ v H', Same H H' → Dq K H' v r → noL r = true → Q v H'
def GoC (K : PySem.W.Frag) (T : Tb) (vs : List V) (H : Hp) (F : List Addr) (r : Rs (List M) M) (Q : VK) (E : XK) : Prop := match r with
  | .ok y ys => ∀ v H' f F', Rep K T H' v y f → Reps K T H' vs ys F' → (f ++ F').Nodup → Mv F H (f ++ F') H' → Q v H'
  | .er c fs ys => ∀ d H' F', XdOk K H' d fs → Reps K T H' vs ys F' → F'.Nodup → Mv F H F' H' → E (.ref (T.ca c)) (some d) H'
def spX (K : PySem.W.Frag) (T : Tb) (n : Nat) (m : List M → Option (Rs (List M) M)) : Sp := fun vs H Q E => ∃ xs F r, Reps K T H vs xs F ∧ F.Nodup ∧ xs.length = n ∧ m xs = some r ∧ GoC K T vs H F r Q E
def W0 : WXk := fun _ _ _ _ => False
def runD (L : Nat) (m : MM Fl) (ds : List PyData) : Option PyData := match m (ds.map (fun d => some (.imm d)) ++ List.replicate (L - ds.length) none) with
  | some (.ok (.rt (.imm d)) _) => some d
  | some (.ok .nx _) => some .none
  | _ => none
theorem reps_imm {H : Hp} : ∀ {vs : List V} {ds : List PyData}, DqAll K H vs ds → noLs ds = true → Reps K T H vs (ds.map .imm) []
  | _, _, .nil, _ => .nil
  | _, _, .cons a t, n => by
    simp only [noLs, Bool.and_eq_true] at n
    exact .cons (f := []) (g := []) (.imm a n.1) (reps_imm t n.2)
theorem fn_d {P : Program} {w : World} {mg : Str → Option Value} {base : Heap} {x qual : Str} {st : Stmt} {f : Addr} {fd : FuncData} {N ps : List Str} {k n : Nat} {m : MM Fl} (T : Tb) (F : Fun K x qual st f fd) (S : FnScope N ps (defScope st)) (hn : ps.length = n)
    (body : ∀ (cdv : Value) (A : Around) (outer : List PySem.Env) (s : Shared) (H : Hp) (E : XK), Room k (A.deeper (envOfC qual (defScope st) s.heap.objs.size f cdv)) →
      QSs T [] (cxOf CX0 P w K mg base N qual (defScope st) f cdv A outer s H E).nox W0 (defBody st) m) : FnOk P w K mg base CX0 (k + 1) f fd ps (spD K n (runD N.length m)) := by
  refine F.ok S (fun vs H Q E h => ?_) (fun cdv A outer s H vs Q E hr h => ?_)
  · obtain ⟨ds, r, h1, h2, h3, _⟩ := h
    rw [dpAll_len h1, h3, hn]
  · obtain ⟨ds, r, h1, h2, h3, h4, q⟩ := h
    obtain ⟨t, ht, p⟩ := (body cdv A outer s H E hr).ex
    refine ⟨t, ht, ?_⟩
    unfold runD at h4
    have hl := dpAll_len h1
    have R := reps_imm (T := T) h1 h2
    have En := EnvR.start (N.length - vs.length) R
    have es : (ds.map M.imm).map some = ds.map (fun d => some (M.imm d)) := by rw [List.map_map]; rfl
    rw [es] at En
    rw [hl] at En
    cases hm : m (ds.map (fun d => some (.imm d)) ++ List.replicate (N.length - ds.length) none) with
    | none => rw [hm] at h4; cases h4
    | some res =>
      rw [hm] at h4
      refine p (L2.start N vs) H _ [] res _ (by unfold L2.start; rw [hl]; exact En) List.nodup_nil hm ?_
      cases res with
      | er c fs ρ => cases h4
      | ok fl ρ =>
        cases fl with
        | nx =>
          cases h4
          exact fun σ' H' F' _ _ _ mv => q .non H' (Chg.nil mv.c) .non rfl
        | bk => cases h4
        | ct => cases h4
        | rt y =>
          cases y with
          | imm d =>
            cases h4
            intro v σ' H' f F' _ rp _ _ mv
            cases rp with
            | imm dp nl => exact q v H' (Chg.nil mv.c) dp nl
          | _ => cases h4
def isImm : M → Bool
  | .imm _ => true
  | .scr _ => true
  | .fn _ => true
  | .fro _ _ => true
  | _ => false
theorem isImm_keep {H H' : Hp} {v : V} {x : M} {f : List Addr} (r : Rep K T H v x f) (h : isImm x = true) (k : Kp T [] H H') : Rep K T H' v x [] := by
  cases r with
  | imm a n => exact Rep.keep (.imm a n) k
  | scr a => exact Rep.keep (.scr a) k
  | fn => exact .fn
  | fro a b c d e => exact Rep.keep (.fro a b c d e) k
  | _ => cases h
/-- the parameters' objects behind a call: those in S as the body left them, the others are data -/
def backs (S : List Nat) : Nat → List M → Env' → Option (List M)
  | _, [], _ => some []
  | i, x :: xs, o :: ρ => if S.contains i then (match o with
      | some y => (backs S (i + 1) xs ρ).map fun ys => y :: ys
      | none => none) else if isImm x then (backs S (i + 1) xs ρ).map fun ys => x :: ys else none
  | _, _ :: _, [] => none
theorem backs_ok {S : List Nat} {H H' : Hp} (k : Kp T [] H H') : ∀ {xs : List M} {vs : List V} {F : List Addr} {i : Nat} {σ : L2.St} {ρ : Env'} {F' : List Addr} {ys : List M}, Reps K T H vs xs F → EnvR K T H' σ ρ F' →
    (∀ j v, i + j ∈ S → vs[j]? = some v → σ[j]? = some (some v)) → backs S i xs ρ = some ys → ∃ F2, Reps K T H' vs ys F2 ∧ F2.Sublist F'
  | [], _, _, i, σ, ρ, F', ys, .nil, E, hs, h => by
    simp only [backs] at h
    cases h
    exact ⟨[], .nil, List.nil_sublist _⟩
  | x :: xs, v :: vs, _, i, σ, [], F', ys, .cons a r, E, hs, h => by simp [backs] at h
  | x :: xs, v :: vs, _, i, σ, o :: ρ, F', ys, .cons a r, E, hs, h => by
    simp only [backs] at h
    cases E with
    | no E =>
      rename_i o'
      split at h
      · cases h
      · split at h
        · rename_i hi
          cases hb : backs S (i + 1) xs ρ with
          | none => rw [hb] at h; cases h
          | some zs =>
            rw [hb] at h
            cases h
            obtain ⟨F2, h1, h2⟩ := backs_ok k r E (fun j w hj hw => by
              have := hs (j + 1) w (by rw [← Nat.add_assoc, Nat.add_right_comm]; exact hj) (by simpa using hw)
              simpa using this) hb
            exact ⟨[] ++ F2, .cons (isImm_keep a hi k) h1, h2⟩
        · cases h
    | yes b E =>
      rename_i u y f g σ
      split at h
      · rename_i hc
        dsimp only at h
        cases hb : backs S (i + 1) xs ρ with
        | none => rw [hb] at h; cases h
        | some zs =>
          rw [hb] at h
          cases h
          obtain ⟨F2, h1, h2⟩ := backs_ok k r E (fun j w hj hw => by
            have := hs (j + 1) w (by rw [← Nat.add_assoc, Nat.add_right_comm]; exact hj) (by simpa using hw)
            simpa using this) hb
          have e0 := hs 0 v (by simpa using hc) rfl
          have e1 : u = v := by simpa using e0
          subst e1
          exact ⟨f ++ F2, .cons b h1, List.Sublist.append_left h2 f⟩
      · split at h
        · rename_i hi
          cases hb : backs S (i + 1) xs ρ with
          | none => rw [hb] at h; cases h
          | some zs =>
            rw [hb] at h
            cases h
            obtain ⟨F2, h1, h2⟩ := backs_ok k r E (fun j w hj hw => by
              have := hs (j + 1) w (by rw [← Nat.add_assoc, Nat.add_right_comm]; exact hj) (by simpa using hw)
              simpa using this) hb
            exact ⟨[] ++ F2, .cons (isImm_keep a hi k) h1, List.Sublist.trans h2 (List.sublist_append_right f g)⟩
        · cases h
def runX (S : List Nat) (L : Nat) (m : MM Fl) (xs : List M) : Option (Rs (List M) M) := match m (xs.map some ++ List.replicate (L - xs.length) none) with
  | some (.ok (.rt y) ρ) => (backs S 0 xs ρ).map fun ys => .ok y ys
  | some (.ok .nx ρ) => (backs S 0 xs ρ).map fun ys => .ok (.imm .none) ys
  | _ => none
theorem fn_x {P : Program} {w : World} {mg : Str → Option Value} {base : Heap} {x qual : Str} {st : Stmt} {f : Addr} {fd : FuncData} {N ps : List Str} {k n : Nat} {m : MM Fl} (T : Tb) (St' : List Nat) (F : Fun K x qual st f fd) (S : FnScope N ps (defScope st)) (hn : ps.length = n)
    (hS : ∀ i ∈ St', i < n)
    (body : ∀ (cdv : Value) (A : Around) (outer : List PySem.Env) (s : Shared) (H : Hp) (E : XK), Room k (A.deeper (envOfC qual (defScope st) s.heap.objs.size f cdv)) →
      QSs T St' (cxOf CX0 P w K mg base N qual (defScope st) f cdv A outer s H E).nox W0 (defBody st) m) : FnOk P w K mg base CX0 (k + 1) f fd ps (spX K T n (runX St' N.length m)) := by
  refine F.ok S (fun vs H Q E h => ?_) (fun cdv A outer s H vs Q E hr h => ?_)
  · obtain ⟨xs, F0, r, h1, h2, h3, _⟩ := h
    rw [h1.len, h3, hn]
  · obtain ⟨xs, F0, r, h1, h2, h3, h4, q⟩ := h
    obtain ⟨t, ht, p⟩ := (body cdv A outer s H E hr).ex
    refine ⟨t, ht, ?_⟩
    unfold runX at h4
    have hl := h1.len
    have En := EnvR.start (N.length - vs.length) h1
    rw [hl] at En
    have hst : ∀ (σ' : L2.St), Stb St' (L2.start N vs) σ' → ∀ j v, 0 + j ∈ St' → vs[j]? = some v → σ'[j]? = some (some v) := fun σ' s j v hj hv => by
      rw [Nat.zero_add] at hj
      rw [s j hj]
      unfold L2.start
      have hlt : j < (vs.map some).length := by
        rw [List.length_map, hl, h3]
        exact hS j hj
      rw [List.getElem?_append_left hlt, List.getElem?_map, hv]
      rfl
    cases hm : m (xs.map some ++ List.replicate (N.length - xs.length) none) with
    | none => rw [hm] at h4; cases h4
    | some res =>
      rw [hm] at h4
      refine p (L2.start N vs) H _ F0 res _ (by unfold L2.start; rw [hl]; exact En) h2 hm ?_
      cases res with
      | er c fs ρ => cases h4
      | ok fl ρ =>
        cases fl with
        | nx =>
          dsimp only at h4
          cases hb : backs St' 0 xs ρ with
          | none => rw [hb] at h4; cases h4
          | some ys =>
            rw [hb] at h4
            cases h4
            intro σ' H' F' s E' n' mv
            obtain ⟨F2, r2, sl⟩ := backs_ok (mv.c.kp h1.wr (fun _ h => nomatch h)) h1 E' (hst σ' s) hb
            exact q .non H' [] F2 (.imm .non rfl) r2 (sl.nodup n') (mv.sub fun b hb => sl.subset hb)
        | bk => cases h4
        | ct => cases h4
        | rt y =>
          dsimp only at h4
          cases hb : backs St' 0 xs ρ with
          | none => rw [hb] at h4; cases h4
          | some ys =>
            rw [hb] at h4
            cases h4
            intro v σ' H' f F' s rp E' n' mv
            obtain ⟨F2, r2, sl⟩ := backs_ok (mv.c.kp h1.wr (fun _ h => nomatch h)) h1 E' (hst σ' s) hb
            exact q v H' f F2 rp r2 ((List.Sublist.append_left sl f).nodup n') (mv.sub fun b hb => (List.mem_append.mp hb).elim (List.mem_append_left _) fun z => List.mem_append_right _ (sl.subset z))
end
/-! #### calls of pure defs -/
section
variable {T : Tb} {X : Cx} {W : WXk} {e a b c : Expr} {es rest : List Expr} {pos p2 : Pos}
def eCall (n : Nat) (mf : List PyData → Option PyData) (m : Env' → Option (List PyData)) : Env' → Option PyData := fun ρ => (m ρ).bind fun ds => if ds.length = n then mf ds else none
def dCall (n : Nat) (mf : List PyData → Option PyData) (m : MM (List PyData)) : MM PyData := bindM m fun ds => optM (if ds.length = n then mf ds else none)
theorem qe_call {k : Nat} {mf : List PyData → Option PyData} {m : Env' → Option (List PyData)} {E : XK} (mk : ∀ t, PA X es t → PE X e (tCall (spD X.K k mf) [] E t)) (h : QAE T X es m) : QE T X e (eCall k mf m) := by
  obtain ⟨t, ht, q⟩ := h.ex
  refine ⟨_, mk t ht, fun σ H ρ F d Q En hm kk => ?_⟩
  unfold eCall at hm
  cases hx : m ρ with
  | none => rw [hx] at hm; cases hm
  | some ds =>
    rw [hx] at hm
    dsimp only [Option.bind] at hm
    split at hm
    · rename_i hl
      refine q σ H ρ F ds _ En hx fun vs H1 s1 d1 n1 => ?_
      show spD X.K k mf (vs ++ []) H1 Q E
      rw [List.append_nil]
      exact ⟨ds, d, d1, n1, hl, hm, fun v H2 s2 => kk v H2 (s1.trans s2)⟩
    · cases hm
theorem qd_call {k : Nat} {mf : List PyData → Option PyData} {m : MM (List PyData)} {E : XK} (mk : ∀ t, PA X es t → PE X e (tCall (spD X.K k mf) [] E t)) (h : QA T X W es m) : QD T X W e (dCall k mf m) := by
  obtain ⟨t, ht, q⟩ := h.ex
  refine ⟨_, mk t ht, fun σ H ρ F r Q En n hm kk => ?_⟩
  unfold dCall bindM at hm
  cases hx : m ρ with
  | none => rw [hx] at hm; cases hm
  | some rx =>
    rw [hx] at hm
    refine q σ H ρ F rx _ En n hx ?_
    cases rx with
    | er c fs ρ1 => cases hm; exact kk
    | ok ds ρ1 =>
      intro vs H1 F1 d1 n1 E1 nd1 m1
      dsimp only [optM] at hm
      split at hm
      · rename_i hl
        cases hz : mf ds with
        | none => rw [hz] at hm; cases hm
        | some z =>
          rw [hz] at hm
          cases hm
          show spD X.K k mf (vs ++ []) H1 Q E
          rw [List.append_nil]
          exact ⟨ds, z, d1, n1, hl, hz, fun v H2 s2 dz nz => kk v H2 F1 dz nz (E1.same s2) nd1 (m1.trans (Mv.same s2 fun _ h => h))⟩
      · cases hm
/-! #### calls of defs that are lent what the names own -/
inductive Aw where
  | val (d : PyData)
  | slot (i : Nat)
  | own (x : M)
inductive AwR (K : PySem.W.Frag) (T : Tb) (H : Hp) (σ : L2.St) : List V → List Aw → List Addr → Prop
  | nil : AwR K T H σ [] [] []
  | val {v : V} {d : PyData} {vs : List V} {as : List Aw} {f : List Addr} : Dq K H v d → noL d = true → AwR K T H σ vs as f → AwR K T H σ (v :: vs) (.val d :: as) f
  | slot {v : V} {i : Nat} {vs : List V} {as : List Aw} {f : List Addr} : σ[i]? = some (some v) → AwR K T H σ vs as f → AwR K T H σ (v :: vs) (.slot i :: as) f
  | own {v : V} {x : M} {vs : List V} {as : List Aw} {f g : List Addr} : Rep K T H v x f → AwR K T H σ vs as g → AwR K T H σ (v :: vs) (.own x :: as) (f ++ g)
theorem AwR.keep {K : PySem.W.Frag} {H H' : Hp} {σ : L2.St} : ∀ {vs : List V} {as : List Aw} {f : List Addr}, AwR K T H σ vs as f → Kp T f H H' → AwR K T H' σ vs as f
  | _, _, _, .nil, _ => .nil
  | _, _, _, .val a n r, k => .val (dp_keepX k.x n a) n (AwR.keep r k)
  | _, _, _, .slot h r, k => .slot h (AwR.keep r k)
  | _, _, _, .own a r, k => .own (a.keep (k.sub fun b hb => List.mem_append_left _ hb)) (AwR.keep r (k.sub fun b hb => List.mem_append_right _ hb))
theorem AwR.wr {K : PySem.W.Frag} {H : Hp} {σ : L2.St} : ∀ {vs : List V} {as : List Aw} {f : List Addr}, AwR K T H σ vs as f → WrA T H f
  | _, _, _, .nil, b, hb => nomatch hb
  | _, _, _, .val _ _ r, b, hb => AwR.wr r b hb
  | _, _, _, .slot _ r, b, hb => AwR.wr r b hb
  | _, _, _, .own a r, b, hb => (List.mem_append.mp hb).elim (a.wr b) (AwR.wr r b)
structure QAr (T : Tb) (X : Cx) (W : WXk) (es : List Expr) (m : MM (List Aw)) : Prop where
  ex : ∃ t : TA, PA X es t ∧ ∀ (σ : L2.St) (H : Hp) (ρ : Env') (F : List Addr) (r : Rs Env' (List Aw)) (Q : List V → Hp → Prop), EnvR X.K T H σ ρ F → F.Nodup → m ρ = some r →
    (match r with
      | .ok as ρ1 => ∀ vs H' fo F', AwR X.K T H' σ vs as fo → EnvR X.K T H' σ ρ1 F' → (fo ++ F').Nodup → Mv F H (fo ++ F') H' → Q vs H'
      | .er c fs ρ1 => XOk X.K T W H F σ c fs ρ1) → t σ H Q
def rNil : MM (List Aw) := pureM []
def rVal (m : MM PyData) (k : MM (List Aw)) : MM (List Aw) := bindM m fun d => bindM k fun as => pureM (.val d :: as)
def rSlot (i : Nat) (k : MM (List Aw)) : MM (List Aw) := fun ρ => match ρ[i]? with
  | some (some _) => bindM k (fun as => pureM (.slot i :: as)) ρ
  | _ => none
def rOwn (m : MM M) (k : MM (List Aw)) : MM (List Aw) := bindM m fun x => bindM k fun as => pureM (.own x :: as)
theorem qr_nil : QAr T X W [] rNil := ⟨_, pa_nil, fun σ H ρ F r Q E n hm k => by
  cases hm
  exact k [] H [] F .nil E n (Mv.refl fun _ h => h)⟩
theorem qr_val {m : MM PyData} {r : MM (List Aw)} (ha : QD T X W a m) (hr : QAr T X W es r) (hs : starEach (a :: es) X.env = (false, eval a X.env) :: starEach es X.env := by rfl) : QAr T X W (a :: es) (rVal m r) := by
  obtain ⟨ta, h1, q1⟩ := ha.ex
  obtain ⟨tr, h2, q2⟩ := hr.ex
  refine ⟨_, pa_cons h1 h2 hs, fun σ H ρ F res Q E n hm k => ?_⟩
  unfold rVal bindM at hm
  cases hx : m ρ with
  | none => rw [hx] at hm; cases hm
  | some rx =>
    rw [hx] at hm
    refine q1 σ H ρ F rx _ E n hx ?_
    cases rx with
    | er c fs ρ1 => cases hm; exact k
    | ok x ρ1 =>
      intro u H1 F1 d1 n1 E1 nd1 m1
      dsimp only at hm
      cases hy : r ρ1 with
      | none => rw [hy] at hm; cases hm
      | some ry =>
        rw [hy] at hm
        refine q2 σ H1 ρ1 F1 ry _ E1 nd1 hy ?_
        cases ry with
        | er c fs ρ2 => cases hm; exact XOk.from k m1
        | ok xs ρ2 =>
          cases hm
          intro vs H2 fo F2 d2 E2 nd2 m2
          exact k _ H2 fo F2 (.val (dp_keepX (m2.c.kp (g := []) E1.wr (fun _ h => nomatch h)).x n1 d1) n1 d2) E2 nd2 (m1.trans m2)
theorem qr_slot {i : Nat} {r : MM (List Aw)} (ha : PE X a (tVar i)) (hr : QAr T X W es r) (hs : starEach (a :: es) X.env = (false, eval a X.env) :: starEach es X.env := by rfl) : QAr T X W (a :: es) (rSlot i r) := by
  obtain ⟨tr, h2, q2⟩ := hr.ex
  refine ⟨_, pa_cons ha h2 hs, fun σ H ρ F res Q E n hm k => ?_⟩
  unfold rSlot at hm
  split at hm
  · rename_i x hx
    obtain ⟨v, f, g1, g2, _⟩ := E.get hx
    refine ⟨v, g1, ?_⟩
    unfold bindM at hm
    cases hy : r ρ with
    | none => rw [hy] at hm; cases hm
    | some ry =>
      rw [hy] at hm
      refine q2 σ H ρ F ry _ E n hy ?_
      cases ry with
      | er c fs ρ2 => cases hm; exact k
      | ok xs ρ2 =>
        cases hm
        intro vs H2 fo F2 d2 E2 nd2 m2
        exact k _ H2 fo F2 (.slot g1 d2) E2 nd2 m2
  · cases hm
theorem qr_own {m : MM M} {r : MM (List Aw)} (ha : QX T X W a m) (hr : QAr T X W es r) (hs : starEach (a :: es) X.env = (false, eval a X.env) :: starEach es X.env := by rfl) : QAr T X W (a :: es) (rOwn m r) := by
  obtain ⟨ta, h1, q1⟩ := ha.ex
  obtain ⟨tr, h2, q2⟩ := hr.ex
  refine ⟨_, pa_cons h1 h2 hs, fun σ H ρ F res Q E n hm k => ?_⟩
  unfold rOwn bindM at hm
  cases hx : m ρ with
  | none => rw [hx] at hm; cases hm
  | some rx =>
    rw [hx] at hm
    refine q1 σ H ρ F rx _ E n hx ?_
    cases rx with
    | er c fs ρ1 => cases hm; exact k
    | ok x ρ1 =>
      intro u H1 f1 F1 rp E1 nd1 m1
      dsimp only at hm
      have nF1 := (List.nodup_append.mp nd1).2.1
      have mF : Mv F H F1 H1 := m1.sub fun _ h => List.mem_append_right _ h
      cases hy : r ρ1 with
      | none => rw [hy] at hm; cases hm
      | some ry =>
        rw [hy] at hm
        refine q2 σ H1 ρ1 F1 ry _ E1 nF1 hy ?_
        cases ry with
        | er c fs ρ2 => cases hm; exact XOk.from k mF
        | ok xs ρ2 =>
          cases hm
          intro vs H2 fo F2 d2 E2 nd2 m2
          have dis : ∀ b ∈ f1, b ∉ F1 := fun b hb hf => (List.nodup_append.mp nd1).2.2 b hb b hf rfl
          have ap := m2.apart E1.wr rp.wr dis
          have nn : (f1 ++ (fo ++ F2)).Nodup := nodup_mv (K := X.K) (σ := σ) (ρ := ρ1) nd1 nd2 m2 rp.wr
          refine k _ H2 (f1 ++ fo) F2 (.own (rp.keep ap.1) d2) E2 (by rw [List.append_assoc]; exact nn) ?_
          rw [List.append_assoc]
          exact m1.trans (mv_frame m2)
/-- what is lent for the call -/
def takes : List Aw → Env' → Option (List M × Env')
  | [], ρ => some ([], ρ)
  | .val d :: r, ρ => (takes r ρ).map fun p => (.imm d :: p.1, p.2)
  | .own x :: r, ρ => (takes r ρ).map fun p => (x :: p.1, p.2)
  | .slot i :: r, ρ => match ρ[i]? with
    | some (some x) => (takes r (ρ.set i (some .hol))).map fun p => (x :: p.1, p.2)
    | _ => none
/-- .. comes back -/
def puts : List Aw → List M → Env' → Option Env'
  | [], [], ρ => some ρ
  | .slot i :: r, y :: ys, ρ => match ρ[i]? with
    | some (some .hol) => puts r ys (ρ.set i (some y))
    | _ => none
  | .val _ :: r, _ :: ys, ρ => puts r ys ρ
  | .own _ :: r, _ :: ys, ρ => puts r ys ρ
  | _, _, _ => none
theorem takes_ok {K : PySem.W.Frag} {H : Hp} {σ : L2.St} : ∀ {as : List Aw} {vs : List V} {fo F : List Addr} {ρ ρ1 : Env'} {xs : List M}, AwR K T H σ vs as fo → EnvR K T H σ ρ F → takes as ρ = some (xs, ρ1) →
    ∃ fx F1, Reps K T H vs xs fx ∧ EnvR K T H σ ρ1 F1 ∧ (fx ++ F1).Perm (fo ++ F)
  | [], _, _, F, ρ, ρ1, xs, .nil, E, h => by
    simp only [takes] at h
    cases h
    exact ⟨[], F, .nil, E, List.Perm.refl _⟩
  | .val d :: as, _, _, F, ρ, ρ1, xs, .val a n r, E, h => by
    simp only [takes] at h
    cases ht : takes as ρ with
    | none => rw [ht] at h; cases h
    | some p =>
      obtain ⟨ys, ρ2⟩ := p
      rw [ht] at h
      cases h
      obtain ⟨fx, F1, h1, h2, h3⟩ := takes_ok r E ht
      exact ⟨[] ++ fx, F1, .cons (.imm a n) h1, h2, h3⟩
  | .own x :: as, _, _, F, ρ, ρ1, xs, .own (f := f) a r, E, h => by
    simp only [takes] at h
    cases ht : takes as ρ with
    | none => rw [ht] at h; cases h
    | some p =>
      obtain ⟨ys, ρ2⟩ := p
      rw [ht] at h
      cases h
      obtain ⟨fx, F1, h1, h2, h3⟩ := takes_ok r E ht
      refine ⟨f ++ fx, F1, .cons a h1, h2, ?_⟩
      rw [List.append_assoc, List.append_assoc]
      exact List.Perm.append_left _ h3
  | .slot i :: as, _, fo, F, ρ, ρ1, xs, .slot hs r, E, h => by
    simp only [takes] at h
    split at h
    · rename_i x hx
      cases ht : takes as (ρ.set i (some .hol)) with
      | none => rw [ht] at h; cases h
      | some p =>
        obtain ⟨ys, ρ2⟩ := p
        rw [ht] at h
        cases h
        obtain ⟨v, f, F', g1, g2, g3, g4⟩ := E.take hx
        rw [hs] at g1
        cases g1
        obtain ⟨fx, F1, h1, h2, h3⟩ := takes_ok r g3 ht
        refine ⟨f ++ fx, F1, .cons g2 h1, h2, ?_⟩
        rw [List.append_assoc]
        refine (List.Perm.append_left f h3).trans ?_
        rw [← List.append_assoc]
        refine (List.Perm.append_right F' List.perm_append_comm).trans ?_
        rw [List.append_assoc]
        exact List.Perm.append_left fo g4
    · cases h
theorem puts_ok {K : PySem.W.Frag} {H : Hp} {σ : L2.St} : ∀ {as : List Aw} {vs : List V} {F1 F2 : List Addr} {ρ ρ2 : Env'} {ys : List M}, True →
    (∀ (j i : Nat), as[j]? = some (Aw.slot i) → ∃ v, vs[j]? = some v ∧ σ[i]? = some (some v)) → EnvR K T H σ ρ F1 → Reps K T H vs ys F2 → (F2 ++ F1).Nodup → puts as ys ρ = some ρ2 →
    ∃ F3, EnvR K T H σ ρ2 F3 ∧ F3.Nodup ∧ ∀ b ∈ F3, b ∈ F2 ++ F1
  | [], _, F1, F2, ρ, ρ2, ys, _, hs, E, r, n, h => by
    cases ys with
    | nil =>
      simp only [puts] at h
      cases h
      exact ⟨F1, E, (List.nodup_append.mp n).2.1, fun b hb => List.mem_append_right _ hb⟩
    | cons y ys => simp [puts] at h
  | a :: as, _, F1, _, ρ, ρ2, _, _, hs, E, .nil, n, h => by cases a <;> simp [puts] at h
  | .val d :: as, _, F1, _, ρ, ρ2, _, _, hs, E, .cons (f := f) (g := g) b r, n, h => by
    simp only [puts] at h
    rw [List.append_assoc] at n
    obtain ⟨F3, h1, h2, h3⟩ := puts_ok trivial (fun j i hj => by
      obtain ⟨v, e1, e2⟩ := hs (j + 1) i (by simpa using hj)
      exact ⟨v, by simpa using e1, e2⟩) E r (List.nodup_append.mp n).2.1 h
    exact ⟨F3, h1, h2, fun b hb => by rw [List.append_assoc]; exact List.mem_append_right _ (h3 b hb)⟩
  | .own d :: as, _, F1, _, ρ, ρ2, _, _, hs, E, .cons (f := f) (g := g) b r, n, h => by
    simp only [puts] at h
    rw [List.append_assoc] at n
    obtain ⟨F3, h1, h2, h3⟩ := puts_ok trivial (fun j i hj => by
      obtain ⟨v, e1, e2⟩ := hs (j + 1) i (by simpa using hj)
      exact ⟨v, by simpa using e1, e2⟩) E r (List.nodup_append.mp n).2.1 h
    exact ⟨F3, h1, h2, fun b hb => by rw [List.append_assoc]; exact List.mem_append_right _ (h3 b hb)⟩
  | .slot i :: as, _, F1, _, ρ, ρ2, _, _, hs, E, .cons (f := f) (g := g) b r, n, h => by
    simp only [puts] at h
    split at h
    · rename_i hh
      obtain ⟨v, e1, e2⟩ := hs 0 i rfl
      have e1' := Option.some.inj e1
      subst e1'
      obtain ⟨F', g1, g2⟩ := E.put e2 hh b
      have n2 : (g ++ F').Nodup := by
        have : (g ++ F').Perm ((f ++ g) ++ F1) := by
          refine (List.Perm.append_left g g2.symm).trans ?_
          rw [← List.append_assoc]
          exact List.Perm.append_right F1 List.perm_append_comm
        exact this.nodup_iff.mpr n
      obtain ⟨F3, h1, h2, h3⟩ := puts_ok trivial (fun j i hj => by
        obtain ⟨v, e1, e2⟩ := hs (j + 1) i (by simpa using hj)
        exact ⟨v, by simpa using e1, e2⟩) g1 r n2 h
      refine ⟨F3, h1, h2, fun b hb => ?_⟩
      rcases List.mem_append.mp (h3 b hb) with z | z
      · exact List.mem_append_left _ (List.mem_append_right _ z)
      · rcases List.mem_append.mp (g2.mem_iff.mpr z) with z | z
        · exact List.mem_append_left _ (List.mem_append_left _ z)
        · exact List.mem_append_right _ z
    · cases h
theorem AwR.slots {K : PySem.W.Frag} {H : Hp} {σ : L2.St} : ∀ {vs : List V} {as : List Aw} {f : List Addr}, AwR K T H σ vs as f → ∀ (j i : Nat), as[j]? = some (Aw.slot i) → ∃ v, vs[j]? = some v ∧ σ[i]? = some (some v)
  | _, _, _, .nil, j, i, h => by simp at h
  | _, _, _, .val _ _ r, 0, i, h => by simp at h
  | _, _, _, .own _ r, 0, i, h => by simp at h
  | _, _, _, .slot hs r, 0, i, h => by
    simp at h
    subst h
    exact ⟨_, rfl, hs⟩
  | _, _, _, .val _ _ r, j + 1, i, h => by
    obtain ⟨v, h1, h2⟩ := AwR.slots r j i (by simpa using h)
    exact ⟨v, by simpa using h1, h2⟩
  | _, _, _, .own _ r, j + 1, i, h => by
    obtain ⟨v, h1, h2⟩ := AwR.slots r j i (by simpa using h)
    exact ⟨v, by simpa using h1, h2⟩
  | _, _, _, .slot hs r, j + 1, i, h => by
    obtain ⟨v, h1, h2⟩ := AwR.slots r j i (by simpa using h)
    exact ⟨v, by simpa using h1, h2⟩
def xCall (n : Nat) (mf : List M → Option (Rs (List M) M)) (m : MM (List Aw)) : MM M := bindM m fun as ρ => match takes as ρ with
  | none => none
  | some (xs, ρ1) => if xs.length = n then (match mf xs with
      | none => none
      | some (.ok y ys) => (puts as ys ρ1).map fun ρ2 => .ok y ρ2
      | some (.er _ _ _) => none) else none
/-- behind the arguments -/
theorem call_go {K : PySem.W.Frag} {k : Nat} {mf : List M → Option (Rs (List M) M)} {vs : List V} {H : Hp} {σ : L2.St} {as : List Aw} {fo F : List Addr} {ρ ρ1 : Env'} {xs : List M} {res : Rs Env' M} {Q : VK} {H0 : Hp} {F0 : List Addr}
    (a : AwR K T H σ vs as fo) (E : EnvR K T H σ ρ F) (n : (fo ++ F).Nodup) (m : Mv F0 H0 (fo ++ F) H) (ht : takes as ρ = some (xs, ρ1)) (hk : xs.length = k)
    (hm : (match mf xs with
      | none => none
      | some (.ok y ys) => (puts as ys ρ1).map fun ρ2 => Rs.ok y ρ2
      | some (.er _ _ _) => none) = some res) (kk : GoE K T W H0 F0 σ res Q) {EE : XK} : spX K T k mf vs H Q EE := by
  obtain ⟨fx, F1, h1, h2, h3⟩ := takes_ok a E ht
  have nn : (fx ++ F1).Nodup := h3.nodup_iff.mpr n
  have nx := List.nodup_append.mp nn
  cases hf : mf xs with
  | none => rw [hf] at hm; cases hm
  | some r =>
    rw [hf] at hm
    refine ⟨xs, fx, r, h1, nx.1, hk, hf, ?_⟩
    cases r with
    | er c fs ys => cases hm
    | ok y ys =>
      dsimp only at hm
      cases hp : puts as ys ρ1 with
      | none => rw [hp] at hm; cases hm
      | some ρ2 =>
        rw [hp] at hm
        cases hm
        intro v H' f F' rp rs nd mv
        have dis : ∀ b ∈ F1, b ∉ fx := fun b hb hf => nx.2.2 b hf b hb rfl
        have ap := mv.apart h1.wr h2.wr dis
        have E' := h2.keep ap.1
        have nd2 := List.nodup_append.mp nd
        have dj : ∀ b ∈ f ++ F', ∀ c ∈ F1, b ≠ c := fun b hb c hc e => by
          subst e
          exact ap.2 b hc hb
        have n2 : (F' ++ F1).Nodup := List.nodup_append.mpr ⟨nd2.2.1, nx.2.1, fun b hb c hc => dj b (List.mem_append_right _ hb) c hc⟩
        obtain ⟨F3, e1, e2, e3⟩ := puts_ok trivial (a.slots) E' rs n2 hp
        refine kk v H' f F3 rp e1 ?_ ?_
        · refine List.nodup_append.mpr ⟨nd2.1, e2, fun b hb c hc e => ?_⟩
          subst e
          rcases List.mem_append.mp (e3 b hc) with z | z
          · exact nd2.2.2 b hb b z rfl
          · exact dj b (List.mem_append_left _ hb) b z rfl
        · refine m.trans ?_
          have mf' : Mv (fx ++ F1) H ((f ++ F') ++ F1) H' := ⟨fun b o hb hn => mv.c b o hb fun z => hn (List.mem_append_left _ z), fun b hb => (List.mem_append.mp hb).elim (fun z => (mv.n b z).elim (fun y => .inl (List.mem_append_left _ y)) .inr) fun z => .inl (List.mem_append_right _ z)⟩
          have mg : Mv (fo ++ F) H ((f ++ F') ++ F1) H' := mf'.sup fun b hb => h3.mem_iff.mp hb
          refine mg.sub fun b hb => ?_
          rcases List.mem_append.mp hb with z | z
          · exact List.mem_append_left _ (List.mem_append_left _ z)
          · rcases List.mem_append.mp (e3 b z) with z | z
            · exact List.mem_append_left _ (List.mem_append_right _ z)
            · exact List.mem_append_right _ z
theorem qx_call {k : Nat} {mf : List M → Option (Rs (List M) M)} {m : MM (List Aw)} {E : XK} (mk : ∀ t, PA X es t → PE X e (tCall (spX X.K T k mf) [] E t)) (h : QAr T X W es m) : QX T X W e (xCall k mf m) := by
  obtain ⟨t, ht, q⟩ := h.ex
  refine ⟨_, mk t ht, fun σ H ρ F r Q En n hm kk => ?_⟩
  unfold xCall bindM at hm
  cases hx : m ρ with
  | none => rw [hx] at hm; cases hm
  | some rx =>
    rw [hx] at hm
    refine q σ H ρ F rx _ En n hx ?_
    cases rx with
    | er c fs ρ1 => cases hm; exact kk
    | ok as ρ1 =>
      intro vs H1 fo F1 aw E1 nd1 m1
      dsimp only at hm
      cases htk : takes as ρ1 with
      | none => rw [htk] at hm; cases hm
      | some p =>
        obtain ⟨xs, ρ2⟩ := p
        rw [htk] at hm
        dsimp only at hm
        split at hm
        · rename_i hl
          show spX X.K T k mf (vs ++ []) H1 Q _
          rw [List.append_nil]
          exact call_go aw E1 nd1 m1 htk hl hm kk
        · cases hm
end
/-! ### lists, instances -/
section
variable {K : PySem.W.Frag} {T : Tb} {X : Cx} {W : WXk} {e a b c o : Expr} {es rest : List Expr} {st : Stmt} {S : List Nat} {pos p2 : Pos}
abbrev mkS (l : List Nat) : Str := ⟨l.toArray⟩
theorem mkS_len (l : List Nat) : (mkS l).length = l.length := by
  show l.toArray.size = _
  rw [List.size_toArray]
theorem mkS_cp (z : Str) : mkS z.cps.toList = z := by
  cases z
  simp [mkS]
def rMulS : R2 := fun x y H Q => ∃ (z : Str) (n : Int), x = .str z ∧ y = .int n ∧ 0 ≤ n ∧ n ≤ 1000 ∧ z.length ≤ 1000 ∧ Q (.str (mkS (List.replicate n.toNat z.cps.toList).flatten)) H
theorem rep_acc (c : Array Nat) : ∀ (n : Nat) (acc : List Nat), List.foldl (fun x y => x ++ y) acc.toArray (List.replicate n c) = (acc ++ (List.replicate n c.toList).flatten).toArray
  | 0, acc => by simp
  | n + 1, acc => by
    have e : acc.toArray ++ c = (acc ++ c.toList).toArray := by simp
    rw [List.replicate_succ, List.foldl_cons, e, rep_acc c n (acc ++ c.toList), List.replicate_succ, List.append_assoc]
    rfl
theorem rep_len (c : List Nat) : ∀ n : Nat, (List.replicate n c).flatten.length = n * c.length
  | 0 => by simp
  | n + 1 => by
    rw [List.replicate_succ, List.flatten_cons, List.length_append, rep_len c n, Nat.succ_mul]
    omega
theorem op_mulS : OpR X (binaryOp .Mult) rMulS := by
  intro pins s σ H x y v u Q I rx ry h
  obtain ⟨z, n, rfl, rfl, h0, h1, hz, q⟩ := h
  obtain ⟨t, rfl⟩ := rx
  obtain ⟨t', rfl⟩ := ry
  have hs : 1000000 ≤ sizeLine := by decide
  have prod : z.length * n.toNat ≤ 1000 * 1000 := Nat.mul_le_mul hz (by omega)
  refine PySem.P.mul_str ?_ ?_ ?_ ?_
  · rw [decide_eq_false (by omega), decide_eq_false (by omega)]
    rfl
  · intro a _ g
    have d : 1000 ≤ (2 ^ 63 - 1 : Int) / n := (Int.le_ediv_iff_mul_le (by omega)).mpr (by omega)
    omega
  · intro _ _
    show decide (z.length * n.toNat > sizeLine) = false
    exact decide_eq_false (by omega)
  · have hacc := rep_acc z.cps n.toNat []
    rw [List.nil_append] at hacc
    by_cases a : n < 1
    · rw [if_pos a]
      have e : n = 0 := by omega
      subst e
      exact ⟨by decide, .str _, H, I.tok _, ⟨_, rfl⟩, q⟩
    · rw [if_neg a]
      cases e : (n == 1 || z.length == 0) with
      | true =>
        rw [if_pos rfl]
        have ez : mkS (List.replicate n.toNat z.cps.toList).flatten = z := by
          rw [Bool.or_eq_true] at e
          rcases e with e | e
          · have e' : n = 1 := eq_of_beq e
            subst e'
            show mkS (List.replicate 1 z.cps.toList).flatten = z
            rw [List.replicate_one, List.flatten_cons, List.flatten_nil, List.append_nil, mkS_cp]
          · have e' : z.length = 0 := eq_of_beq e
            have e2 : z.cps.toList = [] := List.eq_nil_of_length_eq_zero (by rw [Array.length_toList]; exact e')
            have e3 : z = mkS [] := by rw [← e2, mkS_cp]
            rw [e2, e3]
            have : (List.replicate n.toNat ([] : List Nat)).flatten = [] := List.eq_nil_of_length_eq_zero (by rw [rep_len]; simp)
            rw [this]
        rw [ez] at q
        exact ⟨.str z, H, I, ⟨_, rfl⟩, q⟩
      | false =>
        rw [if_neg Bool.false_ne_true]
        have z2 : (⟨List.foldl (fun x1 x2 => x1 ++ x2) #[] (List.replicate n.toNat z.cps)⟩ : Str) = mkS (List.replicate n.toNat z.cps.toList).flatten := congrArg Str.mk hacc
        refine ⟨?_, .str (mkS (List.replicate n.toNat z.cps.toList).flatten), H, I.tok _, ⟨s.toks, ?_⟩, q⟩
        · rw [z2, mkS_len, rep_len, Array.length_toList, Nat.mul_comm]
          show z.cps.size * n.toNat ≤ sizeLine
          have pr : z.cps.size * n.toNat ≤ 1000 * 1000 := prod
          omega
        · rw [z2]
/-- a * b -/
def oMul : PyData → PyData → Option PyData
  | .int a, .int b => if CMulX a b then some (.int (a * b)) else none
  | .str z, .int n => if 0 ≤ n ∧ n ≤ 1000 ∧ z.length ≤ 1000 then some (.str (mkS (List.replicate n.toNat z.cps.toList).flatten)) else none
  | .tuple ds, .int n => if ds ≠ [] ∧ 2 ≤ n ∧ n ≤ 1000 ∧ ds.length ≤ 1000 then some (.tuple (List.replicate n.toNat ds).flatten) else none
  | _, _ => none
abbrev rMulU (K : PySem.W.Frag) : R2 := fun x y H Q => rI CMulX (fun i j => .int (i * j)) x y H Q ∨ rMulS x y H Q ∨ rRepZ K x y H Q
theorem op_mulU : OpR X (binaryOp .Mult) (rMulU X.K) := OpR.or op_mulX (OpR.or op_mulS op_repZ)
theorem dpAll_rep {H : Hp} {vs : List V} {ds : List PyData} (a : DqAll K H vs ds) : ∀ n : Nat, DqAll K H (List.replicate n vs).flatten (List.replicate n ds).flatten
  | 0 => .nil
  | n + 1 => by
    rw [List.replicate_succ, List.replicate_succ, List.flatten_cons, List.flatten_cons]
    exact dpAll_app a (dpAll_rep a n)
theorem noLs_rep {ds : List PyData} (a : noLs ds = true) : ∀ n : Nat, noLs (List.replicate n ds).flatten = true
  | 0 => rfl
  | n + 1 => by
    rw [List.replicate_succ, List.flatten_cons]
    exact noLs_append a (noLs_rep a n)
theorem snd_mul : Snd2 K (rMulU K) oMul := by
  intro H x y p q z Q dx nx dy ny h k
  cases p with
  | int a =>
    cases q with
    | int b =>
      simp only [oMul] at h
      split at h
      · rename_i hc
        cases h
        cases dx
        cases dy
        exact .inl ⟨a, b, rfl, rfl, hc, k _ H (Same.refl H) (.int _) rfl⟩
      · cases h
    | _ => cases h
  | str a =>
    cases q with
    | int b =>
      simp only [oMul] at h
      split at h
      · rename_i hc
        cases h
        cases dx
        cases dy
        exact .inr (.inl ⟨a, b, rfl, rfl, hc.1, hc.2.1, hc.2.2, k _ H (Same.refl H) (.str _) rfl⟩)
      · cases h
    | _ => cases h
  | tuple ds =>
    cases q with
    | int b =>
      simp only [oMul] at h
      split at h
      · rename_i hc
        cases h
        obtain ⟨p1, xs, rfl, s1, a1⟩ := dp_tupX dx
        cases dy
        have n1 : noLs ds = true := by simpa [noL] using nx
        refine .inr (.inr ⟨p1, b, xs, rfl, rfl, s1.sq, fun e => ?_, hc.2.1, hc.2.2.1, by rw [dpAll_len a1]; exact hc.2.2.2, fun r ob nr to => ?_⟩)
        · subst e
          cases a1
          exact hc.1 rfl
        · have nn := noLs_rep n1 b.toNat
          obtain ⟨s3, d3⟩ := newT (K := K) nr to nn (dpAll_rep a1 b.toNat)
          exact k _ _ s3 d3 (by simpa [noL] using nn)
      · cases h
    | _ => cases h
  | _ => cases h
/-! #### what stands at a slot is changed -/
theorem EnvR.change (g : List Addr) {H : Hp} {σ : L2.St} {ρ : Env'} {F : List Addr} {i : Nat} {x : M} (E : EnvR K T H σ ρ F) (n : (g ++ F).Nodup) (wg : WrA T H g) (h : ρ[i]? = some (some x)) :
    ∃ v f, σ[i]? = some (some v) ∧ Rep K T H v x f ∧ f.Nodup ∧ (∀ b ∈ f, b ∈ F) ∧ ∀ H' x' f', Rep K T H' v x' f' → f'.Nodup → Mv (g ++ f) H f' H' → ∃ F2, EnvR K T H' σ (ρ.set i (some x')) F2 ∧ F2.Nodup ∧ Mv (g ++ F) H F2 H' := by
  have n0 := List.nodup_append.mp n
  obtain ⟨v, f, F1, h1, h2, h3, h4⟩ := E.take h
  have nn := List.nodup_append.mp (h4.nodup_iff.mpr n0.2.1)
  refine ⟨v, f, h1, h2, nn.1, fun b hb => h4.mem_iff.mp (List.mem_append_left _ hb), fun H' x' f' r n' m => ?_⟩
  have dis : ∀ b ∈ F1, b ∉ g ++ f := fun b hb hf => (List.mem_append.mp hf).elim (fun z => n0.2.2 b z b (h4.mem_iff.mp (List.mem_append_right _ hb)) rfl) fun z => nn.2.2 b z b hb rfl
  have wgf : WrA T H (g ++ f) := fun b hb => (List.mem_append.mp hb).elim (wg b) (h2.wr b)
  have ap := m.apart wgf h3.wr dis
  have hh : (ρ.set i (some M.hol))[i]? = some (some .hol) := by
    rw [List.getElem?_set_self]
    exact (List.getElem?_eq_some_iff.mp h).1
  obtain ⟨F2, e1, e2⟩ := (h3.keep ap.1).put h1 hh r
  rw [List.set_set] at e1
  have n2 : (f' ++ F1).Nodup := List.nodup_append.mpr ⟨n', nn.2.1, fun b hb c hc e => by
    subst e
    exact ap.2 b hc hb⟩
  refine ⟨F2, e1, e2.nodup_iff.mp n2, ?_⟩
  have m1 : Mv ((g ++ f) ++ F1) H (f' ++ F1) H' := ⟨fun b o hb hn => m.c b o hb fun z => hn (List.mem_append_left _ z), fun b hb => (List.mem_append.mp hb).elim (fun z => (m.n b z).elim (fun y => .inl (List.mem_append_left _ y)) .inr) fun z => .inl (List.mem_append_right _ z)⟩
  refine (m1.sup fun b hb => ?_).sub fun b hb => e2.mem_iff.mpr hb
  rw [List.append_assoc] at hb
  exact (List.mem_append.mp hb).elim (List.mem_append_left _) fun z => List.mem_append_right _ (h4.mem_iff.mp z)
theorem Reps.set {H : Hp} {y : M} {u : V} (r0 : Rep K T H u y []) : ∀ {vs : List V} {xs : List M} {f : List Addr} (j : Nat), Reps K T H vs xs f → ∃ f', Reps K T H (vs.set j u) (xs.set j y) f' ∧ f'.Sublist f
  | _, _, _, _, .nil => ⟨[], .nil, List.Sublist.refl _⟩
  | _, _, _, 0, .cons (f := f) (g := g) a r => ⟨[] ++ g, .cons r0 r, List.sublist_append_right f g⟩
  | _, _, _, j + 1, .cons (f := f) (g := g) a r => by
    obtain ⟨f', h1, h2⟩ := Reps.set r0 j r
    exact ⟨f ++ f', .cons a h1, List.Sublist.append_left h2 f⟩
theorem Reps.at {H : Hp} : ∀ {vs : List V} {xs : List M} {f : List Addr} {j : Nat} {x : M}, Reps K T H vs xs f → xs[j]? = some x → ∃ v g, vs[j]? = some v ∧ Rep K T H v x g ∧ ∀ b ∈ g, b ∈ f
  | _, _, _, j, x, .nil, h => by simp at h
  | _, _, _, 0, x, .cons a r, h => by
    simp at h
    subst h
    exact ⟨_, _, rfl, a, fun b hb => List.mem_append_left _ hb⟩
  | _, _, _, j + 1, x, .cons a r, h => by
    obtain ⟨v, g, h1, h2, h3⟩ := Reps.at (j := j) (x := x) r (by simpa using h)
    exact ⟨v, g, by simpa using h1, h2, fun b hb => List.mem_append_right _ (h3 b hb)⟩
theorem Reps.app {H : Hp} {ys : List M} {ws : List V} {g : List Addr} (r2 : Reps K T H ws ys g) : ∀ {vs : List V} {xs : List M} {f : List Addr}, Reps K T H vs xs f → Reps K T H (vs ++ ws) (xs ++ ys) (f ++ g)
  | _, _, _, .nil => r2
  | _, _, _, .cons a r => by
    rw [List.append_assoc]
    exact .cons a (Reps.app r2 r)
/-- a list at l is written -/
theorem lst_write {H : Hp} {l : Addr} {vs : List V} {o' : HO} {f : List Addr} (h : H l = some (.lst vs)) : Mv (l :: f) H (l :: f) (upd H l o') :=
  ⟨fun b o hb hn => by rw [upd_ne (fun e => hn (by rw [e]; exact List.mem_cons_self))]; exact hb, fun b hb => .inl hb⟩
theorem kp_write {H : Hp} {l : Addr} {o o' : HO} {f : List Addr} (h : H l = some o) (w : Wr T o) (hl : l ∉ f) : Kp T f H (upd H l o') := fun b u hb hq => by
  rw [upd_ne ?_]
  · exact hb
  · intro e
    subst e
    rcases hq with z | z
    · exact hl z
    · rw [h] at hb
      cases hb
      exact stay_wr z w
/-- o[k] = e, o a list at slot i -/
def ixSet (xs : List M) (k : PyData) (y : M) : Option (List M) := match k with
  | .int z => (ixN xs.length z).map fun j => xs.set j y
  | _ => none
def sIdx (i : Nat) (mk : Env' → Option PyData) (m : MM PyData) : MM Fl := bindM m fun d ρ => match ρ[i]? with
  | some (some (.lst xs)) => (mk ρ).bind fun k => (ixSet xs k (.imm d)).map fun ys => .ok .nx (ρ.set i (some (.lst ys)))
  | _ => none
theorem qs_idx {i : Nat} {mk : Env' → Option PyData} {m : MM PyData} (asm : ∀ te to tk, PE X e te → PE X o to → PE X a tk → PS X st (tAsg te (gSub to tk rSetL))) (he : QD T X W e m) (ho : PE X o (tVar i)) (ha : QE T X a mk) : QS T S X W st (sIdx i mk m) := by
  obtain ⟨t, ht, q⟩ := he.ex
  obtain ⟨tk, hk, qk⟩ := ha.ex
  refine ⟨_, asm t _ tk ht ho hk, fun σ H ρ F r D E n hm k => ?_⟩
  unfold sIdx bindM at hm
  cases hd : m ρ with
  | none => rw [hd] at hm; cases hm
  | some r1 =>
    rw [hd] at hm
    refine q σ H ρ F r1 _ E n hd ?_
    cases r1 with
    | er c fs ρ1 =>
      cases hm
      exact fun d H' F' xd E' n' mv => k σ d H' F' (Stb.refl σ) xd E' n' mv
    | ok d ρ1 =>
      intro v H1 F1 dp nl E1 n1 m1
      dsimp only at hm
      split at hm
      · rename_i xs hx
        cases hz : mk ρ1 with
        | none => rw [hz] at hm; cases hm
        | some kd =>
          rw [hz] at hm
          dsimp only [Option.bind] at hm
          cases hy : ixSet xs kd (.imm d) with
          | none => rw [hy] at hm; cases hm
          | some ys =>
            rw [hy] at hm
            cases hm
            obtain ⟨w0, f0, g0, _, _⟩ := E1.get hx
            refine ⟨w0, g0, ?_⟩
            refine qk σ H1 ρ1 F1 kd _ E1 hz fun kv H2 s2 dk nk => ?_
            have E2 := E1.same s2
            obtain ⟨w, f, g1, rp, nf, sf, go⟩ := E2.change [] n1 (fun _ h => nomatch h) hx
            have ew : w0 = w := by
              rw [g0] at g1
              exact Option.some.inj (Option.some.inj g1)
            subst ew
            cases rp with
            | @lst l vs _ f1 ha rs =>
            cases kd with
            | int z =>
              cases dk
              simp only [ixSet] at hy
              cases hj : ixN xs.length z with
              | none => rw [hj] at hy; cases hy
              | some j =>
                rw [hj] at hy
                cases hy
                refine ⟨l, vs, z, j, rfl, rfl, ha, by rw [rs.len]; exact hj, ?_⟩
                have nf' := List.nodup_cons.mp nf
                have rs' := rs.keep (kp_write (o' := .lst (vs.set j v)) ha trivial nf'.1)
                have dv : Dq X.K (upd H2 l (.lst (vs.set j v))) v d := dp_keepX (kp_write (T := T) (f := []) (o' := .lst (vs.set j v)) ha trivial (fun h => nomatch h)).x nl (dpAll_keepX s2 nl dp)
                obtain ⟨f2, r2, sl⟩ := Reps.set (.imm dv nl) j rs'
                obtain ⟨F3, e1, e2, e3⟩ := go _ (.lst (xs.set j (.imm d))) (l :: f2) (.lst upd_same r2) (List.nodup_cons.mpr ⟨fun z => nf'.1 (sl.subset z), sl.nodup nf'.2⟩) ((lst_write ha).sub fun b hb => by
                  rcases List.mem_cons.mp hb with z | z
                  · exact List.mem_cons.mpr (.inl z)
                  · exact List.mem_cons.mpr (.inr (sl.subset z)))
                exact k σ _ F3 (Stb.refl σ) e1 e2 ((m1.trans (Mv.same s2 fun _ h => h)).trans e3)
            | _ => cases hy
      · cases hm
/-- o.append(e), o a list at slot i -/
def xApp (i : Nat) (m : MM M) : MM M := fun ρ => match ρ[i]? with
  | some (some (.lst _)) => bindM m (fun y ρ1 => match ρ1[i]? with
      | some (some (.lst xs)) => if xs.length ≤ most then some (.ok (.imm .none) (ρ1.set i (some (.lst (xs ++ [y]))))) else none
      | _ => none) ρ
  | _ => none
theorem qx_app {i : Nat} {m : MM M} {apos : Pos} (ho : PE X o (tVar i)) (he : QX T X W e m)
    (hs : starEach [e] X.env = (false, eval e X.env) :: starEach [] X.env := by rfl)
    (mk : ∀ t, PA X [e] t → PE X (.Call (.Attribute o "append" apos) [e] [] pos) (tBM X.K "list" rAppend (tVar i) t)) : QX T X W (.Call (.Attribute o "append" apos) [e] [] pos) (xApp i m) := by
  obtain ⟨t, ht, q⟩ := he.ex
  refine ⟨_, mk _ (pa_cons ht pa_nil hs), fun σ H ρ F r Q E n hm k => ?_⟩
  unfold xApp at hm
  split at hm
  · rename_i xs0 hx0
    obtain ⟨w0, f0, g0, r0, _⟩ := E.get hx0
    refine ⟨w0, g0, ?_⟩
    cases r0 with
    | @lst l0 vs0 _ f00 ha0 rs0 =>
    refine ⟨.inl ⟨rfl, _, SqL.of ha0⟩, ?_⟩
    unfold bindM at hm
    cases hd : m ρ with
    | none => rw [hd] at hm; cases hm
    | some r1 =>
      rw [hd] at hm
      refine q σ H ρ F r1 _ E n hd ?_
      cases r1 with
      | er c fs ρ1 => cases hm; exact k
      | ok y ρ1 =>
        intro v H1 fy F1 ry E1 n1 m1
        dsimp only at hm
        split at hm
        · rename_i xs hx
          split at hm
          · rename_i hlen
            cases hm
            have nn := List.nodup_append.mp n1
            obtain ⟨w, f, g1, rp, nf, sf, go⟩ := E1.change fy n1 ry.wr hx
            have ew : (V.ref l0) = w := by
              rw [g0] at g1
              exact Option.some.inj (Option.some.inj g1)
            subst ew
            cases rp with
            | @lst _ vs _ f1 ha rs =>
            refine ⟨l0, vs, v, rfl, rfl, ha, by rw [rs.len]; exact most_lt hlen, ?_⟩
            have nf' := List.nodup_cons.mp nf
            have hl0 : l0 ∈ F1 := sf l0 (List.mem_cons_self)
            have kpf : Kp T f1 H1 (upd H1 l0 (.lst (vs ++ [v]))) := kp_write ha trivial nf'.1
            have kpy : Kp T fy H1 (upd H1 l0 (.lst (vs ++ [v]))) := kp_write ha trivial fun z => nn.2.2 l0 z l0 hl0 rfl
            have ry' : Reps X.K T (upd H1 l0 (.lst (vs ++ [v]))) [v] [y] (fy ++ []) := .cons (ry.keep kpy) .nil
            have dj : ∀ b ∈ f1, ∀ c ∈ fy ++ [], b ≠ c := fun b hb c hc e => by
              subst e
              rw [List.append_nil] at hc
              exact nn.2.2 b hc b (sf b (List.mem_cons_of_mem _ hb)) rfl
            have ny : (f1 ++ (fy ++ [])).Nodup := List.nodup_append.mpr ⟨nf'.2, by rw [List.append_nil]; exact nn.1, dj⟩
            have nly : l0 ∉ f1 ++ (fy ++ []) := fun z => (List.mem_append.mp z).elim nf'.1 fun z => by
              rw [List.append_nil] at z
              exact nn.2.2 l0 z l0 hl0 rfl
            have mv2 : Mv (fy ++ (l0 :: f1)) H1 (l0 :: (f1 ++ (fy ++ []))) (upd H1 l0 (.lst (vs ++ [v]))) := by
              refine ⟨fun b o hb hn => ?_, fun b hb => .inl ?_⟩
              · rw [upd_ne fun e => hn (List.mem_append_right _ (by rw [e]; exact List.mem_cons_self))]
                exact hb
              · rcases List.mem_cons.mp hb with z | z
                · exact List.mem_append_right _ (by rw [z]; exact List.mem_cons_self)
                · rcases List.mem_append.mp z with z | z
                  · exact List.mem_append_right _ (List.mem_cons_of_mem _ z)
                  · rw [List.append_nil] at z
                    exact List.mem_append_left _ z
            obtain ⟨F3, e1, e2, e3⟩ := go _ (.lst (xs ++ [y])) (l0 :: (f1 ++ (fy ++ []))) (.lst upd_same (Reps.app ry' (rs.keep kpf))) (List.nodup_cons.mpr ⟨nly, ny⟩) mv2
            exact k .non _ [] F3 (.imm .non rfl) e1 e2 (m1.trans e3)
          · cases hm
        · cases hm
  · cases hm

/-! #### a list of written items -/
def awM : List Aw → Option (List M)
  | [] => some []
  | .val d :: r => (awM r).map fun xs => .imm d :: xs
  | .own x :: r => (awM r).map fun xs => x :: xs
  | .slot _ :: _ => none
theorem awM_ok {H : Hp} {σ : L2.St} : ∀ {vs : List V} {as : List Aw} {f : List Addr} {xs : List M}, AwR K T H σ vs as f → awM as = some xs → Reps K T H vs xs f
  | _, _, _, _, .nil, h => by
    cases h
    exact .nil
  | _, _, _, _, .val (as := as) a n r, h => by
    simp only [awM] at h
    cases hx : awM as with
    | none => rw [hx] at h; cases h
    | some ys =>
      rw [hx] at h
      cases h
      exact .cons (f := []) (.imm a n) (awM_ok r hx)
  | _, _, _, _, .own (as := as) a r, h => by
    simp only [awM] at h
    cases hx : awM as with
    | none => rw [hx] at h; cases h
    | some ys =>
      rw [hx] at h
      cases h
      exact .cons a (awM_ok r hx)
  | _, _, _, _, .slot _ r, h => by simp [awM] at h
def xLst (m : MM (List Aw)) : MM M := bindM m fun as => optM ((awM as).bind fun xs => if xs.length ≤ most then some (.lst xs) else none)
theorem AwR.len {H : Hp} {σ : L2.St} : ∀ {vs : List V} {as : List Aw} {f : List Addr}, AwR K T H σ vs as f → vs.length = as.length
  | _, _, _, .nil => rfl
  | _, _, _, .val _ _ r => congrArg (· + 1) (AwR.len r)
  | _, _, _, .slot _ r => congrArg (· + 1) (AwR.len r)
  | _, _, _, .own _ r => congrArg (· + 1) (AwR.len r)
theorem qx_lst {m : MM (List Aw)} (h : QAr T X W es m) : QX T X W (.List es pos) (xLst m) := by
  obtain ⟨t, ht, q⟩ := h.ex
  refine ⟨_, pe_lst ht, fun σ H ρ F r Q E n hm k => ?_⟩
  unfold xLst bindM at hm
  cases hx : m ρ with
  | none => rw [hx] at hm; cases hm
  | some rx =>
    rw [hx] at hm
    refine q σ H ρ F rx _ E n hx ?_
    cases rx with
    | er c fs ρ1 => cases hm; exact k
    | ok as ρ1 =>
      intro vs H1 fo F1 aw E1 nd1 m1
      dsimp only [optM] at hm
      cases ha : awM as with
      | none => rw [ha] at hm; cases hm
      | some xs =>
        rw [ha] at hm
        dsimp only [Option.bind] at hm
        split at hm
        · rename_i hl
          cases hm
          have rs := awM_ok aw ha
          refine ⟨by rw [rs.len]; exact most_le hl, fun p np => ?_⟩
          have s2 : Same H1 (upd H1 p (.lst vs)) := fun b u q => by rw [upd_ne (ne_of_none q np)]; exact q
          have nold : ∀ f, WrA T H1 f → p ∉ f := fun f w hp => by
            obtain ⟨o, ho, _⟩ := w p hp
            rw [np] at ho
            cases ho
          refine k _ _ (p :: fo) F1 (.lst upd_same (rs.keep (Same.kp s2))) (E1.same s2) ?_ (m1.trans ⟨Chg.same s2, fun b hb => ?_⟩)
          · rw [List.cons_append]
            exact List.nodup_cons.mpr ⟨fun z => (List.mem_append.mp z).elim (nold _ rs.wr) (nold _ E1.wr), nd1⟩
          · rw [List.cons_append] at hb
            rcases List.mem_cons.mp hb with z | z
            · exact .inr (by rw [z]; exact np)
            · exact .inl z
        · cases hm
/-! #### reading what stands there -/
def ixM : M → PyData → Option M
  | .lst xs, .int z => atI xs z
  | .scr ns, .int z => (atI ns z).map fun n => .imm (.int n)
  | .imm d, k => (oIx d k).map .imm
  | _, _ => none
/-- o[k], k a written number -/
def pIx (m : Env' → Option M) (k : Int) : Env' → Option M := fun ρ => (m ρ).bind fun x => ixM x (.int k)
theorem atI_map {α β : Type} (f : α → β) (xs : List α) (z : Int) : atI (xs.map f) z = (atI xs z).map f := by
  unfold atI
  rw [List.length_map]
  cases ixN xs.length z with
  | none => rfl
  | some j => exact List.getElem?_map ..
abbrev rIxA (K : PySem.W.Frag) : R2 := fun x y H Q => rIxL K x y H Q ∨ rIxT K x y H Q ∨ rIxS x y H Q
theorem ixM_ok {H : Hp} {v : V} {x y : M} {f : List Addr} {z : Int} {Q : VK} (r : Rep K T H v x f) (h : ixM x (.int z) = some y) (k : ∀ w g, Rep K T H w y g → (∀ b ∈ g, b ∈ f) → Q w H) : rIxA K v (.int z) H Q := by
  cases r with
  | imm dp n =>
    simp only [ixM] at h
    cases ho : oIx _ (.int z) with
    | none => rw [ho] at h; cases h
    | some d =>
      rw [ho] at h
      cases h
      cases dp with
      | tup s a =>
        obtain ⟨w, h1, h2, h3⟩ := atI_dp a (by simpa [noL] using n) ho
        exact .inr (.inl ⟨_, _, z, w, rfl, rfl, s.sq, h1, k w [] (.imm h2 h3) fun _ h => nomatch h⟩)
      | str b =>
        simp only [oIx] at ho
        split at ho
        · rename_i hl
          cases hc : atI b.cps.toList z with
          | none => rw [hc] at ho; cases ho
          | some c =>
            rw [hc] at ho
            cases ho
            exact .inr (.inr ⟨b, z, c, rfl, rfl, most_le hl, hc, k _ [] (.imm (.str _) rfl) fun _ h => nomatch h⟩)
        · cases ho
      | _ => cases ho
  | scr s =>
    simp only [ixM] at h
    rename_i a ns
    cases hc : atI ns z with
    | none => rw [hc] at h; cases h
    | some c =>
      rw [hc] at h
      cases h
      exact .inl ⟨a, _, z, .int c, rfl, rfl, s.seq, by rw [atI_map, hc]; rfl, k _ [] (.imm (.int c) rfl) fun _ h => nomatch h⟩
  | @lst a vs xs f1 ha rs =>
    simp only [ixM] at h
    unfold atI at h
    cases hj : ixN xs.length z with
    | none => rw [hj] at h; cases h
    | some j =>
      rw [hj] at h
      obtain ⟨w, g, h1, h2, h3⟩ := Reps.at rs (show xs[j]? = some y from h)
      exact .inl ⟨a, vs, z, w, rfl, rfl, SqL.of ha, by
        unfold atI
        rw [rs.len, hj]
        exact h1, k w g h2 fun b hb => List.mem_cons_of_mem _ (h3 b hb)⟩
  | _ => cases h
theorem qp_ix {m : Env' → Option M} {z : Int} {j : Nat} {p3 : Pos} (h : QP T X o m) : QP T X (.Subscript o (.Constant (.int z) j p3) pos) (pIx m z) := by
  obtain ⟨t, ht, q⟩ := h.ex
  refine ⟨_, pe_ix ix_seq ht pe_int (fun _ _ => rfl), fun σ H ρ F y Q E hm k => ?_⟩
  unfold pIx at hm
  cases hx : m ρ with
  | none => rw [hx] at hm; cases hm
  | some x =>
    rw [hx] at hm
    exact q σ H ρ F x _ E hx fun v f r sf => ixM_ok r hm fun w g rg sg => k w g rg fun b hb => sf b (sg b hb)
/-- o[k], k pure: data -/
def eIx (m : Env' → Option M) (mk : Env' → Option PyData) : Env' → Option PyData := fun ρ => (m ρ).bind fun x => (mk ρ).bind fun k => (ixM x k).bind dM
theorem qe_ix {m : Env' → Option M} {mk : Env' → Option PyData} (h : QP T X o m) (ha : QE T X a mk) (hs : PlainIx a) : QE T X (.Subscript o a pos) (eIx m mk) := by
  obtain ⟨t, ht, q⟩ := h.ex
  obtain ⟨tk, hk, qk⟩ := ha.ex
  refine ⟨_, pe_ix ix_seq ht hk hs, fun σ H ρ F d Q E hm k => ?_⟩
  unfold eIx at hm
  cases hx : m ρ with
  | none => rw [hx] at hm; cases hm
  | some x =>
    rw [hx] at hm
    dsimp only [Option.bind] at hm
    cases hz : mk ρ with
    | none => rw [hz] at hm; cases hm
    | some kd =>
      rw [hz] at hm
      dsimp only at hm
      refine q σ H ρ F x _ E hx fun v f r sf => ?_
      refine qk σ H ρ F kd _ E hz fun kv H2 s2 dk nk => ?_
      cases hy : ixM x kd with
      | none => rw [hy] at hm; cases hm
      | some y =>
        rw [hy] at hm
        cases kd with
        | int z =>
          cases dk
          cases y with
          | imm d' =>
            cases hm
            refine ixM_ok (r.keep (Same.kp s2)) hy fun w g rg sg => ?_
            cases rg with
            | imm dp nl => exact k w H2 s2 dp nl
          | _ => cases hm
        | str _ => cases x <;> simp [ixM] at hy; rename_i d0; cases d0 <;> simp [oIx] at hy
        | none => cases x <;> simp [ixM] at hy; rename_i d0; cases d0 <;> simp [oIx] at hy
        | bool _ => cases x <;> simp [ixM] at hy; rename_i d0; cases d0 <;> simp [oIx] at hy
        | tuple _ => cases x <;> simp [ixM] at hy; rename_i d0; cases d0 <;> simp [oIx] at hy
        | list _ => cases x <;> simp [ixM] at hy; rename_i d0; cases d0 <;> simp [oIx] at hy
        | dict _ => cases x <;> simp [ixM] at hy; rename_i d0; cases d0 <;> simp [oIx] at hy
/-- [..][k], a new list, then k -/
def dIxX (m : MM M) (mk : MM PyData) : MM PyData := bindM m fun x => bindM mk fun k => match k with
  | .int z => optM ((ixM x (.int z)).bind dM)
  | _ => fun _ => none
theorem qd_ixX {m : MM M} {mk : MM PyData} (h : QX T X W o m) (ha : QD T X W a mk) (hs : PlainIx a) : QD T X W (.Subscript o a pos) (dIxX m mk) := by
  obtain ⟨t, ht, q⟩ := h.ex
  obtain ⟨tk, hk, qk⟩ := ha.ex
  refine ⟨_, pe_ix ix_seq ht hk hs, fun σ H ρ F r Q E n hm k => ?_⟩
  unfold dIxX bindM at hm
  cases hx : m ρ with
  | none => rw [hx] at hm; cases hm
  | some rx =>
    rw [hx] at hm
    refine q σ H ρ F rx _ E n hx ?_
    cases rx with
    | er c fs ρ1 => cases hm; exact k
    | ok x ρ1 =>
      intro v H1 f F1 rp E1 n1 m1
      have nn := List.nodup_append.mp n1
      have mF : Mv F H F1 H1 := m1.sub fun _ h => List.mem_append_right _ h
      dsimp only at hm
      cases hz : mk ρ1 with
      | none => rw [hz] at hm; cases hm
      | some rk =>
        rw [hz] at hm
        refine qk σ H1 ρ1 F1 rk _ E1 nn.2.1 hz ?_
        cases rk with
        | er c fs ρ2 => cases hm; exact XOk.from k mF
        | ok kd ρ2 =>
          intro kv H2 F2 dk nk E2 n2 m2
          dsimp only at hm
          cases kd with
          | int z =>
            cases dk
            dsimp only [optM] at hm
            cases hy : ixM x (.int z) with
            | none => rw [hy] at hm; cases hm
            | some y =>
              rw [hy] at hm
              cases y with
              | imm d' =>
                cases hm
                have ap := m2.apart E1.wr rp.wr fun b hb hf => nn.2.2 b hb b hf rfl
                refine ixM_ok (rp.keep ap.1) hy fun w g rg sg => ?_
                cases rg with
                | imm dp nl => exact k w H2 F2 dp nl E2 n2 (mF.trans m2)
              | _ => cases hm
          | _ => cases hm
/-- o[k], o a name, then k -/
def dIxV (i : Nat) (mk : MM PyData) : MM PyData := fun ρ => match ρ[i]? with
  | some (some _) => bindM mk (fun k ρ1 => match k, ρ1[i]? with
      | .int z, some (some x) => ((ixM x (.int z)).bind dM).map fun d => .ok d ρ1
      | _, _ => none) ρ
  | _ => none
theorem qd_ixV {i : Nat} {mk : MM PyData} (h : PE X o (tVar i)) (ha : QD T X W a mk) (hs : PlainIx a) : QD T X W (.Subscript o a pos) (dIxV i mk) := by
  obtain ⟨tk, hk, qk⟩ := ha.ex
  refine ⟨_, pe_ix ix_seq h hk hs, fun σ H ρ F r Q E n hm k => ?_⟩
  unfold dIxV at hm
  split at hm
  · rename_i x0 hx0
    obtain ⟨v0, f0, g0, _, _⟩ := E.get hx0
    refine ⟨v0, g0, ?_⟩
    unfold bindM at hm
    cases hz : mk ρ with
    | none => rw [hz] at hm; cases hm
    | some rk =>
      rw [hz] at hm
      refine qk σ H ρ F rk _ E n hz ?_
      cases rk with
      | er c fs ρ2 => cases hm; exact k
      | ok kd ρ2 =>
        intro kv H2 F2 dk nk E2 n2 m2
        dsimp only at hm
        split at hm
        · rename_i z x hx
          cases dk
          obtain ⟨v, f, g1, rp, sf⟩ := E2.get hx
          have ev : v0 = v := by
            rw [g0] at g1
            exact Option.some.inj (Option.some.inj g1)
          subst ev
          cases hy : ixM x (.int z) with
          | none => rw [hy] at hm; cases hm
          | some y =>
            rw [hy] at hm
            cases y with
            | imm d' =>
              cases hm
              refine ixM_ok rp hy fun w g rg sg => ?_
              cases rg with
              | imm dp nl => exact k w H2 F2 dp nl E2 n2 m2
            | _ => cases hm
        · cases hm
  · cases hm
end
/-! ### a loop over a list that stands at a slot -/
open Classical in
noncomputable def loopV (i : Nat) (p : Pt) (mb : MM Fl) : List PyData → MM Fl
  | [] => pureM .nx
  | d :: ds => fun ρ => match bindP p d ρ with
    | none => none
    | some ρ1 => match mb ρ1 with
      | none => none
      | some (.ok .nx ρ2) => if ρ2[i]? = ρ[i]? then loopV i p mb ds ρ2 else none
      | some (.ok .ct ρ2) => if ρ2[i]? = ρ[i]? then loopV i p mb ds ρ2 else none
      | some (.ok .bk ρ2) => some (.ok .nx ρ2)
      | some (.ok (.rt x) ρ2) => some (.ok (.rt x) ρ2)
      | some (.er c fs ρ2) => some (.er c fs ρ2)
noncomputable def forV (i : Nat) (p : Pt) (mb : MM Fl) : MM Fl := fun ρ => match ρ[i]? with
  | some (some x) => match lstL x with
    | some items => loopV i p mb items ρ
    | none => none
  | _ => none
section
variable {T : Tb} {S S' : List Nat} {X : Cx} {W : WXk} {e a b c tg : Expr} {es rest : List Expr} {st : Stmt} {sts body : List Stmt} {pos p2 : Pos}
theorem lstL_dp {K : PySem.W.Frag} {H : Hp} {v : V} {x : M} {f : List Addr} {ds : List PyData} (r : Rep K T H v x f) (h : lstL x = some ds) : ∃ a vs, v = .ref a ∧ SqL K H a vs ∧ DqAll K H vs ds ∧ noLs ds = true := by
  cases r with
  | @lst a vs xs f1 ha rs =>
    obtain ⟨h1, h2, _⟩ := immL_dp rs h
    exact ⟨a, vs, rfl, SqL.of ha, h1, h2⟩
  | @scr a ns sa =>
    cases h
    exact ⟨a, _, rfl, sa.seq, dpAll_ints ns, noLs_ints ns⟩
  | _ => cases h
theorem qs_forV {i : Nat} {p : Pt} {mb : MM Fl} (mk : ∀ g tb, PG X tg g → PSs X body tb → PS X st (tFor (iList X.K (tVar i)) g tb)) (hg : QG T (i :: S) X tg p) (hb : QSs T (i :: S) X W body mb) : QS T S X W st (forV i p mb) := by
  obtain ⟨g, h2, q2⟩ := hg.ex
  obtain ⟨tb, h3, q3⟩ := hb.ex
  refine ⟨_, mk g tb h2 h3, fun σ H ρ F r D E n hm k => ?_⟩
  unfold forV at hm
  split at hm
  · rename_i x hx
    split at hm
    · rename_i items hit
      obtain ⟨v, f, g1, rp, _⟩ := E.get hx
      obtain ⟨a, vs0, rfl, sq, _, _⟩ := lstL_dp rp hit
      refine ⟨_, g1, a, rfl, ⟨vs0, sq⟩, ?_⟩
      refine ⟨fun j mm σ' H' => mm = items.length - j ∧ j ≤ items.length ∧ ∃ ρ' F', EnvR X.K T H' σ' ρ' F' ∧ F'.Nodup ∧ Stb (i :: S) σ σ' ∧ Mv F H F' H' ∧ ρ'[i]? = some (some x) ∧ loopV i p mb (items.drop j) ρ' = some r,
        ⟨_, rfl, Nat.zero_le _, ρ, F, E, n, Stb.refl σ, Mv.refl (fun _ h => h), hx, hm⟩, ?_⟩
      rintro j mm σ2 H2 ⟨rfl, hle, ρ2, F2, E2, n2, s2, m2, hx2, hl⟩
      have ss : ∀ {σ3 : L2.St}, Stb (i :: S) σ σ3 → Stb S σ σ3 := fun s => s.sub fun b hb => List.mem_cons_of_mem _ hb
      obtain ⟨v2, f2, g2, rp2, _⟩ := E2.get hx2
      have ev : V.ref a = v2 := by
        have := s2 i List.mem_cons_self
        rw [g2, g1] at this
        exact (Option.some.inj (Option.some.inj this)).symm
      subst ev
      obtain ⟨a', vs, ea, sq2, al2, nl2⟩ := lstL_dp rp2 hit
      cases ea
      have hlen := dpAll_len al2
      by_cases hlt : j < items.length
      · obtain ⟨w, hw, dw⟩ := dpAll_at al2 (List.getElem?_eq_getElem hlt)
        refine .inr ⟨⟨vs, w, sq2, hw⟩, fun σ3 H3 => ∃ ρ3 F3, EnvR X.K T H3 σ3 ρ3 F3 ∧ F3.Nodup ∧ Stb (i :: S) σ σ3 ∧ Mv F H F3 H3 ∧ ρ3[i]? = some (some x) ∧ loopV i p mb (items.drop (j + 1)) ρ3 = some r,
          fun σ3 H3 h => ⟨items.length - (j + 1), by omega, rfl, hlt, h⟩, fun y H3 yy => ?_⟩
        obtain ⟨rfl, yy⟩ := yy
        have ey := yy vs sq2
        rw [hw] at ey
        cases ey
        have hdr : items.drop j = items[j] :: items.drop (j + 1) := List.drop_eq_getElem_cons hlt
        rw [hdr] at hl
        simp only [loopV] at hl
        cases hbp : bindP p items[j] ρ2 with
        | none => rw [hbp] at hl; cases hl
        | some ρ3 =>
          rw [hbp] at hl
          dsimp only at hl
          refine q2 w σ2 H3 ρ2 ρ3 F2 items[j] _ E2 n2 dw (noLs_at nl2 (List.getElem?_eq_getElem hlt)) hbp fun σ4 F4 s4 E4 n4 f4 => ?_
          cases hmb : mb ρ3 with
          | none => rw [hmb] at hl; cases hl
          | some r4 =>
            rw [hmb] at hl
            have m34 : Mv F H F4 H3 := m2.sub f4
            refine q3 σ4 H3 ρ3 F4 r4 _ E4 n4 hmb ?_
            cases r4 with
            | er c fs ρ5 =>
              cases hl
              exact fun σ5 d5 H5 F5 s5 xd E5 n5 m5 => k σ5 d5 H5 F5 (ss ((s2.trans s4).trans s5)) xd E5 n5 (m34.trans m5)
            | ok f ρ5 =>
              cases f with
              | nx =>
                dsimp only at hl
                split at hl
                · rename_i heq
                  exact fun σ5 H5 F5 s5 E5 n5 m5 => ⟨ρ5, F5, E5, n5, (s2.trans s4).trans s5, m34.trans m5, heq.trans hx2, hl⟩
                · cases hl
              | ct =>
                dsimp only at hl
                split at hl
                · rename_i heq
                  exact fun σ5 H5 F5 s5 E5 n5 m5 => ⟨ρ5, F5, E5, n5, (s2.trans s4).trans s5, m34.trans m5, heq.trans hx2, hl⟩
                · cases hl
              | bk =>
                cases hl
                exact fun σ5 H5 F5 s5 E5 n5 m5 => k σ5 H5 F5 (ss ((s2.trans s4).trans s5)) E5 n5 (m34.trans m5)
              | rt z =>
                cases hl
                exact fun v σ5 H5 f5 F5 s5 rp E5 n5 m5 => k v σ5 H5 f5 F5 (ss ((s2.trans s4).trans s5)) rp E5 n5 (m34.trans m5)
      · have e : j = items.length := by omega
        subst e
        rw [List.drop_length] at hl
        cases hl
        exact .inl ⟨⟨vs, sq2, by rw [hlen] <;> exact Nat.le_refl _⟩, k σ2 H2 F2 (ss s2) E2 n2 m2⟩
    · cases hm
  · cases hm
/-! ### fields -/
theorem lookupF {K : PySem.W.Frag} {H : Hp} {f : Str} {x : M} : ∀ {fvs : List (Str × V)} {fs : List (Str × M)} {F : List Addr}, fvs.map Prod.fst = fs.map Prod.fst → Reps K T H (fvs.map Prod.snd) (fs.map Prod.snd) F → fs.lookup f = some x →
    ∃ v g, fvs.lookup f = some v ∧ Rep K T H v x g ∧ ∀ b ∈ g, b ∈ F
  | [], [], _, _, _, h => by cases h
  | [], _ :: _, _, e, _, _ => by cases e
  | _ :: _, [], _, e, _, _ => by cases e
  | (n, v) :: fvs, (n', y) :: fs, _, e, r, h => by
    simp only [List.map_cons, List.cons.injEq] at e
    obtain ⟨e1, e2⟩ := e
    subst e1
    simp only [List.map_cons] at r
    cases r with
    | cons a r =>
      rw [List.lookup_cons] at h ⊢
      cases hn : f == n with
      | true =>
        rw [hn] at h
        cases h
        exact ⟨v, _, rfl, a, fun b hb => List.mem_append_left _ hb⟩
      | false =>
        rw [hn] at h
        obtain ⟨w, g, h1, h2, h3⟩ := lookupF e2 r h
        exact ⟨w, g, h1, h2, fun b hb => List.mem_append_right _ (h3 b hb)⟩
theorem lookupD {K : PySem.W.Frag} {H : Hp} {f : Str} {x : PyData} : ∀ {fvs : List (Str × V)} {fs : List (Str × PyData)}, fvs.map Prod.fst = fs.map Prod.fst → DqAll K H (fvs.map Prod.snd) (fs.map Prod.snd) → noLs (fs.map Prod.snd) = true → fs.lookup f = some x →
    ∃ v, fvs.lookup f = some v ∧ Dq K H v x ∧ noL x = true
  | [], [], _, _, _, h => by cases h
  | [], _ :: _, e, _, _, _ => by cases e
  | _ :: _, [], e, _, _, _ => by cases e
  | (n, v) :: fvs, (n', y) :: fs, e, r, nl, h => by
    simp only [List.map_cons, List.cons.injEq] at e
    obtain ⟨e1, e2⟩ := e
    subst e1
    simp only [List.map_cons] at r
    simp only [List.map_cons, noLs, Bool.and_eq_true] at nl
    cases r with
    | cons a r =>
      rw [List.lookup_cons] at h ⊢
      cases hn : f == n with
      | true =>
        rw [hn] at h
        cases h
        exact ⟨v, rfl, a, nl.1⟩
      | false =>
        rw [hn] at h
        obtain ⟨w, h1, h2⟩ := lookupD e2 r nl.2 h
        exact ⟨w, h1, h2⟩
def fldM (c : Nat) (f : Str) : M → Option M
  | .ins c' fs => if c' = c then fs.lookup f else none
  | .fro c' fs => if c' = c then (fs.lookup f).map .imm else none
  | _ => none
def pFld (c : Nat) (f : Str) (m : Env' → Option M) : Env' → Option M := fun ρ => (m ρ).bind (fldM c f)
theorem qp_fld {c : Nat} {f : Str} {o : Expr} {m : Env' → Option M} (cl : Cls X.K (T.ca c)) (na : NoAttr X.K (T.ca c) f) (h : QP T X o m) (hb : attributeBase o f X.env (eval o X.env) = eval o X.env := by rfl) : QP T X (.Attribute o f pos) (pFld c f m) := by
  obtain ⟨t, ht, q⟩ := h.ex
  refine ⟨_, pe_fld ht hb, fun σ H ρ F y Q E hm k => ?_⟩
  unfold pFld at hm
  cases hx : m ρ with
  | none => rw [hx] at hm; cases hm
  | some x =>
    rw [hx] at hm
    refine q σ H ρ F x _ E hx fun v g r sg => ?_
    dsimp only [Option.bind] at hm
    cases r with
    | @ins a dx c' fvs fs g1 ha hz he rs =>
      simp only [fldM] at hm
      split at hm
      · rename_i ec
        subst ec
        obtain ⟨w, g2, h1, h2, h3⟩ := lookupF he rs hm
        exact ⟨a, _, dx, fvs, w, rfl, ha, cl, na, h1, k w g2 h2 fun b hb => sg b (List.mem_cons_of_mem _ (h3 b hb))⟩
      · cases hm
    | @fro a dx c' fvs fs ha hz he al nl =>
      simp only [fldM] at hm
      split at hm
      · rename_i ec
        subst ec
        cases hl : fs.lookup f with
        | none => rw [hl] at hm; cases hm
        | some d =>
          rw [hl] at hm
          cases hm
          obtain ⟨w, h1, h2, h3⟩ := lookupD he al nl hl
          exact ⟨a, _, dx, fvs, w, rfl, ha, cl, na, h1, k w [] (.imm h2 h3) fun _ h => nomatch h⟩
      · cases hm
    | _ => cases hm
/-! ### tables of the module: a dict with texts as keys -/
structure KTab (K : PySem.W.Frag) (T : Tb) (w : World) (a : Addr) (tab : List (Str × M)) : Prop where
  dict : ∃ es n, KDict K w a es n
  has : ∀ z x, tab.lookup z = some x → ∃ u v, PySem.W.nsIn K a z = some (some u) ∧ RelV v u ∧ ∀ H, Rep K T H v x []
  not : ∀ z, tab.lookup z = none → PySem.W.nsIn K a z = some none
def tabM (tab : List (Str × M)) (m : MM PyData) : MM M := bindM m fun d => match d with | .str z => optM (tab.lookup z) | _ => fun _ => none
/-- TABLE[key] -/
theorem qx_tab {o : Expr} {a' : Addr} {tab : List (Str × M)} {m : MM PyData} (D : KTab X.K T X.w a' tab) (ho : PE X o (tC (.ref a'))) (h : QD T X W a m) (hs : PlainIx a) : QX T X W (.Subscript o a pos) (tabM tab m) := by
  obtain ⟨t, ht, q⟩ := h.ex
  refine ⟨_, pe_ix ix_kdict ho ht hs, fun σ H ρ F r Q E n hm k => ?_⟩
  unfold tabM bindM at hm
  cases hx : m ρ with
  | none => rw [hx] at hm; cases hm
  | some rx =>
    rw [hx] at hm
    refine q σ H ρ F rx _ E n hx ?_
    cases rx with
    | er c fs ρ1 => cases hm; exact k
    | ok d ρ1 =>
      intro v H1 F1 dp nl E1 n1 m1
      cases d with
      | str z =>
        cases dp
        dsimp only [optM] at hm
        cases hl : tab.lookup z with
        | none => rw [hl] at hm; cases hm
        | some x =>
          rw [hl] at hm
          cases hm
          obtain ⟨es, nn, kd⟩ := D.dict
          obtain ⟨u, w, h1, h2, h3⟩ := D.has z x hl
          exact ⟨a', z, w, rfl, rfl, ⟨es, nn, u, kd.at_, kd.lit, h1, h2⟩, k w H1 [] F1 (h3 H1) E1 n1 m1⟩
      | _ => cases hm
def oTabIn (tab : List (Str × M)) : PyData → Option PyData
  | .str z => some (.bool (tab.lookup z).isSome)
  | _ => none
def dTabIn (tab : List (Str × M)) (m : MM PyData) : MM PyData := bindM m fun d => optM (oTabIn tab d)
theorem ktab_in {K : PySem.W.Frag} {w : World} {a' : Addr} {tab : List (Str × M)} (D : KTab K T w a' tab) (z : Str) : ∃ r, PySem.W.nsIn K a' z = some r ∧ r.isSome = (tab.lookup z).isSome := by
  cases hl : tab.lookup z with
  | none => exact ⟨_, D.not z hl, rfl⟩
  | some x =>
    obtain ⟨u, v, h1, _⟩ := D.has z x hl
    exact ⟨_, h1, rfl⟩
/-- key in TABLE, key not in TABLE, as tests -/
theorem qt_tabIn {o : Expr} {a' : Addr} {tab : List (Str × M)} {m : MM PyData} (D : KTab X.K T X.w a' tab) (ho : PE X o (tC (.ref a'))) (h : QD T X W a m) (hmk : behindInMarks .In o = false := by rfl) : QT T X W (.Compare a [.In] [o] pos) (tM (dTabIn tab m)) := by
  obtain ⟨t, ht, q⟩ := h.ex
  obtain ⟨es, nn, kd⟩ := D.dict
  refine ⟨_, pt_cmpR (op_in_kd kd) ht ho hmk, fun σ H ρ F r Q E n hm k => ?_⟩
  unfold tM dTabIn bindM at hm
  cases hx : m ρ with
  | none => rw [hx] at hm; cases hm
  | some rx =>
    rw [hx] at hm
    refine q σ H ρ F rx _ E n hx ?_
    cases rx with
    | er c fs ρ1 => cases hm; exact k
    | ok d ρ1 =>
      intro v H1 F1 dp nl E1 n1 m1
      cases d with
      | str z =>
        cases dp
        cases hm
        obtain ⟨r, h1, h2⟩ := ktab_in D z
        exact ⟨z, r, rfl, rfl, h1, _, rfl, by rw [h2]; exact k H1 F1 E1 n1 m1⟩
      | _ => cases hm
def oTabNot (tab : List (Str × M)) : PyData → Option PyData
  | .str z => some (.bool (!(tab.lookup z).isSome))
  | _ => none
def dTabNot (tab : List (Str × M)) (m : MM PyData) : MM PyData := bindM m fun d => optM (oTabNot tab d)
theorem qt_tabNot {o : Expr} {a' : Addr} {tab : List (Str × M)} {m : MM PyData} (D : KTab X.K T X.w a' tab) (ho : PE X o (tC (.ref a'))) (h : QD T X W a m) (hmk : behindInMarks .NotIn o = false := by rfl) : QT T X W (.Compare a [.NotIn] [o] pos) (tM (dTabNot tab m)) := by
  obtain ⟨t, ht, q⟩ := h.ex
  obtain ⟨es, nn, kd⟩ := D.dict
  refine ⟨_, pt_cmpR (op_notIn_kd kd) ht ho hmk, fun σ H ρ F r Q E n hm k => ?_⟩
  unfold tM dTabNot bindM at hm
  cases hx : m ρ with
  | none => rw [hx] at hm; cases hm
  | some rx =>
    rw [hx] at hm
    refine q σ H ρ F rx _ E n hx ?_
    cases rx with
    | er c fs ρ1 => cases hm; exact k
    | ok d ρ1 =>
      intro v H1 F1 dp nl E1 n1 m1
      cases d with
      | str z =>
        cases dp
        cases hm
        obtain ⟨r, h1, h2⟩ := ktab_in D z
        exact ⟨z, r, rfl, rfl, h1, _, rfl, by rw [h2]; exact k H1 F1 E1 n1 m1⟩
      | _ => cases hm
/-! ### a call of a def that a name holds -/
theorem pe_callV {Φ : Nat → Sp} {n i k : Nat} {x : Str} {p : Pos} {t : TA} (A : ∀ j, j < n → Held X.prog X.w X.K X.mg X.base k (T.fa j) (Φ j)) (hr : Room k X.A) (hN : X.N[i]? = some x) (hv : Vis X.env.scope x) (ha : PA X (e :: es) t)
    (hdb : (x == ("__debug__" : Str)) = false := by decide) (hcd : (x == ("__classdict__" : Str)) = false := by decide)
    (he : starEach (e :: es) X.env = (false, eval e X.env) :: starEach es X.env := by rfl) (hpl : (backTo pos (starEach es X.env)).any (·.1) = false := by rfl) :
    PE X (.Call (.Name x p) (e :: es) [] pos) (fun σ H Q => ∃ j, j < n ∧ σ[i]? = some (some (.ref (T.fa j))) ∧ t σ H fun vs H1 => Φ j vs H1 Q (fun _ _ _ => False)) := by
  refine ⟨fun pins s σ H Q I h => ?_⟩
  obtain ⟨j, hj, hs, ht⟩ := h
  obtain ⟨fd, ps, F, hk, hb⟩ := (A j hj).ex
  refine (pe_callL (i := i) (f := T.fa j) (sp := Φ j) (dvs := []) (E := fun _ _ _ => False) F hr hN hv hk hb .nil (fun _ _ _ _ _ _ _ z => z.elim) ha hdb hcd he hpl).run pins s σ H Q I ⟨hs, ?_⟩
  have e0 : (fun (vs : List V) (H1 : Hp) => Φ j (vs ++ []) H1 Q (fun _ _ _ => False)) = fun vs H1 => Φ j vs H1 Q (fun _ _ _ => False) := by
    funext vs H1
    rw [List.append_nil]
  show t σ H (fun vs H1 => Φ j (vs ++ []) H1 Q (fun _ _ _ => False))
  rw [e0]
  exact ht
def xCallV (i n k : Nat) (Φ : Nat → List M → Option (Rs (List M) M)) (m : MM (List Aw)) : MM M := fun ρ => match ρ[i]? with
  | some (some (.fn j)) => if j < n then xCall k (Φ j) m ρ else none
  | _ => none
theorem qx_callV {i n k : Nat} {Φ : Nat → List M → Option (Rs (List M) M)} {m : MM (List Aw)} (mk : ∀ t, PA X es t → PE X e (fun σ H Q => ∃ j, j < n ∧ σ[i]? = some (some (.ref (T.fa j))) ∧ t σ H fun vs H1 => spX X.K T k (Φ j) vs H1 Q (fun _ _ _ => False))) (h : QAr T X W es m) : QX T X W e (xCallV i n k Φ m) := by
  obtain ⟨t, ht, q⟩ := h.ex
  refine ⟨_, mk t ht, fun σ H ρ F r Q En nd hm kk => ?_⟩
  unfold xCallV at hm
  split at hm
  · rename_i j hj
    split at hm
    · rename_i hlt
      obtain ⟨v, f, g1, rp, _⟩ := En.get hj
      cases rp
      refine ⟨j, hlt, g1, ?_⟩
      unfold xCall bindM at hm
      cases hx : m ρ with
      | none => rw [hx] at hm; cases hm
      | some rx =>
        rw [hx] at hm
        refine q σ H ρ F rx _ En nd hx ?_
        cases rx with
        | er c fs ρ1 => cases hm; exact kk
        | ok as ρ1 =>
          intro vs H1 fo F1 aw E1 nd1 m1
          dsimp only at hm
          cases htk : takes as ρ1 with
          | none => rw [htk] at hm; cases hm
          | some p =>
            obtain ⟨xs, ρ2⟩ := p
            rw [htk] at hm
            dsimp only at hm
            split at hm
            · rename_i hl
              exact call_go aw E1 nd1 m1 htk hl hm kk
            · cases hm
    · cases hm
  · cases hm
end
/-! ### comparisons, as a value and as a test -/
section
variable {K : PySem.W.Frag} {T : Tb} {X : Cx} {W : WXk} {e a b c o tg : Expr} {es rest : List Expr} {st : Stmt} {S : List Nat} {pos p2 : Pos}
structure QC (T : Tb) (X : Cx) (W : WXk) (e : Expr) (m : MM PyData) : Prop where
  ex : ∃ t : TE, PE X e t ∧ PT X e (tTest t) ∧ ∀ (σ : L2.St) (H : Hp) (ρ : Env') (F : List Addr) (r : Rs Env' PyData) (Q : VK), EnvR X.K T H σ ρ F → F.Nodup → m ρ = some r → GoD X.K T W H F σ r Q → t σ H Q
theorem qd_c {m : MM PyData} (h : QC T X W e m) : QD T X W e m := by
  obtain ⟨t, ht, _, q⟩ := h.ex
  exact ⟨t, ht, q⟩
theorem qt_c {m : MM PyData} (h : QC T X W e m) : QT T X W e (tM m) := by
  obtain ⟨t, h1, h2, q⟩ := h.ex
  refine ⟨_, h2, fun σ H ρ F r Q E n hm k => ?_⟩
  show t σ H fun x H' => ∃ k, x = .bl k ∧ Q k H'
  unfold tM bindM at hm
  cases hd : m ρ with
  | none => rw [hd] at hm; cases hm
  | some r1 =>
    rw [hd] at hm
    refine q σ H ρ F r1 _ E n hd ?_
    cases r1 with
    | ok d ρ1 =>
      cases d with
      | bool b =>
        cases hm
        intro v H' F' dp nl E' n' mv
        cases dp
        exact ⟨b, rfl, k H' F' E' n' mv⟩
      | _ => cases hm
    | er c fs ρ1 =>
      cases hm
      exact k
theorem qc_2 {op : CmpOp} {r : R2} {o : PyData → PyData → Option PyData} {ma mb : MM PyData} (ho : OpR X (compareOp op) r) (s : Snd2 X.K r o) (hm : behindInMarks op b = false) (ha : QD T X W a ma) (hb : QD T X W b mb) :
    QC T X W (.Compare a [op] [b] pos) (d2 o ma mb) := by
  obtain ⟨ta, h1, q1⟩ := ha.ex
  obtain ⟨tb, h2, q2⟩ := hb.ex
  refine ⟨tOp r ta tb, pe_cmpR ho h1 h2 hm, pt_cmpR ho h1 h2 hm, fun σ H ρ F res Q E n hm k => ?_⟩
  unfold d2 bindM at hm
  cases hx : ma ρ with
  | none => rw [hx] at hm; cases hm
  | some rx =>
    rw [hx] at hm
    refine q1 σ H ρ F rx _ E n hx ?_
    cases rx with
    | er c fs ρ1 => cases hm; exact k
    | ok x ρ1 =>
      intro u H1 F1 d1 n1 E1 nd1 m1
      dsimp only at hm
      cases hy : mb ρ1 with
      | none => rw [hy] at hm; cases hm
      | some ry =>
        rw [hy] at hm
        refine q2 σ H1 ρ1 F1 ry _ E1 nd1 hy ?_
        cases ry with
        | er c fs ρ2 => cases hm; exact XOk.from k m1
        | ok y ρ2 =>
          intro v H2 F2 d2 n2 E2 nd2 m2
          dsimp only [optM] at hm
          cases hz : o x y with
          | none => rw [hz] at hm; cases hm
          | some z =>
            rw [hz] at hm
            cases hm
            refine s H2 u v x y z Q (dp_keepX (m2.c.kp (g := []) E1.wr (fun _ h => nomatch h)).x n1 d1) n1 d2 n2 hz fun w H3 s3 dz nz => ?_
            exact k w H3 F2 dz nz (E2.same s3) nd2 ((m1.trans m2).trans (Mv.same s3 fun _ h => h))
/-- a in a list -/
def inL (neg : Bool) (a : PyData) (x : M) : Option PyData := match lstL x with
  | some ds => (inB a ds).map fun c => .bool (if neg then !c else c)
  | none => none
theorem inL_ok {H : Hp} {u v : V} {p z : PyData} {x : M} {f : List Addr} {neg : Bool} {Q : VK} (dx : Dq K H u p) (r : Rep K T H v x f) (h : inL neg p x = some z) (k : ∀ v, Dq K H v z → noL z = true → Q v H) : rIn K neg u v H Q := by
  unfold inL at h
  split at h
  · rename_i ds hl
    cases hc : inB p ds with
    | none => rw [hc] at h; cases h
    | some c =>
      rw [hc] at h
      cases h
      obtain ⟨a, vs, rfl, s, al, nl⟩ := lstL_dp r hl
      obtain ⟨h1, h2, rfl⟩ := inB_ok dx al hc
      exact ⟨a, vs, rfl, .inl s, h1, h2, k _ (.bl _) rfl⟩
  · cases h
def dInX (neg : Bool) (m : MM PyData) (k : MM M) : MM PyData := bindM m fun d => bindM k fun x => optM (inL neg d x)
theorem qc_inX {op : CmpOp} {neg : Bool} {m : MM PyData} {mk : MM M} (ho : OpR X (compareOp op) (rIn X.K neg)) (hmk : behindInMarks op b = false) (ha : QD T X W a m) (hb : QX T X W b mk) : QC T X W (.Compare a [op] [b] pos) (dInX neg m mk) := by
  obtain ⟨ta, h1, q1⟩ := ha.ex
  obtain ⟨tb, h2, q2⟩ := hb.ex
  refine ⟨tOp _ ta tb, pe_cmpR ho h1 h2 hmk, pt_cmpR ho h1 h2 hmk, fun σ H ρ F res Q E n hm k => ?_⟩
  unfold dInX bindM at hm
  cases hx : m ρ with
  | none => rw [hx] at hm; cases hm
  | some rx =>
    rw [hx] at hm
    refine q1 σ H ρ F rx _ E n hx ?_
    cases rx with
    | er c fs ρ1 => cases hm; exact k
    | ok x ρ1 =>
      intro u H1 F1 d1 n1 E1 nd1 m1
      dsimp only at hm
      cases hy : mk ρ1 with
      | none => rw [hy] at hm; cases hm
      | some ry =>
        rw [hy] at hm
        refine q2 σ H1 ρ1 F1 ry _ E1 nd1 hy ?_
        cases ry with
        | er c fs ρ2 => cases hm; exact XOk.from k m1
        | ok y ρ2 =>
          intro v H2 f2 F2 r2 E2 nd2 m2
          dsimp only [optM] at hm
          cases hz : inL neg x y with
          | none => rw [hz] at hm; cases hm
          | some z =>
            rw [hz] at hm
            cases hm
            refine inL_ok (dp_keepX (m2.c.kp (g := []) E1.wr (fun _ h => nomatch h)).x n1 d1) r2 hz fun w dz nz => ?_
            exact k w H2 F2 dz nz E2 (List.nodup_append.mp nd2).2.1 ((m1.trans m2).sub fun _ h => List.mem_append_right _ h)
def dInP (neg : Bool) (m : MM PyData) (k : Env' → Option M) : MM PyData := bindM m fun d ρ => ((k ρ).bind fun x => inL neg d x).map fun z => .ok z ρ
theorem qc_inP {op : CmpOp} {neg : Bool} {m : MM PyData} {mk : Env' → Option M} (ho : OpR X (compareOp op) (rIn X.K neg)) (hmk : behindInMarks op b = false) (ha : QD T X W a m) (hb : QP T X b mk) : QC T X W (.Compare a [op] [b] pos) (dInP neg m mk) := by
  obtain ⟨ta, h1, q1⟩ := ha.ex
  obtain ⟨tb, h2, q2⟩ := hb.ex
  refine ⟨tOp _ ta tb, pe_cmpR ho h1 h2 hmk, pt_cmpR ho h1 h2 hmk, fun σ H ρ F res Q E n hm k => ?_⟩
  unfold dInP bindM at hm
  cases hx : m ρ with
  | none => rw [hx] at hm; cases hm
  | some rx =>
    rw [hx] at hm
    refine q1 σ H ρ F rx _ E n hx ?_
    cases rx with
    | er c fs ρ1 => cases hm; exact k
    | ok x ρ1 =>
      intro u H1 F1 d1 n1 E1 nd1 m1
      dsimp only at hm
      cases hy : mk ρ1 with
      | none => rw [hy] at hm; cases hm
      | some y =>
        rw [hy] at hm
        dsimp only [Option.bind] at hm
        refine q2 σ H1 ρ1 F1 y _ E1 hy fun v f r _ => ?_
        cases hz : inL neg x y with
        | none => rw [hz] at hm; cases hm
        | some z =>
          rw [hz] at hm
          cases hm
          exact inL_ok d1 r hz fun w dz nz => k w H1 F1 dz nz E1 nd1 m1
/-! ### constants of the module -/
mutual
inductive KLit (K : PySem.W.Frag) : Value → PyData → Prop
  | none : KLit K .none .none
  | bool (b : Bool) : KLit K (.bool b) (.bool b)
  | int (i : Int) (t : Tok) : KLit K (.int i t) (.int i)
  | str (s : Str) (t : Tok) : KLit K (.str s t) (.str s)
  | tup {a : Addr} {its : Array Value} {n : Nat} {sl : Array (Option Value)} {us : List Value} {ds : List PyData} : K.lookup a = some ⟨.type "tuple", none, .seq its n, sl⟩ → its.toList = us → us.length ≤ 1000 → KLits K us ds → KLit K (.ref a) (.tuple ds)
inductive KLits (K : PySem.W.Frag) : List Value → List PyData → Prop
  | nil : KLits K [] []
  | cons {u : Value} {d : PyData} {us : List Value} {ds : List PyData} : KLit K u d → KLits K us ds → KLits K (u :: us) (d :: ds)
end
mutual
theorem KLit.dp : ∀ {u : Value} {d : PyData}, KLit K u d → ∃ v, RelV v u ∧ (∀ H, Dq K H v d) ∧ noL d = true
  | _, _, .none => ⟨.non, rfl, fun _ => .non, rfl⟩
  | _, _, .bool b => ⟨.bl b, rfl, fun _ => .bl b, rfl⟩
  | _, _, .int i t => ⟨.int i, ⟨t, rfl⟩, fun _ => .int i, rfl⟩
  | _, _, .str s t => ⟨.str s, ⟨t, rfl⟩, fun _ => .str s, rfl⟩
  | _, _, .tup (a := a) (its := its) (n := n) h e hl r => by
    obtain ⟨vs, h1, h2, h3⟩ := KLits.dp r
    refine ⟨.ref a, rfl, fun H => .tup (.inr ⟨_, its, n, h, ⟨rfl, rfl⟩, rfl, ?_, ?_⟩) (h2 H), by simpa [noL] using h3⟩
    · have : its.size = its.toList.length := by simp
      rw [this, e]
      exact Nat.le_trans hl (by decide)
    · rw [e]
      exact h1
theorem KLits.dp : ∀ {us : List Value} {ds : List PyData}, KLits K us ds → ∃ vs, Vals vs us ∧ (∀ H, DqAll K H vs ds) ∧ noLs ds = true
  | _, _, .nil => ⟨[], .nil, fun _ => .nil, rfl⟩
  | _, _, .cons a r => by
    obtain ⟨v, h1, h2, h3⟩ := KLit.dp a
    obtain ⟨vs, g1, g2, g3⟩ := KLits.dp r
    exact ⟨v :: vs, .cons h1 g1, fun H => .cons (h2 H) (g2 H), by simp [noLs, h3, g3]⟩
end
theorem qe_k {x : Str} {u : Value} {d : PyData} (hg : Gl X x) (hm : X.mg x = some u) (q : KLit X.K u d) (hd : (x == ("__debug__" : Str)) = false := by decide) : QE T X (.Name x pos) (eC d) := by
  obtain ⟨v, h1, h2, h3⟩ := q.dp
  exact qe_c (pe_glob hg hm h1 hd) h2 h3
def KeysAre : List DictEntry → List Str → Prop
  | [], [] => True
  | e :: r, k :: ks => (∃ t, e.key = .str k t) ∧ KeysAre r ks
  | _, _ => False
theorem key_miss {w : World} {a : Addr} {es : Array DictEntry} {n : Nat} {ks : List Str} {x : Str} (D : KDict K w a es n) (g : KeysAre es.toList ks) (h : ¬ x ∈ ks) : PySem.W.nsIn K a x = some none := by
  have go : ∀ (l : List DictEntry) (ks : List Str), KeysAre l ks → ¬ x ∈ ks → l.find? (·.key.isStr x) = none ∧ l.any (·.refKey) = false := by
    intro l
    induction l with
    | nil => exact fun _ _ _ => ⟨rfl, rfl⟩
    | cons e r ih =>
      intro ks g h
      cases ks with
      | nil => exact absurd g id
      | cons k ks =>
        obtain ⟨⟨t, hk⟩, g2⟩ := g
        obtain ⟨h1, h2⟩ := ih ks g2 fun m => h (List.mem_cons_of_mem _ m)
        have hne : (k == x) = false := beq_eq_false_iff_ne.mpr fun e => h (by rw [e]; exact List.mem_cons_self)
        have hs : e.key.isStr x = false := by
          rw [hk]
          exact hne
        have hr : e.refKey = false := by
          unfold DictEntry.refKey
          rw [hk]
        refine ⟨?_, ?_⟩
        · rw [List.find?_cons_of_neg (by rw [hs]; exact Bool.false_ne_true)]
          exact h1
        · rw [List.any_cons, hr, h2]
          rfl
  obtain ⟨h1, h2⟩ := go es.toList ks g h
  unfold PySem.W.nsIn
  rw [D.at_]
  dsimp only
  rw [h1]
  dsimp only
  rw [h2]
  rfl
inductive KEnts (K : PySem.W.Frag) (T : Tb) (a : Addr) : List (Str × M) → Prop
  | nil : KEnts K T a []
  | dat {z : Str} {u : Value} {d : PyData} {r : List (Str × M)} : PySem.W.nsIn K a z = some (some u) → KLit K u d → KEnts K T a r → KEnts K T a ((z, .imm d) :: r)
  | fn {z : Str} {k : Nat} {r : List (Str × M)} : PySem.W.nsIn K a z = some (some (.ref (T.fa k))) → KEnts K T a r → KEnts K T a ((z, .fn k) :: r)
theorem ktab_mk {w : World} {a : Addr} {es : Array DictEntry} {n : Nat} {tab : List (Str × M)} (D : KDict K w a es n) (g : KeysAre es.toList (tab.map Prod.fst)) (e : KEnts K T a tab) : KTab K T w a tab := by
  refine ⟨⟨es, n, D⟩, fun z x h => ?_, fun z h => key_miss D g fun hm => ?_⟩
  · clear g
    induction e with
    | nil => cases h
    | @dat z' u d r h1 h2 _ ih =>
      rw [List.lookup_cons] at h
      cases hz : z == z' with
      | true =>
        rw [hz] at h
        cases h
        obtain ⟨v, g1, g2, g3⟩ := h2.dp
        exact ⟨u, v, (eq_of_beq hz) ▸ h1, g1, fun H => .imm (g2 H) g3⟩
      | false =>
        rw [hz] at h
        exact ih h
    | @fn z' k r h1 _ ih =>
      rw [List.lookup_cons] at h
      cases hz : z == z' with
      | true =>
        rw [hz] at h
        cases h
        exact ⟨_, .ref (T.fa k), (eq_of_beq hz) ▸ h1, rfl, fun H => .fn⟩
      | false =>
        rw [hz] at h
        exact ih h
  · clear g e D
    induction tab with
    | nil => cases hm
    | cons p r ih =>
      obtain ⟨z', x⟩ := p
      rw [List.lookup_cons] at h
      rw [List.map_cons] at hm
      cases hz : z == z' with
      | true => rw [hz] at h; cases h
      | false =>
        rw [hz] at h
        rcases List.mem_cons.mp hm with e | e
        · rw [e] at hz
          simp at hz
        · exact ih h e
/-! ### tuple(x) of a list -/
def oTupL (x : M) : Option PyData := match x with
  | .lst _ => (lstL x).map .tuple
  | .imm (.tuple ds) => some (.tuple ds)
  | _ => none
abbrev rTupO (K : PySem.W.Frag) : List V → Hp → VK → Prop := fun xs H Q => ∃ p ys, xs = [.ref p] ∧ ((SqL K H p ys ∧ ∀ (l : Addr) (o : Obj), H l = none → TupO o → Q (.ref l) (upd H l (.frz o (.tup ys)))) ∨ (SqT K H p ys ∧ Q (.ref p) H))
theorem oTupL_ok {H : Hp} {v : V} {x : M} {f : List Addr} {z : PyData} {Q : VK} (r : Rep K T H v x f) (h : oTupL x = some z) (k : ∀ v H', Same H H' → Dq K H' v z → noL z = true → Q v H') : rTupO K [v] H Q := by
  cases x with
  | lst xs =>
    simp only [oTupL] at h
    cases hl : lstL (.lst xs) with
    | none => rw [hl] at h; cases h
    | some ds =>
      rw [hl] at h
      cases h
      obtain ⟨a, vs, rfl, s, al, nl⟩ := lstL_dp r hl
      refine ⟨a, vs, rfl, .inl ⟨s, fun l ob nl' to => ?_⟩⟩
      obtain ⟨s2, d2⟩ := newT (K := K) nl' to nl al
      exact k _ _ s2 d2 (by simpa [noL] using nl)
  | imm d =>
    cases d with
    | tuple ds =>
      cases h
      cases r with
      | imm dp nl =>
        obtain ⟨a, vs, rfl, s, al⟩ := dp_tupX dp
        exact ⟨a, vs, rfl, .inr ⟨s.sq, k _ H (Same.refl H) dp nl⟩⟩
    | _ => cases h
  | _ => cases h
def dTupX (m : MM M) : MM PyData := bindM m fun x => optM (oTupL x)
theorem qd_tupX {p : Pos} {m : MM M} (h : QX T X W a m) (hg : Gl X "tuple") (hz : X.mg "tuple" = none) (hs : starEach [a] X.env = (false, eval a X.env) :: starEach [] X.env := by rfl) : QD T X W (.Call (.Name "tuple" p) [a] [] pos) (dTupX m) := by
  obtain ⟨t, ht, q⟩ := h.ex
  refine ⟨_, pe_callTy call_tupleZ hg hz (by decide +kernel) (pa_cons ht pa_nil hs) (he := hs), fun σ H ρ F r Q E n hm k => ?_⟩
  unfold dTupX bindM at hm
  cases hd : m ρ with
  | none => rw [hd] at hm; cases hm
  | some r1 =>
    rw [hd] at hm
    refine q σ H ρ F r1 _ E n hd ?_
    cases r1 with
    | er c fs ρ1 => cases hm; exact k
    | ok x ρ1 =>
      intro v H' f F' rp E' n' mv
      dsimp only [optM] at hm
      cases hz : oTupL x with
      | none => rw [hz] at hm; cases hm
      | some z =>
        rw [hz] at hm
        cases hm
        exact oTupL_ok rp hz fun w H2 s2 dz nz => k w H2 F' dz nz (E'.same s2) (List.nodup_append.mp n').2.1 ((mv.trans (Mv.same s2 fun _ h => h)).sub fun _ h => List.mem_append_right _ h)
def eTupP (m : Env' → Option M) : Env' → Option PyData := fun ρ => (m ρ).bind oTupL
theorem qe_tupP {p : Pos} {m : Env' → Option M} (h : QP T X a m) (hg : Gl X "tuple") (hz : X.mg "tuple" = none) (hs : starEach [a] X.env = (false, eval a X.env) :: starEach [] X.env := by rfl) : QE T X (.Call (.Name "tuple" p) [a] [] pos) (eTupP m) := by
  obtain ⟨t, ht, q⟩ := h.ex
  refine ⟨_, pe_callTy call_tupleZ hg hz (by decide +kernel) (pa_cons ht pa_nil hs) (he := hs), fun σ H ρ F d Q E hm k => ?_⟩
  unfold eTupP at hm
  cases hd : m ρ with
  | none => rw [hd] at hm; cases hm
  | some x =>
    rw [hd] at hm
    exact q σ H ρ F x _ E hd fun v f r _ => oTupL_ok r hm fun w H2 s2 dz nz => k w H2 s2 dz nz
end
/-! ### further rules -/
section
variable {K : PySem.W.Frag} {T : Tb} {X : Cx} {W : WXk} {e a b c o tg : Expr} {es rest : List Expr} {st : Stmt} {S : List Nat} {pos p2 : Pos}
abbrev oIpAdd : PyData → PyData → Option PyData := oI fun a b => some (.int (a + b))
abbrev oIpSub : PyData → PyData → Option PyData := oI fun a b => some (.int (a - b))
theorem fn_none_d {P : Program} {w : World} {mg : Str → Option Value} {base : Heap} {f : Addr} {fd : FuncData} {ps : List Str} {k n : Nat} : FnOk P w K mg base CX0 k f fd ps (spD K n fun _ => none) := by
  have no : ∀ vs H Q E, ¬ spD K n (fun _ => none) vs H Q E := fun vs H Q E h => by
    obtain ⟨ds, r, _, _, _, h, _⟩ := h
    cases h
  exact ⟨fun vs H Q E h => absurd h (no vs H Q E), fun A outer s H args us vs Q E _ _ _ _ h => absurd h (no vs H Q E)⟩
theorem fn_none_x {P : Program} {w : World} {mg : Str → Option Value} {base : Heap} {f : Addr} {fd : FuncData} {ps : List Str} {k n : Nat} : FnOk P w K mg base CX0 k f fd ps (spX K T n fun _ => none) := by
  have no : ∀ vs H Q E, ¬ spX K T n (fun _ => none) vs H Q E := fun vs H Q E h => by
    obtain ⟨ds, F, r, _, _, _, h, _⟩ := h
    cases h
  exact ⟨fun vs H Q E h => absurd h (no vs H Q E), fun A outer s H args us vs Q E _ _ _ _ h => absurd h (no vs H Q E)⟩
def eCall0 (mf : List PyData → Option PyData) : Env' → Option PyData := fun _ => mf []
theorem qe_call0 {mf : List PyData → Option PyData} {E : XK} (ht : PE X e (tCall (spD X.K 0 mf) [] E tNil)) : QE T X e (eCall0 mf) := by
  refine ⟨_, ht, fun σ H ρ F d Q En hm kk => ?_⟩
  exact ⟨[], d, .nil, rfl, rfl, hm, fun v H2 s2 => kk v H2 s2⟩
/-- a op1 b op2 c -/
def dChain (o1 o2 : PyData → PyData → Option PyData) (ma mb mc : MM PyData) : MM PyData := bindM ma fun x => bindM mb fun y => bindM (optM (o1 x y)) fun z => match z with
  | .bool true => bindM mc fun w => optM (o2 y w)
  | .bool false => pureM (.bool false)
  | _ => fun _ => none
theorem qc_chain {op1 op2 : CmpOp} {r1 r2 : R2} {o1 o2 : PyData → PyData → Option PyData} {ma mb mc : MM PyData} (h1 : OpR X (compareOp op1) r1) (s1 : Snd2 X.K r1 o1) (h2 : OpR X (compareOp op2) r2) (s2 : Snd2 X.K r2 o2)
    (ha : QD T X W a ma) (hb : QD T X W b mb) (hc : QD T X W c mc) (hmk : lastMarks [op1, op2] [b, c] = false := by with_unfolding_all rfl) : QC T X W (.Compare a [op1, op2] [b, c] pos) (dChain o1 o2 ma mb mc) := by
  obtain ⟨ta, ha, q1⟩ := ha.ex
  obtain ⟨tb, hb, q2⟩ := hb.ex
  obtain ⟨tc, hc, q3⟩ := hc.ex
  refine ⟨tChain r1 r2 ta tb tc, pe_chain h1 h2 ha hb hc hmk, pt_chain h1 h2 ha hb hc hmk, fun σ H ρ F res Q E n hm k => ?_⟩
  unfold dChain bindM at hm
  cases hx : ma ρ with
  | none => rw [hx] at hm; cases hm
  | some rx =>
    rw [hx] at hm
    refine q1 σ H ρ F rx _ E n hx ?_
    cases rx with
    | er c fs ρ1 => cases hm; exact k
    | ok x ρ1 =>
      intro u H1 F1 d1 n1 E1 nd1 m1
      dsimp only at hm
      cases hy : mb ρ1 with
      | none => rw [hy] at hm; cases hm
      | some ry =>
        rw [hy] at hm
        refine q2 σ H1 ρ1 F1 ry _ E1 nd1 hy ?_
        cases ry with
        | er c fs ρ2 => cases hm; exact XOk.from k m1
        | ok y ρ2 =>
          intro v H2 F2 d2 n2 E2 nd2 m2
          dsimp only [optM] at hm
          cases hz : o1 x y with
          | none => rw [hz] at hm; cases hm
          | some z =>
            rw [hz] at hm
            dsimp only [Option.map] at hm
            have kx := (m2.c.kp (g := []) E1.wr (fun _ h => nomatch h)).x
            refine s1 H2 u v x y z _ (dp_keepX kx n1 d1) n1 d2 n2 hz fun w H3 s3 dz nz => ?_
            have m3 := (m1.trans m2).trans (Mv.same s3 fun _ h => h)
            cases z with
            | bool bb =>
              cases dz
              refine ⟨bb, rfl, ?_⟩
              cases bb with
              | false =>
                rw [if_neg Bool.false_ne_true]
                cases hm
                exact k _ H3 F2 (.bl false) rfl (E2.same s3) nd2 m3
              | true =>
                rw [if_pos rfl]
                dsimp only at hm
                cases hw : mc ρ2 with
                | none => rw [hw] at hm; cases hm
                | some rw' =>
                  rw [hw] at hm
                  refine q3 σ H3 ρ2 F2 rw' _ (E2.same s3) nd2 hw ?_
                  cases rw' with
                  | er c fs ρ3 => cases hm; exact XOk.from k m3
                  | ok w2 ρ3 =>
                    intro w' H4 F4 d4 n4 E4 nd4 m4
                    dsimp only [optM] at hm
                    cases hz2 : o2 y w2 with
                    | none => rw [hz2] at hm; cases hm
                    | some z2 =>
                      rw [hz2] at hm
                      cases hm
                      have ky := (m4.c.kp (g := []) (E2.same s3).wr (fun _ h => nomatch h)).x
                      exact s2 H4 v w' y w2 z2 Q (dp_keepX ky n2 (dpAll_keepX s3 n2 d2)) n2 d4 n4 hz2 fun w5 H5 s5 dz5 nz5 => k w5 H5 F4 dz5 nz5 (E4.same s5) nd4 ((m3.trans m4).trans (Mv.same s5 fun _ h => h))
            | _ => cases hm
/-! #### an instance that is never changed again -/
def spNew (C : Addr) (names : List Str) : Sp := fun vs H Q _ => ∃ (a dx : Addr) (us : List V), vs = .ref a :: us ∧ us.length = names.length ∧ H a = some (.ins C dx []) ∧ Q .non (upd H a (.ins C dx (names.zip us)))
def xNew (c : Nat) (names : List Str) (m : MM (List PyData)) : MM M := bindM m fun ds => optM (if ds.length = names.length then some (.fro c (names.zip ds)) else none)
theorem zip_fst {α β : Type} : ∀ {ns : List α} {xs : List β}, xs.length = ns.length → (ns.zip xs).map Prod.fst = ns
  | [], [], _ => rfl
  | [], _ :: _, h => by simp at h
  | _ :: _, [], h => by simp at h
  | n :: ns, x :: xs, h => by
    rw [List.zip_cons_cons, List.map_cons, zip_fst (by simpa using h)]
theorem zip_snd {α β : Type} : ∀ {ns : List α} {xs : List β}, xs.length = ns.length → (ns.zip xs).map Prod.snd = xs
  | [], [], _ => rfl
  | [], _ :: _, h => by simp at h
  | _ :: _, [], h => by simp at h
  | n :: ns, x :: xs, h => by
    rw [List.zip_cons_cons, List.map_cons, zip_snd (by simpa using h)]
theorem qx_new {c : Nat} {names : List Str} {m : MM (List PyData)} {E : XK} (hz : T.fz c = true) (mk : ∀ t, PA X es t → PE X e (tMake (T.ca c) (spNew (T.ca c) names) [] E t)) (h : QA T X W es m) : QX T X W e (xNew c names m) := by
  obtain ⟨t, ht, q⟩ := h.ex
  refine ⟨_, mk t ht, fun σ H ρ F r Q En n hm kk => ?_⟩
  unfold xNew bindM at hm
  cases hx : m ρ with
  | none => rw [hx] at hm; cases hm
  | some rx =>
    rw [hx] at hm
    refine q σ H ρ F rx _ En n hx ?_
    cases rx with
    | er c fs ρ1 => cases hm; exact kk
    | ok ds ρ1 =>
      intro vs H1 F1 d1 n1 E1 nd1 m1
      dsimp only [optM] at hm
      split at hm
      · rename_i hl
        cases hm
        intro x dx hx0 hd0 ne
        have hlv : vs.length = names.length := by rw [dpAll_len d1]; exact hl
        rw [List.append_nil]
        refine ⟨x, dx, vs, rfl, hlv, upd_same, rfl, ?_⟩
        rw [upd_upd]
        have s2 : Same H1 (upd (upd H1 dx (.own x)) x (.ins (T.ca c) dx (names.zip vs))) := fun b u hb => by
          rw [upd_ne (ne_of_none hb hx0), upd_ne (ne_of_none hb hd0)]
          exact hb
        refine kk _ _ [] F1 (.fro upd_same hz ?_ ?_ ?_) (E1.same s2) nd1 (m1.trans (Mv.same s2 fun _ h => h))
        · rw [zip_fst hlv, zip_fst hl]
        · rw [zip_snd hlv, zip_snd hl]
          exact dp_keepXs (fun a o xs g => s2 _ _ g) n1 d1
        · rw [zip_snd hl]
          exact n1
      · cases hm
end
/-! ### the law -/
def spLaw (K : PySem.W.Frag) : Sp := fun vs H Q _ => ∃ (a : Addr) (ns : List Int), vs = [.ref a] ∧ ScrAt K H a (ns.map V.int) ∧ ns.length ≤ 63 ∧ (∀ z ∈ ns, Builtin.Int.intBits z ≤ 1048576) ∧ ∀ H', Q (.bl true) H'
theorem scr_of {K : PySem.W.Frag} {H : Hp} {a : Addr} {xs : List V} (o : Only H) (h : SqL K H a xs) : ScrAt K H a xs := by
  rcases h with (h | ⟨o', h⟩) | h
  · rcases o a with z | ⟨_, _, z⟩
    · rw [z] at h
      cases h
    · rw [z] at h
      cases h
  · exact .inl ⟨o', h⟩
  · exact .inr h
theorem law_imp {P : Program} {w : World} {K : PySem.W.Frag} {T : Tb} {mg : Str → Option Value} {base : Heap} {f : Addr} {fd : FuncData} {ps : List Str} {k : Nat} {m : List M → Option (Rs (List M) M)}
    (hm : ∀ ns : List Int, ns.length ≤ 63 → (∀ z ∈ ns, Builtin.Int.intBits z ≤ 1048576) → ∃ ys, m [.scr ns] = some (.ok (.imm (.bool true)) ys)) (F : FnOk P w K mg base CX0 k f fd ps (spX K T 1 m)) : FnOk P w K mg base CX0 k f fd ps (spLaw K) :=
  F.imp fun vs H Q E h => by
    obtain ⟨a, ns, rfl, hs, h63, hb, q⟩ := h
    obtain ⟨ys, e⟩ := hm ns h63 hb
    exact ⟨[.scr ns], [], _, .cons (f := []) (.scr hs) .nil, List.nodup_nil, rfl, e, fun v H' f F' rp _ _ _ => by
      cases rp with
      | imm dp _ =>
        cases dp
        exact q H'⟩
/-! ### enumerate(tuple) -/
section
open PySem.Spec PyProof.Rows
set_option maxHeartbeats 4000000 in
theorem meets_enum_tup (l : Addr) (items : Array Value) :
    Meets (Builtin.«enumerate.__new__» ⟨[.type "enumerate", .ref l], []⟩) (fun _ R s => s.heap.IsTuple l items ∧
      R (.ok (.ret (.ref (s.heap.push { cls := .type "tuple_iterator", data := .fields #[.ref l, .int 0 0] }).objs.size)))
        { s with heap := (s.heap.push { cls := .type "tuple_iterator", data := .fields #[.ref l, .int 0 0] }).push { cls := .type "enumerate", data := .fields #[.none, .bool false, .ref s.heap.objs.size, rawInt 0, .none, .none] } }) :=
  .of_wp fun prog w A R s h => by
    obtain ⟨hp, g, d, tk, os⟩ := s
    obtain ⟨hl, h⟩ := h
    have hsub := sub_enumerate
    have q1 : ∀ {A' : Around} {E : Value → Shared → Prop} {Q : Value → Shared → Prop}, Q (.ref hp.objs.size) ⟨hp.push { cls := .type "tuple_iterator", data := .fields #[.ref l, .int 0 0] }, g, d, tk, os⟩ → wpAny (model prog w) A' (pyIter (.ref l)) Q E ⟨hp, g, d, tk, os⟩ :=
      fun q => wpAny_pyIter_tuple (s := ⟨hp, g, d, tk, os⟩) hl q
    wp_walk using q1
    refine wpAny_stack_any fun st => wpAny_pure ?_
    split
    · rename_i c _ _ _ _ _
      cases (c == Value.type "enumerate")
      · wp_walk using q1
        exact ⟨_, rfl, h⟩
      · wp_walk using q1
        exact ⟨_, rfl, h⟩
    · wp_walk using q1
      exact ⟨_, rfl, h⟩
theorem call_enum_tup {prog : Program} {w : World} {A : Around} {E : Value → Shared → Prop} {s : Shared} {l : Addr} {items : Array Value} {Q : Value → Shared → Prop} (hL : s.heap.IsTuple l items)
    (h : ∀ h', IsEnum h' (s.heap.objs.size + 1) s.heap.objs.size 0 .none → h'.IsTupleIter s.heap.objs.size l 0 →
      (∀ b o, s.heap.get? b = some o → h'.get? b = some o) → Q (.ref (s.heap.objs.size + 1)) { s with heap := h' }) :
    wpAny (model prog w) A (call (.type "enumerate") [.ref l]) Q E s := by
  refine callType_new F.called_enumerate (by decide) (F.typeCall_enumerate_1 _) (F.newCall_enumerate_1 _) (fun obj => F.args_object_init_2 obj _) F.entry_enumerate_new
    (meets_enum_tup l items) ⟨hL, ?_⟩
  have hz : (s.heap.push { cls := .type "tuple_iterator", data := .fields #[.ref l, .int 0 0] }).objs.size = s.heap.objs.size + 1 := Heap.size_push ..
  show _ ∧ _
  rw [hz]
  have he : IsEnum ((s.heap.push { cls := .type "tuple_iterator", data := .fields #[.ref l, .int 0 0] }).push
      { cls := .type "enumerate", data := .fields #[.none, .bool false, .ref s.heap.objs.size, rawInt 0, .none, .none] }) (s.heap.objs.size + 1) s.heap.objs.size 0 .none := by
    have := Heap.get?_push_size (s.heap.push { cls := .type "tuple_iterator", data := .fields #[.ref l, .int 0 0] })
      (o := { cls := .type "enumerate", data := .fields #[.none, .bool false, .ref s.heap.objs.size, rawInt 0, .none, .none] }) rfl
    rw [hz] at this; exact this
  refine ⟨⟨_, he, rfl⟩, h _ he ⟨_, Heap.get?_push_of_some _ (Heap.get?_push_size _ rfl), rfl, rfl⟩ fun b o x => Heap.get?_push_of_some _ (Heap.get?_push_of_some _ x)⟩
/-- the tuple at a, each item in a new pair -/
def IteT (K : PySem.W.Frag) (a : Addr) : It :=
  ⟨fun i H => ∃ (xs : List V) (x : V), SqT K H a xs ∧ xs[i]? = some x, fun i H v H' => ∃ T x ob, v = .ref T ∧ H T = none ∧ TupO ob ∧ H' = upd H T (.frz ob (.tup [.int (i : Nat), x])) ∧ ∀ xs, SqT K H a xs → xs[i]? = some x, fun i H => ∃ xs : List V, SqT K H a xs ∧ xs.length ≤ i⟩
theorem turn_enumT {P : Program} {w : World} {K : PySem.W.Frag} {elts : List Expr} {kk : Nat} {tpos : Pos} (a e it : Addr) :
    Turn P w K (.Tuple elts kk tpos) (IteT K a) [e, it] e (fun i h => (∃ old, IsEnum h e it ((i : Nat) : Int) old) ∧ h.IsTupleIter it a i ∧ e ≠ it) where
  mem := by simp
  obj := fun i h st b hb => by
    obtain ⟨⟨old, he⟩, ⟨o, ho, hc, hd⟩, _⟩ := st
    have e' : b = e ∨ b = it := by simpa using hb
    rcases e' with z | z
    · rw [z]; exact ⟨_, he, fun v q => nomatch q⟩
    · rw [z]; exact ⟨o, ho, fun v q => by rw [hd] at q; cases q⟩
  keep := fun i h h' st k => let ⟨⟨old, he⟩, hi, hne⟩ := st; ⟨⟨old, k e (by simp) _ he⟩, hi.at fun o q => k it (by simp) o q, hne⟩
  item := by
    intro X hP hw hK hc i pins s σ H E I hf st hg
    subst hP hw hK
    obtain ⟨⟨old, he⟩, hit, hne⟩ := st
    obtain ⟨xs, x, hq, hx⟩ := hg
    obtain ⟨its, rv, p, hz⟩ := I.tuple hq
    obtain ⟨u, hu, ru⟩ := rv.get hx
    have p : s.heap.IsTuple a its.toArray := p
    have hel : e < s.heap.objs.size := Heap.lt_size he
    have hil : it < s.heap.objs.size := by obtain ⟨_, q, _⟩ := hit; exact Heap.lt_size q
    have hea : a ≠ e := fun z => by
      obtain ⟨o, ho, hc', _⟩ := p
      rw [z] at ho
      have e' := Option.some.inj (ho.symm.trans he)
      rw [e'] at hc'
      have hc2 : Value.type "enumerate" = Value.type "tuple" := hc'
      injection hc2 with hc3
      exact absurd hc3 (by decide)
    have hia : a ≠ it := fun z => by
      obtain ⟨o, ho, hc', _⟩ := p
      obtain ⟨o2, ho2, hc2, _⟩ := hit
      rw [z] at ho
      have e' := Option.some.inj (ho.symm.trans ho2)
      rw [e', hc2] at hc'
      injection hc' with hc3
      exact absurd hc3 (by decide)
    have hlt : i < its.toArray.size := by
      have := (List.getElem?_eq_some_iff.mp hu).1
      simpa using this
    refine wpAny_pyNext_enum_itemD (Draws.tuple (A := X.A.in1) (show X.A.in1.handled = none from I.ok.hd hc) it a hia its.toArray) he ⟨hit, p⟩ hlt hne (by simp [hne, hea.symm]) fun x' h' tk hP ho hst hT hsz hk => ?_
    have ex : x' = u := by
      have h1 : its[i]? = some x' := by simpa using hP
      rw [hu] at h1
      exact (Option.some.inj h1).symm
    subst ex
    obtain ⟨hit', _⟩ := hst
    refine ⟨_, rfl, wpAny_letOwnedTupleGo_enum (s := { s with heap := h', toks := tk + 1 }) ho fun h'' he' sb => ?_⟩
    have hT2 : h''.get? s.heap.objs.size = some { cls := .type "tuple", data := .seq #[.int i tk, x'] } := (sb.2 _ (Nat.ne_of_gt hel)).trans hT
    have new : ObjOk X.prog X.w (upd H s.heap.objs.size (.frz { cls := .type "tuple", data := .seq #[.int i tk, x'] } (.tup [.int (i : Nat), x]))) h'' s.heap.objs.size (.frz { cls := .type "tuple", data := .seq #[.int i tk, x'] } (.tup [.int (i : Nat), x])) :=
      ⟨hT2, by show 2 ≤ sizeLine; decide, [.int i tk, x'], .cons ⟨_, rfl⟩ (.cons ru .nil), ⟨_, hT2, rfl, _, rfl⟩⟩
    have I1 : Inv X pins σ (upd H s.heap.objs.size (.frz { cls := .type "tuple", data := .seq #[.int i tk, x'] } (.tup [.int (i : Nat), x]))) { s with heap := h'', toks := tk + 1 } :=
      I.turnedNew (ch := [e, it]) (fun b ob hb q => (sb.2 b (fun z => hb (by simp [z]))).trans (hk b ob (fun z => hb (by simp [z])) (fun z => hb (by simp [z])) q)) hf (Nat.le_refl _) new
    refine ⟨.ref s.heap.objs.size, _, I1, rfl, ⟨_, x, _, rfl, I.hok.fresh (Nat.le_refl _), ⟨rfl, rfl⟩, rfl, fun ys hy => by rw [I.tuple_inj hy hq]; exact hx⟩, ⟨⟨x', ?_⟩, hit'.at fun o q => (sb.2 it (Ne.symm hne)).trans q, hne⟩, fun b hb => ?_⟩
    · have e1 : ((i + 1 : Nat) : Int) = (i : Int) + 1 := by omega
      rw [e1]; exact he'
    · have hb' : b < s.heap.objs.size := by
        have e' : b = e ∨ b = it := by simpa using hb
        rcases e' with z | z
        · rw [z]; exact hel
        · rw [z]; exact hil
      rw [upd_ne (Nat.ne_of_lt hb')]
      exact (hf b hb).1
  done := by
    intro X hP hw hK hc i pins s σ H E I hf st hg
    subst hP hw hK
    obtain ⟨⟨old, he⟩, hit, hne⟩ := st
    obtain ⟨xs, hq, hx⟩ := hg
    obtain ⟨its, rv, p, hz⟩ := I.tuple hq
    have p : s.heap.IsTuple a its.toArray := p
    obtain ⟨f0, f1, f2, f3, f4, f5⟩ := hf it (by simp)
    have hl := rv.length
    have hia : a ≠ it := fun z => by
      obtain ⟨o, ho, hc', _⟩ := p
      obtain ⟨o2, ho2, hc2, _⟩ := hit
      rw [z] at ho
      have e' := Option.some.inj (ho.symm.trans ho2)
      rw [e', hc2] at hc'
      injection hc' with hc3
      exact absurd hc3 (by decide)
    have D : Draws X.prog X.w X.A.in1 it [it, a] i (fun _ _ => True) (fun j h => j = i ∧ h.IsTupleIter it a i ∧ h.IsTuple a its.toArray) :=
      ⟨fun _ _ st => let ⟨o, ho, _⟩ := st.2.1; ⟨o, ho⟩, fun _ _ _ st hk => ⟨st.1, st.2.1.at fun o e => hk it (by simp) o e, st.2.2.at fun o e => hk a (by simp) o e⟩,
        fun j s Q E hj st _ => absurd st.1 (Nat.ne_of_lt hj), fun s Q E st hE => wpAny_nextOf_tuple_end (I.ok.hd hc) st.2.1 st.2.2 (by simp; omega) hE⟩
    exact wpAny_pyNext_enum_endD D he ⟨rfl, hit, p⟩ fun h' eb => ⟨rfl, I.turned (t' := s.toks) (fun b o hb q => eb b o hb q) f0 f1 f3 f4 f5⟩
  self := fun A i s Q E st h => let ⟨⟨_, he⟩, _⟩ := st; wpAny_pyIter_enum he h
def iEnumT (K : PySem.W.Frag) (ta : TA) : TI := fun σ H R => ta σ H fun vs H1 => ∃ a xs, vs = [.ref a] ∧ SqT K H1 a xs ∧ R (IteT K a) H1
theorem pi_enumT {X : Cx} {e : Expr} {ta : TA} {p pos tpos : Pos} {elts : List Expr} {kk : Nat} (hg : Gl X "enumerate") (hm : X.mg "enumerate" = none) (ha : PA X [e] ta) (hs : starEach [e] X.env = [(false, eval e X.env)] := by rfl) :
    PI X (.Tuple elts kk tpos) (.Call (.Name "enumerate" p) [e] [] pos) (iEnumT X.K ta) := by
  refine ⟨fun pins s σ H R I h => ?_⟩
  refine Call_ (ld_blt I hg hm boot_enumerate (PyProof.Rows.callWith_type1 (thn (ha.run pos pins s σ H _ I h) fun us s1 ⟨vs, H1, I1, r1, q1⟩ => ?_) hs rfl))
  obtain ⟨a, xs, ex, hq, q⟩ := q1
  subst ex
  cases r1 with
  | cons r rr =>
    cases rr
    cases r
    obtain ⟨its, rv, p', hz⟩ := I1.tuple hq
    refine call_enum_tup (show s1.heap.IsTuple a its.toArray from p') fun h' he hit hk => wpAny_pyIter_enum he ?_
    have I2 : Inv X pins σ H1 { s1 with heap := h' } := I1.kept (t' := s1.toks) hk
    refine ⟨s1.heap.objs.size + 1, [s1.heap.objs.size + 1, s1.heap.objs.size], _, _, H1, rfl, I2, turn_enumT a (s1.heap.objs.size + 1) s1.heap.objs.size, ⟨⟨.none, he⟩, hit, Nat.succ_ne_self _⟩, fun b hb => ?_, q⟩
    have e' : b = s1.heap.objs.size + 1 ∨ b = s1.heap.objs.size := by simpa using hb
    have hle : s1.heap.objs.size ≤ b := by
      rcases e' with z | z
      · rw [z]; exact Nat.le_add_right _ _
      · rw [z]; exact Nat.le_refl _
    exact I1.fpOk hle (I1.hok.fresh hle)
end

section
variable {K : PySem.W.Frag} {T : Tb} {X : Cx} {W : WXk} {e a b c o tg : Expr} {es rest : List Expr} {st : Stmt} {S : List Nat} {pos p2 : Pos}
def numL : Nat → List PyData → List PyData
  | _, [] => []
  | i, d :: ds => .tuple [.int (i : Nat), d] :: numL (i + 1) ds
theorem numL_len : ∀ (ds : List PyData) (i : Nat), (numL i ds).length = ds.length
  | [], _ => rfl
  | _ :: ds, i => congrArg (· + 1) (numL_len ds (i + 1))
theorem numL_at : ∀ (ds : List PyData) (i j : Nat) (d : PyData), ds[j]? = some d → (numL i ds)[j]? = some (.tuple [.int ((i + j : Nat) : Int), d])
  | [], _, _, _, h => by simp at h
  | x :: ds, i, 0, d, h => by
    simp at h
    subst h
    rfl
  | x :: ds, i, j + 1, d, h => by
    have := numL_at ds (i + 1) j d (by simpa using h)
    rw [show i + 1 + j = i + (j + 1) from by omega] at this
    simpa [numL] using this
theorem iteT_ok {a : Addr} {vs : List V} {ds : List PyData} (n : noLs ds = true) : ItOk K (IteT K a) (numL 0 ds) (fun H => Tq K H a vs ∧ DqAll K H vs ds) := by
  refine ⟨fun i H g h => ?_, fun i H x H' g hi y => ?_, fun i H g h => ?_⟩
  · rw [numL_len] at h
    obtain ⟨v, hv, _⟩ := dpAll_at g.2 (List.getElem?_eq_getElem h)
    exact ⟨vs, v, g.1.sq, hv⟩
  · rw [numL_len] at hi
    obtain ⟨t, x', ob, rfl, ht, to, rfl, y⟩ := y
    obtain ⟨v, hv, dv⟩ := dpAll_at g.2 (List.getElem?_eq_getElem hi)
    have := y vs g.1.sq
    rw [hv] at this
    cases this
    have nd := noLs_at n (List.getElem?_eq_getElem hi)
    have nn : noLs [.int ((0 + i : Nat) : Int), ds[i]] = true := by simp [noLs, noL, nd]
    have hh : DqAll K H [.int (i : Nat), x'] [.int ((0 + i : Nat) : Int), ds[i]] := by
      rw [Nat.zero_add]
      exact .cons (.int _) (.cons dv .nil)
    obtain ⟨s2, d2⟩ := newT (K := K) ht to nn hh
    exact ⟨_, numL_at ds 0 i _ (List.getElem?_eq_getElem hi), d2, by simpa [noL] using nn, s2⟩
  · rw [numL_len] at h
    exact ⟨vs, g.1.sq, by rw [dpAll_len g.2, h] <;> exact Nat.le_refl _⟩
def iEn (m : MM PyData) : MM (List PyData) := bindM m fun d => optM ((tupL d).map (numL 0))
theorem qi_enum {m : MM PyData} {p tpos : Pos} {elts : List Expr} {kk : Nat} (h : QD T X W e m) (hg : Gl X "enumerate") (hz : X.mg "enumerate" = none) (hs : starEach [e] X.env = [(false, eval e X.env)] := by rfl) : QI T X W (.Tuple elts kk tpos) (.Call (.Name "enumerate" p) [e] [] pos) (iEn m) := by
  obtain ⟨t, ht, q⟩ := h.ex
  refine ⟨_, pi_enumT hg hz (pa_cons ht pa_nil hs) hs, fun σ H ρ F r R E n hm k => ?_⟩
  unfold iEn bindM at hm
  cases hd : m ρ with
  | none => rw [hd] at hm; cases hm
  | some r1 =>
    rw [hd] at hm
    refine q σ H ρ F r1 _ E n hd ?_
    cases r1 with
    | er c fs ρ1 => cases hm; exact k
    | ok d ρ1 =>
      intro v H' F' dp nl E' n' mv
      cases d with
      | tuple ds =>
        cases hm
        obtain ⟨a, xs, rfl, s, al⟩ := dp_tupX dp
        have nn : noLs ds = true := by simpa [noL] using nl
        exact ⟨a, xs, rfl, s.sq, k (IteT X.K a) H' [] F' (fun H => Tq X.K H a xs ∧ DqAll X.K H xs ds) (iteT_ok nn) (fun H1 H2 kp g => ⟨tq_kp kp g.1, dp_keepXs kp.x nn g.2⟩) ⟨s, al⟩ (fun _ h => nomatch h) E' n' mv⟩
      | _ => cases hm
end
/-! ### how the mirrors are reckoned -/
section
variable {α β : Type} {ρ : Env'} {i : Nat}
def thB (r : Option (Rs Env' α)) (k : α → MM β) : Option (Rs Env' β) := match r with
  | none => none
  | some (.ok a ρ1) => k a ρ1
  | some (.er c fs ρ1) => some (.er c fs ρ1)
@[simp] theorem thB_ok {a : α} {k : α → MM β} : thB (some (.ok a ρ)) k = k a ρ := rfl
@[simp] theorem thB_none {k : α → MM β} : thB none k = none := rfl
@[simp] theorem thB_er {c : Nat} {fs : List (Str × PyData)} {k : α → MM β} : thB (some (.er c fs ρ)) k = some (.er c fs ρ) := rfl
def thI (r : Option (Rs Env' Bool)) (m k : MM α) : Option (Rs Env' α) := match r with
  | none => none
  | some (.ok b ρ1) => if b = true then m ρ1 else k ρ1
  | some (.er c fs ρ1) => some (.er c fs ρ1)
@[simp] theorem thI_ok {b : Bool} {m k : MM α} : thI (some (.ok b ρ)) m k = if b = true then m ρ else k ρ := rfl
@[simp] theorem thI_none {m k : MM α} : thI none m k = none := rfl
@[simp] theorem thI_er {c : Nat} {fs : List (Str × PyData)} {m k : MM α} : thI (some (.er c fs ρ)) m k = some (.er c fs ρ) := rfl
def thS (r : Option (Rs Env' Fl)) (k : MM Fl) : Option (Rs Env' Fl) := match r with
  | none => none
  | some (.ok .nx ρ1) => k ρ1
  | some (.ok f ρ1) => some (.ok f ρ1)
  | some (.er c fs ρ1) => some (.er c fs ρ1)
@[simp] theorem thS_nx {k : MM Fl} : thS (some (.ok .nx ρ)) k = k ρ := rfl
@[simp] theorem thS_rt {x : M} {k : MM Fl} : thS (some (.ok (.rt x) ρ)) k = some (.ok (.rt x) ρ) := rfl
@[simp] theorem thS_bk {k : MM Fl} : thS (some (.ok .bk ρ)) k = some (.ok .bk ρ) := rfl
@[simp] theorem thS_ct {k : MM Fl} : thS (some (.ok .ct ρ)) k = some (.ok .ct ρ) := rfl
@[simp] theorem thS_none {k : MM Fl} : thS none k = none := rfl
@[simp] theorem thS_er {c : Nat} {fs : List (Str × PyData)} {k : MM Fl} : thS (some (.er c fs ρ)) k = some (.er c fs ρ) := rfl
@[simp] theorem a_bind {m : MM α} {k : α → MM β} : bindM m k ρ = thB (m ρ) k := by
  unfold bindM thB
  cases m ρ with
  | none => rfl
  | some r => cases r <;> rfl
@[simp] theorem a_pure {a : α} : pureM a ρ = some (.ok a ρ) := rfl
@[simp] theorem a_opt {o : Option α} : optM o ρ = o.map fun a => .ok a ρ := rfl
@[simp] theorem a_qM {m : Env' → Option PyData} : qM m ρ = (m ρ).map fun d => .ok d ρ := rfl
@[simp] theorem a_dX {m : MM PyData} : dX m ρ = bindM m (fun d => pureM (.imm d)) ρ := rfl
@[simp] theorem a_dM {d : PyData} : dM (.imm d) = some d := rfl
@[simp] theorem a_xD {m : MM M} : xD m ρ = bindM m (fun x => optM (dM x)) ρ := rfl
@[simp] theorem a_pE {m : Env' → Option M} : pE m ρ = (m ρ).bind dM := rfl
@[simp] theorem a_eP : eP i ρ = (ρ[i]?).join := rfl
@[simp] theorem a_eV : eV i ρ = ((ρ[i]?).join).bind dM := rfl
@[simp] theorem a_eC {d : PyData} : eC d ρ = some d := rfl
@[simp] theorem a_e2 {o : PyData → PyData → Option PyData} {ma mb : Env' → Option PyData} : e2 o ma mb ρ = (ma ρ).bind fun x => (mb ρ).bind fun y => o x y := rfl
@[simp] theorem a_d2 {o : PyData → PyData → Option PyData} {ma mb : MM PyData} : d2 o ma mb ρ = bindM ma (fun x => bindM mb fun y => optM (o x y)) ρ := rfl
@[simp] theorem a_e1 {o : PyData → Option PyData} {ma : Env' → Option PyData} : e1 o ma ρ = (ma ρ).bind o := rfl
@[simp] theorem a_d1 {o : PyData → Option PyData} {ma : MM PyData} : d1 o ma ρ = bindM ma (fun x => optM (o x)) ρ := rfl
@[simp] theorem a_aNil : aNil ρ = some [] := rfl
@[simp] theorem a_aCons {m : Env' → Option PyData} {r : Env' → Option (List PyData)} : aCons m r ρ = (m ρ).bind fun x => (r ρ).map fun xs => x :: xs := rfl
@[simp] theorem a_bNil : bNil ρ = some (.ok [] ρ) := rfl
@[simp] theorem a_bCons {m : MM PyData} {r : MM (List PyData)} : bCons m r ρ = bindM m (fun x => bindM r fun xs => pureM (x :: xs)) ρ := rfl
theorem len_most {n : Nat} (h : n ≤ 1000) : n ≤ most := Nat.le_trans h (by decide)
@[simp] theorem a_eTup {m : Env' → Option (List PyData)} : eTup m ρ = (m ρ).bind fun ds => if ds.length ≤ most then some (.tuple ds) else none := rfl
@[simp] theorem a_dTup {m : MM (List PyData)} : dTup m ρ = bindM m (fun ds => optM (if ds.length ≤ most then some (.tuple ds) else none)) ρ := rfl
@[simp] theorem a_bM {b : Bool} : bM (.bool b) = some b := rfl
@[simp] theorem a_tM {m : MM PyData} : tM m ρ = bindM m (fun d => optM (bM d)) ρ := rfl
@[simp] theorem a_tru_n : truM (.imm .none) = some false := rfl
@[simp] theorem a_tru_b {b : Bool} : truM (.imm (.bool b)) = some b := rfl
@[simp] theorem a_tru_i {z : Int} : truM (.imm (.int z)) = some (z != 0) := rfl
@[simp] theorem a_tru_s {z : Str} : truM (.imm (.str z)) = if z.length ≤ most then some ((z.length : Int) != 0) else none := rfl
@[simp] theorem a_tru_t {xs : List PyData} : truM (.imm (.tuple xs)) = some (!xs.isEmpty) := rfl
@[simp] theorem a_tru_l {xs : List M} : truM (.lst xs) = some (!xs.isEmpty) := rfl
@[simp] theorem a_uM {m : MM M} : uM m ρ = bindM m (fun x => optM (truM x)) ρ := rfl
@[simp] theorem a_uP {m : Env' → Option M} : uP m ρ = ((m ρ).bind truM).map fun b => .ok b ρ := rfl
@[simp] theorem a_and {m k : MM Bool} : andM m k ρ = thI (m ρ) k (pureM false) := by
  unfold andM bindM thI
  cases m ρ with
  | none => rfl
  | some r =>
    cases r with
    | ok b ρ1 => cases b <;> rfl
    | er _ _ _ => rfl
@[simp] theorem a_or {m k : MM Bool} : orM m k ρ = thI (m ρ) (pureM true) k := by
  unfold orM bindM thI
  cases m ρ with
  | none => rfl
  | some r =>
    cases r with
    | ok b ρ1 => cases b <;> rfl
    | er _ _ _ => rfl
@[simp] theorem a_not {m : MM Bool} : notM m ρ = bindM m (fun b => pureM (!b)) ρ := rfl
@[simp] theorem a_if {t : MM Bool} {m k : MM α} : ifM t m k ρ = thI (t ρ) m k := by
  unfold ifM bindM thI
  cases t ρ with
  | none => rfl
  | some r =>
    cases r with
    | ok b ρ1 => cases b <;> rfl
    | er _ _ _ => rfl
def kAnd (k : MM PyData) : PyData → MM PyData
  | .bool b => fun ρ => if b = true then k ρ else some (.ok (.bool false) ρ)
  | _ => fun _ => none
@[simp] theorem a_kAnd {k : MM PyData} {b : Bool} : kAnd k (.bool b) ρ = if b = true then k ρ else some (.ok (.bool false) ρ) := rfl
@[simp] theorem a_dAnd {m k : MM PyData} : dAnd m k ρ = thB (m ρ) (kAnd k) := by
  unfold dAnd bindM thB
  cases m ρ with
  | none => rfl
  | some r =>
    cases r with
    | ok d ρ1 =>
      cases d with
      | bool b => cases b <;> rfl
      | _ => rfl
    | er _ _ _ => rfl
def kOr (k : MM PyData) : PyData → MM PyData
  | .bool b => fun ρ => if b = true then some (.ok (.bool true) ρ) else k ρ
  | _ => fun _ => none
@[simp] theorem a_kOr {k : MM PyData} {b : Bool} : kOr k (.bool b) ρ = if b = true then some (.ok (.bool true) ρ) else k ρ := rfl
@[simp] theorem a_dOr {m k : MM PyData} : dOr m k ρ = thB (m ρ) (kOr k) := by
  unfold dOr bindM thB
  cases m ρ with
  | none => rfl
  | some r =>
    cases r with
    | ok d ρ1 =>
      cases d with
      | bool b => cases b <;> rfl
      | _ => rfl
    | er _ _ _ => rfl
def kNot : PyData → MM PyData
  | .bool b => fun ρ => some (.ok (.bool (!b)) ρ)
  | _ => fun _ => none
@[simp] theorem a_kNot {b : Bool} : kNot (.bool b) ρ = some (.ok (.bool (!b)) ρ) := rfl
@[simp] theorem a_dNot {m : MM PyData} : dNot m ρ = thB (m ρ) kNot := by
  unfold dNot bindM thB
  cases m ρ with
  | none => rfl
  | some r =>
    cases r with
    | ok d ρ1 => cases d <;> rfl
    | er _ _ _ => rfl
@[simp] theorem o_add_i {a b : Int} : oAdd (.int a) (.int b) = some (.int (a + b)) := rfl
@[simp] theorem o_add_s {a b : Str} : oAdd (.str a) (.str b) = if a.length + b.length ≤ most then some (.str (a ++ b)) else none := rfl
@[simp] theorem o_add_t {a b : List PyData} : oAdd (.tuple a) (.tuple b) = if a.length + b.length ≤ most then some (.tuple (a ++ b)) else none := rfl
@[simp] theorem o_I {g : Int → Int → Option PyData} {a b : Int} : oI g (.int a) (.int b) = g a b := rfl
@[simp] theorem o_sub {a b : Int} : oSub (.int a) (.int b) = some (.int (a - b)) := rfl
@[simp] theorem o_mul_i {a b : Int} : oMul (.int a) (.int b) = if CMulX a b then some (.int (a * b)) else none := rfl
@[simp] theorem o_mul_s {a : Str} {b : Int} : oMul (.str a) (.int b) = if 0 ≤ b ∧ b ≤ 1000 ∧ a.length ≤ 1000 then some (.str (mkS (List.replicate b.toNat a.cps.toList).flatten)) else none := rfl
@[simp] theorem o_mul_t {ds : List PyData} {b : Int} : oMul (.tuple ds) (.int b) = if ds ≠ [] ∧ 2 ≤ b ∧ b ≤ 1000 ∧ ds.length ≤ 1000 then some (.tuple (List.replicate b.toNat ds).flatten) else none := rfl
@[simp] theorem o_mod {a b : Int} : oMod (.int a) (.int b) = if b = 0 then none else some (.int (a.fmod b)) := rfl
@[simp] theorem o_div {a b : Int} : oDiv (.int a) (.int b) = if CDivG a b then some (.int (a.fdiv b)) else none := rfl
@[simp] theorem o_pow {a b : Int} : oPow (.int a) (.int b) = if CPow a b then some (.int (a ^ b.toNat)) else none := rfl
@[simp] theorem o_lt {a b : Int} : oLt (.int a) (.int b) = some (.bool (decide (a < b))) := rfl
@[simp] theorem o_lt_s {a b : Str} : oLt (.str a) (.str b) = some (.bool (decide (a.cps.toList < b.cps.toList))) := rfl
@[simp] theorem o_le {a b : Int} : oLe (.int a) (.int b) = some (.bool (decide (a ≤ b))) := rfl
@[simp] theorem o_gt {a b : Int} : oGt (.int a) (.int b) = some (.bool (decide (b < a))) := rfl
@[simp] theorem o_ge {a b : Int} : oGe (.int a) (.int b) = some (.bool (decide (b ≤ a))) := rfl
@[simp] theorem q_ss {a b : Str} : eqB (.str a) (.str b) = some (decide (a = b)) := by
  show (if scal (V.str a) (V.str b) = true then some (decide (V.str a = V.str b)) else eqS (.str a) (.str b)) = _
  rw [if_pos (show scal (V.str a) (V.str b) = true from rfl)]
  simp
@[simp] theorem q_ii {a b : Int} : eqB (.int a) (.int b) = some (decide (a = b)) := by
  show (if scal (V.int a) (V.int b) = true then some (decide (V.int a = V.int b)) else eqS (.int a) (.int b)) = _
  rw [if_pos (show scal (V.int a) (V.int b) = true from rfl)]
  simp
@[simp] theorem q_bb {a b : Bool} : eqB (.bool a) (.bool b) = some (decide (a = b)) := by
  show (if scal (V.bl a) (V.bl b) = true then some (decide (V.bl a = V.bl b)) else eqS (.bool a) (.bool b)) = _
  rw [if_pos (show scal (V.bl a) (V.bl b) = true from rfl)]
  simp
@[simp] theorem q_nn : eqB .none .none = some true := rfl
@[simp] theorem o_eq {a b : PyData} : oEq a b = (eqB a b).map .bool := rfl
@[simp] theorem o_ne {a b : PyData} : oNe a b = (eqB a b).map fun c => .bool (!c) := rfl
@[simp] theorem isTup_n : isTup .none = false := rfl
@[simp] theorem isTup_b {x : Bool} : isTup (.bool x) = false := rfl
@[simp] theorem isTup_i {x : Int} : isTup (.int x) = false := rfl
@[simp] theorem isTup_s {x : Str} : isTup (.str x) = false := rfl
@[simp] theorem isTup_t {x : List PyData} : isTup (.tuple x) = true := rfl
@[simp] theorem isBool_n : isBool .none = false := rfl
@[simp] theorem isBool_b {x : Bool} : isBool (.bool x) = true := rfl
@[simp] theorem isBool_i {x : Int} : isBool (.int x) = false := rfl
@[simp] theorem isBool_s {x : Str} : isBool (.str x) = false := rfl
@[simp] theorem isBool_t {x : List PyData} : isBool (.tuple x) = false := rfl
@[simp] theorem isInt_n : isInt .none = false := rfl
@[simp] theorem isInt_b {x : Bool} : isInt (.bool x) = true := rfl
@[simp] theorem isInt_i {x : Int} : isInt (.int x) = true := rfl
@[simp] theorem isInt_s {x : Str} : isInt (.str x) = false := rfl
@[simp] theorem isInt_t {x : List PyData} : isInt (.tuple x) = false := rfl
@[simp] theorem isStr_n : isStr .none = false := rfl
@[simp] theorem isStr_b {x : Bool} : isStr (.bool x) = false := rfl
@[simp] theorem isStr_i {x : Int} : isStr (.int x) = false := rfl
@[simp] theorem isStr_s {x : Str} : isStr (.str x) = true := rfl
@[simp] theorem isStr_t {x : List PyData} : isStr (.tuple x) = false := rfl
@[simp] theorem n_n : isN .none = true := rfl
@[simp] theorem n_b {b : Bool} : isN (.bool b) = false := rfl
@[simp] theorem n_i {b : Int} : isN (.int b) = false := rfl
@[simp] theorem n_s {b : Str} : isN (.str b) = false := rfl
@[simp] theorem n_t {b : List PyData} : isN (.tuple b) = false := rfl
@[simp] theorem o_is {a : PyData} : oIs a .none = some (.bool (isN a)) := rfl
@[simp] theorem o_isNot {a : PyData} : oIsNot a .none = some (.bool (!isN a)) := rfl
theorem inV_strs (x : Str) : ∀ xs : List Str, inV (.str x) (xs.map V.str) = decide (x ∈ xs)
  | [] => rfl
  | y :: xs => by
    have ih := inV_strs x xs
    unfold inV at ih ⊢
    rw [List.map_cons, List.any_cons, ih]
    show ((y == x) || _) = _
    by_cases h : y = x
    · subst h
      simp
    · have : (y == x) = false := beq_eq_false_iff_ne.mpr h
      rw [this]
      have h' : ¬ x = y := fun e => h e.symm
      simp [h']
theorem scDs_strs : ∀ xs : List Str, scDs (xs.map PyData.str) = some (xs.map V.str)
  | [] => rfl
  | x :: xs => by
    rw [List.map_cons, List.map_cons]
    simp only [scDs, scD, scDs_strs xs]
theorem in_strsD (x : Str) (xs : List Str) : inB (.str x) (xs.map PyData.str) = some (decide (x ∈ xs)) := by
  unfold inB
  rw [scDs_strs]
  show some (inV (.str x) _) = _
  rw [inV_strs]
@[simp] theorem in_nil {x : Str} : inB (.str x) [] = some false := rfl
@[simp] theorem in_cons {x y : Str} {ds : List PyData} : inB (.str x) (.str y :: ds) = (inB (.str x) ds).map fun c => decide (x = y) || c := by
  unfold inB
  show (match some (V.str x), (match some (V.str y), scDs ds with | some v, some vs => some (v :: vs) | _, _ => none) with | some x, some xs => some (inV x xs) | _, _ => none) = _
  cases scDs ds with
  | none => rfl
  | some vs =>
    show some (inV (.str x) (.str y :: vs)) = some (decide (x = y) || inV (.str x) vs)
    unfold inV
    rw [List.any_cons]
    show some ((y == x) || _) = _
    by_cases h : y = x
    · subst h
      simp
    · have : (y == x) = false := beq_eq_false_iff_ne.mpr h
      rw [this]
      have h' : ¬ x = y := fun e => h e.symm
      simp [h']
@[simp] theorem o_in_t {a : PyData} {ds : List PyData} : oIn a (.tuple ds) = (inB a ds).map .bool := by cases a <;> rfl
@[simp] theorem o_notIn_t {a : PyData} {ds : List PyData} : oNotIn a (.tuple ds) = (inB a ds).map fun c => .bool (!c) := by cases a <;> rfl
theorem at_n {xs : List α} {j : Nat} {z : Int} (h : j < xs.length) (e : z = (j : Int)) : atI xs z = some xs[j] := by
  subst e
  unfold atI ixN
  have h0 : (0 : Int) ≤ (j : Int) := by omega
  have h1 : (j : Int) < (xs.length : Int) := by omega
  rw [if_pos h0, if_pos h1]
  simp [h]
@[simp] theorem at_0 {x : α} {xs : List α} : atI (x :: xs) 0 = some x := by
  have h := at_n (xs := x :: xs) (j := 0) (z := 0) (by simp only [List.length_cons]; omega) rfl
  simpa using h
@[simp] theorem at_1 {x y : α} {xs : List α} : atI (x :: y :: xs) 1 = some y := by
  have h := at_n (xs := x :: y :: xs) (j := 1) (z := 1) (by simp only [List.length_cons]; omega) rfl
  simpa using h
@[simp] theorem at_2 {x y z : α} {xs : List α} : atI (x :: y :: z :: xs) 2 = some z := by
  have h := at_n (xs := x :: y :: z :: xs) (j := 2) (z := 2) (by simp only [List.length_cons]; omega) rfl
  simpa using h
@[simp] theorem at_3 {x y z w : α} {xs : List α} : atI (x :: y :: z :: w :: xs) 3 = some w := by
  have h := at_n (xs := x :: y :: z :: w :: xs) (j := 3) (z := 3) (by simp only [List.length_cons]; omega) rfl
  simpa using h
@[simp] theorem at_4 {x y z w v : α} {xs : List α} : atI (x :: y :: z :: w :: v :: xs) 4 = some v := by
  have h := at_n (xs := x :: y :: z :: w :: v :: xs) (j := 4) (z := 4) (by simp only [List.length_cons]; omega) rfl
  simpa using h
@[simp] theorem o_ix_t {ds : List PyData} {z : Int} : oIx (.tuple ds) (.int z) = atI ds z := rfl
@[simp] theorem o_ix_s {b : Str} {z : Int} : oIx (.str b) (.int z) = if b.length ≤ most then (atI b.cps.toList z).map fun c => .str ⟨#[c]⟩ else none := rfl
@[simp] theorem o_sl_t {ds : List PyData} {lo hi : Option Int} : oSl (.tuple ds) lo hi = some (.tuple (cutL ds lo hi)) := rfl
@[simp] theorem o_sl_s {b : Str} {lo hi : Option Int} : oSl (.str b) lo hi = if b.length ≤ most then some (.str (cutS b lo hi)) else none := rfl
@[simp] theorem cut_nat {xs : List α} {j : Nat} : cutL xs (some (j : Int)) none = xs.drop j := by
  have hz : HT.sIx xs.length 0 (some (j : Int)) = min j xs.length := by
    show (if (j : Int) < 0 then ((j : Int) + (xs.length : Int)).toNat else min (j : Int).toNat xs.length) = _
    rw [if_neg (by omega)]
    simp
  unfold cutL
  rw [hz]
  show List.take (xs.length - min j xs.length) _ = _
  rw [List.take_of_length_le (by rw [List.length_drop] <;> omega)]
  by_cases h : j ≤ xs.length
  · rw [Nat.min_eq_left h]
  · rw [Nat.min_eq_right (by omega), List.drop_length, List.drop_eq_nil_of_le (by omega)]
@[simp] theorem cut_1 {xs : List α} : cutL xs (some 1) none = xs.drop 1 := cut_nat (j := 1)
@[simp] theorem cut_2 {xs : List α} : cutL xs (some 2) none = xs.drop 2 := cut_nat (j := 2)
@[simp] theorem cut_3 {xs : List α} : cutL xs (some 3) none = xs.drop 3 := cut_nat (j := 3)
@[simp] theorem cut_4 {xs : List α} : cutL xs (some 4) none = xs.drop 4 := cut_nat (j := 4)
theorem cut_to {xs : List α} {j : Nat} : cutL xs none (some (j : Int)) = xs.take j := by
  have hz : HT.sIx xs.length xs.length (some (j : Int)) = min j xs.length := by
    show (if (j : Int) < 0 then ((j : Int) + (xs.length : Int)).toNat else min (j : Int).toNat xs.length) = _
    rw [if_neg (by omega)]
    simp
  unfold cutL
  rw [hz]
  show List.take (min j xs.length - 0) (xs.drop 0) = _
  rw [Nat.sub_zero, List.drop_zero, ← List.take_take, List.take_length]
@[simp] theorem cut_to2 {xs : List α} : cutL xs none (some 2) = xs.take 2 := cut_to (j := 2)
@[simp] theorem cut_to3 {xs : List α} : cutL xs none (some 3) = xs.take 3 := cut_to (j := 3)
@[simp] theorem cut_to4 {xs : List α} : cutL xs none (some 4) = xs.take 4 := cut_to (j := 4)
@[simp] theorem o_neg {z : Int} : oNeg (.int z) = some (.int (-z)) := rfl
@[simp] theorem a_oN : oN ρ = some (.ok none ρ) := rfl
def kS : PyData → MM (Option Int)
  | .int z => fun ρ => some (.ok (some z) ρ)
  | _ => fun _ => none
@[simp] theorem a_kS {z : Int} : kS (.int z) ρ = some (.ok (some z) ρ) := rfl
@[simp] theorem a_oS {m : MM PyData} : oS m ρ = thB (m ρ) kS := by
  unfold oS bindM thB
  cases m ρ with
  | none => rfl
  | some r =>
    cases r with
    | ok d ρ1 => cases d <;> rfl
    | er _ _ _ => rfl
@[simp] theorem a_dSl {m : MM PyData} {l h : MM (Option Int)} : dSl m l h ρ = bindM m (fun x => bindM l fun lo => bindM h fun hi => optM (oSl x lo hi)) ρ := rfl
@[simp] theorem a_eN {o : List PyData → Option PyData} {m : Env' → Option (List PyData)} : eN o m ρ = (m ρ).bind o := rfl
@[simp] theorem a_dN {o : List PyData → Option PyData} {m : MM (List PyData)} : dN o m ρ = bindM m (fun xs => optM (o xs)) ρ := rfl
@[simp] theorem o_int {z : Int} : oInt [.int z] = some (.int z) := rfl
@[simp] theorem o_str {z : Int} : oStr [.int z] = if z.natAbs.log2 < 1920 then some (.str (toString z)) else none := rfl
@[simp] theorem o_abs {z : Int} : oAbs [.int z] = some (.int (if z < 0 then -z else z)) := rfl
@[simp] theorem o_max {i j : Int} : oMax [.int i, .int j] = some (.int (if j > i then j else i)) := rfl
@[simp] theorem o_len_t {ds : List PyData} : oLen [.tuple ds] = some (.int ds.length) := rfl
@[simp] theorem o_len_s {z : Str} : oLen [.str z] = if z.length ≤ most then some (.int z.length) else none := rfl
@[simp] theorem l_d {d : PyData} : lenM (.imm d) = oLen [d] := rfl
@[simp] theorem l_l {xs : List M} : lenM (.lst xs) = some (.int xs.length) := rfl
@[simp] theorem l_s {ns : List Int} : lenM (.scr ns) = some (.int ns.length) := rfl
@[simp] theorem a_eLenP {m : Env' → Option M} : eLenP m ρ = (m ρ).bind lenM := rfl
@[simp] theorem a_dIsi {f : PyData → Bool} {m : MM PyData} : dIsi f m ρ = bindM m (fun d => pureM (.bool (f d))) ρ := rfl
@[simp] theorem a_nm {d : PyData} : bindP (.nm i) d ρ = some (ρ.set i (some (.imm d))) := by simp only [bindP]
@[simp] theorem a_tp {ps : List Pt} {ds : List PyData} : bindP (.tp ps) (.tuple ds) ρ = bindPs ps ds ρ := by simp only [bindP]
@[simp] theorem a_ps_nil : bindPs [] [] ρ = some ρ := by simp only [bindPs]
@[simp] theorem a_ps_cons {p : Pt} {ps : List Pt} {d : PyData} {ds : List PyData} : bindPs (p :: ps) (d :: ds) ρ = (bindP p d ρ).bind fun ρ' => bindPs ps ds ρ' := by simp only [bindPs]
@[simp] theorem a_sSetD {m : MM PyData} : sSetD i m ρ = thB (m ρ) (fun d ρ1 => some (.ok .nx (ρ1.set i (some (.imm d))))) := by
  unfold sSetD
  try unfold bindM
  unfold thB
  cases m ρ with
  | none => rfl
  | some r => cases r <;> rfl
@[simp] theorem a_sSet {m : MM M} : sSet i m ρ = thB (m ρ) (fun x ρ1 => some (.ok .nx (ρ1.set i (some x)))) := by
  unfold sSet
  try unfold bindM
  unfold thB
  cases m ρ with
  | none => rfl
  | some r => cases r <;> rfl
@[simp] theorem a_sPat {p : Pt} {m : MM PyData} : sPat p m ρ = thB (m ρ) (fun d ρ1 => (bindP p d ρ1).map fun ρ' => .ok .nx ρ') := by
  unfold sPat
  try unfold bindM
  unfold thB
  cases m ρ with
  | none => rfl
  | some r => cases r <;> rfl
@[simp] theorem a_sRetD {m : MM PyData} : sRetD m ρ = thB (m ρ) (fun d ρ1 => some (.ok (.rt (.imm d)) ρ1)) := by
  unfold sRetD
  try unfold bindM
  unfold thB
  cases m ρ with
  | none => rfl
  | some r => cases r <;> rfl
@[simp] theorem a_sRet {m : MM M} : sRet m ρ = thB (m ρ) (fun x ρ1 => some (.ok (.rt x) ρ1)) := by
  unfold sRet
  try unfold bindM
  unfold thB
  cases m ρ with
  | none => rfl
  | some r => cases r <;> rfl
@[simp] theorem a_sRetV : sRetV i ρ = match ρ[i]? with | some (some x) => some (.ok (.rt x) (ρ.set i (some .hol))) | _ => none := rfl
@[simp] theorem a_sRetN : sRetN ρ = some (.ok (.rt (.imm .none)) ρ) := rfl
@[simp] theorem a_sDrop {m : MM M} : sDrop m ρ = thB (m ρ) (fun _ ρ1 => some (.ok .nx ρ1)) := by
  unfold sDrop
  try unfold bindM
  unfold thB
  cases m ρ with
  | none => rfl
  | some r => cases r <;> rfl
@[simp] theorem a_seq {m k : MM Fl} : seqM m k ρ = thS (m ρ) k := by
  unfold seqM bindM thS
  cases m ρ with
  | none => rfl
  | some r =>
    cases r with
    | ok f ρ1 => cases f <;> rfl
    | er _ _ _ => rfl
@[simp] theorem a_end : endM ρ = some (.ok .nx ρ) := rfl
@[simp] theorem a_sAug {o : PyData → PyData → Option PyData} {m : MM PyData} : sAug i o m ρ = (eV i ρ).bind fun x => thB (m ρ) (fun y ρ1 => (o x y).map fun z => .ok .nx (ρ1.set i (some (.imm z)))) := by
  unfold sAug bindM thB
  cases eV i ρ with
  | none => rfl
  | some x =>
    cases m ρ with
    | none => rfl
    | some r => cases r <;> rfl
@[simp] theorem a_for {p : Pt} {m : MM (List PyData)} {mb : MM Fl} : forM p m mb ρ = thB (m ρ) (fun xs ρ1 => loopM p mb xs ρ1) := by
  unfold forM
  try unfold bindM
  unfold thB
  cases m ρ with
  | none => rfl
  | some r => cases r <;> rfl
@[simp] theorem a_loop_nil {p : Pt} {mb : MM Fl} : loopM p mb [] ρ = some (.ok .nx ρ) := rfl
@[simp] theorem a_iT {m : MM PyData} : iT m ρ = bindM m (fun d => optM (tupL d)) ρ := rfl
@[simp] theorem a_tupL {ds : List PyData} : tupL (.tuple ds) = some ds := rfl
@[simp] theorem a_iStr {m : MM PyData} : iStrM m ρ = bindM m (fun d => match d with | .str z => pureM (signsL z) | _ => fun _ => none) ρ := rfl
@[simp] theorem a_iL {m : MM M} : iL m ρ = bindM m (fun x => optM (lstL x)) ρ := rfl
@[simp] theorem a_lstL {xs : List M} : lstL (.lst xs) = immL xs := rfl
@[simp] theorem a_lstS {ns : List Int} : lstL (.scr ns) = some (ns.map .int) := rfl
@[simp] theorem a_immN : immL [] = some [] := rfl
@[simp] theorem a_immC {d : PyData} {xs : List M} : immL (.imm d :: xs) = (immL xs).map fun ds => d :: ds := rfl
@[simp] theorem a_rng1 {j : Int} : rng1 (.int j) = if -big62 ≤ j ∧ j < big62 then some (rangeL 0 j.toNat) else none := rfl
@[simp] theorem a_rng2 {i j : Int} : rng2 (.int i) (.int j) = if (-big62 ≤ i ∧ i < big62) ∧ -big62 ≤ j ∧ j < big62 then some (rangeL i (j - i).toNat) else none := rfl
@[simp] theorem a_iR1 {m : MM PyData} : iR1 m ρ = bindM m (fun d => optM (rng1 d)) ρ := rfl
@[simp] theorem a_iR2 {m k : MM PyData} : iR2 m k ρ = bindM m (fun d => bindM k fun e => optM (rng2 d e)) ρ := rfl
@[simp] theorem a_iEn {m : MM PyData} : iEn m ρ = bindM m (fun d => optM ((tupL d).map (numL 0))) ρ := rfl
@[simp] theorem a_backN {S : List Nat} : backs S i [] ρ = some [] := by simp only [backs]
@[simp] theorem a_backC {S : List Nat} {x : M} {xs : List M} {o : Option M} : backs S i (x :: xs) (o :: ρ) = if S.contains i then (match o with | some y => (backs S (i + 1) xs ρ).map fun ys => y :: ys | none => none) else if isImm x then (backs S (i + 1) xs ρ).map fun ys => x :: ys else none := by
  simp only [backs]
  all_goals rfl
@[simp] theorem i_imm {d : PyData} : isImm (.imm d) = true := rfl
@[simp] theorem i_scr {d : List Int} : isImm (.scr d) = true := rfl
@[simp] theorem i_fn {d : Nat} : isImm (.fn d) = true := rfl
@[simp] theorem i_fro {d : Nat} {fs : List (Str × PyData)} : isImm (.fro d fs) = true := rfl
@[simp] theorem a_eCall {n : Nat} {mf : List PyData → Option PyData} {m : Env' → Option (List PyData)} : eCall n mf m ρ = (m ρ).bind fun ds => if ds.length = n then mf ds else none := rfl
@[simp] theorem a_dCall {n : Nat} {mf : List PyData → Option PyData} {m : MM (List PyData)} : dCall n mf m ρ = bindM m (fun ds => optM (if ds.length = n then mf ds else none)) ρ := rfl
@[simp] theorem a_eCall0 {mf : List PyData → Option PyData} : eCall0 mf ρ = mf [] := rfl
@[simp] theorem a_rNil : rNil ρ = some (.ok [] ρ) := rfl
@[simp] theorem a_rVal {m : MM PyData} {k : MM (List Aw)} : rVal m k ρ = bindM m (fun d => bindM k fun as => pureM (.val d :: as)) ρ := rfl
@[simp] theorem a_rSlot {k : MM (List Aw)} : rSlot i k ρ = match ρ[i]? with | some (some _) => bindM k (fun as => pureM (.slot i :: as)) ρ | _ => none := rfl
@[simp] theorem a_rOwn {m : MM M} {k : MM (List Aw)} : rOwn m k ρ = bindM m (fun d => bindM k fun as => pureM (.own d :: as)) ρ := rfl
@[simp] theorem t_nil : takes [] ρ = some ([], ρ) := by simp only [takes]
@[simp] theorem t_val {d : PyData} {r : List Aw} : takes (.val d :: r) ρ = (takes r ρ).map fun p => (.imm d :: p.1, p.2) := by simp only [takes]
@[simp] theorem t_own {d : M} {r : List Aw} : takes (.own d :: r) ρ = (takes r ρ).map fun p => (d :: p.1, p.2) := by simp only [takes]
@[simp] theorem t_slot {r : List Aw} : takes (.slot i :: r) ρ = match ρ[i]? with | some (some x) => (takes r (ρ.set i (some .hol))).map fun p => (x :: p.1, p.2) | _ => none := by
  rw [takes.eq_def]
  all_goals rfl
@[simp] theorem p_nil : puts [] [] ρ = some ρ := by simp only [puts]
@[simp] theorem p_slot {r : List Aw} {y : M} {ys : List M} : puts (.slot i :: r) (y :: ys) ρ = match ρ[i]? with | some (some .hol) => puts r ys (ρ.set i (some y)) | _ => none := by
  rw [puts.eq_def]
  all_goals rfl
@[simp] theorem p_val {r : List Aw} {d : PyData} {y : M} {ys : List M} : puts (.val d :: r) (y :: ys) ρ = puts r ys ρ := by simp only [puts]
@[simp] theorem p_own {r : List Aw} {d y : M} {ys : List M} : puts (.own d :: r) (y :: ys) ρ = puts r ys ρ := by simp only [puts]
def afterC (as : List Aw) (ρ1 : Env') : Option (Rs (List M) M) → Option (Rs Env' M)
  | none => none
  | some (.ok y ys) => (puts as ys ρ1).map fun ρ2 => .ok y ρ2
  | some (.er _ _ _) => none
@[simp] theorem c_ok {as : List Aw} {y : M} {ys : List M} : afterC as ρ (some (.ok y ys)) = (puts as ys ρ).map fun ρ2 => .ok y ρ2 := rfl
def goC (n : Nat) (mf : List M → Option (Rs (List M) M)) (as : List Aw) : Option (List M × Env') → Option (Rs Env' M)
  | none => none
  | some (xs, ρ1) => if xs.length = n then afterC as ρ1 (mf xs) else none
@[simp] theorem g_ok {n : Nat} {mf : List M → Option (Rs (List M) M)} {as : List Aw} {xs : List M} : goC n mf as (some (xs, ρ)) = if xs.length = n then afterC as ρ (mf xs) else none := rfl
@[simp] theorem a_xCall {n : Nat} {mf : List M → Option (Rs (List M) M)} {m : MM (List Aw)} : xCall n mf m ρ = thB (m ρ) (fun as ρ1 => goC n mf as (takes as ρ1)) := by
  unfold xCall bindM thB
  cases m ρ with
  | none => rfl
  | some r =>
    cases r with
    | er _ _ _ => rfl
    | ok as ρ1 =>
      dsimp only
      cases takes as ρ1 with
      | none => rfl
      | some p =>
        obtain ⟨xs, ρ2⟩ := p
        dsimp only [goC]
        split
        · cases mf xs with
          | none => rfl
          | some q => cases q <;> rfl
        · rfl
@[simp] theorem a_sIdx {mk : Env' → Option PyData} {m : MM PyData} : sIdx i mk m ρ = bindM m (fun d ρ => match ρ[i]? with
  | some (some (.lst xs)) => (mk ρ).bind fun k => (ixSet xs k (.imm d)).map fun ys => .ok .nx (ρ.set i (some (.lst ys)))
  | _ => none) ρ := rfl
@[simp] theorem x_set {xs : List M} {z : Int} {y : M} : ixSet xs (.int z) y = (ixN xs.length z).map fun j => xs.set j y := rfl
@[simp] theorem a_xApp {m : MM M} : xApp i m ρ = match ρ[i]? with
  | some (some (.lst _)) => bindM m (fun y ρ1 => match ρ1[i]? with
      | some (some (.lst xs)) => if xs.length ≤ most then some (.ok (.imm .none) (ρ1.set i (some (.lst (xs ++ [y]))))) else none
      | _ => none) ρ
  | _ => none := rfl
@[simp] theorem w_nil : awM [] = some [] := rfl
@[simp] theorem w_val {d : PyData} {r : List Aw} : awM (.val d :: r) = (awM r).map fun xs => .imm d :: xs := rfl
@[simp] theorem w_own {d : M} {r : List Aw} : awM (.own d :: r) = (awM r).map fun xs => d :: xs := rfl
@[simp] theorem a_xLst {m : MM (List Aw)} : xLst m ρ = bindM m (fun as => optM ((awM as).bind fun xs => if xs.length ≤ most then some (.lst xs) else none)) ρ := rfl
@[simp] theorem x_l {xs : List M} {z : Int} : ixM (.lst xs) (.int z) = atI xs z := rfl
@[simp] theorem x_s {ns : List Int} {z : Int} : ixM (.scr ns) (.int z) = (atI ns z).map fun n => .imm (.int n) := rfl
@[simp] theorem x_d {d k : PyData} : ixM (.imm d) k = (oIx d k).map .imm := by cases k <;> rfl
@[simp] theorem a_pIx {m : Env' → Option M} {k : Int} : pIx m k ρ = (m ρ).bind fun x => ixM x (.int k) := rfl
@[simp] theorem a_eIx {m : Env' → Option M} {mk : Env' → Option PyData} : eIx m mk ρ = (m ρ).bind fun x => (mk ρ).bind fun k => (ixM x k).bind dM := rfl
@[simp] theorem a_dIxX {m : MM M} {mk : MM PyData} : dIxX m mk ρ = bindM m (fun x => bindM mk fun k => match k with
  | .int z => optM ((ixM x (.int z)).bind dM)
  | _ => fun _ => none) ρ := rfl
@[simp] theorem a_dIxV {mk : MM PyData} : dIxV i mk ρ = match ρ[i]? with
  | some (some _) => bindM mk (fun k ρ1 => match k, ρ1[i]? with
      | .int z, some (some x) => ((ixM x (.int z)).bind dM).map fun d => .ok d ρ1
      | _, _ => none) ρ
  | _ => none := rfl
@[simp] theorem a_forV {p : Pt} {mb : MM Fl} : forV i p mb ρ = match ρ[i]? with
  | some (some x) => (match lstL x with
    | some items => loopV i p mb items ρ
    | none => none)
  | _ => none := rfl
@[simp] theorem a_loopV_nil {p : Pt} {mb : MM Fl} : loopV i p mb [] ρ = some (.ok .nx ρ) := by simp only [loopV]; rfl
@[simp] theorem f_ins {c : Nat} {f : Str} {c' : Nat} {fs : List (Str × M)} : fldM c f (.ins c' fs) = if c' = c then fs.lookup f else none := rfl
@[simp] theorem f_fro {c : Nat} {f : Str} {c' : Nat} {fs : List (Str × PyData)} : fldM c f (.fro c' fs) = if c' = c then (fs.lookup f).map .imm else none := rfl
@[simp] theorem a_pFld {c : Nat} {f : Str} {m : Env' → Option M} : pFld c f m ρ = (m ρ).bind (fldM c f) := rfl
def kTab (tab : List (Str × M)) : PyData → MM M
  | .str z => fun ρ => (tab.lookup z).map fun x => .ok x ρ
  | _ => fun _ => none
@[simp] theorem a_kTab {tab : List (Str × M)} {z : Str} : kTab tab (.str z) ρ = (tab.lookup z).map fun x => .ok x ρ := rfl
@[simp] theorem a_tab {tab : List (Str × M)} {m : MM PyData} : tabM tab m ρ = thB (m ρ) (kTab tab) := by
  unfold tabM bindM thB
  cases m ρ with
  | none => rfl
  | some r =>
    cases r with
    | ok d ρ1 => cases d <;> rfl
    | er _ _ _ => rfl
@[simp] theorem o_tabIn {tab : List (Str × M)} {z : Str} : oTabIn tab (.str z) = some (.bool (tab.lookup z).isSome) := rfl
@[simp] theorem o_tabNot {tab : List (Str × M)} {z : Str} : oTabNot tab (.str z) = some (.bool (!(tab.lookup z).isSome)) := rfl
@[simp] theorem a_tabIn {tab : List (Str × M)} {m : MM PyData} : dTabIn tab m ρ = bindM m (fun d => optM (oTabIn tab d)) ρ := rfl
@[simp] theorem a_tabNot {tab : List (Str × M)} {m : MM PyData} : dTabNot tab m ρ = bindM m (fun d => optM (oTabNot tab d)) ρ := rfl
@[simp] theorem a_xCallV {n k : Nat} {Φ : Nat → List M → Option (Rs (List M) M)} {m : MM (List Aw)} : xCallV i n k Φ m ρ = match ρ[i]? with
  | some (some (.fn j)) => if j < n then xCall k (Φ j) m ρ else none
  | _ => none := rfl
@[simp] theorem a_dInX {neg : Bool} {m : MM PyData} {k : MM M} : dInX neg m k ρ = bindM m (fun d => bindM k fun x => optM (inL neg d x)) ρ := rfl
@[simp] theorem a_dInP {neg : Bool} {m : MM PyData} {k : Env' → Option M} : dInP neg m k ρ = bindM m (fun d ρ => ((k ρ).bind fun x => inL neg d x).map fun z => .ok z ρ) ρ := rfl
@[simp] theorem in_l {neg : Bool} {a : PyData} {xs : List M} : inL neg a (.lst xs) = match immL xs with | some ds => (inB a ds).map fun c => .bool (if neg then !c else c) | none => none := rfl
@[simp] theorem tup_l {xs : List M} : oTupL (.lst xs) = (immL xs).map .tuple := rfl
@[simp] theorem tup_d {ds : List PyData} : oTupL (.imm (.tuple ds)) = some (.tuple ds) := rfl
@[simp] theorem a_dTupX {m : MM M} : dTupX m ρ = bindM m (fun x => optM (oTupL x)) ρ := rfl
@[simp] theorem a_eTupP {m : Env' → Option M} : eTupP m ρ = (m ρ).bind oTupL := rfl
@[simp] theorem a_chain {o1 o2 : PyData → PyData → Option PyData} {ma mb mc : MM PyData} : dChain o1 o2 ma mb mc ρ = bindM ma (fun x => bindM mb fun y => bindM (optM (o1 x y)) fun z => match z with
  | .bool true => bindM mc fun w => optM (o2 y w)
  | .bool false => pureM (.bool false)
  | _ => fun _ => none) ρ := rfl
@[simp] theorem a_new {c : Nat} {names : List Str} {m : MM (List PyData)} : xNew c names m ρ = bindM m (fun ds => optM (if ds.length = names.length then some (.fro c (names.zip ds)) else none)) ρ := rfl
/-! #### loops by a word -/
/-- each turn of a loop keeps the word and goes on -/
theorem loop_inv {p : Pt} {mb : MM Fl} (Pv : Nat → Env' → Prop) (xs : List PyData) (h : ∀ j ρ (hj : j < xs.length), Pv j ρ → ∃ ρ', (match bindP p xs[j] ρ with | none => none | some ρ1 => mb ρ1) = some (.ok .nx ρ') ∧ Pv (j + 1) ρ') :
    ∀ (n j : Nat) (ρ : Env'), j + n = xs.length → Pv j ρ → ∃ ρ', loopM p mb (xs.drop j) ρ = some (.ok .nx ρ') ∧ Pv xs.length ρ'
  | 0, j, ρ, e, hp => by
    have e' : j = xs.length := by omega
    subst e'
    exact ⟨ρ, by rw [List.drop_length]; rfl, hp⟩
  | n + 1, j, ρ, e, hp => by
    have hj : j < xs.length := by omega
    obtain ⟨ρ', h1, h2⟩ := h j ρ hj hp
    obtain ⟨ρ2, g1, g2⟩ := loop_inv Pv xs h n (j + 1) ρ' (by omega) h2
    refine ⟨ρ2, ?_, g2⟩
    rw [List.drop_eq_getElem_cons hj]
    simp only [loopM]
    cases hb : bindP p xs[j] ρ with
    | none => rw [hb] at h1; cases h1
    | some ρ1 =>
      rw [hb] at h1
      dsimp only at h1 ⊢
      rw [h1]
      exact g1
theorem for_inv {p : Pt} {mb : MM Fl} (Pv : Nat → Env' → Prop) (xs : List PyData) (ρ : Env') (h0 : Pv 0 ρ) (h : ∀ j ρ (hj : j < xs.length), Pv j ρ → ∃ ρ', (match bindP p xs[j] ρ with | none => none | some ρ1 => mb ρ1) = some (.ok .nx ρ') ∧ Pv (j + 1) ρ') :
    ∃ ρ', loopM p mb xs ρ = some (.ok .nx ρ') ∧ Pv xs.length ρ' := by
  have := loop_inv Pv xs h xs.length 0 ρ (by omega) h0
  rwa [List.drop_zero] at this
theorem rangeL_get {lo : Int} {n j : Nat} (h : j < (rangeL lo n).length) : (rangeL lo n)[j] = .int (lo + (j : Nat)) := by
  have e : ∀ (xs : List PyData) (_ : xs = rangeL lo n) (h : j < xs.length), xs[j] = .int (lo + (j : Nat)) := fun xs ex h => by
    subst ex
    have h' : (rangeL lo n)[j]? = some (.int (lo + (j : Nat))) := by
      have hj : j < n := by rwa [rangeL_len] at h
      unfold rangeL
      rw [List.getElem?_map, List.getElem?_range hj]
      rfl
    exact (List.getElem_eq_iff h).mpr h'
  exact e _ rfl h
theorem range_inv {k : Nat} {mb : MM Fl} (Pv : Nat → Env' → Prop) (lo : Int) (n : Nat) (ρ : Env') (h0 : Pv 0 ρ) (h : ∀ j ρ, j < n → Pv j ρ → ∃ ρ', mb (ρ.set k (some (.imm (.int (lo + (j : Nat)))))) = some (.ok .nx ρ') ∧ Pv (j + 1) ρ') :
    ∃ ρ', loopM (.nm k) mb (rangeL lo n) ρ = some (.ok .nx ρ') ∧ Pv n ρ' := by
  have := for_inv (p := .nm k) (mb := mb) Pv (rangeL lo n) ρ h0 fun j ρ hj hp => by
    have hj' : j < n := by rwa [rangeL_len] at hj
    rw [rangeL_get hj, a_nm]
    exact h j ρ hj' hp
  rwa [rangeL_len] at this
theorem loopV_inv {p : Pt} {mb : MM Fl} (x : M) (Pv : Nat → Env' → Prop) (xs : List PyData) (hx : ∀ j ρ, Pv j ρ → ρ[i]? = some (some x)) (h : ∀ j ρ (hj : j < xs.length), Pv j ρ → ∃ ρ', (match bindP p xs[j] ρ with | none => none | some ρ1 => mb ρ1) = some (.ok .nx ρ') ∧ Pv (j + 1) ρ') :
    ∀ (n j : Nat) (ρ : Env'), j + n = xs.length → Pv j ρ → ∃ ρ', loopV i p mb (xs.drop j) ρ = some (.ok .nx ρ') ∧ Pv xs.length ρ'
  | 0, j, ρ, e, hp => by
    have e' : j = xs.length := by omega
    subst e'
    exact ⟨ρ, by rw [List.drop_length]; simp, hp⟩
  | n + 1, j, ρ, e, hp => by
    have hj : j < xs.length := by omega
    obtain ⟨ρ', h1, h2⟩ := h j ρ hj hp
    obtain ⟨ρ2, g1, g2⟩ := loopV_inv x Pv xs hx h n (j + 1) ρ' (by omega) h2
    refine ⟨ρ2, ?_, g2⟩
    rw [List.drop_eq_getElem_cons hj]
    simp only [loopV]
    cases hb : bindP p xs[j] ρ with
    | none => rw [hb] at h1; cases h1
    | some ρ1 =>
      rw [hb] at h1
      dsimp only at h1 ⊢
      rw [h1]
      dsimp only
      rw [if_pos ((hx _ _ h2).trans (hx _ _ hp).symm)]
      exact g1
theorem forV_inv {p : Pt} {mb : MM Fl} (x : M) (Pv : Nat → Env' → Prop) (xs : List PyData) (ρ : Env') (hx : ∀ j ρ, Pv j ρ → ρ[i]? = some (some x)) (h0 : Pv 0 ρ) (h : ∀ j ρ (hj : j < xs.length), Pv j ρ → ∃ ρ', (match bindP p xs[j] ρ with | none => none | some ρ1 => mb ρ1) = some (.ok .nx ρ') ∧ Pv (j + 1) ρ') :
    ∃ ρ', loopV i p mb xs ρ = some (.ok .nx ρ') ∧ Pv xs.length ρ' := by
  have := loopV_inv x Pv xs hx h xs.length 0 ρ (by omega) h0
  rwa [List.drop_zero] at this
end
section
variable {S : List Nat} {L : Nat} {m : MM Fl} {ρ : Env'}
def finX (S : List Nat) (xs : List M) : Option (Rs Env' Fl) → Option (Rs (List M) M)
  | some (.ok (.rt y) ρ) => (backs S 0 xs ρ).map fun ys => .ok y ys
  | some (.ok .nx ρ) => (backs S 0 xs ρ).map fun ys => .ok (.imm .none) ys
  | _ => none
@[simp] theorem finX_rt {xs : List M} {y : M} : finX S xs (some (.ok (.rt y) ρ)) = (backs S 0 xs ρ).map fun ys => .ok y ys := rfl
@[simp] theorem finX_nx {xs : List M} : finX S xs (some (.ok .nx ρ)) = (backs S 0 xs ρ).map fun ys => .ok (.imm .none) ys := rfl
theorem a_runX {xs : List M} : runX S L m xs = finX S xs (m (xs.map some ++ List.replicate (L - xs.length) none)) := rfl
def finD : Option (Rs Env' Fl) → Option PyData
  | some (.ok (.rt (.imm d)) _) => some d
  | some (.ok .nx _) => some .none
  | _ => none
@[simp] theorem finD_rt {d : PyData} : finD (some (.ok (.rt (.imm d)) ρ)) = some d := rfl
@[simp] theorem finD_nx : finD (some (.ok .nx ρ)) = some .none := rfl
theorem a_runD {ds : List PyData} : runD L m ds = finD (m (ds.map (fun d => some (.imm d)) ++ List.replicate (L - ds.length) none)) := rfl
end
/-! ### texts that are written -/
def tg (s : Str) : Nat := s.cps.toList.foldl (fun h c => h * 1114112 + (c + 1)) 0
theorem tg_ne {a b : Str} (h : (tg a == tg b) = false) : (a = b) = False := eq_false fun e => by
  subst e
  simp at h
theorem tg_bne {a b : Str} (h : (tg a == tg b) = false) : (a == b) = false := beq_eq_false_iff_ne.mpr fun e => by
  subst e
  simp at h
theorem lookup_ne {β : Type} {a b : Str} {x : β} {xs : List (Str × β)} (h : (tg a == tg b) = false) : List.lookup a ((b, x) :: xs) = List.lookup a xs := by
  rw [List.lookup_cons, tg_bne h]
theorem lookup_eq {β : Type} {a : Str} {x : β} {xs : List (Str × β)} : List.lookup a ((a, x) :: xs) = some x := by
  rw [List.lookup_cons, beq_self_eq_true]
theorem le_most (n : Nat) : (n ≤ most) = (n ≤ 1000000) := propext ⟨fun h => h, fun h => h⟩
theorem in_big (i : Int) : (-big62 ≤ i ∧ i < big62) = (-4611686018427387904 ≤ i ∧ i < 4611686018427387904) := propext ⟨fun h => h, fun h => h⟩
/-! ### a digit drawn -/
def BX (ds : List Int) (k : Nat) : M := .lst [.lst (ds.map fun i => .imm (.int i)), .imm (.int k)]
def dr (ds : List Int) (k : Nat) (m : Int) : Int := match ds[k]? with
  | some z => z.fmod m
  | none => 0
theorem dr_nn (ds : List Int) (k : Nat) {m : Int} (h : 0 < m) : 0 ≤ dr ds k m := by
  unfold dr
  split
  · exact Int.fmod_nonneg_of_pos _ h
  · exact Int.le_refl _
theorem dr_lt (ds : List Int) (k : Nat) {m : Int} (h : 0 < m) : dr ds k m < m := by
  unfold dr
  split
  · exact Int.fmod_lt_of_pos _ h
  · exact h
theorem at_ints (ds : List Int) (k : Nat) (h : k < ds.length) : atI (ds.map fun i => M.imm (.int i)) (k : Int) = some (.imm (.int ds[k])) := by
  rw [at_n (j := k) (by rw [List.length_map]; exact h) rfl, List.getElem_map]
theorem bits_log {z : Int} (h : Builtin.Int.intBits z ≤ 1048576) : z.natAbs.log2 ≤ 1048576 := by
  unfold Builtin.Int.intBits at h
  split at h
  · rename_i e
    have : z = 0 := by simpa using e
    subst this
    decide
  · omega
theorem log2_small {z : Int} {n : Nat} (h1 : 0 < n) (h : z.natAbs < 2 ^ n) : z.natAbs.log2 < n := PySem.Flt.log2_lt_of h1 h
/-- the digits as a list in a name -/
def LI (ds : List Int) : M := .lst (ds.map fun i => .imm (.int i))
theorem LI_app (ds : List Int) (z : Int) : M.lst (ds.map (fun i => .imm (.int i)) ++ [.imm (.int z)]) = LI (ds ++ [z]) := by
  unfold LI
  rw [List.map_append]
  rfl
theorem mulX_log {i j : Int} {a b : Nat} (h1 : i.natAbs.log2 ≤ a) (h2 : j.natAbs.log2 ≤ b) (h : a + b < 134000000) : CMulX i j := by
  unfold CMulX
  omega
theorem log_neg {z : Int} (h : z.natAbs.log2 ≤ 1048576) : (1 - 2 * z).natAbs.log2 ≤ 1048578 := by
  have h1 : z.natAbs < 2 ^ 1048577 := by
    by_cases e : z.natAbs = 0
    · rw [e]
      exact Nat.two_pow_pos _
    · exact (Nat.log2_lt e).mp (by omega)
  have h2 : (1 - 2 * z).natAbs < 2 ^ 1048579 := by
    have e : 2 ^ 1048579 = 4 * 2 ^ 1048577 := by
      rw [show (1048579 : Nat) = 1048577 + 2 from rfl, Nat.pow_add, Nat.mul_comm]
    rw [e]
    generalize 2 ^ 1048577 = p at h1
    omega
  exact Nat.le_of_lt_succ (PySem.Flt.log2_lt_of (by decide) h2)
theorem mulX_nat {i j : Int} (h1 : i.natAbs < 10 ^ 70) (h2 : j.natAbs < 10 ^ 70) : CMulX i j := by
  have two240 : (10 ^ 70 : Nat) < 2 ^ 240 := by decide +kernel
  exact mulX_log (a := 240) (b := 240) (Nat.le_of_lt (log2_small (by decide) (Nat.lt_trans h1 two240))) (Nat.le_of_lt (log2_small (by decide) (Nat.lt_trans h2 two240))) (by decide)
theorem str_at (s : Str) (z : Int) (h0 : 0 ≤ z) (h1 : z < s.length) : ∃ c, atI s.cps.toList z = some c := by
  have h2 : s.cps.toList.length = s.length := by
    rw [Array.length_toList]
    rfl
  have := at_n (xs := s.cps.toList) (j := z.toNat) (z := z) (by omega) (by omega)
  exact ⟨_, this⟩
theorem mk_len (xs : List Nat) : (mkS xs).length = xs.length := by
  show xs.toArray.size = _
  simp
theorem app_len (a b : Str) : (a ++ b).length = a.length + b.length := by
  show (a.cps ++ b.cps).size = _
  rw [Array.size_append]
  rfl
theorem dr_big (ds : List Int) (k : Nat) (m : Int) (h0 : 0 < m) (h1 : m ≤ 1000000) : (-4611686018427387904 ≤ dr ds k m ∧ dr ds k m < 4611686018427387904) = True := eq_true ⟨by have := dr_nn ds k h0; omega, by have := dr_lt ds k h0; omega⟩
/-! ### the head by facts -/
mutual
theorem klitB_ok {K : PySem.W.Frag} : ∀ {d : PyData} {u : Value}, klitB K d u = true → KLit K u d
  | .none, u, h => by
    cases u <;> first | exact .none | (simp only [klitB] at h; cases h)
  | .bool b, u, h => by
    cases u with
    | bool c =>
      simp only [klitB] at h
      have := beq_iff_eq.mp h
      subst this
      exact .bool b
    | _ => simp only [klitB] at h; cases h
  | .int i, u, h => by
    cases u with
    | int j t =>
      simp only [klitB] at h
      have := of_decide_eq_true h
      subst this
      exact .int j t
    | _ => simp only [klitB] at h; cases h
  | .str s, u, h => by
    cases u with
    | str j t =>
      simp only [klitB] at h
      have := of_decide_eq_true h
      subst this
      exact .str j t
    | _ => simp only [klitB] at h; cases h
  | .tuple ds, u, h => by
    cases u with
    | ref a =>
      simp only [klitB] at h
      cases q : K.lookup a with
      | none => rw [q] at h; cases h
      | some o =>
        obtain ⟨oc, od, dt, osl⟩ := o
        rw [q] at h
        cases od with
        | some _ => cases oc <;> cases dt <;> cases h
        | none =>
        cases oc with
        | type c =>
          cases dt with
          | seq its n =>
            have h0 : (decide (c = "tuple") && (decide (its.toList.length ≤ 1000) && klitsB K ds its.toList)) = true := h
            obtain ⟨h1, h2⟩ := He.ba h0
            obtain ⟨h3, h4⟩ := He.ba h2
            have e := of_decide_eq_true h1
            subst e
            exact .tup q rfl (of_decide_eq_true h3) (klitsB_ok h4)
          | _ => cases h
        | _ => cases dt <;> cases h
    | _ => simp only [klitB] at h; cases h
  | .list _, _, h => by simp only [klitB] at h; cases h
  | .dict _, _, h => by simp only [klitB] at h; cases h
theorem klitsB_ok {K : PySem.W.Frag} : ∀ {ds : List PyData} {us : List Value}, klitsB K ds us = true → KLits K us ds
  | [], us, h => by
    simp only [klitsB] at h
    rw [List.isEmpty_iff.mp h]
    exact .nil
  | d :: ds, us, h => by
    cases us with
    | nil => simp only [klitsB] at h; cases h
    | cons u us =>
      simp only [klitsB] at h
      obtain ⟨h1, h2⟩ := He.ba h
      exact .cons (klitB_ok h1) (klitsB_ok h2)
end
section
variable {K : PySem.W.Frag} {h : Heap} {mg : Str → Option Value}
theorem con_ok (X : K.In h) (G : h.Ns mainGlobals mg) {x : Str} {d : PyData} (c : (Fx.con x d).ok K = true) : ∃ u, mg x = some u ∧ KLit K u d := by
  have c2 : (match PySem.W.nsIn K mainGlobals x with
    | some (some u) => klitB K d u
    | _ => false) = true := c
  cases e : PySem.W.nsIn K mainGlobals x with
  | none => rw [e] at c2; cases c2
  | some o =>
    rw [e] at c2
    cases o with
    | none => cases c2
    | some u => exact ⟨u, PySem.W.mg_of X G e, klitB_ok c2⟩
theorem ent_ok {t z f : Str} (c : (Fx.ent t z f).ok K = true) : PySem.W.nsIn K (He.ga K t) z = some (some (.ref (He.ga K f))) := He.eqO_ok c
theorem dat_ok {t z : Str} {d : PyData} (c : (Fx.dat t z d).ok K = true) : ∃ u, PySem.W.nsIn K (He.ga K t) z = some (some u) ∧ KLit K u d := by
  have c2 : (match PySem.W.nsIn K (He.ga K t) z with
    | some (some u) => klitB K d u
    | _ => false) = true := c
  cases e : PySem.W.nsIn K (He.ga K t) z with
  | none => rw [e] at c2; cases c2
  | some o =>
    rw [e] at c2
    cases o with
    | none => cases c2
    | some u => exact ⟨u, rfl, klitB_ok c2⟩
theorem ne_ok {a b : Str} (c : (Fx.ne a b).ok K = true) : He.ga K a ≠ He.ga K b := by
  have c2 : (!(He.ga K a == He.ga K b)) = true := c
  intro e
  rw [e, beq_self_eq_true] at c2
  cases c2
end
theorem keysAre_of {P : Params} : ∀ {l : List DictEntry} {ks : List Str}, l.map He.keyOf = He.keysIn P ks → KeysAre l ks
  | [], [], _ => True.intro
  | [], k :: ks, h => by cases h
  | e :: r, [], h => by cases h
  | e :: r, k :: ks, h => by
    have h1 : He.keyOf e :: r.map He.keyOf = some (k, PyData.keyHash P k) :: He.keysIn P ks := h
    injection h1 with h2 h3
    refine ⟨?_, keysAre_of h3⟩
    unfold He.keyOf at h2
    split at h2
    · rename_i x t q
      obtain ⟨h5, h6⟩ := Prod.mk.inj (Option.some.inj h2)
      exact ⟨t, by rw [q, h5]⟩
    · cases h2
theorem dicK_ok {K : PySem.W.Frag} {w : World} {a : Addr} {ks : List Str} (h : He.dicW K a = some (He.keysIn w.params ks)) : ∃ es n, KDict K w a es n ∧ KeysAre es.toList ks := by
  obtain ⟨es, n, D⟩ := He.dicW_ok h
  refine ⟨es, n, D, ?_⟩
  have l := D.at_
  unfold He.dicW at h
  rw [l] at h
  have h1 : (match decide ("dict" = "dict") && ((#[] : Array (Option Value)).isEmpty && !(a == sysModules)) with
    | true => some (es.toList.map He.keyOf)
    | false => none) = some (He.keysIn w.params ks) := h
  cases z : decide ("dict" = "dict") && ((#[] : Array (Option Value)).isEmpty && !(a == sysModules)) with
  | false => rw [z] at h1; cases h1
  | true =>
    rw [z] at h1
    exact keysAre_of (Option.some.inj h1)
section
variable {fa : List He.Fa} {fn : List He.FnD} {ts : List He.Tab} {ex : List Fx} {w : World} {K : PySem.W.Frag}
theorem SaysM.e (c : SaysM fa fn ts ex w K) : He.SaysE fa fn K := congrArg (fun z : AlM => z.1.1) c
theorem SaysM.fact (c : SaysM fa fn ts ex w K) (i : Nat) {f : He.Fa} (h : fa[i]? = some f := by rfl) : f.ok K = true := c.e.fact i h
theorem SaysM.two (c : SaysM fa fn ts ex w K) : (ex.all fun f => f.ok K) = true ∧ (fn.all fun d => PySem.W.keepIn K (.ref (He.fAd K d.at_))) = true :=
  He.ba (show ((ex.all fun f => f.ok K) && fn.all fun d => PySem.W.keepIn K (.ref (He.fAd K d.at_))) = true from congrArg (fun z : AlM => z.2) c)
theorem SaysM.fx (c : SaysM fa fn ts ex w K) (i : Nat) {f : Fx} (h : ex[i]? = some f := by rfl) : f.ok K = true := List.all_eq_true.mp c.two.1 f (List.mem_of_getElem? h)
theorem SaysM.tab (c : SaysM fa fn ts ex w K) (i : Nat) {t : He.Tab} (h : ts[i]? = some t := by rfl) : ∃ es n, KDict K w (t.1 K) es n ∧ KeysAre es.toList t.2 := by
  have e : ts.map (fun t => He.dicW K (t.1 K)) = ts.map fun t => some (He.keysIn w.params t.2) := congrArg (fun z : AlM => z.1.2) c
  have e2 : (ts.map fun t => He.dicW K (t.1 K))[i]? = (ts.map fun t => some (He.keysIn w.params t.2))[i]? := by rw [e]
  rw [List.getElem?_map, List.getElem?_map, h] at e2
  exact dicK_ok (Option.some.inj e2)
theorem SaysM.fun_ (c : SaysM fa fn ts ex w K) (i : Nat) {a : Str × Option Str} {x qual : Str} {st : Stmt} {f : Addr} (h : fn[i]? = some ⟨a, x, qual, defArgs st, defBody st, defScope st⟩ := by rfl) (ha : He.fAd K a = f := by rfl) : ∃ fd, Fun K x qual st f fd := by
  obtain ⟨oc, od, osl, kV, doc, pm, an, cdv, ct, l, cc⟩ := c.e.def_ i h
  have k := List.all_eq_true.mp c.two.2 _ (List.mem_of_getElem? h)
  subst ha
  exact ⟨_, fun_mk l cc k⟩
end
/-- a law's end over a head by facts, its numbers bounded -/
theorem walk_ofEB {l : PySem.W.OpenLaw} {n k : Nat} {q : Program} {loose : List Str} {XP : (Str → Option Value) → Heap → Prop} {YP : World → Heap → Prop} {d : DefRec} {CX : CXT} {x : Str}
    (hn : l.most = some n) (hn2 : n ≤ sizeLine) (hdf : d.params.defaults = []) (hr : Room k callerA)
    (F : ∀ (w : World) (mg : Str → Option Value) (fa : Addr) (h : Heap), YP w h → h.Ns mainGlobals mg → mg d.name = some (.ref fa) →
      ∃ (K : PySem.W.Frag) (fd : FuncData) (sp : Sp), K.In h ∧ (∀ (s : Shared) (u : Value), BindsTo s fd ⟨[u], []⟩ [(x, u)]) ∧
        (∀ (H : Hp) (a : Addr) (ns : List Int), ns.length ≤ n → (∀ z ∈ ns, Builtin.Int.intBits z ≤ 1048576) → Only H → SqL K H a (ns.map V.int) → sp [.ref a] H (fun v _ => v = .bl true) fun _ _ _ => False) ∧
        ∀ base : Heap, K.In base → base.Ns mainGlobals mg → FnOk l.prog w K mg base CX k fa fd [x] sp)
    (hCX : ∀ (H : Hp) (s : Shared) (e : Value) (s' : Shared), CX [] H s (fun _ _ _ => False) e s' → False) :
    PySem.W.WalkO q loose XP YP l.row.toRowW d [] (fun f vs => PySem.call f vs) := by
  refine Att.attach_callB hn hdf fun w s₀ s₁ mg mb fa o pm cd doc a vs ns G Y ho hd hcd hmg hobj hints hlen hbits hg => ?_
  obtain ⟨K, fd, sp, KX, hb, hsp, hF⟩ := F w mg fa _ Y G.T.g hmg
  exact law_call KX G.T.g G.T.b G.T.builtins G.T.nolimit hg hobj hints (Nat.le_trans hlen hn2) hr hF hb (fun H hO hS => hsp H a ns hlen hbits hO hS) fun H e s' => hCX H s₁ e s'
theorem putF_new {fs : List (Str × V)} {n : Str} {v : V} (h : (fs.map Prod.fst).contains n = false) : putF n v fs = fs ++ [(n, v)] := by
  induction fs with
  | nil => rfl
  | cons p r ih =>
    obtain ⟨m, u⟩ := p
    rw [List.map_cons, List.contains_cons, Bool.or_eq_false_iff] at h
    have e : (m == n) = false := by
      have h1 := beq_eq_false_iff_ne.mp h.1
      exact beq_eq_false_iff_ne.mpr fun e => h1 e.symm
    have e2 : ¬ m = n := beq_eq_false_iff_ne.mp e
    unfold putF
    first
      | rw [if_neg e2, ih h.2]; rfl
      | (simp only [e, e2, ih h.2, if_false, List.cons_append]; done)
      | (simp [e2, ih h.2])
/-! ### loops, turn by turn -/
section
variable {ρ : Env'} {i : Nat}
def thL (k : MM Fl) : Option (Rs Env' Fl) → Option (Rs Env' Fl)
  | none => none
  | some (.ok .nx ρ2) => k ρ2
  | some (.ok .ct ρ2) => k ρ2
  | some (.ok .bk ρ2) => some (.ok .nx ρ2)
  | some (.ok (.rt x) ρ2) => some (.ok (.rt x) ρ2)
  | some (.er c fs ρ2) => some (.er c fs ρ2)
@[simp] theorem thL_none {k : MM Fl} : thL k none = none := rfl
@[simp] theorem thL_nx {k : MM Fl} : thL k (some (.ok .nx ρ)) = k ρ := rfl
@[simp] theorem thL_ct {k : MM Fl} : thL k (some (.ok .ct ρ)) = k ρ := rfl
@[simp] theorem thL_bk {k : MM Fl} : thL k (some (.ok .bk ρ)) = some (.ok .nx ρ) := rfl
@[simp] theorem thL_rt {k : MM Fl} {x : M} : thL k (some (.ok (.rt x) ρ)) = some (.ok (.rt x) ρ) := rfl
@[simp] theorem thL_er {k : MM Fl} {c : Nat} {fs : List (Str × PyData)} : thL k (some (.er c fs ρ)) = some (.er c fs ρ) := rfl
theorem loop_cons {p : Pt} {mb : MM Fl} {d : PyData} {ds : List PyData} : loopM p mb (d :: ds) ρ = (bindP p d ρ).bind fun ρ1 => thL (loopM p mb ds) (mb ρ1) := by
  show (match bindP p d ρ with | none => none | some ρ1 => _) = _
  cases bindP p d ρ with
  | none => rfl
  | some ρ1 =>
    dsimp only [Option.bind_some]
    cases mb ρ1 with
    | none => rfl
    | some r =>
      cases r with
      | ok f ρ2 => cases f <;> rfl
      | er _ _ _ => rfl
theorem num_cons {j : Nat} {d : PyData} {ds : List PyData} : numL j (d :: ds) = .tuple [.int (j : Int), d] :: numL (j + 1) ds := rfl
@[simp] theorem num_nil {j : Nat} : numL j [] = [] := rfl
theorem range_cons {j : Nat} {n : Nat} : rangeL (j : Int) (n + 1) = .int (j : Int) :: rangeL ((j + 1 : Nat) : Int) n := by
  unfold rangeL
  rw [List.range_succ_eq_map, List.map_cons, List.map_map]
  refine congr (congrArg _ (by simp)) (List.map_congr_left fun a _ => ?_)
  show PyData.int _ = PyData.int _
  congr 1
  show (j : Int) + ((a + 1 : Nat) : Int) = ((j + 1 : Nat) : Int) + (a : Int)
  omega
@[simp] theorem range_nil {lo : Int} : rangeL lo 0 = [] := rfl
end
/-! ### is True, is False -/
section
variable {K : PySem.W.Frag}
def oIsB : PyData → PyData → Option PyData
  | .bool a, .bool b => some (.bool (decide (a = b)))
  | _, _ => none
def oIsNotB : PyData → PyData → Option PyData
  | .bool a, .bool b => some (.bool (!decide (a = b)))
  | _, _ => none
theorem snd_isB : Snd2 K (fun x y H Q => ∃ a b, x = .bl a ∧ y = .bl b ∧ Q (.bl (decide (a = b))) H) oIsB := by
  intro H x y p q z Q dx nx dy ny h k
  cases p with
  | bool a =>
    cases q with
    | bool b =>
      cases h
      cases dy
      cases dx
      exact ⟨a, b, rfl, rfl, k _ H (Same.refl H) (.bl _) rfl⟩
    | _ => cases h
  | _ => cases q <;> cases h
theorem snd_isNotB : Snd2 K (fun x y H Q => ∃ a b, x = .bl a ∧ y = .bl b ∧ Q (.bl (!decide (a = b))) H) oIsNotB := by
  intro H x y p q z Q dx nx dy ny h k
  cases p with
  | bool a =>
    cases q with
    | bool b =>
      cases h
      cases dy
      cases dx
      exact ⟨a, b, rfl, rfl, k _ H (Same.refl H) (.bl _) rfl⟩
    | _ => cases h
  | _ => cases q <;> cases h
@[simp] theorem o_isB {a b : Bool} : oIsB (.bool a) (.bool b) = some (.bool (decide (a = b))) := rfl
@[simp] theorem o_isNotB {a b : Bool} : oIsNotB (.bool a) (.bool b) = some (.bool (!decide (a = b))) := rfl
end
/-! ### list comprehensions -/
/-- the block's own names forgotten -/
def wipeM (ρ : Env') : List Nat → Env'
  | [] => ρ
  | v :: vs => (wipeM ρ vs).set v none
section
variable {K : PySem.W.Frag} {T : Tb} {H : Hp}
theorem EnvR.clr : ∀ {σ : L2.St} {ρ : Env'} {F : List Addr} (v : Nat), EnvR K T H σ ρ F → F.Nodup → ∃ F', EnvR K T H (σ.set v none) (ρ.set v none) F' ∧ F'.Nodup ∧ ∀ b ∈ F', b ∈ F
  | _, _, _, v, .nil, n => ⟨[], .nil, n, fun _ h => h⟩
  | _, _, _, 0, .no r, n => ⟨_, .no r, n, fun _ h => h⟩
  | _, _, _, 0, .yes (f := f) a r, n => ⟨_, .no r, (List.nodup_append.mp n).2.1, fun b hb => List.mem_append_right _ hb⟩
  | _, _, _, v + 1, .no r, n => by
    obtain ⟨F', h1, h2, h3⟩ := EnvR.clr v r n
    exact ⟨F', .no h1, h2, h3⟩
  | _, _, _, v + 1, .yes a r, n => by
    have nn := List.nodup_append.mp n
    obtain ⟨F', h1, h2, h3⟩ := EnvR.clr v r nn.2.1
    refine ⟨_, .yes a h1, List.nodup_append.mpr ⟨nn.1, h2, fun b hb c hc => nn.2.2 b hb c (h3 c hc)⟩, fun b hb => ?_⟩
    rcases List.mem_append.mp hb with z | z
    · exact List.mem_append_left _ z
    · exact List.mem_append_right _ (h3 b z)
theorem EnvR.unclr : ∀ {σ : L2.St} {ρ : Env'} {F : List Addr} (v : Nat), EnvR K T H (σ.set v none) (ρ.set v none) F → EnvR K T H σ (ρ.set v none) F
  | [], [], _, _, E => E
  | [], _ :: _, _, 0, E => by cases E
  | [], _ :: _, _, _ + 1, E => by cases E
  | _ :: _, [], _, 0, E => by cases E
  | _ :: _, [], _, _ + 1, E => by cases E
  | o :: σ, x :: ρ, _, 0, E => by
    cases E with
    | no r => exact .no r
  | o :: σ, x :: ρ, _, v + 1, E => by
    cases E with
    | no r => exact .no (EnvR.unclr v r)
    | yes a r => exact .yes a (EnvR.unclr v r)
theorem wipe_set (σ : L2.St) (v : Nat) : ∀ vs : List Nat, wipe (σ.set v none) vs = (wipe σ vs).set v none
  | [] => rfl
  | u :: vs => by
    unfold wipe
    rw [wipe_set σ v vs]
    by_cases e : u = v
    · subst e
      rfl
    · rw [List.set_comm _ _ fun h => e h.symm]
theorem wipeM_set (σ : Env') (v : Nat) : ∀ vs : List Nat, wipeM (σ.set v none) vs = (wipeM σ vs).set v none
  | [] => rfl
  | u :: vs => by
    unfold wipeM
    rw [wipeM_set σ v vs]
    by_cases e : u = v
    · subst e
      rfl
    · rw [List.set_comm _ _ fun h => e h.symm]
theorem wipeM_len (ρ : Env') : ∀ vs : List Nat, (wipeM ρ vs).length = ρ.length
  | [] => rfl
  | v :: vs => by unfold wipeM; rw [List.length_set, wipeM_len ρ vs]
theorem EnvR.wipe {σ : L2.St} {ρ : Env'} : ∀ {F : List Addr} (vs : List Nat), EnvR K T H σ ρ F → F.Nodup → ∃ F', EnvR K T H (wipe σ vs) (wipeM ρ vs) F' ∧ F'.Nodup ∧ ∀ b ∈ F', b ∈ F
  | _, [], E, n => ⟨_, E, n, fun _ h => h⟩
  | _, v :: vs, E, n => by
    obtain ⟨F1, h1, h2, h3⟩ := EnvR.wipe vs E n
    obtain ⟨F2, g1, g2, g3⟩ := h1.clr v h2
    exact ⟨F2, g1, g2, fun b hb => h3 b (g3 b hb)⟩
theorem EnvR.unwipe {σ : L2.St} {F : List Addr} : ∀ (vs : List Nat) {ρ : Env'}, EnvR K T H (L2.wipe σ vs) (wipeM ρ vs) F → EnvR K T H σ (wipeM ρ vs) F
  | [], _, E => E
  | v :: vs, ρ, E => by
    unfold L2.wipe wipeM at E
    have E1 := EnvR.unclr v E
    have E2 : EnvR K T H (L2.wipe σ vs) (wipeM (ρ.set v none) vs) F := by
      rw [wipeM_set]
      exact E1
    have E3 := EnvR.unwipe vs E2
    rw [wipeM_set] at E3
    exact E3
end
/-- the turns of a list comprehension -/
def lcL (p : Pt) (vs : List Nat) (mt : MM Bool) (me : MM M) : List PyData → List M → MM M
  | [], acc => fun ρ => some (.ok (.lst acc) ρ)
  | d :: ds, acc => fun ρ => match bindP p d ρ with
    | none => none
    | some ρ1 => match mt ρ1 with
      | some (.ok true ρ2) => (match me ρ2 with
        | some (.ok x ρ3) => if acc.length ≤ most then lcL p vs mt me ds (acc ++ [x]) (wipeM ρ3 vs) else none
        | _ => none)
      | some (.ok false ρ2) => lcL p vs mt me ds acc (wipeM ρ2 vs)
      | _ => none
def xLc (L : Nat) (p : Pt) (vs : List Nat) (mi : MM (List PyData)) (mt : MM Bool) (me : MM M) : MM M := bindM mi fun items ρ => if ρ.length = L then lcL p vs mt me items [] (wipeM ρ vs) else none
structure QTs (T : Tb) (X : Cx) (W : WXk) (es : List Expr) (m : MM Bool) : Prop where
  ex : ∃ t : TT, PTs X es t ∧ ∀ (σ : L2.St) (H : Hp) (ρ : Env') (F : List Addr) (r : Rs Env' Bool) (Q : Bool → Hp → Prop), EnvR X.K T H σ ρ F → F.Nodup → m ρ = some r → GoT X.K T W H F σ r Q → t σ H Q
section
variable {T : Tb} {X : Cx} {W : WXk} {e c elt tg iter : Expr}
theorem qts_nil : QTs T X W [] (pureM true) := by
  refine ⟨tYes, pts_nil, fun σ H ρ F r Q E n hm k => ?_⟩
  cases hm
  exact k H F E n (Mv.refl fun _ h => h)
theorem qts_one {m : MM Bool} (h : QT T X W c m) : QTs T X W [c] m := by
  obtain ⟨t, h1, q⟩ := h.ex
  exact ⟨t, pts_one h1, q⟩
theorem bind_len : ∀ {p : Pt} {d : PyData} {ρ ρ' : Env'}, bindP p d ρ = some ρ' → ρ'.length = ρ.length
  | .nm i, d, ρ, ρ', h => by
    rw [bindP] at h
    cases h
    rw [List.length_set]
  | .tp ps, d, ρ, ρ', h => by
    cases d with
    | tuple ds =>
      rw [bindP] at h
      exact binds_len h
    | _ => simp [bindP] at h
where
  binds_len : ∀ {ps : List Pt} {ds : List PyData} {ρ ρ' : Env'}, bindPs ps ds ρ = some ρ' → ρ'.length = ρ.length
  | [], ds, ρ, ρ', h => by
    cases ds with
    | nil => rw [bindPs] at h; cases h; rfl
    | cons _ _ => simp [bindPs] at h
  | p :: ps, [], ρ, ρ', h => by simp [bindPs] at h
  | p :: ps, d :: ds, ρ, ρ', h => by
    rw [bindPs] at h
    cases hb : bindP p d ρ with
    | none => rw [hb] at h; cases h
    | some ρ1 =>
      rw [hb] at h
      rw [binds_len h, bind_len hb]
theorem wipe_keep {σ σ' : L2.St} {vs : List Nat} (hl : σ'.length = σ.length) (h : ∀ i, i ∉ vs → σ'[i]? = σ[i]?) : wipe σ' vs = wipe σ vs := by
  apply List.ext_getElem?
  intro i
  by_cases hi : i ∈ vs
  · have e : ∀ (τ : L2.St), (wipe τ vs)[i]? = if i < τ.length then some none else none := fun τ => by
      clear h hl
      induction vs with
      | nil => cases hi
      | cons v vs ih =>
        unfold wipe
        by_cases e : v = i
        · subst e
          rw [List.getElem?_set]
          simp [wipe_length]
        · rw [List.getElem?_set_ne e]
          exact ih (by
            rcases List.mem_cons.mp hi with z | z
            · exact absurd z.symm e
            · exact z)
    rw [e, e, hl]
  · rw [wipe_out hi, wipe_out hi, h i hi]
theorem wipe_wipe (σ : L2.St) (vs : List Nat) : wipe (wipe σ vs) vs = wipe σ vs := wipe_keep (wipe_length σ vs) fun _ hi => wipe_out hi
end
section
variable {T : Tb} {X : Cx} {W : WXk} {e c elt tg iter : Expr} {ifs : List Expr} {scope : Scope} {own : List (Str × Nat)} {pos : Pos}
theorem frame_keep {H H' : Hp} {f F F' : List Addr} (n : (f ++ F).Nodup) (w : WrA T H F) (m : Mv F H F' H') : Kp T f H H' := m.c.kp w fun b hb hf => (List.nodup_append.mp n).2.2 b hb b hf rfl
theorem qx_lc {L : Nat} {S : List Nat} {p : Pt} {mi : MM (List PyData)} {mt : MM Bool} {me : MM M} (hc : X.calm = true) (hN : X.N.Nodup) (hi : QI T X W tg iter mi) (ok : BlkOk X.N X.env.scope scope own)
    (hS : ∀ i < L, i ∈ S ∨ i ∈ own.map (·.2))
    (hg : ∀ (s : Shared) (H : Hp) (C : Addr) (cl : List (Str × Addr)) (fp : List Addr), QG T S (X.blk s H scope (compEnvC scope cl C X.env) fp) tg p)
    (ht : ∀ (s : Shared) (H : Hp) (C : Addr) (cl : List (Str × Addr)) (fp : List Addr), QTs T (X.blk s H scope (compEnvC scope cl C X.env) fp) W ifs mt)
    (he : ∀ (s : Shared) (H : Hp) (C : Addr) (cl : List (Str × Addr)) (fp : List Addr), QX T (X.blk s H scope (compEnvC scope cl C X.env) fp) W elt me)
    (hs : ∀ x, foldedSetIterable iter X.env x = pure x := by intro _; rfl) :
    QX T X W (.ListComp elt [⟨tg, iter, ifs, 0⟩] scope pos) (xLc L p (own.map (·.2)) mi mt me) := by
  obtain ⟨wi, h1, q1⟩ := hi.ex
  refine ⟨_, pe_lc hc hN h1 ok (g := fun v σ H Q => ∀ s H0 C cl fp, (hg s H0 C cl fp).ex.choose v σ H Q) (tt := fun σ H Q => ∀ s H0 C cl fp, (ht s H0 C cl fp).ex.choose σ H Q) (te := fun σ H Q => ∀ s H0 C cl fp, (he s H0 C cl fp).ex.choose σ H Q)
    (fun s H0 C cl fp => ⟨fun pins s' σ H v u Q I q h => (hg s H0 C cl fp).ex.choose_spec.1.run pins s' σ H v u Q I q (h s H0 C cl fp)⟩)
    (fun s H0 C cl fp => ⟨fun pins s' σ H Q I h => (ht s H0 C cl fp).ex.choose_spec.1.run pins s' σ H Q I (h s H0 C cl fp)⟩)
    (fun s H0 C cl fp => ⟨fun pins s' σ H Q I h => (he s H0 C cl fp).ex.choose_spec.1.run pins s' σ H Q I (h s H0 C cl fp)⟩) hs, fun σ H ρ F r Q E n hm k => ?_⟩
  generalize own.map (·.2) = vs at hm hS ⊢
  unfold xLc bindM at hm
  cases hd : mi ρ with
  | none => rw [hd] at hm; cases hm
  | some r1 =>
    rw [hd] at hm
    refine q1 σ H ρ F r1 _ E n hd ?_
    cases r1 with
    | er c fs ρ1 => cases hm; exact k
    | ok items ρ1 =>
      by_cases hL : ρ1.length = L
      case neg =>
        dsimp only at hm
        rw [if_neg hL] at hm
        cases hm
      case pos =>
      dsimp only at hm
      rw [if_pos hL] at hm
      intro J H1 fp F1 G it gk g1 w1 E1 n1 m1 D hD
      obtain ⟨Fw, Ew, nw, sw⟩ := E1.wipe vs (List.nodup_append.mp n1).2.1
      let Iv : List PyData → Hp → Prop := fun ds H' => ∃ (vl : List V) (xs : List M) (fx : List Addr) (ρ' : Env') (F' : List Addr), H' D = some (.lst vl) ∧ Reps X.K T H' vl xs fx ∧ EnvR X.K T H' (wipe σ vs) (wipeM ρ' vs) F' ∧ ρ'.length = L ∧ ((fp ++ (D :: fx)) ++ F').Nodup ∧ G H' ∧ WrA T H' fp ∧ Mv F H ((fp ++ (D :: fx)) ++ F') H' ∧ lcL p vs mt me ds xs (wipeM ρ' vs) = some r
      refine ⟨fun i mm H' => mm = items.length - i ∧ i ≤ items.length ∧ Iv (items.drop i) H', ⟨_, rfl, Nat.zero_le _, ?_⟩, ?_⟩
      · have dn1 : D ∉ fp := fun z => by
          obtain ⟨o, ho, _⟩ := w1 D z
          rw [hD] at ho
          cases ho
        have dn2 : D ∉ F1 := fun z => by
          obtain ⟨o, ho, _⟩ := E1.wr D z
          rw [hD] at ho
          cases ho
        have sm : Same H1 (upd H1 D (.lst [])) := fun b o hb => by
          rw [upd_ne]
          · exact hb
          · intro e
            subst e
            rw [hD] at hb
            cases hb
        have nn := List.nodup_append.mp n1
        refine ⟨[], [], [], ρ1, Fw, upd_same, .nil, Ew.same sm, hL, ?_, gk _ _ (Same.kp sm) g1, wrA_mv w1 (Mv.same (f := []) (f' := []) sm fun _ h => h) (fun _ _ h => nomatch h), ?_, hm⟩
        · refine List.nodup_append.mpr ⟨List.nodup_append.mpr ⟨nn.1, by simp, fun b hb c hc e => ?_⟩, nw, fun b hb c hc e => ?_⟩
          · subst e
            rw [List.mem_singleton] at hc
            subst hc
            exact dn1 hb
          · subst e
            rcases List.mem_append.mp hb with z | z
            · exact nn.2.2 b z b (sw b hc) rfl
            · rw [List.mem_singleton] at z
              subst z
              exact dn2 (sw _ hc)
        · refine m1.trans ⟨fun b o hb _ => sm b o hb, fun b hb => ?_⟩
          rcases List.mem_append.mp hb with z | z
          · rcases List.mem_append.mp z with z | z
            · exact .inl (List.mem_append_left _ z)
            · rw [List.mem_singleton] at z
              subst z
              exact .inr hD
          · exact .inl (List.mem_append_right _ (sw b z))
      · rintro i mm H2 ⟨rfl, hle, vl, xs, fx, ρ2, F2, hD2, rx, E2, hl2, n2, g2, w2, m2, hr⟩
        by_cases hlt : i < items.length
        · refine .inr ⟨it.go i H2 g2 hlt, fun H3 => Iv (items.drop (i + 1)) H3, fun H' h => ⟨items.length - (i + 1), by omega, rfl, hlt, h⟩, fun x H3 y => ?_⟩
          obtain ⟨d, hx, dp, nl, s3⟩ := it.yld i H2 x H3 g2 hlt y
          have hdr : items.drop i = d :: items.drop (i + 1) := by
            rw [List.drop_eq_getElem_cons hlt]
            rw [List.getElem?_eq_getElem hlt] at hx
            cases hx
            rfl
          rw [hdr] at hr
          simp only [lcL] at hr
          cases hbp : bindP p d (wipeM ρ2 vs) with
          | none => rw [hbp] at hr; cases hr
          | some ρ3 =>
            rw [hbp] at hr
            dsimp only at hr
            have n2' := (List.nodup_append.mp n2).2.1
            intro s0 H0 C cl fp0
            refine (hg s0 H0 C cl fp0).ex.choose_spec.2 x (wipe σ vs) H3 (wipeM ρ2 vs) ρ3 F2 d _ (E2.same s3) n2' dp nl hbp fun σ4 F4 s4 E4 n4 f4 => ?_
            have l4 : σ4.length = (wipe σ vs).length := by rw [E4.len, bind_len hbp, ← E2.len]
            have lL : (wipe σ vs).length = L := by rw [E2.len, wipeM_len, hl2]
            have l3 : ρ3.length = L := by rw [bind_len hbp, wipeM_len, hl2]
            have wp : wipe σ4 vs = wipe σ vs := by
              rw [← wipe_wipe σ vs]
              refine wipe_keep l4 fun j hj => ?_
              by_cases hjL : j < L
              · exact s4 j ((hS j hjL).resolve_right hj)
              · rw [List.getElem?_eq_none (by omega), List.getElem?_eq_none (by omega)]
            refine ⟨wp, ?_⟩
            intro s0 H0 C cl fp0
            have n34 : ((fp ++ (D :: fx)) ++ F4).Nodup := by
              rw [List.nodup_append] at n2 ⊢
              exact ⟨n2.1, n4, fun b hb c hc => n2.2.2 b hb c (f4 c hc)⟩
            have rD3 : Rep X.K T H3 (.ref D) (.lst xs) (D :: fx) := (Rep.lst hD2 rx).keep (Same.kp s3)
            have g3 : G H3 := gk H2 H3 (Same.kp s3) g2
            have w3 : WrA T H3 fp := wrA_mv w2 (Mv.same (f := []) (f' := []) s3 fun _ h => h) (fun _ _ h => nomatch h)
            have m3 : Mv F H ((fp ++ (D :: fx)) ++ F4) H3 := m2.trans (Mv.same s3 fun b hb => (List.mem_append.mp hb).elim (List.mem_append_left _) fun z => List.mem_append_right _ (f4 b z))
            cases hmt : mt ρ3 with
            | none => rw [hmt] at hr; cases hr
            | some r4 =>
              rw [hmt] at hr
              refine (ht s0 H0 C cl fp0).ex.choose_spec.2 σ4 H3 ρ3 F4 r4 _ E4 n4 hmt ?_
              cases r4 with
              | er _ _ _ => cases hr
              | ok b ρ4 =>
                intro H5 F5 E5 n5 m5
                have wfr : WrA T H3 (fp ++ (D :: fx)) := fun b hb => (List.mem_append.mp hb).elim (w3 b) (rD3.wr b)
                have kp5 : Kp T (fp ++ (D :: fx)) H3 H5 := frame_keep n34 E4.wr m5
                have n5' : ((fp ++ (D :: fx)) ++ F5).Nodup := nodup_mv (K := X.K) (σ := σ4) (ρ := ρ3) n34 n5 m5 wfr
                have rD5 : Rep X.K T H5 (.ref D) (.lst xs) (D :: fx) := rD3.keep (kp5.sub fun b hb => List.mem_append_right _ hb)
                have g5 : G H5 := gk H3 H5 (kp5.sub fun b hb => List.mem_append_left _ hb) g3
                have w5f : WrA T H5 (fp ++ (D :: fx)) := wrA_mv wfr m5 fun b hb hf => (List.nodup_append.mp n34).2.2 b hb b hf rfl
                have w5 : WrA T H5 fp := fun b hb => w5f b (List.mem_append_left _ hb)
                have m5' : Mv F H ((fp ++ (D :: fx)) ++ F5) H5 := m3.trans (mv_frame m5)
                have l45 : ρ4.length = L := by rw [← E5.len, l4, lL]
                cases b with
                | false =>
                  dsimp only at hr
                  obtain ⟨F7, E7, n7, s7⟩ := E5.wipe vs n5
                  rw [wp] at E7
                  cases rD5 with
                  | lst hD5 rx5 =>
                  refine ⟨_, xs, fx, ρ4, F7, hD5, rx5, E7, l45, ?_, g5, w5, m5'.sub fun b hb => (List.mem_append.mp hb).elim (List.mem_append_left _) fun z => List.mem_append_right _ (s7 b z), hr⟩
                  rw [List.nodup_append] at n5' ⊢
                  exact ⟨n5'.1, n7, fun b hb c hc => n5'.2.2 b hb c (s7 c hc)⟩
                | true =>
                  dsimp only at hr
                  intro s0 H0 C cl fp0
                  cases hme : me ρ4 with
                  | none => rw [hme] at hr; cases hr
                  | some r6 =>
                    rw [hme] at hr
                    refine (he s0 H0 C cl fp0).ex.choose_spec.2 σ4 H5 ρ4 F5 r6 _ E5 n5 hme ?_
                    cases r6 with
                    | er _ _ _ => cases hr
                    | ok yv ρ6 =>
                      intro v H6 f F6 ry E6 n6 m6
                      dsimp only at hr
                      by_cases hlen : xs.length ≤ most
                      case neg =>
                        rw [if_neg hlen] at hr
                        cases hr
                      case pos =>
                      rw [if_pos hlen] at hr
                      have kp6 : Kp T (fp ++ (D :: fx)) H5 H6 := frame_keep n5' E5.wr m6
                      have n6' : ((fp ++ (D :: fx)) ++ (f ++ F6)).Nodup := nodup_mv (K := X.K) (σ := σ4) (ρ := ρ4) n5' n6 m6 w5f
                      have rD6 : Rep X.K T H6 (.ref D) (.lst xs) (D :: fx) := rD5.keep (kp6.sub fun b hb => List.mem_append_right _ hb)
                      have g6 : G H6 := gk H5 H6 (kp6.sub fun b hb => List.mem_append_left _ hb) g5
                      have w6f : WrA T H6 (fp ++ (D :: fx)) := wrA_mv w5f m6 fun b hb hf => (List.nodup_append.mp n5').2.2 b hb b hf rfl
                      have m6' : Mv F H ((fp ++ (D :: fx)) ++ (f ++ F6)) H6 := m5'.trans (mv_frame m6)
                      have l6 : ρ6.length = L := by rw [← E6.len, l4, lL]
                      cases rD6 with
                      | @lst _ vl6 _ _ hD6 rx6 =>
                      refine ⟨vl6, hD6, by rw [rx6.len]; exact most_lt hlen, ?_⟩
                      obtain ⟨F7, E7, n7, s7⟩ := E6.wipe vs (List.nodup_append.mp n6).2.1
                      rw [wp] at E7
                      have a1 := List.nodup_append.mp n6'
                      have a2 := List.nodup_append.mp a1.1
                      have a3 := List.nodup_cons.mp a2.2.1
                      have a4 := List.nodup_append.mp n6
                      have dD : ∀ {g : List Addr}, D ∉ g → Kp T g H6 (upd H6 D (.lst (vl6 ++ [v]))) := fun h => kp_write hD6 trivial h
                      have Dfp : D ∉ fp := fun z => a2.2.2 D z D List.mem_cons_self rfl
                      have Df : D ∉ f := fun z => a1.2.2 D (List.mem_append_right _ List.mem_cons_self) D (List.mem_append_left _ z) rfl
                      have DF : D ∉ F7 := fun z => a1.2.2 D (List.mem_append_right _ List.mem_cons_self) D (List.mem_append_right _ (s7 D z)) rfl
                      have ry' : Reps X.K T (upd H6 D (.lst (vl6 ++ [v]))) [v] [yv] (f ++ []) := .cons (ry.keep (dD Df)) .nil
                      refine ⟨vl6 ++ [v], xs ++ [yv], fx ++ (f ++ []), ρ6, F7, upd_same, (ry').app (rx6.keep (dD a3.1)), E7.keep (dD DF), l6, ?_, gk _ _ (dD Dfp) g6, fun b hb => ?_, ?_, hr⟩
                      · rw [List.append_nil]
                        refine List.nodup_append.mpr ⟨List.nodup_append.mpr ⟨a2.1, List.nodup_cons.mpr ⟨fun z => ?_, List.nodup_append.mpr ⟨a3.2, a4.1, fun b hb c hc e => ?_⟩⟩, fun b hb c hc e => ?_⟩, n7, fun b hb c hc e => ?_⟩
                        · exact (List.mem_append.mp z).elim a3.1 Df
                        · subst e
                          exact a1.2.2 b (List.mem_append_right _ (List.mem_cons_of_mem _ hb)) b (List.mem_append_left _ hc) rfl
                        · subst e
                          rcases List.mem_cons.mp hc with z | z
                          · subst z
                            exact Dfp hb
                          · rcases List.mem_append.mp z with z | z
                            · exact a2.2.2 b hb b (List.mem_cons_of_mem _ z) rfl
                            · exact a1.2.2 b (List.mem_append_left _ hb) b (List.mem_append_left _ z) rfl
                        · subst e
                          rcases List.mem_append.mp hb with z | z
                          · exact a1.2.2 b (List.mem_append_left _ z) b (List.mem_append_right _ (s7 b hc)) rfl
                          · rcases List.mem_cons.mp z with z | z
                            · subst z
                              exact DF hc
                            · rcases List.mem_append.mp z with z | z
                              · exact a1.2.2 b (List.mem_append_right _ (List.mem_cons_of_mem _ z)) b (List.mem_append_right _ (s7 b hc)) rfl
                              · exact a4.2.2 b z b (s7 b hc) rfl
                      · obtain ⟨o, ho, wo⟩ := w6f b (List.mem_append_left _ hb)
                        refine ⟨o, ?_, wo⟩
                        rw [upd_ne]
                        · exact ho
                        · intro e
                          subst e
                          exact Dfp hb
                      · rw [List.append_nil]
                        refine m6'.trans ⟨fun b o hb hn => ?_, fun b hb => .inl ?_⟩
                        · rw [upd_ne]
                          · exact hb
                          · intro e
                            subst e
                            exact hn (List.mem_append_left _ (List.mem_append_right _ List.mem_cons_self))
                        · rcases List.mem_append.mp hb with z | z
                          · rcases List.mem_append.mp z with z | z
                            · exact List.mem_append_left _ (List.mem_append_left _ z)
                            · rcases List.mem_cons.mp z with z | z
                              · subst z
                                exact List.mem_append_left _ (List.mem_append_right _ List.mem_cons_self)
                              · rcases List.mem_append.mp z with z | z
                                · exact List.mem_append_left _ (List.mem_append_right _ (List.mem_cons_of_mem _ z))
                                · exact List.mem_append_right _ (List.mem_append_left _ z)
                          · exact List.mem_append_right _ (List.mem_append_right _ (s7 b z))
        · have e : i = items.length := by omega
          refine .inl ⟨it.stop i H2 g2 e, ?_⟩
          subst e
          rw [List.drop_length] at hr
          simp only [lcL] at hr
          cases hr
          have a1 := List.nodup_append.mp n2
          have a2 := List.nodup_append.mp a1.1
          exact k (.ref D) H2 (D :: fx) F2 (.lst hD2 rx) (E2.unwipe vs) (List.nodup_append.mpr ⟨a2.2.1, a1.2.1, fun b hb c hc => a1.2.2 b (List.mem_append_right _ hb) c hc⟩)
            (m2.sub fun b hb => (List.mem_append.mp hb).elim (fun z => List.mem_append_left _ (List.mem_append_right _ z)) fun z => List.mem_append_right _ z)
end
/-! ### the length of a new list; lists of data, one behind the other -/
section
variable {T : Tb} {X : Cx} {W : WXk} {a b : Expr} {pos : Pos}
def dLenX (m : MM M) : MM PyData := bindM m fun x => optM (lenM x)
theorem qd_lenX {p : Pos} {m : MM M} (h : QX T X W a m) (hg : Gl X "len") (hz : X.mg "len" = none) (hs : starEach [a] X.env = (false, eval a X.env) :: starEach [] X.env := by rfl) : QD T X W (.Call (.Name "len" p) [a] [] pos) (dLenX m) := by
  obtain ⟨t, ht, q⟩ := h.ex
  refine ⟨_, pe_callB call_lenU hg hz PySem.boot_len (pa_cons ht pa_nil hs) (he := hs), fun σ H ρ F r Q E n hm k => ?_⟩
  unfold dLenX bindM at hm
  cases hd : m ρ with
  | none => rw [hd] at hm; cases hm
  | some r1 =>
    rw [hd] at hm
    refine q σ H ρ F r1 _ E n hd ?_
    cases r1 with
    | er c fs ρ1 => cases hm; exact k
    | ok x ρ1 =>
      intro v H' f F' rp E' n' mv
      dsimp only [optM] at hm
      cases hz : lenM x with
      | none => rw [hz] at hm; cases hm
      | some z =>
        rw [hz] at hm
        cases hm
        exact lenM_ok rp hz fun w dz nz => k w H' F' dz nz E' (List.nodup_append.mp n').2.1 (mv.sub fun _ h => List.mem_append_right _ h)
@[simp] theorem a_dLenX {m : MM M} {ρ : Env'} : dLenX m ρ = bindM m (fun x => optM (lenM x)) ρ := rfl
theorem repsImm {K : PySem.W.Frag} {H : Hp} : ∀ {vs : List V} {ds : List PyData}, DqAll K H vs ds → noLs ds = true → Reps K T H vs (ds.map .imm) []
  | _, _, .nil, _ => .nil
  | _, _, .cons a r, n => by
    simp only [noLs, Bool.and_eq_true] at n
    exact .cons (f := []) (.imm a n.1) (repsImm r n.2)
def catV (ρ1 : Env') : M → M → Option (Rs Env' M)
  | .lst xs, .lst ys => match immL xs, immL ys with
    | some ds, some es => if ds.length + es.length ≤ most then some (.ok (.lst ((ds ++ es).map .imm)) ρ1) else none
    | _, _ => none
  | _, _ => none
def xCatV (i : Nat) (m : MM M) : MM M := fun ρ => match ρ[i]? with
  | some (some _) => bindM m (fun y ρ1 => match ρ1[i]? with
      | some (some x) => catV ρ1 x y
      | _ => none) ρ
  | _ => none
@[simp] theorem a_xCatV {i : Nat} {m : MM M} {ρ : Env'} : xCatV i m ρ = match ρ[i]? with
  | some (some _) => bindM m (fun y ρ1 => match ρ1[i]? with
      | some (some x) => catV ρ1 x y
      | _ => none) ρ
  | _ => none := rfl
@[simp] theorem a_catV {ρ1 : Env'} {xs ys : List M} : catV ρ1 (.lst xs) (.lst ys) = match immL xs, immL ys with
    | some ds, some es => if ds.length + es.length ≤ most then some (.ok (.lst ((ds ++ es).map .imm)) ρ1) else none
    | _, _ => none := rfl
theorem qx_catV {i : Nat} {m : MM M} (ha : PE X a (tVar i)) (hb : QX T X W b m) : QX T X W (.BinOp a .Add b pos) (xCatV i m) := by
  obtain ⟨t, ht, q⟩ := hb.ex
  refine ⟨_, pe_op op_cat ha ht, fun σ H ρ F r Q E n hm k => ?_⟩
  unfold xCatV at hm
  split at hm
  · rename_i x0 hx0
    obtain ⟨w0, f0, g0, r0, _⟩ := E.get hx0
    refine ⟨w0, g0, ?_⟩
    unfold bindM at hm
    cases hd : m ρ with
    | none => rw [hd] at hm; cases hm
    | some r1 =>
      rw [hd] at hm
      refine q σ H ρ F r1 _ E n hd ?_
      cases r1 with
      | er c fs ρ1 => cases hm; exact k
      | ok y ρ1 =>
        intro v H1 fy F1 ry E1 n1 m1
        dsimp only at hm
        split at hm
        · rename_i x hx
          obtain ⟨w, f, g1, rp, sf⟩ := E1.get hx
          have ew : w0 = w := by
            rw [g0] at g1
            exact Option.some.inj (Option.some.inj g1)
          subst ew
          cases x with
          | lst xs =>
            cases y with
            | lst ys =>
              dsimp only [catV] at hm
              split at hm
              · rename_i ds es hds hes
                split at hm
                · rename_i hlen
                  cases hm
                  cases rp with
                  | @lst l vs _ f1 hl rs =>
                  cases ry with
                  | @lst l2 ws _ f2 hl2 rs2 =>
                  obtain ⟨a1, a2, a3⟩ := immL_dp rs hds
                  obtain ⟨b1, b2, b3⟩ := immL_dp rs2 hes
                  subst a3 b3
                  refine ⟨l, l2, vs, ws, rfl, rfl, hl, hl2, by rw [dpAll_len a1, dpAll_len b1]; exact Nat.le_of_lt (most_lt hlen), fun p hp => ?_⟩
                  have sm : Same H1 (upd H1 p (.lst (vs ++ ws))) := fun b o hb => by
                    rw [upd_ne]
                    · exact hb
                    · intro e
                      subst e
                      rw [hp] at hb
                      cases hb
                  have pn : p ∉ F1 := fun z => by
                    obtain ⟨o, ho, _⟩ := E1.wr p z
                    rw [hp] at ho
                    cases ho
                  refine k (.ref p) _ [p] F1 (.lst upd_same ?_) (E1.same sm) ?_ ?_
                  · rw [List.map_append]
                    have e1 := (repsImm (T := T) (dp_keepXs (Same.kp (T := T) (g := []) sm).x b2 b1) b2).app (repsImm (T := T) (dp_keepXs (Same.kp (T := T) (g := []) sm).x a2 a1) a2)
                    rw [List.append_nil] at e1
                    exact e1
                  · exact List.nodup_cons.mpr ⟨pn, (List.nodup_append.mp n1).2.1⟩
                  · refine m1.trans ⟨fun b o hb _ => sm b o hb, fun b hb => ?_⟩
                    rcases List.mem_cons.mp hb with z | z
                    · subst z
                      exact .inr hp
                    · exact .inl (List.mem_append_right _ z)
                · cases hm
              · cases hm
            | _ => cases hm
          | _ => cases y <;> cases hm
        · cases hm
  · cases hm
/-! #### how a comprehension is reckoned -/
def thC (acc : List M) (vs : List Nat) (k : List M → MM M) : Option (Rs Env' M) → Option (Rs Env' M)
  | some (.ok x ρ3) => if acc.length ≤ most then k (acc ++ [x]) (wipeM ρ3 vs) else none
  | _ => none
@[simp] theorem thC_ok {acc : List M} {vs : List Nat} {k : List M → MM M} {x : M} {ρ : Env'} : thC acc vs k (some (.ok x ρ)) = if acc.length ≤ most then k (acc ++ [x]) (wipeM ρ vs) else none := rfl
def thD (acc : List M) (vs : List Nat) (me : MM M) (k : List M → MM M) : Option (Rs Env' Bool) → Option (Rs Env' M)
  | some (.ok b ρ2) => if b = true then thC acc vs k (me ρ2) else k acc (wipeM ρ2 vs)
  | _ => none
@[simp] theorem thD_ok {acc : List M} {vs : List Nat} {me : MM M} {k : List M → MM M} {b : Bool} {ρ : Env'} : thD acc vs me k (some (.ok b ρ)) = if b = true then thC acc vs k (me ρ) else k acc (wipeM ρ vs) := rfl
theorem lc_nil {p : Pt} {vs : List Nat} {mt : MM Bool} {me : MM M} {acc : List M} {ρ : Env'} : lcL p vs mt me [] acc ρ = some (.ok (.lst acc) ρ) := rfl
theorem lc_cons {p : Pt} {vs : List Nat} {mt : MM Bool} {me : MM M} {d : PyData} {ds : List PyData} {acc : List M} {ρ : Env'} : lcL p vs mt me (d :: ds) acc ρ = (bindP p d ρ).bind fun ρ1 => thD acc vs me (fun a => lcL p vs mt me ds a) (mt ρ1) := by
  show (match bindP p d ρ with | none => none | some ρ1 => _) = _
  cases bindP p d ρ with
  | none => rfl
  | some ρ1 =>
    dsimp only [Option.bind_some]
    cases mt ρ1 with
    | none => rfl
    | some r =>
      cases r with
      | er _ _ _ => rfl
      | ok b ρ2 =>
        cases b with
        | false => rfl
        | true =>
          show (match me ρ2 with | some (.ok x ρ3) => _ | _ => none) = thC _ _ _ (me ρ2)
          cases me ρ2 with
          | none => rfl
          | some r => cases r <;> rfl
@[simp] theorem a_xLc {L : Nat} {p : Pt} {vs : List Nat} {mi : MM (List PyData)} {mt : MM Bool} {me : MM M} {ρ : Env'} : xLc L p vs mi mt me ρ = bindM mi (fun items ρ => if ρ.length = L then lcL p vs mt me items [] (wipeM ρ vs) else none) ρ := rfl
@[simp] theorem w_0 {ρ : Env'} : wipeM ρ [] = ρ := rfl
@[simp] theorem w_c {ρ : Env'} {v : Nat} {vs : List Nat} : wipeM ρ (v :: vs) = (wipeM ρ vs).set v none := rfl
end
/-! ### t.index(x), the items texts -/
section
variable {K : PySem.W.Frag} {T : Tb} {X : Cx} {W : WXk} {o e : Expr} {pos apos : Pos}
def strsD : List PyData → Option (List Str)
  | [] => some []
  | .str x :: ds => (strsD ds).map fun xs => x :: xs
  | _ => none
/-- the first place of z -/
def placeS (z : Str) : List Str → Option Nat
  | [] => none
  | x :: xs => if x = z then some 0 else (placeS z xs).map (· + 1)
theorem placeS_ok {z : Str} : ∀ {xs : List Str} {j : Nat}, placeS z xs = some j → xs[j]? = some z ∧ ∀ m, m < j → xs[m]? ≠ some z
  | [], j, h => by cases h
  | x :: xs, j, h => by
    unfold placeS at h
    by_cases hx : x = z
    · rw [if_pos hx] at h
      cases h
      exact ⟨by rw [hx]; rfl, fun m hm => absurd hm (Nat.not_lt_zero m)⟩
    · rw [if_neg hx] at h
      cases hp : placeS z xs with
      | none => rw [hp] at h; cases h
      | some i =>
        rw [hp] at h
        cases h
        obtain ⟨h1, h2⟩ := placeS_ok hp
        refine ⟨h1, fun m hm => ?_⟩
        cases m with
        | zero => exact fun q => hx (Option.some.inj q)
          | succ m => exact h2 m (Nat.lt_of_succ_lt_succ hm)
theorem strsD_dp {H : Hp} : ∀ {vs : List V} {ds : List PyData} {ys : List Str}, DqAll K H vs ds → strsD ds = some ys → vs = ys.map V.str
  | _, _, _, .nil, h => by
    cases h
    rfl
  | _, _, ys, .cons (d := d) a r, h => by
    cases d with
    | str x =>
      simp only [strsD] at h
      rename_i ds
      cases hs : strsD ds with
      | none => rw [hs] at h; cases h
      | some zs =>
        rw [hs] at h
        cases h
        cases a
        rw [List.map_cons, ← strsD_dp r hs]
    | _ => cases h
def oIndex : PyData → PyData → Option PyData
  | .tuple ds, .str z => (strsD ds).bind fun ys => (placeS z ys).map fun j => .int (j : Nat)
  | _, _ => none
theorem qe_index {mo me : Env' → Option PyData} (ho : QE T X o mo) (he : QE T X e me) (hs : starEach [e] X.env = (false, eval e X.env) :: starEach [] X.env := by rfl)
    (mk : ∀ to t, PE X o to → PA X [e] t → PE X (.Call (.Attribute o "index" apos) [e] [] pos) (tMT X.K (fun x xs H Q => ∃ p, ∃ ys : List Str, ∃ z j, x = .ref p ∧ xs = [.str z] ∧ SqT X.K H p (ys.map V.str) ∧ ys[j]? = some z ∧ (∀ m, m < j → ys[m]? ≠ some z) ∧ Q (.int (j : Nat)) H) to t)) :
    QE T X (.Call (.Attribute o "index" apos) [e] [] pos) (e2 oIndex mo me) := by
  obtain ⟨to, h1, q1⟩ := ho.ex
  obtain ⟨te, h2, q2⟩ := he.ex
  refine ⟨_, mk _ _ h1 (pa_cons h2 pa_nil hs), fun σ H ρ F d Q E hm k => ?_⟩
  unfold e2 at hm
  cases hx : mo ρ with
  | none => rw [hx] at hm; cases hm
  | some x =>
    rw [hx] at hm
    refine q1 σ H ρ F x _ E hx fun v H1 s1 d1 n1 => ?_
    cases hy : me ρ with
    | none => rw [hy] at hm; cases hm
    | some y =>
      rw [hy] at hm
      have hm' : oIndex x y = some d := hm
      cases x with
      | tuple ds =>
        cases y with
        | str z =>
          simp only [oIndex] at hm'
          cases hs : strsD ds with
          | none => rw [hs] at hm'; cases hm'
          | some ys =>
            rw [hs] at hm'
            cases hp : placeS z ys with
            | none =>
              rw [Option.bind_some, hp] at hm'
              cases hm'
            | some j =>
              rw [Option.bind_some, hp] at hm'
              cases hm'
              obtain ⟨a, xs, rfl, tq, al⟩ := dp_tupX d1
              refine ⟨⟨a, rfl, tq.tob⟩, ?_⟩
              refine q2 σ H1 ρ F (.str z) _ (E.same s1) hy fun u H2 s2 d2 n2 => ?_
              cases d2
              obtain ⟨g1, g2⟩ := placeS_ok hp
              have tq2 : Tq X.K H2 a xs := tq_kp (T := T) (f := []) (Same.kp s2) tq
              have e1 := strsD_dp al hs
              subst e1
              exact ⟨a, ys, z, j, rfl, rfl, tq2.sq, g1, g2, k _ H2 (s1.trans s2) (.int _) rfl⟩
        | _ => cases hm'
      | _ => cases y <;> cases hm'
@[simp] theorem o_index {ds : List PyData} {z : Str} : oIndex (.tuple ds) (.str z) = (strsD ds).bind fun ys => (placeS z ys).map fun j => .int (j : Nat) := rfl
end
def tab_COMPUTING : List (Str × M) := [("push", .fn 0), ("not", .fn 1), ("minus", .fn 2), ("both", .fn 3), ("jump", .fn 4), ("jump_not", .fn 5), ("and_jump", .fn 6), ("or_jump", .fn 7), ("sized", .fn 8), ("check_size", .fn 9), ("drop", .fn 10), ("print", .fn 11), ("input", .fn 12)]
def tab_REACHING : List (Str × M) := [("load", .fn 13), ("store", .fn 14), ("kind", .fn 15), ("field", .fn 16), ("item", .fn 17), ("set_field", .fn 18), ("set_item", .fn 19), ("size", .fn 20), ("make", .fn 21), ("tag", .fn 22), ("tag_size", .fn 23), ("enter", .fn 24)]
def tab_CONTROLLING : List (Str × M) := [("counter", .fn 25), ("call", .fn 26), ("return", .fn 27), ("break", .fn 28), ("throw", .fn 29), ("guard", .fn 30), ("unguard", .fn 31), ("loop", .fn 32), ("end_loop", .fn 31), ("each", .fn 33), ("test", .fn 34), ("next", .fn 35), ("spawn", .fn 36), ("finish", .fn 37), ("halt", .fn 37)]
def tab_FITTING : List (Str × M) := [("call", .imm (.tuple [.str "call"])), ("loop", .imm (.tuple [.str "loop", .str "count"])), ("guard", .imm (.tuple [.str "guard"]))]
noncomputable def l1_field_cell : MM Fl := (ifM (andM (tM (d2 oEq (qM (eV 1)) (qM (eTup (aCons (eC (.str "text")) (aCons (eV 3) aNil)))))) (tM (d2 oIn (qM (eV 2)) (qM (eV 4)))))
      (sRetD (qM (eTup (aCons (eC (.str "ok")) (aCons (e2 oAdd (e2 oIndex (eV 4) (eV 2)) (eC (.int 1))) aNil)))))
      endM)
noncomputable def b_field_cell : MM Fl := (seqM (forM (.tp [(.nm 3), (.nm 4)]) (iT (qM (eV 0)))
      l1_field_cell)
    (sRetD (qM (eTup (aCons (eC (.str "error")) (aCons (eC (.str "field")) aNil))))))
noncomputable def m_field_cell : List PyData → Option PyData := runD 5 b_field_cell
noncomputable def b_item_cell : MM Fl := (seqM (ifM (orM (tM (d2 oNe (qM (pE (pIx (eP 0) 0))) (qM (eC (.str "int"))))) (tM (d2 oNe (qM (pE (pIx (eP 1) 0))) (qM (eC (.str "int"))))))
      (sRetD (qM (eC k_KIND_cells)))
      endM)
    (seqM (ifM (orM (tM (d2 oLt (qM (pE (pIx (eP 1) 1))) (qM (eC (.int 0))))) (tM (d2 oGe (qM (pE (pIx (eP 1) 1))) (qM (pE (pIx (eP 0) 1))))))
      (sRetD (qM (eTup (aCons (eC (.str "error")) (aCons (eC (.str "index")) aNil)))))
      endM)
    (sRetD (qM (eTup (aCons (eC (.str "ok")) (aCons (e2 oAdd (pE (pIx (eP 1) 1)) (eC (.int 1))) aNil)))))))
noncomputable def m_item_cell : List PyData → Option PyData := runD 2 b_item_cell
noncomputable def b_array_size : MM Fl := (seqM (ifM (tM (d2 oNe (qM (pE (pIx (eP 0) 0))) (qM (eC (.str "int")))))
      (sRetD (qM (eC k_KIND_cells)))
      endM)
    (seqM (ifM (orM (tM (d2 oLt (qM (pE (pIx (eP 0) 1))) (qM (eC (.int 0))))) (tM (d2 oGt (qM (pE (pIx (eP 0) 1))) (qM (eC k_ITEMS)))))
      (sRetD (qM (eTup (aCons (eC (.str "error")) (aCons (eC (.str "size")) aNil)))))
      endM)
    (sRetD (qM (eTup (aCons (eC (.str "ok")) (aCons (eV 0) aNil)))))))
noncomputable def m_array_size : List PyData → Option PyData := runD 1 b_array_size
noncomputable def b_bounded : MM Fl := (seqM (ifM (tM (d2 oGe (qM (eN oAbs (aCons (eV 0) aNil))) (qM (eC k_INTEGER))))
      (sRetD (qM (eTup (aCons (eC (.str "error")) (aCons (eC (.str "overflow")) aNil)))))
      endM)
    (sRetD (qM (eTup (aCons (eC (.str "ok")) (aCons (eTup (aCons (eC (.str "int")) (aCons (eV 0) aNil))) aNil))))))
noncomputable def m_bounded : List PyData → Option PyData := runD 1 b_bounded
noncomputable def b_together : MM Fl := (seqM (ifM (orM (tM (d2 oNe (qM (pE (pIx (eP 0) 0))) (qM (eC (.str "text"))))) (tM (d2 oNe (qM (pE (pIx (eP 1) 0))) (qM (eC (.str "text"))))))
      (sRetD (qM (eC k_KIND_operators)))
      endM)
    (seqM (sSetD 2 (qM (e2 oAdd (pE (pIx (eP 0) 1)) (pE (pIx (eP 1) 1)))))
    (seqM (ifM (tM (d2 oGt (qM (eLenP (eP 2))) (qM (eC k_RUN_CHARACTERS))))
      (sRetD (qM (eTup (aCons (eC (.str "error")) (aCons (eC (.str "size")) aNil)))))
      endM)
    (sRetD (qM (eTup (aCons (eC (.str "ok")) (aCons (eTup (aCons (eC (.str "text")) (aCons (eV 2) aNil))) aNil))))))))
noncomputable def m_together : List PyData → Option PyData := runD 3 b_together
noncomputable def b_divided : MM Fl := (seqM (ifM (tM (d2 oEq (qM (eV 2)) (qM (eC (.int 0)))))
      (sRetD (qM (eTup (aCons (eC (.str "error")) (aCons (eC (.str "division by zero")) aNil)))))
      endM)
    (sRetD (dTup (bCons (qM (eC (.str "ok"))) (bCons (dTup (bCons (qM (eC (.str "int"))) (bCons (ifM (tM (d2 oEq (qM (eV 0)) (qM (eC (.str "/"))))) (qM (e2 oDiv (eV 1) (eV 2))) (qM (e2 oMod (eV 1) (eV 2)))) bNil))) bNil)))))
noncomputable def m_divided : List PyData → Option PyData := runD 3 b_divided
noncomputable def b_computed : MM Fl := (seqM (ifM (tM (d2 oEq (qM (eV 0)) (qM (eC (.str "+")))))
      (sRetD (qM (e2 oAdd (eV 1) (eV 2))))
      endM)
    (seqM (ifM (tM (d2 oEq (qM (eV 0)) (qM (eC (.str "-")))))
      (sRetD (qM (e2 oSub (eV 1) (eV 2))))
      endM)
    (sRetD (qM (e2 oMul (eV 1) (eV 2))))))
noncomputable def m_computed : List PyData → Option PyData := runD 3 b_computed
noncomputable def b_both : MM Fl := (seqM (ifM (tM (d2 oEq (qM (eV 0)) (qM (eC (.str "==")))))
      (sRetD (dTup (bCons (qM (eC (.str "ok"))) (bCons (dTup (bCons (qM (eC (.str "bool"))) (bCons (d2 oEq (qM (eV 1)) (qM (eV 2))) bNil))) bNil))))
      endM)
    (seqM (ifM (tM (d2 oEq (qM (eV 0)) (qM (eC (.str "&")))))
      (sRetD (qM (eCall 2 m_together (aCons (eV 1) (aCons (eV 2) aNil)))))
      endM)
    (seqM (ifM (orM (tM (d2 oNe (qM (pE (pIx (eP 1) 0))) (qM (eC (.str "int"))))) (tM (d2 oNe (qM (pE (pIx (eP 2) 0))) (qM (eC (.str "int"))))))
      (sRetD (qM (eC k_KIND_operators)))
      endM)
    (seqM (ifM (tM (d2 oIn (qM (eV 0)) (qM (eTup (aCons (eC (.str "<")) (aCons (eC (.str "<=")) aNil))))))
      (sRetD (dTup (bCons (qM (eC (.str "ok"))) (bCons (dTup (bCons (qM (eC (.str "bool"))) (bCons (ifM (tM (d2 oEq (qM (eV 0)) (qM (eC (.str "<"))))) (d2 oLt (qM (pE (pIx (eP 1) 1))) (qM (pE (pIx (eP 2) 1)))) (d2 oLe (qM (pE (pIx (eP 1) 1))) (qM (pE (pIx (eP 2) 1))))) bNil))) bNil))))
      endM)
    (seqM (ifM (tM (d2 oIn (qM (eV 0)) (qM (eTup (aCons (eC (.str "/")) (aCons (eC (.str "mod")) aNil))))))
      (sRetD (qM (eCall 3 m_divided (aCons (eV 0) (aCons (pE (pIx (eP 1) 1)) (aCons (pE (pIx (eP 2) 1)) aNil))))))
      endM)
    (sRetD (qM (eCall 1 m_bounded (aCons (eCall 3 m_computed (aCons (eV 0) (aCons (pE (pIx (eP 1) 1)) (aCons (pE (pIx (eP 2) 1)) aNil)))) aNil)))))))))
noncomputable def m_both : List PyData → Option PyData := runD 3 b_both
noncomputable def b_negative : MM Fl := (seqM (ifM (tM (d2 oNe (qM (pE (pIx (eP 0) 0))) (qM (eC (.str "int")))))
      (sRetD (qM (eC k_KIND_operators)))
      endM)
    (sRetD (qM (eTup (aCons (eC (.str "ok")) (aCons (eTup (aCons (eC (.str "int")) (aCons (e1 oNeg (pE (pIx (eP 0) 1))) aNil))) aNil))))))
noncomputable def m_negative : List PyData → Option PyData := runD 1 b_negative
noncomputable def b_opposite : MM Fl := (seqM (ifM (tM (d2 oNe (qM (pE (pIx (eP 0) 0))) (qM (eC (.str "bool")))))
      (sRetD (qM (eC k_KIND_operators)))
      endM)
    (sRetD (dTup (bCons (qM (eC (.str "ok"))) (bCons (dTup (bCons (qM (eC (.str "bool"))) (bCons (dNot (qM (pE (pIx (eP 0) 1)))) bNil))) bNil)))))
noncomputable def m_opposite : List PyData → Option PyData := runD 1 b_opposite
noncomputable def b_truth : MM Fl := (seqM (ifM (tM (d2 oNe (qM (pE (pIx (eP 0) 0))) (qM (eC (.str "bool")))))
      (sRetD (qM (eC k_KIND_operators)))
      endM)
    (sRetD (qM (eTup (aCons (eC (.str "ok")) (aCons (pE (pIx (eP 0) 1)) aNil))))))
noncomputable def m_truth : List PyData → Option PyData := runD 1 b_truth
noncomputable def l1_leave : MM Fl := (seqM (ifM (tM (d2 oIn (qM (pE (pIx (eP 5) 0))) (qM (eV 2))))
      (sRetD (dTup (bCons (qM (eV 3)) (bCons (qM (eV 5)) (bCons (dSl (qM (eV 0)) (oS (qM (e2 oAdd (eV 4) (eC (.int 1))))) oN) bNil)))))
      endM)
    (ifM (tM (d2 oEq (qM (pE (pIx (eP 5) 0))) (qM (eC (.str "cut")))))
      (sAug 3 oIpAdd (qM (eC (.int 1))))
      endM))
noncomputable def b_leave : MM Fl := (seqM (sSetD 2 (xD (tabM tab_FITTING (qM (eV 1)))))
    (seqM (sSetD 3 (qM (eC (.int 0))))
    (seqM (forM (.tp [(.nm 4), (.nm 5)]) (iEn (qM (eV 0)))
      l1_leave)
    (sRetD (qM (eTup (aCons (eV 3) (aCons (eC .none) (aCons (eTup aNil) aNil)))))))))
noncomputable def m_leave : List PyData → Option PyData := runD 6 b_leave
noncomputable def b_passing : MM Fl := (seqM (ifM (tM (d2 oGt (qM (eV 0)) (qM (eC (.int 0)))))
      (sRetD (qM (eTup (aCons (eC (.str "give_up")) (aCons (eV 0) (aCons (eV 1) aNil))))))
      endM)
    (sRetD (qM (eTup (aCons (eC (.str "quiet")) (aCons (eV 1) aNil))))))
noncomputable def m_passing : List PyData → Option PyData := runD 2 b_passing
noncomputable def b_thrown : MM Fl := (seqM (sPat (.tp [(.nm 2), (.nm 2), (.nm 2), (.nm 3), (.nm 4)]) (qM (eV 0)))
    (seqM (sPat (.tp [(.nm 5), (.nm 6), (.nm 7)]) (qM (eCall 2 m_leave (aCons (eV 4) (aCons (eC (.str "guard")) aNil)))))
    (seqM (ifM (tM (d2 oIs (qM (eV 6)) (qM (eC .none))))
      (sRetD (qM (eTup (aCons (eC (.str "fail")) (aCons (eV 1) aNil)))))
      endM)
    (seqM (sPat (.tp [(.nm 2), (.nm 8), (.nm 9)]) (qM (eV 6)))
    (sRetD (qM (eCall 2 m_passing (aCons (eV 5) (aCons (eTup (aCons (eV 8) (aCons (eTup (aCons (eV 1) aNil)) (aCons (eV 9) (aCons (eV 3) (aCons (eV 7) aNil)))))) aNil)))))))))
noncomputable def m_thrown : List PyData → Option PyData := runD 10 b_thrown
noncomputable def b_gone_to : MM Fl := (seqM (sPat (.tp [(.nm 3), (.nm 3), (.nm 4), (.nm 5), (.nm 6)]) (qM (eV 0)))
    (sRetD (qM (eTup (aCons (eV 1) (aCons (eV 2) (aCons (eV 4) (aCons (eV 5) (aCons (eV 6) aNil)))))))))
noncomputable def m_gone_to : List PyData → Option PyData := runD 7 b_gone_to
noncomputable def b_gone_on : MM Fl := (sRetD (qM (eCall 3 m_gone_to (aCons (eV 0) (aCons (e2 oAdd (pE (pIx (eP 0) 0)) (eC (.int 1))) (aCons (eV 1) aNil))))))
noncomputable def m_gone_on : List PyData → Option PyData := runD 2 b_gone_on
noncomputable def b_controlled : MM Fl := (seqM (sPat (.tp [(.nm 3), (.nm 4), (.nm 5), (.nm 6), (.nm 4)]) (qM (eV 0)))
    (sRetD (qM (eTup (aCons (e2 oAdd (eV 3) (eC (.int 1))) (aCons (eV 1) (aCons (eV 5) (aCons (eV 6) (aCons (eV 2) aNil)))))))))
noncomputable def m_controlled : List PyData → Option PyData := runD 7 b_controlled
noncomputable def b_fault : MM Fl := (sRetD (qM (eCall 2 m_thrown (aCons (eV 0) (aCons (eTup (aCons (eC (.str "text")) (aCons (eV 1) aNil))) aNil)))))
noncomputable def m_fault : List PyData → Option PyData := runD 2 b_fault
noncomputable def b_put : MM Fl := (sRetD (qM (eTup (aCons (eC (.str "quiet")) (aCons (eCall 2 m_gone_on (aCons (eV 0) (aCons (e2 oAdd (eTup (aCons (eV 1) aNil)) (eV 2)) aNil))) aNil)))))
noncomputable def m_put : List PyData → Option PyData := runD 3 b_put
noncomputable def b_put_answer : MM Fl := (seqM (sPat (.tp [(.nm 3), (.nm 4)]) (qM (eV 1)))
    (seqM (ifM (tM (d2 oEq (qM (eV 3)) (qM (eC (.str "error")))))
      (sRetD (qM (eCall 2 m_fault (aCons (eV 0) (aCons (eV 4) aNil)))))
      endM)
    (sRetD (qM (eCall 3 m_put (aCons (eV 0) (aCons (eV 4) (aCons (eV 2) aNil))))))))
noncomputable def m_put_answer : List PyData → Option PyData := runD 5 b_put_answer
noncomputable def m_do_push : List M → Option (Rs (List M) M) := fun _ => none
noncomputable def m_do_not : List M → Option (Rs (List M) M) := fun _ => none
noncomputable def m_do_minus : List M → Option (Rs (List M) M) := fun _ => none
noncomputable def m_do_both : List M → Option (Rs (List M) M) := fun _ => none
noncomputable def m_do_jump : List M → Option (Rs (List M) M) := fun _ => none
noncomputable def m_do_jump_not : List M → Option (Rs (List M) M) := fun _ => none
noncomputable def m_do_and_jump : List M → Option (Rs (List M) M) := fun _ => none
noncomputable def m_do_or_jump : List M → Option (Rs (List M) M) := fun _ => none
noncomputable def b_jump_with : MM Fl := (seqM (sSetD 3 (qM (pE (pIx (eP 0) 1))))
    (seqM (sPat (.tp [(.nm 4), (.nm 5)]) (qM (eCall 1 m_truth (aCons (pE (pIx (eP 3) 0)) aNil))))
    (seqM (ifM (tM (d2 oEq (qM (eV 4)) (qM (eC (.str "error")))))
      (sRetD (qM (eCall 2 m_fault (aCons (eV 0) (aCons (eV 5) aNil)))))
      endM)
    (seqM (ifM (tM (d2 oEq (qM (eV 5)) (qM (eV 1))))
      (sRetD (qM (eTup (aCons (eC (.str "quiet")) (aCons (eCall 3 m_gone_to (aCons (eV 0) (aCons (eV 2) (aCons (eV 3) aNil)))) aNil)))))
      endM)
    (sRetD (dTup (bCons (qM (eC (.str "quiet"))) (bCons (dCall 2 m_gone_on (bCons (qM (eV 0)) (bCons (dSl (qM (eV 3)) (oS (qM (eC (.int 1)))) oN) bNil))) bNil))))))))
noncomputable def m_jump_with : List PyData → Option PyData := runD 6 b_jump_with
noncomputable def b_do_sized : MM Fl := (seqM (sSetD 3 (qM (pE (pIx (eP 1) 1))))
    (seqM (ifM (tM (d2 oNe (qM (pE (pIx (pIx (eP 3) 0) 0))) (qM (eC (.str "int")))))
      (sRetD (qM (eCall 2 m_fault (aCons (eV 1) (aCons (eC (.str "kind")) aNil)))))
      endM)
    (sRetD (qM (eTup (aCons (eC (.str "quiet")) (aCons (eCall 2 m_gone_on (aCons (eV 1) (aCons (eV 3) aNil))) aNil)))))))
noncomputable def m_do_sized : List M → Option (Rs (List M) M) := runX [0, 1, 2] 4 b_do_sized
noncomputable def b_do_check_size : MM Fl := (seqM (sSetD 3 (qM (pE (pIx (eP 1) 1))))
    (sRetD (dCall 3 m_put_answer (bCons (qM (eV 1)) (bCons (qM (eCall 1 m_array_size (aCons (pE (pIx (eP 3) 0)) aNil))) (bCons (dSl (qM (eV 3)) (oS (qM (eC (.int 1)))) oN) bNil))))))
noncomputable def m_do_check_size : List M → Option (Rs (List M) M) := runX [0, 1, 2] 4 b_do_check_size
noncomputable def m_do_drop : List M → Option (Rs (List M) M) := fun _ => none
noncomputable def m_do_print : List M → Option (Rs (List M) M) := fun _ => none
noncomputable def m_do_input : List M → Option (Rs (List M) M) := fun _ => none
noncomputable def b_within : MM Fl := (sRetD (qM (eTup (aCons (eC (.str "quiet")) (aCons (eCall 3 m_controlled (aCons (eV 0) (aCons (eV 1) (aCons (e2 oAdd (eTup (aCons (eV 2) aNil)) (pE (pIx (eP 0) 4))) aNil)))) aNil)))))
noncomputable def m_within : List PyData → Option PyData := runD 3 b_within
noncomputable def m_do_counter : List M → Option (Rs (List M) M) := fun _ => none
noncomputable def l1_counter_value : MM Fl := (seqM (ifM (tM (d2 oEq (qM (pE (pIx (eP 3) 0))) (qM (eC (.str "call")))))
      (sRetD (qM (eC k_NONE)))
      endM)
    (ifM (tM (d2 oEq (qM (pE (pIx (eP 3) 0))) (qM (eC (.str "count")))))
      (seqM (ifM (tM (d2 oEq (qM (eV 2)) (qM (eV 1))))
      (sRetD (qM (eTup (aCons (eC (.str "int")) (aCons (pE (pIx (eP 3) 2)) aNil)))))
      endM)
    (sAug 2 oIpAdd (qM (eC (.int 1)))))
      endM))
noncomputable def b_counter_value : MM Fl := (seqM (sSetD 2 (qM (eC (.int 0))))
    (seqM (forM (.nm 3) (iT (qM (eV 0)))
      l1_counter_value)
    (sRetD (qM (eC k_NONE)))))
noncomputable def m_counter_value : List PyData → Option PyData := runD 4 b_counter_value
noncomputable def m_do_call : List M → Option (Rs (List M) M) := fun _ => none
noncomputable def m_do_return : List M → Option (Rs (List M) M) := fun _ => none
noncomputable def m_do_break : List M → Option (Rs (List M) M) := fun _ => none
noncomputable def m_do_throw : List M → Option (Rs (List M) M) := fun _ => none
noncomputable def m_do_guard : List M → Option (Rs (List M) M) := fun _ => none
noncomputable def m_do_loop : List M → Option (Rs (List M) M) := fun _ => none
noncomputable def m_do_each : List M → Option (Rs (List M) M) := fun _ => none
noncomputable def m_do_leave_entry : List M → Option (Rs (List M) M) := fun _ => none
noncomputable def m_do_test : List M → Option (Rs (List M) M) := fun _ => none
noncomputable def m_do_next : List M → Option (Rs (List M) M) := fun _ => none
noncomputable def m_do_spawn : List M → Option (Rs (List M) M) := fun _ => none
noncomputable def m_do_stop : List M → Option (Rs (List M) M) := fun _ => none
noncomputable def b_place_in : MM Fl := (seqM (sPat (.tp [(.nm 2), (.nm 3), (.nm 4)]) (qM (eV 0)))
    (sRetD (qM (eTup (aCons (eV 3) (aCons (eV 4) (aCons (eV 1) aNil)))))))
noncomputable def m_place_in : List PyData → Option PyData := runD 5 b_place_in
noncomputable def b_place_of : MM Fl := (seqM (sPat (.tp [(.nm 2), (.nm 3)]) (qM (eV 1)))
    (seqM (sPat (.tp [(.nm 4), (.nm 4), (.nm 5), (.nm 6), (.nm 4)]) (qM (eV 0)))
    (sRetD (dCall 2 m_place_in (bCons (ifM (tM (d2 oEq (qM (eV 2)) (qM (eC (.str "own"))))) (qM (eV 5)) (qM (eV 6))) (bCons (qM (eV 3)) bNil))))))
noncomputable def m_place_of : List PyData → Option PyData := runD 7 b_place_of
noncomputable def m_do_load : List M → Option (Rs (List M) M) := fun _ => none
noncomputable def m_do_store : List M → Option (Rs (List M) M) := fun _ => none
noncomputable def b_do_kind : MM Fl := (seqM (sSetD 3 (qM (pE (pIx (eP 1) 1))))
    (seqM (ifM (tM (d2 oNe (qM (pE (pIx (pIx (eP 3) 0) 0))) (qM (eC (.str "object")))))
      (sRetD (qM (eCall 2 m_fault (aCons (eV 1) (aCons (eC (.str "kind")) aNil)))))
      endM)
    (sRetD (qM (eTup (aCons (eC (.str "read")) (aCons (eCall 2 m_place_in (aCons (pE (pIx (eP 3) 0)) (aCons (eC (.int 0)) aNil))) (aCons (eCall 2 m_gone_on (aCons (eV 1) (aCons (eV 3) aNil))) aNil))))))))
noncomputable def m_do_kind : List M → Option (Rs (List M) M) := runX [0, 1, 2] 4 b_do_kind
noncomputable def b_read_cell : MM Fl := (seqM (sPat (.tp [(.nm 4), (.nm 5)]) (qM (eV 2)))
    (seqM (ifM (tM (d2 oEq (qM (eV 4)) (qM (eC (.str "error")))))
      (sRetD (qM (eCall 2 m_fault (aCons (eV 0) (aCons (eV 5) aNil)))))
      endM)
    (sRetD (qM (eTup (aCons (eC (.str "read")) (aCons (eCall 2 m_place_in (aCons (eV 1) (aCons (eV 5) aNil))) (aCons (eCall 2 m_gone_on (aCons (eV 0) (aCons (eV 3) aNil))) aNil))))))))
noncomputable def m_read_cell : List PyData → Option PyData := runD 6 b_read_cell
noncomputable def b_write_cell : MM Fl := (seqM (sPat (.tp [(.nm 5), (.nm 6)]) (qM (eV 2)))
    (seqM (ifM (tM (d2 oEq (qM (eV 5)) (qM (eC (.str "error")))))
      (sRetD (qM (eCall 2 m_fault (aCons (eV 0) (aCons (eV 6) aNil)))))
      endM)
    (sRetD (qM (eTup (aCons (eC (.str "write")) (aCons (eCall 2 m_place_in (aCons (eV 1) (aCons (eV 6) aNil))) (aCons (eV 3) (aCons (eCall 2 m_gone_on (aCons (eV 0) (aCons (eV 4) aNil))) aNil)))))))))
noncomputable def m_write_cell : List PyData → Option PyData := runD 7 b_write_cell
noncomputable def b_do_field : MM Fl := (seqM (sSetD 3 (qM (pE (pIx (eP 1) 1))))
    (seqM (sPat (.tp [(.nm 4), (.nm 5)]) (dSl (qM (eV 3)) oN (oS (qM (eC (.int 2))))))
    (sRetD (dCall 4 m_read_cell (bCons (qM (eV 1)) (bCons (qM (eV 5)) (bCons (qM (eCall 3 m_field_cell (aCons (pE (pFld 0 "records" (eP 0))) (aCons (eV 4) (aCons (pE (pIx (eP 2) 1)) aNil))))) (bCons (dSl (qM (eV 3)) (oS (qM (eC (.int 2)))) oN) bNil))))))))
noncomputable def m_do_field : List M → Option (Rs (List M) M) := runX [0, 1, 2] 6 b_do_field
noncomputable def b_do_item : MM Fl := (seqM (sSetD 3 (qM (pE (pIx (eP 1) 1))))
    (seqM (sPat (.tp [(.nm 4), (.nm 5), (.nm 6)]) (dSl (qM (eV 3)) oN (oS (qM (eC (.int 3))))))
    (sRetD (dCall 4 m_read_cell (bCons (qM (eV 1)) (bCons (qM (eV 6)) (bCons (qM (eCall 2 m_item_cell (aCons (eV 5) (aCons (eV 4) aNil)))) (bCons (dSl (qM (eV 3)) (oS (qM (eC (.int 3)))) oN) bNil))))))))
noncomputable def m_do_item : List M → Option (Rs (List M) M) := runX [0, 1, 2] 7 b_do_item
noncomputable def b_do_set_field : MM Fl := (seqM (sSetD 3 (qM (pE (pIx (eP 1) 1))))
    (seqM (sPat (.tp [(.nm 4), (.nm 5), (.nm 6)]) (dSl (qM (eV 3)) oN (oS (qM (eC (.int 3))))))
    (sRetD (dCall 5 m_write_cell (bCons (qM (eV 1)) (bCons (qM (eV 6)) (bCons (qM (eCall 3 m_field_cell (aCons (pE (pFld 0 "records" (eP 0))) (aCons (eV 5) (aCons (pE (pIx (eP 2) 1)) aNil))))) (bCons (qM (eV 4)) (bCons (dSl (qM (eV 3)) (oS (qM (eC (.int 3)))) oN) bNil)))))))))
noncomputable def m_do_set_field : List M → Option (Rs (List M) M) := runX [0, 1, 2] 7 b_do_set_field
noncomputable def b_do_set_item : MM Fl := (seqM (sSetD 3 (qM (pE (pIx (eP 1) 1))))
    (seqM (sPat (.tp [(.nm 4), (.nm 5), (.nm 6), (.nm 7)]) (dSl (qM (eV 3)) oN (oS (qM (eC (.int 4))))))
    (sRetD (dCall 5 m_write_cell (bCons (qM (eV 1)) (bCons (qM (eV 7)) (bCons (qM (eCall 2 m_item_cell (aCons (eV 6) (aCons (eV 5) aNil)))) (bCons (qM (eV 4)) (bCons (dSl (qM (eV 3)) (oS (qM (eC (.int 4)))) oN) bNil)))))))))
noncomputable def m_do_set_item : List M → Option (Rs (List M) M) := runX [0, 1, 2] 8 b_do_set_item
noncomputable def b_do_size : MM Fl := (seqM (sSetD 3 (qM (pE (pIx (eP 1) 1))))
    (seqM (sSetD 4 (qM (pE (pIx (eP 3) 0))))
    (seqM (ifM (tM (d2 oEq (qM (pE (pIx (eP 4) 0))) (qM (eC (.str "text")))))
      (sRetD (dCall 3 m_put (bCons (qM (eV 1)) (bCons (qM (eTup (aCons (eC (.str "int")) (aCons (eLenP (pIx (eP 4) 1)) aNil)))) (bCons (dSl (qM (eV 3)) (oS (qM (eC (.int 1)))) oN) bNil)))))
      endM)
    (seqM (ifM (tM (d2 oEq (qM (pE (pIx (eP 4) 0))) (qM (eC (.str "object")))))
      (sRetD (dTup (bCons (qM (eC (.str "read"))) (bCons (qM (eCall 2 m_place_in (aCons (eV 4) (aCons (eC (.int 0)) aNil)))) (bCons (dCall 2 m_gone_on (bCons (qM (eV 1)) (bCons (dSl (qM (eV 3)) (oS (qM (eC (.int 1)))) oN) bNil))) bNil)))))
      endM)
    (sRetD (qM (eCall 2 m_fault (aCons (eV 1) (aCons (eC (.str "kind")) aNil)))))))))
noncomputable def m_do_size : List M → Option (Rs (List M) M) := runX [0, 1, 2] 5 b_do_size
noncomputable def b_do_make : MM Fl := (sRetD (qM (eTup (aCons (eC (.str "make")) (aCons (eC (.str "operand")) (aCons (eCall 2 m_gone_on (aCons (eV 1) (aCons (pE (pIx (eP 1) 1)) aNil))) aNil))))))
noncomputable def m_do_make : List M → Option (Rs (List M) M) := runX [0, 1, 2] 3 b_do_make
noncomputable def b_do_tag : MM Fl := (seqM (sSetD 3 (qM (pE (pIx (eP 1) 1))))
    (sRetD (qM (eTup (aCons (eC (.str "write")) (aCons (eCall 2 m_place_in (aCons (pE (pIx (eP 3) 0)) (aCons (eC (.int 0)) aNil))) (aCons (eTup (aCons (eC (.str "text")) (aCons (pE (pIx (eP 2) 1)) aNil))) (aCons (eCall 2 m_gone_on (aCons (eV 1) (aCons (eV 3) aNil))) aNil))))))))
noncomputable def m_do_tag : List M → Option (Rs (List M) M) := runX [0, 1, 2] 4 b_do_tag
noncomputable def b_do_tag_size : MM Fl := (seqM (sSetD 3 (qM (pE (pIx (eP 1) 1))))
    (seqM (sPat (.tp [(.nm 4), (.nm 5)]) (dSl (qM (eV 3)) oN (oS (qM (eC (.int 2))))))
    (sRetD (dTup (bCons (qM (eC (.str "write"))) (bCons (qM (eCall 2 m_place_in (aCons (eV 4) (aCons (eC (.int 0)) aNil)))) (bCons (qM (eV 5)) (bCons (dCall 2 m_gone_on (bCons (qM (eV 1)) (bCons (d2 oAdd (qM (eTup (aCons (eV 4) aNil))) (dSl (qM (eV 3)) (oS (qM (eC (.int 2)))) oN)) bNil))) bNil))))))))
noncomputable def m_do_tag_size : List M → Option (Rs (List M) M) := runX [0, 1, 2] 6 b_do_tag_size
noncomputable def m_do_enter : List M → Option (Rs (List M) M) := fun _ => none
noncomputable def fnM (k : Nat) : List M → Option (Rs (List M) M) := if k = 0 then m_do_push else if k = 1 then m_do_not else if k = 2 then m_do_minus else if k = 3 then m_do_both else if k = 4 then m_do_jump else if k = 5 then m_do_jump_not else if k = 6 then m_do_and_jump else if k = 7 then m_do_or_jump else if k = 8 then m_do_sized else if k = 9 then m_do_check_size else if k = 10 then m_do_drop else if k = 11 then m_do_print else if k = 12 then m_do_input else if k = 13 then m_do_load else if k = 14 then m_do_store else if k = 15 then m_do_kind else if k = 16 then m_do_field else if k = 17 then m_do_item else if k = 18 then m_do_set_field else if k = 19 then m_do_set_item else if k = 20 then m_do_size else if k = 21 then m_do_make else if k = 22 then m_do_tag else if k = 23 then m_do_tag_size else if k = 24 then m_do_enter else if k = 25 then m_do_counter else if k = 26 then m_do_call else if k = 27 then m_do_return else if k = 28 then m_do_break else if k = 29 then m_do_throw else if k = 30 then m_do_guard else if k = 31 then m_do_leave_entry else if k = 32 then m_do_loop else if k = 33 then m_do_each else if k = 34 then m_do_test else if k = 35 then m_do_next else if k = 36 then m_do_spawn else if k = 37 then m_do_stop else fun _ => none
noncomputable def b_action : MM Fl := (seqM (sSetD 2 (qM (eIx (pFld 0 "code" (eP 0)) (pE (pIx (eP 1) 0)))))
    (seqM (sSetD 3 (qM (pE (pIx (eP 2) 0))))
    (seqM (ifM (tM (dTabIn tab_COMPUTING (qM (eV 3))))
      (sSet 4 (tabM tab_COMPUTING (qM (eV 3))))
      (ifM (tM (dTabIn tab_REACHING (qM (eV 3))))
      (sSet 4 (tabM tab_REACHING (qM (eV 3))))
      (sSet 4 (tabM tab_CONTROLLING (qM (eV 3))))))
    (sRetD (xD (xCallV 4 38 3 fnM (rSlot 0 (rVal (qM (eV 1)) (rVal (qM (eV 2)) rNil)))))))))
noncomputable def m_action : List M → Option (Rs (List M) M) := runX [0, 1] 5 b_action
noncomputable def b__law_cell : MM Fl := (seqM (ifM (tM (d2 oLt (qM (eV 1)) (qM (eLenP (eP 0)))))
      (sRetD (qM (eIx (eP 0) (eV 1))))
      endM)
    (sRetD (qM (eC (.int 0)))))
noncomputable def m__law_cell : List M → Option (Rs (List M) M) := runX [0, 1] 2 b__law_cell
noncomputable def l1__law_digits : MM Fl := (ifM (tM (d2 oGt (qM (eV 5)) (qM (eC (.int 0)))))
      (seqM (sDrop (xApp 3 (dX (qM (e2 oMod (eN oInt (aCons (eV 5) aNil)) (eC (.int 1000)))))))
    (sSetD 5 (qM (e2 oDiv (eV 5) (eC (.int 1000))))))
      endM)
noncomputable def l2__law_digits : MM Fl := (seqM (sSetD 7 (qM (e2 oMod (eN oInt (aCons (e2 oAdd (e2 oAdd (e2 oMul (eV 7) (eC (.int 16807))) (e2 oMul (eC (.int 7)) (eV 6))) (eC (.int 1))) aNil)) (eC (.int 2147483647)))))
    (sDrop (xApp 3 (dX (qM (e2 oMod (eN oInt (aCons (e2 oDiv (eV 7) (eC (.int 997))) aNil)) (eC (.int 1000))))))))
noncomputable def l3__law_digits : MM Fl := (seqM (sSetD 5 (xD (xCall 2 m__law_cell (rSlot 0 (rVal (qM (eV 4)) rNil)))))
    (seqM (ifM (tM (d2 oLt (qM (eV 5)) (qM (eC (.int 0)))))
      (sSetD 5 (qM (e2 oSub (eC (.int 1)) (e2 oMul (eC (.int 2)) (eV 5)))))
      endM)
    (ifM (tM (d2 oGe (qM (eV 5)) (qM (e2 oPow (eC (.int 10)) (eC (.int 18))))))
      (forM (.nm 6) (iR1 (qM (eC (.int 60))))
      l1__law_digits)
      (seqM (sSetD 7 (qM (e2 oMod (eN oInt (aCons (e2 oAdd (e2 oAdd (e2 oMul (eV 5) (eC (.int 48271))) (e2 oMul (eV 4) (eC (.int 69621)))) (eC (.int 11))) aNil)) (eC (.int 2147483647)))))
    (forM (.nm 6) (iR1 (qM (eC (.int 12))))
      l2__law_digits)))))
noncomputable def b__law_digits : MM Fl := (seqM (sSet 3 (xLst rNil))
    (seqM (forM (.nm 4) (iR2 (qM (eV 1)) (qM (eV 2)))
      l3__law_digits)
    (sRetV 3)))
noncomputable def m__law_digits : List M → Option (Rs (List M) M) := runX [0, 1, 2] 8 b__law_digits
noncomputable def b__law_draw : MM Fl := (seqM (sSetD 2 (qM (pE (pIx (eP 0) 1))))
    (seqM (sIdx 0 (eC (.int 1)) (qM (e2 oAdd (eV 2) (eC (.int 1)))))
    (seqM (ifM (tM (d2 oLt (qM (eV 2)) (qM (eLenP (pIx (eP 0) 0)))))
      (sRetD (qM (e2 oMod (eN oInt (aCons (eIx (pIx (eP 0) 0) (eV 2)) aNil)) (eV 1))))
      endM)
    (sRetD (qM (eC (.int 0)))))))
noncomputable def m__law_draw : List M → Option (Rs (List M) M) := runX [0, 1] 3 b__law_draw
noncomputable def l1__law_same (self__law_same : List PyData → Option PyData) : MM Fl := (ifM (notM (uM (dX (qM (eCall 2 (self__law_same) (aCons (eIx (eP 0) (eV 2)) (aCons (eIx (eP 1) (eV 2)) aNil)))))))
      (sRetD (qM (eC (.bool false))))
      endM)
noncomputable def b__law_same (self__law_same : List PyData → Option PyData) : MM Fl := (seqM (ifM (uM (dX (dIsi isTup (qM (eV 1)))))
      (seqM (ifM (orM (notM (uM (dX (dIsi isTup (qM (eV 0)))))) (tM (d2 oNe (qM (eLenP (eP 0))) (qM (eLenP (eP 1))))))
      (sRetD (qM (eC (.bool false))))
      endM)
    (seqM (forM (.nm 2) (iR1 (qM (eLenP (eP 1))))
      (l1__law_same self__law_same))
    (sRetD (qM (eC (.bool true))))))
      endM)
    (seqM (ifM (tM (d2 oIs (qM (eV 1)) (qM (eC .none))))
      (sRetD (d2 oIs (qM (eV 0)) (qM (eC .none))))
      endM)
    (seqM (ifM (uM (dX (dIsi isBool (qM (eV 1)))))
      (sRetD (dAnd (dIsi isBool (qM (eV 0))) (d2 oEq (qM (eV 0)) (qM (eV 1)))))
      endM)
    (seqM (ifM (uM (dX (dIsi isInt (qM (eV 1)))))
      (sRetD (dAnd (dIsi isInt (qM (eV 0))) (dAnd (dNot (dIsi isBool (qM (eV 0)))) (d2 oEq (qM (eV 0)) (qM (eV 1))))))
      endM)
    (sRetD (dAnd (dIsi isStr (qM (eV 0))) (d2 oEq (qM (eV 0)) (qM (eV 1)))))))))
noncomputable def m__law_same : Nat → List PyData → Option PyData
  | 0 => fun _ => none
  | n + 1 => runD 3 (b__law_same (m__law_same n))
noncomputable def b__law_number : MM Fl := (seqM (sSetD 1 (xD (xCall 2 m__law_draw (rSlot 0 (rVal (qM (eC (.int 8))) rNil)))))
    (seqM (sSetD 2 (xD (xCall 2 m__law_draw (rSlot 0 (rVal (qM (eC (.int 1000))) rNil)))))
    (seqM (ifM (tM (d2 oEq (qM (eV 1)) (qM (eC (.int 0)))))
      (sRetD (qM (e2 oSub (e2 oSub (e2 oPow (eC (.int 10)) (eC (.int 60))) (eC (.int 1))) (e2 oMod (eV 2) (eC (.int 3))))))
      endM)
    (seqM (ifM (tM (d2 oEq (qM (eV 1)) (qM (eC (.int 1)))))
      (sRetD (qM (e2 oSub (e2 oAdd (e2 oMod (eV 2) (eC (.int 3))) (eC (.int 1))) (e2 oPow (eC (.int 10)) (eC (.int 60))))))
      endM)
    (seqM (ifM (tM (d2 oEq (qM (eV 1)) (qM (eC (.int 2)))))
      (sRetD (d2 oAdd (d2 oAdd (qM (e2 oMul (eV 2) (e2 oPow (eC (.int 10)) (eC (.int 27))))) (d2 oMul (xD (xCall 2 m__law_draw (rSlot 0 (rVal (qM (eC (.int 1000))) rNil)))) (qM (e2 oPow (eC (.int 10)) (eC (.int 12)))))) (xD (xCall 2 m__law_draw (rSlot 0 (rVal (qM (eC (.int 1000))) rNil))))))
      endM)
    (seqM (ifM (tM (d2 oEq (qM (eV 1)) (qM (eC (.int 3)))))
      (sRetD (d2 oSub (qM (e2 oSub (eC (.int 0)) (e2 oMul (eV 2) (e2 oPow (eC (.int 10)) (eC (.int 28)))))) (xD (xCall 2 m__law_draw (rSlot 0 (rVal (qM (eC (.int 1000))) rNil))))))
      endM)
    (seqM (ifM (tM (d2 oEq (qM (eV 1)) (qM (eC (.int 4)))))
      (sRetD (qM (e2 oSub (eC (.int 0)) (eV 2))))
      endM)
    (seqM (ifM (tM (d2 oEq (qM (eV 1)) (qM (eC (.int 5)))))
      (sRetD (qM (e2 oMod (eV 2) (eC (.int 3)))))
      endM)
    (sRetD (qM (eV 2)))))))))))
noncomputable def m__law_number : List M → Option (Rs (List M) M) := runX [0] 3 b__law_number
noncomputable def l1__law_text : MM Fl := (ifM (tM (d2 oLt (qM (eLenP (eP 3))) (qM (eV 1))))
      (sSetD 3 (d2 oAdd (qM (eV 3)) (dIxV 2 (xD (xCall 2 m__law_draw (rSlot 0 (rVal (qM (eC (.int 95))) rNil)))))))
      endM)
noncomputable def b__law_text : MM Fl := (seqM (sSetD 2 (qM (eC (.str " !\"#$&'()*+,-./0123456789:;<=>?@ABCDEFGHIJKLMNOPQRSTUVWXYZ[\\]^_`"))))
    (seqM (sSetD 2 (qM (e2 oAdd (eV 2) (eC (.str "abcdefghijklmnopqrstuvwxyz{|}~\n")))))
    (seqM (sSetD 3 (qM (eC (.str ""))))
    (seqM (ifM (tM (d2 oEq (xD (xCall 2 m__law_draw (rSlot 0 (rVal (qM (eC (.int 4))) rNil)))) (qM (eC (.int 0)))))
      (sSetD 3 (d2 oMul (dIxV 2 (xD (xCall 2 m__law_draw (rSlot 0 (rVal (qM (eC (.int 95))) rNil))))) (xD (xCall 2 m__law_draw (rSlot 0 (rVal (qM (e2 oAdd (eV 1) (eC (.int 1)))) rNil))))))
      endM)
    (seqM (forM (.nm 4) (iR1 (xD (xCall 2 m__law_draw (rSlot 0 (rVal (qM (eC (.int 4))) rNil)))))
      l1__law_text)
    (sRetD (qM (eV 3))))))))
noncomputable def m__law_text : List M → Option (Rs (List M) M) := runX [0, 1] 5 b__law_text
noncomputable def l1__law_value : MM Fl := (sSetD 2 (d2 oAdd (qM (eV 2)) (dTup (bCons (xD (xCall 2 m__law_draw (rSlot 0 (rVal (qM (eC (.int 3))) rNil)))) bNil))))
noncomputable def b__law_value : MM Fl := (seqM (sSetD 1 (xD (xCall 2 m__law_draw (rSlot 0 (rVal (qM (eC (.int 6))) rNil)))))
    (seqM (ifM (tM (d2 oEq (qM (eV 1)) (qM (eC (.int 0)))))
      (sRetD (qM (eTup (aCons (eC (.str "none")) aNil))))
      endM)
    (seqM (ifM (tM (d2 oEq (qM (eV 1)) (qM (eC (.int 1)))))
      (sRetD (dTup (bCons (qM (eC (.str "bool"))) (bCons (d2 oEq (xD (xCall 2 m__law_draw (rSlot 0 (rVal (qM (eC (.int 2))) rNil)))) (qM (eC (.int 1)))) bNil))))
      endM)
    (seqM (ifM (tM (d2 oEq (qM (eV 1)) (qM (eC (.int 2)))))
      (sRetD (dTup (bCons (qM (eC (.str "text"))) (bCons (xD (xCall 2 m__law_text (rSlot 0 (rVal (qM (eC (.int 200))) rNil)))) bNil))))
      endM)
    (seqM (ifM (tM (d2 oEq (qM (eV 1)) (qM (eC (.int 3)))))
      (seqM (sSetD 2 (qM (eTup aNil)))
    (seqM (forM (.nm 3) (iR1 (xD (xCall 2 m__law_draw (rSlot 0 (rVal (qM (eC (.int 3))) rNil)))))
      l1__law_value)
    (sRetD (dTup (bCons (qM (eC (.str "object"))) (bCons (qM (eV 2)) (bCons (xD (xCall 2 m__law_draw (rSlot 0 (rVal (qM (eC (.int 3))) rNil)))) bNil)))))))
      endM)
    (sRetD (dTup (bCons (qM (eC (.str "int"))) (bCons (xD (xCall 1 m__law_number (rSlot 0 rNil))) bNil)))))))))
noncomputable def m__law_value : List M → Option (Rs (List M) M) := runX [0] 4 b__law_value
noncomputable def l1__law_object : MM Fl := (sSetD 1 (d2 oAdd (qM (eV 1)) (dTup (bCons (xD (xCall 2 m__law_draw (rSlot 0 (rVal (qM (eC (.int 3))) rNil)))) bNil))))
noncomputable def b__law_object : MM Fl := (seqM (sSetD 1 (qM (eTup aNil)))
    (seqM (forM (.nm 2) (iR1 (xD (xCall 2 m__law_draw (rSlot 0 (rVal (qM (eC (.int 3))) rNil)))))
      l1__law_object)
    (sRetD (dTup (bCons (qM (eC (.str "object"))) (bCons (qM (eV 1)) (bCons (xD (xCall 2 m__law_draw (rSlot 0 (rVal (qM (eC (.int 4))) rNil)))) bNil)))))))
noncomputable def m__law_object : List M → Option (Rs (List M) M) := runX [0] 3 b__law_object
noncomputable def b__law_entry : MM Fl := (seqM (sSetD 1 (xD (xCall 2 m__law_draw (rSlot 0 (rVal (qM (eC (.int 7))) rNil)))))
    (seqM (ifM (tM (d2 oEq (qM (eV 1)) (qM (eC (.int 0)))))
      (sRetD (dTup (bCons (qM (eC (.str "call"))) (bCons (xD (xCall 2 m__law_draw (rSlot 0 (rVal (qM (eC (.int 1000))) rNil)))) (bCons (xD (xCall 1 m__law_object (rSlot 0 rNil))) bNil)))))
      endM)
    (seqM (ifM (tM (d2 oEq (qM (eV 1)) (qM (eC (.int 1)))))
      (sRetD (dTup (bCons (qM (eC (.str "guard"))) (bCons (xD (xCall 2 m__law_draw (rSlot 0 (rVal (qM (eC (.int 1000))) rNil)))) (bCons (xD (xCall 1 m__law_object (rSlot 0 rNil))) bNil)))))
      endM)
    (seqM (ifM (tM (d2 oEq (qM (eV 1)) (qM (eC (.int 2)))))
      (sRetD (dTup (bCons (qM (eC (.str "loop"))) (bCons (xD (xCall 2 m__law_draw (rSlot 0 (rVal (qM (eC (.int 1000))) rNil)))) bNil))))
      endM)
    (seqM (ifM (tM (d2 oEq (qM (eV 1)) (qM (eC (.int 3)))))
      (sRetD (dTup (bCons (qM (eC (.str "count"))) (bCons (xD (xCall 2 m__law_draw (rSlot 0 (rVal (qM (eC (.int 1000))) rNil)))) (bCons (d2 oSub (xD (xCall 2 m__law_draw (rSlot 0 (rVal (qM (eC (.int 9))) rNil)))) (qM (eC (.int 4)))) (bCons (d2 oSub (xD (xCall 2 m__law_draw (rSlot 0 (rVal (qM (eC (.int 9))) rNil)))) (qM (eC (.int 4)))) bNil))))))
      endM)
    (sRetD (qM (eTup (aCons (eC (.str "cut")) aNil)))))))))
noncomputable def m__law_entry : List M → Option (Rs (List M) M) := runX [0] 2 b__law_entry
noncomputable def l1__law_control : MM Fl := (sSetD 1 (d2 oAdd (qM (eV 1)) (dTup (bCons (xD (xCall 1 m__law_entry (rSlot 0 rNil))) bNil))))
noncomputable def l2__law_control : MM Fl := (sSetD 1 (qM (e2 oAdd (eV 1) (eTup (aCons (eTup (aCons (eC (.str "call")) (aCons (eV 3) (aCons (eTup (aCons (eC (.str "object")) (aCons (eTup (aCons (eV 3) aNil)) (aCons (eC (.int 0)) aNil)))) aNil)))) aNil)))))
noncomputable def b__law_control : MM Fl := (seqM (sSetD 1 (qM (eTup aNil)))
    (seqM (sSetD 2 (xD (xCall 2 m__law_draw (rSlot 0 (rVal (qM (eC (.int 16))) rNil)))))
    (seqM (forM (.nm 3) (iR1 (qM (eV 2)))
      l1__law_control)
    (seqM (ifM (tM (d2 oEq (xD (xCall 2 m__law_draw (rSlot 0 (rVal (qM (eC (.int 4))) rNil)))) (qM (eC (.int 0)))))
      (forM (.nm 3) (iR1 (d2 oAdd (qM (eC (.int 9))) (xD (xCall 2 m__law_draw (rSlot 0 (rVal (qM (eC (.int 5))) rNil))))))
      l2__law_control)
      endM)
    (sRetD (qM (eV 1)))))))
noncomputable def m__law_control : List M → Option (Rs (List M) M) := runX [0] 4 b__law_control
noncomputable def l1__law_local : MM Fl := (sSetD 2 (d2 oAdd (qM (eV 2)) (dTup (bCons (xD (xCall 1 m__law_value (rSlot 0 rNil))) bNil))))
noncomputable def b__law_local : MM Fl := (seqM (forM (.nm 3) (iR1 (xD (xCall 2 m__law_draw (rSlot 0 (rVal (qM (eC (.int 3))) rNil)))))
      l1__law_local)
    (sRetD (dTup (bCons (qM (eV 1)) (bCons (qM (eV 2)) (bCons (xD (xCall 1 m__law_object (rSlot 0 rNil))) (bCons (xD (xCall 1 m__law_object (rSlot 0 rNil))) (bCons (xD (xCall 1 m__law_control (rSlot 0 rNil))) bNil))))))))
noncomputable def m__law_local : List M → Option (Rs (List M) M) := runX [0, 1] 4 b__law_local
noncomputable def l1__law_leave : MM Fl := (seqM (ifM (tM (dInP false (qM (e2 oIx (eIx (eP 0) (eV 3)) (eC (.int 0)))) (eP 1)))
      (sRetD (dTup (bCons (qM (eV 2)) (bCons (qM (eIx (eP 0) (eV 3))) (bCons (dSl (qM (eV 0)) (oS (qM (e2 oAdd (eV 3) (eC (.int 1))))) oN) bNil)))))
      endM)
    (ifM (tM (d2 oEq (qM (e2 oIx (eIx (eP 0) (eV 3)) (eC (.int 0)))) (qM (eC (.str "cut")))))
      (sSetD 2 (qM (e2 oAdd (eV 2) (eC (.int 1)))))
      endM))
noncomputable def b__law_leave : MM Fl := (seqM (sSetD 2 (qM (eC (.int 0))))
    (seqM (forM (.nm 3) (iR1 (qM (eLenP (eP 0))))
      l1__law_leave)
    (sRetD (qM (eTup (aCons (eV 2) (aCons (eC .none) (aCons (eTup aNil) aNil))))))))
noncomputable def m__law_leave : List M → Option (Rs (List M) M) := runX [0, 1] 4 b__law_leave
noncomputable def b__law_after : MM Fl := (seqM (ifM (tM (d2 oGt (qM (eV 0)) (qM (eC (.int 0)))))
      (sRetD (qM (eTup (aCons (eC (.str "give_up")) (aCons (eV 0) (aCons (eV 1) aNil))))))
      endM)
    (sRetD (qM (eTup (aCons (eC (.str "quiet")) (aCons (eV 1) aNil))))))
noncomputable def m__law_after : List PyData → Option PyData := runD 2 b__law_after
noncomputable def b__law_thrown : MM Fl := (seqM (sSetD 2 (xD (xCall 2 m__law_leave (rVal (qM (pE (pIx (eP 0) 4))) (rOwn (xLst (rVal (qM (eC (.str "guard"))) rNil)) rNil)))))
    (seqM (ifM (tM (d2 oIs (qM (pE (pIx (eP 2) 1))) (qM (eC .none))))
      (sRetD (qM (eTup (aCons (eC (.str "fail")) (aCons (eV 1) aNil)))))
      endM)
    (sRetD (qM (eCall 2 m__law_after (aCons (pE (pIx (eP 2) 0)) (aCons (eTup (aCons (pE (pIx (pIx (eP 2) 1) 1)) (aCons (eTup (aCons (eV 1) aNil)) (aCons (pE (pIx (pIx (eP 2) 1) 2)) (aCons (pE (pIx (eP 0) 3)) (aCons (pE (pIx (eP 2) 2)) aNil)))))) aNil)))))))
noncomputable def m__law_thrown : List PyData → Option PyData := runD 3 b__law_thrown
noncomputable def b__law_error : MM Fl := (sRetD (qM (eCall 2 m__law_thrown (aCons (eV 0) (aCons (eTup (aCons (eC (.str "text")) (aCons (eV 1) aNil))) aNil)))))
noncomputable def m__law_error : List PyData → Option PyData := runD 2 b__law_error
noncomputable def l1__law_program : MM Fl := (sSetD 4 (qM (e2 oAdd (eV 4) (eTup (aCons (eTup (aCons (eC (.str "drop")) aNil)) aNil)))))
noncomputable def b__law_program : MM Fl := (seqM (sSetD 4 (qM (eTup aNil)))
    (seqM (forM (.nm 5) (iR1 (qM (eV 1)))
      l1__law_program)
    (seqM (sSetD 4 (qM (e2 oAdd (eV 4) (eTup (aCons (eV 0) (aCons (eTup (aCons (eC (.str "halt")) aNil)) aNil))))))
    (sRet (xNew 0 ["code", "lines", "records", "variables", "procedures"] (bCons (qM (eV 4)) (bCons (qM (e2 oMul (eTup (aCons (eC (.int 0)) aNil)) (eLenP (eP 4)))) (bCons (qM (eV 2)) (bCons (qM (eTup aNil)) (bCons (qM (eV 3)) bNil))))))))))
noncomputable def m__law_program : List M → Option (Rs (List M) M) := runX [0, 1, 2, 3] 6 b__law_program
noncomputable def b__law_goes : MM Fl := (sRetD (qM (eTup (aCons (e2 oAdd (pE (pIx (eP 0) 0)) (eC (.int 1))) (aCons (eV 1) (aCons (pE (pIx (eP 0) 2)) (aCons (pE (pIx (eP 0) 3)) (aCons (pE (pIx (eP 0) 4)) aNil))))))))
noncomputable def m__law_goes : List PyData → Option PyData := runD 2 b__law_goes
noncomputable def l1__law_records : MM Fl := (ifM (tM (d2 oEq (xD (xCall 2 m__law_draw (rSlot 0 (rVal (qM (eC (.int 2))) rNil)))) (qM (eC (.int 1)))))
      (sSetD 3 (qM (e2 oAdd (eV 3) (eTup (aCons (e2 oAdd (eC (.str "f")) (eN oStr (aCons (e2 oMod (eN oInt (aCons (e2 oAdd (eV 4) (eV 2)) aNil)) (eC (.int 4))) aNil))) aNil)))))
      endM)
noncomputable def l2__law_records : MM Fl := (seqM (sSetD 3 (qM (eTup aNil)))
    (seqM (forM (.nm 4) (iR1 (qM (eC (.int 4))))
      l1__law_records)
    (sSetD 1 (qM (e2 oAdd (eV 1) (eTup (aCons (eTup (aCons (e2 oAdd (eC (.str "r")) (eN oStr (aCons (eV 2) aNil))) (aCons (eV 3) aNil))) aNil)))))))
noncomputable def b__law_records : MM Fl := (seqM (sSetD 1 (qM (eTup aNil)))
    (seqM (forM (.nm 2) (iR1 (xD (xCall 2 m__law_draw (rSlot 0 (rVal (qM (eC (.int 4))) rNil)))))
      l2__law_records)
    (sRetD (qM (eV 1)))))
noncomputable def m__law_records : List M → Option (Rs (List M) M) := runX [0] 5 b__law_records
noncomputable def l1__law_field : MM Fl := (ifM (tM (d2 oEq (qM (eIx (pIx (eP 3) 1) (eV 4))) (qM (eV 2))))
      (sRetD (qM (eTup (aCons (eC (.str "ok")) (aCons (e2 oAdd (eV 4) (eC (.int 1))) aNil)))))
      endM)
noncomputable def l2__law_field : MM Fl := (ifM (uM (dX (qM (eCall 2 (m__law_same 9) (aCons (eV 1) (aCons (eTup (aCons (eC (.str "text")) (aCons (pE (pIx (eP 3) 0)) aNil))) aNil))))))
      (forM (.nm 4) (iR1 (qM (eLenP (pIx (eP 3) 1))))
      l1__law_field)
      endM)
noncomputable def b__law_field : MM Fl := (seqM (forM (.nm 3) (iT (qM (eV 0)))
      l2__law_field)
    (sRetD (qM (eTup (aCons (eC (.str "error")) (aCons (eC (.str "field")) aNil))))))
noncomputable def m__law_field : List PyData → Option PyData := runD 5 b__law_field
noncomputable def b__law_item : MM Fl := (seqM (ifM (orM (tM (d2 oNe (qM (pE (pIx (eP 0) 0))) (qM (eC (.str "int"))))) (tM (d2 oNe (qM (pE (pIx (eP 1) 0))) (qM (eC (.str "int"))))))
      (sRetD (qM (eTup (aCons (eC (.str "error")) (aCons (eC (.str "kind")) aNil)))))
      endM)
    (seqM (ifM (tM (dChain oLe oLt (qM (eC (.int 0))) (qM (pE (pIx (eP 1) 1))) (qM (pE (pIx (eP 0) 1)))))
      (sRetD (qM (eTup (aCons (eC (.str "ok")) (aCons (e2 oAdd (pE (pIx (eP 1) 1)) (eC (.int 1))) aNil)))))
      endM)
    (sRetD (qM (eTup (aCons (eC (.str "error")) (aCons (eC (.str "index")) aNil)))))))
noncomputable def m__law_item : List PyData → Option PyData := runD 2 b__law_item
noncomputable def b__law_cell_of : MM Fl := (sRetD (qM (eTup (aCons (pE (pIx (eP 0) 1)) (aCons (pE (pIx (eP 0) 2)) (aCons (eV 1) aNil))))))
noncomputable def m__law_cell_of : List PyData → Option PyData := runD 2 b__law_cell_of
noncomputable def b__law_held : MM Fl := (seqM (sSetD 1 (xD (xCall 2 m__law_draw (rSlot 0 (rVal (qM (eC (.int 5))) rNil)))))
    (seqM (ifM (tM (d2 oLt (qM (eV 1)) (qM (eC (.int 2)))))
      (sRetD (dTup (bCons (qM (eC (.str "text"))) (bCons (d2 oAdd (qM (eC (.str "r"))) (dN oStr (bCons (xD (xCall 2 m__law_draw (rSlot 0 (rVal (qM (eC (.int 4))) rNil)))) bNil))) bNil))))
      endM)
    (seqM (ifM (tM (d2 oLt (qM (eV 1)) (qM (eC (.int 4)))))
      (sRetD (dTup (bCons (qM (eC (.str "int"))) (bCons (xD (xCall 2 m__law_draw (rSlot 0 (rVal (qM (eC (.int 9))) rNil)))) bNil))))
      endM)
    (sRetD (xD (xCall 1 m__law_value (rSlot 0 rNil)))))))
noncomputable def m__law_held : List M → Option (Rs (List M) M) := runX [0] 2 b__law_held
noncomputable def b__law_any : MM Fl := (seqM (ifM (tM (d2 oEq (xD (xCall 2 m__law_draw (rSlot 0 (rVal (qM (eC (.int 4))) rNil)))) (qM (eC (.int 0)))))
      (sRetD (xD (xCall 1 m__law_value (rSlot 0 rNil))))
      endM)
    (seqM (ifM (tM (d2 oEq (qM (eV 1)) (qM (eC (.str "object")))))
      (sRetD (xD (xCall 1 m__law_object (rSlot 0 rNil))))
      endM)
    (sRetD (dTup (bCons (qM (eC (.str "int"))) (bCons (d2 oSub (xD (xCall 2 m__law_draw (rSlot 0 (rVal (qM (eC (.int 50))) rNil)))) (qM (eC (.int 4)))) bNil))))))
noncomputable def m__law_any : List M → Option (Rs (List M) M) := runX [0, 1] 2 b__law_any
noncomputable def b__law_operands : MM Fl := (seqM (ifM (tM (dInX false (qM (eV 1)) (xLst (rVal (qM (eC (.str "field"))) (rVal (qM (eC (.str "set_field"))) rNil)))))
      (sSetD 2 (dTup (bCons (xD (xCall 1 m__law_held (rSlot 0 rNil))) (bCons (xD (xCall 1 m__law_object (rSlot 0 rNil))) bNil))))
      (ifM (tM (dInX false (qM (eV 1)) (xLst (rVal (qM (eC (.str "item"))) (rVal (qM (eC (.str "set_item"))) rNil)))))
      (sSetD 2 (dTup (bCons (xD (xCall 2 m__law_any (rSlot 0 (rVal (qM (eC (.str "int"))) rNil)))) (bCons (xD (xCall 1 m__law_held (rSlot 0 rNil))) (bCons (xD (xCall 1 m__law_object (rSlot 0 rNil))) bNil)))))
      (ifM (tM (dInX false (qM (eV 1)) (xLst (rVal (qM (eC (.str "tag"))) rNil))))
      (sSetD 2 (dTup (bCons (xD (xCall 1 m__law_object (rSlot 0 rNil))) bNil)))
      (ifM (tM (dInX false (qM (eV 1)) (xLst (rVal (qM (eC (.str "tag_size"))) rNil))))
      (sSetD 2 (dTup (bCons (xD (xCall 1 m__law_object (rSlot 0 rNil))) (bCons (dTup (bCons (qM (eC (.str "int"))) (bCons (xD (xCall 2 m__law_draw (rSlot 0 (rVal (qM (eC (.int 41))) rNil)))) bNil))) bNil))))
      (ifM (tM (dInX false (qM (eV 1)) (xLst (rVal (qM (eC (.str "kind"))) (rVal (qM (eC (.str "size"))) rNil)))))
      (sSetD 2 (dTup (bCons (xD (xCall 2 m__law_any (rSlot 0 (rVal (qM (eC (.str "object"))) rNil)))) bNil)))
      (sSetD 2 (dTup (bCons (xD (xCall 2 m__law_any (rSlot 0 (rVal (qM (eC (.str "int"))) rNil)))) bNil))))))))
    (seqM (ifM (tM (dInX false (qM (eV 1)) (xLst (rVal (qM (eC (.str "set_field"))) (rVal (qM (eC (.str "set_item"))) rNil)))))
      (sSetD 2 (d2 oAdd (dTup (bCons (xD (xCall 1 m__law_value (rSlot 0 rNil))) bNil)) (qM (eV 2))))
      endM)
    (sRetD (qM (eV 2)))))
noncomputable def m__law_operands : List M → Option (Rs (List M) M) := runX [0, 1] 3 b__law_operands
noncomputable def b__law_reading : MM Fl := (seqM (ifM (tM (d2 oEq (qM (pE (pIx (eP 2) 0))) (qM (eC (.str "error")))))
      (sRetD (qM (eCall 2 m__law_error (aCons (eV 0) (aCons (pE (pIx (eP 2) 1)) aNil)))))
      endM)
    (sRetD (qM (eTup (aCons (eC (.str "read")) (aCons (eCall 2 m__law_cell_of (aCons (eV 1) (aCons (pE (pIx (eP 2) 1)) aNil))) (aCons (eCall 2 m__law_goes (aCons (eV 0) (aCons (eV 3) aNil))) aNil)))))))
noncomputable def m__law_reading : List PyData → Option PyData := runD 4 b__law_reading
noncomputable def b__law_writing : MM Fl := (seqM (ifM (tM (d2 oEq (qM (pE (pIx (eP 2) 0))) (qM (eC (.str "error")))))
      (sRetD (qM (eCall 2 m__law_error (aCons (eV 0) (aCons (pE (pIx (eP 2) 1)) aNil)))))
      endM)
    (sRetD (qM (eTup (aCons (eC (.str "write")) (aCons (eCall 2 m__law_cell_of (aCons (eV 1) (aCons (pE (pIx (eP 2) 1)) aNil))) (aCons (eV 3) (aCons (eCall 2 m__law_goes (aCons (eV 0) (aCons (eV 4) aNil))) aNil))))))))
noncomputable def m__law_writing : List PyData → Option PyData := runD 5 b__law_writing
noncomputable def b__law_due_cells : MM Fl := (seqM (sSetD 3 (qM (pE (pIx (eP 1) 1))))
    (seqM (ifM (tM (d2 oEq (qM (pE (pIx (eP 0) 0))) (qM (eC (.str "field")))))
      (sRetD (dCall 4 m__law_reading (bCons (qM (eV 1)) (bCons (qM (pE (pIx (eP 3) 1))) (bCons (qM (eCall 3 m__law_field (aCons (eV 2) (aCons (pE (pIx (eP 3) 0)) (aCons (pE (pIx (eP 0) 1)) aNil))))) (bCons (dSl (qM (eV 3)) (oS (qM (eC (.int 2)))) oN) bNil))))))
      endM)
    (seqM (ifM (tM (d2 oEq (qM (pE (pIx (eP 0) 0))) (qM (eC (.str "item")))))
      (sRetD (dCall 4 m__law_reading (bCons (qM (eV 1)) (bCons (qM (pE (pIx (eP 3) 2))) (bCons (qM (eCall 2 m__law_item (aCons (pE (pIx (eP 3) 1)) (aCons (pE (pIx (eP 3) 0)) aNil)))) (bCons (dSl (qM (eV 3)) (oS (qM (eC (.int 3)))) oN) bNil))))))
      endM)
    (seqM (ifM (tM (d2 oEq (qM (pE (pIx (eP 0) 0))) (qM (eC (.str "set_field")))))
      (sRetD (dCall 5 m__law_writing (bCons (qM (eV 1)) (bCons (qM (pE (pIx (eP 3) 2))) (bCons (qM (eCall 3 m__law_field (aCons (eV 2) (aCons (pE (pIx (eP 3) 1)) (aCons (pE (pIx (eP 0) 1)) aNil))))) (bCons (qM (pE (pIx (eP 3) 0))) (bCons (dSl (qM (eV 3)) (oS (qM (eC (.int 3)))) oN) bNil)))))))
      endM)
    (sRetD (dCall 5 m__law_writing (bCons (qM (eV 1)) (bCons (qM (pE (pIx (eP 3) 3))) (bCons (qM (eCall 2 m__law_item (aCons (pE (pIx (eP 3) 2)) (aCons (pE (pIx (eP 3) 1)) aNil)))) (bCons (qM (pE (pIx (eP 3) 0))) (bCons (dSl (qM (eV 3)) (oS (qM (eC (.int 4)))) oN) bNil)))))))))))
noncomputable def m__law_due_cells : List PyData → Option PyData := runD 4 b__law_due_cells
noncomputable def b__law_due : MM Fl := (seqM (sSetD 3 (qM (pE (pIx (eP 0) 0))))
    (seqM (sSetD 4 (qM (pE (pIx (pIx (eP 1) 1) 0))))
    (seqM (sSetD 5 (qM (eCall 2 m__law_goes (aCons (eV 1) (aCons (pE (pIx (eP 1) 1)) aNil)))))
    (seqM (ifM (andM (tM (d2 oEq (qM (eV 3)) (qM (eC (.str "kind"))))) (tM (d2 oEq (qM (pE (pIx (eP 4) 0))) (qM (eC (.str "object"))))))
      (sRetD (qM (eTup (aCons (eC (.str "read")) (aCons (eCall 2 m__law_cell_of (aCons (eV 4) (aCons (eC (.int 0)) aNil))) (aCons (eV 5) aNil))))))
      endM)
    (seqM (ifM (andM (tM (d2 oEq (qM (eV 3)) (qM (eC (.str "size"))))) (tM (d2 oEq (qM (pE (pIx (eP 4) 0))) (qM (eC (.str "object"))))))
      (sRetD (dTup (bCons (qM (eC (.str "read"))) (bCons (qM (eCall 2 m__law_cell_of (aCons (eV 4) (aCons (eC (.int 0)) aNil)))) (bCons (dCall 2 m__law_goes (bCons (qM (eV 1)) (bCons (dSl (qM (pE (pIx (eP 1) 1))) (oS (qM (eC (.int 1)))) oN) bNil))) bNil)))))
      endM)
    (seqM (ifM (andM (tM (d2 oEq (qM (eV 3)) (qM (eC (.str "size"))))) (tM (d2 oEq (qM (pE (pIx (eP 4) 0))) (qM (eC (.str "text"))))))
      (sRetD (dTup (bCons (qM (eC (.str "quiet"))) (bCons (dCall 2 m__law_goes (bCons (qM (eV 1)) (bCons (d2 oAdd (qM (eTup (aCons (eTup (aCons (eC (.str "int")) (aCons (eLenP (pIx (eP 4) 1)) aNil))) aNil))) (dSl (qM (pE (pIx (eP 1) 1))) (oS (qM (eC (.int 1)))) oN)) bNil))) bNil))))
      endM)
    (seqM (ifM (andM (tM (d2 oEq (qM (eV 3)) (qM (eC (.str "sized"))))) (tM (d2 oEq (qM (pE (pIx (eP 4) 0))) (qM (eC (.str "int"))))))
      (sRetD (qM (eTup (aCons (eC (.str "quiet")) (aCons (eV 5) aNil)))))
      endM)
    (seqM (ifM (tM (d2 oEq (qM (eV 3)) (qM (eC (.str "make")))))
      (sRetD (qM (eTup (aCons (eC (.str "make")) (aCons (eC (.str "operand")) (aCons (eV 5) aNil))))))
      endM)
    (seqM (ifM (tM (d2 oEq (qM (eV 3)) (qM (eC (.str "tag")))))
      (sRetD (qM (eTup (aCons (eC (.str "write")) (aCons (eCall 2 m__law_cell_of (aCons (eV 4) (aCons (eC (.int 0)) aNil))) (aCons (eTup (aCons (eC (.str "text")) (aCons (pE (pIx (eP 0) 1)) aNil))) (aCons (eV 5) aNil)))))))
      endM)
    (seqM (ifM (tM (d2 oEq (qM (eV 3)) (qM (eC (.str "tag_size")))))
      (sRetD (dTup (bCons (qM (eC (.str "write"))) (bCons (qM (eCall 2 m__law_cell_of (aCons (eV 4) (aCons (eC (.int 0)) aNil)))) (bCons (qM (pE (pIx (pIx (eP 1) 1) 1))) (bCons (dCall 2 m__law_goes (bCons (qM (eV 1)) (bCons (d2 oAdd (qM (eTup (aCons (eV 4) aNil))) (dSl (qM (pE (pIx (eP 1) 1))) (oS (qM (eC (.int 2)))) oN)) bNil))) bNil))))))
      endM)
    (seqM (ifM (andM (tM (d2 oEq (qM (eV 3)) (qM (eC (.str "check_size"))))) (tM (d2 oEq (qM (pE (pIx (eP 4) 0))) (qM (eC (.str "int"))))))
      (seqM (ifM (tM (dChain oLe oLe (qM (eC (.int 0))) (qM (pE (pIx (eP 4) 1))) (qM (eC (.int 40)))))
      (sRetD (qM (eTup (aCons (eC (.str "quiet")) (aCons (eV 5) aNil)))))
      endM)
    (sRetD (qM (eCall 2 m__law_error (aCons (eV 1) (aCons (eC (.str "size")) aNil))))))
      endM)
    (seqM (ifM (tM (dInX false (qM (eV 3)) (xLst (rVal (qM (eC (.str "field"))) (rVal (qM (eC (.str "item"))) (rVal (qM (eC (.str "set_field"))) (rVal (qM (eC (.str "set_item"))) rNil)))))))
      (sRetD (qM (eCall 3 m__law_due_cells (aCons (eV 0) (aCons (eV 1) (aCons (eV 2) aNil))))))
      endM)
    (sRetD (qM (eCall 2 m__law_error (aCons (eV 1) (aCons (eC (.str "kind")) aNil)))))))))))))))))
noncomputable def m__law_due : List PyData → Option PyData := runD 6 b__law_due
noncomputable def l1_law : MM Fl := (seqM (sSetD 4 (xD (xCall 1 m__law_records (rSlot 1 rNil))))
    (seqM (sSetD 5 (qM (eTup (aCons (eV 3) aNil))))
    (seqM (ifM (tM (dInX false (qM (eV 3)) (xLst (rVal (qM (eC (.str "field"))) (rVal (qM (eC (.str "set_field"))) rNil)))))
      (sSetD 5 (dTup (bCons (qM (eV 3)) (bCons (d2 oAdd (qM (eC (.str "f"))) (dN oStr (bCons (xD (xCall 2 m__law_draw (rSlot 1 (rVal (qM (eC (.int 4))) rNil)))) bNil))) bNil))))
      endM)
    (seqM (ifM (tM (d2 oEq (qM (eV 3)) (qM (eC (.str "tag")))))
      (sSetD 5 (dTup (bCons (qM (eV 3)) (bCons (d2 oAdd (qM (eC (.str "r"))) (dN oStr (bCons (xD (xCall 2 m__law_draw (rSlot 1 (rVal (qM (eC (.int 4))) rNil)))) bNil))) bNil))))
      endM)
    (seqM (sSetD 6 (xD (xCall 2 m__law_draw (rSlot 1 (rVal (qM (eC (.int 9))) rNil)))))
    (seqM (sSetD 7 (xD (xCall 3 m__law_local (rSlot 1 (rVal (qM (eV 6)) (rVal (xD (xCall 2 m__law_operands (rSlot 1 (rVal (qM (eV 3)) rNil)))) rNil))))))
    (seqM (sSet 8 (xCall 4 m__law_program (rVal (qM (eV 5)) (rVal (qM (eV 6)) (rVal (qM (eV 4)) (rVal (qM (eTup aNil)) rNil))))))
    (ifM (notM (uM (dX (dCall 2 (m__law_same 9) (bCons (xD (xCall 2 m_action (rSlot 8 (rVal (qM (eV 7)) rNil)))) (bCons (qM (eCall 3 m__law_due (aCons (eV 5) (aCons (eV 7) (aCons (eV 4) aNil))))) bNil))))))
      (sRetD (qM (eC (.bool false))))
      endM))))))))
noncomputable def b_law : MM Fl := (seqM (sSet 1 (xLst (rOwn (xCall 3 m__law_digits (rSlot 0 (rVal (qM (eC (.int 0))) (rVal (qM (eC (.int 63))) rNil)))) (rVal (qM (eC (.int 0))) rNil))))
    (seqM (sSet 2 (xLst (rVal (qM (eC (.str "kind"))) (rVal (qM (eC (.str "field"))) (rVal (qM (eC (.str "item"))) (rVal (qM (eC (.str "size"))) (rVal (qM (eC (.str "sized"))) (rVal (qM (eC (.str "make"))) (rVal (qM (eC (.str "tag"))) (rVal (qM (eC (.str "check_size"))) (rVal (qM (eC (.str "tag_size"))) (rVal (qM (eC (.str "set_field"))) (rVal (qM (eC (.str "set_item"))) rNil)))))))))))))
    (seqM (forV 2 (.nm 3)
      l1_law)
    (sRetD (qM (eC (.bool true)))))))
noncomputable def m_law : List M → Option (Rs (List M) M) := runX [0] 9 b_law
theorem fn_0 : fnM 0 = m_do_push := rfl
theorem fn_1 : fnM 1 = m_do_not := rfl
theorem fn_2 : fnM 2 = m_do_minus := rfl
theorem fn_3 : fnM 3 = m_do_both := rfl
theorem fn_4 : fnM 4 = m_do_jump := rfl
theorem fn_5 : fnM 5 = m_do_jump_not := rfl
theorem fn_6 : fnM 6 = m_do_and_jump := rfl
theorem fn_7 : fnM 7 = m_do_or_jump := rfl
theorem fn_8 : fnM 8 = m_do_sized := rfl
theorem fn_9 : fnM 9 = m_do_check_size := rfl
theorem fn_10 : fnM 10 = m_do_drop := rfl
theorem fn_11 : fnM 11 = m_do_print := rfl
theorem fn_12 : fnM 12 = m_do_input := rfl
theorem fn_13 : fnM 13 = m_do_load := rfl
theorem fn_14 : fnM 14 = m_do_store := rfl
theorem fn_15 : fnM 15 = m_do_kind := rfl
theorem fn_16 : fnM 16 = m_do_field := rfl
theorem fn_17 : fnM 17 = m_do_item := rfl
theorem fn_18 : fnM 18 = m_do_set_field := rfl
theorem fn_19 : fnM 19 = m_do_set_item := rfl
theorem fn_20 : fnM 20 = m_do_size := rfl
theorem fn_21 : fnM 21 = m_do_make := rfl
theorem fn_22 : fnM 22 = m_do_tag := rfl
theorem fn_23 : fnM 23 = m_do_tag_size := rfl
theorem fn_24 : fnM 24 = m_do_enter := rfl
theorem fn_25 : fnM 25 = m_do_counter := rfl
theorem fn_26 : fnM 26 = m_do_call := rfl
theorem fn_27 : fnM 27 = m_do_return := rfl
theorem fn_28 : fnM 28 = m_do_break := rfl
theorem fn_29 : fnM 29 = m_do_throw := rfl
theorem fn_30 : fnM 30 = m_do_guard := rfl
theorem fn_31 : fnM 31 = m_do_leave_entry := rfl
theorem fn_32 : fnM 32 = m_do_loop := rfl
theorem fn_33 : fnM 33 = m_do_each := rfl
theorem fn_34 : fnM 34 = m_do_test := rfl
theorem fn_35 : fnM 35 = m_do_next := rfl
theorem fn_36 : fnM 36 = m_do_spawn := rfl
theorem fn_37 : fnM 37 = m_do_stop := rfl
theorem tg_0 : tg (Str.ofString "text") = 161797854194976751733 := by decide +kernel
theorem ln_0 : (Str.ofString "text").length = 4 := by decide +kernel
theorem tg_1 : tg (Str.ofString "ok") = 124780652 := by decide +kernel
theorem ln_1 : (Str.ofString "ok").length = 2 := by decide +kernel
theorem tg_2 : tg (Str.ofString "error") = 157150591233687346972983411 := by decide +kernel
theorem ln_2 : (Str.ofString "error").length = 5 := by decide +kernel
theorem tg_3 : tg (Str.ofString "field") = 158691269299472461022953573 := by decide +kernel
theorem ln_3 : (Str.ofString "field").length = 5 := by decide +kernel
theorem tg_4 : tg (Str.ofString "int") = 131572151812213 := by decide +kernel
theorem ln_4 : (Str.ofString "int").length = 3 := by decide +kernel
theorem tg_5 : tg (Str.ofString "index") = 163313347749244909048430713 := by decide +kernel
theorem ln_5 : (Str.ofString "index").length = 5 := by decide +kernel
theorem tg_6 : tg (Str.ofString "size") = 160414972599381721190 := by decide +kernel
theorem ln_6 : (Str.ofString "size").length = 4 := by decide +kernel
theorem tg_7 : tg (Str.ofString "overflow") = 238627450281192563738496914816251025733714040 := by decide +kernel
theorem ln_7 : (Str.ofString "overflow").length = 8 := by decide +kernel
theorem tg_8 : tg (Str.ofString "division by zero") = 510804321621075116728014738175224217076696156749651000586728520160297778676705324368306307184 := by decide +kernel
theorem ln_8 : (Str.ofString "division by zero").length = 16 := by decide +kernel
theorem tg_9 : tg (Str.ofString "/") = 48 := by decide +kernel
theorem ln_9 : (Str.ofString "/").length = 1 := by decide +kernel
theorem tg_10 : tg (Str.ofString "+") = 44 := by decide +kernel
theorem ln_10 : (Str.ofString "+").length = 1 := by decide +kernel
theorem tg_11 : tg (Str.ofString "-") = 46 := by decide +kernel
theorem ln_11 : (Str.ofString "-").length = 1 := by decide +kernel
theorem tg_12 : tg (Str.ofString "==") = 69075006 := by decide +kernel
theorem ln_12 : (Str.ofString "==").length = 2 := by decide +kernel
theorem tg_13 : tg (Str.ofString "bool") = 136905908516992057453 := by decide +kernel
theorem ln_13 : (Str.ofString "bool").length = 4 := by decide +kernel
theorem tg_14 : tg (Str.ofString "&") = 39 := by decide +kernel
theorem ln_14 : (Str.ofString "&").length = 1 := by decide +kernel
theorem tg_15 : tg (Str.ofString "<") = 61 := by decide +kernel
theorem ln_15 : (Str.ofString "<").length = 1 := by decide +kernel
theorem tg_16 : tg (Str.ofString "<=") = 67960894 := by decide +kernel
theorem ln_16 : (Str.ofString "<=").length = 2 := by decide +kernel
theorem tg_17 : tg (Str.ofString "mod") = 136537135120485 := by decide +kernel
theorem ln_17 : (Str.ofString "mod").length = 3 := by decide +kernel
theorem tg_18 : tg (Str.ofString "cut") = 124124686319733 := by decide +kernel
theorem ln_18 : (Str.ofString "cut").length = 3 := by decide +kernel
theorem tg_19 : tg (Str.ofString "give_up") = 198887206850224782154181181041873911921 := by decide +kernel
theorem ln_19 : (Str.ofString "give_up").length = 7 := by decide +kernel
theorem tg_20 : tg (Str.ofString "quiet") = 175638881523699403016503413 := by decide +kernel
theorem ln_20 : (Str.ofString "quiet").length = 5 := by decide +kernel
theorem tg_21 : tg (Str.ofString "guard") = 160231976405886518461399141 := by decide +kernel
theorem ln_21 : (Str.ofString "guard").length = 5 := by decide +kernel
theorem tg_22 : tg (Str.ofString "fail") = 142437437381865504877 := by decide +kernel
theorem ln_22 : (Str.ofString "fail").length = 4 := by decide +kernel
theorem tg_23 : tg (Str.ofString "kind") = 149351880114732728421 := by decide +kernel
theorem ln_23 : (Str.ofString "kind").length = 4 := by decide +kernel
theorem tg_24 : tg (Str.ofString "call") = 138288777700130488429 := by decide +kernel
theorem ln_24 : (Str.ofString "call").length = 4 := by decide +kernel
theorem tg_25 : tg (Str.ofString "count") = 154069206061470798049116277 := by decide +kernel
theorem ln_25 : (Str.ofString "count").length = 5 := by decide +kernel
theorem tg_26 : tg (Str.ofString "own") = 139019635130479 := by decide +kernel
theorem ln_26 : (Str.ofString "own").length = 3 := by decide +kernel
theorem tg_27 : tg (Str.ofString "object") = 192248352724092311282247887224949 := by decide +kernel
theorem ln_27 : (Str.ofString "object").length = 6 := by decide +kernel
theorem tg_28 : tg (Str.ofString "read") = 159032081073792221285 := by decide +kernel
theorem ln_28 : (Str.ofString "read").length = 4 := by decide +kernel
theorem tg_29 : tg (Str.ofString "write") = 184883020445721494057975910 := by decide +kernel
theorem ln_29 : (Str.ofString "write").length = 5 := by decide +kernel
theorem tg_30 : tg (Str.ofString "records") = 219923327617932317467950171787862802548 := by decide +kernel
theorem ln_30 : (Str.ofString "records").length = 7 := by decide +kernel
theorem tg_31 : tg (Str.ofString "make") = 152117643305923903590 := by decide +kernel
theorem ln_31 : (Str.ofString "make").length = 4 := by decide +kernel
theorem tg_32 : tg (Str.ofString "operand") = 214186220781161254120665885010712002661 := by decide +kernel
theorem ln_32 : (Str.ofString "operand").length = 7 := by decide +kernel
theorem tg_33 : tg (Str.ofString "code") = 138288795077559255142 := by decide +kernel
theorem ln_33 : (Str.ofString "code").length = 4 := by decide +kernel
theorem tg_34 : tg (Str.ofString " !\"#$&'()*+,-./0123456789:;<=>?@ABCDEFGHIJKLMNOPQRSTUVWXYZ[\\]^_`") = 29856027193219869096056447805569802937064987214643809819182447389015183197578590313803751733529185245617312972646090922956670792999180571869831943681638588157387113800613315609099422641065178870392920779396491914265441330217021367801828444339513503358263674922638029673243858161435406251182189401849456522609364778697028750228801915908298534733634452556496697742250890589860471504993 := by decide +kernel
theorem ln_34 : (Str.ofString " !\"#$&'()*+,-./0123456789:;<=>?@ABCDEFGHIJKLMNOPQRSTUVWXYZ[\\]^_`").length = 64 := by decide +kernel
theorem tg_35 : tg (Str.ofString "abcdefghijklmnopqrstuvwxyz{|}~\n") = 2506640368517312636359696509842997056714086497130056952212946941245496318399195709389815001197391080809466009485408239131193546961768119872860475077622474990549322352793867031386456075 := by decide +kernel
theorem ln_35 : (Str.ofString "abcdefghijklmnopqrstuvwxyz{|}~\n").length = 31 := by decide +kernel
theorem tg_36 : tg (Str.ofString "") = 0 := by decide +kernel
theorem ln_36 : (Str.ofString "").length = 0 := by decide +kernel
theorem tg_37 : tg (Str.ofString "none") = 153500547243944378470 := by decide +kernel
theorem ln_37 : (Str.ofString "none").length = 4 := by decide +kernel
theorem tg_38 : tg (Str.ofString "loop") = 150734774122786586737 := by decide +kernel
theorem ln_38 : (Str.ofString "loop").length = 4 := by decide +kernel
theorem tg_39 : tg (Str.ofString "drop") = 139671685361887608945 := by decide +kernel
theorem ln_39 : (Str.ofString "drop").length = 4 := by decide +kernel
theorem tg_40 : tg (Str.ofString "halt") = 145203210503027753077 := by decide +kernel
theorem ln_40 : (Str.ofString "halt").length = 4 := by decide +kernel
theorem tg_41 : tg (Str.ofString "lines") = 167935412370165404988211316 := by decide +kernel
theorem ln_41 : (Str.ofString "lines").length = 5 := by decide +kernel
theorem tg_42 : tg (Str.ofString "variables") = 282473751916729413832694790932860701151669166407796 := by decide +kernel
theorem ln_42 : (Str.ofString "variables").length = 9 := by decide +kernel
theorem tg_43 : tg (Str.ofString "procedures") = 298839848944441659721092095670562562857503409047479910516 := by decide +kernel
theorem ln_43 : (Str.ofString "procedures").length = 10 := by decide +kernel
theorem tg_44 : tg (Str.ofString "f") = 103 := by decide +kernel
theorem ln_44 : (Str.ofString "f").length = 1 := by decide +kernel
theorem tg_45 : tg (Str.ofString "r") = 115 := by decide +kernel
theorem ln_45 : (Str.ofString "r").length = 1 := by decide +kernel
theorem tg_46 : tg (Str.ofString "set_field") = 275352578679864563343384990653058443863012390273125 := by decide +kernel
theorem ln_46 : (Str.ofString "set_field").length = 9 := by decide +kernel
theorem tg_47 : tg (Str.ofString "set_item") = 247149818581852240477963611625352918697640046 := by decide +kernel
theorem ln_47 : (Str.ofString "set_item").length = 8 := by decide +kernel
theorem tg_48 : tg (Str.ofString "item") = 146586120647264829550 := by decide +kernel
theorem ln_48 : (Str.ofString "item").length = 4 := by decide +kernel
theorem tg_49 : tg (Str.ofString "tag") = 145225838362728 := by decide +kernel
theorem ln_49 : (Str.ofString "tag").length = 3 := by decide +kernel
theorem tg_50 : tg (Str.ofString "tag_size") = 249280411135082218123025847253154752830832742 := by decide +kernel
theorem ln_50 : (Str.ofString "tag_size").length = 8 := by decide +kernel
theorem tg_51 : tg (Str.ofString "sized") = 178720245952642368158433381 := by decide +kernel
theorem ln_51 : (Str.ofString "sized").length = 5 := by decide +kernel
theorem tg_52 : tg (Str.ofString "check_size") = 264460050981020424142025578570608216255494307481230442598 := by decide +kernel
theorem ln_52 : (Str.ofString "check_size").length = 10 := by decide +kernel
theorem tg_53 : tg (Str.ofString "push") = 156266327812582146153 := by decide +kernel
theorem ln_53 : (Str.ofString "push").length = 4 := by decide +kernel
theorem tg_54 : tg (Str.ofString "not") = 137778380669045 := by decide +kernel
theorem ln_54 : (Str.ofString "not").length = 3 := by decide +kernel
theorem tg_55 : tg (Str.ofString "minus") = 169476102881945700466557044 := by decide +kernel
theorem ln_55 : (Str.ofString "minus").length = 5 := by decide +kernel
theorem tg_56 : tg (Str.ofString "both") = 136905908516997628009 := by decide +kernel
theorem ln_56 : (Str.ofString "both").length = 4 := by decide +kernel
theorem tg_57 : tg (Str.ofString "jump") = 147969008449098743921 := by decide +kernel
theorem ln_57 : (Str.ofString "jump").length = 4 := by decide +kernel
theorem tg_58 : tg (Str.ofString "jump_not") = 227974447355064806851571571738497097187459189 := by decide +kernel
theorem ln_58 : (Str.ofString "jump_not").length = 8 := by decide +kernel
theorem tg_59 : tg (Str.ofString "and_jump") = 208799032143643433250035705575068634134216817 := by decide +kernel
theorem ln_59 : (Str.ofString "and_jump").length = 8 := by decide +kernel
theorem tg_60 : tg (Str.ofString "or_jump") = 214186224214155584887669207799796990065 := by decide +kernel
theorem ln_60 : (Str.ofString "or_jump").length = 7 := by decide +kernel
theorem tg_61 : tg (Str.ofString "print") = 174098186863259425827651701 := by decide +kernel
theorem ln_61 : (Str.ofString "print").length = 5 := by decide +kernel
theorem tg_62 : tg (Str.ofString "input") = 163313347749259804012839029 := by decide +kernel
theorem ln_62 : (Str.ofString "input").length = 5 := by decide +kernel
theorem tg_63 : tg (Str.ofString "load") = 150734774122770989157 := by decide +kernel
theorem ln_63 : (Str.ofString "load").length = 4 := by decide +kernel
theorem tg_64 : tg (Str.ofString "store") = 178720261164380880845865062 := by decide +kernel
theorem ln_64 : (Str.ofString "store").length = 5 := by decide +kernel
theorem tg_65 : tg (Str.ofString "enter") = 157150585702143587135127667 := by decide +kernel
theorem ln_65 : (Str.ofString "enter").length = 5 := by decide +kernel
theorem tg_66 : tg (Str.ofString "counter") = 191237716191508890507912778299417690227 := by decide +kernel
theorem ln_66 : (Str.ofString "counter").length = 7 := by decide +kernel
theorem tg_67 : tg (Str.ofString "return") = 197397862708559381116932369612911 := by decide +kernel
theorem ln_67 : (Str.ofString "return").length = 6 := by decide +kernel
theorem tg_68 : tg (Str.ofString "break") = 152528519698330324383694956 := by decide +kernel
theorem ln_68 : (Str.ofString "break").length = 5 := by decide +kernel
theorem tg_69 : tg (Str.ofString "throw") = 180260935081526173086253176 := by decide +kernel
theorem ln_69 : (Str.ofString "throw").length = 5 := by decide +kernel
theorem tg_70 : tg (Str.ofString "unguard") = 225660468784748374182121799396408623205 := by decide +kernel
theorem ln_70 : (Str.ofString "unguard").length = 7 := by decide +kernel
theorem tg_71 : tg (Str.ofString "end_loop") = 217321432954656432823535471555888489092350065 := by decide +kernel
theorem ln_71 : (Str.ofString "end_loop").length = 8 := by decide +kernel
theorem tg_72 : tg (Str.ofString "each") = 141054550821279367273 := by decide +kernel
theorem ln_72 : (Str.ofString "each").length = 4 := by decide +kernel
theorem tg_73 : tg (Str.ofString "test") = 161797854194971181173 := by decide +kernel
theorem ln_73 : (Str.ofString "test").length = 4 := by decide +kernel
theorem tg_74 : tg (Str.ofString "next") = 153500534831500034165 := by decide +kernel
theorem ln_74 : (Str.ofString "next").length = 4 := by decide +kernel
theorem tg_75 : tg (Str.ofString "spawn") = 178720255632817261095944303 := by decide +kernel
theorem ln_75 : (Str.ofString "spawn").length = 5 := by decide +kernel
theorem tg_76 : tg (Str.ofString "finish") = 176799847421786308470526346264681 := by decide +kernel
theorem ln_76 : (Str.ofString "finish").length = 6 := by decide +kernel
local macro_rules
  | `(tactic| simpa [$xs,*]) => `(tactic| simp -implicitDefEqProofs only [thB_ok, thB_none, thB_er, thI_ok, thI_none, thI_er, thS_nx, thS_rt, thS_bk, thS_ct, thS_none, thS_er, a_bind, a_pure, a_opt, a_qM, a_dX, a_dM, a_xD, a_pE, a_eP, a_eV, a_eC, a_e2, a_d2, a_e1, a_d1, a_aNil, a_aCons, a_bNil, a_bCons, a_eTup, a_dTup, a_bM, a_tM, a_tru_n, a_tru_b, a_tru_i, a_tru_s, a_tru_t, a_tru_l, a_uM, a_uP, a_and, a_or, a_not, a_if, a_kAnd, a_dAnd, a_kOr, a_dOr, a_kNot, a_dNot, o_add_i, o_add_s, o_add_t, o_I, o_sub, o_mul_i, o_mul_s, o_mul_t, o_mod, o_div, o_pow, o_lt, o_lt_s, o_le, o_gt, o_ge, q_ss, q_ii, q_bb, q_nn, o_eq, o_ne, isTup_n, isTup_b, isTup_i, isTup_s, isTup_t, isBool_n, isBool_b, isBool_i, isBool_s, isBool_t, isInt_n, isInt_b, isInt_i, isInt_s, isInt_t, isStr_n, isStr_b, isStr_i, isStr_s, isStr_t, n_n, n_b, n_i, n_s, n_t, o_is, o_isNot, in_nil, in_cons, o_in_t, o_notIn_t, at_0, at_1, at_2, at_3, at_4, o_ix_t, o_ix_s, o_sl_t, o_sl_s, cut_nat, cut_1, cut_2, cut_3, cut_4, cut_to2, cut_to3, cut_to4, o_neg, a_oN, a_kS, a_oS, a_dSl, a_eN, a_dN, o_int, o_str, o_abs, o_max, o_len_t, o_len_s, l_d, l_l, l_s, a_eLenP, a_dIsi, a_nm, a_tp, a_ps_nil, a_ps_cons, a_sSetD, a_sSet, a_sPat, a_sRetD, a_sRet, a_sRetV, a_sRetN, a_sDrop, a_seq, a_end, a_sAug, a_for, a_loop_nil, a_iT, a_tupL, a_iStr, a_iL, a_lstL, a_lstS, a_immN, a_immC, a_rng1, a_rng2, a_iR1, a_iR2, a_iEn, a_backN, a_backC, i_imm, i_scr, i_fn, i_fro, a_eCall, a_dCall, a_eCall0, a_rNil, a_rVal, a_rSlot, a_rOwn, t_nil, t_val, t_own, t_slot, p_nil, p_slot, p_val, p_own, c_ok, g_ok, a_xCall, a_sIdx, x_set, a_xApp, w_nil, w_val, w_own, a_xLst, x_l, x_s, x_d, a_pIx, a_eIx, a_dIxX, a_dIxV, a_forV, a_loopV_nil, f_ins, f_fro, a_pFld, a_kTab, a_tab, o_tabIn, o_tabNot, a_tabIn, a_tabNot, a_xCallV, a_dInX, a_dInP, in_l, tup_l, tup_d, a_dTupX, a_eTupP, a_chain, a_new, finX_rt, finX_nx, finD_rt, finD_nx, thL_none, thL_nx, thL_ct, thL_bk, thL_rt, thL_er, num_nil, range_nil, o_isB, o_isNotB, a_dLenX, a_xCatV, a_catV, thC_ok, thD_ok, a_xLc, w_0, w_c, o_index, a_runX, a_runD, ixN, tg_ne, tg_bne, lookup_ne, lookup_eq, ne_eq, le_most, dr_big, in_big, Nat.zero_le, CPow, Int.zero_le_ofNat, Int.reduceAbs, Nat.reducePow, and_self, List.getElem?_cons_zero, List.getElem?_cons_succ, List.getElem?_nil, List.set_cons_zero, List.set_cons_succ, List.set_nil, Option.join_some, Option.join_none, Option.map_some, Option.map_none, Option.bind_some, Option.bind_none, ite_true, ite_false, if_true, if_false, List.length_cons, List.length_nil, List.map_cons, List.map_nil, List.cons_append, List.nil_append, List.append_nil, List.replicate, List.replicate_succ, List.replicate_zero, Nat.reduceAdd, Nat.reduceSub, Nat.reduceEqDiff, Nat.reduceLeDiff, Bool.false_eq_true, Bool.not_true, Bool.not_false, reduceCtorEq, decide_true, decide_false, beq_self_eq_true, Bool.and_true, Bool.true_and, Bool.or_false, Bool.false_or, Bool.true_or, Bool.or_true, Bool.and_false, Bool.false_and, Nat.zero_add, Nat.add_zero, reduceIte, bne_self_eq_false, Option.some.injEq, List.contains_cons, List.contains_nil, Nat.reduceBEq, Nat.reduceBNe, Nat.reduceLT, Int.reduceEq, Int.reduceLT, Int.reduceLE, Int.reduceAdd, Int.reduceSub, Int.reduceMul, Int.reduceNeg, Int.reducePow, Int.reduceToNat, not_true_eq_false, not_false_eq_true, true_and, and_true, eq_self, decide_not, Bool.not_not, List.isEmpty_cons, List.lookup_nil, List.isEmpty_nil, Int.cast_ofNat_Int, Bool.not_eq_true, decide_eq_true_eq, Bool.not_eq_eq_eq_not, decide_eq_false_iff_not, Nat.reduceMod, Option.isSome_some, Option.isSome_none, List.drop_succ_cons, List.drop_zero, List.take_succ_cons, List.take_zero, List.isEmpty_iff, String.reduceEq, gt_iff_lt, ge_iff_le, k_INTEGER, k_ITEMS, k_KIND_cells, k_KIND_operators, k_NONE, k_RUN_CHARACTERS, fn_0, fn_1, fn_2, fn_3, fn_4, fn_5, fn_6, fn_7, fn_8, fn_9, fn_10, fn_11, fn_12, fn_13, fn_14, fn_15, fn_16, fn_17, fn_18, fn_19, fn_20, fn_21, fn_22, fn_23, fn_24, fn_25, fn_26, fn_27, fn_28, fn_29, fn_30, fn_31, fn_32, fn_33, fn_34, fn_35, fn_36, fn_37, tg_0, ln_0, tg_1, ln_1, tg_2, ln_2, tg_3, ln_3, tg_4, ln_4, tg_5, ln_5, tg_6, ln_6, tg_7, ln_7, tg_8, ln_8, tg_9, ln_9, tg_10, ln_10, tg_11, ln_11, tg_12, ln_12, tg_13, ln_13, tg_14, ln_14, tg_15, ln_15, tg_16, ln_16, tg_17, ln_17, tg_18, ln_18, tg_19, ln_19, tg_20, ln_20, tg_21, ln_21, tg_22, ln_22, tg_23, ln_23, tg_24, ln_24, tg_25, ln_25, tg_26, ln_26, tg_27, ln_27, tg_28, ln_28, tg_29, ln_29, tg_30, ln_30, tg_31, ln_31, tg_32, ln_32, tg_33, ln_33, tg_34, ln_34, tg_35, ln_35, tg_36, ln_36, tg_37, ln_37, tg_38, ln_38, tg_39, ln_39, tg_40, ln_40, tg_41, ln_41, tg_42, ln_42, tg_43, ln_43, tg_44, ln_44, tg_45, ln_45, tg_46, ln_46, tg_47, ln_47, tg_48, ln_48, tg_49, ln_49, tg_50, ln_50, tg_51, ln_51, tg_52, ln_52, tg_53, ln_53, tg_54, ln_54, tg_55, ln_55, tg_56, ln_56, tg_57, ln_57, tg_58, ln_58, tg_59, ln_59, tg_60, ln_60, tg_61, ln_61, tg_62, ln_62, tg_63, ln_63, tg_64, ln_64, tg_65, ln_65, tg_66, ln_66, tg_67, ln_67, tg_68, ln_68, tg_69, ln_69, tg_70, ln_70, tg_71, ln_71, tg_72, ln_72, tg_73, ln_73, tg_74, ln_74, tg_75, ln_75, tg_76, ln_76, $xs,*])
theorem draw_eq (ds : List Int) (k : Nat) (m : Int) (hm : m ≠ 0) : m__law_draw [BX ds k, .imm (.int m)] = some (.ok (.imm (.int (dr ds k m))) [BX ds (k + 1), .imm (.int m)]) := by
  unfold m__law_draw b__law_draw BX
  simpa []
  rw [List.length_map]
  by_cases h : k < ds.length
  · rw [if_pos (by omega), at_ints ds k h]
    unfold dr
    rw [List.getElem?_eq_getElem h]
    simpa [ if_neg hm]
    rfl
  · rw [if_neg (by omega)]
    unfold dr
    rw [List.getElem?_eq_none (by omega)]
    simpa []
    rfl

theorem dig_1 (x : M) (c : Int) (ds : List Int) (a b d e f : Option M) (h : ds.length ≤ 999000) :
    ∃ ρ' c' ds' g, loopM (.nm 6) l1__law_digits (rangeL 0 60) [some x, a, b, some (LI ds), d, some (.imm (.int c)), e, f] = some (.ok .nx ρ') ∧ ρ' = [some x, a, b, some (LI ds'), d, some (.imm (.int c')), g, f] ∧ ds'.length ≤ ds.length + 60 := by
  obtain ⟨ρ', h1, c', ds', g, h2, h3⟩ := range_inv (k := 6) (mb := l1__law_digits) (fun j ρ => ∃ c' ds' g, ρ = [some x, a, b, some (LI ds'), d, some (.imm (.int c')), g, f] ∧ ds'.length ≤ ds.length + j) 0 60 _ ⟨c, ds, e, rfl, Nat.le_refl _⟩ (fun j ρ hj hp => by
    obtain ⟨c1, d1, g1, rfl, h1⟩ := hp
    unfold l1__law_digits
    simpa [ LI]
    by_cases hc : 0 < c1
    · rw [if_pos hc]
      simpa [ LI, List.length_map]
      rw [if_pos (by omega)]
      simpa [ LI_app]
      exact ⟨_, rfl, _, _, _, rfl, by simp only [List.length_append, List.length_cons, List.length_nil]; omega⟩
    · rw [if_neg hc]
      exact ⟨_, rfl, _, _, _, rfl, by omega⟩)
  exact ⟨ρ', c', ds', g, h1, h2, h3⟩
theorem dig_2 (x : M) (c : Int) (ds : List Int) (a b d e f : Option M) (h : ds.length ≤ 999000) (h0 : 0 ≤ c) (h1 : c < 2147483647) :
    ∃ ρ' c' ds' g, loopM (.nm 6) l2__law_digits (rangeL 0 12) [some x, a, b, some (LI ds), d, e, f, some (.imm (.int c))] = some (.ok .nx ρ') ∧ ρ' = [some x, a, b, some (LI ds'), d, e, g, some (.imm (.int c'))] ∧ ds'.length ≤ ds.length + 12 := by
  obtain ⟨ρ', h1, c', ds', g, h2, h3, h4, h5⟩ := range_inv (k := 6) (mb := l2__law_digits) (fun j ρ => ∃ c' ds' g, ρ = [some x, a, b, some (LI ds'), d, e, g, some (.imm (.int c'))] ∧ ds'.length ≤ ds.length + j ∧ 0 ≤ c' ∧ c' < 2147483647) 0 12 _ ⟨c, ds, f, rfl, Nat.le_refl _, h0, h1⟩ (fun j ρ hj hp => by
    obtain ⟨c1, d1, g1, rfl, h1, h2, h3⟩ := hp
    have m1 : CMulX c1 16807 := mulX_log (a := 32) (b := 32) (Nat.le_of_lt (log2_small (by decide) (by omega))) (by decide) (by decide)
    have m2 : CMulX 7 (0 + (j : Nat)) := mulX_log (a := 32) (b := 32) (by decide) (Nat.le_of_lt (log2_small (by decide) (by omega))) (by decide)
    have m3 : CDivG ((c1 * 16807 + 7 * (0 + (j : Nat)) + 1).fmod 2147483647) 997 := ⟨by decide, by decide⟩
    unfold l2__law_digits
    simpa [ LI, if_pos m1, if_pos m2, if_pos m3, List.length_map]
    rw [if_pos (by omega)]
    simpa [ LI_app]
    exact ⟨_, rfl, _, _, _, rfl, by simp only [List.length_append, List.length_cons, List.length_nil]; omega, Int.fmod_nonneg_of_pos _ (by decide), Int.fmod_lt_of_pos _ (by decide)⟩)
  exact ⟨ρ', c', ds', g, h1, h2, h3⟩
theorem cell_log {ns : List Int} (hb : ∀ z ∈ ns, Builtin.Int.intBits z ≤ 1048576) (k : Nat) : ∃ z, m__law_cell [.scr ns, .imm (.int (k : Int))] = some (.ok (.imm (.int z)) [.scr ns, .imm (.int (k : Int))]) ∧ z.natAbs.log2 ≤ 1048576 := by
  unfold m__law_cell b__law_cell
  simpa []
  by_cases h : k < ns.length
  · rw [if_pos (by omega), at_n h rfl]
    simpa []
    exact ⟨_, rfl, bits_log (hb _ (List.getElem_mem h))⟩
  · rw [if_neg (by omega)]
    simpa []
    exact ⟨_, rfl, by decide⟩
theorem dig_3 {ns : List Int} (hb : ∀ z ∈ ns, Builtin.Int.intBits z ≤ 1048576) (a b : Option M) (j : Nat) (hj : j < 63) (ds : List Int) (d e f g : Option M) (h : ds.length ≤ 60 * j) :
    ∃ ρ', l3__law_digits [some (.scr ns), a, b, some (LI ds), some (.imm (.int (0 + (j : Nat)))), e, f, g] = some (.ok .nx ρ') ∧ ∃ ds' d' e' f' g', ρ' = [some (.scr ns), a, b, some (LI ds'), d', e', f', g'] ∧ ds'.length ≤ 60 * (j + 1) := by
  obtain ⟨z, ez, hz⟩ := cell_log hb j
  have hj0 : (0 + (j : Nat) : Int) = (j : Int) := by omega
  unfold l3__law_digits
  simpa [ hj0, ez]
  have fin : ∀ (z : Int), z.natAbs.log2 ≤ 1048578 → 0 ≤ z → ∃ ρ', ifM (tM (d2 oGe (qM (eV 5)) (qM (e2 oPow (eC (PyData.int 10)) (eC (PyData.int 18)))))) (forM (Pt.nm 6) (iR1 (qM (eC (PyData.int 60)))) l1__law_digits)
        (seqM (sSetD 7 (qM (e2 oMod (eN oInt (aCons (e2 oAdd (e2 oAdd (e2 oMul (eV 5) (eC (PyData.int 48271))) (e2 oMul (eV 4) (eC (PyData.int 69621)))) (eC (PyData.int 11))) aNil)) (eC (PyData.int 2147483647)))))
          (forM (Pt.nm 6) (iR1 (qM (eC (PyData.int 12)))) l2__law_digits)) [some (.scr ns), a, b, some (LI ds), some (.imm (.int (j : Int))), some (.imm (.int z)), f, g] = some (.ok .nx ρ') ∧ ∃ ds' d' e' f' g', ρ' = [some (.scr ns), a, b, some (LI ds'), d', e', f', g'] ∧ ds'.length ≤ 60 * (j + 1) := by
    intro z hz2 hz0
    by_cases hc : 1000000000000000000 ≤ z
    · obtain ⟨ρ', c', ds', g', h1, rfl, h3⟩ := dig_1 (.scr ns) z ds a b (some (.imm (.int (j : Int)))) f g (by omega)
      simpa [ if_pos hc, h1]
      exact ⟨_, rfl, _, _, _, _, _, rfl, by omega⟩
    · have m1 : CMulX z 48271 := mulX_log (a := 1048578) (b := 32) hz2 (by decide) (by decide)
      have m2 : CMulX (j : Int) 69621 := mulX_log (a := 32) (b := 32) (Nat.le_of_lt (log2_small (by decide) (by omega))) (by decide) (by decide)
      obtain ⟨ρ', c', ds', g', h1, rfl, h3⟩ := dig_2 (.scr ns) ((z * 48271 + (j : Int) * 69621 + 11).fmod 2147483647) ds a b (some (.imm (.int (j : Int)))) (some (.imm (.int z))) f (by omega) (Int.fmod_nonneg_of_pos _ (by decide)) (Int.fmod_lt_of_pos _ (by decide))
      simpa [ if_neg hc, if_pos m1, if_pos m2, h1]
      exact ⟨_, rfl, _, _, _, _, _, rfl, by omega⟩
  by_cases hn : z < 0
  · have m1 : CMulX 2 z := mulX_log (a := 32) (b := 1048576) (by decide) hz (by decide)
    simpa [ if_pos hn, if_pos m1]
    have f1 := fin (1 - 2 * z) (log_neg hz) (by omega)
    simp -implicitDefEqProofs only [thB_ok, thB_none, thB_er, thI_ok, thI_none, thI_er, thS_nx, thS_rt, thS_bk, thS_ct, thS_none, thS_er, a_bind, a_pure, a_opt, a_qM, a_dX, a_dM, a_xD, a_pE, a_eP, a_eV, a_eC, a_e2, a_d2, a_e1, a_d1, a_aNil, a_aCons, a_bNil, a_bCons, a_eTup, a_dTup, a_bM, a_tM, a_tru_n, a_tru_b, a_tru_i, a_tru_s, a_tru_t, a_tru_l, a_uM, a_uP, a_and, a_or, a_not, a_if, a_kAnd, a_dAnd, a_kOr, a_dOr, a_kNot, a_dNot, o_add_i, o_add_s, o_add_t, o_I, o_sub, o_mul_i, o_mul_s, o_mul_t, o_mod, o_div, o_pow, o_lt, o_lt_s, o_le, o_gt, o_ge, q_ss, q_ii, q_bb, q_nn, o_eq, o_ne, isTup_n, isTup_b, isTup_i, isTup_s, isTup_t, isBool_n, isBool_b, isBool_i, isBool_s, isBool_t, isInt_n, isInt_b, isInt_i, isInt_s, isInt_t, isStr_n, isStr_b, isStr_i, isStr_s, isStr_t, n_n, n_b, n_i, n_s, n_t, o_is, o_isNot, in_nil, in_cons, o_in_t, o_notIn_t, at_0, at_1, at_2, at_3, at_4, o_ix_t, o_ix_s, o_sl_t, o_sl_s, cut_nat, cut_1, cut_2, cut_3, cut_4, cut_to2, cut_to3, cut_to4, o_neg, a_oN, a_kS, a_oS, a_dSl, a_eN, a_dN, o_int, o_str, o_abs, o_max, o_len_t, o_len_s, l_d, l_l, l_s, a_eLenP, a_dIsi, a_nm, a_tp, a_ps_nil, a_ps_cons, a_sSetD, a_sSet, a_sPat, a_sRetD, a_sRet, a_sRetV, a_sRetN, a_sDrop, a_seq, a_end, a_sAug, a_for, a_loop_nil, a_iT, a_tupL, a_iStr, a_iL, a_lstL, a_lstS, a_immN, a_immC, a_rng1, a_rng2, a_iR1, a_iR2, a_iEn, a_backN, a_backC, i_imm, i_scr, i_fn, i_fro, a_eCall, a_dCall, a_eCall0, a_rNil, a_rVal, a_rSlot, a_rOwn, t_nil, t_val, t_own, t_slot, p_nil, p_slot, p_val, p_own, c_ok, g_ok, a_xCall, a_sIdx, x_set, a_xApp, w_nil, w_val, w_own, a_xLst, x_l, x_s, x_d, a_pIx, a_eIx, a_dIxX, a_dIxV, a_forV, a_loopV_nil, f_ins, f_fro, a_pFld, a_kTab, a_tab, o_tabIn, o_tabNot, a_tabIn, a_tabNot, a_xCallV, a_dInX, a_dInP, in_l, tup_l, tup_d, a_dTupX, a_eTupP, a_chain, a_new, finX_rt, finX_nx, finD_rt, finD_nx, thL_none, thL_nx, thL_ct, thL_bk, thL_rt, thL_er, num_nil, range_nil, o_isB, o_isNotB, a_dLenX, a_xCatV, a_catV, thC_ok, thD_ok, a_xLc, w_0, w_c, o_index, a_runX, a_runD, ixN, tg_ne, tg_bne, lookup_ne, lookup_eq, ne_eq, le_most, dr_big, in_big, Nat.zero_le, CPow, Int.zero_le_ofNat, Int.reduceAbs, Nat.reducePow, and_self, List.getElem?_cons_zero, List.getElem?_cons_succ, List.getElem?_nil, List.set_cons_zero, List.set_cons_succ, List.set_nil, Option.join_some, Option.join_none, Option.map_some, Option.map_none, Option.bind_some, Option.bind_none, ite_true, ite_false, if_true, if_false, List.length_cons, List.length_nil, List.map_cons, List.map_nil, List.cons_append, List.nil_append, List.append_nil, List.replicate, List.replicate_succ, List.replicate_zero, Nat.reduceAdd, Nat.reduceSub, Nat.reduceEqDiff, Nat.reduceLeDiff, Bool.false_eq_true, Bool.not_true, Bool.not_false, reduceCtorEq, decide_true, decide_false, beq_self_eq_true, Bool.and_true, Bool.true_and, Bool.or_false, Bool.false_or, Bool.true_or, Bool.or_true, Bool.and_false, Bool.false_and, Nat.zero_add, Nat.add_zero, reduceIte, bne_self_eq_false, Option.some.injEq, List.contains_cons, List.contains_nil, Nat.reduceBEq, Nat.reduceBNe, Nat.reduceLT, Int.reduceEq, Int.reduceLT, Int.reduceLE, Int.reduceAdd, Int.reduceSub, Int.reduceMul, Int.reduceNeg, Int.reducePow, Int.reduceToNat, not_true_eq_false, not_false_eq_true, true_and, and_true, eq_self, decide_not, Bool.not_not, List.isEmpty_cons, List.lookup_nil, List.isEmpty_nil, Int.cast_ofNat_Int, Bool.not_eq_true, decide_eq_true_eq, Bool.not_eq_eq_eq_not, decide_eq_false_iff_not, Nat.reduceMod, Option.isSome_some, Option.isSome_none, List.drop_succ_cons, List.drop_zero, List.take_succ_cons, List.take_zero, List.isEmpty_iff, String.reduceEq, gt_iff_lt, ge_iff_le, k_INTEGER, k_ITEMS, k_KIND_cells, k_KIND_operators, k_NONE, k_RUN_CHARACTERS, fn_0, fn_1, fn_2, fn_3, fn_4, fn_5, fn_6, fn_7, fn_8, fn_9, fn_10, fn_11, fn_12, fn_13, fn_14, fn_15, fn_16, fn_17, fn_18, fn_19, fn_20, fn_21, fn_22, fn_23, fn_24, fn_25, fn_26, fn_27, fn_28, fn_29, fn_30, fn_31, fn_32, fn_33, fn_34, fn_35, fn_36, fn_37, tg_0, ln_0, tg_1, ln_1, tg_2, ln_2, tg_3, ln_3, tg_4, ln_4, tg_5, ln_5, tg_6, ln_6, tg_7, ln_7, tg_8, ln_8, tg_9, ln_9, tg_10, ln_10, tg_11, ln_11, tg_12, ln_12, tg_13, ln_13, tg_14, ln_14, tg_15, ln_15, tg_16, ln_16, tg_17, ln_17, tg_18, ln_18, tg_19, ln_19, tg_20, ln_20, tg_21, ln_21, tg_22, ln_22, tg_23, ln_23, tg_24, ln_24, tg_25, ln_25, tg_26, ln_26, tg_27, ln_27, tg_28, ln_28, tg_29, ln_29, tg_30, ln_30, tg_31, ln_31, tg_32, ln_32, tg_33, ln_33, tg_34, ln_34, tg_35, ln_35, tg_36, ln_36, tg_37, ln_37, tg_38, ln_38, tg_39, ln_39, tg_40, ln_40, tg_41, ln_41, tg_42, ln_42, tg_43, ln_43, tg_44, ln_44, tg_45, ln_45, tg_46, ln_46, tg_47, ln_47, tg_48, ln_48, tg_49, ln_49, tg_50, ln_50, tg_51, ln_51, tg_52, ln_52, tg_53, ln_53, tg_54, ln_54, tg_55, ln_55, tg_56, ln_56, tg_57, ln_57, tg_58, ln_58, tg_59, ln_59, tg_60, ln_60, tg_61, ln_61, tg_62, ln_62, tg_63, ln_63, tg_64, ln_64, tg_65, ln_65, tg_66, ln_66, tg_67, ln_67, tg_68, ln_68, tg_69, ln_69, tg_70, ln_70, tg_71, ln_71, tg_72, ln_72, tg_73, ln_73, tg_74, ln_74, tg_75, ln_75, tg_76, ln_76] at f1
    exact f1
  · simpa [ if_neg hn]
    have f1 := fin z (by omega) (by omega)
    simp -implicitDefEqProofs only [thB_ok, thB_none, thB_er, thI_ok, thI_none, thI_er, thS_nx, thS_rt, thS_bk, thS_ct, thS_none, thS_er, a_bind, a_pure, a_opt, a_qM, a_dX, a_dM, a_xD, a_pE, a_eP, a_eV, a_eC, a_e2, a_d2, a_e1, a_d1, a_aNil, a_aCons, a_bNil, a_bCons, a_eTup, a_dTup, a_bM, a_tM, a_tru_n, a_tru_b, a_tru_i, a_tru_s, a_tru_t, a_tru_l, a_uM, a_uP, a_and, a_or, a_not, a_if, a_kAnd, a_dAnd, a_kOr, a_dOr, a_kNot, a_dNot, o_add_i, o_add_s, o_add_t, o_I, o_sub, o_mul_i, o_mul_s, o_mul_t, o_mod, o_div, o_pow, o_lt, o_lt_s, o_le, o_gt, o_ge, q_ss, q_ii, q_bb, q_nn, o_eq, o_ne, isTup_n, isTup_b, isTup_i, isTup_s, isTup_t, isBool_n, isBool_b, isBool_i, isBool_s, isBool_t, isInt_n, isInt_b, isInt_i, isInt_s, isInt_t, isStr_n, isStr_b, isStr_i, isStr_s, isStr_t, n_n, n_b, n_i, n_s, n_t, o_is, o_isNot, in_nil, in_cons, o_in_t, o_notIn_t, at_0, at_1, at_2, at_3, at_4, o_ix_t, o_ix_s, o_sl_t, o_sl_s, cut_nat, cut_1, cut_2, cut_3, cut_4, cut_to2, cut_to3, cut_to4, o_neg, a_oN, a_kS, a_oS, a_dSl, a_eN, a_dN, o_int, o_str, o_abs, o_max, o_len_t, o_len_s, l_d, l_l, l_s, a_eLenP, a_dIsi, a_nm, a_tp, a_ps_nil, a_ps_cons, a_sSetD, a_sSet, a_sPat, a_sRetD, a_sRet, a_sRetV, a_sRetN, a_sDrop, a_seq, a_end, a_sAug, a_for, a_loop_nil, a_iT, a_tupL, a_iStr, a_iL, a_lstL, a_lstS, a_immN, a_immC, a_rng1, a_rng2, a_iR1, a_iR2, a_iEn, a_backN, a_backC, i_imm, i_scr, i_fn, i_fro, a_eCall, a_dCall, a_eCall0, a_rNil, a_rVal, a_rSlot, a_rOwn, t_nil, t_val, t_own, t_slot, p_nil, p_slot, p_val, p_own, c_ok, g_ok, a_xCall, a_sIdx, x_set, a_xApp, w_nil, w_val, w_own, a_xLst, x_l, x_s, x_d, a_pIx, a_eIx, a_dIxX, a_dIxV, a_forV, a_loopV_nil, f_ins, f_fro, a_pFld, a_kTab, a_tab, o_tabIn, o_tabNot, a_tabIn, a_tabNot, a_xCallV, a_dInX, a_dInP, in_l, tup_l, tup_d, a_dTupX, a_eTupP, a_chain, a_new, finX_rt, finX_nx, finD_rt, finD_nx, thL_none, thL_nx, thL_ct, thL_bk, thL_rt, thL_er, num_nil, range_nil, o_isB, o_isNotB, a_dLenX, a_xCatV, a_catV, thC_ok, thD_ok, a_xLc, w_0, w_c, o_index, a_runX, a_runD, ixN, tg_ne, tg_bne, lookup_ne, lookup_eq, ne_eq, le_most, dr_big, in_big, Nat.zero_le, CPow, Int.zero_le_ofNat, Int.reduceAbs, Nat.reducePow, and_self, List.getElem?_cons_zero, List.getElem?_cons_succ, List.getElem?_nil, List.set_cons_zero, List.set_cons_succ, List.set_nil, Option.join_some, Option.join_none, Option.map_some, Option.map_none, Option.bind_some, Option.bind_none, ite_true, ite_false, if_true, if_false, List.length_cons, List.length_nil, List.map_cons, List.map_nil, List.cons_append, List.nil_append, List.append_nil, List.replicate, List.replicate_succ, List.replicate_zero, Nat.reduceAdd, Nat.reduceSub, Nat.reduceEqDiff, Nat.reduceLeDiff, Bool.false_eq_true, Bool.not_true, Bool.not_false, reduceCtorEq, decide_true, decide_false, beq_self_eq_true, Bool.and_true, Bool.true_and, Bool.or_false, Bool.false_or, Bool.true_or, Bool.or_true, Bool.and_false, Bool.false_and, Nat.zero_add, Nat.add_zero, reduceIte, bne_self_eq_false, Option.some.injEq, List.contains_cons, List.contains_nil, Nat.reduceBEq, Nat.reduceBNe, Nat.reduceLT, Int.reduceEq, Int.reduceLT, Int.reduceLE, Int.reduceAdd, Int.reduceSub, Int.reduceMul, Int.reduceNeg, Int.reducePow, Int.reduceToNat, not_true_eq_false, not_false_eq_true, true_and, and_true, eq_self, decide_not, Bool.not_not, List.isEmpty_cons, List.lookup_nil, List.isEmpty_nil, Int.cast_ofNat_Int, Bool.not_eq_true, decide_eq_true_eq, Bool.not_eq_eq_eq_not, decide_eq_false_iff_not, Nat.reduceMod, Option.isSome_some, Option.isSome_none, List.drop_succ_cons, List.drop_zero, List.take_succ_cons, List.take_zero, List.isEmpty_iff, String.reduceEq, gt_iff_lt, ge_iff_le, k_INTEGER, k_ITEMS, k_KIND_cells, k_KIND_operators, k_NONE, k_RUN_CHARACTERS, fn_0, fn_1, fn_2, fn_3, fn_4, fn_5, fn_6, fn_7, fn_8, fn_9, fn_10, fn_11, fn_12, fn_13, fn_14, fn_15, fn_16, fn_17, fn_18, fn_19, fn_20, fn_21, fn_22, fn_23, fn_24, fn_25, fn_26, fn_27, fn_28, fn_29, fn_30, fn_31, fn_32, fn_33, fn_34, fn_35, fn_36, fn_37, tg_0, ln_0, tg_1, ln_1, tg_2, ln_2, tg_3, ln_3, tg_4, ln_4, tg_5, ln_5, tg_6, ln_6, tg_7, ln_7, tg_8, ln_8, tg_9, ln_9, tg_10, ln_10, tg_11, ln_11, tg_12, ln_12, tg_13, ln_13, tg_14, ln_14, tg_15, ln_15, tg_16, ln_16, tg_17, ln_17, tg_18, ln_18, tg_19, ln_19, tg_20, ln_20, tg_21, ln_21, tg_22, ln_22, tg_23, ln_23, tg_24, ln_24, tg_25, ln_25, tg_26, ln_26, tg_27, ln_27, tg_28, ln_28, tg_29, ln_29, tg_30, ln_30, tg_31, ln_31, tg_32, ln_32, tg_33, ln_33, tg_34, ln_34, tg_35, ln_35, tg_36, ln_36, tg_37, ln_37, tg_38, ln_38, tg_39, ln_39, tg_40, ln_40, tg_41, ln_41, tg_42, ln_42, tg_43, ln_43, tg_44, ln_44, tg_45, ln_45, tg_46, ln_46, tg_47, ln_47, tg_48, ln_48, tg_49, ln_49, tg_50, ln_50, tg_51, ln_51, tg_52, ln_52, tg_53, ln_53, tg_54, ln_54, tg_55, ln_55, tg_56, ln_56, tg_57, ln_57, tg_58, ln_58, tg_59, ln_59, tg_60, ln_60, tg_61, ln_61, tg_62, ln_62, tg_63, ln_63, tg_64, ln_64, tg_65, ln_65, tg_66, ln_66, tg_67, ln_67, tg_68, ln_68, tg_69, ln_69, tg_70, ln_70, tg_71, ln_71, tg_72, ln_72, tg_73, ln_73, tg_74, ln_74, tg_75, ln_75, tg_76, ln_76] at f1
    exact f1
theorem digits_eq (ns : List Int) (hb : ∀ z ∈ ns, Builtin.Int.intBits z ≤ 1048576) : ∃ ds : List Int, m__law_digits [.scr ns, .imm (.int 0), .imm (.int 63)] = some (.ok (LI ds) [.scr ns, .imm (.int 0), .imm (.int 63)]) := by
  unfold m__law_digits b__law_digits
  simpa []
  obtain ⟨ρ', h1, ds', d', e', f', g', rfl, h2⟩ := range_inv (k := 4) (mb := l3__law_digits) (fun j ρ => ∃ ds' d' e' f' g', ρ = [some (.scr ns), some (.imm (.int 0)), some (.imm (.int 63)), some (LI ds'), d', e', f', g'] ∧ ds'.length ≤ 60 * j) 0 63 [some (M.scr ns), some (M.imm (PyData.int 0)), some (M.imm (PyData.int 63)), some (M.lst []), none, none, none, none] ⟨[], _, _, _, _, rfl, Nat.le_refl _⟩ (fun j ρ hj hp => by
    obtain ⟨ds', d', e', f', g', rfl, h2⟩ := hp
    exact dig_3 hb _ _ j hj ds' d' e' f' g' h2)
  simpa [ h1]
  exact ⟨_, rfl⟩

theorem number_eq (ds : List Int) (k : Nat) : ∃ (z : Int) (k' : Nat), m__law_number [BX ds k] = some (.ok (.imm (.int z)) [BX ds k']) ∧ z.natAbs < 10 ^ 60 := by
  unfold m__law_number b__law_number
  have d0 : ∀ k, 0 ≤ dr ds k 1000 := fun k => dr_nn ds k (by decide)
  have d1 : ∀ k, dr ds k 1000 < 1000 := fun k => dr_lt ds k (by decide)
  have h3 : ∀ a : Int, 0 ≤ a.fmod 3 ∧ a.fmod 3 < 3 := fun a => ⟨Int.fmod_nonneg_of_pos _ (by decide), Int.fmod_lt_of_pos _ (by decide)⟩
  have m1 : ∀ a, CMulX (dr ds a 1000) 1000000000000000000000000000 := fun a => mulX_nat (by have := d0 a; have := d1 a; omega) (by decide)
  have m2 : ∀ a, CMulX (dr ds a 1000) 1000000000000 := fun a => mulX_nat (by have := d0 a; have := d1 a; omega) (by decide)
  have m3 : ∀ a, CMulX (dr ds a 1000) 10000000000000000000000000000 := fun a => mulX_nat (by have := d0 a; have := d1 a; omega) (by decide)
  have e0 := d0 (k + 1)
  have e1 := d1 (k + 1)
  have e2 := d0 (k + 1 + 1)
  have e3 := d1 (k + 1 + 1)
  have e4 := d0 (k + 1 + 1 + 1)
  have e5 := d1 (k + 1 + 1 + 1)
  have e6 := h3 (dr ds (k + 1) 1000)
  simpa [ draw_eq]
  by_cases c0 : dr ds k 8 = 0
  · simpa [ draw_eq, c0]
    exact ⟨_, _, rfl, by omega⟩
  by_cases c1 : dr ds k 8 = 1
  · simpa [ draw_eq, c1]
    exact ⟨_, _, rfl, by omega⟩
  by_cases c2 : dr ds k 8 = 2
  · simpa [ draw_eq, c2, if_pos (m1 _), if_pos (m2 _)]
    exact ⟨_, _, rfl, by omega⟩
  by_cases c3 : dr ds k 8 = 3
  · simpa [ draw_eq, c3, if_pos (m3 _)]
    exact ⟨_, _, rfl, by omega⟩
  by_cases c4 : dr ds k 8 = 4
  · simpa [ draw_eq, c4]
    exact ⟨_, _, rfl, by omega⟩
  by_cases c5 : dr ds k 8 = 5
  · simpa [ draw_eq, c5]
    exact ⟨_, _, rfl, by omega⟩
  · simpa [ draw_eq, c0, c1, c2, c3, c4, c5]
    exact ⟨_, _, rfl, by omega⟩
noncomputable def numV (ds : List Int) (k : Nat) : Int := (number_eq ds k).choose
noncomputable def numK (ds : List Int) (k : Nat) : Nat := (number_eq ds k).choose_spec.choose
theorem number_rw (ds : List Int) (k : Nat) : m__law_number [BX ds k] = some (.ok (.imm (.int (numV ds k))) [BX ds (numK ds k)]) := (number_eq ds k).choose_spec.choose_spec.1
theorem number_lt (ds : List Int) (k : Nat) : (numV ds k).natAbs < 10 ^ 60 := (number_eq ds k).choose_spec.choose_spec.2

/-- a text as it may stand in a value -/
def txtOk (z : Str) : Prop := z.length ≤ 200 ∧ z.cps.all (· < 0x110000) = true
theorem str_at2 (s : Str) (z : Int) (h0 : 0 ≤ z) (h1 : z < s.length) (hs : s.cps.all (· < 0x110000) = true) : ∃ c, atI s.cps.toList z = some c ∧ c < 0x110000 := by
  have h2 : s.cps.toList.length = s.length := by
    rw [Array.length_toList]
    rfl
  have hj : z.toNat < s.cps.toList.length := by omega
  have := at_n (xs := s.cps.toList) (j := z.toNat) (z := z) hj (by omega)
  refine ⟨_, this, ?_⟩
  rw [Array.all_eq_true'] at hs
  have h3 := hs _ (Array.mem_def.mpr (List.getElem_mem hj))
  simpa using h3
theorem all_app {a b : Str} (ha : a.cps.all (· < 0x110000) = true) (hb : b.cps.all (· < 0x110000) = true) : (a ++ b).cps.all (· < 0x110000) = true := by
  show (a.cps ++ b.cps).all (· < 0x110000) = true
  rw [Array.all_append, ha, hb]
  rfl
theorem all_one {c : Nat} (h : c < 0x110000) : (Str.mk #[c]).cps.all (· < 0x110000) = true := by simp [h]
theorem all_rep {c : Nat} (h : c < 0x110000) (n : Nat) : (mkS (List.replicate n [c]).flatten).cps.all (· < 0x110000) = true := by
  rw [Array.all_eq_true']
  intro x hx
  have hx2 : x ∈ (List.replicate n [c]).flatten := by simpa using hx
  obtain ⟨l, hl, hm⟩ := List.mem_flatten.mp hx2
  rw [List.eq_of_mem_replicate hl] at hm
  simp only [List.mem_cons, List.not_mem_nil, or_false] at hm
  subst hm
  simpa using h
theorem text_step (ds : List Int) (k : Nat) (x SG : Str) (n : Int) (hS : SG.length = 95) (hA : SG.cps.all (· < 0x110000) = true) (f : Option M) (hx : x.length ≤ n) (hn : n ≤ 1000) (hxa : x.cps.all (· < 0x110000) = true) : ∃ (z : Str) (k' : Nat), l1__law_text [some (BX ds k), some (.imm (.int n)), some (.imm (.str SG)), some (.imm (.str x)), f] = some (.ok .nx [some (BX ds k'), some (.imm (.int n)), some (.imm (.str SG)), some (.imm (.str z)), f]) ∧ z.length ≤ n ∧ z.cps.all (· < 0x110000) = true := by
  have h0 : 0 ≤ dr ds k 95 := dr_nn ds k (by decide)
  have h1 : dr ds k 95 < 95 := dr_lt ds k (by decide)
  obtain ⟨c, hc, hc2⟩ := str_at2 SG (dr ds k 95) h0 (by omega) hA
  unfold l1__law_text
  have hx' : x.length ≤ 1000000 := by omega
  have hS' : SG.length ≤ 1000000 := by omega
  have h1' : (Str.mk #[c]).length = 1 := rfl
  simpa [ if_pos hx', if_pos hS']
  by_cases h : (x.length : Int) < n
  · have hy : x.length ≤ 999999 := by omega
    simpa [ h, draw_eq, hc, hS', h1', hy]
    refine ⟨_, _, rfl, ?_, all_app hxa (all_one hc2)⟩
    rw [app_len, h1']
    omega
  · simpa [ if_neg h]
    exact ⟨_, _, rfl, hx, hxa⟩
theorem text_eq (ds : List Int) (k : Nat) : ∃ (z : Str) (k' : Nat), m__law_text [BX ds k, .imm (.int 200)] = some (.ok (.imm (.str z)) [BX ds k', .imm (.int 200)]) ∧ txtOk z := by
  have hl : (Str.ofString " !\"#$&'()*+,-./0123456789:;<=>?@ABCDEFGHIJKLMNOPQRSTUVWXYZ[\\]^_`" ++ Str.ofString "abcdefghijklmnopqrstuvwxyz{|}~\n").length = 95 := by decide +kernel
  have hA : (Str.ofString " !\"#$&'()*+,-./0123456789:;<=>?@ABCDEFGHIJKLMNOPQRSTUVWXYZ[\\]^_`" ++ Str.ofString "abcdefghijklmnopqrstuvwxyz{|}~\n").cps.all (· < 0x110000) = true := by decide +kernel
  unfold m__law_text b__law_text
  simpa [ draw_eq]
  generalize (Str.ofString " !\"#$&'()*+,-./0123456789:;<=>?@ABCDEFGHIJKLMNOPQRSTUVWXYZ[\\]^_`" ++ Str.ofString "abcdefghijklmnopqrstuvwxyz{|}~\n") = SG at hl hA ⊢
  have hS' : SG.length ≤ 1000000 := by omega
  have rest : ∀ (x : Str) (k : Nat), txtOk x → ∃ (ρ : Env') (z : Str) (k' : Nat), loopM (Pt.nm 4) l1__law_text (rangeL 0 (dr ds k 4).toNat) [some (BX ds (k + 1)), some (.imm (.int 200)), some (.imm (.str SG)), some (.imm (.str x)), none] = some (.ok .nx ρ) ∧ (∃ f, ρ = [some (BX ds k'), some (.imm (.int 200)), some (.imm (.str SG)), some (.imm (.str z)), f]) ∧ txtOk z := by
    intro x k hx
    obtain ⟨ρ', h1, z, k', f, h2, h3⟩ := range_inv (k := 4) (mb := l1__law_text) (fun j ρ => ∃ z k' f, ρ = [some (BX ds k'), some (.imm (.int 200)), some (.imm (.str SG)), some (.imm (.str z)), f] ∧ txtOk z) 0 (dr ds k 4).toNat _ ⟨x, k + 1, none, rfl, hx⟩ (fun j ρ hj hp => by
      obtain ⟨z, k', f, rfl, h⟩ := hp
      obtain ⟨z2, k2, e, h'⟩ := text_step ds k' z SG 200 hl hA (some (.imm (.int (0 + (j : Nat))))) (by have := h.1; omega) (by decide) h.2
      simpa []
      exact ⟨_, e, z2, k2, _, rfl, by have := h'.1; omega, h'.2⟩)
    exact ⟨ρ', z, k', h1, ⟨f, h2⟩, h3⟩
  by_cases c : dr ds k 4 = 0
  · have h0 : 0 ≤ dr ds (k + 1) 95 := dr_nn ds _ (by decide)
    have h1 : dr ds (k + 1) 95 < 95 := dr_lt ds _ (by decide)
    have g0 : 0 ≤ dr ds (k + 1 + 1) 201 := dr_nn ds _ (by decide)
    have g1 : dr ds (k + 1 + 1) 201 < 201 := dr_lt ds _ (by decide)
    obtain ⟨c', hc, hc2⟩ := str_at2 SG (dr ds (k + 1) 95) h0 (by omega) hA
    have g2 : dr ds (k + 1 + 1) 201 ≤ 1000 := by omega
    obtain ⟨ρ, z, k', h3, ⟨f, rfl⟩, h4⟩ := rest (mkS (List.replicate (dr ds (k + 1 + 1) 201).toNat [c']).flatten) (k + 1 + 1 + 1) ⟨(by rw [mk_len, rep_len]; simp only [List.length_cons, List.length_nil]; omega), all_rep hc2 _⟩
    have h5 : (Str.mk #[c']).length = 1 := rfl
    simpa [ draw_eq, c, hc, hS', g0, g2, h3, h5]
    exact ⟨_, _, rfl, h4⟩
  · obtain ⟨ρ, z, k', h3, ⟨f, rfl⟩, h4⟩ := rest (Str.ofString "") (k + 1) ⟨by decide, by decide +kernel⟩
    simpa [ draw_eq, c, h3]
    exact ⟨_, _, rfl, h4⟩

/-! ### values, objects, entries, as data -/
structure Ob where
  task : List Int
  n : Int
def Ob.D (o : Ob) : PyData := .tuple [.str "object", .tuple (o.task.map .int), .int o.n]
def Ob.ok (o : Ob) : Prop := o.task.length ≤ 2
inductive Vl where
  | non
  | bl (b : Bool)
  | text (s : Str)
  | ob (o : Ob)
  | int (z : Int)
def Vl.D : Vl → PyData
  | .non => .tuple [.str "none"]
  | .bl b => .tuple [.str "bool", .bool b]
  | .text s => .tuple [.str "text", .str s]
  | .ob o => o.D
  | .int z => .tuple [.str "int", .int z]
def Vl.ok : Vl → Prop
  | .text s => txtOk s
  | .ob o => o.ok
  | .int z => z.natAbs < 10 ^ 60
  | _ => True
inductive En where
  | call (a : Int) (o : Ob)
  | guard (a : Int) (o : Ob)
  | loop (a : Int)
  | count (a i j : Int)
  | cut
def En.D : En → PyData
  | .call a o => .tuple [.str "call", .int a, o.D]
  | .guard a o => .tuple [.str "guard", .int a, o.D]
  | .loop a => .tuple [.str "loop", .int a]
  | .count a i j => .tuple [.str "count", .int a, .int i, .int j]
  | .cut => .tuple [.str "cut"]
def En.ok : En → Prop
  | .call a o => o.ok ∧ 0 ≤ a ∧ a < 1000
  | .guard a o => o.ok ∧ 0 ≤ a ∧ a < 1000
  | .loop a => 0 ≤ a ∧ a < 1000
  | .count a i j => (0 ≤ a ∧ a < 1000) ∧ (-4 ≤ i ∧ i ≤ 4) ∧ -4 ≤ j ∧ j ≤ 4
  | .cut => True
/-- a loop that draws a task -/
theorem nat_of {z : Int} {b : Nat} (h0 : 0 ≤ z) (h1 : z < b) : z.toNat < b := by omega
theorem obj_eq (ds : List Int) (k : Nat) : ∃ (o : Ob) (k' : Nat), m__law_object [BX ds k] = some (.ok (.imm o.D) [BX ds k']) ∧ o.ok := by
  have h0 : 0 ≤ dr ds k 3 := dr_nn ds _ (by decide)
  have h1 : dr ds k 3 < 3 := dr_lt ds _ (by decide)
  obtain ⟨ρ, h2, t, k', f, rfl, h3⟩ := range_inv (k := 2) (mb := l1__law_object) (fun j ρ => ∃ (t : List Int) (k' : Nat) (f : Option M), ρ = [some (BX ds k'), some (.imm (.tuple (t.map .int))), f] ∧ t.length = j) 0 (dr ds k 3).toNat [some (BX ds (k + 1)), some (.imm (.tuple [])), none] ⟨[], k + 1, none, rfl, rfl⟩ (fun j ρ hj hp => by
    obtain ⟨t, k', f, rfl, h⟩ := hp
    unfold l1__law_object
    have h4 : (t.map PyData.int).length ≤ 999999 := by rw [List.length_map]; omega
    simpa [ draw_eq, h4]
    exact ⟨_, rfl, t ++ [dr ds k' 3], _, _, (by rw [List.map_append]; rfl), (by rw [List.length_append, h]; rfl)⟩)
  unfold m__law_object b__law_object
  simpa [ draw_eq, h2]
  exact ⟨⟨t, _⟩, _, rfl, by show t.length ≤ 2; omega⟩
noncomputable def obV (ds : List Int) (k : Nat) : Ob := (obj_eq ds k).choose
noncomputable def obK (ds : List Int) (k : Nat) : Nat := (obj_eq ds k).choose_spec.choose
theorem obj_rw (ds : List Int) (k : Nat) : m__law_object [BX ds k] = some (.ok (.imm (obV ds k).D) [BX ds (obK ds k)]) := (obj_eq ds k).choose_spec.choose_spec.1
theorem obj_ok (ds : List Int) (k : Nat) : (obV ds k).ok := (obj_eq ds k).choose_spec.choose_spec.2
noncomputable def txV (ds : List Int) (k : Nat) : Str := (text_eq ds k).choose
noncomputable def txK (ds : List Int) (k : Nat) : Nat := (text_eq ds k).choose_spec.choose
theorem text_rw (ds : List Int) (k : Nat) : m__law_text [BX ds k, .imm (.int 200)] = some (.ok (.imm (.str (txV ds k))) [BX ds (txK ds k), .imm (.int 200)]) := (text_eq ds k).choose_spec.choose_spec.1
theorem text_ok (ds : List Int) (k : Nat) : txtOk (txV ds k) := (text_eq ds k).choose_spec.choose_spec.2
theorem value_eq (ds : List Int) (k : Nat) : ∃ (v : Vl) (k' : Nat), m__law_value [BX ds k] = some (.ok (.imm v.D) [BX ds k']) ∧ v.ok := by
  unfold m__law_value b__law_value
  by_cases c0 : dr ds k 6 = 0
  · simpa [ draw_eq, c0]
    exact ⟨.non, _, rfl, True.intro⟩
  by_cases c1 : dr ds k 6 = 1
  · simpa [ draw_eq, c1]
    exact ⟨.bl (decide (dr ds (k + 1) 2 = 1)), _, rfl, True.intro⟩
  by_cases c2 : dr ds k 6 = 2
  · simpa [ draw_eq, c2, text_rw]
    exact ⟨.text (txV ds (k + 1)), _, rfl, text_ok ds (k + 1)⟩
  by_cases c3 : dr ds k 6 = 3
  · have h0 : 0 ≤ dr ds (k + 1) 3 := dr_nn ds _ (by decide)
    have h1 : dr ds (k + 1) 3 < 3 := dr_lt ds _ (by decide)
    obtain ⟨ρ, h2, t, k', f, rfl, h3⟩ := range_inv (k := 3) (mb := l1__law_value) (fun j ρ => ∃ (t : List Int) (k' : Nat) (f : Option M), ρ = [some (BX ds k'), some (.imm (.int 3)), some (.imm (.tuple (t.map .int))), f] ∧ t.length = j) 0 (dr ds (k + 1) 3).toNat [some (BX ds (k + 1 + 1)), some (.imm (.int 3)), some (.imm (.tuple [])), none] ⟨[], k + 1 + 1, none, rfl, rfl⟩ (fun j ρ hj hp => by
      obtain ⟨t, k', f, rfl, h⟩ := hp
      unfold l1__law_value
      have h4 : (t.map PyData.int).length ≤ 999999 := by rw [List.length_map]; omega
      simpa [ draw_eq, h4]
      exact ⟨_, rfl, t ++ [dr ds k' 3], _, _, (by rw [List.map_append]; rfl), (by rw [List.length_append, h]; rfl)⟩)
    simpa [ draw_eq, c3, h2]
    exact ⟨.ob ⟨t, _⟩, _, rfl, by show t.length ≤ 2; omega⟩
  · simpa [ draw_eq, c0, c1, c2, c3, number_rw]
    exact ⟨.int (numV ds (k + 1)), _, rfl, number_lt ds (k + 1)⟩
noncomputable def vlV (ds : List Int) (k : Nat) : Vl := (value_eq ds k).choose
noncomputable def vlK (ds : List Int) (k : Nat) : Nat := (value_eq ds k).choose_spec.choose
theorem value_rw (ds : List Int) (k : Nat) : m__law_value [BX ds k] = some (.ok (.imm (vlV ds k).D) [BX ds (vlK ds k)]) := (value_eq ds k).choose_spec.choose_spec.1
theorem value_ok (ds : List Int) (k : Nat) : (vlV ds k).ok := (value_eq ds k).choose_spec.choose_spec.2
theorem entry_eq (ds : List Int) (k : Nat) : ∃ (v : En) (k' : Nat), m__law_entry [BX ds k] = some (.ok (.imm v.D) [BX ds k']) ∧ v.ok := by
  unfold m__law_entry b__law_entry
  have h0 : 0 ≤ dr ds (k + 1) 1000 := dr_nn ds _ (by decide)
  have h1 : dr ds (k + 1) 1000 < 1000 := dr_lt ds _ (by decide)
  have g0 : 0 ≤ dr ds (k + 1 + 1) 9 := dr_nn ds _ (by decide)
  have g1 : dr ds (k + 1 + 1) 9 < 9 := dr_lt ds _ (by decide)
  have i0 : 0 ≤ dr ds (k + 1 + 1 + 1) 9 := dr_nn ds _ (by decide)
  have i1 : dr ds (k + 1 + 1 + 1) 9 < 9 := dr_lt ds _ (by decide)
  by_cases c0 : dr ds k 7 = 0
  · simpa [ draw_eq, c0, obj_rw]
    exact ⟨.call _ (obV ds (k + 1 + 1)), _, rfl, obj_ok ds (k + 1 + 1), h0, h1⟩
  by_cases c1 : dr ds k 7 = 1
  · simpa [ draw_eq, c1, obj_rw]
    exact ⟨.guard _ (obV ds (k + 1 + 1)), _, rfl, obj_ok ds (k + 1 + 1), h0, h1⟩
  by_cases c2 : dr ds k 7 = 2
  · simpa [ draw_eq, c2]
    exact ⟨.loop _, _, rfl, h0, h1⟩
  by_cases c3 : dr ds k 7 = 3
  · simpa [ draw_eq, c3]
    exact ⟨.count _ _ _, _, rfl, ⟨h0, h1⟩, ⟨by omega, by omega⟩, by omega, by omega⟩
  · simpa [ draw_eq, c0, c1, c2, c3]
    exact ⟨.cut, _, rfl, True.intro⟩
noncomputable def enV (ds : List Int) (k : Nat) : En := (entry_eq ds k).choose
noncomputable def enK (ds : List Int) (k : Nat) : Nat := (entry_eq ds k).choose_spec.choose
theorem entry_rw (ds : List Int) (k : Nat) : m__law_entry [BX ds k] = some (.ok (.imm (enV ds k).D) [BX ds (enK ds k)]) := (entry_eq ds k).choose_spec.choose_spec.1
theorem entry_ok (ds : List Int) (k : Nat) : (enV ds k).ok := (entry_eq ds k).choose_spec.choose_spec.2

theorem control_eq (ds : List Int) (k : Nat) : ∃ (c : List En) (k' : Nat), m__law_control [BX ds k] = some (.ok (.imm (.tuple (c.map En.D))) [BX ds k']) ∧ c.length ≤ 28 ∧ ∀ e ∈ c, e.ok := by
  have h0 : 0 ≤ dr ds k 16 := dr_nn ds _ (by decide)
  have h1 : dr ds k 16 < 16 := dr_lt ds _ (by decide)
  obtain ⟨ρ, h2, t, k', f, rfl, h3, h4⟩ := range_inv (k := 3) (mb := l1__law_control) (fun j ρ => ∃ (t : List En) (k' : Nat) (f : Option M), ρ = [some (BX ds k'), some (.imm (.tuple (t.map En.D))), some (.imm (.int (dr ds k 16))), f] ∧ t.length = j ∧ ∀ e ∈ t, e.ok) 0 (dr ds k 16).toNat [some (BX ds (k + 1)), some (.imm (.tuple [])), some (.imm (.int (dr ds k 16))), none] ⟨[], k + 1, none, rfl, rfl, by simp⟩ (fun j ρ hj hp => by
    obtain ⟨t, k', f, rfl, h, ho⟩ := hp
    unfold l1__law_control
    have h4 : (t.map En.D).length ≤ 999999 := by rw [List.length_map]; omega
    simpa [ entry_rw, h4]
    refine ⟨_, rfl, t ++ [enV ds k'], _, _, (by rw [List.map_append]; rfl), (by rw [List.length_append, h]; rfl), fun e he => ?_⟩
    rcases List.mem_append.mp he with he | he
    · exact ho e he
    · simp only [List.mem_cons, List.not_mem_nil, or_false] at he
      subst he
      exact entry_ok _ _)
  unfold m__law_control b__law_control
  simpa [ draw_eq, h2]
  by_cases c : dr ds k' 4 = 0
  · have g0 : 0 ≤ dr ds (k' + 1) 5 := dr_nn ds _ (by decide)
    have g1 : dr ds (k' + 1) 5 < 5 := dr_lt ds _ (by decide)
    have g2 : -4611686018427387904 ≤ 9 + dr ds (k' + 1) 5 ∧ 9 + dr ds (k' + 1) 5 < 4611686018427387904 := ⟨by omega, by omega⟩
    obtain ⟨ρ, i2, u, f', rfl, i3, i4⟩ := range_inv (k := 3) (mb := l2__law_control) (fun j ρ => ∃ (u : List En) (f : Option M), ρ = [some (BX ds (k' + 1 + 1)), some (.imm (.tuple (u.map En.D))), some (.imm (.int (dr ds k 16))), f] ∧ u.length = t.length + j ∧ ∀ e ∈ u, e.ok) 0 (9 + dr ds (k' + 1) 5).toNat [some (BX ds (k' + 1 + 1)), some (.imm (.tuple (t.map En.D))), some (.imm (.int (dr ds k 16))), f] ⟨t, f, rfl, rfl, h4⟩ (fun j ρ hj hp => by
      obtain ⟨u, f, rfl, h, ho⟩ := hp
      unfold l2__law_control
      have h4 : (u.map En.D).length ≤ 999999 := by rw [List.length_map]; omega
      simpa [ h4]
      refine ⟨_, rfl, u ++ [.call (0 + (j : Nat)) ⟨[0 + (j : Nat)], 0⟩], _, (by rw [List.map_append]; rfl), (by rw [List.length_append, h]; rfl), fun e he => ?_⟩
      rcases List.mem_append.mp he with he | he
      · exact ho e he
      · simp only [List.mem_cons, List.not_mem_nil, or_false] at he
        subst he
        exact ⟨(show (1 : Nat) ≤ 2 by decide), by omega, by omega⟩)
    simpa [ c, draw_eq, g2, i2]
    exact ⟨u, _, rfl, by omega, i4⟩
  · simpa [ c]
    exact ⟨t, _, rfl, by omega, h4⟩
noncomputable def ctV (ds : List Int) (k : Nat) : List En := (control_eq ds k).choose
noncomputable def ctK (ds : List Int) (k : Nat) : Nat := (control_eq ds k).choose_spec.choose
theorem control_rw (ds : List Int) (k : Nat) : m__law_control [BX ds k] = some (.ok (.imm (.tuple ((ctV ds k).map En.D))) [BX ds (ctK ds k)]) := (control_eq ds k).choose_spec.choose_spec.1
theorem control_ok (ds : List Int) (k : Nat) : (ctV ds k).length ≤ 28 ∧ ∀ e ∈ ctV ds k, e.ok := (control_eq ds k).choose_spec.choose_spec.2
/-- a local state -/
structure Lo where
  ad : Int
  op : List Vl
  fr : Ob
  tp : Ob
  ct : List En
def Lo.D (s : Lo) : PyData := .tuple [.int s.ad, .tuple (s.op.map Vl.D), s.fr.D, s.tp.D, .tuple (s.ct.map En.D)]
structure Lo.ok (s : Lo) : Prop where
  op : ∀ v ∈ s.op, v.ok
  fr : s.fr.ok
  tp : s.tp.ok
  ct : ∀ e ∈ s.ct, e.ok
  lc : s.ct.length ≤ 28
theorem local_eq (ds : List Int) (k : Nat) (a : Int) (op : List Vl) (ho : ∀ v ∈ op, v.ok) (hl : op.length ≤ 1000) : ∃ (s : Lo) (k' : Nat), m__law_local [BX ds k, .imm (.int a), .imm (.tuple (op.map Vl.D))] = some (.ok (.imm s.D) [BX ds k', .imm (.int a), .imm (.tuple (op.map Vl.D))]) ∧ s.ok ∧ s.ad = a ∧ ∃ t, s.op = op ++ t ∧ t.length ≤ 2 := by
  have h0 : 0 ≤ dr ds k 3 := dr_nn ds _ (by decide)
  have h1 : dr ds k 3 < 3 := dr_lt ds _ (by decide)
  obtain ⟨ρ, h2, t, k', f, rfl, h3, h4⟩ := range_inv (k := 3) (mb := l1__law_local) (fun j ρ => ∃ (t : List Vl) (k' : Nat) (f : Option M), ρ = [some (BX ds k'), some (.imm (.int a)), some (.imm (.tuple ((op ++ t).map Vl.D))), f] ∧ t.length = j ∧ ∀ e ∈ t, e.ok) 0 (dr ds k 3).toNat [some (BX ds (k + 1)), some (.imm (.int a)), some (.imm (.tuple (op.map Vl.D))), none] ⟨[], k + 1, none, by rw [List.append_nil], rfl, by simp⟩ (fun j ρ hj hp => by
    obtain ⟨t, k', f, rfl, h, ho⟩ := hp
    unfold l1__law_local
    have h4 : ((op ++ t).map Vl.D).length ≤ 999999 := by rw [List.length_map, List.length_append]; omega
    simpa [ value_rw, h4]
    refine ⟨_, rfl, t ++ [vlV ds k'], _, _, (by rw [← List.append_assoc, List.map_append (l₁ := op ++ t)]; rfl), (by rw [List.length_append, h]; rfl), fun e he => ?_⟩
    rcases List.mem_append.mp he with he | he
    · exact ho e he
    · simp only [List.mem_cons, List.not_mem_nil, or_false] at he
      subst he
      exact value_ok _ _)
  unfold m__law_local b__law_local
  simpa [ draw_eq, h2, obj_rw, control_rw]
  refine ⟨⟨a, op ++ t, _, _, _⟩, _, rfl, ⟨fun v hv => ?_, obj_ok _ _, obj_ok _ _, (control_ok _ _).2, (control_ok _ _).1⟩, rfl, t, rfl, by omega⟩
  rcases List.mem_append.mp hv with hv | hv
  · exact ho v hv
  · exact h4 v hv

/-- data as it may be compared -/
def okD : Nat → PyData → Bool
  | _, .none => true
  | _, .bool _ => true
  | _, .int _ => true
  | _, .str _ => true
  | n + 1, .tuple ds => decide (ds.length ≤ 1000) && ds.all (okD n)
  | _, _ => false
theorem same_n (n : Nat) : m__law_same (n + 1) [.none, .none] = some (.bool true) := by
  unfold m__law_same b__law_same
  simpa []
theorem same_b (n : Nat) (b : Bool) : m__law_same (n + 1) [.bool b, .bool b] = some (.bool true) := by
  unfold m__law_same b__law_same
  simpa []
theorem same_i (n : Nat) (b : Int) : m__law_same (n + 1) [.int b, .int b] = some (.bool true) := by
  unfold m__law_same b__law_same
  simpa []
theorem same_s (n : Nat) (b : Str) : m__law_same (n + 1) [.str b, .str b] = some (.bool true) := by
  unfold m__law_same b__law_same
  simpa []
theorem same_t (n : Nat) (ds : List PyData) (hl : ds.length ≤ 1000) (ha : ∀ d ∈ ds, m__law_same n [d, d] = some (.bool true)) : m__law_same (n + 1) [.tuple ds, .tuple ds] = some (.bool true) := by
  have hb : -4611686018427387904 ≤ (ds.length : Int) ∧ (ds.length : Int) < 4611686018427387904 := ⟨by omega, by omega⟩
  obtain ⟨ρ, h2, f, rfl⟩ := range_inv (k := 2) (mb := l1__law_same (m__law_same n)) (fun j ρ => ∃ (f : Option M), ρ = [some (.imm (.tuple ds)), some (.imm (.tuple ds)), f]) 0 ds.length [some (.imm (.tuple ds)), some (.imm (.tuple ds)), none] ⟨none, rfl⟩ (fun j ρ hj hp => by
    obtain ⟨f, rfl⟩ := hp
    unfold l1__law_same
    have e := at_n (xs := ds) (j := j) (z := 0 + (j : Int)) hj (by omega)
    simpa [ e, ha _ (List.getElem_mem hj)]
    exact ⟨_, rfl, _, rfl⟩)
  unfold m__law_same b__law_same
  have hb' : ((ds.length : Int)).toNat = ds.length := by omega
  simpa [ hb, h2, hb']
theorem same_refl (n : Nat) : ∀ (d : PyData), okD n d = true → m__law_same (n + 1) [d, d] = some (.bool true) := by
  induction n with
  | zero =>
    intro d h
    cases d with
    | none => exact same_n 0
    | bool b => exact same_b 0 b
    | int b => exact same_i 0 b
    | str b => exact same_s 0 b
    | tuple ds => simp [okD] at h
    | list ds => simp [okD] at h
    | dict ds => simp [okD] at h
  | succ n ih =>
    intro d h
    cases d with
    | none => exact same_n _
    | bool b => exact same_b _ b
    | int b => exact same_i _ b
    | str b => exact same_s _ b
    | tuple ds =>
      simp only [okD, Bool.and_eq_true, decide_eq_true_eq, List.all_eq_true] at h
      exact same_t _ ds h.1 fun d hd => ih d (h.2 d hd)
    | list ds => simp [okD] at h
    | dict ds => simp [okD] at h

theorem okD_ob {n : Nat} {o : Ob} (h : o.ok) : okD (n + 2) o.D = true := by
  have h' : o.task.length ≤ 1000 := Nat.le_trans h (by decide)
  simp [Ob.D, okD, List.all_map, Function.comp_def, h']
theorem okD_vl {n : Nat} {v : Vl} (h : v.ok) : okD (n + 2) v.D = true := by
  cases v with
  | ob o => exact okD_ob h
  | _ => simp [Vl.D, okD]
theorem okD_en {n : Nat} {v : En} (h : v.ok) : okD (n + 3) v.D = true := by
  cases v with
  | call a o => simp [En.D, okD, okD_ob h.1]
  | guard a o => simp [En.D, okD, okD_ob h.1]
  | _ => simp [En.D, okD]
theorem okD_vls {n : Nat} {vs : List Vl} (h : ∀ v ∈ vs, v.ok) (hl : vs.length ≤ 1000) : okD (n + 3) (.tuple (vs.map Vl.D)) = true := by
  simp only [okD, List.length_map, hl, decide_true, Bool.true_and, List.all_eq_true, List.mem_map]
  rintro d ⟨v, hv, rfl⟩
  exact okD_vl (h v hv)
theorem okD_ens {n : Nat} {vs : List En} (h : ∀ v ∈ vs, v.ok) (hl : vs.length ≤ 1000) : okD (n + 4) (.tuple (vs.map En.D)) = true := by
  simp only [okD, List.length_map, hl, decide_true, Bool.true_and, List.all_eq_true, List.mem_map]
  rintro d ⟨v, hv, rfl⟩
  exact okD_en (h v hv)
theorem okD_5 {n : Nat} {a b c d e : PyData} (h1 : okD n a = true) (h2 : okD n b = true) (h3 : okD n c = true) (h4 : okD n d = true) (h5 : okD n e = true) : okD (n + 1) (.tuple [a, b, c, d, e]) = true := by
  simp [okD, h1, h2, h3, h4, h5]
theorem okD_lo {n : Nat} {s : Lo} (h : s.ok) (hl : s.op.length ≤ 1000) : okD (n + 5) s.D = true :=
  okD_5 (by simp [okD]) (okD_vls (n := n + 1) h.op hl) (okD_ob (n := n + 2) h.fr) (okD_ob (n := n + 2) h.tp) (okD_ens (n := n) h.ct (Nat.le_trans h.lc (by decide)))

/-! ### leaving -/
theorem okD_up {n : Nat} : ∀ {d : PyData}, okD n d = true → okD (n + 1) d = true := by
  induction n with
  | zero =>
    intro d h
    cases d <;> first | (simp [okD]; done) | (simp [okD] at h)
  | succ n ih =>
    intro d h
    cases d <;> first | (simp [okD]; done) | skip
    all_goals first
      | (simp [okD] at h; done)
      | (simp only [okD, Bool.and_eq_true, decide_eq_true_eq, List.all_eq_true] at h ⊢
         exact ⟨h.1, fun d hd => ih (h.2 d hd)⟩)
theorem cut_succ {α : Type} {xs : List α} {j : Nat} : cutL xs (some ((j : Int) + 1)) none = xs.drop (j + 1) := cut_nat (j := j + 1)
def En.tag : En → Str
  | .call _ _ => "call"
  | .guard _ _ => "guard"
  | .loop _ => "loop"
  | .count _ _ _ => "count"
  | .cut => "cut"
def En.isCut : En → Bool
  | .cut => true
  | _ => false
theorem En.D0 (e : En) : oIx e.D (.int 0) = some (.str e.tag) := by cases e <;> rfl
theorem En.cut_eq (e : En) : (e.tag = Str.ofString "cut") = (e.isCut = true) := by
  cases e <;> dsimp only [En.tag, En.isCut] <;> exact propext (by decide +kernel)
/-- the cuts passed, the entry that fits, the entries around it -/
def lv (f : En → Bool) : Int → List En → Int × Option En × List En
  | c, [] => (c, none, [])
  | c, e :: r => if f e then (c, some e, r) else lv f (if e.isCut then c + 1 else c) r
def optE : Option En → PyData
  | none => .none
  | some e => e.D
def lvD (x : Int × Option En × List En) : PyData := .tuple [.int x.1, optE x.2.1, .tuple (x.2.2.map En.D)]
theorem lv_none {f : En → Bool} : ∀ {r : List En} {c : Int}, (lv f c r).2.1 = none → (lv f c r).2.2 = []
  | [], _, _ => rfl
  | e :: r, c, h => by
    unfold lv at h ⊢
    split at h
    · cases h
    · rename_i hf
      rw [if_neg hf]
      exact lv_none h
theorem leave_loop (f : En → Bool) (fs : List PyData) (H : ∀ e : En, inB (.str e.tag) fs = some (f e)) (w : Option M) (all : List PyData) (hl : all.length ≤ 1000) : ∀ (r : List En) (j : Nat) (c : Int) (a b : Option M), all.drop j = r.map En.D → ∃ ρ', loopM (.tp [.nm 4, .nm 5]) l1_leave (numL j (r.map En.D)) [some (.imm (.tuple all)), w, some (.imm (.tuple fs)), some (.imm (.int c)), a, b] = some (.ok (if (lv f c r).2.1.isSome then .rt (.imm (lvD (lv f c r))) else .nx) ρ') ∧ ((lv f c r).2.1 = none → ∃ a' b', ρ' = [some (.imm (.tuple all)), w, some (.imm (.tuple fs)), some (.imm (.int (lv f c r).1)), a', b']) := by
  intro r
  induction r with
  | nil =>
    intro j c a b h
    exact ⟨_, rfl, fun _ => ⟨_, _, rfl⟩⟩
  | cons e r ih =>
    intro j c a b h
    have h' : all.drop (j + 1) = r.map En.D := by
      rw [← List.drop_drop, h]
      rfl
    rw [List.map_cons, num_cons, loop_cons]
    unfold l1_leave
    unfold lv
    simpa [ En.D0, H]
    by_cases hf : f e = true
    · simpa [ hf, cut_succ, h']
      exact ⟨_, rfl, fun h => by cases h⟩
    · by_cases hc : e.isCut = true
      · simpa [ hf, En.cut_eq, hc, En.D0]
        exact ih (j + 1) (c + 1) _ _ h'
      · simpa [ hf, En.cut_eq, hc, En.D0]
        exact ih (j + 1) c _ _ h'

def fitG : En → Bool
  | .guard _ _ => true
  | _ => false
def fitC : En → Bool
  | .call _ _ => true
  | _ => false
def fitL : En → Bool
  | .loop _ => true
  | .count _ _ _ => true
  | _ => false
theorem fitG_in (e : En) : inB (.str e.tag) [.str "guard"] = some (fitG e) := by cases e <;> (dsimp only [En.tag, fitG]; simpa [])
theorem fitC_in (e : En) : inB (.str e.tag) [.str "call"] = some (fitC e) := by cases e <;> (dsimp only [En.tag, fitC]; simpa [])
theorem fitL_in (e : En) : inB (.str e.tag) [.str "loop", .str "count"] = some (fitL e) := by cases e <;> (dsimp only [En.tag, fitL]; simpa [])
theorem leave_fit (f : En → Bool) (fs : List PyData) (H : ∀ e : En, inB (.str e.tag) fs = some (f e)) (w : Str) (ct : List En) (hl : ct.length ≤ 1000) (ht : tab_FITTING.lookup w = some (.imm (.tuple fs))) : m_leave [.tuple (ct.map En.D), .str w] = some (lvD (lv f 0 ct)) := by
  obtain ⟨ρ', h1, h2⟩ := leave_loop f fs H (some (.imm (.str w))) (ct.map En.D) (by rw [List.length_map]; exact hl) ct 0 0 none none (by simp)
  unfold m_leave b_leave
  cases h : (lv f 0 ct).2.1 with
  | none =>
    obtain ⟨a', b', rfl⟩ := h2 h
    rw [h] at h1
    have h3 := lv_none h
    simpa [ ht, h1]
    unfold lvD
    rw [h, h3]
    rfl
  | some e =>
    rw [h] at h1
    simpa [ ht, h1]
theorem leave_guard (ct : List En) (hl : ct.length ≤ 1000) : m_leave [.tuple (ct.map En.D), .str "guard"] = some (lvD (lv fitG 0 ct)) := leave_fit fitG _ fitG_in _ ct hl (by unfold tab_FITTING; simpa [])
theorem immL_map : ∀ ds : List PyData, immL (ds.map .imm) = some ds
  | [] => rfl
  | d :: ds => by rw [List.map_cons, a_immC, immL_map ds]; rfl
theorem law_leave_loop (f : En → Bool) (fs : List PyData) (H : ∀ e : En, inB (.str e.tag) fs = some (f e)) (ct : List En) (hl : ct.length ≤ 1000) : ∀ (r : List En) (j : Nat) (c : Int) (a : Option M), ct.drop j = r → ∃ ρ', loopM (.nm 3) l1__law_leave (rangeL (j : Int) r.length) [some (.imm (.tuple (ct.map En.D))), some (.lst (fs.map .imm)), some (.imm (.int c)), a] = some (.ok (if (lv f c r).2.1.isSome then .rt (.imm (lvD (lv f c r))) else .nx) ρ') ∧ ∃ a', ρ' = [some (.imm (.tuple (ct.map En.D))), some (.lst (fs.map .imm)), some (.imm (.int (lv f c r).1)), a'] := by
  intro r
  induction r with
  | nil =>
    intro j c a h
    exact ⟨_, rfl, _, rfl⟩
  | cons e r ih =>
    intro j c a h
    have h' : ct.drop (j + 1) = r := by
      rw [← List.drop_drop, h]
      rfl
    have hj : j < ct.length := by
      have : (ct.drop j).length = r.length + 1 := by rw [h]; rfl
      rw [List.length_drop] at this
      omega
    have he : atI (ct.map En.D) (j : Int) = some e.D := by
      rw [at_n (j := j) (by rw [List.length_map]; exact hj) rfl, List.getElem_map]
      have : ct[j] = e := by
        have h2 := List.drop_eq_getElem_cons hj
        rw [h] at h2
        injection h2 with h3 h4
        exact h3.symm
      rw [this]
    have hm : (ct.map En.D).drop (j + 1) = r.map En.D := by rw [← List.map_drop, h']
    have hi := immL_map fs
    rw [List.length_cons, range_cons, loop_cons]
    unfold l1__law_leave
    unfold lv
    have hc1 : ((j : Int) + 1) = ((j + 1 : Nat) : Int) := rfl
    simpa [ En.D0, H, he, hi]
    by_cases hf : f e = true
    · simpa [ hf, cut_succ, hm, he]
      exact ⟨_, rfl, _, rfl⟩
    · by_cases hc : e.isCut = true
      · simpa [ hf, En.cut_eq, hc, En.D0, he]
        exact ih (j + 1) (c + 1) _ h'
      · simpa [ hf, En.cut_eq, hc, En.D0, he]
        exact ih (j + 1) c _ h'

theorem law_leave_fit (f : En → Bool) (fs : List PyData) (H : ∀ e : En, inB (.str e.tag) fs = some (f e)) (ct : List En) (hl : ct.length ≤ 1000) : m__law_leave [.imm (.tuple (ct.map En.D)), .lst (fs.map .imm)] = some (.ok (.imm (lvD (lv f 0 ct))) [.imm (.tuple (ct.map En.D)), .lst (fs.map .imm)]) := by
  obtain ⟨ρ', h1, a', rfl⟩ := law_leave_loop f fs H ct hl ct 0 0 none rfl
  have hb : -4611686018427387904 ≤ ((ct.map En.D).length : Int) ∧ ((ct.map En.D).length : Int) < 4611686018427387904 := by
    rw [List.length_map]
    exact ⟨by omega, by omega⟩
  have hn : (((ct.map En.D).length : Int)).toNat = ct.length := by
    rw [List.length_map]
    omega
  have h0 : (((0 : Nat) : Int)) = 0 := rfl
  rw [h0] at h1
  unfold m__law_leave b__law_leave
  cases h : (lv f 0 ct).2.1 with
  | none =>
    rw [h] at h1
    have h3 := lv_none h
    simpa [ hb, hn, h1]
    unfold lvD
    rw [h, h3]
    rfl
  | some e =>
    rw [h] at h1
    simpa [ hb, hn, h1]
theorem lv_some {f : En → Bool} : ∀ {r : List En} {c : Int} {e : En}, (lv f c r).2.1 = some e → f e = true
  | [], _, _, h => by cases h
  | e :: r, c, e', h => by
    unfold lv at h
    split at h
    · rename_i hf
      injection h with h
      subst h
      exact hf
    · exact lv_some h
def passD (c : Int) (d : PyData) : PyData := if 0 < c then .tuple [.str "give_up", .int c, d] else .tuple [.str "quiet", d]
/-- what a value thrown gives: tp the top, ct the control -/
def thrownD (tp : PyData) (ct : List En) (v : PyData) : PyData := match lv fitG 0 ct with
  | (c, some (.guard a o), r) => passD c (.tuple [.int a, .tuple [v], o.D, tp, .tuple (r.map En.D)])
  | _ => .tuple [.str "fail", v]
theorem passing_eq (c : Int) (d : PyData) : m_passing [.int c, d] = some (passD c d) := by
  unfold m_passing b_passing passD
  by_cases h : 0 < c
  · simpa [ h]
  · simpa [ h]
theorem law_after_eq (c : Int) (d : PyData) : m__law_after [.int c, d] = some (passD c d) := by
  unfold m__law_after b__law_after passD
  by_cases h : 0 < c
  · simpa [ h]
  · simpa [ h]
section
variable (a ops fr tp v : PyData) (ct : List En) (hl : ct.length ≤ 1000)
include hl
theorem thrown_eq : m_thrown [.tuple [a, ops, fr, tp, .tuple (ct.map En.D)], v] = some (thrownD tp ct v) := by
  unfold m_thrown b_thrown
  have h1 := leave_guard ct hl
  have h2 := @lv_some fitG ct 0
  have h3 := @lv_none fitG ct 0
  unfold thrownD
  generalize lv fitG 0 ct = x at h1 h2 h3 ⊢
  obtain ⟨c, e, r⟩ := x
  unfold lvD at h1
  cases e with
  | none =>
    simpa [ h1, optE]
  | some e =>
    have := h2 rfl
    cases e <;> try (cases this)
    simpa [ h1, optE, En.D, passing_eq]
theorem law_thrown_eq : m__law_thrown [.tuple [a, ops, fr, tp, .tuple (ct.map En.D)], v] = some (thrownD tp ct v) := by
  unfold m__law_thrown b__law_thrown
  have h1 := law_leave_fit fitG [.str "guard"] fitG_in ct hl
  have h2 := @lv_some fitG ct 0
  have h3 := @lv_none fitG ct 0
  unfold thrownD
  generalize lv fitG 0 ct = x at h1 h2 h3 ⊢
  obtain ⟨c, e, r⟩ := x
  unfold lvD at h1
  rw [List.map_cons, List.map_nil] at h1
  cases e with
  | none =>
    simpa [ h1, optE]
  | some e =>
    have := h2 rfl
    cases e <;> try (cases this)
    simpa [ h1, optE, En.D, law_after_eq]
theorem fault_eq (w : Str) : m_fault [.tuple [a, ops, fr, tp, .tuple (ct.map En.D)], .str w] = some (thrownD tp ct (.tuple [.str "text", .str w])) := by
  unfold m_fault b_fault
  simpa [ thrown_eq _ _ _ _ _ _ hl]
theorem law_error_eq (w : Str) : m__law_error [.tuple [a, ops, fr, tp, .tuple (ct.map En.D)], .str w] = some (thrownD tp ct (.tuple [.str "text", .str w])) := by
  unfold m__law_error b__law_error
  simpa [ law_thrown_eq _ _ _ _ _ _ hl]
end
theorem lv_ok {f : En → Bool} : ∀ {r : List En} {c : Int}, (∀ e ∈ r, e.ok) → (∀ e, (lv f c r).2.1 = some e → e.ok) ∧ (∀ e ∈ (lv f c r).2.2, e.ok) ∧ (lv f c r).2.2.length ≤ r.length
  | [], c, _ => ⟨fun e h => (nomatch h), fun e h => (nomatch h), Nat.le_refl _⟩
  | e :: r, c, h => by
    unfold lv
    split
    · exact ⟨fun e' h' => (by injection h' with h'; subst h'; exact h e List.mem_cons_self), fun e' h' => h e' (List.mem_cons_of_mem _ h'), Nat.le_succ _⟩
    · obtain ⟨h1, h2, h3⟩ := lv_ok (f := f) (r := r) (c := if e.isCut then c + 1 else c) fun e' h' => h e' (List.mem_cons_of_mem _ h')
      exact ⟨h1, h2, Nat.le_succ_of_le h3⟩
theorem okD_pass {n : Nat} {c : Int} {d : PyData} (h : okD n d = true) : okD (n + 1) (passD c d) = true := by
  unfold passD
  split <;> simp [okD, h]
theorem okD_thrown {n : Nat} {tp v : PyData} {ct : List En} (ho : ∀ e ∈ ct, e.ok) (hl : ct.length ≤ 1000) (ht : okD (n + 4) tp = true) (hv : okD (n + 3) v = true) : okD (n + 6) (thrownD tp ct v) = true := by
  unfold thrownD
  obtain ⟨h1, h2, h3⟩ := lv_ok (f := fitG) (c := 0) ho
  generalize lv fitG 0 ct = x at h1 h2 h3 ⊢
  split
  · rename_i c a o r
    refine okD_pass (n := n + 5) (okD_5 (n := n + 4) (by simp [okD]) (by simp [okD, hv]) (okD_ob (n := n + 2) (h1 _ rfl).1) ht (okD_ens (n := n) h2 (Nat.le_trans h3 hl)))
  · simp [okD, okD_up (okD_up hv)]

/-! ### likeness, as the law tells it -/
mutual
def sameD : PyData → PyData → Bool
  | .tuple xs, .tuple ys => sameAll xs ys
  | .none, .none => true
  | .bool a, .bool b => decide (a = b)
  | .int a, .int b => decide (a = b)
  | .str a, .str b => decide (a = b)
  | _, _ => false
def sameAll : List PyData → List PyData → Bool
  | [], [] => true
  | x :: xs, y :: ys => sameD x y && sameAll xs ys
  | _, _ => false
end
theorem sameAll_len : ∀ {xs ys : List PyData}, xs.length ≠ ys.length → sameAll xs ys = false
  | [], [], h => absurd rfl h
  | [], _ :: _, _ => by simp only [sameAll]
  | _ :: _, [], _ => by simp only [sameAll]
  | x :: xs, y :: ys, h => by
    have := sameAll_len (xs := xs) (ys := ys) (fun e => h (by rw [List.length_cons, List.length_cons, e]))
    simp only [sameAll, this, Bool.and_false]
theorem same_loop (n : Nat) (ds es : List PyData) (hn : ds.length = es.length) (H : ∀ d ∈ ds, ∀ e ∈ es, m__law_same n [d, e] = some (.bool (sameD d e))) : ∀ (r q : List PyData) (j : Nat) (a : Option M), ds.drop j = r → es.drop j = q → ∃ ρ', loopM (.nm 2) (l1__law_same (m__law_same n)) (rangeL (j : Int) r.length) [some (.imm (.tuple ds)), some (.imm (.tuple es)), a] = some (.ok (if sameAll r q then .nx else .rt (.imm (.bool false))) ρ') ∧ ∃ a', ρ' = [some (.imm (.tuple ds)), some (.imm (.tuple es)), a'] := by
  intro r
  induction r with
  | nil =>
    intro q j a h1 h2
    have : q = [] := by
      have h3 : (ds.drop j).length = (es.drop j).length := by rw [List.length_drop, List.length_drop, hn]
      rw [h1, h2] at h3
      exact List.eq_nil_of_length_eq_zero h3.symm
    subst this
    refine ⟨[some (.imm (.tuple ds)), some (.imm (.tuple es)), a], ?_, a, rfl⟩
    have e0 : sameAll [] [] = true := by simp only [sameAll]
    rw [if_pos e0]
    rfl
  | cons d r ih =>
    intro q j a h1 h2
    have h3 : (ds.drop j).length = (es.drop j).length := by rw [List.length_drop, List.length_drop, hn]
    cases q with
    | nil =>
      rw [h1, h2] at h3
      cases h3
    | cons e q =>
      have g1 : ds.drop (j + 1) = r := by rw [← List.drop_drop, h1]; rfl
      have g2 : es.drop (j + 1) = q := by rw [← List.drop_drop, h2]; rfl
      have hj : j < ds.length := by
        have : (ds.drop j).length = r.length + 1 := by rw [h1]; rfl
        rw [List.length_drop] at this
        omega
      have hj2 : j < es.length := by omega
      have e1 : ds[j] = d := by
        have h4 := List.drop_eq_getElem_cons hj
        rw [h1] at h4
        injection h4 with h5 h6
        exact h5.symm
      have e2 : es[j] = e := by
        have h4 := List.drop_eq_getElem_cons hj2
        rw [h2] at h4
        injection h4 with h5 h6
        exact h5.symm
      have a1 : atI ds (j : Int) = some d := by rw [at_n hj rfl, e1]
      have a2 : atI es (j : Int) = some e := by rw [at_n hj2 rfl, e2]
      have hs := H d (by rw [← e1]; exact List.getElem_mem hj) e (by rw [← e2]; exact List.getElem_mem hj2)
      rw [List.length_cons, range_cons, loop_cons]
      unfold l1__law_same
      simp only [sameAll]
      by_cases c : sameD d e = true
      · simpa [ a1, a2, hs, c]
        exact ih q (j + 1) _ g1 g2
      · simpa [ a1, a2, hs, c]
        exact ⟨_, rfl, _, rfl⟩
theorem same_all (n : Nat) : ∀ (d e : PyData), okD n d = true → okD n e = true → m__law_same (n + 1) [d, e] = some (.bool (sameD d e)) := by
  induction n with
  | zero =>
    intro d e h1 h2
    cases e <;> cases d <;> first
      | (simp [okD] at h1; done)
      | (simp [okD] at h2; done)
      | (unfold m__law_same b__law_same
         simp only [sameD]
         simpa [])
  | succ n ih =>
    intro d e h1 h2
    cases e <;> cases d <;> first
      | (simp [okD] at h1; done)
      | (simp [okD] at h2; done)
      | (unfold m__law_same b__law_same
         simp only [sameD]
         simpa []
         done)
      | skip
    rename_i es ds
    simp only [okD, Bool.and_eq_true, decide_eq_true_eq, List.all_eq_true] at h1 h2
    simp only [sameD]
    by_cases hn : ds.length = es.length
    · obtain ⟨ρ, h3, a', rfl⟩ := same_loop (n + 1) ds es hn (fun d hd e he => ih d e (h1.2 d hd) (h2.2 e he)) ds es 0 none rfl rfl
      have hb : -4611686018427387904 ≤ (es.length : Int) ∧ (es.length : Int) < 4611686018427387904 := ⟨by omega, by omega⟩
      have hb' : ((es.length : Int)).toNat = ds.length := by omega
      have h0 : (((0 : Nat) : Int)) = 0 := rfl
      have hq : ((ds.length : Int) = (es.length : Int)) = True := eq_true (by omega)
      rw [h0] at h3
      rw [m__law_same]
      unfold b__law_same
      by_cases c : sameAll ds es = true
      · simpa [ hb, hb', h3, hq, c]
      · simpa [ hb, hb', h3, hq, c]
    · have hq : ((ds.length : Int) = (es.length : Int)) = False := eq_false (by omega)
      rw [m__law_same]
      unfold b__law_same
      simpa [ hq, sameAll_len hn]

/-! ### likeness of values, as == tells it -/
theorem lay_str {z : Str} (h : z.cps.all (· < 0x110000) = true) : PyData.canLay0 (.str z) = true := by
  simp only [PyData.canLay0]
  exact h
theorem lay_ints : ∀ ts : List Int, PyData.canLayAll0 (ts.map PyData.int) = true ∧ PyData.depthAll (ts.map PyData.int) = 0
  | [] => ⟨by simp only [List.map_nil, PyData.canLayAll0], by simp only [List.map_nil, PyData.depthAll]⟩
  | t :: ts => by
    have ih := lay_ints ts
    exact ⟨by simp only [List.map_cons, PyData.canLayAll0, PyData.canLay0, ih.1, Bool.and_self], by simp only [List.map_cons, PyData.depthAll, PyData.depth, ih.2, Nat.max_self]⟩
theorem shaped_vl {v : Vl} (h : v.ok) : SeqAt.shaped v.D = true := by
  have e1 : PyData.canLay0 (.str "none") = true := lay_str (by decide +kernel)
  have e2 : PyData.canLay0 (.str "bool") = true := lay_str (by decide +kernel)
  have e3 : PyData.canLay0 (.str "text") = true := lay_str (by decide +kernel)
  have e4 : PyData.canLay0 (.str "int") = true := lay_str (by decide +kernel)
  have e5 : PyData.canLay0 (.str "object") = true := lay_str (by decide +kernel)
  unfold SeqAt.shaped
  cases v with
  | non => simp [Vl.D, PyData.canLay0, PyData.canLayAll0, PyData.depth, PyData.depthAll] at e1 ⊢; exact e1
  | bl b => simp [Vl.D, PyData.canLay0, PyData.canLayAll0, PyData.depth, PyData.depthAll] at e2 ⊢; exact e2
  | text s =>
    have e6 := lay_str h.2
    simp [Vl.D, PyData.canLay0, PyData.canLayAll0, PyData.depth, PyData.depthAll] at e3 e6 ⊢
    exact ⟨e3, e6⟩
  | ob o =>
    have e6 := lay_ints o.task
    simp [Vl.D, Ob.D, PyData.canLay0, PyData.canLayAll0, PyData.depth, PyData.depthAll, e6.2] at e5 ⊢
    exact ⟨e5, e6.1⟩
  | int z => simp [Vl.D, PyData.canLay0, PyData.canLayAll0, PyData.depth, PyData.depthAll] at e4 ⊢; exact e4
theorem eqv_tup (xs ys : List PyData) : PyData.eqv (.tuple xs) (.tuple ys) = PyData.eqvAll xs ys := by simp only [PyData.eqv]
theorem eqvAll_cons (x y : PyData) (xs ys : List PyData) : PyData.eqvAll (x :: xs) (y :: ys) = (PyData.eqv x y && PyData.eqvAll xs ys) := by simp only [PyData.eqvAll]
theorem eqv_ints : ∀ ts us : List Int, PyData.eqvAll (ts.map .int) (us.map .int) = sameAll (ts.map .int) (us.map .int)
  | [], [] => by simp [PyData.eqvAll, sameAll]
  | [], _ :: _ => by simp [PyData.eqvAll, sameAll]
  | _ :: _, [] => by simp [PyData.eqvAll, sameAll]
  | t :: ts, u :: us => by
    have := eqv_ints ts us
    simp only [List.map_cons, PyData.eqvAll, sameAll, PyData.eqv, sameD, this]
    congr 1
theorem eqv_str (x y : Str) : PyData.eqv (.str x) (.str y) = decide (x = y) := by
  simp only [PyData.eqv]
  by_cases e : x = y <;> simp [e]
theorem eqv_vl (a b : Vl) : PyData.eqv a.D b.D = sameD a.D b.D := by
  cases a <;> cases b <;> (unfold Vl.D; try unfold Ob.D) <;> (try unfold Ob.D) <;> simp only [eqv_tup, sameD, eqvAll_cons, sameAll, eqv_str, eqv_ints]
  all_goals first
    | rfl
    | (simp [PyData.eqv, PyData.eqvAll, sameD, sameAll]; done)
theorem eqB_vl {a b : Vl} (ha : a.ok) (hb : b.ok) : eqB a.D b.D = some (sameD a.D b.D) := by
  have h : eqB a.D b.D = eqS a.D b.D := by cases a <;> cases b <;> rfl
  rw [h]
  unfold eqS
  rw [shaped_vl ha, shaped_vl hb, eqv_vl]
  rfl
theorem same_vl {a b : Vl} (ha : a.ok) (hb : b.ok) : m__law_same 9 [a.D, b.D] = some (.bool (sameD a.D b.D)) := same_all 8 _ _ (okD_vl (n := 6) ha) (okD_vl (n := 6) hb)
def Vl.tag : Vl → Str
  | .non => "none"
  | .bl _ => "bool"
  | .text _ => "text"
  | .ob _ => "object"
  | .int _ => "int"
def Vl.isI : Vl → Bool
  | .int _ => true
  | _ => false
def Vl.isT : Vl → Bool
  | .text _ => true
  | _ => false
def Vl.isB : Vl → Bool
  | .bl _ => true
  | _ => false
def Vl.isO : Vl → Bool
  | .ob _ => true
  | _ => false
theorem Vl.D0 (v : Vl) : oIx v.D (.int 0) = some (.str v.tag) := by cases v <;> rfl
theorem Vl.tag_int (v : Vl) : (v.tag = Str.ofString "int") = (v.isI = true) := by cases v <;> dsimp only [Vl.tag, Vl.isI] <;> exact propext (by decide +kernel)
theorem Vl.tag_text (v : Vl) : (v.tag = Str.ofString "text") = (v.isT = true) := by cases v <;> dsimp only [Vl.tag, Vl.isT] <;> exact propext (by decide +kernel)
theorem Vl.tag_bool (v : Vl) : (v.tag = Str.ofString "bool") = (v.isB = true) := by cases v <;> dsimp only [Vl.tag, Vl.isB] <;> exact propext (by decide +kernel)
theorem Vl.tag_object (v : Vl) : (v.tag = Str.ofString "object") = (v.isO = true) := by cases v <;> dsimp only [Vl.tag, Vl.isO] <;> exact propext (by decide +kernel)
inductive Re where
  | ok (v : Vl)
  | er (w : Str)
def Re.D : Re → PyData
  | .ok v => .tuple [.str "ok", v.D]
  | .er w => .tuple [.str "error", .str w]
def Re.fine : Re → Prop
  | .ok v => v.ok
  | .er _ => True

/-! ### a program with one instruction, its action -/
def dropD : PyData := .tuple [.str "drop"]
def haltD : PyData := .tuple [.str "halt"]
def codeL (a : Nat) (P : PyData) : List PyData := List.replicate a dropD ++ [P, haltD]
def proM (a : Nat) (P rc pc : PyData) : M := .fro 0 [("code", .tuple (codeL a P)), ("lines", .tuple (List.replicate (a + 2) [PyData.int 0]).flatten), ("records", rc), ("variables", .tuple []), ("procedures", pc)]
theorem codeL_len (a : Nat) (P : PyData) : (codeL a P).length = a + 2 := by
  unfold codeL
  rw [List.length_append, List.length_replicate]
  rfl
theorem program_eq (P rc pc : PyData) (a : Int) (h0 : 0 ≤ a) (h1 : a < 9) : m__law_program [.imm P, .imm (.int a), .imm rc, .imm pc] = some (.ok (proM a.toNat P rc pc) [.imm P, .imm (.int a), .imm rc, .imm pc]) := by
  obtain ⟨ρ, h2, L, f, rfl, rfl⟩ := range_inv (k := 5) (mb := l1__law_program) (fun j ρ => ∃ (L : List PyData) (f : Option M), ρ = [some (.imm P), some (.imm (.int a)), some (.imm rc), some (.imm pc), some (.imm (.tuple L)), f] ∧ L = List.replicate j dropD) 0 a.toNat [some (.imm P), some (.imm (.int a)), some (.imm rc), some (.imm pc), some (.imm (.tuple [])), none] ⟨[], none, rfl, rfl⟩ (fun j ρ hj hp => by
    obtain ⟨L, f, rfl, hL⟩ := hp
    unfold l1__law_program
    have h4 : L.length ≤ 999999 := by rw [hL, List.length_replicate]; omega
    simpa [ h4]
    refine ⟨_, rfl, _, _, rfl, ?_⟩
    rw [show dropD :: List.replicate j dropD = List.replicate (j + 1) dropD from rfl, List.replicate_succ', hL]
    rfl)
  have h3 : (List.replicate a.toNat dropD).length ≤ 999998 := by rw [List.length_replicate]; omega
  have hb : -4611686018427387904 ≤ a ∧ a < 4611686018427387904 := ⟨by omega, by omega⟩
  have h5 : (codeL a.toNat P).length = a.toNat + 2 := codeL_len _ _
  have h6 : ∀ x, x = List.replicate a.toNat dropD ++ [P, PyData.tuple [.str "halt"]] → x = codeL a.toNat P := fun x h => h
  unfold m__law_program b__law_program
  simpa [ hb, h2, h3]
  rw [h6 _ rfl]
  simpa [ h5]
  have h7 : (2 : Int) ≤ ((a.toNat + 2 : Nat) : Int) ∧ ((a.toNat + 2 : Nat) : Int) ≤ 1000 := by omega
  have h8 : (((a.toNat + 2 : Nat) : Int)).toNat = a.toNat + 2 := by omega
  have h9 : (codeL a.toNat P) ≠ [] := fun e => by rw [e] at h5; cases h5
  simpa [ h7, h8, h9]
  rfl
def actTab (z : Str) : Option M := match tab_COMPUTING.lookup z with
  | some x => some x
  | none => match tab_REACHING.lookup z with
    | some x => some x
    | none => tab_CONTROLLING.lookup z
theorem code_at (a : Nat) (P : PyData) : atI (codeL a P) (a : Int) = some P := by
  have hl : a < (codeL a P).length := by rw [codeL_len]; omega
  have h : (codeL a P)[a]? = some P := by
    unfold codeL
    rw [List.getElem?_append_right (by rw [List.length_replicate]; exact Nat.le_refl _)]
    simp
  rw [at_n (j := a) hl rfl]
  rw [List.getElem?_eq_getElem hl] at h
  exact h
theorem act_eq {a : Nat} {z : Str} {ps r : List PyData} {rc pc d : PyData} {j : Nat} (ht : actTab z = some (.fn j)) (hj : j < 38)
    (hd : fnM j [proM a (.tuple (.str z :: ps)) rc pc, .imm (.tuple (.int a :: r)), .imm (.tuple (.str z :: ps))] = some (.ok (.imm d) [proM a (.tuple (.str z :: ps)) rc pc, .imm (.tuple (.int a :: r)), .imm (.tuple (.str z :: ps))])) :
    m_action [proM a (.tuple (.str z :: ps)) rc pc, .imm (.tuple (.int a :: r))] = some (.ok (.imm d) [proM a (.tuple (.str z :: ps)) rc pc, .imm (.tuple (.int a :: r))]) := by
  have hc : fldM 0 "code" (proM a (.tuple (.str z :: ps)) rc pc) = some (.imm (.tuple (codeL a (.tuple (.str z :: ps))))) := by
    unfold proM
    simpa []
  have hi : isImm (proM a (.tuple (.str z :: ps)) rc pc) = true := rfl
  have hx := code_at a (.tuple (.str z :: ps))
  unfold m_action b_action
  generalize hp : proM a (.tuple (.str z :: ps)) rc pc = p at *
  unfold actTab at ht
  cases h1 : tab_COMPUTING.lookup z with
  | some x =>
    rw [h1] at ht
    cases ht
    simpa [ hc, hx, h1, hj, hd]
  | none =>
    rw [h1] at ht
    cases h2 : tab_REACHING.lookup z with
    | some x =>
      rw [h2] at ht
      cases ht
      simpa [ hc, hx, h1, h2, hj, hd]
    | none =>
      rw [h2] at ht
      simpa [ hc, hx, h1, h2, hj, hd, ht]
/-! ### what follows a local state -/
def Lo.at (s : Lo) (a : Int) (op : List Vl) : Lo := ⟨a, op, s.fr, s.tp, s.ct⟩
def Lo.on (s : Lo) (op : List Vl) : Lo := s.at (s.ad + 1) op
def qtD (s : Lo) : PyData := .tuple [.str "quiet", s.D]
theorem gone_to_eq (s : Lo) (a : Int) (op : List Vl) : m_gone_to [s.D, .int a, .tuple (op.map Vl.D)] = some (s.at a op).D := by
  unfold m_gone_to b_gone_to Lo.D
  simpa []
  rfl
theorem gone_on_eq (s : Lo) (op : List Vl) : m_gone_on [s.D, .tuple (op.map Vl.D)] = some (s.on op).D := by
  have h := gone_to_eq s (s.ad + 1) op
  unfold m_gone_on b_gone_on
  have h0 : oIx s.D (.int 0) = some (.int s.ad) := rfl
  simpa [ h0, h]
  rfl
theorem goes_eq (s : Lo) (op : List Vl) : m__law_goes [s.D, .tuple (op.map Vl.D)] = some (s.on op).D := by
  unfold m__law_goes b__law_goes Lo.D
  simpa []
  rfl
theorem vls_cons (v : Vl) (op : List Vl) : PyData.tuple (v.D :: op.map Vl.D) = .tuple ((v :: op).map Vl.D) := rfl
theorem Lo.tD (s : Lo) : s.D = .tuple [.int s.ad, .tuple (s.op.map Vl.D), s.fr.D, s.tp.D, .tuple (s.ct.map En.D)] := rfl
theorem Lo.x0 (s : Lo) : oIx s.D (.int 0) = some (.int s.ad) := rfl
theorem Lo.x1 (s : Lo) : oIx s.D (.int 1) = some (.tuple (s.op.map Vl.D)) := rfl
theorem Lo.x2 (s : Lo) : oIx s.D (.int 2) = some s.fr.D := rfl
theorem Lo.x3 (s : Lo) : oIx s.D (.int 3) = some s.tp.D := rfl
theorem Lo.x4 (s : Lo) : oIx s.D (.int 4) = some (.tuple (s.ct.map En.D)) := rfl
theorem fault_lo (s : Lo) (h : s.ct.length ≤ 1000) (w : Str) : m_fault [s.D, .str w] = some (thrownD s.tp.D s.ct (.tuple [.str "text", .str w])) := fault_eq _ _ _ _ _ h w
theorem law_error_lo (s : Lo) (h : s.ct.length ≤ 1000) (w : Str) : m__law_error [s.D, .str w] = some (thrownD s.tp.D s.ct (.tuple [.str "text", .str w])) := law_error_eq _ _ _ _ _ h w
theorem thrown_lo (s : Lo) (h : s.ct.length ≤ 1000) (v : PyData) : m_thrown [s.D, v] = some (thrownD s.tp.D s.ct v) := thrown_eq _ _ _ _ _ _ h
theorem law_thrown_lo (s : Lo) (h : s.ct.length ≤ 1000) (v : PyData) : m__law_thrown [s.D, v] = some (thrownD s.tp.D s.ct v) := law_thrown_eq _ _ _ _ _ _ h
theorem okD_mono {n m : Nat} {d : PyData} (h : okD n d = true) (hm : n ≤ m) : okD m d = true := by
  induction hm with
  | refl => exact h
  | step _ ih => exact okD_up ih
theorem okD_thr {s : Lo} (hs : s.ok) {v : PyData} (hv : okD 3 v = true) : okD 8 (thrownD s.tp.D s.ct v) = true :=
  okD_up (okD_up (okD_thrown (n := 0) hs.ct (Nat.le_trans hs.lc (by decide)) (okD_mono (okD_ob (n := 0) hs.tp) (by decide)) hv))
theorem Lo.ok_at {s : Lo} (hs : s.ok) (a : Int) {op : List Vl} (ho : ∀ v ∈ op, v.ok) : (s.at a op).ok := ⟨ho, hs.fr, hs.tp, hs.ct, hs.lc⟩
theorem Lo.ok_on {s : Lo} (hs : s.ok) {op : List Vl} (ho : ∀ v ∈ op, v.ok) : (s.on op).ok := Lo.ok_at hs _ ho
theorem okD_qt {s : Lo} (hs : s.ok) (hl : s.op.length ≤ 1000) : okD 8 (qtD s) = true := by
  have := okD_lo (n := 2) hs hl
  simp [qtD, okD, this]
theorem okD_two {a b : PyData} (h1 : okD 7 a = true) (h2 : okD 7 b = true) : okD 8 (.tuple [a, b]) = true := by simp [okD, h1, h2]
theorem okD_three {a b c : PyData} (h1 : okD 7 a = true) (h2 : okD 7 b = true) (h3 : okD 7 c = true) : okD 8 (.tuple [a, b, c]) = true := by simp [okD, h1, h2, h3]
theorem okD_four {a b c d : PyData} (h1 : okD 7 a = true) (h2 : okD 7 b = true) (h3 : okD 7 c = true) (h4 : okD 7 d = true) : okD 8 (.tuple [a, b, c, d]) = true := by simp [okD, h1, h2, h3, h4]
/-- the two sides of the law for a local state with its instruction -/
def Due (P rc pc : PyData) (s : Lo) (due : Option PyData) : Prop := ∀ a : Nat, s.ad = a → ∃ d : PyData, okD 8 d = true ∧ m_action [proM a P rc pc, .imm s.D] = some (.ok (.imm d) [proM a P rc pc, .imm s.D]) ∧ due = some d
theorem due_mk {z : Str} {ps : List PyData} {rc pc d : PyData} {s : Lo} {due : Option PyData} {j : Nat} (ht : actTab z = some (.fn j)) (hj : j < 38) (hd : ∀ p : M, p = proM s.ad.toNat (.tuple (.str z :: ps)) rc pc → fnM j [p, .imm s.D, .imm (.tuple (.str z :: ps))] = some (.ok (.imm d) [p, .imm s.D, .imm (.tuple (.str z :: ps))])) (ho : okD 8 d = true) (hu : due = some d) : Due (.tuple (.str z :: ps)) rc pc s due := by
  intro a ha
  refine ⟨d, ho, ?_, hu⟩
  have h1 : s.D = .tuple (.int (a : Int) :: [.tuple (s.op.map Vl.D), s.fr.D, s.tp.D, .tuple (s.ct.map En.D)]) := by rw [← ha]; rfl
  have h2 : s.ad.toNat = a := by omega
  have h3 := hd _ rfl
  rw [h2, h1] at h3
  rw [h1]
  exact act_eq ht hj h3

/-! ### operands and what is put on them -/
theorem map_le {α β : Type} {f : α → β} {xs : List α} (h : xs.length ≤ 1000) : 1 + (xs.map f).length ≤ 1000000 := by rw [List.length_map]; omega
theorem put_eq (s : Lo) (v : Vl) (op : List Vl) (hl : op.length ≤ 1000) : m_put [s.D, v.D, .tuple (op.map Vl.D)] = some (qtD (s.on (v :: op))) := by
  have h := gone_on_eq s (v :: op)
  rw [List.map_cons] at h
  have hl' := map_le (f := Vl.D) hl
  unfold m_put b_put
  simpa [ hl', h]
  rfl
def ansD (s : Lo) (op : List Vl) : Re → PyData
  | .ok v => qtD (s.on (v :: op))
  | .er w => thrownD s.tp.D s.ct (.tuple [.str "text", .str w])
theorem okD_ans {s : Lo} (hs : s.ok) {op : List Vl} (ho : ∀ v ∈ op, v.ok) (hl : op.length ≤ 999) {r : Re} (hr : r.fine) : okD 8 (ansD s op r) = true := by
  cases r with
  | ok v =>
    refine okD_qt (Lo.ok_on hs fun x hx => ?_) (by show (v :: op).length ≤ 1000; rw [List.length_cons]; omega)
    rcases List.mem_cons.mp hx with e | e
    · subst e
      exact hr
    · exact ho x e
  | er w => exact okD_thr hs (by simp [okD])
theorem put_answer_eq (s : Lo) (op : List Vl) (hl : op.length ≤ 1000) (hc : s.ct.length ≤ 1000) (r : Re) : m_put_answer [s.D, r.D, .tuple (op.map Vl.D)] = some (ansD s op r) := by
  unfold m_put_answer b_put_answer
  cases r with
  | ok v =>
    have h := put_eq s v op hl
    unfold Re.D ansD
    simpa [ h]
  | er w =>
    have h := fault_lo s hc w
    unfold Re.D ansD
    simpa [ h]
theorem sl_cons {a : PyData} {xs : List PyData} : oSl (.tuple (a :: xs)) (some 1) none = some (.tuple xs) := by simpa []
theorem ad_nat {s : Lo} {a : Nat} (h : s.ad = a) : s.ad.toNat = a := by omega
theorem isT_eq {a : Vl} (h : a.isT = true) : ∃ x, a = .text x := by cases a <;> first | exact ⟨_, rfl⟩ | cases h
theorem isI_eq {a : Vl} (h : a.isI = true) : ∃ x, a = .int x := by cases a <;> first | exact ⟨_, rfl⟩ | cases h
theorem isB_eq {a : Vl} (h : a.isB = true) : ∃ x, a = .bl x := by cases a <;> first | exact ⟨_, rfl⟩ | cases h
theorem isO_eq {a : Vl} (h : a.isO = true) : ∃ x, a = .ob x := by cases a <;> first | exact ⟨_, rfl⟩ | cases h
theorem tail_ok {a : Vl} {t : List Vl} (h : ∀ v ∈ a :: t, v.ok) : ∀ v ∈ t, v.ok := fun v hv => h v (List.mem_cons_of_mem _ hv)

/-! ### the instructions of objects -/
inductive Cf where
  | ok (n : Int)
  | er (w : Str)
def Cf.D : Cf → PyData
  | .ok n => .tuple [.str "ok", .int n]
  | .er w => .tuple [.str "error", .str w]
structure Rc where
  name : Str
  fields : List Str
def Rc.D (r : Rc) : PyData := .tuple [.str r.name, .tuple (r.fields.map .str)]
def Rc.ok (r : Rc) : Prop := txtOk r.name ∧ r.fields.length ≤ 100
def rcD (rs : List Rc) : PyData := .tuple (rs.map Rc.D)
/-- the cell of a field -/
def fld (h : Vl) (nm : Str) : List Rc → Cf
  | [] => .er "field"
  | r :: rs => if sameD h.D (Vl.text r.name).D = true then (match placeS nm r.fields with
    | some j => .ok ((j : Int) + 1)
    | none => fld h nm rs) else fld h nm rs
theorem strsD_map : ∀ xs : List Str, strsD (xs.map PyData.str) = some xs
  | [] => rfl
  | x :: xs => by
    rw [List.map_cons]
    simp only [strsD, strsD_map xs]
    rfl
theorem place_in_iff (z : Str) : ∀ xs : List Str, (placeS z xs).isSome = decide (z ∈ xs)
  | [] => rfl
  | x :: xs => by
    unfold placeS
    by_cases h : x = z
    · subst h
      simp
    · rw [if_neg h, Option.isSome_map, place_in_iff z xs]
      have h' : ¬ z = x := fun e => h e.symm
      simp [h']
theorem field_loop (h : Vl) (hh : h.ok) (nm : Str) (a : Option M) : ∀ (rs : List Rc) (b c : Option M), (∀ r ∈ rs, r.ok) → ∃ ρ', thS (loopM (.tp [.nm 3, .nm 4]) l1_field_cell (rs.map Rc.D) [a, some (.imm h.D), some (.imm (.str nm)), b, c]) (sRetD (qM (eTup (aCons (eC (.str "error")) (aCons (eC (.str "field")) aNil))))) = some (.ok (.rt (.imm (fld h nm rs).D)) ρ') := by
  intro rs
  induction rs with
  | nil =>
    intro b c _
    exact ⟨_, rfl⟩
  | cons r rs ih =>
    intro b c hr
    have hr0 := hr r List.mem_cons_self
    have ih' := fun b c => ih b c fun r h => hr r (List.mem_cons_of_mem _ h)
    have hq : eqB h.D (.tuple [.str "text", .str r.name]) = some (sameD h.D (Vl.text r.name).D) := eqB_vl hh (b := .text r.name) hr0.1
    have hi := in_strsD nm r.fields
    have hp := place_in_iff nm r.fields
    rw [List.map_cons, loop_cons]
    unfold l1_field_cell Rc.D fld
    by_cases c1 : sameD h.D (Vl.text r.name).D = true
    · cases hj : placeS nm r.fields with
      | none =>
        rw [hj] at hp
        have hp' : decide (nm ∈ r.fields) = false := hp.symm
        simpa [ hq, hi, c1, hp']
        exact ih' _ _
      | some j =>
        rw [hj] at hp
        have hp' : decide (nm ∈ r.fields) = true := hp.symm
        simpa [ hq, hi, c1, hp', strsD_map, hj]
        exact ⟨_, rfl⟩
    · simpa [ hq, c1]
      exact ih' _ _
theorem field_cell_eq (rs : List Rc) (hr : ∀ r ∈ rs, r.ok) (h : Vl) (hh : h.ok) (nm : Str) : m_field_cell [rcD rs, h.D, .str nm] = some (fld h nm rs).D := by
  obtain ⟨ρ', e⟩ := field_loop h hh nm (some (.imm (rcD rs))) rs none none hr
  unfold m_field_cell b_field_cell rcD at *
  simpa [ e]
theorem law_field_in (nm : Str) (r : Rc) (a b : Option M) : ∀ (q : List Str) (j : Nat) (c : Option M), r.fields.drop j = q → ∃ ρ', loopM (.nm 4) l1__law_field (rangeL (j : Int) q.length) [a, b, some (.imm (.str nm)), some (.imm r.D), c] = some (.ok (match placeS nm q with | some i => .rt (.imm (Cf.ok (((j + i : Nat) : Int) + 1)).D) | none => .nx) ρ') ∧ (placeS nm q = none → ∃ c', ρ' = [a, b, some (.imm (.str nm)), some (.imm r.D), c']) := by
  intro q
  induction q with
  | nil =>
    intro j c h
    exact ⟨_, rfl, fun _ => ⟨_, rfl⟩⟩
  | cons x q ih =>
    intro j c h
    have h' : r.fields.drop (j + 1) = q := by
      rw [← List.drop_drop, h]
      rfl
    have hj : j < r.fields.length := by
      have : (r.fields.drop j).length = q.length + 1 := by rw [h]; rfl
      rw [List.length_drop] at this
      omega
    have he : atI (r.fields.map PyData.str) (j : Int) = some (.str x) := by
      rw [at_n (j := j) (by rw [List.length_map]; exact hj) rfl, List.getElem_map]
      have h2 := List.drop_eq_getElem_cons hj
      rw [h] at h2
      injection h2 with h3 h4
      rw [← h3]
    rw [List.length_cons, range_cons, loop_cons]
    unfold l1__law_field
    have hD : r.D = .tuple [.str r.name, .tuple (r.fields.map .str)] := rfl
    unfold placeS
    by_cases c1 : x = nm
    · simpa [ hD, he, c1]
      exact ⟨_, rfl, fun h => by cases h⟩
    · obtain ⟨ρ', e1, e2⟩ := ih (j + 1) (some (.imm (.int (j : Int)))) h'
      rw [hD] at e1
      unfold l1__law_field at e1
      simpa [ hD, he, c1, e1]
      refine ⟨ρ', ?_, fun h => ?_⟩
      · cases hp : placeS nm q with
        | none => rfl
        | some i =>
          have : ((j + 1 + i : Nat) : Int) = ((j + (i + 1) : Nat) : Int) := by omega
          simp only [Option.map_some, this]
      · have hn : placeS nm q = none := by
          cases hp : placeS nm q with
          | none => rfl
          | some i => rw [hp] at h; cases h
        obtain ⟨c', e⟩ := e2 hn
        exact ⟨c', by rw [e, hD]⟩
theorem law_field_loop (h : Vl) (hh : h.ok) (nm : Str) (a : Option M) : ∀ (rs : List Rc) (b c : Option M), (∀ r ∈ rs, r.ok) → ∃ ρ', thS (loopM (.nm 3) l2__law_field (rs.map Rc.D) [a, some (.imm h.D), some (.imm (.str nm)), b, c]) (sRetD (qM (eTup (aCons (eC (.str "error")) (aCons (eC (.str "field")) aNil))))) = some (.ok (.rt (.imm (fld h nm rs).D)) ρ') := by
  intro rs
  induction rs with
  | nil =>
    intro b c _
    exact ⟨_, rfl⟩
  | cons r rs ih =>
    intro b c hr
    have hr0 := hr r List.mem_cons_self
    have ih' := fun b c => ih b c fun r h => hr r (List.mem_cons_of_mem _ h)
    have hq : m__law_same 9 [h.D, .tuple [.str "text", .str r.name]] = some (.bool (sameD h.D (Vl.text r.name).D)) := same_vl hh (b := .text r.name) hr0.1
    have hD : r.D = .tuple [.str r.name, .tuple (r.fields.map .str)] := rfl
    have hl : (r.fields.map PyData.str).length = r.fields.length := List.length_map ..
    have hb : -4611686018427387904 ≤ (r.fields.length : Int) ∧ (r.fields.length : Int) < 4611686018427387904 := by have := hr0.2; omega
    have hn : ((r.fields.length : Int)).toNat = r.fields.length := by omega
    rw [List.map_cons, loop_cons]
    unfold l2__law_field fld
    by_cases c1 : sameD h.D (Vl.text r.name).D = true
    · obtain ⟨ρ', e1, e2⟩ := law_field_in nm r a (some (.imm h.D)) r.fields 0 c rfl
      have h0 : (((0 : Nat) : Int)) = 0 := rfl
      rw [h0, hD] at e1
      cases hj : placeS nm r.fields with
      | none =>
        obtain ⟨c', rfl⟩ := e2 hj
        rw [hj] at e1
        simpa [ hD, hq, c1, hl, hb, hn, e1]
        exact ih' _ _
      | some j =>
        rw [hj] at e1
        dsimp only at e1
        have hz : ((0 + j : Nat) : Int) = (j : Int) := by omega
        rw [hz] at e1
        simpa [ hD, hq, c1, hl, hb, hn, e1]
        exact ⟨_, rfl⟩
    · simpa [ hD, hq, c1]
      exact ih' _ _
theorem law_field_eq (rs : List Rc) (hr : ∀ r ∈ rs, r.ok) (h : Vl) (hh : h.ok) (nm : Str) : m__law_field [rcD rs, h.D, .str nm] = some (fld h nm rs).D := by
  obtain ⟨ρ', e⟩ := law_field_loop h hh nm (some (.imm (rcD rs))) rs none none hr
  unfold m__law_field b__law_field rcD at *
  simpa [ e]
/-- the cell of an item -/
def itm : Vl → Vl → Cf
  | .int n, .int i => if 0 ≤ i ∧ i < n then .ok (i + 1) else .er "index"
  | _, _ => .er "kind"
theorem itm_kind {h a : Vl} (c : ¬ (h.isI = true ∧ a.isI = true)) : itm h a = .er "kind" := by
  cases h <;> first | rfl | skip
  cases a <;> first | rfl | exact absurd ⟨rfl, rfl⟩ c
theorem itm_ok {n i : Int} (h : 0 ≤ i ∧ i < n) : itm (.int n) (.int i) = .ok (i + 1) := if_pos h
theorem itm_ix {n i : Int} (h : ¬ (0 ≤ i ∧ i < n)) : itm (.int n) (.int i) = .er "index" := if_neg h
theorem item_cell_eq (h a : Vl) : m_item_cell [h.D, a.D] = some (itm h a).D := by
  unfold m_item_cell b_item_cell k_KIND_cells
  by_cases c1 : h.isI = true
  · by_cases c2 : a.isI = true
    · obtain ⟨n, rfl⟩ := isI_eq c1
      obtain ⟨i, rfl⟩ := isI_eq c2
      by_cases q1 : i < 0
      · rw [itm_ix (by omega)]
        unfold Vl.D Cf.D
        simpa [ q1]
      · by_cases q3 : n ≤ i
        · rw [itm_ix (by omega)]
          unfold Vl.D Cf.D
          simpa [ q1, q3]
        · rw [itm_ok (by omega)]
          unfold Vl.D Cf.D
          simpa [ q1, q3]
    · rw [itm_kind fun z => c2 z.2]
      simpa [ Vl.D0, Vl.tag_int, c1, c2]
      rfl
  · rw [itm_kind fun z => c1 z.1]
    simpa [ Vl.D0, Vl.tag_int, c1]
    rfl
theorem law_item_eq (h a : Vl) : m__law_item [h.D, a.D] = some (itm h a).D := by
  unfold m__law_item b__law_item
  by_cases c1 : h.isI = true
  · by_cases c2 : a.isI = true
    · obtain ⟨n, rfl⟩ := isI_eq c1
      obtain ⟨i, rfl⟩ := isI_eq c2
      by_cases q1 : 0 ≤ i
      · by_cases q3 : i < n
        · rw [itm_ok (by omega)]
          unfold Vl.D Cf.D
          simpa [ q1, q3]
        · rw [itm_ix (by omega)]
          unfold Vl.D Cf.D
          simpa [ q1, q3]
      · rw [itm_ix (by omega)]
        unfold Vl.D Cf.D
        simpa [ q1]
    · rw [itm_kind fun z => c2 z.2]
      simpa [ Vl.D0, Vl.tag_int, c1, c2]
      rfl
  · rw [itm_kind fun z => c1 z.1]
    simpa [ Vl.D0, Vl.tag_int, c1]
    rfl
def plO (o : Ob) (c : Int) : PyData := .tuple [.tuple (o.task.map .int), .int o.n, .int c]
theorem place_in_eq (o : Ob) (c : Int) : m_place_in [o.D, .int c] = some (plO o c) := by
  unfold m_place_in b_place_in Ob.D plO
  simpa []
theorem law_cell_of_eq (o : Ob) (c : Int) : m__law_cell_of [o.D, .int c] = some (plO o c) := by
  unfold m__law_cell_of b__law_cell_of Ob.D plO
  simpa []
theorem okD_pl {n : Nat} {o : Ob} (h : o.ok) (c : Int) : okD (n + 2) (plO o c) = true := by
  have h1 : o.task.length ≤ 1000 := Nat.le_trans h (by decide)
  simp [plO, okD, List.all_map, Function.comp_def, h1]
def rdD (s : Lo) (o : Ob) (op : List Vl) : Cf → PyData
  | .ok n => .tuple [.str "read", plO o n, (s.on op).D]
  | .er w => thrownD s.tp.D s.ct (.tuple [.str "text", .str w])
def wrD (s : Lo) (o : Ob) (v : Vl) (op : List Vl) : Cf → PyData
  | .ok n => .tuple [.str "write", plO o n, v.D, (s.on op).D]
  | .er w => thrownD s.tp.D s.ct (.tuple [.str "text", .str w])
section
variable (s : Lo) (hc : s.ct.length ≤ 1000) (o : Ob) (v : Vl) (op : List Vl) (c : Cf)
include hc
theorem read_cell_eq : m_read_cell [s.D, o.D, c.D, .tuple (op.map Vl.D)] = some (rdD s o op c) := by
  unfold m_read_cell b_read_cell
  cases c with
  | ok n =>
    unfold Cf.D rdD
    simpa [ place_in_eq, gone_on_eq]
  | er w =>
    unfold Cf.D rdD
    simpa [ fault_lo s hc]
theorem law_reading_eq : m__law_reading [s.D, o.D, c.D, .tuple (op.map Vl.D)] = some (rdD s o op c) := by
  unfold m__law_reading b__law_reading
  cases c with
  | ok n =>
    unfold Cf.D rdD
    simpa [ law_cell_of_eq, goes_eq]
  | er w =>
    unfold Cf.D rdD
    simpa [ law_error_lo s hc]
theorem write_cell_eq : m_write_cell [s.D, o.D, c.D, v.D, .tuple (op.map Vl.D)] = some (wrD s o v op c) := by
  unfold m_write_cell b_write_cell
  cases c with
  | ok n =>
    unfold Cf.D wrD
    simpa [ place_in_eq, gone_on_eq]
  | er w =>
    unfold Cf.D wrD
    simpa [ fault_lo s hc]
theorem law_writing_eq : m__law_writing [s.D, o.D, c.D, v.D, .tuple (op.map Vl.D)] = some (wrD s o v op c) := by
  unfold m__law_writing b__law_writing
  cases c with
  | ok n =>
    unfold Cf.D wrD
    simpa [ law_cell_of_eq, goes_eq]
  | er w =>
    unfold Cf.D wrD
    simpa [ law_error_lo s hc]
end
theorem okD_rd {s : Lo} (hs : s.ok) {o : Ob} (ho : o.ok) {op : List Vl} (hv : ∀ v ∈ op, v.ok) (hl : op.length ≤ 1000) (c : Cf) : okD 8 (rdD s o op c) = true := by
  cases c with
  | ok n => exact okD_three (by simp [okD]) (okD_mono (okD_pl (n := 0) ho n) (by decide)) (okD_lo (n := 2) (Lo.ok_on hs hv) hl)
  | er w => exact okD_thr hs (by simp [okD])
theorem okD_wr {s : Lo} (hs : s.ok) {o : Ob} (ho : o.ok) {v : Vl} (hw : v.ok) {op : List Vl} (hv : ∀ v ∈ op, v.ok) (hl : op.length ≤ 1000) (c : Cf) : okD 8 (wrD s o v op c) = true := by
  cases c with
  | ok n => exact okD_four (by simp [okD]) (okD_mono (okD_pl (n := 0) ho n) (by decide)) (okD_mono (okD_vl (n := 0) hw) (by decide)) (okD_lo (n := 2) (Lo.ok_on hs hv) hl)
  | er w => exact okD_thr hs (by simp [okD])

def E0 : PyData := .tuple []
theorem vsz {s : Lo} {op t : List Vl} (h : s.op = op ++ t) : oIx s.D (.int 1) = some (.tuple ((op ++ t).map Vl.D)) := by rw [Lo.x1, h]
section
variable {s : Lo} {x : Vl} {t : List Vl} (hs : s.ok) (hop : s.op = x :: t) (hl : t.length ≤ 900)
include hs hop hl
theorem s_x1 : oIx s.D (.int 1) = some (.tuple (x.D :: t.map Vl.D)) := by rw [Lo.x1, hop]; rfl
theorem s_v : x.ok ∧ ∀ v ∈ t, v.ok := by
  have := hs.op
  rw [hop] at this
  exact ⟨this x List.mem_cons_self, fun v hv => this v (List.mem_cons_of_mem _ hv)⟩
theorem s_ol : s.op.length ≤ 1000 := by rw [hop, List.length_cons]; omega
theorem goes_now : m__law_goes [s.D, .tuple (x.D :: t.map Vl.D)] = some (s.on (x :: t)).D := goes_eq s (x :: t)
theorem okD_now : okD 7 (s.on (x :: t)).D = true := okD_lo (n := 2) (Lo.ok_on hs (by rw [← hop]; exact hs.op)) (by show (x :: t).length ≤ 1000; rw [List.length_cons]; omega)
theorem due_make {rs : List Rc} : Due (.tuple [.str "make"]) (rcD rs) E0 s (m__law_due [.tuple [.str "make"], s.D, rcD rs]) := by
  have hx := s_x1 hs hop hl
  have h1 := gone_on_eq s (x :: t)
  have h2 := goes_now hs hop hl
  rw [List.map_cons] at h1
  refine due_mk (j := 21) (d := .tuple [.str "make", .str "operand", (s.on (x :: t)).D]) ?_ (by decide) (fun p _ => ?_) (okD_three (by simp [okD]) (by simp [okD]) (okD_now hs hop hl)) ?_
  · unfold actTab tab_COMPUTING tab_REACHING
    simpa []
  · rw [fn_21]
    unfold m_do_make b_do_make
    simpa [ hx, h1]
  · unfold m__law_due b__law_due
    simpa [ hx, h2]
def kindD (s : Lo) (t : List Vl) : Vl → PyData
  | .ob o => .tuple [.str "read", plO o 0, (s.on (.ob o :: t)).D]
  | _ => thrownD s.tp.D s.ct (.tuple [.str "text", .str "kind"])
theorem due_kind {rs : List Rc} : Due (.tuple [.str "kind"]) (rcD rs) E0 s (m__law_due [.tuple [.str "kind"], s.D, rcD rs]) := by
  have hx := s_x1 hs hop hl
  have hcl : s.ct.length ≤ 1000 := Nat.le_trans hs.lc (by decide)
  have h1 := gone_on_eq s (x :: t)
  have h2 := goes_now hs hop hl
  have h5 := fault_lo s hcl "kind"
  have h6 := law_error_lo s hcl "kind"
  rw [List.map_cons] at h1
  have hn := okD_now hs hop hl
  have hk : okD 8 (kindD s t x) = true := by
    have hv := (s_v hs hop hl).1
    cases x with
    | ob o => exact okD_three (by simp [okD]) (okD_mono (okD_pl (n := 0) hv 0) (by decide)) hn
    | _ => exact okD_thr hs (by simp [okD])
  refine due_mk (j := 15) (d := kindD s t x) ?_ (by decide) (fun p _ => ?_) hk ?_
  · unfold actTab tab_COMPUTING tab_REACHING
    simpa []
  · rw [fn_15]
    unfold m_do_kind b_do_kind
    by_cases c : x.isO = true
    · obtain ⟨o, rfl⟩ := isO_eq c
      have e : (Vl.ob o).D = o.D := rfl
      have e0 : oIx o.D (.int 0) = some (.str "object") := rfl
      rw [e] at hx h1
      simpa [ hx, e0, place_in_eq, h1]
      rfl
    · simpa [ hx, Vl.D0, Vl.tag_object, c, h5]
      cases x <;> first | rfl | exact absurd rfl c
  · unfold m__law_due b__law_due
    by_cases c : x.isO = true
    · obtain ⟨o, rfl⟩ := isO_eq c
      have e : (Vl.ob o).D = o.D := rfl
      have e0 : oIx o.D (.int 0) = some (.str "object") := rfl
      rw [e] at hx h2
      simpa [ hx, e0, law_cell_of_eq, h2]
      rfl
    · simpa [ hx, h2, Vl.D0, Vl.tag_object, c, h6]
      cases x <;> first | rfl | exact absurd rfl c
def sizedD (s : Lo) (t : List Vl) : Vl → PyData
  | .int i => qtD (s.on (.int i :: t))
  | _ => thrownD s.tp.D s.ct (.tuple [.str "text", .str "kind"])
theorem due_sized {rs : List Rc} : Due (.tuple [.str "sized"]) (rcD rs) E0 s (m__law_due [.tuple [.str "sized"], s.D, rcD rs]) := by
  have hx := s_x1 hs hop hl
  have hcl : s.ct.length ≤ 1000 := Nat.le_trans hs.lc (by decide)
  have h1 := gone_on_eq s (x :: t)
  have h2 := goes_now hs hop hl
  have h5 := fault_lo s hcl "kind"
  have h6 := law_error_lo s hcl "kind"
  rw [List.map_cons] at h1
  have hn := okD_now hs hop hl
  have hk : okD 8 (sizedD s t x) = true := by
    cases x with
    | int i => exact okD_two (by simp [okD]) hn
    | _ => exact okD_thr hs (by simp [okD])
  refine due_mk (j := 8) (d := sizedD s t x) ?_ (by decide) (fun p _ => ?_) hk ?_
  · unfold actTab tab_COMPUTING
    simpa []
  · rw [fn_8]
    unfold m_do_sized b_do_sized
    by_cases c : x.isI = true
    · obtain ⟨i, rfl⟩ := isI_eq c
      simpa [ hx, Vl.D0, Vl.tag_int, c, h1]
      rfl
    · simpa [ hx, Vl.D0, Vl.tag_int, c, h5]
      cases x <;> first | rfl | exact absurd rfl c
  · unfold m__law_due b__law_due
    by_cases c : x.isI = true
    · obtain ⟨i, rfl⟩ := isI_eq c
      simpa [ hx, Vl.D0, Vl.tag_int, c, h2]
      rfl
    · simpa [ hx, h2, Vl.D0, Vl.tag_int, c, h6]
      cases x <;> first | rfl | exact absurd rfl c
def szR : Vl → Re
  | .int i => if 0 ≤ i ∧ i ≤ 40 then .ok (.int i) else .er "size"
  | _ => .er "kind"
omit hs hop hl in
theorem sz_ok {i : Int} (h : 0 ≤ i ∧ i ≤ 40) : szR (.int i) = .ok (.int i) := if_pos h
omit hs hop hl in
theorem sz_no {i : Int} (h : ¬ (0 ≤ i ∧ i ≤ 40)) : szR (.int i) = .er "size" := if_neg h
omit hs hop hl in
theorem array_size_eq (v : Vl) : m_array_size [v.D] = some (szR v).D := by
  unfold m_array_size b_array_size k_KIND_cells k_ITEMS
  by_cases c : v.isI = true
  · obtain ⟨i, rfl⟩ := isI_eq c
    by_cases q1 : i < 0
    · rw [sz_no (by omega)]
      unfold Vl.D Re.D
      simpa [ q1]
    · by_cases q2 : 40 < i
      · rw [sz_no (by omega)]
        unfold Vl.D Re.D
        simpa [ q1, q2]
      · rw [sz_ok (by omega)]
        unfold Vl.D Re.D
        simpa [ q1, q2]
        rfl
  · have : szR v = .er "kind" := by cases v <;> first | rfl | exact absurd rfl c
    rw [this]
    simpa [ Vl.D0, Vl.tag_int, c]
    rfl
theorem due_check_size {rs : List Rc} : Due (.tuple [.str "check_size"]) (rcD rs) E0 s (m__law_due [.tuple [.str "check_size"], s.D, rcD rs]) := by
  have hx := s_x1 hs hop hl
  have hcl : s.ct.length ≤ 1000 := Nat.le_trans hs.lc (by decide)
  have h1 := put_answer_eq s t (by omega) hcl (szR x)
  have h2 := goes_now hs hop hl
  have hv := s_v hs hop hl
  have hf : (szR x).fine := by
    cases x with
    | int i =>
      by_cases q : 0 ≤ i ∧ i ≤ 40
      · rw [sz_ok q]
        exact hv.1
      · rw [sz_no q]
        exact True.intro
    | _ => exact True.intro
  refine due_mk (j := 9) (d := ansD s t (szR x)) ?_ (by decide) (fun p _ => ?_) (okD_ans hs hv.2 (by omega) hf) ?_
  · unfold actTab tab_COMPUTING
    simpa []
  · rw [fn_9]
    unfold m_do_check_size b_do_check_size
    simpa [ hx, array_size_eq, h1]
  · unfold m__law_due b__law_due
    by_cases c : x.isI = true
    · obtain ⟨i, rfl⟩ := isI_eq c
      have h6 := law_error_lo s hcl "size"
      have e : (Vl.int i).D = .tuple [.str "int", .int i] := rfl
      rw [e] at hx h2
      by_cases q1 : 0 ≤ i
      · by_cases q2 : i ≤ 40
        · rw [sz_ok ⟨q1, q2⟩]
          simpa [ hx, h2, q1, q2]
          rfl
        · rw [sz_no (by omega)]
          simpa [ hx, h2, q1, q2, h6]
          rfl
      · rw [sz_no (by omega)]
        simpa [ hx, h2, q1, h6]
        rfl
    · have h6 := law_error_lo s hcl "kind"
      have e : szR x = .er "kind" := by cases x <;> first | rfl | exact absurd rfl c
      rw [e]
      simpa [ hx, h2, Vl.D0, Vl.tag_int, c, h6]
      rfl
def sizeD (s : Lo) (t : List Vl) : Vl → PyData
  | .ob o => .tuple [.str "read", plO o 0, (s.on t).D]
  | .text z => qtD (s.on (.int z.length :: t))
  | _ => thrownD s.tp.D s.ct (.tuple [.str "text", .str "kind"])
theorem due_size {rs : List Rc} : Due (.tuple [.str "size"]) (rcD rs) E0 s (m__law_due [.tuple [.str "size"], s.D, rcD rs]) := by
  have hx := s_x1 hs hop hl
  have hcl : s.ct.length ≤ 1000 := Nat.le_trans hs.lc (by decide)
  have h1 := gone_on_eq s t
  have h2 := goes_now hs hop hl
  have h3 := goes_eq s t
  have h5 := fault_lo s hcl "kind"
  have h6 := law_error_lo s hcl "kind"
  have hv := s_v hs hop hl
  have hk : okD 8 (sizeD s t x) = true := by
    have hv1 := hv.1
    cases x with
    | ob o => exact okD_three (by simp [okD]) (okD_mono (okD_pl (n := 0) hv1 0) (by decide)) (okD_lo (n := 2) (Lo.ok_on hs hv.2) (by show t.length ≤ 1000; omega))
    | text z =>
      have hz : (Vl.int (z.length : Int)).ok := by
        have := hv1.1
        show ((z.length : Int)).natAbs < 10 ^ 60
        omega
      exact okD_ans hs hv.2 (by omega) (r := .ok (.int z.length)) hz
    | _ => exact okD_thr hs (by simp [okD])
  refine due_mk (j := 20) (d := sizeD s t x) ?_ (by decide) (fun p _ => ?_) hk ?_
  · unfold actTab tab_COMPUTING tab_REACHING
    simpa []
  · rw [fn_20]
    unfold m_do_size b_do_size
    by_cases c : x.isO = true
    · obtain ⟨o, rfl⟩ := isO_eq c
      have e : (Vl.ob o).D = o.D := rfl
      have e0 : oIx o.D (.int 0) = some (.str "object") := rfl
      rw [e] at hx
      simpa [ hx, e0, place_in_eq, h1]
      rfl
    · by_cases c2 : x.isT = true
      · obtain ⟨z, rfl⟩ := isT_eq c2
        have hz : z.length ≤ 1000000 := Nat.le_trans hv.1.1 (by decide)
        have h7 := put_eq s (.int z.length) t (by omega)
        have e : (Vl.text z).D = .tuple [.str "text", .str z] := rfl
        have e2 : (Vl.int (z.length : Int)).D = .tuple [.str "int", .int z.length] := rfl
        rw [e] at hx
        rw [e2] at h7
        simpa [ hx, hz, h7]
        rfl
      · simpa [ hx, Vl.D0, Vl.tag_object, Vl.tag_text, c, c2, h5]
        cases x <;> first | rfl | exact absurd rfl c | exact absurd rfl c2
  · unfold m__law_due b__law_due
    by_cases c : x.isO = true
    · obtain ⟨o, rfl⟩ := isO_eq c
      have e : (Vl.ob o).D = o.D := rfl
      have e0 : oIx o.D (.int 0) = some (.str "object") := rfl
      rw [e] at hx h2
      simpa [ hx, e0, law_cell_of_eq, h2, h3]
      rfl
    · by_cases c2 : x.isT = true
      · obtain ⟨z, rfl⟩ := isT_eq c2
        have hz : z.length ≤ 1000000 := Nat.le_trans hv.1.1 (by decide)
        have h7 := goes_eq s (.int z.length :: t)
        have e : (Vl.text z).D = .tuple [.str "text", .str z] := rfl
        have e2 : (Vl.int (z.length : Int)).D = .tuple [.str "int", .int z.length] := rfl
        have hl3 : 1 + (t.map Vl.D).length ≤ 1000000 := by rw [List.length_map]; omega
        rw [e] at hx h2
        rw [List.map_cons, e2] at h7
        simpa [ hx, h2, hz, h7, hl3]
        rfl
      · simpa [ hx, h2, Vl.D0, Vl.tag_object, Vl.tag_text, c, c2, h6]
        cases x <;> first | rfl | exact absurd rfl c | exact absurd rfl c2
end
section
variable {s : Lo} {o : Ob} {t : List Vl} (hs : s.ok) (hop : s.op = .ob o :: t) (hl : t.length ≤ 900)
include hs hop hl
theorem due_tag {rs : List Rc} {nm : Str} : Due (.tuple [.str "tag", .str nm]) (rcD rs) E0 s (m__law_due [.tuple [.str "tag", .str nm], s.D, rcD rs]) := by
  have hx := s_x1 hs hop hl
  have h1 := gone_on_eq s (.ob o :: t)
  have h2 := goes_now hs hop hl
  rw [List.map_cons] at h1
  have e : (Vl.ob o).D = o.D := rfl
  have e0 : oIx o.D (.int 0) = some (.str "object") := rfl
  have hv := (s_v hs hop hl).1
  have hn := okD_now hs hop hl
  rw [e] at hx h1 h2
  refine due_mk (j := 22) (d := .tuple [.str "write", plO o 0, .tuple [.str "text", .str nm], (s.on (.ob o :: t)).D]) ?_ (by decide) (fun p _ => ?_) (okD_four (by simp [okD]) (okD_mono (okD_pl (n := 0) hv 0) (by decide)) (by simp [okD]) hn) ?_
  · unfold actTab tab_COMPUTING tab_REACHING
    simpa []
  · rw [fn_22]
    unfold m_do_tag b_do_tag
    simpa [ hx, place_in_eq, h1]
  · unfold m__law_due b__law_due
    simpa [ hx, e0, law_cell_of_eq, h2]
theorem due_tag_size {rs : List Rc} {y : Vl} {u : List Vl} (ht : t = y :: u) : Due (.tuple [.str "tag_size"]) (rcD rs) E0 s (m__law_due [.tuple [.str "tag_size"], s.D, rcD rs]) := by
  subst ht
  have hx := s_x1 hs hop hl
  have h1 := gone_on_eq s (.ob o :: u)
  have h2 := goes_now hs hop hl
  have h3 := goes_eq s (.ob o :: u)
  have e : (Vl.ob o).D = o.D := rfl
  have e0 : oIx o.D (.int 0) = some (.str "object") := rfl
  have hv := s_v hs hop hl
  have hl3 : 1 + (u.map Vl.D).length ≤ 1000000 := by rw [List.length_map]; rw [List.length_cons] at hl; omega
  rw [List.map_cons] at h1 h2 h3 hx
  rw [e] at hx h1 h2 h3
  have hn : okD 7 (s.on (.ob o :: u)).D = true := okD_lo (n := 2) (Lo.ok_on hs (fun v h => by
    rcases List.mem_cons.mp h with q | q
    · rw [q]
      exact hv.1
    · exact hv.2 v (List.mem_cons_of_mem _ q))) (by show (Vl.ob o :: u).length ≤ 1000; rw [List.length_cons] at hl ⊢; omega)
  have hy := okD_mono (okD_vl (n := 0) (hv.2 y List.mem_cons_self)) (show 2 ≤ 7 by decide)
  refine due_mk (j := 23) (d := .tuple [.str "write", plO o 0, y.D, (s.on (.ob o :: u)).D]) ?_ (by decide) (fun p _ => ?_) (okD_four (by simp [okD]) (okD_mono (okD_pl (n := 0) hv.1 0) (by decide)) hy hn) ?_
  · unfold actTab tab_COMPUTING tab_REACHING
    simpa []
  · rw [fn_23]
    unfold m_do_tag_size b_do_tag_size
    simpa [ hx, place_in_eq, h1, hl3]
  · unfold m__law_due b__law_due
    simpa [ hx, e0, law_cell_of_eq, h2, h3, hl3]
end
section
variable {s : Lo} {h : Vl} {o : Ob} {t : List Vl} {rs : List Rc} {nm : Str} (hs : s.ok) (hl : t.length ≤ 900) (hr : ∀ r ∈ rs, r.ok)
include hs hl hr
theorem due_field (hop : s.op = h :: .ob o :: t) : Due (.tuple [.str "field", .str nm]) (rcD rs) E0 s (m__law_due [.tuple [.str "field", .str nm], s.D, rcD rs]) := by
  have hcl : s.ct.length ≤ 1000 := Nat.le_trans hs.lc (by decide)
  have e : (Vl.ob o).D = o.D := rfl
  have hx : oIx s.D (.int 1) = some (.tuple (h.D :: o.D :: t.map Vl.D)) := by rw [Lo.x1, hop]; rfl
  have h2 : m__law_goes [s.D, .tuple (h.D :: o.D :: t.map Vl.D)] = some (s.on (h :: .ob o :: t)).D := goes_eq s (h :: .ob o :: t)
  have hv : h.ok ∧ (Vl.ob o).ok ∧ ∀ v ∈ t, v.ok := by
    have := hs.op
    rw [hop] at this
    exact ⟨this _ (by simp), this _ (by simp), fun v hv => this v (by simp [hv])⟩
  have h3 := field_cell_eq rs hr h hv.1 nm
  have h4 := law_field_eq rs hr h hv.1 nm
  refine due_mk (j := 16) (d := rdD s o t (fld h nm rs)) ?_ (by decide) (fun p hp => ?_) (okD_rd hs hv.2.1 hv.2.2 (by omega) _) ?_
  · unfold actTab tab_COMPUTING tab_REACHING
    simpa []
  · rw [fn_16]
    have hf : fldM 0 "records" p = some (.imm (rcD rs)) := by
      rw [hp]
      unfold proM
      simpa []
    unfold m_do_field b_do_field
    simpa [ hx, hf, h3, read_cell_eq s hcl]
  · unfold m__law_due b__law_due m__law_due_cells b__law_due_cells
    simpa [ hx, h2, h4, Vl.D0, law_reading_eq s hcl]
theorem due_set_field {y : Vl} (hop : s.op = y :: h :: .ob o :: t) : Due (.tuple [.str "set_field", .str nm]) (rcD rs) E0 s (m__law_due [.tuple [.str "set_field", .str nm], s.D, rcD rs]) := by
  have hcl : s.ct.length ≤ 1000 := Nat.le_trans hs.lc (by decide)
  have e : (Vl.ob o).D = o.D := rfl
  have hx : oIx s.D (.int 1) = some (.tuple (y.D :: h.D :: o.D :: t.map Vl.D)) := by rw [Lo.x1, hop]; rfl
  have h2 : m__law_goes [s.D, .tuple (y.D :: h.D :: o.D :: t.map Vl.D)] = some (s.on (y :: h :: .ob o :: t)).D := goes_eq s (y :: h :: .ob o :: t)
  have hv : y.ok ∧ h.ok ∧ (Vl.ob o).ok ∧ ∀ v ∈ t, v.ok := by
    have := hs.op
    rw [hop] at this
    exact ⟨this _ (by simp), this _ (by simp), this _ (by simp), fun v hv => this v (by simp [hv])⟩
  have h3 := field_cell_eq rs hr h hv.2.1 nm
  have h4 := law_field_eq rs hr h hv.2.1 nm
  refine due_mk (j := 18) (d := wrD s o y t (fld h nm rs)) ?_ (by decide) (fun p hp => ?_) (okD_wr hs hv.2.2.1 hv.1 hv.2.2.2 (by omega) _) ?_
  · unfold actTab tab_COMPUTING tab_REACHING
    simpa []
  · rw [fn_18]
    have hf : fldM 0 "records" p = some (.imm (rcD rs)) := by
      rw [hp]
      unfold proM
      simpa []
    unfold m_do_set_field b_do_set_field
    simpa [ hx, hf, h3, write_cell_eq s hcl]
  · unfold m__law_due b__law_due m__law_due_cells b__law_due_cells
    simpa [ hx, h2, h4, Vl.D0, law_writing_eq s hcl]
omit hr in
theorem due_item {a : Vl} (hop : s.op = a :: h :: .ob o :: t) : Due (.tuple [.str "item"]) (rcD rs) E0 s (m__law_due [.tuple [.str "item"], s.D, rcD rs]) := by
  have hcl : s.ct.length ≤ 1000 := Nat.le_trans hs.lc (by decide)
  have hx : oIx s.D (.int 1) = some (.tuple (a.D :: h.D :: o.D :: t.map Vl.D)) := by rw [Lo.x1, hop]; rfl
  have h2 : m__law_goes [s.D, .tuple (a.D :: h.D :: o.D :: t.map Vl.D)] = some (s.on (a :: h :: .ob o :: t)).D := goes_eq s (a :: h :: .ob o :: t)
  have hv : (Vl.ob o).ok ∧ ∀ v ∈ t, v.ok := by
    have := hs.op
    rw [hop] at this
    exact ⟨this _ (by simp), fun v hv => this v (by simp [hv])⟩
  refine due_mk (j := 17) (d := rdD s o t (itm h a)) ?_ (by decide) (fun p hp => ?_) (okD_rd hs hv.1 hv.2 (by omega) _) ?_
  · unfold actTab tab_COMPUTING tab_REACHING
    simpa []
  · rw [fn_17]
    unfold m_do_item b_do_item
    simpa [ hx, item_cell_eq, read_cell_eq s hcl]
  · unfold m__law_due b__law_due m__law_due_cells b__law_due_cells
    simpa [ hx, h2, law_item_eq, Vl.D0, law_reading_eq s hcl]
omit hr in
theorem due_set_item {y a : Vl} (hop : s.op = y :: a :: h :: .ob o :: t) : Due (.tuple [.str "set_item"]) (rcD rs) E0 s (m__law_due [.tuple [.str "set_item"], s.D, rcD rs]) := by
  have hcl : s.ct.length ≤ 1000 := Nat.le_trans hs.lc (by decide)
  have hx : oIx s.D (.int 1) = some (.tuple (y.D :: a.D :: h.D :: o.D :: t.map Vl.D)) := by rw [Lo.x1, hop]; rfl
  have h2 : m__law_goes [s.D, .tuple (y.D :: a.D :: h.D :: o.D :: t.map Vl.D)] = some (s.on (y :: a :: h :: .ob o :: t)).D := goes_eq s (y :: a :: h :: .ob o :: t)
  have hv : y.ok ∧ (Vl.ob o).ok ∧ ∀ v ∈ t, v.ok := by
    have := hs.op
    rw [hop] at this
    exact ⟨this _ (by simp), this _ (by simp), fun v hv => this v (by simp [hv])⟩
  refine due_mk (j := 19) (d := wrD s o y t (itm h a)) ?_ (by decide) (fun p hp => ?_) (okD_wr hs hv.2.1 hv.1 hv.2.2 (by omega) _) ?_
  · unfold actTab tab_COMPUTING tab_REACHING
    simpa []
  · rw [fn_19]
    unfold m_do_set_item b_do_set_item
    simpa [ hx, item_cell_eq, write_cell_eq s hcl]
  · unfold m__law_due b__law_due m__law_due_cells b__law_due_cells
    simpa [ hx, h2, law_item_eq, Vl.D0, law_writing_eq s hcl]
end

def fN (z : Int) : Str := Str.ofString "f" ++ Str.ofString (toString z)
def rN (z : Int) : Str := Str.ofString "r" ++ Str.ofString (toString z)
theorem small_str {z : Int} (h0 : 0 ≤ z) (h1 : z < 4) : z.natAbs.log2 < 1920 ∧ 1 + (Str.ofString (toString z)).length ≤ 1000000 ∧ txtOk (rN z) := by
  rcases (show z = 0 ∨ z = 1 ∨ z = 2 ∨ z = 3 by omega) with e | e | e | e <;> (subst e; exact ⟨by decide, by decide +kernel, by decide +kernel, by decide +kernel⟩)
theorem rec_in (ds : List Int) (a : Option M) (j : Nat) (hj : j < 4) (k : Nat) (f : Option M) : ∃ (fs : List Str) (k' : Nat) (f' : Option M), loopM (.nm 4) l1__law_records (rangeL 0 4) [some (BX ds k), a, some (.imm (.int (0 + (j : Nat)))), some (.imm (.tuple [])), f] = some (.ok .nx [some (BX ds k'), a, some (.imm (.int (0 + (j : Nat)))), some (.imm (.tuple (fs.map .str))), f']) ∧ fs.length ≤ 4 := by
  obtain ⟨ρ, h2, fs, k', f', rfl, h3⟩ := range_inv (k := 4) (mb := l1__law_records) (fun n ρ => ∃ (fs : List Str) (k' : Nat) (f : Option M), ρ = [some (BX ds k'), a, some (.imm (.int (0 + (j : Nat)))), some (.imm (.tuple (fs.map .str))), f] ∧ fs.length ≤ n) 0 4 [some (BX ds k), a, some (.imm (.int (0 + (j : Nat)))), some (.imm (.tuple [])), f] ⟨[], k, f, rfl, Nat.le_refl _⟩ (fun n ρ hn hp => by
    obtain ⟨fs, k', f, rfl, h⟩ := hp
    unfold l1__law_records
    by_cases c : dr ds k' 2 = 1
    · have m0 : 0 ≤ (0 + (n : Int) + (0 + (j : Int))).fmod 4 := Int.fmod_nonneg_of_pos _ (by decide)
      have m1 : (0 + (n : Int) + (0 + (j : Int))).fmod 4 < 4 := Int.fmod_lt_of_pos _ (by decide)
      obtain ⟨s1, s2, s3⟩ := small_str m0 m1
      have hl : (fs.map PyData.str).length ≤ 999999 := by rw [List.length_map]; omega
      simpa [ draw_eq, c, s1, s2, hl]
      exact ⟨_, rfl, fs ++ [fN ((0 + (n : Int) + (0 + (j : Int))).fmod 4)], _, _, (by rw [List.map_append]; rfl), (by rw [List.length_append]; simp only [List.length_cons, List.length_nil]; omega)⟩
    · simpa [ draw_eq, c]
      exact ⟨_, rfl, fs, _, _, rfl, by omega⟩)
  exact ⟨fs, k', f', h2, h3⟩
theorem records_eq (ds : List Int) (k : Nat) : ∃ (rs : List Rc) (k' : Nat), m__law_records [BX ds k] = some (.ok (.imm (rcD rs)) [BX ds k']) ∧ ∀ r ∈ rs, r.ok := by
  have h0 : 0 ≤ dr ds k 4 := dr_nn ds _ (by decide)
  have h1 : dr ds k 4 < 4 := dr_lt ds _ (by decide)
  obtain ⟨ρ, h2, rs, k', a, b, c, rfl, h3, h4⟩ := range_inv (k := 2) (mb := l2__law_records) (fun j ρ => ∃ (rs : List Rc) (k' : Nat) (a b c : Option M), ρ = [some (BX ds k'), some (.imm (.tuple (rs.map Rc.D))), a, b, c] ∧ rs.length = j ∧ ∀ r ∈ rs, r.ok) 0 (dr ds k 4).toNat [some (BX ds (k + 1)), some (.imm (.tuple [])), none, none, none] ⟨[], k + 1, none, none, none, rfl, rfl, by simp⟩ (fun j ρ hj hp => by
    obtain ⟨rs, k', a, b, c, rfl, h, ho⟩ := hp
    obtain ⟨fs, k2, f', e1, e2⟩ := rec_in ds (some (.imm (.tuple (rs.map Rc.D)))) j (by omega) k' c
    obtain ⟨s1, s2, s3⟩ := small_str (z := 0 + (j : Int)) (by omega) (by omega)
    have hl : (rs.map Rc.D).length ≤ 999999 := by rw [List.length_map]; omega
    unfold l2__law_records
    simpa [ e1, s1, s2, hl]
    refine ⟨_, rfl, rs ++ [⟨rN (0 + (j : Int)), fs⟩], _, _, _, _, (by rw [List.map_append]; rfl), (by rw [List.length_append, h]; rfl), fun r hr => ?_⟩
    rcases List.mem_append.mp hr with q | q
    · exact ho r q
    · rw [List.mem_singleton.mp q]
      exact ⟨s3, Nat.le_trans e2 (by decide)⟩)
  unfold m__law_records b__law_records
  simpa [ draw_eq, h2]
  exact ⟨rs, _, rfl, h4⟩
theorem held_eq (ds : List Int) (k : Nat) : ∃ (v : Vl) (k' : Nat), m__law_held [BX ds k] = some (.ok (.imm v.D) [BX ds k']) ∧ v.ok := by
  unfold m__law_held b__law_held
  have h0 : 0 ≤ dr ds (k + 1) 4 := dr_nn ds _ (by decide)
  have h1 : dr ds (k + 1) 4 < 4 := dr_lt ds _ (by decide)
  have g0 : 0 ≤ dr ds (k + 1) 9 := dr_nn ds _ (by decide)
  have g1 : dr ds (k + 1) 9 < 9 := dr_lt ds _ (by decide)
  obtain ⟨s1, s2, s3⟩ := small_str h0 h1
  by_cases c : dr ds k 5 < 2
  · simpa [ draw_eq, c, s1, s2]
    exact ⟨.text (rN (dr ds (k + 1) 4)), _, rfl, s3⟩
  · by_cases c2 : dr ds k 5 < 4
    · simpa [ draw_eq, c, c2]
      exact ⟨.int (dr ds (k + 1) 9), _, rfl, show (dr ds (k + 1) 9).natAbs < 10 ^ 60 by omega⟩
    · simpa [ draw_eq, c, c2, value_rw]
      exact ⟨vlV ds (k + 1), _, rfl, value_ok ds (k + 1)⟩
noncomputable def hdV (ds : List Int) (k : Nat) : Vl := (held_eq ds k).choose
noncomputable def hdK (ds : List Int) (k : Nat) : Nat := (held_eq ds k).choose_spec.choose
theorem held_rw (ds : List Int) (k : Nat) : m__law_held [BX ds k] = some (.ok (.imm (hdV ds k).D) [BX ds (hdK ds k)]) := (held_eq ds k).choose_spec.choose_spec.1
theorem held_ok (ds : List Int) (k : Nat) : (hdV ds k).ok := (held_eq ds k).choose_spec.choose_spec.2
theorem any_eq (z : Str) (ds : List Int) (k : Nat) : ∃ (v : Vl) (k' : Nat), m__law_any [BX ds k, .imm (.str z)] = some (.ok (.imm v.D) [BX ds k', .imm (.str z)]) ∧ v.ok := by
  unfold m__law_any b__law_any
  have g0 : 0 ≤ dr ds (k + 1) 50 := dr_nn ds _ (by decide)
  have g1 : dr ds (k + 1) 50 < 50 := dr_lt ds _ (by decide)
  by_cases c : dr ds k 4 = 0
  · simpa [ draw_eq, c, value_rw]
    exact ⟨vlV ds (k + 1), _, rfl, value_ok ds (k + 1)⟩
  · by_cases c2 : z = Str.ofString "object"
    · simpa [ draw_eq, c, c2, obj_rw]
      exact ⟨.ob (obV ds (k + 1)), _, rfl, obj_ok ds (k + 1)⟩
    · simpa [ draw_eq, c, c2]
      exact ⟨.int (dr ds (k + 1) 50 - 4), _, rfl, show (dr ds (k + 1) 50 - 4).natAbs < 10 ^ 60 by omega⟩
noncomputable def anV (z : Str) (ds : List Int) (k : Nat) : Vl := (any_eq z ds k).choose
noncomputable def anK (z : Str) (ds : List Int) (k : Nat) : Nat := (any_eq z ds k).choose_spec.choose
theorem any_rw (z : Str) (ds : List Int) (k : Nat) : m__law_any [BX ds k, .imm (.str z)] = some (.ok (.imm (anV z ds k).D) [BX ds (anK z ds k), .imm (.str z)]) := (any_eq z ds k).choose_spec.choose_spec.1
theorem any_ok (z : Str) (ds : List Int) (k : Nat) : (anV z ds k).ok := (any_eq z ds k).choose_spec.choose_spec.2
def Ops (z : Str) (P : PyData) : Prop := ∀ (ds : List Int) (k : Nat), ∃ (ops : List Vl) (k' : Nat), m__law_operands [BX ds k, .imm (.str z)] = some (.ok (.imm (.tuple (ops.map Vl.D))) [BX ds k', .imm (.str z)]) ∧ (∀ v ∈ ops, v.ok) ∧ ops.length ≤ 10 ∧
  ∀ (rs : List Rc) (s : Lo) (t : List Vl), (∀ r ∈ rs, r.ok) → s.ok → s.op = ops ++ t → t.length ≤ 2 → Due P (rcD rs) E0 s (m__law_due [P, s.D, rcD rs])
theorem one_ok {v : Vl} (h : v.ok) : ∀ u ∈ [v], u.ok := fun u hu => by rw [List.mem_singleton.mp hu]; exact h
theorem ops_one {z w : Str} (hz : (z = "kind" ∧ w = "object") ∨ (z = "size" ∧ w = "object") ∨ (z = "sized" ∧ w = "int") ∨ (z = "make" ∧ w = "int") ∨ (z = "check_size" ∧ w = "int")) (ds : List Int) (k : Nat) :
    m__law_operands [BX ds k, .imm (.str z)] = some (.ok (.imm (.tuple ([anV w ds k].map Vl.D))) [BX ds (anK w ds k), .imm (.str z)]) := by
  unfold m__law_operands b__law_operands
  rcases hz with ⟨e1, e2⟩ | ⟨e1, e2⟩ | ⟨e1, e2⟩ | ⟨e1, e2⟩ | ⟨e1, e2⟩ <;> (subst e1 e2; simpa [ any_rw])
theorem ops_kind : Ops "kind" (.tuple [.str "kind"]) := fun ds k => ⟨_, _, ops_one (w := "object") (by simp) ds k, one_ok (any_ok _ _ _), by simp, fun rs s t hr hs hop hl => due_kind (t := t) hs hop (by omega)⟩
theorem ops_size : Ops "size" (.tuple [.str "size"]) := fun ds k => ⟨_, _, ops_one (w := "object") (by simp) ds k, one_ok (any_ok _ _ _), by simp, fun rs s t hr hs hop hl => due_size (t := t) hs hop (by omega)⟩
theorem ops_sized : Ops "sized" (.tuple [.str "sized"]) := fun ds k => ⟨_, _, ops_one (w := "int") (by simp) ds k, one_ok (any_ok _ _ _), by simp, fun rs s t hr hs hop hl => due_sized (t := t) hs hop (by omega)⟩
theorem ops_make : Ops "make" (.tuple [.str "make"]) := fun ds k => ⟨_, _, ops_one (w := "int") (by simp) ds k, one_ok (any_ok _ _ _), by simp, fun rs s t hr hs hop hl => due_make (t := t) hs hop (by omega)⟩
theorem ops_check : Ops "check_size" (.tuple [.str "check_size"]) := fun ds k => ⟨_, _, ops_one (w := "int") (by simp) ds k, one_ok (any_ok _ _ _), by simp, fun rs s t hr hs hop hl => due_check_size (t := t) hs hop (by omega)⟩
theorem ops_field (nm : Str) : Ops "field" (.tuple [.str "field", .str nm]) := fun ds k => by
  refine ⟨[hdV ds k, .ob (obV ds (hdK ds k))], obK ds (hdK ds k), ?_, ?_, by simp, fun rs s t hr hs hop hl => due_field (t := t) hs (by omega) hr hop⟩
  · unfold m__law_operands b__law_operands
    simpa [ held_rw, obj_rw]
    rfl
  · intro v hv
    simp only [List.mem_cons, List.not_mem_nil, or_false] at hv
    rcases hv with q | q
    · rw [q]
      exact held_ok _ _
    · rw [q]
      exact obj_ok _ _
theorem ops_item : Ops "item" (.tuple [.str "item"]) := fun ds k => by
  refine ⟨[anV "int" ds k, hdV ds (anK "int" ds k), .ob (obV ds (hdK ds (anK "int" ds k)))], obK ds (hdK ds (anK "int" ds k)), ?_, ?_, by simp, fun rs s t hr hs hop hl => due_item (t := t) hs (by omega) hop⟩
  · unfold m__law_operands b__law_operands
    simpa [ held_rw, obj_rw, any_rw]
    rfl
  · intro v hv
    simp only [List.mem_cons, List.not_mem_nil, or_false] at hv
    rcases hv with q | q | q
    · rw [q]
      exact any_ok _ _ _
    · rw [q]
      exact held_ok _ _
    · rw [q]
      exact obj_ok _ _
theorem ops_tag (nm : Str) : Ops "tag" (.tuple [.str "tag", .str nm]) := fun ds k => by
  refine ⟨[.ob (obV ds k)], obK ds k, ?_, one_ok (v := .ob _) (obj_ok _ _), by simp, fun rs s t hr hs hop hl => due_tag (t := t) hs hop (by omega)⟩
  unfold m__law_operands b__law_operands
  simpa [ obj_rw]
  rfl
theorem ops_tag_size : Ops "tag_size" (.tuple [.str "tag_size"]) := fun ds k => by
  have g0 : 0 ≤ dr ds (obK ds k) 41 := dr_nn ds _ (by decide)
  have g1 : dr ds (obK ds k) 41 < 41 := dr_lt ds _ (by decide)
  refine ⟨[.ob (obV ds k), .int (dr ds (obK ds k) 41)], obK ds k + 1, ?_, ?_, by simp, fun rs s t hr hs hop hl => due_tag_size (t := .int (dr ds (obK ds k) 41) :: t) hs hop (by rw [List.length_cons]; omega) rfl⟩
  · unfold m__law_operands b__law_operands
    simpa [ obj_rw, draw_eq]
    rfl
  · intro v hv
    simp only [List.mem_cons, List.not_mem_nil, or_false] at hv
    rcases hv with q | q
    · rw [q]
      exact obj_ok _ _
    · rw [q]
      show (dr ds (obK ds k) 41).natAbs < 10 ^ 60
      omega
theorem ops_set_field (nm : Str) : Ops "set_field" (.tuple [.str "set_field", .str nm]) := fun ds k => by
  refine ⟨[vlV ds (obK ds (hdK ds k)), hdV ds k, .ob (obV ds (hdK ds k))], vlK ds (obK ds (hdK ds k)), ?_, ?_, by simp, fun rs s t hr hs hop hl => due_set_field (t := t) hs (by omega) hr hop⟩
  · unfold m__law_operands b__law_operands
    simpa [ held_rw, obj_rw, value_rw]
    rfl
  · intro v hv
    simp only [List.mem_cons, List.not_mem_nil, or_false] at hv
    rcases hv with q | q | q
    · rw [q]
      exact value_ok _ _
    · rw [q]
      exact held_ok _ _
    · rw [q]
      exact obj_ok _ _
theorem ops_set_item : Ops "set_item" (.tuple [.str "set_item"]) := fun ds k => by
  refine ⟨[vlV ds (obK ds (hdK ds (anK "int" ds k))), anV "int" ds k, hdV ds (anK "int" ds k), .ob (obV ds (hdK ds (anK "int" ds k)))], vlK ds (obK ds (hdK ds (anK "int" ds k))), ?_, ?_, by simp, fun rs s t hr hs hop hl => due_set_item (t := t) hs (by omega) hop⟩
  · unfold m__law_operands b__law_operands
    simpa [ held_rw, obj_rw, any_rw, value_rw]
    rfl
  · intro v hv
    simp only [List.mem_cons, List.not_mem_nil, or_false] at hv
    rcases hv with q | q | q | q
    · rw [q]
      exact value_ok _ _
    · rw [q]
      exact any_ok _ _ _
    · rw [q]
      exact held_ok _ _
    · rw [q]
      exact obj_ok _ _
theorem turn_rest (z : Str) (P : PyData) (H : Ops z P) (ds : List Int) (k : Nat) (rs : List Rc) (hr : ∀ r ∈ rs, r.ok) (adr : Int) (h0 : 0 ≤ adr) (h1 : adr < 9) (a kl q7 q8 : Option M) : ∃ (k' : Nat) (p7 p8 : Option M), (seqM (sSetD 7 (xD (xCall 3 m__law_local (rSlot 1 (rVal (qM (eV 6)) (rVal (xD (xCall 2 m__law_operands (rSlot 1 (rVal (qM (eV 3)) rNil)))) rNil))))))
    (seqM (sSet 8 (xCall 4 m__law_program (rVal (qM (eV 5)) (rVal (qM (eV 6)) (rVal (qM (eV 4)) (rVal (qM (eTup aNil)) rNil))))))
    (ifM (notM (uM (dX (dCall 2 (m__law_same 9) (bCons (xD (xCall 2 m_action (rSlot 8 (rVal (qM (eV 7)) rNil)))) (bCons (qM (eCall 3 m__law_due (aCons (eV 5) (aCons (eV 7) (aCons (eV 4) aNil))))) bNil))))))
      (sRetD (qM (eC (.bool false))))
      endM))) [a, some (BX ds k), kl, some (.imm (.str z)), some (.imm (rcD rs)), some (.imm P), some (.imm (.int adr)), q7, q8] = some (.ok .nx [a, some (BX ds k'), kl, some (.imm (.str z)), some (.imm (rcD rs)), some (.imm P), some (.imm (.int adr)), p7, p8]) := by
  obtain ⟨ops, k1, e1, ho, hl, hd⟩ := H ds k
  obtain ⟨s, k3, e2, hs, ha, t, ht, hlt⟩ := local_eq ds k1 adr ops ho (by omega)
  have e3 := program_eq P (rcD rs) E0 adr h0 h1
  obtain ⟨d, g1, g2, g3⟩ := hd rs s t hr hs ht hlt adr.toNat (by omega)
  have g4 := same_refl 8 d g1
  unfold E0 at e3 g2
  simpa [ draw_eq, e1, e2, e3, g2, g3, g4]
  exact ⟨_, _, _, rfl⟩
def Good (z : Str) : Prop := if z = "field" ∨ z = "set_field" then ∀ nm, Ops z (.tuple [.str z, .str nm]) else if z = "tag" then ∀ nm, Ops z (.tuple [.str z, .str nm]) else Ops z (.tuple [.str z])
theorem law_turn (z : Str) (hz : Good z) (ds : List Int) (k : Nat) (a kl o4 o5 o6 o7 o8 : Option M) : ∃ (k' : Nat) (p4 p5 p6 p7 p8 : Option M), l1_law [a, some (BX ds k), kl, some (.imm (.str z)), o4, o5, o6, o7, o8] = some (.ok .nx [a, some (BX ds k'), kl, some (.imm (.str z)), p4, p5, p6, p7, p8]) := by
  obtain ⟨rs, k1, e1, hr⟩ := records_eq ds k
  have h0 : 0 ≤ dr ds k1 4 := dr_nn ds _ (by decide)
  have h1 : dr ds k1 4 < 4 := dr_lt ds _ (by decide)
  obtain ⟨s1, s2, s3⟩ := small_str h0 h1
  unfold Good at hz
  unfold l1_law
  by_cases c : z = "field" ∨ z = "set_field"
  · rw [if_pos c] at hz
    obtain ⟨k', p7, p8, r⟩ := turn_rest z _ (hz (fN (dr ds k1 4))) ds (k1 + 1 + 1) rs hr (dr ds (k1 + 1) 9) (dr_nn ds _ (by decide)) (dr_lt ds _ (by decide)) a kl o7 o8
    unfold fN at r
    rcases c with q | q
    · subst q
      simp -implicitDefEqProofs only [thB_ok, thB_none, thB_er, thI_ok, thI_none, thI_er, thS_nx, thS_rt, thS_bk, thS_ct, thS_none, thS_er, a_bind, a_pure, a_opt, a_qM, a_dX, a_dM, a_xD, a_pE, a_eP, a_eV, a_eC, a_e2, a_d2, a_e1, a_d1, a_aNil, a_aCons, a_bNil, a_bCons, a_eTup, a_dTup, a_bM, a_tM, a_tru_n, a_tru_b, a_tru_i, a_tru_s, a_tru_t, a_tru_l, a_uM, a_uP, a_and, a_or, a_not, a_if, a_kAnd, a_dAnd, a_kOr, a_dOr, a_kNot, a_dNot, o_add_i, o_add_s, o_add_t, o_I, o_sub, o_mul_i, o_mul_s, o_mul_t, o_mod, o_div, o_pow, o_lt, o_lt_s, o_le, o_gt, o_ge, q_ss, q_ii, q_bb, q_nn, o_eq, o_ne, isTup_n, isTup_b, isTup_i, isTup_s, isTup_t, isBool_n, isBool_b, isBool_i, isBool_s, isBool_t, isInt_n, isInt_b, isInt_i, isInt_s, isInt_t, isStr_n, isStr_b, isStr_i, isStr_s, isStr_t, n_n, n_b, n_i, n_s, n_t, o_is, o_isNot, in_nil, in_cons, o_in_t, o_notIn_t, at_0, at_1, at_2, at_3, at_4, o_ix_t, o_ix_s, o_sl_t, o_sl_s, cut_nat, cut_1, cut_2, cut_3, cut_4, cut_to2, cut_to3, cut_to4, o_neg, a_oN, a_kS, a_oS, a_dSl, a_eN, a_dN, o_int, o_str, o_abs, o_max, o_len_t, o_len_s, l_d, l_l, l_s, a_eLenP, a_dIsi, a_nm, a_tp, a_ps_nil, a_ps_cons, a_sSetD, a_sSet, a_sPat, a_sRetD, a_sRet, a_sRetV, a_sRetN, a_sDrop, a_seq, a_end, a_sAug, a_for, a_loop_nil, a_iT, a_tupL, a_iStr, a_iL, a_lstL, a_lstS, a_immN, a_immC, a_rng1, a_rng2, a_iR1, a_iR2, a_iEn, a_backN, a_backC, i_imm, i_scr, i_fn, i_fro, a_eCall, a_dCall, a_eCall0, a_rNil, a_rVal, a_rSlot, a_rOwn, t_nil, t_val, t_own, t_slot, p_nil, p_slot, p_val, p_own, c_ok, g_ok, a_xCall, a_sIdx, x_set, a_xApp, w_nil, w_val, w_own, a_xLst, x_l, x_s, x_d, a_pIx, a_eIx, a_dIxX, a_dIxV, a_forV, a_loopV_nil, f_ins, f_fro, a_pFld, a_kTab, a_tab, o_tabIn, o_tabNot, a_tabIn, a_tabNot, a_xCallV, a_dInX, a_dInP, in_l, tup_l, tup_d, a_dTupX, a_eTupP, a_chain, a_new, finX_rt, finX_nx, finD_rt, finD_nx, thL_none, thL_nx, thL_ct, thL_bk, thL_rt, thL_er, num_nil, range_nil, o_isB, o_isNotB, a_dLenX, a_xCatV, a_catV, thC_ok, thD_ok, a_xLc, w_0, w_c, o_index, a_runX, a_runD, ixN, tg_ne, tg_bne, lookup_ne, lookup_eq, ne_eq, le_most, dr_big, in_big, Nat.zero_le, CPow, Int.zero_le_ofNat, Int.reduceAbs, Nat.reducePow, and_self, List.getElem?_cons_zero, List.getElem?_cons_succ, List.getElem?_nil, List.set_cons_zero, List.set_cons_succ, List.set_nil, Option.join_some, Option.join_none, Option.map_some, Option.map_none, Option.bind_some, Option.bind_none, ite_true, ite_false, if_true, if_false, List.length_cons, List.length_nil, List.map_cons, List.map_nil, List.cons_append, List.nil_append, List.append_nil, List.replicate, List.replicate_succ, List.replicate_zero, Nat.reduceAdd, Nat.reduceSub, Nat.reduceEqDiff, Nat.reduceLeDiff, Bool.false_eq_true, Bool.not_true, Bool.not_false, reduceCtorEq, decide_true, decide_false, beq_self_eq_true, Bool.and_true, Bool.true_and, Bool.or_false, Bool.false_or, Bool.true_or, Bool.or_true, Bool.and_false, Bool.false_and, Nat.zero_add, Nat.add_zero, reduceIte, bne_self_eq_false, Option.some.injEq, List.contains_cons, List.contains_nil, Nat.reduceBEq, Nat.reduceBNe, Nat.reduceLT, Int.reduceEq, Int.reduceLT, Int.reduceLE, Int.reduceAdd, Int.reduceSub, Int.reduceMul, Int.reduceNeg, Int.reducePow, Int.reduceToNat, not_true_eq_false, not_false_eq_true, true_and, and_true, eq_self, decide_not, Bool.not_not, List.isEmpty_cons, List.lookup_nil, List.isEmpty_nil, Int.cast_ofNat_Int, Bool.not_eq_true, decide_eq_true_eq, Bool.not_eq_eq_eq_not, decide_eq_false_iff_not, Nat.reduceMod, Option.isSome_some, Option.isSome_none, List.drop_succ_cons, List.drop_zero, List.take_succ_cons, List.take_zero, List.isEmpty_iff, String.reduceEq, gt_iff_lt, ge_iff_le, k_INTEGER, k_ITEMS, k_KIND_cells, k_KIND_operators, k_NONE, k_RUN_CHARACTERS, fn_0, fn_1, fn_2, fn_3, fn_4, fn_5, fn_6, fn_7, fn_8, fn_9, fn_10, fn_11, fn_12, fn_13, fn_14, fn_15, fn_16, fn_17, fn_18, fn_19, fn_20, fn_21, fn_22, fn_23, fn_24, fn_25, fn_26, fn_27, fn_28, fn_29, fn_30, fn_31, fn_32, fn_33, fn_34, fn_35, fn_36, fn_37, tg_0, ln_0, tg_1, ln_1, tg_2, ln_2, tg_3, ln_3, tg_4, ln_4, tg_5, ln_5, tg_6, ln_6, tg_7, ln_7, tg_8, ln_8, tg_9, ln_9, tg_10, ln_10, tg_11, ln_11, tg_12, ln_12, tg_13, ln_13, tg_14, ln_14, tg_15, ln_15, tg_16, ln_16, tg_17, ln_17, tg_18, ln_18, tg_19, ln_19, tg_20, ln_20, tg_21, ln_21, tg_22, ln_22, tg_23, ln_23, tg_24, ln_24, tg_25, ln_25, tg_26, ln_26, tg_27, ln_27, tg_28, ln_28, tg_29, ln_29, tg_30, ln_30, tg_31, ln_31, tg_32, ln_32, tg_33, ln_33, tg_34, ln_34, tg_35, ln_35, tg_36, ln_36, tg_37, ln_37, tg_38, ln_38, tg_39, ln_39, tg_40, ln_40, tg_41, ln_41, tg_42, ln_42, tg_43, ln_43, tg_44, ln_44, tg_45, ln_45, tg_46, ln_46, tg_47, ln_47, tg_48, ln_48, tg_49, ln_49, tg_50, ln_50, tg_51, ln_51, tg_52, ln_52, tg_53, ln_53, tg_54, ln_54, tg_55, ln_55, tg_56, ln_56, tg_57, ln_57, tg_58, ln_58, tg_59, ln_59, tg_60, ln_60, tg_61, ln_61, tg_62, ln_62, tg_63, ln_63, tg_64, ln_64, tg_65, ln_65, tg_66, ln_66, tg_67, ln_67, tg_68, ln_68, tg_69, ln_69, tg_70, ln_70, tg_71, ln_71, tg_72, ln_72, tg_73, ln_73, tg_74, ln_74, tg_75, ln_75, tg_76, ln_76] at r
      simpa [ e1, draw_eq, s1, s2, r]
      exact ⟨_, _, _, _, _, _, rfl⟩
    · subst q
      simp -implicitDefEqProofs only [thB_ok, thB_none, thB_er, thI_ok, thI_none, thI_er, thS_nx, thS_rt, thS_bk, thS_ct, thS_none, thS_er, a_bind, a_pure, a_opt, a_qM, a_dX, a_dM, a_xD, a_pE, a_eP, a_eV, a_eC, a_e2, a_d2, a_e1, a_d1, a_aNil, a_aCons, a_bNil, a_bCons, a_eTup, a_dTup, a_bM, a_tM, a_tru_n, a_tru_b, a_tru_i, a_tru_s, a_tru_t, a_tru_l, a_uM, a_uP, a_and, a_or, a_not, a_if, a_kAnd, a_dAnd, a_kOr, a_dOr, a_kNot, a_dNot, o_add_i, o_add_s, o_add_t, o_I, o_sub, o_mul_i, o_mul_s, o_mul_t, o_mod, o_div, o_pow, o_lt, o_lt_s, o_le, o_gt, o_ge, q_ss, q_ii, q_bb, q_nn, o_eq, o_ne, isTup_n, isTup_b, isTup_i, isTup_s, isTup_t, isBool_n, isBool_b, isBool_i, isBool_s, isBool_t, isInt_n, isInt_b, isInt_i, isInt_s, isInt_t, isStr_n, isStr_b, isStr_i, isStr_s, isStr_t, n_n, n_b, n_i, n_s, n_t, o_is, o_isNot, in_nil, in_cons, o_in_t, o_notIn_t, at_0, at_1, at_2, at_3, at_4, o_ix_t, o_ix_s, o_sl_t, o_sl_s, cut_nat, cut_1, cut_2, cut_3, cut_4, cut_to2, cut_to3, cut_to4, o_neg, a_oN, a_kS, a_oS, a_dSl, a_eN, a_dN, o_int, o_str, o_abs, o_max, o_len_t, o_len_s, l_d, l_l, l_s, a_eLenP, a_dIsi, a_nm, a_tp, a_ps_nil, a_ps_cons, a_sSetD, a_sSet, a_sPat, a_sRetD, a_sRet, a_sRetV, a_sRetN, a_sDrop, a_seq, a_end, a_sAug, a_for, a_loop_nil, a_iT, a_tupL, a_iStr, a_iL, a_lstL, a_lstS, a_immN, a_immC, a_rng1, a_rng2, a_iR1, a_iR2, a_iEn, a_backN, a_backC, i_imm, i_scr, i_fn, i_fro, a_eCall, a_dCall, a_eCall0, a_rNil, a_rVal, a_rSlot, a_rOwn, t_nil, t_val, t_own, t_slot, p_nil, p_slot, p_val, p_own, c_ok, g_ok, a_xCall, a_sIdx, x_set, a_xApp, w_nil, w_val, w_own, a_xLst, x_l, x_s, x_d, a_pIx, a_eIx, a_dIxX, a_dIxV, a_forV, a_loopV_nil, f_ins, f_fro, a_pFld, a_kTab, a_tab, o_tabIn, o_tabNot, a_tabIn, a_tabNot, a_xCallV, a_dInX, a_dInP, in_l, tup_l, tup_d, a_dTupX, a_eTupP, a_chain, a_new, finX_rt, finX_nx, finD_rt, finD_nx, thL_none, thL_nx, thL_ct, thL_bk, thL_rt, thL_er, num_nil, range_nil, o_isB, o_isNotB, a_dLenX, a_xCatV, a_catV, thC_ok, thD_ok, a_xLc, w_0, w_c, o_index, a_runX, a_runD, ixN, tg_ne, tg_bne, lookup_ne, lookup_eq, ne_eq, le_most, dr_big, in_big, Nat.zero_le, CPow, Int.zero_le_ofNat, Int.reduceAbs, Nat.reducePow, and_self, List.getElem?_cons_zero, List.getElem?_cons_succ, List.getElem?_nil, List.set_cons_zero, List.set_cons_succ, List.set_nil, Option.join_some, Option.join_none, Option.map_some, Option.map_none, Option.bind_some, Option.bind_none, ite_true, ite_false, if_true, if_false, List.length_cons, List.length_nil, List.map_cons, List.map_nil, List.cons_append, List.nil_append, List.append_nil, List.replicate, List.replicate_succ, List.replicate_zero, Nat.reduceAdd, Nat.reduceSub, Nat.reduceEqDiff, Nat.reduceLeDiff, Bool.false_eq_true, Bool.not_true, Bool.not_false, reduceCtorEq, decide_true, decide_false, beq_self_eq_true, Bool.and_true, Bool.true_and, Bool.or_false, Bool.false_or, Bool.true_or, Bool.or_true, Bool.and_false, Bool.false_and, Nat.zero_add, Nat.add_zero, reduceIte, bne_self_eq_false, Option.some.injEq, List.contains_cons, List.contains_nil, Nat.reduceBEq, Nat.reduceBNe, Nat.reduceLT, Int.reduceEq, Int.reduceLT, Int.reduceLE, Int.reduceAdd, Int.reduceSub, Int.reduceMul, Int.reduceNeg, Int.reducePow, Int.reduceToNat, not_true_eq_false, not_false_eq_true, true_and, and_true, eq_self, decide_not, Bool.not_not, List.isEmpty_cons, List.lookup_nil, List.isEmpty_nil, Int.cast_ofNat_Int, Bool.not_eq_true, decide_eq_true_eq, Bool.not_eq_eq_eq_not, decide_eq_false_iff_not, Nat.reduceMod, Option.isSome_some, Option.isSome_none, List.drop_succ_cons, List.drop_zero, List.take_succ_cons, List.take_zero, List.isEmpty_iff, String.reduceEq, gt_iff_lt, ge_iff_le, k_INTEGER, k_ITEMS, k_KIND_cells, k_KIND_operators, k_NONE, k_RUN_CHARACTERS, fn_0, fn_1, fn_2, fn_3, fn_4, fn_5, fn_6, fn_7, fn_8, fn_9, fn_10, fn_11, fn_12, fn_13, fn_14, fn_15, fn_16, fn_17, fn_18, fn_19, fn_20, fn_21, fn_22, fn_23, fn_24, fn_25, fn_26, fn_27, fn_28, fn_29, fn_30, fn_31, fn_32, fn_33, fn_34, fn_35, fn_36, fn_37, tg_0, ln_0, tg_1, ln_1, tg_2, ln_2, tg_3, ln_3, tg_4, ln_4, tg_5, ln_5, tg_6, ln_6, tg_7, ln_7, tg_8, ln_8, tg_9, ln_9, tg_10, ln_10, tg_11, ln_11, tg_12, ln_12, tg_13, ln_13, tg_14, ln_14, tg_15, ln_15, tg_16, ln_16, tg_17, ln_17, tg_18, ln_18, tg_19, ln_19, tg_20, ln_20, tg_21, ln_21, tg_22, ln_22, tg_23, ln_23, tg_24, ln_24, tg_25, ln_25, tg_26, ln_26, tg_27, ln_27, tg_28, ln_28, tg_29, ln_29, tg_30, ln_30, tg_31, ln_31, tg_32, ln_32, tg_33, ln_33, tg_34, ln_34, tg_35, ln_35, tg_36, ln_36, tg_37, ln_37, tg_38, ln_38, tg_39, ln_39, tg_40, ln_40, tg_41, ln_41, tg_42, ln_42, tg_43, ln_43, tg_44, ln_44, tg_45, ln_45, tg_46, ln_46, tg_47, ln_47, tg_48, ln_48, tg_49, ln_49, tg_50, ln_50, tg_51, ln_51, tg_52, ln_52, tg_53, ln_53, tg_54, ln_54, tg_55, ln_55, tg_56, ln_56, tg_57, ln_57, tg_58, ln_58, tg_59, ln_59, tg_60, ln_60, tg_61, ln_61, tg_62, ln_62, tg_63, ln_63, tg_64, ln_64, tg_65, ln_65, tg_66, ln_66, tg_67, ln_67, tg_68, ln_68, tg_69, ln_69, tg_70, ln_70, tg_71, ln_71, tg_72, ln_72, tg_73, ln_73, tg_74, ln_74, tg_75, ln_75, tg_76, ln_76] at r
      simpa [ e1, draw_eq, s1, s2, r]
      exact ⟨_, _, _, _, _, _, rfl⟩
  · rw [if_neg c] at hz
    have c1 : ¬ z = Str.ofString "field" := fun e => c (.inl e)
    have c2 : ¬ z = Str.ofString "set_field" := fun e => c (.inr e)
    by_cases c3 : z = "tag"
    · rw [if_pos c3] at hz
      obtain ⟨k', p7, p8, r⟩ := turn_rest z _ (hz (rN (dr ds k1 4))) ds (k1 + 1 + 1) rs hr (dr ds (k1 + 1) 9) (dr_nn ds _ (by decide)) (dr_lt ds _ (by decide)) a kl o7 o8
      unfold rN at r
      subst c3
      simp -implicitDefEqProofs only [thB_ok, thB_none, thB_er, thI_ok, thI_none, thI_er, thS_nx, thS_rt, thS_bk, thS_ct, thS_none, thS_er, a_bind, a_pure, a_opt, a_qM, a_dX, a_dM, a_xD, a_pE, a_eP, a_eV, a_eC, a_e2, a_d2, a_e1, a_d1, a_aNil, a_aCons, a_bNil, a_bCons, a_eTup, a_dTup, a_bM, a_tM, a_tru_n, a_tru_b, a_tru_i, a_tru_s, a_tru_t, a_tru_l, a_uM, a_uP, a_and, a_or, a_not, a_if, a_kAnd, a_dAnd, a_kOr, a_dOr, a_kNot, a_dNot, o_add_i, o_add_s, o_add_t, o_I, o_sub, o_mul_i, o_mul_s, o_mul_t, o_mod, o_div, o_pow, o_lt, o_lt_s, o_le, o_gt, o_ge, q_ss, q_ii, q_bb, q_nn, o_eq, o_ne, isTup_n, isTup_b, isTup_i, isTup_s, isTup_t, isBool_n, isBool_b, isBool_i, isBool_s, isBool_t, isInt_n, isInt_b, isInt_i, isInt_s, isInt_t, isStr_n, isStr_b, isStr_i, isStr_s, isStr_t, n_n, n_b, n_i, n_s, n_t, o_is, o_isNot, in_nil, in_cons, o_in_t, o_notIn_t, at_0, at_1, at_2, at_3, at_4, o_ix_t, o_ix_s, o_sl_t, o_sl_s, cut_nat, cut_1, cut_2, cut_3, cut_4, cut_to2, cut_to3, cut_to4, o_neg, a_oN, a_kS, a_oS, a_dSl, a_eN, a_dN, o_int, o_str, o_abs, o_max, o_len_t, o_len_s, l_d, l_l, l_s, a_eLenP, a_dIsi, a_nm, a_tp, a_ps_nil, a_ps_cons, a_sSetD, a_sSet, a_sPat, a_sRetD, a_sRet, a_sRetV, a_sRetN, a_sDrop, a_seq, a_end, a_sAug, a_for, a_loop_nil, a_iT, a_tupL, a_iStr, a_iL, a_lstL, a_lstS, a_immN, a_immC, a_rng1, a_rng2, a_iR1, a_iR2, a_iEn, a_backN, a_backC, i_imm, i_scr, i_fn, i_fro, a_eCall, a_dCall, a_eCall0, a_rNil, a_rVal, a_rSlot, a_rOwn, t_nil, t_val, t_own, t_slot, p_nil, p_slot, p_val, p_own, c_ok, g_ok, a_xCall, a_sIdx, x_set, a_xApp, w_nil, w_val, w_own, a_xLst, x_l, x_s, x_d, a_pIx, a_eIx, a_dIxX, a_dIxV, a_forV, a_loopV_nil, f_ins, f_fro, a_pFld, a_kTab, a_tab, o_tabIn, o_tabNot, a_tabIn, a_tabNot, a_xCallV, a_dInX, a_dInP, in_l, tup_l, tup_d, a_dTupX, a_eTupP, a_chain, a_new, finX_rt, finX_nx, finD_rt, finD_nx, thL_none, thL_nx, thL_ct, thL_bk, thL_rt, thL_er, num_nil, range_nil, o_isB, o_isNotB, a_dLenX, a_xCatV, a_catV, thC_ok, thD_ok, a_xLc, w_0, w_c, o_index, a_runX, a_runD, ixN, tg_ne, tg_bne, lookup_ne, lookup_eq, ne_eq, le_most, dr_big, in_big, Nat.zero_le, CPow, Int.zero_le_ofNat, Int.reduceAbs, Nat.reducePow, and_self, List.getElem?_cons_zero, List.getElem?_cons_succ, List.getElem?_nil, List.set_cons_zero, List.set_cons_succ, List.set_nil, Option.join_some, Option.join_none, Option.map_some, Option.map_none, Option.bind_some, Option.bind_none, ite_true, ite_false, if_true, if_false, List.length_cons, List.length_nil, List.map_cons, List.map_nil, List.cons_append, List.nil_append, List.append_nil, List.replicate, List.replicate_succ, List.replicate_zero, Nat.reduceAdd, Nat.reduceSub, Nat.reduceEqDiff, Nat.reduceLeDiff, Bool.false_eq_true, Bool.not_true, Bool.not_false, reduceCtorEq, decide_true, decide_false, beq_self_eq_true, Bool.and_true, Bool.true_and, Bool.or_false, Bool.false_or, Bool.true_or, Bool.or_true, Bool.and_false, Bool.false_and, Nat.zero_add, Nat.add_zero, reduceIte, bne_self_eq_false, Option.some.injEq, List.contains_cons, List.contains_nil, Nat.reduceBEq, Nat.reduceBNe, Nat.reduceLT, Int.reduceEq, Int.reduceLT, Int.reduceLE, Int.reduceAdd, Int.reduceSub, Int.reduceMul, Int.reduceNeg, Int.reducePow, Int.reduceToNat, not_true_eq_false, not_false_eq_true, true_and, and_true, eq_self, decide_not, Bool.not_not, List.isEmpty_cons, List.lookup_nil, List.isEmpty_nil, Int.cast_ofNat_Int, Bool.not_eq_true, decide_eq_true_eq, Bool.not_eq_eq_eq_not, decide_eq_false_iff_not, Nat.reduceMod, Option.isSome_some, Option.isSome_none, List.drop_succ_cons, List.drop_zero, List.take_succ_cons, List.take_zero, List.isEmpty_iff, String.reduceEq, gt_iff_lt, ge_iff_le, k_INTEGER, k_ITEMS, k_KIND_cells, k_KIND_operators, k_NONE, k_RUN_CHARACTERS, fn_0, fn_1, fn_2, fn_3, fn_4, fn_5, fn_6, fn_7, fn_8, fn_9, fn_10, fn_11, fn_12, fn_13, fn_14, fn_15, fn_16, fn_17, fn_18, fn_19, fn_20, fn_21, fn_22, fn_23, fn_24, fn_25, fn_26, fn_27, fn_28, fn_29, fn_30, fn_31, fn_32, fn_33, fn_34, fn_35, fn_36, fn_37, tg_0, ln_0, tg_1, ln_1, tg_2, ln_2, tg_3, ln_3, tg_4, ln_4, tg_5, ln_5, tg_6, ln_6, tg_7, ln_7, tg_8, ln_8, tg_9, ln_9, tg_10, ln_10, tg_11, ln_11, tg_12, ln_12, tg_13, ln_13, tg_14, ln_14, tg_15, ln_15, tg_16, ln_16, tg_17, ln_17, tg_18, ln_18, tg_19, ln_19, tg_20, ln_20, tg_21, ln_21, tg_22, ln_22, tg_23, ln_23, tg_24, ln_24, tg_25, ln_25, tg_26, ln_26, tg_27, ln_27, tg_28, ln_28, tg_29, ln_29, tg_30, ln_30, tg_31, ln_31, tg_32, ln_32, tg_33, ln_33, tg_34, ln_34, tg_35, ln_35, tg_36, ln_36, tg_37, ln_37, tg_38, ln_38, tg_39, ln_39, tg_40, ln_40, tg_41, ln_41, tg_42, ln_42, tg_43, ln_43, tg_44, ln_44, tg_45, ln_45, tg_46, ln_46, tg_47, ln_47, tg_48, ln_48, tg_49, ln_49, tg_50, ln_50, tg_51, ln_51, tg_52, ln_52, tg_53, ln_53, tg_54, ln_54, tg_55, ln_55, tg_56, ln_56, tg_57, ln_57, tg_58, ln_58, tg_59, ln_59, tg_60, ln_60, tg_61, ln_61, tg_62, ln_62, tg_63, ln_63, tg_64, ln_64, tg_65, ln_65, tg_66, ln_66, tg_67, ln_67, tg_68, ln_68, tg_69, ln_69, tg_70, ln_70, tg_71, ln_71, tg_72, ln_72, tg_73, ln_73, tg_74, ln_74, tg_75, ln_75, tg_76, ln_76] at r
      simpa [ e1, draw_eq, s1, s2, r]
      exact ⟨_, _, _, _, _, _, rfl⟩
    · rw [if_neg c3] at hz
      have c4 : ¬ z = Str.ofString "tag" := c3
      obtain ⟨k', p7, p8, r⟩ := turn_rest z _ hz ds (k1 + 1) rs hr (dr ds k1 9) (dr_nn ds _ (by decide)) (dr_lt ds _ (by decide)) a kl o7 o8
      simp -implicitDefEqProofs only [thB_ok, thB_none, thB_er, thI_ok, thI_none, thI_er, thS_nx, thS_rt, thS_bk, thS_ct, thS_none, thS_er, a_bind, a_pure, a_opt, a_qM, a_dX, a_dM, a_xD, a_pE, a_eP, a_eV, a_eC, a_e2, a_d2, a_e1, a_d1, a_aNil, a_aCons, a_bNil, a_bCons, a_eTup, a_dTup, a_bM, a_tM, a_tru_n, a_tru_b, a_tru_i, a_tru_s, a_tru_t, a_tru_l, a_uM, a_uP, a_and, a_or, a_not, a_if, a_kAnd, a_dAnd, a_kOr, a_dOr, a_kNot, a_dNot, o_add_i, o_add_s, o_add_t, o_I, o_sub, o_mul_i, o_mul_s, o_mul_t, o_mod, o_div, o_pow, o_lt, o_lt_s, o_le, o_gt, o_ge, q_ss, q_ii, q_bb, q_nn, o_eq, o_ne, isTup_n, isTup_b, isTup_i, isTup_s, isTup_t, isBool_n, isBool_b, isBool_i, isBool_s, isBool_t, isInt_n, isInt_b, isInt_i, isInt_s, isInt_t, isStr_n, isStr_b, isStr_i, isStr_s, isStr_t, n_n, n_b, n_i, n_s, n_t, o_is, o_isNot, in_nil, in_cons, o_in_t, o_notIn_t, at_0, at_1, at_2, at_3, at_4, o_ix_t, o_ix_s, o_sl_t, o_sl_s, cut_nat, cut_1, cut_2, cut_3, cut_4, cut_to2, cut_to3, cut_to4, o_neg, a_oN, a_kS, a_oS, a_dSl, a_eN, a_dN, o_int, o_str, o_abs, o_max, o_len_t, o_len_s, l_d, l_l, l_s, a_eLenP, a_dIsi, a_nm, a_tp, a_ps_nil, a_ps_cons, a_sSetD, a_sSet, a_sPat, a_sRetD, a_sRet, a_sRetV, a_sRetN, a_sDrop, a_seq, a_end, a_sAug, a_for, a_loop_nil, a_iT, a_tupL, a_iStr, a_iL, a_lstL, a_lstS, a_immN, a_immC, a_rng1, a_rng2, a_iR1, a_iR2, a_iEn, a_backN, a_backC, i_imm, i_scr, i_fn, i_fro, a_eCall, a_dCall, a_eCall0, a_rNil, a_rVal, a_rSlot, a_rOwn, t_nil, t_val, t_own, t_slot, p_nil, p_slot, p_val, p_own, c_ok, g_ok, a_xCall, a_sIdx, x_set, a_xApp, w_nil, w_val, w_own, a_xLst, x_l, x_s, x_d, a_pIx, a_eIx, a_dIxX, a_dIxV, a_forV, a_loopV_nil, f_ins, f_fro, a_pFld, a_kTab, a_tab, o_tabIn, o_tabNot, a_tabIn, a_tabNot, a_xCallV, a_dInX, a_dInP, in_l, tup_l, tup_d, a_dTupX, a_eTupP, a_chain, a_new, finX_rt, finX_nx, finD_rt, finD_nx, thL_none, thL_nx, thL_ct, thL_bk, thL_rt, thL_er, num_nil, range_nil, o_isB, o_isNotB, a_dLenX, a_xCatV, a_catV, thC_ok, thD_ok, a_xLc, w_0, w_c, o_index, a_runX, a_runD, ixN, tg_ne, tg_bne, lookup_ne, lookup_eq, ne_eq, le_most, dr_big, in_big, Nat.zero_le, CPow, Int.zero_le_ofNat, Int.reduceAbs, Nat.reducePow, and_self, List.getElem?_cons_zero, List.getElem?_cons_succ, List.getElem?_nil, List.set_cons_zero, List.set_cons_succ, List.set_nil, Option.join_some, Option.join_none, Option.map_some, Option.map_none, Option.bind_some, Option.bind_none, ite_true, ite_false, if_true, if_false, List.length_cons, List.length_nil, List.map_cons, List.map_nil, List.cons_append, List.nil_append, List.append_nil, List.replicate, List.replicate_succ, List.replicate_zero, Nat.reduceAdd, Nat.reduceSub, Nat.reduceEqDiff, Nat.reduceLeDiff, Bool.false_eq_true, Bool.not_true, Bool.not_false, reduceCtorEq, decide_true, decide_false, beq_self_eq_true, Bool.and_true, Bool.true_and, Bool.or_false, Bool.false_or, Bool.true_or, Bool.or_true, Bool.and_false, Bool.false_and, Nat.zero_add, Nat.add_zero, reduceIte, bne_self_eq_false, Option.some.injEq, List.contains_cons, List.contains_nil, Nat.reduceBEq, Nat.reduceBNe, Nat.reduceLT, Int.reduceEq, Int.reduceLT, Int.reduceLE, Int.reduceAdd, Int.reduceSub, Int.reduceMul, Int.reduceNeg, Int.reducePow, Int.reduceToNat, not_true_eq_false, not_false_eq_true, true_and, and_true, eq_self, decide_not, Bool.not_not, List.isEmpty_cons, List.lookup_nil, List.isEmpty_nil, Int.cast_ofNat_Int, Bool.not_eq_true, decide_eq_true_eq, Bool.not_eq_eq_eq_not, decide_eq_false_iff_not, Nat.reduceMod, Option.isSome_some, Option.isSome_none, List.drop_succ_cons, List.drop_zero, List.take_succ_cons, List.take_zero, List.isEmpty_iff, String.reduceEq, gt_iff_lt, ge_iff_le, k_INTEGER, k_ITEMS, k_KIND_cells, k_KIND_operators, k_NONE, k_RUN_CHARACTERS, fn_0, fn_1, fn_2, fn_3, fn_4, fn_5, fn_6, fn_7, fn_8, fn_9, fn_10, fn_11, fn_12, fn_13, fn_14, fn_15, fn_16, fn_17, fn_18, fn_19, fn_20, fn_21, fn_22, fn_23, fn_24, fn_25, fn_26, fn_27, fn_28, fn_29, fn_30, fn_31, fn_32, fn_33, fn_34, fn_35, fn_36, fn_37, tg_0, ln_0, tg_1, ln_1, tg_2, ln_2, tg_3, ln_3, tg_4, ln_4, tg_5, ln_5, tg_6, ln_6, tg_7, ln_7, tg_8, ln_8, tg_9, ln_9, tg_10, ln_10, tg_11, ln_11, tg_12, ln_12, tg_13, ln_13, tg_14, ln_14, tg_15, ln_15, tg_16, ln_16, tg_17, ln_17, tg_18, ln_18, tg_19, ln_19, tg_20, ln_20, tg_21, ln_21, tg_22, ln_22, tg_23, ln_23, tg_24, ln_24, tg_25, ln_25, tg_26, ln_26, tg_27, ln_27, tg_28, ln_28, tg_29, ln_29, tg_30, ln_30, tg_31, ln_31, tg_32, ln_32, tg_33, ln_33, tg_34, ln_34, tg_35, ln_35, tg_36, ln_36, tg_37, ln_37, tg_38, ln_38, tg_39, ln_39, tg_40, ln_40, tg_41, ln_41, tg_42, ln_42, tg_43, ln_43, tg_44, ln_44, tg_45, ln_45, tg_46, ln_46, tg_47, ln_47, tg_48, ln_48, tg_49, ln_49, tg_50, ln_50, tg_51, ln_51, tg_52, ln_52, tg_53, ln_53, tg_54, ln_54, tg_55, ln_55, tg_56, ln_56, tg_57, ln_57, tg_58, ln_58, tg_59, ln_59, tg_60, ln_60, tg_61, ln_61, tg_62, ln_62, tg_63, ln_63, tg_64, ln_64, tg_65, ln_65, tg_66, ln_66, tg_67, ln_67, tg_68, ln_68, tg_69, ln_69, tg_70, ln_70, tg_71, ln_71, tg_72, ln_72, tg_73, ln_73, tg_74, ln_74, tg_75, ln_75, tg_76, ln_76] at r
      simpa [ e1, c1, c2, c4, draw_eq, r]
      exact ⟨_, _, _, _, _, _, rfl⟩
def kindsD : List PyData := [.str "kind", .str "field", .str "item", .str "size", .str "sized", .str "make", .str "tag", .str "check_size", .str "tag_size", .str "set_field", .str "set_item"]
theorem good_of {z : Str} (h1 : ¬ (z = "field" ∨ z = "set_field")) (h2 : ¬ z = "tag") (h : Ops z (.tuple [.str z])) : Good z := by
  unfold Good
  rw [if_neg h1, if_neg h2]
  exact h
theorem kinds_good : ∀ x ∈ kindsD, ∃ z : Str, x = .str z ∧ Good z := by
  unfold kindsD
  intro x hx
  simp only [List.mem_cons, List.not_mem_nil, or_false] at hx
  rcases hx with h | h | h | h | h | h | h | h | h | h | h
  · exact ⟨_, h, good_of (by decide +kernel) (by decide +kernel) ops_kind⟩
  · exact ⟨_, h, by unfold Good; rw [if_pos (.inl rfl)]; exact ops_field⟩
  · exact ⟨_, h, good_of (by decide +kernel) (by decide +kernel) ops_item⟩
  · exact ⟨_, h, good_of (by decide +kernel) (by decide +kernel) ops_size⟩
  · exact ⟨_, h, good_of (by decide +kernel) (by decide +kernel) ops_sized⟩
  · exact ⟨_, h, good_of (by decide +kernel) (by decide +kernel) ops_make⟩
  · exact ⟨_, h, by unfold Good; rw [if_neg (by decide +kernel), if_pos rfl]; exact ops_tag⟩
  · exact ⟨_, h, good_of (by decide +kernel) (by decide +kernel) ops_check⟩
  · exact ⟨_, h, good_of (by decide +kernel) (by decide +kernel) ops_tag_size⟩
  · exact ⟨_, h, by unfold Good; rw [if_pos (.inr rfl)]; exact ops_set_field⟩
  · exact ⟨_, h, good_of (by decide +kernel) (by decide +kernel) ops_set_item⟩
theorem nth_in {α : Type} {P : α → Prop} {xs : List α} (h : ∀ x ∈ xs, P x) (j : Nat) (hj : j < xs.length) : P xs[j] := h _ (List.getElem_mem hj)
theorem law_true : ∀ ns : List Int, ns.length ≤ 63 → (∀ z ∈ ns, Builtin.Int.intBits z ≤ 1048576) → ∃ ys, m_law [.scr ns] = some (.ok (.imm (.bool true)) ys) := by
  intro ns _ hb
  obtain ⟨ds, h1⟩ := digits_eq ns hb
  obtain ⟨ρ, h2, k, d, e, f, g, h, o, rfl⟩ := forV_inv (i := 2) (p := .nm 3) (mb := l1_law) (.lst (kindsD.map .imm)) (fun j ρ => ∃ (k : Nat) (d e f g h o : Option M), ρ = [some (.scr ns), some (BX ds k), some (.lst (kindsD.map .imm)), d, e, f, g, h, o]) kindsD [some (.scr ns), some (BX ds 0), some (.lst (kindsD.map .imm)), none, none, none, none, none, none] (fun j ρ hp => by
    obtain ⟨k, d, e, f, g, h, o, rfl⟩ := hp
    rfl) ⟨_, _, _, _, _, _, _, rfl⟩ (fun j ρ hj hp => by
    obtain ⟨k, d, e, f, g, h, o, rfl⟩ := hp
    obtain ⟨z, hz, hg⟩ := nth_in kinds_good j hj
    rw [hz]
    obtain ⟨k', e', f', g', h', o', h3⟩ := law_turn z hg ds k (some (.scr ns)) (some (.lst (kindsD.map .imm))) e f g h o
    simpa [ h3]
    exact ⟨_, rfl, _, _, _, _, _, _, _, rfl⟩)
  have hB : M.lst [LI ds, .imm (.int 0)] = BX ds 0 := rfl
  unfold kindsD at h2
  simp only [List.map_cons, List.map_nil] at h2
  unfold m_law b_law
  simpa [ h1, hB, h2]
  exact ⟨_, rfl⟩

structure Df (K : PySem.W.Frag) (mg : Str → Option Value) (x : Str) (st : Stmt) (ps : List Str) where
  f : Addr
  fd : FuncData
  F : Fun K x x st f fd
  b : Binds K fd ps []
  m : mg x = some (.ref f)
structure Mf (K : PySem.W.Frag) (C : Addr) (x qual : Str) (st : Stmt) (ps : List Str) where
  f : Addr
  fd : FuncData
  F : Fun K x qual st f fd
  b : Binds K fd ps []
  mt : Meth K C x f
structure Nf (K : PySem.W.Frag) (x qual : Str) (st : Stmt) (ps : List Str) where
  f : Addr
  fd : FuncData
  F : Fun K x qual st f fd
  b : Binds K fd ps []
structure Tx (K : PySem.W.Frag) (mg : Str → Option Value) (w : World) where
  C_Program : Addr
  cl_Program : Cls K C_Program
  mg_Program : mg "Program" = some (.ref C_Program)
  na_Program_code : NoAttr K C_Program "code"
  na_Program_lines : NoAttr K C_Program "lines"
  na_Program_records : NoAttr K C_Program "records"
  na_Program_variables : NoAttr K C_Program "variables"
  na_Program_procedures : NoAttr K C_Program "procedures"
  d_field_cell : Df K mg "field_cell" s_field_cell ["records", "held", "name"]
  d_item_cell : Df K mg "item_cell" s_item_cell ["held", "at"]
  d_array_size : Df K mg "array_size" s_array_size ["value"]
  d_both : Df K mg "both" s_both ["op", "a", "b"]
  d_together : Df K mg "together" s_together ["a", "b"]
  d_divided : Df K mg "divided" s_divided ["op", "left", "right"]
  d_computed : Df K mg "computed" s_computed ["op", "left", "right"]
  d_bounded : Df K mg "bounded" s_bounded ["number"]
  d_negative : Df K mg "negative" s_negative ["a"]
  d_opposite : Df K mg "opposite" s_opposite ["a"]
  d_truth : Df K mg "truth" s_truth ["a"]
  d_leave : Df K mg "leave" s_leave ["control", "what"]
  d_passing : Df K mg "passing" s_passing ["cuts", "after"]
  d_thrown : Df K mg "thrown" s_thrown ["local", "value"]
  d_gone_on : Df K mg "gone_on" s_gone_on ["local", "operands"]
  d_gone_to : Df K mg "gone_to" s_gone_to ["local", "address", "operands"]
  d_controlled : Df K mg "controlled" s_controlled ["local", "operands", "control"]
  d_fault : Df K mg "fault" s_fault ["local", "words"]
  d_put : Df K mg "put" s_put ["local", "value", "operands"]
  d_put_answer : Df K mg "put_answer" s_put_answer ["local", "answer", "operands"]
  d_do_push : Df K mg "do_push" s_do_push ["program", "local", "instruction"]
  d_do_not : Df K mg "do_not" s_do_not ["program", "local", "instruction"]
  d_do_minus : Df K mg "do_minus" s_do_minus ["program", "local", "instruction"]
  d_do_both : Df K mg "do_both" s_do_both ["program", "local", "instruction"]
  d_do_jump : Df K mg "do_jump" s_do_jump ["program", "local", "instruction"]
  d_do_jump_not : Df K mg "do_jump_not" s_do_jump_not ["program", "local", "instruction"]
  d_do_and_jump : Df K mg "do_and_jump" s_do_and_jump ["program", "local", "instruction"]
  d_do_or_jump : Df K mg "do_or_jump" s_do_or_jump ["program", "local", "instruction"]
  d_jump_with : Df K mg "jump_with" s_jump_with ["local", "deciding", "address"]
  d_do_sized : Df K mg "do_sized" s_do_sized ["program", "local", "instruction"]
  d_do_check_size : Df K mg "do_check_size" s_do_check_size ["program", "local", "instruction"]
  d_do_drop : Df K mg "do_drop" s_do_drop ["program", "local", "instruction"]
  d_do_print : Df K mg "do_print" s_do_print ["program", "local", "instruction"]
  d_do_input : Df K mg "do_input" s_do_input ["program", "local", "instruction"]
  d_within : Df K mg "within" s_within ["local", "operands", "entry"]
  d_do_counter : Df K mg "do_counter" s_do_counter ["program", "local", "instruction"]
  d_counter_value : Df K mg "counter_value" s_counter_value ["control", "number"]
  d_do_call : Df K mg "do_call" s_do_call ["program", "local", "instruction"]
  d_do_return : Df K mg "do_return" s_do_return ["program", "local", "instruction"]
  d_do_break : Df K mg "do_break" s_do_break ["program", "local", "instruction"]
  d_do_throw : Df K mg "do_throw" s_do_throw ["program", "local", "instruction"]
  d_do_guard : Df K mg "do_guard" s_do_guard ["program", "local", "instruction"]
  d_do_loop : Df K mg "do_loop" s_do_loop ["program", "local", "instruction"]
  d_do_each : Df K mg "do_each" s_do_each ["program", "local", "instruction"]
  d_do_leave_entry : Df K mg "do_leave_entry" s_do_leave_entry ["program", "local", "instruction"]
  d_do_test : Df K mg "do_test" s_do_test ["program", "local", "instruction"]
  d_do_next : Df K mg "do_next" s_do_next ["program", "local", "instruction"]
  d_do_spawn : Df K mg "do_spawn" s_do_spawn ["program", "local", "instruction"]
  d_do_stop : Df K mg "do_stop" s_do_stop ["program", "local", "instruction"]
  d_place_in : Df K mg "place_in" s_place_in ["thing", "cell"]
  d_place_of : Df K mg "place_of" s_place_of ["local", "variable"]
  d_do_load : Df K mg "do_load" s_do_load ["program", "local", "instruction"]
  d_do_store : Df K mg "do_store" s_do_store ["program", "local", "instruction"]
  d_do_kind : Df K mg "do_kind" s_do_kind ["program", "local", "instruction"]
  d_read_cell : Df K mg "read_cell" s_read_cell ["local", "thing", "answer", "operands"]
  d_write_cell : Df K mg "write_cell" s_write_cell ["local", "thing", "answer", "value", "operands"]
  d_do_field : Df K mg "do_field" s_do_field ["program", "local", "instruction"]
  d_do_item : Df K mg "do_item" s_do_item ["program", "local", "instruction"]
  d_do_set_field : Df K mg "do_set_field" s_do_set_field ["program", "local", "instruction"]
  d_do_set_item : Df K mg "do_set_item" s_do_set_item ["program", "local", "instruction"]
  d_do_size : Df K mg "do_size" s_do_size ["program", "local", "instruction"]
  d_do_make : Df K mg "do_make" s_do_make ["program", "local", "instruction"]
  d_do_tag : Df K mg "do_tag" s_do_tag ["program", "local", "instruction"]
  d_do_tag_size : Df K mg "do_tag_size" s_do_tag_size ["program", "local", "instruction"]
  d_do_enter : Df K mg "do_enter" s_do_enter ["program", "local", "instruction"]
  d_action : Df K mg "action" s_action ["program", "local"]
  d__law_cell : Df K mg "_law_cell" s__law_cell ["script", "k"]
  d__law_digits : Df K mg "_law_digits" s__law_digits ["script", "first", "last"]
  d__law_draw : Df K mg "_law_draw" s__law_draw ["box", "many"]
  d__law_same : Df K mg "_law_same" s__law_same ["actual", "expected"]
  d__law_number : Df K mg "_law_number" s__law_number ["box"]
  d__law_text : Df K mg "_law_text" s__law_text ["box", "most"]
  d__law_value : Df K mg "_law_value" s__law_value ["box"]
  d__law_object : Df K mg "_law_object" s__law_object ["box"]
  d__law_entry : Df K mg "_law_entry" s__law_entry ["box"]
  d__law_control : Df K mg "_law_control" s__law_control ["box"]
  d__law_local : Df K mg "_law_local" s__law_local ["box", "address", "operands"]
  d__law_leave : Df K mg "_law_leave" s__law_leave ["control", "kinds"]
  d__law_after : Df K mg "_law_after" s__law_after ["cuts", "after"]
  d__law_thrown : Df K mg "_law_thrown" s__law_thrown ["local", "value"]
  d__law_error : Df K mg "_law_error" s__law_error ["local", "words"]
  d__law_program : Df K mg "_law_program" s__law_program ["parts", "address", "records", "procedures"]
  d__law_goes : Df K mg "_law_goes" s__law_goes ["local", "operands"]
  d__law_records : Df K mg "_law_records" s__law_records ["box"]
  d__law_field : Df K mg "_law_field" s__law_field ["records", "held", "name"]
  d__law_item : Df K mg "_law_item" s__law_item ["held", "at"]
  d__law_cell_of : Df K mg "_law_cell_of" s__law_cell_of ["thing", "number"]
  d__law_held : Df K mg "_law_held" s__law_held ["box"]
  d__law_any : Df K mg "_law_any" s__law_any ["box", "kind"]
  d__law_operands : Df K mg "_law_operands" s__law_operands ["box", "kind"]
  d__law_reading : Df K mg "_law_reading" s__law_reading ["local", "thing", "result", "operands"]
  d__law_writing : Df K mg "_law_writing" s__law_writing ["local", "thing", "result", "value", "operands"]
  d__law_due_cells : Df K mg "_law_due_cells" s__law_due_cells ["parts", "local", "records"]
  d__law_due : Df K mg "_law_due" s__law_due ["parts", "local", "records"]
  d_law : Df K mg "law" s_law ["script"]
  d_Program___init__ : Nf K "__init__" "Program.__init__" s_Program___init__ ["self", "code", "lines", "records", "variables", "procedures"]
  mk_Program : Mk K C_Program d_Program___init__.f
  z_len : mg "len" = none
  z_isinstance : mg "isinstance" = none
  z_tuple : mg "tuple" = none
  z_int : mg "int" = none
  z_bool : mg "bool" = none
  z_str : mg "str" = none
  z_range : mg "range" = none
  z_abs : mg "abs" = none
  z_enumerate : mg "enumerate" = none
  u_INTEGER : Value
  c_INTEGER : mg "INTEGER" = some u_INTEGER
  q_INTEGER : KLit K u_INTEGER k_INTEGER
  u_ITEMS : Value
  c_ITEMS : mg "ITEMS" = some u_ITEMS
  q_ITEMS : KLit K u_ITEMS k_ITEMS
  u_KIND_cells : Value
  c_KIND_cells : mg "KIND_cells" = some u_KIND_cells
  q_KIND_cells : KLit K u_KIND_cells k_KIND_cells
  u_KIND_operators : Value
  c_KIND_operators : mg "KIND_operators" = some u_KIND_operators
  q_KIND_operators : KLit K u_KIND_operators k_KIND_operators
  u_NONE : Value
  c_NONE : mg "NONE" = some u_NONE
  q_NONE : KLit K u_NONE k_NONE
  u_RUN_CHARACTERS : Value
  c_RUN_CHARACTERS : mg "RUN_CHARACTERS" = some u_RUN_CHARACTERS
  q_RUN_CHARACTERS : KLit K u_RUN_CHARACTERS k_RUN_CHARACTERS
  a_COMPUTING : Addr
  c_COMPUTING : mg "COMPUTING" = some (.ref a_COMPUTING)
  es_COMPUTING : Array DictEntry
  n_COMPUTING : Nat
  kd_COMPUTING : KDict K w a_COMPUTING es_COMPUTING n_COMPUTING
  g_COMPUTING : KeysAre es_COMPUTING.toList (tab_COMPUTING.map Prod.fst)
  e_COMPUTING_0 : PySem.W.nsIn K a_COMPUTING "push" = some (some (.ref d_do_push.f))
  e_COMPUTING_1 : PySem.W.nsIn K a_COMPUTING "not" = some (some (.ref d_do_not.f))
  e_COMPUTING_2 : PySem.W.nsIn K a_COMPUTING "minus" = some (some (.ref d_do_minus.f))
  e_COMPUTING_3 : PySem.W.nsIn K a_COMPUTING "both" = some (some (.ref d_do_both.f))
  e_COMPUTING_4 : PySem.W.nsIn K a_COMPUTING "jump" = some (some (.ref d_do_jump.f))
  e_COMPUTING_5 : PySem.W.nsIn K a_COMPUTING "jump_not" = some (some (.ref d_do_jump_not.f))
  e_COMPUTING_6 : PySem.W.nsIn K a_COMPUTING "and_jump" = some (some (.ref d_do_and_jump.f))
  e_COMPUTING_7 : PySem.W.nsIn K a_COMPUTING "or_jump" = some (some (.ref d_do_or_jump.f))
  e_COMPUTING_8 : PySem.W.nsIn K a_COMPUTING "sized" = some (some (.ref d_do_sized.f))
  e_COMPUTING_9 : PySem.W.nsIn K a_COMPUTING "check_size" = some (some (.ref d_do_check_size.f))
  e_COMPUTING_10 : PySem.W.nsIn K a_COMPUTING "drop" = some (some (.ref d_do_drop.f))
  e_COMPUTING_11 : PySem.W.nsIn K a_COMPUTING "print" = some (some (.ref d_do_print.f))
  e_COMPUTING_12 : PySem.W.nsIn K a_COMPUTING "input" = some (some (.ref d_do_input.f))
  a_REACHING : Addr
  c_REACHING : mg "REACHING" = some (.ref a_REACHING)
  es_REACHING : Array DictEntry
  n_REACHING : Nat
  kd_REACHING : KDict K w a_REACHING es_REACHING n_REACHING
  g_REACHING : KeysAre es_REACHING.toList (tab_REACHING.map Prod.fst)
  e_REACHING_0 : PySem.W.nsIn K a_REACHING "load" = some (some (.ref d_do_load.f))
  e_REACHING_1 : PySem.W.nsIn K a_REACHING "store" = some (some (.ref d_do_store.f))
  e_REACHING_2 : PySem.W.nsIn K a_REACHING "kind" = some (some (.ref d_do_kind.f))
  e_REACHING_3 : PySem.W.nsIn K a_REACHING "field" = some (some (.ref d_do_field.f))
  e_REACHING_4 : PySem.W.nsIn K a_REACHING "item" = some (some (.ref d_do_item.f))
  e_REACHING_5 : PySem.W.nsIn K a_REACHING "set_field" = some (some (.ref d_do_set_field.f))
  e_REACHING_6 : PySem.W.nsIn K a_REACHING "set_item" = some (some (.ref d_do_set_item.f))
  e_REACHING_7 : PySem.W.nsIn K a_REACHING "size" = some (some (.ref d_do_size.f))
  e_REACHING_8 : PySem.W.nsIn K a_REACHING "make" = some (some (.ref d_do_make.f))
  e_REACHING_9 : PySem.W.nsIn K a_REACHING "tag" = some (some (.ref d_do_tag.f))
  e_REACHING_10 : PySem.W.nsIn K a_REACHING "tag_size" = some (some (.ref d_do_tag_size.f))
  e_REACHING_11 : PySem.W.nsIn K a_REACHING "enter" = some (some (.ref d_do_enter.f))
  a_CONTROLLING : Addr
  c_CONTROLLING : mg "CONTROLLING" = some (.ref a_CONTROLLING)
  es_CONTROLLING : Array DictEntry
  n_CONTROLLING : Nat
  kd_CONTROLLING : KDict K w a_CONTROLLING es_CONTROLLING n_CONTROLLING
  g_CONTROLLING : KeysAre es_CONTROLLING.toList (tab_CONTROLLING.map Prod.fst)
  e_CONTROLLING_0 : PySem.W.nsIn K a_CONTROLLING "counter" = some (some (.ref d_do_counter.f))
  e_CONTROLLING_1 : PySem.W.nsIn K a_CONTROLLING "call" = some (some (.ref d_do_call.f))
  e_CONTROLLING_2 : PySem.W.nsIn K a_CONTROLLING "return" = some (some (.ref d_do_return.f))
  e_CONTROLLING_3 : PySem.W.nsIn K a_CONTROLLING "break" = some (some (.ref d_do_break.f))
  e_CONTROLLING_4 : PySem.W.nsIn K a_CONTROLLING "throw" = some (some (.ref d_do_throw.f))
  e_CONTROLLING_5 : PySem.W.nsIn K a_CONTROLLING "guard" = some (some (.ref d_do_guard.f))
  e_CONTROLLING_6 : PySem.W.nsIn K a_CONTROLLING "unguard" = some (some (.ref d_do_leave_entry.f))
  e_CONTROLLING_7 : PySem.W.nsIn K a_CONTROLLING "loop" = some (some (.ref d_do_loop.f))
  e_CONTROLLING_8 : PySem.W.nsIn K a_CONTROLLING "end_loop" = some (some (.ref d_do_leave_entry.f))
  e_CONTROLLING_9 : PySem.W.nsIn K a_CONTROLLING "each" = some (some (.ref d_do_each.f))
  e_CONTROLLING_10 : PySem.W.nsIn K a_CONTROLLING "test" = some (some (.ref d_do_test.f))
  e_CONTROLLING_11 : PySem.W.nsIn K a_CONTROLLING "next" = some (some (.ref d_do_next.f))
  e_CONTROLLING_12 : PySem.W.nsIn K a_CONTROLLING "spawn" = some (some (.ref d_do_spawn.f))
  e_CONTROLLING_13 : PySem.W.nsIn K a_CONTROLLING "finish" = some (some (.ref d_do_stop.f))
  e_CONTROLLING_14 : PySem.W.nsIn K a_CONTROLLING "halt" = some (some (.ref d_do_stop.f))
  a_FITTING : Addr
  c_FITTING : mg "FITTING" = some (.ref a_FITTING)
  es_FITTING : Array DictEntry
  n_FITTING : Nat
  kd_FITTING : KDict K w a_FITTING es_FITTING n_FITTING
  g_FITTING : KeysAre es_FITTING.toList (tab_FITTING.map Prod.fst)
  e_FITTING_0 : ∃ u, PySem.W.nsIn K a_FITTING "call" = some (some u) ∧ KLit K u (.tuple [.str "call"])
  e_FITTING_1 : ∃ u, PySem.W.nsIn K a_FITTING "loop" = some (some u) ∧ KLit K u (.tuple [.str "loop", .str "count"])
  e_FITTING_2 : ∃ u, PySem.W.nsIn K a_FITTING "guard" = some (some u) ∧ KLit K u (.tuple [.str "guard"])
section
variable {K : PySem.W.Frag} {mg : Str → Option Value} {w : World}
def tb (T : Tx K mg w) : Tb := ⟨fun k => if k = 0 then T.d_do_push.f else if k = 1 then T.d_do_not.f else if k = 2 then T.d_do_minus.f else if k = 3 then T.d_do_both.f else if k = 4 then T.d_do_jump.f else if k = 5 then T.d_do_jump_not.f else if k = 6 then T.d_do_and_jump.f else if k = 7 then T.d_do_or_jump.f else if k = 8 then T.d_do_sized.f else if k = 9 then T.d_do_check_size.f else if k = 10 then T.d_do_drop.f else if k = 11 then T.d_do_print.f else if k = 12 then T.d_do_input.f else if k = 13 then T.d_do_load.f else if k = 14 then T.d_do_store.f else if k = 15 then T.d_do_kind.f else if k = 16 then T.d_do_field.f else if k = 17 then T.d_do_item.f else if k = 18 then T.d_do_set_field.f else if k = 19 then T.d_do_set_item.f else if k = 20 then T.d_do_size.f else if k = 21 then T.d_do_make.f else if k = 22 then T.d_do_tag.f else if k = 23 then T.d_do_tag_size.f else if k = 24 then T.d_do_enter.f else if k = 25 then T.d_do_counter.f else if k = 26 then T.d_do_call.f else if k = 27 then T.d_do_return.f else if k = 28 then T.d_do_break.f else if k = 29 then T.d_do_throw.f else if k = 30 then T.d_do_guard.f else if k = 31 then T.d_do_leave_entry.f else if k = 32 then T.d_do_loop.f else if k = 33 then T.d_do_each.f else if k = 34 then T.d_do_test.f else if k = 35 then T.d_do_next.f else if k = 36 then T.d_do_spawn.f else if k = 37 then T.d_do_stop.f else 0, fun k => if k = 0 then T.C_Program else T.C_Program + 1, fun k => k == 0, fun c c' h1 h2 => by
    have e : c = 0 := by simpa using h1
    have e2 : c' ≠ 0 := by simpa using h2
    subst e
    simp only [if_true, if_neg e2]
    exact Nat.ne_of_lt (Nat.lt_succ_self _)⟩
theorem Tx.fz_Program (T : Tx K mg w) : (tb T).fz 0 = true := rfl
theorem Tx.t_COMPUTING (T : Tx K mg w) : KTab K (tb T) w T.a_COMPUTING tab_COMPUTING := by
  exact ktab_mk T.kd_COMPUTING T.g_COMPUTING (.fn (k := 0) T.e_COMPUTING_0 (.fn (k := 1) T.e_COMPUTING_1 (.fn (k := 2) T.e_COMPUTING_2 (.fn (k := 3) T.e_COMPUTING_3 (.fn (k := 4) T.e_COMPUTING_4 (.fn (k := 5) T.e_COMPUTING_5 (.fn (k := 6) T.e_COMPUTING_6 (.fn (k := 7) T.e_COMPUTING_7 (.fn (k := 8) T.e_COMPUTING_8 (.fn (k := 9) T.e_COMPUTING_9 (.fn (k := 10) T.e_COMPUTING_10 (.fn (k := 11) T.e_COMPUTING_11 (.fn (k := 12) T.e_COMPUTING_12 .nil)))))))))))))
theorem Tx.t_REACHING (T : Tx K mg w) : KTab K (tb T) w T.a_REACHING tab_REACHING := by
  exact ktab_mk T.kd_REACHING T.g_REACHING (.fn (k := 13) T.e_REACHING_0 (.fn (k := 14) T.e_REACHING_1 (.fn (k := 15) T.e_REACHING_2 (.fn (k := 16) T.e_REACHING_3 (.fn (k := 17) T.e_REACHING_4 (.fn (k := 18) T.e_REACHING_5 (.fn (k := 19) T.e_REACHING_6 (.fn (k := 20) T.e_REACHING_7 (.fn (k := 21) T.e_REACHING_8 (.fn (k := 22) T.e_REACHING_9 (.fn (k := 23) T.e_REACHING_10 (.fn (k := 24) T.e_REACHING_11 .nil))))))))))))
theorem Tx.t_CONTROLLING (T : Tx K mg w) : KTab K (tb T) w T.a_CONTROLLING tab_CONTROLLING := by
  exact ktab_mk T.kd_CONTROLLING T.g_CONTROLLING (.fn (k := 25) T.e_CONTROLLING_0 (.fn (k := 26) T.e_CONTROLLING_1 (.fn (k := 27) T.e_CONTROLLING_2 (.fn (k := 28) T.e_CONTROLLING_3 (.fn (k := 29) T.e_CONTROLLING_4 (.fn (k := 30) T.e_CONTROLLING_5 (.fn (k := 31) T.e_CONTROLLING_6 (.fn (k := 32) T.e_CONTROLLING_7 (.fn (k := 31) T.e_CONTROLLING_8 (.fn (k := 33) T.e_CONTROLLING_9 (.fn (k := 34) T.e_CONTROLLING_10 (.fn (k := 35) T.e_CONTROLLING_11 (.fn (k := 36) T.e_CONTROLLING_12 (.fn (k := 37) T.e_CONTROLLING_13 (.fn (k := 37) T.e_CONTROLLING_14 .nil)))))))))))))))
theorem Tx.t_FITTING (T : Tx K mg w) : KTab K (tb T) w T.a_FITTING tab_FITTING := by
  obtain ⟨_, h0⟩ := T.e_FITTING_0
  obtain ⟨_, h1⟩ := T.e_FITTING_1
  obtain ⟨_, h2⟩ := T.e_FITTING_2
  exact ktab_mk T.kd_FITTING T.g_FITTING (.dat h0.1 h0.2 (.dat h1.1 h1.2 (.dat h2.1 h2.2 .nil)))
end
section
variable {P : Program} {w : World} {K : PySem.W.Frag} {mg : Str → Option Value} {base : Heap}
theorem ok_field_cell (T : Tx K mg w) : FnOk P w K mg base CX0 1 T.d_field_cell.f T.d_field_cell.fd ["records", "held", "name"] (spD K 3 m_field_cell) := by
  exact fn_d (tb T) T.d_field_cell.F sc_field_cell rfl (fun cdv A outer s H E hr => (qss_cons (qs_for (fun _ _ _ h1 h2 h3 => ps_for PassesOwn.never rfl h1 h2 h3) (qi_tup (qd_e (qe_v (pv 0)))) (qg_tp (by rfl) (qgs_cons (qg_nm (pg_name (i := 3) sc_field_cell.nd rfl (Or.inl rfl))) (qgs_cons (qg_nm (pg_name (i := 4) sc_field_cell.nd rfl (Or.inl rfl))) qgs_nil)))
      (qss_one (qs_if (qw_t (qw_and (qt_c (qc_2 (op_eqU hr.units) snd_eq (nomark _) (qd_e (qe_v (pv 1))) (qd_e (qe_tup (qae_cons qe_str (qae_cons (qe_v (pv 3)) qae_nil)))))) (qw_and1 (qt_c (qc_2 op_inU snd_in (by rfl) (qd_e (qe_v (pv 2))) (qd_e (qe_v (pv 4))))))))
      (qss_one (qs_retD (qd_e (qe_tup (qae_cons qe_str (qae_cons (qe_2 snd_add (fun _ _ h1 h2 => pe_op op_addU h1 h2) (qe_index (qe_v (pv 4)) (qe_v (pv 2)) (mk := fun _ _ h1 h2 => pe_mt PySem.F.slot_tuple_index (by rfl) mt_tup_index h1 h2)) qe_int) qae_nil))))))
      qss_nil)))
    (qss_one (qs_retD (qd_e (qe_tup (qae_cons qe_str (qae_cons qe_str qae_nil))))))))
theorem ok_item_cell (T : Tx K mg w) : FnOk P w K mg base CX0 1 T.d_item_cell.f T.d_item_cell.fd ["held", "at"] (spD K 2 m_item_cell) := by
  exact fn_d (tb T) T.d_item_cell.F sc_item_cell rfl (fun cdv A outer s H E hr => (qss_cons (qs_if (qw_t (qw_or (qt_c (qc_2 (op_neU hr.units) snd_ne (nomark _) (qd_e (qe_p (qp_ix (qp_v (pv 0))))) (qd_e qe_str))) (qw_or1 (qt_c (qc_2 (op_neU hr.units) snd_ne (nomark _) (qd_e (qe_p (qp_ix (qp_v (pv 1))))) (qd_e qe_str))))))
      (qss_one (qs_retD (qd_e (qe_k (by rfl) T.c_KIND_cells T.q_KIND_cells))))
      qss_nil)
    (qss_cons (qs_if (qw_t (qw_or (qt_c (qc_2 op_ltU snd_lt (nomark _) (qd_e (qe_p (qp_ix (qp_v (pv 1))))) (qd_e qe_int))) (qw_or1 (qt_c (qc_2 op_ge snd_ge (nomark _) (qd_e (qe_p (qp_ix (qp_v (pv 1))))) (qd_e (qe_p (qp_ix (qp_v (pv 0))))))))))
      (qss_one (qs_retD (qd_e (qe_tup (qae_cons qe_str (qae_cons qe_str qae_nil))))))
      qss_nil)
    (qss_one (qs_retD (qd_e (qe_tup (qae_cons qe_str (qae_cons (qe_2 snd_add (fun _ _ h1 h2 => pe_op op_addU h1 h2) (qe_p (qp_ix (qp_v (pv 1)))) qe_int) qae_nil)))))))))
theorem ok_array_size (T : Tx K mg w) : FnOk P w K mg base CX0 1 T.d_array_size.f T.d_array_size.fd ["value"] (spD K 1 m_array_size) := by
  exact fn_d (tb T) T.d_array_size.F sc_array_size rfl (fun cdv A outer s H E hr => (qss_cons (qs_if (qt_c (qc_2 (op_neU hr.units) snd_ne (nomark _) (qd_e (qe_p (qp_ix (qp_v (pv 0))))) (qd_e qe_str)))
      (qss_one (qs_retD (qd_e (qe_k (by rfl) T.c_KIND_cells T.q_KIND_cells))))
      qss_nil)
    (qss_cons (qs_if (qw_t (qw_or (qt_c (qc_2 op_ltU snd_lt (nomark _) (qd_e (qe_p (qp_ix (qp_v (pv 0))))) (qd_e qe_int))) (qw_or1 (qt_c (qc_2 op_gt snd_gt (nomark _) (qd_e (qe_p (qp_ix (qp_v (pv 0))))) (qd_e (qe_k (by rfl) T.c_ITEMS T.q_ITEMS)))))))
      (qss_one (qs_retD (qd_e (qe_tup (qae_cons qe_str (qae_cons qe_str qae_nil))))))
      qss_nil)
    (qss_one (qs_retD (qd_e (qe_tup (qae_cons qe_str (qae_cons (qe_v (pv 0)) qae_nil)))))))))
theorem ok_bounded (T : Tx K mg w) : FnOk P w K mg base CX0 1 T.d_bounded.f T.d_bounded.fd ["number"] (spD K 1 m_bounded) := by
  exact fn_d (tb T) T.d_bounded.F sc_bounded rfl (fun cdv A outer s H E hr => (qss_cons (qs_if (qt_c (qc_2 op_ge snd_ge (nomark _) (qd_e (qe_n snd_abs (fun _ h => pe_callB call_abs (by rfl) T.z_abs (by decide +kernel) h) (qae_cons (qe_v (pv 0)) qae_nil))) (qd_e (qe_k (by rfl) T.c_INTEGER T.q_INTEGER))))
      (qss_one (qs_retD (qd_e (qe_tup (qae_cons qe_str (qae_cons qe_str qae_nil))))))
      qss_nil)
    (qss_one (qs_retD (qd_e (qe_tup (qae_cons qe_str (qae_cons (qe_tup (qae_cons qe_str (qae_cons (qe_v (pv 0)) qae_nil))) qae_nil))))))))
theorem ok_together (T : Tx K mg w) : FnOk P w K mg base CX0 1 T.d_together.f T.d_together.fd ["a", "b"] (spD K 2 m_together) := by
  exact fn_d (tb T) T.d_together.F sc_together rfl (fun cdv A outer s H E hr => (qss_cons (qs_if (qw_t (qw_or (qt_c (qc_2 (op_neU hr.units) snd_ne (nomark _) (qd_e (qe_p (qp_ix (qp_v (pv 0))))) (qd_e qe_str))) (qw_or1 (qt_c (qc_2 (op_neU hr.units) snd_ne (nomark _) (qd_e (qe_p (qp_ix (qp_v (pv 1))))) (qd_e qe_str))))))
      (qss_one (qs_retD (qd_e (qe_k (by rfl) T.c_KIND_operators T.q_KIND_operators))))
      qss_nil)
    (qss_cons (qs_setD (fun _ h => ps_set (i := 2) sc_together.nd rfl (Or.inl rfl) h) (qd_e (qe_2 snd_add (fun _ _ h1 h2 => pe_op op_addU h1 h2) (qe_p (qp_ix (qp_v (pv 0)))) (qe_p (qp_ix (qp_v (pv 1)))))))
    (qss_cons (qs_if (qt_c (qc_2 op_gt snd_gt (nomark _) (qd_e (qe_lenP (qp_v (pv 2)) (by rfl) T.z_len)) (qd_e (qe_k (by rfl) T.c_RUN_CHARACTERS T.q_RUN_CHARACTERS))))
      (qss_one (qs_retD (qd_e (qe_tup (qae_cons qe_str (qae_cons qe_str qae_nil))))))
      qss_nil)
    (qss_one (qs_retD (qd_e (qe_tup (qae_cons qe_str (qae_cons (qe_tup (qae_cons qe_str (qae_cons (qe_v (pv 2)) qae_nil))) qae_nil))))))))))
theorem ok_divided (T : Tx K mg w) : FnOk P w K mg base CX0 1 T.d_divided.f T.d_divided.fd ["op", "left", "right"] (spD K 3 m_divided) := by
  exact fn_d (tb T) T.d_divided.F sc_divided rfl (fun cdv A outer s H E hr => (qss_cons (qs_if (qt_c (qc_2 (op_eqU hr.units) snd_eq (nomark _) (qd_e (qe_v (pv 2))) (qd_e qe_int)))
      (qss_one (qs_retD (qd_e (qe_tup (qae_cons qe_str (qae_cons qe_str qae_nil))))))
      qss_nil)
    (qss_one (qs_retD (qd_tup (qa_cons (qd_e qe_str) (qa_cons (qd_tup (qa_cons (qd_e qe_str) (qa_cons (qd_if (qt_c (qc_2 (op_eqU hr.units) snd_eq (nomark _) (qd_e (qe_v (pv 0))) (qd_e qe_str))) (qd_e (qe_2 snd_div (fun _ _ h1 h2 => pe_op op_fdivG h1 h2) (qe_v (pv 1)) (qe_v (pv 2)))) (qd_e (qe_2 snd_mod (fun _ _ h1 h2 => pe_op op_modN h1 h2) (qe_v (pv 1)) (qe_v (pv 2))))) qa_nil))) qa_nil)))))))
theorem ok_computed (T : Tx K mg w) : FnOk P w K mg base CX0 1 T.d_computed.f T.d_computed.fd ["op", "left", "right"] (spD K 3 m_computed) := by
  exact fn_d (tb T) T.d_computed.F sc_computed rfl (fun cdv A outer s H E hr => (qss_cons (qs_if (qt_c (qc_2 (op_eqU hr.units) snd_eq (nomark _) (qd_e (qe_v (pv 0))) (qd_e qe_str)))
      (qss_one (qs_retD (qd_e (qe_2 snd_add (fun _ _ h1 h2 => pe_op op_addU h1 h2) (qe_v (pv 1)) (qe_v (pv 2))))))
      qss_nil)
    (qss_cons (qs_if (qt_c (qc_2 (op_eqU hr.units) snd_eq (nomark _) (qd_e (qe_v (pv 0))) (qd_e qe_str)))
      (qss_one (qs_retD (qd_e (qe_2 snd_sub (fun _ _ h1 h2 => pe_op op_sub h1 h2) (qe_v (pv 1)) (qe_v (pv 2))))))
      qss_nil)
    (qss_one (qs_retD (qd_e (qe_2 snd_mul (fun _ _ h1 h2 => pe_op op_mulU h1 h2) (qe_v (pv 1)) (qe_v (pv 2)))))))))
theorem ok_both (T : Tx K mg w) : FnOk P w K mg base CX0 2 T.d_both.f T.d_both.fd ["op", "a", "b"] (spD K 3 m_both) := by
  have G_bounded := ok_bounded (P := P) (w := w) (base := base) T
  have G_together := ok_together (P := P) (w := w) (base := base) T
  have G_divided := ok_divided (P := P) (w := w) (base := base) T
  have G_computed := ok_computed (P := P) (w := w) (base := base) T
  exact fn_d (tb T) T.d_both.F sc_both rfl (fun cdv A outer s H E hr => (qss_cons (qs_if (qt_c (qc_2 (op_eqU hr.units) snd_eq (nomark _) (qd_e (qe_v (pv 0))) (qd_e qe_str)))
      (qss_one (qs_retD (qd_tup (qa_cons (qd_e qe_str) (qa_cons (qd_tup (qa_cons (qd_e qe_str) (qa_cons (qd_c (qc_2 (op_eqU hr.units) snd_eq (nomark _) (qd_e (qe_v (pv 1))) (qd_e (qe_v (pv 2))))) qa_nil))) qa_nil)))))
      qss_nil)
    (qss_cons (qs_if (qt_c (qc_2 (op_eqU hr.units) snd_eq (nomark _) (qd_e (qe_v (pv 0))) (qd_e qe_str)))
      (qss_one (qs_retD (qd_e (qe_call (fun _ h => pe_call G_together (hr.mono (by omega)) (by rfl) T.d_together.m T.d_together.F.kp T.d_together.b .nil pass0 h) (qae_cons (qe_v (pv 1)) (qae_cons (qe_v (pv 2)) qae_nil))))))
      qss_nil)
    (qss_cons (qs_if (qw_t (qw_or (qt_c (qc_2 (op_neU hr.units) snd_ne (nomark _) (qd_e (qe_p (qp_ix (qp_v (pv 1))))) (qd_e qe_str))) (qw_or1 (qt_c (qc_2 (op_neU hr.units) snd_ne (nomark _) (qd_e (qe_p (qp_ix (qp_v (pv 2))))) (qd_e qe_str))))))
      (qss_one (qs_retD (qd_e (qe_k (by rfl) T.c_KIND_operators T.q_KIND_operators))))
      qss_nil)
    (qss_cons (qs_if (qt_c (qc_2 op_inU snd_in (by rfl) (qd_e (qe_v (pv 0))) (qd_e (qe_tup (qae_cons qe_str (qae_cons qe_str qae_nil))))))
      (qss_one (qs_retD (qd_tup (qa_cons (qd_e qe_str) (qa_cons (qd_tup (qa_cons (qd_e qe_str) (qa_cons (qd_if (qt_c (qc_2 (op_eqU hr.units) snd_eq (nomark _) (qd_e (qe_v (pv 0))) (qd_e qe_str))) (qd_c (qc_2 op_ltU snd_lt (nomark _) (qd_e (qe_p (qp_ix (qp_v (pv 1))))) (qd_e (qe_p (qp_ix (qp_v (pv 2))))))) (qd_c (qc_2 op_le snd_le (nomark _) (qd_e (qe_p (qp_ix (qp_v (pv 1))))) (qd_e (qe_p (qp_ix (qp_v (pv 2)))))))) qa_nil))) qa_nil)))))
      qss_nil)
    (qss_cons (qs_if (qt_c (qc_2 op_inU snd_in (by rfl) (qd_e (qe_v (pv 0))) (qd_e (qe_tup (qae_cons qe_str (qae_cons qe_str qae_nil))))))
      (qss_one (qs_retD (qd_e (qe_call (fun _ h => pe_call G_divided (hr.mono (by omega)) (by rfl) T.d_divided.m T.d_divided.F.kp T.d_divided.b .nil pass0 h) (qae_cons (qe_v (pv 0)) (qae_cons (qe_p (qp_ix (qp_v (pv 1)))) (qae_cons (qe_p (qp_ix (qp_v (pv 2)))) qae_nil)))))))
      qss_nil)
    (qss_one (qs_retD (qd_e (qe_call (fun _ h => pe_call G_bounded (hr.mono (by omega)) (by rfl) T.d_bounded.m T.d_bounded.F.kp T.d_bounded.b .nil pass0 h) (qae_cons (qe_call (fun _ h => pe_call G_computed (hr.mono (by omega)) (by rfl) T.d_computed.m T.d_computed.F.kp T.d_computed.b .nil pass0 h) (qae_cons (qe_v (pv 0)) (qae_cons (qe_p (qp_ix (qp_v (pv 1)))) (qae_cons (qe_p (qp_ix (qp_v (pv 2)))) qae_nil)))) qae_nil)))))))))))
theorem ok_negative (T : Tx K mg w) : FnOk P w K mg base CX0 1 T.d_negative.f T.d_negative.fd ["a"] (spD K 1 m_negative) := by
  exact fn_d (tb T) T.d_negative.F sc_negative rfl (fun cdv A outer s H E hr => (qss_cons (qs_if (qt_c (qc_2 (op_neU hr.units) snd_ne (nomark _) (qd_e (qe_p (qp_ix (qp_v (pv 0))))) (qd_e qe_str)))
      (qss_one (qs_retD (qd_e (qe_k (by rfl) T.c_KIND_operators T.q_KIND_operators))))
      qss_nil)
    (qss_one (qs_retD (qd_e (qe_tup (qae_cons qe_str (qae_cons (qe_tup (qae_cons qe_str (qae_cons (qe_1 snd_neg (fun _ h => pe_un un_neg h) (qe_p (qp_ix (qp_v (pv 0))))) qae_nil))) qae_nil))))))))
theorem ok_opposite (T : Tx K mg w) : FnOk P w K mg base CX0 1 T.d_opposite.f T.d_opposite.fd ["a"] (spD K 1 m_opposite) := by
  exact fn_d (tb T) T.d_opposite.F sc_opposite rfl (fun cdv A outer s H E hr => (qss_cons (qs_if (qt_c (qc_2 (op_neU hr.units) snd_ne (nomark _) (qd_e (qe_p (qp_ix (qp_v (pv 0))))) (qd_e qe_str)))
      (qss_one (qs_retD (qd_e (qe_k (by rfl) T.c_KIND_operators T.q_KIND_operators))))
      qss_nil)
    (qss_one (qs_retD (qd_tup (qa_cons (qd_e qe_str) (qa_cons (qd_tup (qa_cons (qd_e qe_str) (qa_cons (qd_not (qd_e (qe_p (qp_ix (qp_v (pv 0)))))) qa_nil))) qa_nil)))))))
theorem ok_truth (T : Tx K mg w) : FnOk P w K mg base CX0 1 T.d_truth.f T.d_truth.fd ["a"] (spD K 1 m_truth) := by
  exact fn_d (tb T) T.d_truth.F sc_truth rfl (fun cdv A outer s H E hr => (qss_cons (qs_if (qt_c (qc_2 (op_neU hr.units) snd_ne (nomark _) (qd_e (qe_p (qp_ix (qp_v (pv 0))))) (qd_e qe_str)))
      (qss_one (qs_retD (qd_e (qe_k (by rfl) T.c_KIND_operators T.q_KIND_operators))))
      qss_nil)
    (qss_one (qs_retD (qd_e (qe_tup (qae_cons qe_str (qae_cons (qe_p (qp_ix (qp_v (pv 0)))) qae_nil))))))))
theorem ok_leave (T : Tx K mg w) : FnOk P w K mg base CX0 1 T.d_leave.f T.d_leave.fd ["control", "what"] (spD K 2 m_leave) := by
  exact fn_d (tb T) T.d_leave.F sc_leave rfl (fun cdv A outer s H E hr => (qss_cons (qs_setD (fun _ h => ps_set (i := 2) sc_leave.nd rfl (Or.inl rfl) h) (qd_x (qx_tab (T.t_FITTING) (pe_glob (v := V.ref T.a_FITTING) (by rfl) T.c_FITTING rfl) (qd_e (qe_v (pv 1))) (fun _ _ => rfl))))
    (qss_cons (qs_setD (fun _ h => ps_set (i := 3) sc_leave.nd rfl (Or.inl rfl) h) (qd_e qe_int))
    (qss_cons (qs_for (fun _ _ _ h1 h2 h3 => ps_for PassesOwn.never rfl h1 h2 h3) (qi_enum (qd_e (qe_v (pv 0))) (by rfl) T.z_enumerate) (qg_tp (by rfl) (qgs_cons (qg_nm (pg_name (i := 4) sc_leave.nd rfl (Or.inl rfl))) (qgs_cons (qg_nm (pg_name (i := 5) sc_leave.nd rfl (Or.inl rfl))) qgs_nil)))
      (qss_cons (qs_if (qt_c (qc_2 op_inU snd_in (by rfl) (qd_e (qe_p (qp_ix (qp_v (pv 5))))) (qd_e (qe_v (pv 2)))))
      (qss_one (qs_retD (qd_tup (qa_cons (qd_e (qe_v (pv 3))) (qa_cons (qd_e (qe_v (pv 5))) (qa_cons (qd_slice (qd_e (qe_v (pv 0))) (qo_some (qd_e (qe_2 snd_add (fun _ _ h1 h2 => pe_op op_addU h1 h2) (qe_v (pv 4)) qe_int))) qo_none) qa_nil))))))
      qss_nil)
    (qss_one (qs_if (qt_c (qc_2 (op_eqU hr.units) snd_eq (nomark _) (qd_e (qe_p (qp_ix (qp_v (pv 5))))) (qd_e qe_str)))
      (qss_one (qs_aug snd_ipadd (fun _ h => ps_aug (i := 3) sc_leave.nd rfl (Or.inl rfl) h ip_add) (qd_e qe_int)))
      qss_nil))))
    (qss_one (qs_retD (qd_e (qe_tup (qae_cons (qe_v (pv 3)) (qae_cons qe_non (qae_cons (qe_tup qae_nil) qae_nil)))))))))))
theorem ok_passing (T : Tx K mg w) : FnOk P w K mg base CX0 1 T.d_passing.f T.d_passing.fd ["cuts", "after"] (spD K 2 m_passing) := by
  exact fn_d (tb T) T.d_passing.F sc_passing rfl (fun cdv A outer s H E hr => (qss_cons (qs_if (qt_c (qc_2 op_gt snd_gt (nomark _) (qd_e (qe_v (pv 0))) (qd_e qe_int)))
      (qss_one (qs_retD (qd_e (qe_tup (qae_cons qe_str (qae_cons (qe_v (pv 0)) (qae_cons (qe_v (pv 1)) qae_nil)))))))
      qss_nil)
    (qss_one (qs_retD (qd_e (qe_tup (qae_cons qe_str (qae_cons (qe_v (pv 1)) qae_nil))))))))
theorem ok_thrown (T : Tx K mg w) : FnOk P w K mg base CX0 2 T.d_thrown.f T.d_thrown.fd ["local", "value"] (spD K 2 m_thrown) := by
  have G_leave := ok_leave (P := P) (w := w) (base := base) T
  have G_passing := ok_passing (P := P) (w := w) (base := base) T
  exact fn_d (tb T) T.d_thrown.F sc_thrown rfl (fun cdv A outer s H E hr => (qss_cons (qs_pat (fun _ _ h g => ps_asg h g) (qd_e (qe_v (pv 0))) (qg_tp (by rfl) (qgs_cons (qg_nm (pg_name (i := 2) sc_thrown.nd rfl (Or.inl rfl))) (qgs_cons (qg_nm (pg_name (i := 2) sc_thrown.nd rfl (Or.inl rfl))) (qgs_cons (qg_nm (pg_name (i := 2) sc_thrown.nd rfl (Or.inl rfl))) (qgs_cons (qg_nm (pg_name (i := 3) sc_thrown.nd rfl (Or.inl rfl))) (qgs_cons (qg_nm (pg_name (i := 4) sc_thrown.nd rfl (Or.inl rfl))) qgs_nil)))))))
    (qss_cons (qs_pat (fun _ _ h g => ps_asg h g) (qd_e (qe_call (fun _ h => pe_call G_leave (hr.mono (by omega)) (by rfl) T.d_leave.m T.d_leave.F.kp T.d_leave.b .nil pass0 h) (qae_cons (qe_v (pv 4)) (qae_cons qe_str qae_nil)))) (qg_tp (by rfl) (qgs_cons (qg_nm (pg_name (i := 5) sc_thrown.nd rfl (Or.inl rfl))) (qgs_cons (qg_nm (pg_name (i := 6) sc_thrown.nd rfl (Or.inl rfl))) (qgs_cons (qg_nm (pg_name (i := 7) sc_thrown.nd rfl (Or.inl rfl))) qgs_nil)))))
    (qss_cons (qs_if (qt_c (qc_2 op_isN snd_is (nomark _) (qd_e (qe_v (pv 6))) (qd_e qe_non)))
      (qss_one (qs_retD (qd_e (qe_tup (qae_cons qe_str (qae_cons (qe_v (pv 1)) qae_nil))))))
      qss_nil)
    (qss_cons (qs_pat (fun _ _ h g => ps_asg h g) (qd_e (qe_v (pv 6))) (qg_tp (by rfl) (qgs_cons (qg_nm (pg_name (i := 2) sc_thrown.nd rfl (Or.inl rfl))) (qgs_cons (qg_nm (pg_name (i := 8) sc_thrown.nd rfl (Or.inl rfl))) (qgs_cons (qg_nm (pg_name (i := 9) sc_thrown.nd rfl (Or.inl rfl))) qgs_nil)))))
    (qss_one (qs_retD (qd_e (qe_call (fun _ h => pe_call G_passing (hr.mono (by omega)) (by rfl) T.d_passing.m T.d_passing.F.kp T.d_passing.b .nil pass0 h) (qae_cons (qe_v (pv 5)) (qae_cons (qe_tup (qae_cons (qe_v (pv 8)) (qae_cons (qe_tup (qae_cons (qe_v (pv 1)) qae_nil)) (qae_cons (qe_v (pv 9)) (qae_cons (qe_v (pv 3)) (qae_cons (qe_v (pv 7)) qae_nil)))))) qae_nil)))))))))))
theorem ok_gone_to (T : Tx K mg w) : FnOk P w K mg base CX0 1 T.d_gone_to.f T.d_gone_to.fd ["local", "address", "operands"] (spD K 3 m_gone_to) := by
  exact fn_d (tb T) T.d_gone_to.F sc_gone_to rfl (fun cdv A outer s H E hr => (qss_cons (qs_pat (fun _ _ h g => ps_asg h g) (qd_e (qe_v (pv 0))) (qg_tp (by rfl) (qgs_cons (qg_nm (pg_name (i := 3) sc_gone_to.nd rfl (Or.inl rfl))) (qgs_cons (qg_nm (pg_name (i := 3) sc_gone_to.nd rfl (Or.inl rfl))) (qgs_cons (qg_nm (pg_name (i := 4) sc_gone_to.nd rfl (Or.inl rfl))) (qgs_cons (qg_nm (pg_name (i := 5) sc_gone_to.nd rfl (Or.inl rfl))) (qgs_cons (qg_nm (pg_name (i := 6) sc_gone_to.nd rfl (Or.inl rfl))) qgs_nil)))))))
    (qss_one (qs_retD (qd_e (qe_tup (qae_cons (qe_v (pv 1)) (qae_cons (qe_v (pv 2)) (qae_cons (qe_v (pv 4)) (qae_cons (qe_v (pv 5)) (qae_cons (qe_v (pv 6)) qae_nil)))))))))))
theorem ok_gone_on (T : Tx K mg w) : FnOk P w K mg base CX0 2 T.d_gone_on.f T.d_gone_on.fd ["local", "operands"] (spD K 2 m_gone_on) := by
  have G_gone_to := ok_gone_to (P := P) (w := w) (base := base) T
  exact fn_d (tb T) T.d_gone_on.F sc_gone_on rfl (fun cdv A outer s H E hr => (qss_one (qs_retD (qd_e (qe_call (fun _ h => pe_call G_gone_to (hr.mono (by omega)) (by rfl) T.d_gone_to.m T.d_gone_to.F.kp T.d_gone_to.b .nil pass0 h) (qae_cons (qe_v (pv 0)) (qae_cons (qe_2 snd_add (fun _ _ h1 h2 => pe_op op_addU h1 h2) (qe_p (qp_ix (qp_v (pv 0)))) qe_int) (qae_cons (qe_v (pv 1)) qae_nil))))))))
theorem ok_controlled (T : Tx K mg w) : FnOk P w K mg base CX0 1 T.d_controlled.f T.d_controlled.fd ["local", "operands", "control"] (spD K 3 m_controlled) := by
  exact fn_d (tb T) T.d_controlled.F sc_controlled rfl (fun cdv A outer s H E hr => (qss_cons (qs_pat (fun _ _ h g => ps_asg h g) (qd_e (qe_v (pv 0))) (qg_tp (by rfl) (qgs_cons (qg_nm (pg_name (i := 3) sc_controlled.nd rfl (Or.inl rfl))) (qgs_cons (qg_nm (pg_name (i := 4) sc_controlled.nd rfl (Or.inl rfl))) (qgs_cons (qg_nm (pg_name (i := 5) sc_controlled.nd rfl (Or.inl rfl))) (qgs_cons (qg_nm (pg_name (i := 6) sc_controlled.nd rfl (Or.inl rfl))) (qgs_cons (qg_nm (pg_name (i := 4) sc_controlled.nd rfl (Or.inl rfl))) qgs_nil)))))))
    (qss_one (qs_retD (qd_e (qe_tup (qae_cons (qe_2 snd_add (fun _ _ h1 h2 => pe_op op_addU h1 h2) (qe_v (pv 3)) qe_int) (qae_cons (qe_v (pv 1)) (qae_cons (qe_v (pv 5)) (qae_cons (qe_v (pv 6)) (qae_cons (qe_v (pv 2)) qae_nil)))))))))))
theorem ok_fault (T : Tx K mg w) : FnOk P w K mg base CX0 3 T.d_fault.f T.d_fault.fd ["local", "words"] (spD K 2 m_fault) := by
  have G_thrown := ok_thrown (P := P) (w := w) (base := base) T
  exact fn_d (tb T) T.d_fault.F sc_fault rfl (fun cdv A outer s H E hr => (qss_one (qs_retD (qd_e (qe_call (fun _ h => pe_call G_thrown (hr.mono (by omega)) (by rfl) T.d_thrown.m T.d_thrown.F.kp T.d_thrown.b .nil pass0 h) (qae_cons (qe_v (pv 0)) (qae_cons (qe_tup (qae_cons qe_str (qae_cons (qe_v (pv 1)) qae_nil))) qae_nil)))))))
theorem ok_put (T : Tx K mg w) : FnOk P w K mg base CX0 3 T.d_put.f T.d_put.fd ["local", "value", "operands"] (spD K 3 m_put) := by
  have G_gone_on := ok_gone_on (P := P) (w := w) (base := base) T
  exact fn_d (tb T) T.d_put.F sc_put rfl (fun cdv A outer s H E hr => (qss_one (qs_retD (qd_e (qe_tup (qae_cons qe_str (qae_cons (qe_call (fun _ h => pe_call G_gone_on (hr.mono (by omega)) (by rfl) T.d_gone_on.m T.d_gone_on.F.kp T.d_gone_on.b .nil pass0 h) (qae_cons (qe_v (pv 0)) (qae_cons (qe_2 snd_add (fun _ _ h1 h2 => pe_op op_addU h1 h2) (qe_tup (qae_cons (qe_v (pv 1)) qae_nil)) (qe_v (pv 2))) qae_nil))) qae_nil)))))))
theorem ok_put_answer (T : Tx K mg w) : FnOk P w K mg base CX0 4 T.d_put_answer.f T.d_put_answer.fd ["local", "answer", "operands"] (spD K 3 m_put_answer) := by
  have G_put := ok_put (P := P) (w := w) (base := base) T
  have G_fault := ok_fault (P := P) (w := w) (base := base) T
  exact fn_d (tb T) T.d_put_answer.F sc_put_answer rfl (fun cdv A outer s H E hr => (qss_cons (qs_pat (fun _ _ h g => ps_asg h g) (qd_e (qe_v (pv 1))) (qg_tp (by rfl) (qgs_cons (qg_nm (pg_name (i := 3) sc_put_answer.nd rfl (Or.inl rfl))) (qgs_cons (qg_nm (pg_name (i := 4) sc_put_answer.nd rfl (Or.inl rfl))) qgs_nil))))
    (qss_cons (qs_if (qt_c (qc_2 (op_eqU hr.units) snd_eq (nomark _) (qd_e (qe_v (pv 3))) (qd_e qe_str)))
      (qss_one (qs_retD (qd_e (qe_call (fun _ h => pe_call G_fault (hr.mono (by omega)) (by rfl) T.d_fault.m T.d_fault.F.kp T.d_fault.b .nil pass0 h) (qae_cons (qe_v (pv 0)) (qae_cons (qe_v (pv 4)) qae_nil))))))
      qss_nil)
    (qss_one (qs_retD (qd_e (qe_call (fun _ h => pe_call G_put (hr.mono (by omega)) (by rfl) T.d_put.m T.d_put.F.kp T.d_put.b .nil pass0 h) (qae_cons (qe_v (pv 0)) (qae_cons (qe_v (pv 4)) (qae_cons (qe_v (pv 2)) qae_nil))))))))))
theorem ok_do_push (T : Tx K mg w) : FnOk P w K mg base CX0 1 T.d_do_push.f T.d_do_push.fd ["program", "local", "instruction"] (spX K (tb T) 3 m_do_push) := fn_none_x
theorem ok_do_not (T : Tx K mg w) : FnOk P w K mg base CX0 1 T.d_do_not.f T.d_do_not.fd ["program", "local", "instruction"] (spX K (tb T) 3 m_do_not) := fn_none_x
theorem ok_do_minus (T : Tx K mg w) : FnOk P w K mg base CX0 1 T.d_do_minus.f T.d_do_minus.fd ["program", "local", "instruction"] (spX K (tb T) 3 m_do_minus) := fn_none_x
theorem ok_do_both (T : Tx K mg w) : FnOk P w K mg base CX0 1 T.d_do_both.f T.d_do_both.fd ["program", "local", "instruction"] (spX K (tb T) 3 m_do_both) := fn_none_x
theorem ok_do_jump (T : Tx K mg w) : FnOk P w K mg base CX0 1 T.d_do_jump.f T.d_do_jump.fd ["program", "local", "instruction"] (spX K (tb T) 3 m_do_jump) := fn_none_x
theorem ok_do_jump_not (T : Tx K mg w) : FnOk P w K mg base CX0 1 T.d_do_jump_not.f T.d_do_jump_not.fd ["program", "local", "instruction"] (spX K (tb T) 3 m_do_jump_not) := fn_none_x
theorem ok_do_and_jump (T : Tx K mg w) : FnOk P w K mg base CX0 1 T.d_do_and_jump.f T.d_do_and_jump.fd ["program", "local", "instruction"] (spX K (tb T) 3 m_do_and_jump) := fn_none_x
theorem ok_do_or_jump (T : Tx K mg w) : FnOk P w K mg base CX0 1 T.d_do_or_jump.f T.d_do_or_jump.fd ["program", "local", "instruction"] (spX K (tb T) 3 m_do_or_jump) := fn_none_x
theorem ok_jump_with (T : Tx K mg w) : FnOk P w K mg base CX0 4 T.d_jump_with.f T.d_jump_with.fd ["local", "deciding", "address"] (spD K 3 m_jump_with) := by
  have G_truth := ok_truth (P := P) (w := w) (base := base) T
  have G_fault := ok_fault (P := P) (w := w) (base := base) T
  have G_gone_on := ok_gone_on (P := P) (w := w) (base := base) T
  have G_gone_to := ok_gone_to (P := P) (w := w) (base := base) T
  exact fn_d (tb T) T.d_jump_with.F sc_jump_with rfl (fun cdv A outer s H E hr => (qss_cons (qs_setD (fun _ h => ps_set (i := 3) sc_jump_with.nd rfl (Or.inl rfl) h) (qd_e (qe_p (qp_ix (qp_v (pv 0))))))
    (qss_cons (qs_pat (fun _ _ h g => ps_asg h g) (qd_e (qe_call (fun _ h => pe_call G_truth (hr.mono (by omega)) (by rfl) T.d_truth.m T.d_truth.F.kp T.d_truth.b .nil pass0 h) (qae_cons (qe_p (qp_ix (qp_v (pv 3)))) qae_nil))) (qg_tp (by rfl) (qgs_cons (qg_nm (pg_name (i := 4) sc_jump_with.nd rfl (Or.inl rfl))) (qgs_cons (qg_nm (pg_name (i := 5) sc_jump_with.nd rfl (Or.inl rfl))) qgs_nil))))
    (qss_cons (qs_if (qt_c (qc_2 (op_eqU hr.units) snd_eq (nomark _) (qd_e (qe_v (pv 4))) (qd_e qe_str)))
      (qss_one (qs_retD (qd_e (qe_call (fun _ h => pe_call G_fault (hr.mono (by omega)) (by rfl) T.d_fault.m T.d_fault.F.kp T.d_fault.b .nil pass0 h) (qae_cons (qe_v (pv 0)) (qae_cons (qe_v (pv 5)) qae_nil))))))
      qss_nil)
    (qss_cons (qs_if (qt_c (qc_2 (op_eqU hr.units) snd_eq (nomark _) (qd_e (qe_v (pv 5))) (qd_e (qe_v (pv 1)))))
      (qss_one (qs_retD (qd_e (qe_tup (qae_cons qe_str (qae_cons (qe_call (fun _ h => pe_call G_gone_to (hr.mono (by omega)) (by rfl) T.d_gone_to.m T.d_gone_to.F.kp T.d_gone_to.b .nil pass0 h) (qae_cons (qe_v (pv 0)) (qae_cons (qe_v (pv 2)) (qae_cons (qe_v (pv 3)) qae_nil)))) qae_nil))))))
      qss_nil)
    (qss_one (qs_retD (qd_tup (qa_cons (qd_e qe_str) (qa_cons (qd_call (fun _ h => pe_call G_gone_on (hr.mono (by omega)) (by rfl) T.d_gone_on.m T.d_gone_on.F.kp T.d_gone_on.b .nil pass0 h) (qa_cons (qd_e (qe_v (pv 0))) (qa_cons (qd_slice (qd_e (qe_v (pv 3))) (qo_some (qd_e qe_int)) qo_none) qa_nil))) qa_nil))))))))))
theorem ok_do_sized (T : Tx K mg w) : FnOk P w K mg base CX0 4 T.d_do_sized.f T.d_do_sized.fd ["program", "local", "instruction"] (spX K (tb T) 3 m_do_sized) := by
  have G_fault := ok_fault (P := P) (w := w) (base := base) T
  have G_gone_on := ok_gone_on (P := P) (w := w) (base := base) T
  exact fn_x (tb T) [0, 1, 2] T.d_do_sized.F sc_do_sized rfl (by decide) (fun cdv A outer s H E hr => (qss_cons (qs_setD (fun _ h => ps_set (i := 3) sc_do_sized.nd rfl (Or.inl rfl) h) (qd_e (qe_p (qp_ix (qp_v (pv 1))))))
    (qss_cons (qs_if (qt_c (qc_2 (op_neU hr.units) snd_ne (nomark _) (qd_e (qe_p (qp_ix (qp_ix (qp_v (pv 3)))))) (qd_e qe_str)))
      (qss_one (qs_retD (qd_e (qe_call (fun _ h => pe_call G_fault (hr.mono (by omega)) (by rfl) T.d_fault.m T.d_fault.F.kp T.d_fault.b .nil pass0 h) (qae_cons (qe_v (pv 1)) (qae_cons qe_str qae_nil))))))
      qss_nil)
    (qss_one (qs_retD (qd_e (qe_tup (qae_cons qe_str (qae_cons (qe_call (fun _ h => pe_call G_gone_on (hr.mono (by omega)) (by rfl) T.d_gone_on.m T.d_gone_on.F.kp T.d_gone_on.b .nil pass0 h) (qae_cons (qe_v (pv 1)) (qae_cons (qe_v (pv 3)) qae_nil))) qae_nil)))))))))
theorem ok_do_check_size (T : Tx K mg w) : FnOk P w K mg base CX0 5 T.d_do_check_size.f T.d_do_check_size.fd ["program", "local", "instruction"] (spX K (tb T) 3 m_do_check_size) := by
  have G_put_answer := ok_put_answer (P := P) (w := w) (base := base) T
  have G_array_size := ok_array_size (P := P) (w := w) (base := base) T
  exact fn_x (tb T) [0, 1, 2] T.d_do_check_size.F sc_do_check_size rfl (by decide) (fun cdv A outer s H E hr => (qss_cons (qs_setD (fun _ h => ps_set (i := 3) sc_do_check_size.nd rfl (Or.inl rfl) h) (qd_e (qe_p (qp_ix (qp_v (pv 1))))))
    (qss_one (qs_retD (qd_call (fun _ h => pe_call G_put_answer (hr.mono (by omega)) (by rfl) T.d_put_answer.m T.d_put_answer.F.kp T.d_put_answer.b .nil pass0 h) (qa_cons (qd_e (qe_v (pv 1))) (qa_cons (qd_e (qe_call (fun _ h => pe_call G_array_size (hr.mono (by omega)) (by rfl) T.d_array_size.m T.d_array_size.F.kp T.d_array_size.b .nil pass0 h) (qae_cons (qe_p (qp_ix (qp_v (pv 3)))) qae_nil))) (qa_cons (qd_slice (qd_e (qe_v (pv 3))) (qo_some (qd_e qe_int)) qo_none) qa_nil))))))))
theorem ok_do_drop (T : Tx K mg w) : FnOk P w K mg base CX0 1 T.d_do_drop.f T.d_do_drop.fd ["program", "local", "instruction"] (spX K (tb T) 3 m_do_drop) := fn_none_x
theorem ok_do_print (T : Tx K mg w) : FnOk P w K mg base CX0 1 T.d_do_print.f T.d_do_print.fd ["program", "local", "instruction"] (spX K (tb T) 3 m_do_print) := fn_none_x
theorem ok_do_input (T : Tx K mg w) : FnOk P w K mg base CX0 1 T.d_do_input.f T.d_do_input.fd ["program", "local", "instruction"] (spX K (tb T) 3 m_do_input) := fn_none_x
theorem ok_within (T : Tx K mg w) : FnOk P w K mg base CX0 2 T.d_within.f T.d_within.fd ["local", "operands", "entry"] (spD K 3 m_within) := by
  have G_controlled := ok_controlled (P := P) (w := w) (base := base) T
  exact fn_d (tb T) T.d_within.F sc_within rfl (fun cdv A outer s H E hr => (qss_one (qs_retD (qd_e (qe_tup (qae_cons qe_str (qae_cons (qe_call (fun _ h => pe_call G_controlled (hr.mono (by omega)) (by rfl) T.d_controlled.m T.d_controlled.F.kp T.d_controlled.b .nil pass0 h) (qae_cons (qe_v (pv 0)) (qae_cons (qe_v (pv 1)) (qae_cons (qe_2 snd_add (fun _ _ h1 h2 => pe_op op_addU h1 h2) (qe_tup (qae_cons (qe_v (pv 2)) qae_nil)) (qe_p (qp_ix (qp_v (pv 0))))) qae_nil)))) qae_nil)))))))
theorem ok_do_counter (T : Tx K mg w) : FnOk P w K mg base CX0 1 T.d_do_counter.f T.d_do_counter.fd ["program", "local", "instruction"] (spX K (tb T) 3 m_do_counter) := fn_none_x
theorem ok_counter_value (T : Tx K mg w) : FnOk P w K mg base CX0 1 T.d_counter_value.f T.d_counter_value.fd ["control", "number"] (spD K 2 m_counter_value) := by
  exact fn_d (tb T) T.d_counter_value.F sc_counter_value rfl (fun cdv A outer s H E hr => (qss_cons (qs_setD (fun _ h => ps_set (i := 2) sc_counter_value.nd rfl (Or.inl rfl) h) (qd_e qe_int))
    (qss_cons (qs_for (fun _ _ _ h1 h2 h3 => ps_for PassesOwn.never rfl h1 h2 h3) (qi_tup (qd_e (qe_v (pv 0)))) (qg_nm (pg_name (i := 3) sc_counter_value.nd rfl (Or.inl rfl)))
      (qss_cons (qs_if (qt_c (qc_2 (op_eqU hr.units) snd_eq (nomark _) (qd_e (qe_p (qp_ix (qp_v (pv 3))))) (qd_e qe_str)))
      (qss_one (qs_retD (qd_e (qe_k (by rfl) T.c_NONE T.q_NONE))))
      qss_nil)
    (qss_one (qs_if (qt_c (qc_2 (op_eqU hr.units) snd_eq (nomark _) (qd_e (qe_p (qp_ix (qp_v (pv 3))))) (qd_e qe_str)))
      (qss_cons (qs_if (qt_c (qc_2 (op_eqU hr.units) snd_eq (nomark _) (qd_e (qe_v (pv 2))) (qd_e (qe_v (pv 1)))))
      (qss_one (qs_retD (qd_e (qe_tup (qae_cons qe_str (qae_cons (qe_p (qp_ix (qp_v (pv 3)))) qae_nil))))))
      qss_nil)
    (qss_one (qs_aug snd_ipadd (fun _ h => ps_aug (i := 2) sc_counter_value.nd rfl (Or.inl rfl) h ip_add) (qd_e qe_int))))
      qss_nil))))
    (qss_one (qs_retD (qd_e (qe_k (by rfl) T.c_NONE T.q_NONE)))))))
theorem ok_do_call (T : Tx K mg w) : FnOk P w K mg base CX0 1 T.d_do_call.f T.d_do_call.fd ["program", "local", "instruction"] (spX K (tb T) 3 m_do_call) := fn_none_x
theorem ok_do_return (T : Tx K mg w) : FnOk P w K mg base CX0 1 T.d_do_return.f T.d_do_return.fd ["program", "local", "instruction"] (spX K (tb T) 3 m_do_return) := fn_none_x
theorem ok_do_break (T : Tx K mg w) : FnOk P w K mg base CX0 1 T.d_do_break.f T.d_do_break.fd ["program", "local", "instruction"] (spX K (tb T) 3 m_do_break) := fn_none_x
theorem ok_do_throw (T : Tx K mg w) : FnOk P w K mg base CX0 1 T.d_do_throw.f T.d_do_throw.fd ["program", "local", "instruction"] (spX K (tb T) 3 m_do_throw) := fn_none_x
theorem ok_do_guard (T : Tx K mg w) : FnOk P w K mg base CX0 1 T.d_do_guard.f T.d_do_guard.fd ["program", "local", "instruction"] (spX K (tb T) 3 m_do_guard) := fn_none_x
theorem ok_do_loop (T : Tx K mg w) : FnOk P w K mg base CX0 1 T.d_do_loop.f T.d_do_loop.fd ["program", "local", "instruction"] (spX K (tb T) 3 m_do_loop) := fn_none_x
theorem ok_do_each (T : Tx K mg w) : FnOk P w K mg base CX0 1 T.d_do_each.f T.d_do_each.fd ["program", "local", "instruction"] (spX K (tb T) 3 m_do_each) := fn_none_x
theorem ok_do_leave_entry (T : Tx K mg w) : FnOk P w K mg base CX0 1 T.d_do_leave_entry.f T.d_do_leave_entry.fd ["program", "local", "instruction"] (spX K (tb T) 3 m_do_leave_entry) := fn_none_x
theorem ok_do_test (T : Tx K mg w) : FnOk P w K mg base CX0 1 T.d_do_test.f T.d_do_test.fd ["program", "local", "instruction"] (spX K (tb T) 3 m_do_test) := fn_none_x
theorem ok_do_next (T : Tx K mg w) : FnOk P w K mg base CX0 1 T.d_do_next.f T.d_do_next.fd ["program", "local", "instruction"] (spX K (tb T) 3 m_do_next) := fn_none_x
theorem ok_do_spawn (T : Tx K mg w) : FnOk P w K mg base CX0 1 T.d_do_spawn.f T.d_do_spawn.fd ["program", "local", "instruction"] (spX K (tb T) 3 m_do_spawn) := fn_none_x
theorem ok_do_stop (T : Tx K mg w) : FnOk P w K mg base CX0 1 T.d_do_stop.f T.d_do_stop.fd ["program", "local", "instruction"] (spX K (tb T) 3 m_do_stop) := fn_none_x
theorem ok_place_in (T : Tx K mg w) : FnOk P w K mg base CX0 1 T.d_place_in.f T.d_place_in.fd ["thing", "cell"] (spD K 2 m_place_in) := by
  exact fn_d (tb T) T.d_place_in.F sc_place_in rfl (fun cdv A outer s H E hr => (qss_cons (qs_pat (fun _ _ h g => ps_asg h g) (qd_e (qe_v (pv 0))) (qg_tp (by rfl) (qgs_cons (qg_nm (pg_name (i := 2) sc_place_in.nd rfl (Or.inl rfl))) (qgs_cons (qg_nm (pg_name (i := 3) sc_place_in.nd rfl (Or.inl rfl))) (qgs_cons (qg_nm (pg_name (i := 4) sc_place_in.nd rfl (Or.inl rfl))) qgs_nil)))))
    (qss_one (qs_retD (qd_e (qe_tup (qae_cons (qe_v (pv 3)) (qae_cons (qe_v (pv 4)) (qae_cons (qe_v (pv 1)) qae_nil)))))))))
theorem ok_place_of (T : Tx K mg w) : FnOk P w K mg base CX0 2 T.d_place_of.f T.d_place_of.fd ["local", "variable"] (spD K 2 m_place_of) := by
  have G_place_in := ok_place_in (P := P) (w := w) (base := base) T
  exact fn_d (tb T) T.d_place_of.F sc_place_of rfl (fun cdv A outer s H E hr => (qss_cons (qs_pat (fun _ _ h g => ps_asg h g) (qd_e (qe_v (pv 1))) (qg_tp (by rfl) (qgs_cons (qg_nm (pg_name (i := 2) sc_place_of.nd rfl (Or.inl rfl))) (qgs_cons (qg_nm (pg_name (i := 3) sc_place_of.nd rfl (Or.inl rfl))) qgs_nil))))
    (qss_cons (qs_pat (fun _ _ h g => ps_asg h g) (qd_e (qe_v (pv 0))) (qg_tp (by rfl) (qgs_cons (qg_nm (pg_name (i := 4) sc_place_of.nd rfl (Or.inl rfl))) (qgs_cons (qg_nm (pg_name (i := 4) sc_place_of.nd rfl (Or.inl rfl))) (qgs_cons (qg_nm (pg_name (i := 5) sc_place_of.nd rfl (Or.inl rfl))) (qgs_cons (qg_nm (pg_name (i := 6) sc_place_of.nd rfl (Or.inl rfl))) (qgs_cons (qg_nm (pg_name (i := 4) sc_place_of.nd rfl (Or.inl rfl))) qgs_nil)))))))
    (qss_one (qs_retD (qd_call (fun _ h => pe_call G_place_in (hr.mono (by omega)) (by rfl) T.d_place_in.m T.d_place_in.F.kp T.d_place_in.b .nil pass0 h) (qa_cons (qd_if (qt_c (qc_2 (op_eqU hr.units) snd_eq (nomark _) (qd_e (qe_v (pv 2))) (qd_e qe_str))) (qd_e (qe_v (pv 5))) (qd_e (qe_v (pv 6)))) (qa_cons (qd_e (qe_v (pv 3))) qa_nil))))))))
theorem ok_do_load (T : Tx K mg w) : FnOk P w K mg base CX0 1 T.d_do_load.f T.d_do_load.fd ["program", "local", "instruction"] (spX K (tb T) 3 m_do_load) := fn_none_x
theorem ok_do_store (T : Tx K mg w) : FnOk P w K mg base CX0 1 T.d_do_store.f T.d_do_store.fd ["program", "local", "instruction"] (spX K (tb T) 3 m_do_store) := fn_none_x
theorem ok_do_kind (T : Tx K mg w) : FnOk P w K mg base CX0 4 T.d_do_kind.f T.d_do_kind.fd ["program", "local", "instruction"] (spX K (tb T) 3 m_do_kind) := by
  have G_fault := ok_fault (P := P) (w := w) (base := base) T
  have G_place_in := ok_place_in (P := P) (w := w) (base := base) T
  have G_gone_on := ok_gone_on (P := P) (w := w) (base := base) T
  exact fn_x (tb T) [0, 1, 2] T.d_do_kind.F sc_do_kind rfl (by decide) (fun cdv A outer s H E hr => (qss_cons (qs_setD (fun _ h => ps_set (i := 3) sc_do_kind.nd rfl (Or.inl rfl) h) (qd_e (qe_p (qp_ix (qp_v (pv 1))))))
    (qss_cons (qs_if (qt_c (qc_2 (op_neU hr.units) snd_ne (nomark _) (qd_e (qe_p (qp_ix (qp_ix (qp_v (pv 3)))))) (qd_e qe_str)))
      (qss_one (qs_retD (qd_e (qe_call (fun _ h => pe_call G_fault (hr.mono (by omega)) (by rfl) T.d_fault.m T.d_fault.F.kp T.d_fault.b .nil pass0 h) (qae_cons (qe_v (pv 1)) (qae_cons qe_str qae_nil))))))
      qss_nil)
    (qss_one (qs_retD (qd_e (qe_tup (qae_cons qe_str (qae_cons (qe_call (fun _ h => pe_call G_place_in (hr.mono (by omega)) (by rfl) T.d_place_in.m T.d_place_in.F.kp T.d_place_in.b .nil pass0 h) (qae_cons (qe_p (qp_ix (qp_v (pv 3)))) (qae_cons qe_int qae_nil))) (qae_cons (qe_call (fun _ h => pe_call G_gone_on (hr.mono (by omega)) (by rfl) T.d_gone_on.m T.d_gone_on.F.kp T.d_gone_on.b .nil pass0 h) (qae_cons (qe_v (pv 1)) (qae_cons (qe_v (pv 3)) qae_nil))) qae_nil))))))))))
theorem ok_read_cell (T : Tx K mg w) : FnOk P w K mg base CX0 4 T.d_read_cell.f T.d_read_cell.fd ["local", "thing", "answer", "operands"] (spD K 4 m_read_cell) := by
  have G_fault := ok_fault (P := P) (w := w) (base := base) T
  have G_place_in := ok_place_in (P := P) (w := w) (base := base) T
  have G_gone_on := ok_gone_on (P := P) (w := w) (base := base) T
  exact fn_d (tb T) T.d_read_cell.F sc_read_cell rfl (fun cdv A outer s H E hr => (qss_cons (qs_pat (fun _ _ h g => ps_asg h g) (qd_e (qe_v (pv 2))) (qg_tp (by rfl) (qgs_cons (qg_nm (pg_name (i := 4) sc_read_cell.nd rfl (Or.inl rfl))) (qgs_cons (qg_nm (pg_name (i := 5) sc_read_cell.nd rfl (Or.inl rfl))) qgs_nil))))
    (qss_cons (qs_if (qt_c (qc_2 (op_eqU hr.units) snd_eq (nomark _) (qd_e (qe_v (pv 4))) (qd_e qe_str)))
      (qss_one (qs_retD (qd_e (qe_call (fun _ h => pe_call G_fault (hr.mono (by omega)) (by rfl) T.d_fault.m T.d_fault.F.kp T.d_fault.b .nil pass0 h) (qae_cons (qe_v (pv 0)) (qae_cons (qe_v (pv 5)) qae_nil))))))
      qss_nil)
    (qss_one (qs_retD (qd_e (qe_tup (qae_cons qe_str (qae_cons (qe_call (fun _ h => pe_call G_place_in (hr.mono (by omega)) (by rfl) T.d_place_in.m T.d_place_in.F.kp T.d_place_in.b .nil pass0 h) (qae_cons (qe_v (pv 1)) (qae_cons (qe_v (pv 5)) qae_nil))) (qae_cons (qe_call (fun _ h => pe_call G_gone_on (hr.mono (by omega)) (by rfl) T.d_gone_on.m T.d_gone_on.F.kp T.d_gone_on.b .nil pass0 h) (qae_cons (qe_v (pv 0)) (qae_cons (qe_v (pv 3)) qae_nil))) qae_nil))))))))))
theorem ok_write_cell (T : Tx K mg w) : FnOk P w K mg base CX0 4 T.d_write_cell.f T.d_write_cell.fd ["local", "thing", "answer", "value", "operands"] (spD K 5 m_write_cell) := by
  have G_fault := ok_fault (P := P) (w := w) (base := base) T
  have G_place_in := ok_place_in (P := P) (w := w) (base := base) T
  have G_gone_on := ok_gone_on (P := P) (w := w) (base := base) T
  exact fn_d (tb T) T.d_write_cell.F sc_write_cell rfl (fun cdv A outer s H E hr => (qss_cons (qs_pat (fun _ _ h g => ps_asg h g) (qd_e (qe_v (pv 2))) (qg_tp (by rfl) (qgs_cons (qg_nm (pg_name (i := 5) sc_write_cell.nd rfl (Or.inl rfl))) (qgs_cons (qg_nm (pg_name (i := 6) sc_write_cell.nd rfl (Or.inl rfl))) qgs_nil))))
    (qss_cons (qs_if (qt_c (qc_2 (op_eqU hr.units) snd_eq (nomark _) (qd_e (qe_v (pv 5))) (qd_e qe_str)))
      (qss_one (qs_retD (qd_e (qe_call (fun _ h => pe_call G_fault (hr.mono (by omega)) (by rfl) T.d_fault.m T.d_fault.F.kp T.d_fault.b .nil pass0 h) (qae_cons (qe_v (pv 0)) (qae_cons (qe_v (pv 6)) qae_nil))))))
      qss_nil)
    (qss_one (qs_retD (qd_e (qe_tup (qae_cons qe_str (qae_cons (qe_call (fun _ h => pe_call G_place_in (hr.mono (by omega)) (by rfl) T.d_place_in.m T.d_place_in.F.kp T.d_place_in.b .nil pass0 h) (qae_cons (qe_v (pv 1)) (qae_cons (qe_v (pv 6)) qae_nil))) (qae_cons (qe_v (pv 3)) (qae_cons (qe_call (fun _ h => pe_call G_gone_on (hr.mono (by omega)) (by rfl) T.d_gone_on.m T.d_gone_on.F.kp T.d_gone_on.b .nil pass0 h) (qae_cons (qe_v (pv 0)) (qae_cons (qe_v (pv 4)) qae_nil))) qae_nil)))))))))))
theorem ok_do_field (T : Tx K mg w) : FnOk P w K mg base CX0 5 T.d_do_field.f T.d_do_field.fd ["program", "local", "instruction"] (spX K (tb T) 3 m_do_field) := by
  have G_read_cell := ok_read_cell (P := P) (w := w) (base := base) T
  have G_field_cell := ok_field_cell (P := P) (w := w) (base := base) T
  exact fn_x (tb T) [0, 1, 2] T.d_do_field.F sc_do_field rfl (by decide) (fun cdv A outer s H E hr => (qss_cons (qs_setD (fun _ h => ps_set (i := 3) sc_do_field.nd rfl (Or.inl rfl) h) (qd_e (qe_p (qp_ix (qp_v (pv 1))))))
    (qss_cons (qs_pat (fun _ _ h g => ps_asg h g) (qd_slice (qd_e (qe_v (pv 3))) qo_none (qo_some (qd_e qe_int))) (qg_tp (by rfl) (qgs_cons (qg_nm (pg_name (i := 4) sc_do_field.nd rfl (Or.inl rfl))) (qgs_cons (qg_nm (pg_name (i := 5) sc_do_field.nd rfl (Or.inl rfl))) qgs_nil))))
    (qss_one (qs_retD (qd_call (fun _ h => pe_call G_read_cell (hr.mono (by omega)) (by rfl) T.d_read_cell.m T.d_read_cell.F.kp T.d_read_cell.b .nil pass0 h) (qa_cons (qd_e (qe_v (pv 1))) (qa_cons (qd_e (qe_v (pv 5))) (qa_cons (qd_e (qe_call (fun _ h => pe_call G_field_cell (hr.mono (by omega)) (by rfl) T.d_field_cell.m T.d_field_cell.F.kp T.d_field_cell.b .nil pass0 h) (qae_cons (qe_p (qp_fld (T.cl_Program) (T.na_Program_records) (qp_v (pv 0)))) (qae_cons (qe_v (pv 4)) (qae_cons (qe_p (qp_ix (qp_v (pv 2)))) qae_nil))))) (qa_cons (qd_slice (qd_e (qe_v (pv 3))) (qo_some (qd_e qe_int)) qo_none) qa_nil))))))))))
theorem ok_do_item (T : Tx K mg w) : FnOk P w K mg base CX0 5 T.d_do_item.f T.d_do_item.fd ["program", "local", "instruction"] (spX K (tb T) 3 m_do_item) := by
  have G_read_cell := ok_read_cell (P := P) (w := w) (base := base) T
  have G_item_cell := ok_item_cell (P := P) (w := w) (base := base) T
  exact fn_x (tb T) [0, 1, 2] T.d_do_item.F sc_do_item rfl (by decide) (fun cdv A outer s H E hr => (qss_cons (qs_setD (fun _ h => ps_set (i := 3) sc_do_item.nd rfl (Or.inl rfl) h) (qd_e (qe_p (qp_ix (qp_v (pv 1))))))
    (qss_cons (qs_pat (fun _ _ h g => ps_asg h g) (qd_slice (qd_e (qe_v (pv 3))) qo_none (qo_some (qd_e qe_int))) (qg_tp (by rfl) (qgs_cons (qg_nm (pg_name (i := 4) sc_do_item.nd rfl (Or.inl rfl))) (qgs_cons (qg_nm (pg_name (i := 5) sc_do_item.nd rfl (Or.inl rfl))) (qgs_cons (qg_nm (pg_name (i := 6) sc_do_item.nd rfl (Or.inl rfl))) qgs_nil)))))
    (qss_one (qs_retD (qd_call (fun _ h => pe_call G_read_cell (hr.mono (by omega)) (by rfl) T.d_read_cell.m T.d_read_cell.F.kp T.d_read_cell.b .nil pass0 h) (qa_cons (qd_e (qe_v (pv 1))) (qa_cons (qd_e (qe_v (pv 6))) (qa_cons (qd_e (qe_call (fun _ h => pe_call G_item_cell (hr.mono (by omega)) (by rfl) T.d_item_cell.m T.d_item_cell.F.kp T.d_item_cell.b .nil pass0 h) (qae_cons (qe_v (pv 5)) (qae_cons (qe_v (pv 4)) qae_nil)))) (qa_cons (qd_slice (qd_e (qe_v (pv 3))) (qo_some (qd_e qe_int)) qo_none) qa_nil))))))))))
theorem ok_do_set_field (T : Tx K mg w) : FnOk P w K mg base CX0 5 T.d_do_set_field.f T.d_do_set_field.fd ["program", "local", "instruction"] (spX K (tb T) 3 m_do_set_field) := by
  have G_write_cell := ok_write_cell (P := P) (w := w) (base := base) T
  have G_field_cell := ok_field_cell (P := P) (w := w) (base := base) T
  exact fn_x (tb T) [0, 1, 2] T.d_do_set_field.F sc_do_set_field rfl (by decide) (fun cdv A outer s H E hr => (qss_cons (qs_setD (fun _ h => ps_set (i := 3) sc_do_set_field.nd rfl (Or.inl rfl) h) (qd_e (qe_p (qp_ix (qp_v (pv 1))))))
    (qss_cons (qs_pat (fun _ _ h g => ps_asg h g) (qd_slice (qd_e (qe_v (pv 3))) qo_none (qo_some (qd_e qe_int))) (qg_tp (by rfl) (qgs_cons (qg_nm (pg_name (i := 4) sc_do_set_field.nd rfl (Or.inl rfl))) (qgs_cons (qg_nm (pg_name (i := 5) sc_do_set_field.nd rfl (Or.inl rfl))) (qgs_cons (qg_nm (pg_name (i := 6) sc_do_set_field.nd rfl (Or.inl rfl))) qgs_nil)))))
    (qss_one (qs_retD (qd_call (fun _ h => pe_call G_write_cell (hr.mono (by omega)) (by rfl) T.d_write_cell.m T.d_write_cell.F.kp T.d_write_cell.b .nil pass0 h) (qa_cons (qd_e (qe_v (pv 1))) (qa_cons (qd_e (qe_v (pv 6))) (qa_cons (qd_e (qe_call (fun _ h => pe_call G_field_cell (hr.mono (by omega)) (by rfl) T.d_field_cell.m T.d_field_cell.F.kp T.d_field_cell.b .nil pass0 h) (qae_cons (qe_p (qp_fld (T.cl_Program) (T.na_Program_records) (qp_v (pv 0)))) (qae_cons (qe_v (pv 5)) (qae_cons (qe_p (qp_ix (qp_v (pv 2)))) qae_nil))))) (qa_cons (qd_e (qe_v (pv 4))) (qa_cons (qd_slice (qd_e (qe_v (pv 3))) (qo_some (qd_e qe_int)) qo_none) qa_nil)))))))))))
theorem ok_do_set_item (T : Tx K mg w) : FnOk P w K mg base CX0 5 T.d_do_set_item.f T.d_do_set_item.fd ["program", "local", "instruction"] (spX K (tb T) 3 m_do_set_item) := by
  have G_write_cell := ok_write_cell (P := P) (w := w) (base := base) T
  have G_item_cell := ok_item_cell (P := P) (w := w) (base := base) T
  exact fn_x (tb T) [0, 1, 2] T.d_do_set_item.F sc_do_set_item rfl (by decide) (fun cdv A outer s H E hr => (qss_cons (qs_setD (fun _ h => ps_set (i := 3) sc_do_set_item.nd rfl (Or.inl rfl) h) (qd_e (qe_p (qp_ix (qp_v (pv 1))))))
    (qss_cons (qs_pat (fun _ _ h g => ps_asg h g) (qd_slice (qd_e (qe_v (pv 3))) qo_none (qo_some (qd_e qe_int))) (qg_tp (by rfl) (qgs_cons (qg_nm (pg_name (i := 4) sc_do_set_item.nd rfl (Or.inl rfl))) (qgs_cons (qg_nm (pg_name (i := 5) sc_do_set_item.nd rfl (Or.inl rfl))) (qgs_cons (qg_nm (pg_name (i := 6) sc_do_set_item.nd rfl (Or.inl rfl))) (qgs_cons (qg_nm (pg_name (i := 7) sc_do_set_item.nd rfl (Or.inl rfl))) qgs_nil))))))
    (qss_one (qs_retD (qd_call (fun _ h => pe_call G_write_cell (hr.mono (by omega)) (by rfl) T.d_write_cell.m T.d_write_cell.F.kp T.d_write_cell.b .nil pass0 h) (qa_cons (qd_e (qe_v (pv 1))) (qa_cons (qd_e (qe_v (pv 7))) (qa_cons (qd_e (qe_call (fun _ h => pe_call G_item_cell (hr.mono (by omega)) (by rfl) T.d_item_cell.m T.d_item_cell.F.kp T.d_item_cell.b .nil pass0 h) (qae_cons (qe_v (pv 6)) (qae_cons (qe_v (pv 5)) qae_nil)))) (qa_cons (qd_e (qe_v (pv 4))) (qa_cons (qd_slice (qd_e (qe_v (pv 3))) (qo_some (qd_e qe_int)) qo_none) qa_nil)))))))))))
theorem ok_do_size (T : Tx K mg w) : FnOk P w K mg base CX0 4 T.d_do_size.f T.d_do_size.fd ["program", "local", "instruction"] (spX K (tb T) 3 m_do_size) := by
  have G_fault := ok_fault (P := P) (w := w) (base := base) T
  have G_put := ok_put (P := P) (w := w) (base := base) T
  have G_place_in := ok_place_in (P := P) (w := w) (base := base) T
  have G_gone_on := ok_gone_on (P := P) (w := w) (base := base) T
  exact fn_x (tb T) [0, 1, 2] T.d_do_size.F sc_do_size rfl (by decide) (fun cdv A outer s H E hr => (qss_cons (qs_setD (fun _ h => ps_set (i := 3) sc_do_size.nd rfl (Or.inl rfl) h) (qd_e (qe_p (qp_ix (qp_v (pv 1))))))
    (qss_cons (qs_setD (fun _ h => ps_set (i := 4) sc_do_size.nd rfl (Or.inl rfl) h) (qd_e (qe_p (qp_ix (qp_v (pv 3))))))
    (qss_cons (qs_if (qt_c (qc_2 (op_eqU hr.units) snd_eq (nomark _) (qd_e (qe_p (qp_ix (qp_v (pv 4))))) (qd_e qe_str)))
      (qss_one (qs_retD (qd_call (fun _ h => pe_call G_put (hr.mono (by omega)) (by rfl) T.d_put.m T.d_put.F.kp T.d_put.b .nil pass0 h) (qa_cons (qd_e (qe_v (pv 1))) (qa_cons (qd_e (qe_tup (qae_cons qe_str (qae_cons (qe_lenP (qp_ix (qp_v (pv 4))) (by rfl) T.z_len) qae_nil)))) (qa_cons (qd_slice (qd_e (qe_v (pv 3))) (qo_some (qd_e qe_int)) qo_none) qa_nil))))))
      qss_nil)
    (qss_cons (qs_if (qt_c (qc_2 (op_eqU hr.units) snd_eq (nomark _) (qd_e (qe_p (qp_ix (qp_v (pv 4))))) (qd_e qe_str)))
      (qss_one (qs_retD (qd_tup (qa_cons (qd_e qe_str) (qa_cons (qd_e (qe_call (fun _ h => pe_call G_place_in (hr.mono (by omega)) (by rfl) T.d_place_in.m T.d_place_in.F.kp T.d_place_in.b .nil pass0 h) (qae_cons (qe_v (pv 4)) (qae_cons qe_int qae_nil)))) (qa_cons (qd_call (fun _ h => pe_call G_gone_on (hr.mono (by omega)) (by rfl) T.d_gone_on.m T.d_gone_on.F.kp T.d_gone_on.b .nil pass0 h) (qa_cons (qd_e (qe_v (pv 1))) (qa_cons (qd_slice (qd_e (qe_v (pv 3))) (qo_some (qd_e qe_int)) qo_none) qa_nil))) qa_nil))))))
      qss_nil)
    (qss_one (qs_retD (qd_e (qe_call (fun _ h => pe_call G_fault (hr.mono (by omega)) (by rfl) T.d_fault.m T.d_fault.F.kp T.d_fault.b .nil pass0 h) (qae_cons (qe_v (pv 1)) (qae_cons qe_str qae_nil)))))))))))
theorem ok_do_make (T : Tx K mg w) : FnOk P w K mg base CX0 3 T.d_do_make.f T.d_do_make.fd ["program", "local", "instruction"] (spX K (tb T) 3 m_do_make) := by
  have G_gone_on := ok_gone_on (P := P) (w := w) (base := base) T
  exact fn_x (tb T) [0, 1, 2] T.d_do_make.F sc_do_make rfl (by decide) (fun cdv A outer s H E hr => (qss_one (qs_retD (qd_e (qe_tup (qae_cons qe_str (qae_cons qe_str (qae_cons (qe_call (fun _ h => pe_call G_gone_on (hr.mono (by omega)) (by rfl) T.d_gone_on.m T.d_gone_on.F.kp T.d_gone_on.b .nil pass0 h) (qae_cons (qe_v (pv 1)) (qae_cons (qe_p (qp_ix (qp_v (pv 1)))) qae_nil))) qae_nil))))))))
theorem ok_do_tag (T : Tx K mg w) : FnOk P w K mg base CX0 3 T.d_do_tag.f T.d_do_tag.fd ["program", "local", "instruction"] (spX K (tb T) 3 m_do_tag) := by
  have G_place_in := ok_place_in (P := P) (w := w) (base := base) T
  have G_gone_on := ok_gone_on (P := P) (w := w) (base := base) T
  exact fn_x (tb T) [0, 1, 2] T.d_do_tag.F sc_do_tag rfl (by decide) (fun cdv A outer s H E hr => (qss_cons (qs_setD (fun _ h => ps_set (i := 3) sc_do_tag.nd rfl (Or.inl rfl) h) (qd_e (qe_p (qp_ix (qp_v (pv 1))))))
    (qss_one (qs_retD (qd_e (qe_tup (qae_cons qe_str (qae_cons (qe_call (fun _ h => pe_call G_place_in (hr.mono (by omega)) (by rfl) T.d_place_in.m T.d_place_in.F.kp T.d_place_in.b .nil pass0 h) (qae_cons (qe_p (qp_ix (qp_v (pv 3)))) (qae_cons qe_int qae_nil))) (qae_cons (qe_tup (qae_cons qe_str (qae_cons (qe_p (qp_ix (qp_v (pv 2)))) qae_nil))) (qae_cons (qe_call (fun _ h => pe_call G_gone_on (hr.mono (by omega)) (by rfl) T.d_gone_on.m T.d_gone_on.F.kp T.d_gone_on.b .nil pass0 h) (qae_cons (qe_v (pv 1)) (qae_cons (qe_v (pv 3)) qae_nil))) qae_nil))))))))))
theorem ok_do_tag_size (T : Tx K mg w) : FnOk P w K mg base CX0 3 T.d_do_tag_size.f T.d_do_tag_size.fd ["program", "local", "instruction"] (spX K (tb T) 3 m_do_tag_size) := by
  have G_place_in := ok_place_in (P := P) (w := w) (base := base) T
  have G_gone_on := ok_gone_on (P := P) (w := w) (base := base) T
  exact fn_x (tb T) [0, 1, 2] T.d_do_tag_size.F sc_do_tag_size rfl (by decide) (fun cdv A outer s H E hr => (qss_cons (qs_setD (fun _ h => ps_set (i := 3) sc_do_tag_size.nd rfl (Or.inl rfl) h) (qd_e (qe_p (qp_ix (qp_v (pv 1))))))
    (qss_cons (qs_pat (fun _ _ h g => ps_asg h g) (qd_slice (qd_e (qe_v (pv 3))) qo_none (qo_some (qd_e qe_int))) (qg_tp (by rfl) (qgs_cons (qg_nm (pg_name (i := 4) sc_do_tag_size.nd rfl (Or.inl rfl))) (qgs_cons (qg_nm (pg_name (i := 5) sc_do_tag_size.nd rfl (Or.inl rfl))) qgs_nil))))
    (qss_one (qs_retD (qd_tup (qa_cons (qd_e qe_str) (qa_cons (qd_e (qe_call (fun _ h => pe_call G_place_in (hr.mono (by omega)) (by rfl) T.d_place_in.m T.d_place_in.F.kp T.d_place_in.b .nil pass0 h) (qae_cons (qe_v (pv 4)) (qae_cons qe_int qae_nil)))) (qa_cons (qd_e (qe_v (pv 5))) (qa_cons (qd_call (fun _ h => pe_call G_gone_on (hr.mono (by omega)) (by rfl) T.d_gone_on.m T.d_gone_on.F.kp T.d_gone_on.b .nil pass0 h) (qa_cons (qd_e (qe_v (pv 1))) (qa_cons (qd_2 snd_add (fun _ _ h1 h2 => pe_op op_addU h1 h2) (qd_e (qe_tup (qae_cons (qe_v (pv 4)) qae_nil))) (qd_slice (qd_e (qe_v (pv 3))) (qo_some (qd_e qe_int)) qo_none)) qa_nil))) qa_nil))))))))))
theorem ok_do_enter (T : Tx K mg w) : FnOk P w K mg base CX0 1 T.d_do_enter.f T.d_do_enter.fd ["program", "local", "instruction"] (spX K (tb T) 3 m_do_enter) := fn_none_x
theorem held_fns (T : Tx K mg w) : ∀ j, j < 38 → Held P w K mg base 5 ((tb T).fa j) (spX K (tb T) 3 (fnM j))
  | 0, _ => ⟨_, _, (ok_do_push (P := P) (w := w) (base := base) T).mono (by decide), T.d_do_push.F.kp, T.d_do_push.b⟩
  | 1, _ => ⟨_, _, (ok_do_not (P := P) (w := w) (base := base) T).mono (by decide), T.d_do_not.F.kp, T.d_do_not.b⟩
  | 2, _ => ⟨_, _, (ok_do_minus (P := P) (w := w) (base := base) T).mono (by decide), T.d_do_minus.F.kp, T.d_do_minus.b⟩
  | 3, _ => ⟨_, _, (ok_do_both (P := P) (w := w) (base := base) T).mono (by decide), T.d_do_both.F.kp, T.d_do_both.b⟩
  | 4, _ => ⟨_, _, (ok_do_jump (P := P) (w := w) (base := base) T).mono (by decide), T.d_do_jump.F.kp, T.d_do_jump.b⟩
  | 5, _ => ⟨_, _, (ok_do_jump_not (P := P) (w := w) (base := base) T).mono (by decide), T.d_do_jump_not.F.kp, T.d_do_jump_not.b⟩
  | 6, _ => ⟨_, _, (ok_do_and_jump (P := P) (w := w) (base := base) T).mono (by decide), T.d_do_and_jump.F.kp, T.d_do_and_jump.b⟩
  | 7, _ => ⟨_, _, (ok_do_or_jump (P := P) (w := w) (base := base) T).mono (by decide), T.d_do_or_jump.F.kp, T.d_do_or_jump.b⟩
  | 8, _ => ⟨_, _, (ok_do_sized (P := P) (w := w) (base := base) T).mono (by decide), T.d_do_sized.F.kp, T.d_do_sized.b⟩
  | 9, _ => ⟨_, _, (ok_do_check_size (P := P) (w := w) (base := base) T).mono (by decide), T.d_do_check_size.F.kp, T.d_do_check_size.b⟩
  | 10, _ => ⟨_, _, (ok_do_drop (P := P) (w := w) (base := base) T).mono (by decide), T.d_do_drop.F.kp, T.d_do_drop.b⟩
  | 11, _ => ⟨_, _, (ok_do_print (P := P) (w := w) (base := base) T).mono (by decide), T.d_do_print.F.kp, T.d_do_print.b⟩
  | 12, _ => ⟨_, _, (ok_do_input (P := P) (w := w) (base := base) T).mono (by decide), T.d_do_input.F.kp, T.d_do_input.b⟩
  | 13, _ => ⟨_, _, (ok_do_load (P := P) (w := w) (base := base) T).mono (by decide), T.d_do_load.F.kp, T.d_do_load.b⟩
  | 14, _ => ⟨_, _, (ok_do_store (P := P) (w := w) (base := base) T).mono (by decide), T.d_do_store.F.kp, T.d_do_store.b⟩
  | 15, _ => ⟨_, _, (ok_do_kind (P := P) (w := w) (base := base) T).mono (by decide), T.d_do_kind.F.kp, T.d_do_kind.b⟩
  | 16, _ => ⟨_, _, (ok_do_field (P := P) (w := w) (base := base) T).mono (by decide), T.d_do_field.F.kp, T.d_do_field.b⟩
  | 17, _ => ⟨_, _, (ok_do_item (P := P) (w := w) (base := base) T).mono (by decide), T.d_do_item.F.kp, T.d_do_item.b⟩
  | 18, _ => ⟨_, _, (ok_do_set_field (P := P) (w := w) (base := base) T).mono (by decide), T.d_do_set_field.F.kp, T.d_do_set_field.b⟩
  | 19, _ => ⟨_, _, (ok_do_set_item (P := P) (w := w) (base := base) T).mono (by decide), T.d_do_set_item.F.kp, T.d_do_set_item.b⟩
  | 20, _ => ⟨_, _, (ok_do_size (P := P) (w := w) (base := base) T).mono (by decide), T.d_do_size.F.kp, T.d_do_size.b⟩
  | 21, _ => ⟨_, _, (ok_do_make (P := P) (w := w) (base := base) T).mono (by decide), T.d_do_make.F.kp, T.d_do_make.b⟩
  | 22, _ => ⟨_, _, (ok_do_tag (P := P) (w := w) (base := base) T).mono (by decide), T.d_do_tag.F.kp, T.d_do_tag.b⟩
  | 23, _ => ⟨_, _, (ok_do_tag_size (P := P) (w := w) (base := base) T).mono (by decide), T.d_do_tag_size.F.kp, T.d_do_tag_size.b⟩
  | 24, _ => ⟨_, _, (ok_do_enter (P := P) (w := w) (base := base) T).mono (by decide), T.d_do_enter.F.kp, T.d_do_enter.b⟩
  | 25, _ => ⟨_, _, (ok_do_counter (P := P) (w := w) (base := base) T).mono (by decide), T.d_do_counter.F.kp, T.d_do_counter.b⟩
  | 26, _ => ⟨_, _, (ok_do_call (P := P) (w := w) (base := base) T).mono (by decide), T.d_do_call.F.kp, T.d_do_call.b⟩
  | 27, _ => ⟨_, _, (ok_do_return (P := P) (w := w) (base := base) T).mono (by decide), T.d_do_return.F.kp, T.d_do_return.b⟩
  | 28, _ => ⟨_, _, (ok_do_break (P := P) (w := w) (base := base) T).mono (by decide), T.d_do_break.F.kp, T.d_do_break.b⟩
  | 29, _ => ⟨_, _, (ok_do_throw (P := P) (w := w) (base := base) T).mono (by decide), T.d_do_throw.F.kp, T.d_do_throw.b⟩
  | 30, _ => ⟨_, _, (ok_do_guard (P := P) (w := w) (base := base) T).mono (by decide), T.d_do_guard.F.kp, T.d_do_guard.b⟩
  | 31, _ => ⟨_, _, (ok_do_leave_entry (P := P) (w := w) (base := base) T).mono (by decide), T.d_do_leave_entry.F.kp, T.d_do_leave_entry.b⟩
  | 32, _ => ⟨_, _, (ok_do_loop (P := P) (w := w) (base := base) T).mono (by decide), T.d_do_loop.F.kp, T.d_do_loop.b⟩
  | 33, _ => ⟨_, _, (ok_do_each (P := P) (w := w) (base := base) T).mono (by decide), T.d_do_each.F.kp, T.d_do_each.b⟩
  | 34, _ => ⟨_, _, (ok_do_test (P := P) (w := w) (base := base) T).mono (by decide), T.d_do_test.F.kp, T.d_do_test.b⟩
  | 35, _ => ⟨_, _, (ok_do_next (P := P) (w := w) (base := base) T).mono (by decide), T.d_do_next.F.kp, T.d_do_next.b⟩
  | 36, _ => ⟨_, _, (ok_do_spawn (P := P) (w := w) (base := base) T).mono (by decide), T.d_do_spawn.F.kp, T.d_do_spawn.b⟩
  | 37, _ => ⟨_, _, (ok_do_stop (P := P) (w := w) (base := base) T).mono (by decide), T.d_do_stop.F.kp, T.d_do_stop.b⟩
  | j + 38, h => absurd h (by omega)
theorem ok_action (T : Tx K mg w) : FnOk P w K mg base CX0 6 T.d_action.f T.d_action.fd ["program", "local"] (spX K (tb T) 2 m_action) := by
  have G_do_push := ok_do_push (P := P) (w := w) (base := base) T
  have G_do_not := ok_do_not (P := P) (w := w) (base := base) T
  have G_do_minus := ok_do_minus (P := P) (w := w) (base := base) T
  have G_do_both := ok_do_both (P := P) (w := w) (base := base) T
  have G_do_jump := ok_do_jump (P := P) (w := w) (base := base) T
  have G_do_jump_not := ok_do_jump_not (P := P) (w := w) (base := base) T
  have G_do_and_jump := ok_do_and_jump (P := P) (w := w) (base := base) T
  have G_do_or_jump := ok_do_or_jump (P := P) (w := w) (base := base) T
  have G_do_sized := ok_do_sized (P := P) (w := w) (base := base) T
  have G_do_check_size := ok_do_check_size (P := P) (w := w) (base := base) T
  have G_do_drop := ok_do_drop (P := P) (w := w) (base := base) T
  have G_do_print := ok_do_print (P := P) (w := w) (base := base) T
  have G_do_input := ok_do_input (P := P) (w := w) (base := base) T
  have G_do_load := ok_do_load (P := P) (w := w) (base := base) T
  have G_do_store := ok_do_store (P := P) (w := w) (base := base) T
  have G_do_kind := ok_do_kind (P := P) (w := w) (base := base) T
  have G_do_field := ok_do_field (P := P) (w := w) (base := base) T
  have G_do_item := ok_do_item (P := P) (w := w) (base := base) T
  have G_do_set_field := ok_do_set_field (P := P) (w := w) (base := base) T
  have G_do_set_item := ok_do_set_item (P := P) (w := w) (base := base) T
  have G_do_size := ok_do_size (P := P) (w := w) (base := base) T
  have G_do_make := ok_do_make (P := P) (w := w) (base := base) T
  have G_do_tag := ok_do_tag (P := P) (w := w) (base := base) T
  have G_do_tag_size := ok_do_tag_size (P := P) (w := w) (base := base) T
  have G_do_enter := ok_do_enter (P := P) (w := w) (base := base) T
  have G_do_counter := ok_do_counter (P := P) (w := w) (base := base) T
  have G_do_call := ok_do_call (P := P) (w := w) (base := base) T
  have G_do_return := ok_do_return (P := P) (w := w) (base := base) T
  have G_do_break := ok_do_break (P := P) (w := w) (base := base) T
  have G_do_throw := ok_do_throw (P := P) (w := w) (base := base) T
  have G_do_guard := ok_do_guard (P := P) (w := w) (base := base) T
  have G_do_leave_entry := ok_do_leave_entry (P := P) (w := w) (base := base) T
  have G_do_loop := ok_do_loop (P := P) (w := w) (base := base) T
  have G_do_each := ok_do_each (P := P) (w := w) (base := base) T
  have G_do_test := ok_do_test (P := P) (w := w) (base := base) T
  have G_do_next := ok_do_next (P := P) (w := w) (base := base) T
  have G_do_spawn := ok_do_spawn (P := P) (w := w) (base := base) T
  have G_do_stop := ok_do_stop (P := P) (w := w) (base := base) T
  exact fn_x (tb T) [0, 1] T.d_action.F sc_action rfl (by decide) (fun cdv A outer s H E hr => (qss_cons (qs_setD (fun _ h => ps_set (i := 2) sc_action.nd rfl (Or.inl rfl) h) (qd_e (qe_ix (qp_fld (T.cl_Program) (T.na_Program_code) (qp_v (pv 0))) (qe_p (qp_ix (qp_v (pv 1)))) (fun _ _ => rfl))))
    (qss_cons (qs_setD (fun _ h => ps_set (i := 3) sc_action.nd rfl (Or.inl rfl) h) (qd_e (qe_p (qp_ix (qp_v (pv 2))))))
    (qss_cons (qs_if (qt_tabIn (T.t_COMPUTING) (pe_glob (v := V.ref T.a_COMPUTING) (by rfl) T.c_COMPUTING rfl) (qd_e (qe_v (pv 3))))
      (qss_one (qs_set (fun _ h => ps_set (i := 4) sc_action.nd rfl (Or.inl rfl) h) (qx_tab (T.t_COMPUTING) (pe_glob (v := V.ref T.a_COMPUTING) (by rfl) T.c_COMPUTING rfl) (qd_e (qe_v (pv 3))) (fun _ _ => rfl))))
      (qss_one (qs_if (qt_tabIn (T.t_REACHING) (pe_glob (v := V.ref T.a_REACHING) (by rfl) T.c_REACHING rfl) (qd_e (qe_v (pv 3))))
      (qss_one (qs_set (fun _ h => ps_set (i := 4) sc_action.nd rfl (Or.inl rfl) h) (qx_tab (T.t_REACHING) (pe_glob (v := V.ref T.a_REACHING) (by rfl) T.c_REACHING rfl) (qd_e (qe_v (pv 3))) (fun _ _ => rfl))))
      (qss_one (qs_set (fun _ h => ps_set (i := 4) sc_action.nd rfl (Or.inl rfl) h) (qx_tab (T.t_CONTROLLING) (pe_glob (v := V.ref T.a_CONTROLLING) (by rfl) T.c_CONTROLLING rfl) (qd_e (qe_v (pv 3))) (fun _ _ => rfl)))))))
    (qss_one (qs_retD (qd_x (qx_callV (i := 4) (n := 38) (k := 3) (fun _ h => pe_callV (T := tb T) (held_fns T) (hr.mono (by omega)) (by rfl) (Or.inl rfl) h) (qr_slot (pv 0) (qr_val (qd_e (qe_v (pv 1))) (qr_val (qd_e (qe_v (pv 2))) qr_nil)))))))))))
theorem ok__law_cell (T : Tx K mg w) : FnOk P w K mg base CX0 1 T.d__law_cell.f T.d__law_cell.fd ["script", "k"] (spX K (tb T) 2 m__law_cell) := by
  exact fn_x (tb T) [0, 1] T.d__law_cell.F sc__law_cell rfl (by decide) (fun cdv A outer s H E hr => (qss_cons (qs_if (qt_c (qc_2 op_ltU snd_lt (nomark _) (qd_e (qe_v (pv 1))) (qd_e (qe_lenP (qp_v (pv 0)) (by rfl) T.z_len))))
      (qss_one (qs_retD (qd_e (qe_ix (qp_v (pv 0)) (qe_v (pv 1)) (fun _ _ => rfl)))))
      qss_nil)
    (qss_one (qs_retD (qd_e qe_int)))))
theorem ok__law_digits (T : Tx K mg w) : FnOk P w K mg base CX0 2 T.d__law_digits.f T.d__law_digits.fd ["script", "first", "last"] (spX K (tb T) 3 m__law_digits) := by
  have G__law_cell := ok__law_cell (P := P) (w := w) (base := base) T
  exact fn_x (tb T) [0, 1, 2] T.d__law_digits.F sc__law_digits rfl (by decide) (fun cdv A outer s H E hr => (qss_cons (qs_set (fun _ h => ps_set (i := 3) sc__law_digits.nd rfl (Or.inl rfl) h) (qx_lst qr_nil))
    (qss_cons (qs_for (fun _ _ _ h1 h2 h3 => ps_for PassesOwn.never rfl h1 h2 h3) (qi_range2 (qd_e (qe_v (pv 1))) (qd_e (qe_v (pv 2))) (by rfl) T.z_range) (qg_nm (pg_name (i := 4) sc__law_digits.nd rfl (Or.inl rfl)))
      (qss_cons (qs_setD (fun _ h => ps_set (i := 5) sc__law_digits.nd rfl (Or.inl rfl) h) (qd_x (qx_call (fun _ h => pe_call G__law_cell (hr.mono (by omega)) (by rfl) T.d__law_cell.m T.d__law_cell.F.kp T.d__law_cell.b .nil pass0 h) (qr_slot (pv 0) (qr_val (qd_e (qe_v (pv 4))) qr_nil)))))
    (qss_cons (qs_if (qt_c (qc_2 op_ltU snd_lt (nomark _) (qd_e (qe_v (pv 5))) (qd_e qe_int)))
      (qss_one (qs_setD (fun _ h => ps_set (i := 5) sc__law_digits.nd rfl (Or.inl rfl) h) (qd_e (qe_2 snd_sub (fun _ _ h1 h2 => pe_op op_sub h1 h2) qe_int (qe_2 snd_mul (fun _ _ h1 h2 => pe_op op_mulU h1 h2) qe_int (qe_v (pv 5)))))))
      qss_nil)
    (qss_one (qs_if (qt_c (qc_2 op_ge snd_ge (nomark _) (qd_e (qe_v (pv 5))) (qd_e (qe_2 snd_pow (fun _ _ h1 h2 => pe_op op_pow h1 h2) qe_int qe_int))))
      (qss_one (qs_for (fun _ _ _ h1 h2 h3 => ps_for PassesOwn.never rfl h1 h2 h3) (qi_range1 (qd_e qe_int) (by rfl) T.z_range) (qg_nm (pg_name (i := 6) sc__law_digits.nd rfl (Or.inl rfl)))
      (qss_one (qs_if (qt_c (qc_2 op_gt snd_gt (nomark _) (qd_e (qe_v (pv 5))) (qd_e qe_int)))
      (qss_cons (qs_expr (qx_app (pv 3) (qx_d (qd_e (qe_2 snd_mod (fun _ _ h1 h2 => pe_op op_modN h1 h2) (qe_n snd_int (fun _ h => pe_callTy call_intU (by rfl) T.z_int (by decide +kernel) h) (qae_cons (qe_v (pv 5)) qae_nil)) qe_int))) (mk := fun _ h => pe_bm PySem.F.plainAttrs_list PySem.F.slot_list_append PySem.F.type_list_append mt_append (pv 3) h)))
    (qss_one (qs_setD (fun _ h => ps_set (i := 5) sc__law_digits.nd rfl (Or.inl rfl) h) (qd_e (qe_2 snd_div (fun _ _ h1 h2 => pe_op op_fdivG h1 h2) (qe_v (pv 5)) qe_int)))))
      qss_nil))))
      (qss_cons (qs_setD (fun _ h => ps_set (i := 7) sc__law_digits.nd rfl (Or.inl rfl) h) (qd_e (qe_2 snd_mod (fun _ _ h1 h2 => pe_op op_modN h1 h2) (qe_n snd_int (fun _ h => pe_callTy call_intU (by rfl) T.z_int (by decide +kernel) h) (qae_cons (qe_2 snd_add (fun _ _ h1 h2 => pe_op op_addU h1 h2) (qe_2 snd_add (fun _ _ h1 h2 => pe_op op_addU h1 h2) (qe_2 snd_mul (fun _ _ h1 h2 => pe_op op_mulU h1 h2) (qe_v (pv 5)) qe_int) (qe_2 snd_mul (fun _ _ h1 h2 => pe_op op_mulU h1 h2) (qe_v (pv 4)) qe_int)) qe_int) qae_nil)) qe_int)))
    (qss_one (qs_for (fun _ _ _ h1 h2 h3 => ps_for PassesOwn.never rfl h1 h2 h3) (qi_range1 (qd_e qe_int) (by rfl) T.z_range) (qg_nm (pg_name (i := 6) sc__law_digits.nd rfl (Or.inl rfl)))
      (qss_cons (qs_setD (fun _ h => ps_set (i := 7) sc__law_digits.nd rfl (Or.inl rfl) h) (qd_e (qe_2 snd_mod (fun _ _ h1 h2 => pe_op op_modN h1 h2) (qe_n snd_int (fun _ h => pe_callTy call_intU (by rfl) T.z_int (by decide +kernel) h) (qae_cons (qe_2 snd_add (fun _ _ h1 h2 => pe_op op_addU h1 h2) (qe_2 snd_add (fun _ _ h1 h2 => pe_op op_addU h1 h2) (qe_2 snd_mul (fun _ _ h1 h2 => pe_op op_mulU h1 h2) (qe_v (pv 7)) qe_int) (qe_2 snd_mul (fun _ _ h1 h2 => pe_op op_mulU h1 h2) qe_int (qe_v (pv 6)))) qe_int) qae_nil)) qe_int)))
    (qss_one (qs_expr (qx_app (pv 3) (qx_d (qd_e (qe_2 snd_mod (fun _ _ h1 h2 => pe_op op_modN h1 h2) (qe_n snd_int (fun _ h => pe_callTy call_intU (by rfl) T.z_int (by decide +kernel) h) (qae_cons (qe_2 snd_div (fun _ _ h1 h2 => pe_op op_fdivG h1 h2) (qe_v (pv 7)) qe_int) qae_nil)) qe_int))) (mk := fun _ h => pe_bm PySem.F.plainAttrs_list PySem.F.slot_list_append PySem.F.type_list_append mt_append (pv 3) h)))))))))))))
    (qss_one (qs_retV (pv 3))))))
theorem ok__law_draw (T : Tx K mg w) : FnOk P w K mg base CX0 1 T.d__law_draw.f T.d__law_draw.fd ["box", "many"] (spX K (tb T) 2 m__law_draw) := by
  exact fn_x (tb T) [0, 1] T.d__law_draw.F sc__law_draw rfl (by decide) (fun cdv A outer s H E hr => (qss_cons (qs_setD (fun _ h => ps_set (i := 2) sc__law_draw.nd rfl (Or.inl rfl) h) (qd_e (qe_p (qp_ix (qp_v (pv 0))))))
    (qss_cons (qs_idx (fun _ _ _ h1 h2 h3 => ps_asg h1 (pg_sub h2 h3 set_list)) (qd_e (qe_2 snd_add (fun _ _ h1 h2 => pe_op op_addU h1 h2) (qe_v (pv 2)) qe_int)) (pv 0) qe_int)
    (qss_cons (qs_if (qt_c (qc_2 op_ltU snd_lt (nomark _) (qd_e (qe_v (pv 2))) (qd_e (qe_lenP (qp_ix (qp_v (pv 0))) (by rfl) T.z_len))))
      (qss_one (qs_retD (qd_e (qe_2 snd_mod (fun _ _ h1 h2 => pe_op op_modN h1 h2) (qe_n snd_int (fun _ h => pe_callTy call_intU (by rfl) T.z_int (by decide +kernel) h) (qae_cons (qe_ix (qp_ix (qp_v (pv 0))) (qe_v (pv 2)) (fun _ _ => rfl)) qae_nil)) (qe_v (pv 1))))))
      qss_nil)
    (qss_one (qs_retD (qd_e qe_int)))))))
theorem okr__law_same (T : Tx K mg w) : ∀ n : Nat, FnOk P w K mg base CX0 (0 + (n)) T.d__law_same.f T.d__law_same.fd ["actual", "expected"] (spD K 2 (m__law_same (n)))
  | 0 => fn_none_d
  | n + 1 => by
    have G__law_same := okr__law_same T n
    exact fn_d (k := 0 + n) (tb T) T.d__law_same.F sc__law_same rfl (fun cdv A outer s H E hr => (qss_cons (qs_if (qt_truth (qx_d (qd_isi isT_tuple (qd_e (qe_v (pv 1))) (pe_bltn (v := V.ty "tuple") (by rfl) T.z_tuple (by decide +kernel) rfl) (by rfl) T.z_isinstance)))
      (qss_cons (qs_if (qw_t (qw_or (qt_not (qt_truth (qx_d (qd_isi isT_tuple (qd_e (qe_v (pv 0))) (pe_bltn (v := V.ty "tuple") (by rfl) T.z_tuple (by decide +kernel) rfl) (by rfl) T.z_isinstance)))) (qw_or1 (qt_c (qc_2 (op_neU hr.units) snd_ne (nomark _) (qd_e (qe_lenP (qp_v (pv 0)) (by rfl) T.z_len)) (qd_e (qe_lenP (qp_v (pv 1)) (by rfl) T.z_len)))))))
      (qss_one (qs_retD (qd_e qe_bl)))
      qss_nil)
    (qss_cons (qs_for (fun _ _ _ h1 h2 h3 => ps_for PassesOwn.never rfl h1 h2 h3) (qi_range1 (qd_e (qe_lenP (qp_v (pv 1)) (by rfl) T.z_len)) (by rfl) T.z_range) (qg_nm (pg_name (i := 2) sc__law_same.nd rfl (Or.inl rfl)))
      (qss_one (qs_if (qt_not (qt_truth (qx_d (qd_e (qe_call (fun _ h => pe_call G__law_same (hr.mono (by omega)) (by rfl) T.d__law_same.m T.d__law_same.F.kp T.d__law_same.b .nil pass0 h) (qae_cons (qe_ix (qp_v (pv 0)) (qe_v (pv 2)) (fun _ _ => rfl)) (qae_cons (qe_ix (qp_v (pv 1)) (qe_v (pv 2)) (fun _ _ => rfl)) qae_nil)))))))
      (qss_one (qs_retD (qd_e qe_bl)))
      qss_nil)))
    (qss_one (qs_retD (qd_e qe_bl)))))
      qss_nil)
    (qss_cons (qs_if (qt_c (qc_2 op_isN snd_is (nomark _) (qd_e (qe_v (pv 1))) (qd_e qe_non)))
      (qss_one (qs_retD (qd_c (qc_2 op_isN snd_is (nomark _) (qd_e (qe_v (pv 0))) (qd_e qe_non)))))
      qss_nil)
    (qss_cons (qs_if (qt_truth (qx_d (qd_isi isT_bool (qd_e (qe_v (pv 1))) (pe_bltn (v := V.ty "bool") (by rfl) T.z_bool (by decide +kernel) rfl) (by rfl) T.z_isinstance)))
      (qss_one (qs_retD (qd_and (qd_isi isT_bool (qd_e (qe_v (pv 0))) (pe_bltn (v := V.ty "bool") (by rfl) T.z_bool (by decide +kernel) rfl) (by rfl) T.z_isinstance) (qd_one (qd_c (qc_2 (op_eqU hr.units) snd_eq (nomark _) (qd_e (qe_v (pv 0))) (qd_e (qe_v (pv 1)))))))))
      qss_nil)
    (qss_cons (qs_if (qt_truth (qx_d (qd_isi isT_int (qd_e (qe_v (pv 1))) (pe_bltn (v := V.ty "int") (by rfl) T.z_int (by decide +kernel) rfl) (by rfl) T.z_isinstance)))
      (qss_one (qs_retD (qd_and (qd_isi isT_int (qd_e (qe_v (pv 0))) (pe_bltn (v := V.ty "int") (by rfl) T.z_int (by decide +kernel) rfl) (by rfl) T.z_isinstance) (qd_and (qd_not (qd_isi isT_bool (qd_e (qe_v (pv 0))) (pe_bltn (v := V.ty "bool") (by rfl) T.z_bool (by decide +kernel) rfl) (by rfl) T.z_isinstance)) (qd_one (qd_c (qc_2 (op_eqU hr.units) snd_eq (nomark _) (qd_e (qe_v (pv 0))) (qd_e (qe_v (pv 1))))))))))
      qss_nil)
    (qss_one (qs_retD (qd_and (qd_isi isT_str (qd_e (qe_v (pv 0))) (pe_bltn (v := V.ty "str") (by rfl) T.z_str (by decide +kernel) rfl) (by rfl) T.z_isinstance) (qd_one (qd_c (qc_2 (op_eqU hr.units) snd_eq (nomark _) (qd_e (qe_v (pv 0))) (qd_e (qe_v (pv 1))))))))))))))
theorem ok__law_same (T : Tx K mg w) (n : Nat) : FnOk P w K mg base CX0 (0 + (n)) T.d__law_same.f T.d__law_same.fd ["actual", "expected"] (spD K 2 (m__law_same (n))) := okr__law_same T n
theorem ok__law_number (T : Tx K mg w) : FnOk P w K mg base CX0 2 T.d__law_number.f T.d__law_number.fd ["box"] (spX K (tb T) 1 m__law_number) := by
  have G__law_draw := ok__law_draw (P := P) (w := w) (base := base) T
  exact fn_x (tb T) [0] T.d__law_number.F sc__law_number rfl (by decide) (fun cdv A outer s H E hr => (qss_cons (qs_setD (fun _ h => ps_set (i := 1) sc__law_number.nd rfl (Or.inl rfl) h) (qd_x (qx_call (fun _ h => pe_call G__law_draw (hr.mono (by omega)) (by rfl) T.d__law_draw.m T.d__law_draw.F.kp T.d__law_draw.b .nil pass0 h) (qr_slot (pv 0) (qr_val (qd_e qe_int) qr_nil)))))
    (qss_cons (qs_setD (fun _ h => ps_set (i := 2) sc__law_number.nd rfl (Or.inl rfl) h) (qd_x (qx_call (fun _ h => pe_call G__law_draw (hr.mono (by omega)) (by rfl) T.d__law_draw.m T.d__law_draw.F.kp T.d__law_draw.b .nil pass0 h) (qr_slot (pv 0) (qr_val (qd_e qe_int) qr_nil)))))
    (qss_cons (qs_if (qt_c (qc_2 (op_eqU hr.units) snd_eq (nomark _) (qd_e (qe_v (pv 1))) (qd_e qe_int)))
      (qss_one (qs_retD (qd_e (qe_2 snd_sub (fun _ _ h1 h2 => pe_op op_sub h1 h2) (qe_2 snd_sub (fun _ _ h1 h2 => pe_op op_sub h1 h2) (qe_2 snd_pow (fun _ _ h1 h2 => pe_op op_pow h1 h2) qe_int qe_int) qe_int) (qe_2 snd_mod (fun _ _ h1 h2 => pe_op op_modN h1 h2) (qe_v (pv 2)) qe_int)))))
      qss_nil)
    (qss_cons (qs_if (qt_c (qc_2 (op_eqU hr.units) snd_eq (nomark _) (qd_e (qe_v (pv 1))) (qd_e qe_int)))
      (qss_one (qs_retD (qd_e (qe_2 snd_sub (fun _ _ h1 h2 => pe_op op_sub h1 h2) (qe_2 snd_add (fun _ _ h1 h2 => pe_op op_addU h1 h2) (qe_2 snd_mod (fun _ _ h1 h2 => pe_op op_modN h1 h2) (qe_v (pv 2)) qe_int) qe_int) (qe_2 snd_pow (fun _ _ h1 h2 => pe_op op_pow h1 h2) qe_int qe_int)))))
      qss_nil)
    (qss_cons (qs_if (qt_c (qc_2 (op_eqU hr.units) snd_eq (nomark _) (qd_e (qe_v (pv 1))) (qd_e qe_int)))
      (qss_one (qs_retD (qd_2 snd_add (fun _ _ h1 h2 => pe_op op_addU h1 h2) (qd_2 snd_add (fun _ _ h1 h2 => pe_op op_addU h1 h2) (qd_e (qe_2 snd_mul (fun _ _ h1 h2 => pe_op op_mulU h1 h2) (qe_v (pv 2)) (qe_2 snd_pow (fun _ _ h1 h2 => pe_op op_pow h1 h2) qe_int qe_int))) (qd_2 snd_mul (fun _ _ h1 h2 => pe_op op_mulU h1 h2) (qd_x (qx_call (fun _ h => pe_call G__law_draw (hr.mono (by omega)) (by rfl) T.d__law_draw.m T.d__law_draw.F.kp T.d__law_draw.b .nil pass0 h) (qr_slot (pv 0) (qr_val (qd_e qe_int) qr_nil)))) (qd_e (qe_2 snd_pow (fun _ _ h1 h2 => pe_op op_pow h1 h2) qe_int qe_int)))) (qd_x (qx_call (fun _ h => pe_call G__law_draw (hr.mono (by omega)) (by rfl) T.d__law_draw.m T.d__law_draw.F.kp T.d__law_draw.b .nil pass0 h) (qr_slot (pv 0) (qr_val (qd_e qe_int) qr_nil)))))))
      qss_nil)
    (qss_cons (qs_if (qt_c (qc_2 (op_eqU hr.units) snd_eq (nomark _) (qd_e (qe_v (pv 1))) (qd_e qe_int)))
      (qss_one (qs_retD (qd_2 snd_sub (fun _ _ h1 h2 => pe_op op_sub h1 h2) (qd_e (qe_2 snd_sub (fun _ _ h1 h2 => pe_op op_sub h1 h2) qe_int (qe_2 snd_mul (fun _ _ h1 h2 => pe_op op_mulU h1 h2) (qe_v (pv 2)) (qe_2 snd_pow (fun _ _ h1 h2 => pe_op op_pow h1 h2) qe_int qe_int)))) (qd_x (qx_call (fun _ h => pe_call G__law_draw (hr.mono (by omega)) (by rfl) T.d__law_draw.m T.d__law_draw.F.kp T.d__law_draw.b .nil pass0 h) (qr_slot (pv 0) (qr_val (qd_e qe_int) qr_nil)))))))
      qss_nil)
    (qss_cons (qs_if (qt_c (qc_2 (op_eqU hr.units) snd_eq (nomark _) (qd_e (qe_v (pv 1))) (qd_e qe_int)))
      (qss_one (qs_retD (qd_e (qe_2 snd_sub (fun _ _ h1 h2 => pe_op op_sub h1 h2) qe_int (qe_v (pv 2))))))
      qss_nil)
    (qss_cons (qs_if (qt_c (qc_2 (op_eqU hr.units) snd_eq (nomark _) (qd_e (qe_v (pv 1))) (qd_e qe_int)))
      (qss_one (qs_retD (qd_e (qe_2 snd_mod (fun _ _ h1 h2 => pe_op op_modN h1 h2) (qe_v (pv 2)) qe_int))))
      qss_nil)
    (qss_one (qs_retD (qd_e (qe_v (pv 2))))))))))))))
theorem ok__law_text (T : Tx K mg w) : FnOk P w K mg base CX0 2 T.d__law_text.f T.d__law_text.fd ["box", "most"] (spX K (tb T) 2 m__law_text) := by
  have G__law_draw := ok__law_draw (P := P) (w := w) (base := base) T
  exact fn_x (tb T) [0, 1] T.d__law_text.F sc__law_text rfl (by decide) (fun cdv A outer s H E hr => (qss_cons (qs_setD (fun _ h => ps_set (i := 2) sc__law_text.nd rfl (Or.inl rfl) h) (qd_e qe_str))
    (qss_cons (qs_setD (fun _ h => ps_set (i := 2) sc__law_text.nd rfl (Or.inl rfl) h) (qd_e (qe_2 snd_add (fun _ _ h1 h2 => pe_op op_addU h1 h2) (qe_v (pv 2)) qe_str)))
    (qss_cons (qs_setD (fun _ h => ps_set (i := 3) sc__law_text.nd rfl (Or.inl rfl) h) (qd_e qe_str))
    (qss_cons (qs_if (qt_c (qc_2 (op_eqU hr.units) snd_eq (nomark _) (qd_x (qx_call (fun _ h => pe_call G__law_draw (hr.mono (by omega)) (by rfl) T.d__law_draw.m T.d__law_draw.F.kp T.d__law_draw.b .nil pass0 h) (qr_slot (pv 0) (qr_val (qd_e qe_int) qr_nil)))) (qd_e qe_int)))
      (qss_one (qs_setD (fun _ h => ps_set (i := 3) sc__law_text.nd rfl (Or.inl rfl) h) (qd_2 snd_mul (fun _ _ h1 h2 => pe_op op_mulU h1 h2) (qd_ixV (pv 2) (qd_x (qx_call (fun _ h => pe_call G__law_draw (hr.mono (by omega)) (by rfl) T.d__law_draw.m T.d__law_draw.F.kp T.d__law_draw.b .nil pass0 h) (qr_slot (pv 0) (qr_val (qd_e qe_int) qr_nil)))) (fun _ _ => rfl)) (qd_x (qx_call (fun _ h => pe_call G__law_draw (hr.mono (by omega)) (by rfl) T.d__law_draw.m T.d__law_draw.F.kp T.d__law_draw.b .nil pass0 h) (qr_slot (pv 0) (qr_val (qd_e (qe_2 snd_add (fun _ _ h1 h2 => pe_op op_addU h1 h2) (qe_v (pv 1)) qe_int)) qr_nil)))))))
      qss_nil)
    (qss_cons (qs_for (fun _ _ _ h1 h2 h3 => ps_for PassesOwn.never rfl h1 h2 h3) (qi_range1 (qd_x (qx_call (fun _ h => pe_call G__law_draw (hr.mono (by omega)) (by rfl) T.d__law_draw.m T.d__law_draw.F.kp T.d__law_draw.b .nil pass0 h) (qr_slot (pv 0) (qr_val (qd_e qe_int) qr_nil)))) (by rfl) T.z_range) (qg_nm (pg_name (i := 4) sc__law_text.nd rfl (Or.inl rfl)))
      (qss_one (qs_if (qt_c (qc_2 op_ltU snd_lt (nomark _) (qd_e (qe_lenP (qp_v (pv 3)) (by rfl) T.z_len)) (qd_e (qe_v (pv 1)))))
      (qss_one (qs_setD (fun _ h => ps_set (i := 3) sc__law_text.nd rfl (Or.inl rfl) h) (qd_2 snd_add (fun _ _ h1 h2 => pe_op op_addU h1 h2) (qd_e (qe_v (pv 3))) (qd_ixV (pv 2) (qd_x (qx_call (fun _ h => pe_call G__law_draw (hr.mono (by omega)) (by rfl) T.d__law_draw.m T.d__law_draw.F.kp T.d__law_draw.b .nil pass0 h) (qr_slot (pv 0) (qr_val (qd_e qe_int) qr_nil)))) (fun _ _ => rfl)))))
      qss_nil)))
    (qss_one (qs_retD (qd_e (qe_v (pv 3)))))))))))
theorem ok__law_value (T : Tx K mg w) : FnOk P w K mg base CX0 3 T.d__law_value.f T.d__law_value.fd ["box"] (spX K (tb T) 1 m__law_value) := by
  have G__law_draw := ok__law_draw (P := P) (w := w) (base := base) T
  have G__law_number := ok__law_number (P := P) (w := w) (base := base) T
  have G__law_text := ok__law_text (P := P) (w := w) (base := base) T
  exact fn_x (tb T) [0] T.d__law_value.F sc__law_value rfl (by decide) (fun cdv A outer s H E hr => (qss_cons (qs_setD (fun _ h => ps_set (i := 1) sc__law_value.nd rfl (Or.inl rfl) h) (qd_x (qx_call (fun _ h => pe_call G__law_draw (hr.mono (by omega)) (by rfl) T.d__law_draw.m T.d__law_draw.F.kp T.d__law_draw.b .nil pass0 h) (qr_slot (pv 0) (qr_val (qd_e qe_int) qr_nil)))))
    (qss_cons (qs_if (qt_c (qc_2 (op_eqU hr.units) snd_eq (nomark _) (qd_e (qe_v (pv 1))) (qd_e qe_int)))
      (qss_one (qs_retD (qd_e (qe_tup (qae_cons qe_str qae_nil)))))
      qss_nil)
    (qss_cons (qs_if (qt_c (qc_2 (op_eqU hr.units) snd_eq (nomark _) (qd_e (qe_v (pv 1))) (qd_e qe_int)))
      (qss_one (qs_retD (qd_tup (qa_cons (qd_e qe_str) (qa_cons (qd_c (qc_2 (op_eqU hr.units) snd_eq (nomark _) (qd_x (qx_call (fun _ h => pe_call G__law_draw (hr.mono (by omega)) (by rfl) T.d__law_draw.m T.d__law_draw.F.kp T.d__law_draw.b .nil pass0 h) (qr_slot (pv 0) (qr_val (qd_e qe_int) qr_nil)))) (qd_e qe_int))) qa_nil)))))
      qss_nil)
    (qss_cons (qs_if (qt_c (qc_2 (op_eqU hr.units) snd_eq (nomark _) (qd_e (qe_v (pv 1))) (qd_e qe_int)))
      (qss_one (qs_retD (qd_tup (qa_cons (qd_e qe_str) (qa_cons (qd_x (qx_call (fun _ h => pe_call G__law_text (hr.mono (by omega)) (by rfl) T.d__law_text.m T.d__law_text.F.kp T.d__law_text.b .nil pass0 h) (qr_slot (pv 0) (qr_val (qd_e qe_int) qr_nil)))) qa_nil)))))
      qss_nil)
    (qss_cons (qs_if (qt_c (qc_2 (op_eqU hr.units) snd_eq (nomark _) (qd_e (qe_v (pv 1))) (qd_e qe_int)))
      (qss_cons (qs_setD (fun _ h => ps_set (i := 2) sc__law_value.nd rfl (Or.inl rfl) h) (qd_e (qe_tup qae_nil)))
    (qss_cons (qs_for (fun _ _ _ h1 h2 h3 => ps_for PassesOwn.never rfl h1 h2 h3) (qi_range1 (qd_x (qx_call (fun _ h => pe_call G__law_draw (hr.mono (by omega)) (by rfl) T.d__law_draw.m T.d__law_draw.F.kp T.d__law_draw.b .nil pass0 h) (qr_slot (pv 0) (qr_val (qd_e qe_int) qr_nil)))) (by rfl) T.z_range) (qg_nm (pg_name (i := 3) sc__law_value.nd rfl (Or.inl rfl)))
      (qss_one (qs_setD (fun _ h => ps_set (i := 2) sc__law_value.nd rfl (Or.inl rfl) h) (qd_2 snd_add (fun _ _ h1 h2 => pe_op op_addU h1 h2) (qd_e (qe_v (pv 2))) (qd_tup (qa_cons (qd_x (qx_call (fun _ h => pe_call G__law_draw (hr.mono (by omega)) (by rfl) T.d__law_draw.m T.d__law_draw.F.kp T.d__law_draw.b .nil pass0 h) (qr_slot (pv 0) (qr_val (qd_e qe_int) qr_nil)))) qa_nil))))))
    (qss_one (qs_retD (qd_tup (qa_cons (qd_e qe_str) (qa_cons (qd_e (qe_v (pv 2))) (qa_cons (qd_x (qx_call (fun _ h => pe_call G__law_draw (hr.mono (by omega)) (by rfl) T.d__law_draw.m T.d__law_draw.F.kp T.d__law_draw.b .nil pass0 h) (qr_slot (pv 0) (qr_val (qd_e qe_int) qr_nil)))) qa_nil))))))))
      qss_nil)
    (qss_one (qs_retD (qd_tup (qa_cons (qd_e qe_str) (qa_cons (qd_x (qx_call (fun _ h => pe_call G__law_number (hr.mono (by omega)) (by rfl) T.d__law_number.m T.d__law_number.F.kp T.d__law_number.b .nil pass0 h) (qr_slot (pv 0) qr_nil))) qa_nil)))))))))))
theorem ok__law_object (T : Tx K mg w) : FnOk P w K mg base CX0 2 T.d__law_object.f T.d__law_object.fd ["box"] (spX K (tb T) 1 m__law_object) := by
  have G__law_draw := ok__law_draw (P := P) (w := w) (base := base) T
  exact fn_x (tb T) [0] T.d__law_object.F sc__law_object rfl (by decide) (fun cdv A outer s H E hr => (qss_cons (qs_setD (fun _ h => ps_set (i := 1) sc__law_object.nd rfl (Or.inl rfl) h) (qd_e (qe_tup qae_nil)))
    (qss_cons (qs_for (fun _ _ _ h1 h2 h3 => ps_for PassesOwn.never rfl h1 h2 h3) (qi_range1 (qd_x (qx_call (fun _ h => pe_call G__law_draw (hr.mono (by omega)) (by rfl) T.d__law_draw.m T.d__law_draw.F.kp T.d__law_draw.b .nil pass0 h) (qr_slot (pv 0) (qr_val (qd_e qe_int) qr_nil)))) (by rfl) T.z_range) (qg_nm (pg_name (i := 2) sc__law_object.nd rfl (Or.inl rfl)))
      (qss_one (qs_setD (fun _ h => ps_set (i := 1) sc__law_object.nd rfl (Or.inl rfl) h) (qd_2 snd_add (fun _ _ h1 h2 => pe_op op_addU h1 h2) (qd_e (qe_v (pv 1))) (qd_tup (qa_cons (qd_x (qx_call (fun _ h => pe_call G__law_draw (hr.mono (by omega)) (by rfl) T.d__law_draw.m T.d__law_draw.F.kp T.d__law_draw.b .nil pass0 h) (qr_slot (pv 0) (qr_val (qd_e qe_int) qr_nil)))) qa_nil))))))
    (qss_one (qs_retD (qd_tup (qa_cons (qd_e qe_str) (qa_cons (qd_e (qe_v (pv 1))) (qa_cons (qd_x (qx_call (fun _ h => pe_call G__law_draw (hr.mono (by omega)) (by rfl) T.d__law_draw.m T.d__law_draw.F.kp T.d__law_draw.b .nil pass0 h) (qr_slot (pv 0) (qr_val (qd_e qe_int) qr_nil)))) qa_nil)))))))))
theorem ok__law_entry (T : Tx K mg w) : FnOk P w K mg base CX0 3 T.d__law_entry.f T.d__law_entry.fd ["box"] (spX K (tb T) 1 m__law_entry) := by
  have G__law_draw := ok__law_draw (P := P) (w := w) (base := base) T
  have G__law_object := ok__law_object (P := P) (w := w) (base := base) T
  exact fn_x (tb T) [0] T.d__law_entry.F sc__law_entry rfl (by decide) (fun cdv A outer s H E hr => (qss_cons (qs_setD (fun _ h => ps_set (i := 1) sc__law_entry.nd rfl (Or.inl rfl) h) (qd_x (qx_call (fun _ h => pe_call G__law_draw (hr.mono (by omega)) (by rfl) T.d__law_draw.m T.d__law_draw.F.kp T.d__law_draw.b .nil pass0 h) (qr_slot (pv 0) (qr_val (qd_e qe_int) qr_nil)))))
    (qss_cons (qs_if (qt_c (qc_2 (op_eqU hr.units) snd_eq (nomark _) (qd_e (qe_v (pv 1))) (qd_e qe_int)))
      (qss_one (qs_retD (qd_tup (qa_cons (qd_e qe_str) (qa_cons (qd_x (qx_call (fun _ h => pe_call G__law_draw (hr.mono (by omega)) (by rfl) T.d__law_draw.m T.d__law_draw.F.kp T.d__law_draw.b .nil pass0 h) (qr_slot (pv 0) (qr_val (qd_e qe_int) qr_nil)))) (qa_cons (qd_x (qx_call (fun _ h => pe_call G__law_object (hr.mono (by omega)) (by rfl) T.d__law_object.m T.d__law_object.F.kp T.d__law_object.b .nil pass0 h) (qr_slot (pv 0) qr_nil))) qa_nil))))))
      qss_nil)
    (qss_cons (qs_if (qt_c (qc_2 (op_eqU hr.units) snd_eq (nomark _) (qd_e (qe_v (pv 1))) (qd_e qe_int)))
      (qss_one (qs_retD (qd_tup (qa_cons (qd_e qe_str) (qa_cons (qd_x (qx_call (fun _ h => pe_call G__law_draw (hr.mono (by omega)) (by rfl) T.d__law_draw.m T.d__law_draw.F.kp T.d__law_draw.b .nil pass0 h) (qr_slot (pv 0) (qr_val (qd_e qe_int) qr_nil)))) (qa_cons (qd_x (qx_call (fun _ h => pe_call G__law_object (hr.mono (by omega)) (by rfl) T.d__law_object.m T.d__law_object.F.kp T.d__law_object.b .nil pass0 h) (qr_slot (pv 0) qr_nil))) qa_nil))))))
      qss_nil)
    (qss_cons (qs_if (qt_c (qc_2 (op_eqU hr.units) snd_eq (nomark _) (qd_e (qe_v (pv 1))) (qd_e qe_int)))
      (qss_one (qs_retD (qd_tup (qa_cons (qd_e qe_str) (qa_cons (qd_x (qx_call (fun _ h => pe_call G__law_draw (hr.mono (by omega)) (by rfl) T.d__law_draw.m T.d__law_draw.F.kp T.d__law_draw.b .nil pass0 h) (qr_slot (pv 0) (qr_val (qd_e qe_int) qr_nil)))) qa_nil)))))
      qss_nil)
    (qss_cons (qs_if (qt_c (qc_2 (op_eqU hr.units) snd_eq (nomark _) (qd_e (qe_v (pv 1))) (qd_e qe_int)))
      (qss_one (qs_retD (qd_tup (qa_cons (qd_e qe_str) (qa_cons (qd_x (qx_call (fun _ h => pe_call G__law_draw (hr.mono (by omega)) (by rfl) T.d__law_draw.m T.d__law_draw.F.kp T.d__law_draw.b .nil pass0 h) (qr_slot (pv 0) (qr_val (qd_e qe_int) qr_nil)))) (qa_cons (qd_2 snd_sub (fun _ _ h1 h2 => pe_op op_sub h1 h2) (qd_x (qx_call (fun _ h => pe_call G__law_draw (hr.mono (by omega)) (by rfl) T.d__law_draw.m T.d__law_draw.F.kp T.d__law_draw.b .nil pass0 h) (qr_slot (pv 0) (qr_val (qd_e qe_int) qr_nil)))) (qd_e qe_int)) (qa_cons (qd_2 snd_sub (fun _ _ h1 h2 => pe_op op_sub h1 h2) (qd_x (qx_call (fun _ h => pe_call G__law_draw (hr.mono (by omega)) (by rfl) T.d__law_draw.m T.d__law_draw.F.kp T.d__law_draw.b .nil pass0 h) (qr_slot (pv 0) (qr_val (qd_e qe_int) qr_nil)))) (qd_e qe_int)) qa_nil)))))))
      qss_nil)
    (qss_one (qs_retD (qd_e (qe_tup (qae_cons qe_str qae_nil)))))))))))
theorem ok__law_control (T : Tx K mg w) : FnOk P w K mg base CX0 4 T.d__law_control.f T.d__law_control.fd ["box"] (spX K (tb T) 1 m__law_control) := by
  have G__law_draw := ok__law_draw (P := P) (w := w) (base := base) T
  have G__law_entry := ok__law_entry (P := P) (w := w) (base := base) T
  exact fn_x (tb T) [0] T.d__law_control.F sc__law_control rfl (by decide) (fun cdv A outer s H E hr => (qss_cons (qs_setD (fun _ h => ps_set (i := 1) sc__law_control.nd rfl (Or.inl rfl) h) (qd_e (qe_tup qae_nil)))
    (qss_cons (qs_setD (fun _ h => ps_set (i := 2) sc__law_control.nd rfl (Or.inl rfl) h) (qd_x (qx_call (fun _ h => pe_call G__law_draw (hr.mono (by omega)) (by rfl) T.d__law_draw.m T.d__law_draw.F.kp T.d__law_draw.b .nil pass0 h) (qr_slot (pv 0) (qr_val (qd_e qe_int) qr_nil)))))
    (qss_cons (qs_for (fun _ _ _ h1 h2 h3 => ps_for PassesOwn.never rfl h1 h2 h3) (qi_range1 (qd_e (qe_v (pv 2))) (by rfl) T.z_range) (qg_nm (pg_name (i := 3) sc__law_control.nd rfl (Or.inl rfl)))
      (qss_one (qs_setD (fun _ h => ps_set (i := 1) sc__law_control.nd rfl (Or.inl rfl) h) (qd_2 snd_add (fun _ _ h1 h2 => pe_op op_addU h1 h2) (qd_e (qe_v (pv 1))) (qd_tup (qa_cons (qd_x (qx_call (fun _ h => pe_call G__law_entry (hr.mono (by omega)) (by rfl) T.d__law_entry.m T.d__law_entry.F.kp T.d__law_entry.b .nil pass0 h) (qr_slot (pv 0) qr_nil))) qa_nil))))))
    (qss_cons (qs_if (qt_c (qc_2 (op_eqU hr.units) snd_eq (nomark _) (qd_x (qx_call (fun _ h => pe_call G__law_draw (hr.mono (by omega)) (by rfl) T.d__law_draw.m T.d__law_draw.F.kp T.d__law_draw.b .nil pass0 h) (qr_slot (pv 0) (qr_val (qd_e qe_int) qr_nil)))) (qd_e qe_int)))
      (qss_one (qs_for (fun _ _ _ h1 h2 h3 => ps_for PassesOwn.never rfl h1 h2 h3) (qi_range1 (qd_2 snd_add (fun _ _ h1 h2 => pe_op op_addU h1 h2) (qd_e qe_int) (qd_x (qx_call (fun _ h => pe_call G__law_draw (hr.mono (by omega)) (by rfl) T.d__law_draw.m T.d__law_draw.F.kp T.d__law_draw.b .nil pass0 h) (qr_slot (pv 0) (qr_val (qd_e qe_int) qr_nil))))) (by rfl) T.z_range) (qg_nm (pg_name (i := 3) sc__law_control.nd rfl (Or.inl rfl)))
      (qss_one (qs_setD (fun _ h => ps_set (i := 1) sc__law_control.nd rfl (Or.inl rfl) h) (qd_e (qe_2 snd_add (fun _ _ h1 h2 => pe_op op_addU h1 h2) (qe_v (pv 1)) (qe_tup (qae_cons (qe_tup (qae_cons qe_str (qae_cons (qe_v (pv 3)) (qae_cons (qe_tup (qae_cons qe_str (qae_cons (qe_tup (qae_cons (qe_v (pv 3)) qae_nil)) (qae_cons qe_int qae_nil)))) qae_nil)))) qae_nil))))))))
      qss_nil)
    (qss_one (qs_retD (qd_e (qe_v (pv 1))))))))))
theorem ok__law_local (T : Tx K mg w) : FnOk P w K mg base CX0 5 T.d__law_local.f T.d__law_local.fd ["box", "address", "operands"] (spX K (tb T) 3 m__law_local) := by
  have G__law_draw := ok__law_draw (P := P) (w := w) (base := base) T
  have G__law_object := ok__law_object (P := P) (w := w) (base := base) T
  have G__law_control := ok__law_control (P := P) (w := w) (base := base) T
  have G__law_value := ok__law_value (P := P) (w := w) (base := base) T
  exact fn_x (tb T) [0, 1] T.d__law_local.F sc__law_local rfl (by decide) (fun cdv A outer s H E hr => (qss_cons (qs_for (fun _ _ _ h1 h2 h3 => ps_for PassesOwn.never rfl h1 h2 h3) (qi_range1 (qd_x (qx_call (fun _ h => pe_call G__law_draw (hr.mono (by omega)) (by rfl) T.d__law_draw.m T.d__law_draw.F.kp T.d__law_draw.b .nil pass0 h) (qr_slot (pv 0) (qr_val (qd_e qe_int) qr_nil)))) (by rfl) T.z_range) (qg_nm (pg_name (i := 3) sc__law_local.nd rfl (Or.inl rfl)))
      (qss_one (qs_setD (fun _ h => ps_set (i := 2) sc__law_local.nd rfl (Or.inl rfl) h) (qd_2 snd_add (fun _ _ h1 h2 => pe_op op_addU h1 h2) (qd_e (qe_v (pv 2))) (qd_tup (qa_cons (qd_x (qx_call (fun _ h => pe_call G__law_value (hr.mono (by omega)) (by rfl) T.d__law_value.m T.d__law_value.F.kp T.d__law_value.b .nil pass0 h) (qr_slot (pv 0) qr_nil))) qa_nil))))))
    (qss_one (qs_retD (qd_tup (qa_cons (qd_e (qe_v (pv 1))) (qa_cons (qd_e (qe_v (pv 2))) (qa_cons (qd_x (qx_call (fun _ h => pe_call G__law_object (hr.mono (by omega)) (by rfl) T.d__law_object.m T.d__law_object.F.kp T.d__law_object.b .nil pass0 h) (qr_slot (pv 0) qr_nil))) (qa_cons (qd_x (qx_call (fun _ h => pe_call G__law_object (hr.mono (by omega)) (by rfl) T.d__law_object.m T.d__law_object.F.kp T.d__law_object.b .nil pass0 h) (qr_slot (pv 0) qr_nil))) (qa_cons (qd_x (qx_call (fun _ h => pe_call G__law_control (hr.mono (by omega)) (by rfl) T.d__law_control.m T.d__law_control.F.kp T.d__law_control.b .nil pass0 h) (qr_slot (pv 0) qr_nil))) qa_nil))))))))))
theorem ok__law_leave (T : Tx K mg w) : FnOk P w K mg base CX0 1 T.d__law_leave.f T.d__law_leave.fd ["control", "kinds"] (spX K (tb T) 2 m__law_leave) := by
  exact fn_x (tb T) [0, 1] T.d__law_leave.F sc__law_leave rfl (by decide) (fun cdv A outer s H E hr => (qss_cons (qs_setD (fun _ h => ps_set (i := 2) sc__law_leave.nd rfl (Or.inl rfl) h) (qd_e qe_int))
    (qss_cons (qs_for (fun _ _ _ h1 h2 h3 => ps_for PassesOwn.never rfl h1 h2 h3) (qi_range1 (qd_e (qe_lenP (qp_v (pv 0)) (by rfl) T.z_len)) (by rfl) T.z_range) (qg_nm (pg_name (i := 3) sc__law_leave.nd rfl (Or.inl rfl)))
      (qss_cons (qs_if (qt_c (qc_inP op_in_seq (by rfl) (qd_e (qe_2 snd_ix (fun _ _ h1 h2 => pe_ix ix_U h1 h2 (fun _ _ => rfl)) (qe_ix (qp_v (pv 0)) (qe_v (pv 3)) (fun _ _ => rfl)) qe_int)) (qp_v (pv 1))))
      (qss_one (qs_retD (qd_tup (qa_cons (qd_e (qe_v (pv 2))) (qa_cons (qd_e (qe_ix (qp_v (pv 0)) (qe_v (pv 3)) (fun _ _ => rfl))) (qa_cons (qd_slice (qd_e (qe_v (pv 0))) (qo_some (qd_e (qe_2 snd_add (fun _ _ h1 h2 => pe_op op_addU h1 h2) (qe_v (pv 3)) qe_int))) qo_none) qa_nil))))))
      qss_nil)
    (qss_one (qs_if (qt_c (qc_2 (op_eqU hr.units) snd_eq (nomark _) (qd_e (qe_2 snd_ix (fun _ _ h1 h2 => pe_ix ix_U h1 h2 (fun _ _ => rfl)) (qe_ix (qp_v (pv 0)) (qe_v (pv 3)) (fun _ _ => rfl)) qe_int)) (qd_e qe_str)))
      (qss_one (qs_setD (fun _ h => ps_set (i := 2) sc__law_leave.nd rfl (Or.inl rfl) h) (qd_e (qe_2 snd_add (fun _ _ h1 h2 => pe_op op_addU h1 h2) (qe_v (pv 2)) qe_int))))
      qss_nil))))
    (qss_one (qs_retD (qd_e (qe_tup (qae_cons (qe_v (pv 2)) (qae_cons qe_non (qae_cons (qe_tup qae_nil) qae_nil))))))))))
theorem ok__law_after (T : Tx K mg w) : FnOk P w K mg base CX0 1 T.d__law_after.f T.d__law_after.fd ["cuts", "after"] (spD K 2 m__law_after) := by
  exact fn_d (tb T) T.d__law_after.F sc__law_after rfl (fun cdv A outer s H E hr => (qss_cons (qs_if (qt_c (qc_2 op_gt snd_gt (nomark _) (qd_e (qe_v (pv 0))) (qd_e qe_int)))
      (qss_one (qs_retD (qd_e (qe_tup (qae_cons qe_str (qae_cons (qe_v (pv 0)) (qae_cons (qe_v (pv 1)) qae_nil)))))))
      qss_nil)
    (qss_one (qs_retD (qd_e (qe_tup (qae_cons qe_str (qae_cons (qe_v (pv 1)) qae_nil))))))))
theorem ok__law_thrown (T : Tx K mg w) : FnOk P w K mg base CX0 2 T.d__law_thrown.f T.d__law_thrown.fd ["local", "value"] (spD K 2 m__law_thrown) := by
  have G__law_leave := ok__law_leave (P := P) (w := w) (base := base) T
  have G__law_after := ok__law_after (P := P) (w := w) (base := base) T
  exact fn_d (tb T) T.d__law_thrown.F sc__law_thrown rfl (fun cdv A outer s H E hr => (qss_cons (qs_setD (fun _ h => ps_set (i := 2) sc__law_thrown.nd rfl (Or.inl rfl) h) (qd_x (qx_call (fun _ h => pe_call G__law_leave (hr.mono (by omega)) (by rfl) T.d__law_leave.m T.d__law_leave.F.kp T.d__law_leave.b .nil pass0 h) (qr_val (qd_e (qe_p (qp_ix (qp_v (pv 0))))) (qr_own (qx_lst (qr_val (qd_e qe_str) qr_nil)) qr_nil)))))
    (qss_cons (qs_if (qt_c (qc_2 op_isN snd_is (nomark _) (qd_e (qe_p (qp_ix (qp_v (pv 2))))) (qd_e qe_non)))
      (qss_one (qs_retD (qd_e (qe_tup (qae_cons qe_str (qae_cons (qe_v (pv 1)) qae_nil))))))
      qss_nil)
    (qss_one (qs_retD (qd_e (qe_call (fun _ h => pe_call G__law_after (hr.mono (by omega)) (by rfl) T.d__law_after.m T.d__law_after.F.kp T.d__law_after.b .nil pass0 h) (qae_cons (qe_p (qp_ix (qp_v (pv 2)))) (qae_cons (qe_tup (qae_cons (qe_p (qp_ix (qp_ix (qp_v (pv 2))))) (qae_cons (qe_tup (qae_cons (qe_v (pv 1)) qae_nil)) (qae_cons (qe_p (qp_ix (qp_ix (qp_v (pv 2))))) (qae_cons (qe_p (qp_ix (qp_v (pv 0)))) (qae_cons (qe_p (qp_ix (qp_v (pv 2)))) qae_nil)))))) qae_nil)))))))))
theorem ok__law_error (T : Tx K mg w) : FnOk P w K mg base CX0 3 T.d__law_error.f T.d__law_error.fd ["local", "words"] (spD K 2 m__law_error) := by
  have G__law_thrown := ok__law_thrown (P := P) (w := w) (base := base) T
  exact fn_d (tb T) T.d__law_error.F sc__law_error rfl (fun cdv A outer s H E hr => (qss_one (qs_retD (qd_e (qe_call (fun _ h => pe_call G__law_thrown (hr.mono (by omega)) (by rfl) T.d__law_thrown.m T.d__law_thrown.F.kp T.d__law_thrown.b .nil pass0 h) (qae_cons (qe_v (pv 0)) (qae_cons (qe_tup (qae_cons qe_str (qae_cons (qe_v (pv 1)) qae_nil))) qae_nil)))))))
theorem ok_Program___init__ (T : Tx K mg w) : FnOk P w K mg base CX0 1 T.d_Program___init__.f T.d_Program___init__.fd ["self", "code", "lines", "records", "variables", "procedures"] (spNew (T.C_Program) ["code", "lines", "records", "variables", "procedures"]) := by
  refine T.d_Program___init__.F.ok sc_Program___init__ (fun vs H Q E h => ?_) (fun cdv A outer s H vs Q E hr h => ?_)
  · obtain ⟨a, dx, us, rfl, hl, _⟩ := h
    simpa using hl
  obtain ⟨a, dx, us, rfl, hl, ha, q⟩ := h
  match us, hl with
  | [x0, x1, x2, x3, x4], _ =>
  refine ⟨_, (pss_cons (ps_fld (pv 0) (pv 1) rfl) (pss_cons (ps_fld (pv 0) (pv 2) rfl) (pss_cons (ps_fld (pv 0) (pv 3) rfl) (pss_cons (ps_fld (pv 0) (pv 4) rfl) (pss_one (ps_fld (pv 0) (pv 5) rfl)))))), ?_⟩
  refine ⟨_, rfl, _, rfl, a, T.C_Program, dx, _, rfl, ha, T.cl_Program, T.na_Program_code, (by show 0 < 1000; decide), ?_⟩
  rw [putF_new (fs := []) (n := "code") (show ([] : List Str).contains "code" = false by decide +kernel)]
  rw [show ([] ++ [(("code" : Str), x0)] : List (Str × V)) = [(("code" : Str), x0)] from rfl]
  refine ⟨_, rfl, _, rfl, a, T.C_Program, dx, _, rfl, upd_same, T.cl_Program, T.na_Program_lines, (by show 1 < 1000; decide), ?_⟩
  rw [upd_upd]
  rw [putF_new (fs := [(("code" : Str), x0)]) (n := "lines") (show (["code"] : List Str).contains "lines" = false by decide +kernel)]
  rw [show ([(("code" : Str), x0)] ++ [(("lines" : Str), x1)] : List (Str × V)) = [(("code" : Str), x0), (("lines" : Str), x1)] from rfl]
  refine ⟨_, rfl, _, rfl, a, T.C_Program, dx, _, rfl, upd_same, T.cl_Program, T.na_Program_records, (by show 2 < 1000; decide), ?_⟩
  rw [upd_upd]
  rw [putF_new (fs := [(("code" : Str), x0), (("lines" : Str), x1)]) (n := "records") (show (["code", "lines"] : List Str).contains "records" = false by decide +kernel)]
  rw [show ([(("code" : Str), x0), (("lines" : Str), x1)] ++ [(("records" : Str), x2)] : List (Str × V)) = [(("code" : Str), x0), (("lines" : Str), x1), (("records" : Str), x2)] from rfl]
  refine ⟨_, rfl, _, rfl, a, T.C_Program, dx, _, rfl, upd_same, T.cl_Program, T.na_Program_variables, (by show 3 < 1000; decide), ?_⟩
  rw [upd_upd]
  rw [putF_new (fs := [(("code" : Str), x0), (("lines" : Str), x1), (("records" : Str), x2)]) (n := "variables") (show (["code", "lines", "records"] : List Str).contains "variables" = false by decide +kernel)]
  rw [show ([(("code" : Str), x0), (("lines" : Str), x1), (("records" : Str), x2)] ++ [(("variables" : Str), x3)] : List (Str × V)) = [(("code" : Str), x0), (("lines" : Str), x1), (("records" : Str), x2), (("variables" : Str), x3)] from rfl]
  refine ⟨_, rfl, _, rfl, a, T.C_Program, dx, _, rfl, upd_same, T.cl_Program, T.na_Program_procedures, (by show 4 < 1000; decide), ?_⟩
  rw [upd_upd]
  rw [putF_new (fs := [(("code" : Str), x0), (("lines" : Str), x1), (("records" : Str), x2), (("variables" : Str), x3)]) (n := "procedures") (show (["code", "lines", "records", "variables"] : List Str).contains "procedures" = false by decide +kernel)]
  rw [show ([(("code" : Str), x0), (("lines" : Str), x1), (("records" : Str), x2), (("variables" : Str), x3)] ++ [(("procedures" : Str), x4)] : List (Str × V)) = [(("code" : Str), x0), (("lines" : Str), x1), (("records" : Str), x2), (("variables" : Str), x3), (("procedures" : Str), x4)] from rfl]
  exact q
theorem ok__law_program (T : Tx K mg w) : FnOk P w K mg base CX0 3 T.d__law_program.f T.d__law_program.fd ["parts", "address", "records", "procedures"] (spX K (tb T) 4 m__law_program) := by
  have G_Program___init__ := ok_Program___init__ (P := P) (w := w) (base := base) T
  exact fn_x (tb T) [0, 1, 2, 3] T.d__law_program.F sc__law_program rfl (by decide) (fun cdv A outer s H E hr => (qss_cons (qs_setD (fun _ h => ps_set (i := 4) sc__law_program.nd rfl (Or.inl rfl) h) (qd_e (qe_tup qae_nil)))
    (qss_cons (qs_for (fun _ _ _ h1 h2 h3 => ps_for PassesOwn.never rfl h1 h2 h3) (qi_range1 (qd_e (qe_v (pv 1))) (by rfl) T.z_range) (qg_nm (pg_name (i := 5) sc__law_program.nd rfl (Or.inl rfl)))
      (qss_one (qs_setD (fun _ h => ps_set (i := 4) sc__law_program.nd rfl (Or.inl rfl) h) (qd_e (qe_2 snd_add (fun _ _ h1 h2 => pe_op op_addU h1 h2) (qe_v (pv 4)) (qe_tup (qae_cons (qe_tup (qae_cons qe_str qae_nil)) qae_nil)))))))
    (qss_cons (qs_setD (fun _ h => ps_set (i := 4) sc__law_program.nd rfl (Or.inl rfl) h) (qd_e (qe_2 snd_add (fun _ _ h1 h2 => pe_op op_addU h1 h2) (qe_v (pv 4)) (qe_tup (qae_cons (qe_v (pv 0)) (qae_cons (qe_tup (qae_cons qe_str qae_nil)) qae_nil))))))
    (qss_one (qs_ret (qx_new (T.fz_Program) (fun _ h => pe_make T.mk_Program G_Program___init__ (hr.mono (by omega)) (by rfl) T.mg_Program T.d_Program___init__.b .nil pass0 h) (qa_cons (qd_e (qe_v (pv 4))) (qa_cons (qd_e (qe_2 snd_mul (fun _ _ h1 h2 => pe_op op_mulU h1 h2) (qe_tup (qae_cons qe_int qae_nil)) (qe_lenP (qp_v (pv 4)) (by rfl) T.z_len))) (qa_cons (qd_e (qe_v (pv 2))) (qa_cons (qd_e (qe_tup qae_nil)) (qa_cons (qd_e (qe_v (pv 3))) qa_nil))))))))))))
theorem ok__law_goes (T : Tx K mg w) : FnOk P w K mg base CX0 1 T.d__law_goes.f T.d__law_goes.fd ["local", "operands"] (spD K 2 m__law_goes) := by
  exact fn_d (tb T) T.d__law_goes.F sc__law_goes rfl (fun cdv A outer s H E hr => (qss_one (qs_retD (qd_e (qe_tup (qae_cons (qe_2 snd_add (fun _ _ h1 h2 => pe_op op_addU h1 h2) (qe_p (qp_ix (qp_v (pv 0)))) qe_int) (qae_cons (qe_v (pv 1)) (qae_cons (qe_p (qp_ix (qp_v (pv 0)))) (qae_cons (qe_p (qp_ix (qp_v (pv 0)))) (qae_cons (qe_p (qp_ix (qp_v (pv 0)))) qae_nil))))))))))
theorem ok__law_records (T : Tx K mg w) : FnOk P w K mg base CX0 2 T.d__law_records.f T.d__law_records.fd ["box"] (spX K (tb T) 1 m__law_records) := by
  have G__law_draw := ok__law_draw (P := P) (w := w) (base := base) T
  exact fn_x (tb T) [0] T.d__law_records.F sc__law_records rfl (by decide) (fun cdv A outer s H E hr => (qss_cons (qs_setD (fun _ h => ps_set (i := 1) sc__law_records.nd rfl (Or.inl rfl) h) (qd_e (qe_tup qae_nil)))
    (qss_cons (qs_for (fun _ _ _ h1 h2 h3 => ps_for PassesOwn.never rfl h1 h2 h3) (qi_range1 (qd_x (qx_call (fun _ h => pe_call G__law_draw (hr.mono (by omega)) (by rfl) T.d__law_draw.m T.d__law_draw.F.kp T.d__law_draw.b .nil pass0 h) (qr_slot (pv 0) (qr_val (qd_e qe_int) qr_nil)))) (by rfl) T.z_range) (qg_nm (pg_name (i := 2) sc__law_records.nd rfl (Or.inl rfl)))
      (qss_cons (qs_setD (fun _ h => ps_set (i := 3) sc__law_records.nd rfl (Or.inl rfl) h) (qd_e (qe_tup qae_nil)))
    (qss_cons (qs_for (fun _ _ _ h1 h2 h3 => ps_for PassesOwn.never rfl h1 h2 h3) (qi_range1 (qd_e qe_int) (by rfl) T.z_range) (qg_nm (pg_name (i := 4) sc__law_records.nd rfl (Or.inl rfl)))
      (qss_one (qs_if (qt_c (qc_2 (op_eqU hr.units) snd_eq (nomark _) (qd_x (qx_call (fun _ h => pe_call G__law_draw (hr.mono (by omega)) (by rfl) T.d__law_draw.m T.d__law_draw.F.kp T.d__law_draw.b .nil pass0 h) (qr_slot (pv 0) (qr_val (qd_e qe_int) qr_nil)))) (qd_e qe_int)))
      (qss_one (qs_setD (fun _ h => ps_set (i := 3) sc__law_records.nd rfl (Or.inl rfl) h) (qd_e (qe_2 snd_add (fun _ _ h1 h2 => pe_op op_addU h1 h2) (qe_v (pv 3)) (qe_tup (qae_cons (qe_2 snd_add (fun _ _ h1 h2 => pe_op op_addU h1 h2) qe_str (qe_n snd_str (fun _ h => pe_callTy call_str_int (by rfl) T.z_str (by decide +kernel) h) (qae_cons (qe_2 snd_mod (fun _ _ h1 h2 => pe_op op_modN h1 h2) (qe_n snd_int (fun _ h => pe_callTy call_intU (by rfl) T.z_int (by decide +kernel) h) (qae_cons (qe_2 snd_add (fun _ _ h1 h2 => pe_op op_addU h1 h2) (qe_v (pv 4)) (qe_v (pv 2))) qae_nil)) qe_int) qae_nil))) qae_nil))))))
      qss_nil)))
    (qss_one (qs_setD (fun _ h => ps_set (i := 1) sc__law_records.nd rfl (Or.inl rfl) h) (qd_e (qe_2 snd_add (fun _ _ h1 h2 => pe_op op_addU h1 h2) (qe_v (pv 1)) (qe_tup (qae_cons (qe_tup (qae_cons (qe_2 snd_add (fun _ _ h1 h2 => pe_op op_addU h1 h2) qe_str (qe_n snd_str (fun _ h => pe_callTy call_str_int (by rfl) T.z_str (by decide +kernel) h) (qae_cons (qe_v (pv 2)) qae_nil))) (qae_cons (qe_v (pv 3)) qae_nil))) qae_nil)))))))))
    (qss_one (qs_retD (qd_e (qe_v (pv 1))))))))
theorem ok__law_field (T : Tx K mg w) : FnOk P w K mg base CX0 10 T.d__law_field.f T.d__law_field.fd ["records", "held", "name"] (spD K 3 m__law_field) := by
  have G__law_same := (ok__law_same (P := P) (w := w) (base := base) T 9)
  exact fn_d (tb T) T.d__law_field.F sc__law_field rfl (fun cdv A outer s H E hr => (qss_cons (qs_for (fun _ _ _ h1 h2 h3 => ps_for PassesOwn.never rfl h1 h2 h3) (qi_tup (qd_e (qe_v (pv 0)))) (qg_nm (pg_name (i := 3) sc__law_field.nd rfl (Or.inl rfl)))
      (qss_one (qs_if (qt_truth (qx_d (qd_e (qe_call (fun _ h => pe_call G__law_same (hr.mono (by omega)) (by rfl) T.d__law_same.m T.d__law_same.F.kp T.d__law_same.b .nil pass0 h) (qae_cons (qe_v (pv 1)) (qae_cons (qe_tup (qae_cons qe_str (qae_cons (qe_p (qp_ix (qp_v (pv 3)))) qae_nil))) qae_nil))))))
      (qss_one (qs_for (fun _ _ _ h1 h2 h3 => ps_for PassesOwn.never rfl h1 h2 h3) (qi_range1 (qd_e (qe_lenP (qp_ix (qp_v (pv 3))) (by rfl) T.z_len)) (by rfl) T.z_range) (qg_nm (pg_name (i := 4) sc__law_field.nd rfl (Or.inl rfl)))
      (qss_one (qs_if (qt_c (qc_2 (op_eqU hr.units) snd_eq (nomark _) (qd_e (qe_ix (qp_ix (qp_v (pv 3))) (qe_v (pv 4)) (fun _ _ => rfl))) (qd_e (qe_v (pv 2)))))
      (qss_one (qs_retD (qd_e (qe_tup (qae_cons qe_str (qae_cons (qe_2 snd_add (fun _ _ h1 h2 => pe_op op_addU h1 h2) (qe_v (pv 4)) qe_int) qae_nil))))))
      qss_nil))))
      qss_nil)))
    (qss_one (qs_retD (qd_e (qe_tup (qae_cons qe_str (qae_cons qe_str qae_nil))))))))
theorem ok__law_item (T : Tx K mg w) : FnOk P w K mg base CX0 1 T.d__law_item.f T.d__law_item.fd ["held", "at"] (spD K 2 m__law_item) := by
  exact fn_d (tb T) T.d__law_item.F sc__law_item rfl (fun cdv A outer s H E hr => (qss_cons (qs_if (qw_t (qw_or (qt_c (qc_2 (op_neU hr.units) snd_ne (nomark _) (qd_e (qe_p (qp_ix (qp_v (pv 0))))) (qd_e qe_str))) (qw_or1 (qt_c (qc_2 (op_neU hr.units) snd_ne (nomark _) (qd_e (qe_p (qp_ix (qp_v (pv 1))))) (qd_e qe_str))))))
      (qss_one (qs_retD (qd_e (qe_tup (qae_cons qe_str (qae_cons qe_str qae_nil))))))
      qss_nil)
    (qss_cons (qs_if (qt_c (qc_chain op_le snd_le op_ltU snd_lt (qd_e qe_int) (qd_e (qe_p (qp_ix (qp_v (pv 1))))) (qd_e (qe_p (qp_ix (qp_v (pv 0)))))))
      (qss_one (qs_retD (qd_e (qe_tup (qae_cons qe_str (qae_cons (qe_2 snd_add (fun _ _ h1 h2 => pe_op op_addU h1 h2) (qe_p (qp_ix (qp_v (pv 1)))) qe_int) qae_nil))))))
      qss_nil)
    (qss_one (qs_retD (qd_e (qe_tup (qae_cons qe_str (qae_cons qe_str qae_nil)))))))))
theorem ok__law_cell_of (T : Tx K mg w) : FnOk P w K mg base CX0 1 T.d__law_cell_of.f T.d__law_cell_of.fd ["thing", "number"] (spD K 2 m__law_cell_of) := by
  exact fn_d (tb T) T.d__law_cell_of.F sc__law_cell_of rfl (fun cdv A outer s H E hr => (qss_one (qs_retD (qd_e (qe_tup (qae_cons (qe_p (qp_ix (qp_v (pv 0)))) (qae_cons (qe_p (qp_ix (qp_v (pv 0)))) (qae_cons (qe_v (pv 1)) qae_nil))))))))
theorem ok__law_held (T : Tx K mg w) : FnOk P w K mg base CX0 4 T.d__law_held.f T.d__law_held.fd ["box"] (spX K (tb T) 1 m__law_held) := by
  have G__law_draw := ok__law_draw (P := P) (w := w) (base := base) T
  have G__law_value := ok__law_value (P := P) (w := w) (base := base) T
  exact fn_x (tb T) [0] T.d__law_held.F sc__law_held rfl (by decide) (fun cdv A outer s H E hr => (qss_cons (qs_setD (fun _ h => ps_set (i := 1) sc__law_held.nd rfl (Or.inl rfl) h) (qd_x (qx_call (fun _ h => pe_call G__law_draw (hr.mono (by omega)) (by rfl) T.d__law_draw.m T.d__law_draw.F.kp T.d__law_draw.b .nil pass0 h) (qr_slot (pv 0) (qr_val (qd_e qe_int) qr_nil)))))
    (qss_cons (qs_if (qt_c (qc_2 op_ltU snd_lt (nomark _) (qd_e (qe_v (pv 1))) (qd_e qe_int)))
      (qss_one (qs_retD (qd_tup (qa_cons (qd_e qe_str) (qa_cons (qd_2 snd_add (fun _ _ h1 h2 => pe_op op_addU h1 h2) (qd_e qe_str) (qd_n snd_str (fun _ h => pe_callTy call_str_int (by rfl) T.z_str (by decide +kernel) h) (qa_cons (qd_x (qx_call (fun _ h => pe_call G__law_draw (hr.mono (by omega)) (by rfl) T.d__law_draw.m T.d__law_draw.F.kp T.d__law_draw.b .nil pass0 h) (qr_slot (pv 0) (qr_val (qd_e qe_int) qr_nil)))) qa_nil))) qa_nil)))))
      qss_nil)
    (qss_cons (qs_if (qt_c (qc_2 op_ltU snd_lt (nomark _) (qd_e (qe_v (pv 1))) (qd_e qe_int)))
      (qss_one (qs_retD (qd_tup (qa_cons (qd_e qe_str) (qa_cons (qd_x (qx_call (fun _ h => pe_call G__law_draw (hr.mono (by omega)) (by rfl) T.d__law_draw.m T.d__law_draw.F.kp T.d__law_draw.b .nil pass0 h) (qr_slot (pv 0) (qr_val (qd_e qe_int) qr_nil)))) qa_nil)))))
      qss_nil)
    (qss_one (qs_retD (qd_x (qx_call (fun _ h => pe_call G__law_value (hr.mono (by omega)) (by rfl) T.d__law_value.m T.d__law_value.F.kp T.d__law_value.b .nil pass0 h) (qr_slot (pv 0) qr_nil)))))))))
theorem ok__law_any (T : Tx K mg w) : FnOk P w K mg base CX0 4 T.d__law_any.f T.d__law_any.fd ["box", "kind"] (spX K (tb T) 2 m__law_any) := by
  have G__law_draw := ok__law_draw (P := P) (w := w) (base := base) T
  have G__law_value := ok__law_value (P := P) (w := w) (base := base) T
  have G__law_object := ok__law_object (P := P) (w := w) (base := base) T
  exact fn_x (tb T) [0, 1] T.d__law_any.F sc__law_any rfl (by decide) (fun cdv A outer s H E hr => (qss_cons (qs_if (qt_c (qc_2 (op_eqU hr.units) snd_eq (nomark _) (qd_x (qx_call (fun _ h => pe_call G__law_draw (hr.mono (by omega)) (by rfl) T.d__law_draw.m T.d__law_draw.F.kp T.d__law_draw.b .nil pass0 h) (qr_slot (pv 0) (qr_val (qd_e qe_int) qr_nil)))) (qd_e qe_int)))
      (qss_one (qs_retD (qd_x (qx_call (fun _ h => pe_call G__law_value (hr.mono (by omega)) (by rfl) T.d__law_value.m T.d__law_value.F.kp T.d__law_value.b .nil pass0 h) (qr_slot (pv 0) qr_nil)))))
      qss_nil)
    (qss_cons (qs_if (qt_c (qc_2 (op_eqU hr.units) snd_eq (nomark _) (qd_e (qe_v (pv 1))) (qd_e qe_str)))
      (qss_one (qs_retD (qd_x (qx_call (fun _ h => pe_call G__law_object (hr.mono (by omega)) (by rfl) T.d__law_object.m T.d__law_object.F.kp T.d__law_object.b .nil pass0 h) (qr_slot (pv 0) qr_nil)))))
      qss_nil)
    (qss_one (qs_retD (qd_tup (qa_cons (qd_e qe_str) (qa_cons (qd_2 snd_sub (fun _ _ h1 h2 => pe_op op_sub h1 h2) (qd_x (qx_call (fun _ h => pe_call G__law_draw (hr.mono (by omega)) (by rfl) T.d__law_draw.m T.d__law_draw.F.kp T.d__law_draw.b .nil pass0 h) (qr_slot (pv 0) (qr_val (qd_e qe_int) qr_nil)))) (qd_e qe_int)) qa_nil))))))))
theorem ok__law_operands (T : Tx K mg w) : FnOk P w K mg base CX0 5 T.d__law_operands.f T.d__law_operands.fd ["box", "kind"] (spX K (tb T) 2 m__law_operands) := by
  have G__law_held := ok__law_held (P := P) (w := w) (base := base) T
  have G__law_object := ok__law_object (P := P) (w := w) (base := base) T
  have G__law_any := ok__law_any (P := P) (w := w) (base := base) T
  have G__law_value := ok__law_value (P := P) (w := w) (base := base) T
  have G__law_draw := ok__law_draw (P := P) (w := w) (base := base) T
  exact fn_x (tb T) [0, 1] T.d__law_operands.F sc__law_operands rfl (by decide) (fun cdv A outer s H E hr => (qss_cons (qs_if (qt_c (qc_inX op_in_seq (by rfl) (qd_e (qe_v (pv 1))) (qx_lst (qr_val (qd_e qe_str) (qr_val (qd_e qe_str) qr_nil)))))
      (qss_one (qs_setD (fun _ h => ps_set (i := 2) sc__law_operands.nd rfl (Or.inl rfl) h) (qd_tup (qa_cons (qd_x (qx_call (fun _ h => pe_call G__law_held (hr.mono (by omega)) (by rfl) T.d__law_held.m T.d__law_held.F.kp T.d__law_held.b .nil pass0 h) (qr_slot (pv 0) qr_nil))) (qa_cons (qd_x (qx_call (fun _ h => pe_call G__law_object (hr.mono (by omega)) (by rfl) T.d__law_object.m T.d__law_object.F.kp T.d__law_object.b .nil pass0 h) (qr_slot (pv 0) qr_nil))) qa_nil)))))
      (qss_one (qs_if (qt_c (qc_inX op_in_seq (by rfl) (qd_e (qe_v (pv 1))) (qx_lst (qr_val (qd_e qe_str) (qr_val (qd_e qe_str) qr_nil)))))
      (qss_one (qs_setD (fun _ h => ps_set (i := 2) sc__law_operands.nd rfl (Or.inl rfl) h) (qd_tup (qa_cons (qd_x (qx_call (fun _ h => pe_call G__law_any (hr.mono (by omega)) (by rfl) T.d__law_any.m T.d__law_any.F.kp T.d__law_any.b .nil pass0 h) (qr_slot (pv 0) (qr_val (qd_e qe_str) qr_nil)))) (qa_cons (qd_x (qx_call (fun _ h => pe_call G__law_held (hr.mono (by omega)) (by rfl) T.d__law_held.m T.d__law_held.F.kp T.d__law_held.b .nil pass0 h) (qr_slot (pv 0) qr_nil))) (qa_cons (qd_x (qx_call (fun _ h => pe_call G__law_object (hr.mono (by omega)) (by rfl) T.d__law_object.m T.d__law_object.F.kp T.d__law_object.b .nil pass0 h) (qr_slot (pv 0) qr_nil))) qa_nil))))))
      (qss_one (qs_if (qt_c (qc_inX op_in_seq (by rfl) (qd_e (qe_v (pv 1))) (qx_lst (qr_val (qd_e qe_str) qr_nil))))
      (qss_one (qs_setD (fun _ h => ps_set (i := 2) sc__law_operands.nd rfl (Or.inl rfl) h) (qd_tup (qa_cons (qd_x (qx_call (fun _ h => pe_call G__law_object (hr.mono (by omega)) (by rfl) T.d__law_object.m T.d__law_object.F.kp T.d__law_object.b .nil pass0 h) (qr_slot (pv 0) qr_nil))) qa_nil))))
      (qss_one (qs_if (qt_c (qc_inX op_in_seq (by rfl) (qd_e (qe_v (pv 1))) (qx_lst (qr_val (qd_e qe_str) qr_nil))))
      (qss_one (qs_setD (fun _ h => ps_set (i := 2) sc__law_operands.nd rfl (Or.inl rfl) h) (qd_tup (qa_cons (qd_x (qx_call (fun _ h => pe_call G__law_object (hr.mono (by omega)) (by rfl) T.d__law_object.m T.d__law_object.F.kp T.d__law_object.b .nil pass0 h) (qr_slot (pv 0) qr_nil))) (qa_cons (qd_tup (qa_cons (qd_e qe_str) (qa_cons (qd_x (qx_call (fun _ h => pe_call G__law_draw (hr.mono (by omega)) (by rfl) T.d__law_draw.m T.d__law_draw.F.kp T.d__law_draw.b .nil pass0 h) (qr_slot (pv 0) (qr_val (qd_e qe_int) qr_nil)))) qa_nil))) qa_nil)))))
      (qss_one (qs_if (qt_c (qc_inX op_in_seq (by rfl) (qd_e (qe_v (pv 1))) (qx_lst (qr_val (qd_e qe_str) (qr_val (qd_e qe_str) qr_nil)))))
      (qss_one (qs_setD (fun _ h => ps_set (i := 2) sc__law_operands.nd rfl (Or.inl rfl) h) (qd_tup (qa_cons (qd_x (qx_call (fun _ h => pe_call G__law_any (hr.mono (by omega)) (by rfl) T.d__law_any.m T.d__law_any.F.kp T.d__law_any.b .nil pass0 h) (qr_slot (pv 0) (qr_val (qd_e qe_str) qr_nil)))) qa_nil))))
      (qss_one (qs_setD (fun _ h => ps_set (i := 2) sc__law_operands.nd rfl (Or.inl rfl) h) (qd_tup (qa_cons (qd_x (qx_call (fun _ h => pe_call G__law_any (hr.mono (by omega)) (by rfl) T.d__law_any.m T.d__law_any.F.kp T.d__law_any.b .nil pass0 h) (qr_slot (pv 0) (qr_val (qd_e qe_str) qr_nil)))) qa_nil)))))))))))))
    (qss_cons (qs_if (qt_c (qc_inX op_in_seq (by rfl) (qd_e (qe_v (pv 1))) (qx_lst (qr_val (qd_e qe_str) (qr_val (qd_e qe_str) qr_nil)))))
      (qss_one (qs_setD (fun _ h => ps_set (i := 2) sc__law_operands.nd rfl (Or.inl rfl) h) (qd_2 snd_add (fun _ _ h1 h2 => pe_op op_addU h1 h2) (qd_tup (qa_cons (qd_x (qx_call (fun _ h => pe_call G__law_value (hr.mono (by omega)) (by rfl) T.d__law_value.m T.d__law_value.F.kp T.d__law_value.b .nil pass0 h) (qr_slot (pv 0) qr_nil))) qa_nil)) (qd_e (qe_v (pv 2))))))
      qss_nil)
    (qss_one (qs_retD (qd_e (qe_v (pv 2))))))))
theorem ok__law_reading (T : Tx K mg w) : FnOk P w K mg base CX0 4 T.d__law_reading.f T.d__law_reading.fd ["local", "thing", "result", "operands"] (spD K 4 m__law_reading) := by
  have G__law_error := ok__law_error (P := P) (w := w) (base := base) T
  have G__law_cell_of := ok__law_cell_of (P := P) (w := w) (base := base) T
  have G__law_goes := ok__law_goes (P := P) (w := w) (base := base) T
  exact fn_d (tb T) T.d__law_reading.F sc__law_reading rfl (fun cdv A outer s H E hr => (qss_cons (qs_if (qt_c (qc_2 (op_eqU hr.units) snd_eq (nomark _) (qd_e (qe_p (qp_ix (qp_v (pv 2))))) (qd_e qe_str)))
      (qss_one (qs_retD (qd_e (qe_call (fun _ h => pe_call G__law_error (hr.mono (by omega)) (by rfl) T.d__law_error.m T.d__law_error.F.kp T.d__law_error.b .nil pass0 h) (qae_cons (qe_v (pv 0)) (qae_cons (qe_p (qp_ix (qp_v (pv 2)))) qae_nil))))))
      qss_nil)
    (qss_one (qs_retD (qd_e (qe_tup (qae_cons qe_str (qae_cons (qe_call (fun _ h => pe_call G__law_cell_of (hr.mono (by omega)) (by rfl) T.d__law_cell_of.m T.d__law_cell_of.F.kp T.d__law_cell_of.b .nil pass0 h) (qae_cons (qe_v (pv 1)) (qae_cons (qe_p (qp_ix (qp_v (pv 2)))) qae_nil))) (qae_cons (qe_call (fun _ h => pe_call G__law_goes (hr.mono (by omega)) (by rfl) T.d__law_goes.m T.d__law_goes.F.kp T.d__law_goes.b .nil pass0 h) (qae_cons (qe_v (pv 0)) (qae_cons (qe_v (pv 3)) qae_nil))) qae_nil)))))))))
theorem ok__law_writing (T : Tx K mg w) : FnOk P w K mg base CX0 4 T.d__law_writing.f T.d__law_writing.fd ["local", "thing", "result", "value", "operands"] (spD K 5 m__law_writing) := by
  have G__law_error := ok__law_error (P := P) (w := w) (base := base) T
  have G__law_cell_of := ok__law_cell_of (P := P) (w := w) (base := base) T
  have G__law_goes := ok__law_goes (P := P) (w := w) (base := base) T
  exact fn_d (tb T) T.d__law_writing.F sc__law_writing rfl (fun cdv A outer s H E hr => (qss_cons (qs_if (qt_c (qc_2 (op_eqU hr.units) snd_eq (nomark _) (qd_e (qe_p (qp_ix (qp_v (pv 2))))) (qd_e qe_str)))
      (qss_one (qs_retD (qd_e (qe_call (fun _ h => pe_call G__law_error (hr.mono (by omega)) (by rfl) T.d__law_error.m T.d__law_error.F.kp T.d__law_error.b .nil pass0 h) (qae_cons (qe_v (pv 0)) (qae_cons (qe_p (qp_ix (qp_v (pv 2)))) qae_nil))))))
      qss_nil)
    (qss_one (qs_retD (qd_e (qe_tup (qae_cons qe_str (qae_cons (qe_call (fun _ h => pe_call G__law_cell_of (hr.mono (by omega)) (by rfl) T.d__law_cell_of.m T.d__law_cell_of.F.kp T.d__law_cell_of.b .nil pass0 h) (qae_cons (qe_v (pv 1)) (qae_cons (qe_p (qp_ix (qp_v (pv 2)))) qae_nil))) (qae_cons (qe_v (pv 3)) (qae_cons (qe_call (fun _ h => pe_call G__law_goes (hr.mono (by omega)) (by rfl) T.d__law_goes.m T.d__law_goes.F.kp T.d__law_goes.b .nil pass0 h) (qae_cons (qe_v (pv 0)) (qae_cons (qe_v (pv 4)) qae_nil))) qae_nil))))))))))
theorem ok__law_due_cells (T : Tx K mg w) : FnOk P w K mg base CX0 11 T.d__law_due_cells.f T.d__law_due_cells.fd ["parts", "local", "records"] (spD K 3 m__law_due_cells) := by
  have G__law_writing := ok__law_writing (P := P) (w := w) (base := base) T
  have G__law_reading := ok__law_reading (P := P) (w := w) (base := base) T
  have G__law_item := ok__law_item (P := P) (w := w) (base := base) T
  have G__law_field := ok__law_field (P := P) (w := w) (base := base) T
  exact fn_d (tb T) T.d__law_due_cells.F sc__law_due_cells rfl (fun cdv A outer s H E hr => (qss_cons (qs_setD (fun _ h => ps_set (i := 3) sc__law_due_cells.nd rfl (Or.inl rfl) h) (qd_e (qe_p (qp_ix (qp_v (pv 1))))))
    (qss_cons (qs_if (qt_c (qc_2 (op_eqU hr.units) snd_eq (nomark _) (qd_e (qe_p (qp_ix (qp_v (pv 0))))) (qd_e qe_str)))
      (qss_one (qs_retD (qd_call (fun _ h => pe_call G__law_reading (hr.mono (by omega)) (by rfl) T.d__law_reading.m T.d__law_reading.F.kp T.d__law_reading.b .nil pass0 h) (qa_cons (qd_e (qe_v (pv 1))) (qa_cons (qd_e (qe_p (qp_ix (qp_v (pv 3))))) (qa_cons (qd_e (qe_call (fun _ h => pe_call G__law_field (hr.mono (by omega)) (by rfl) T.d__law_field.m T.d__law_field.F.kp T.d__law_field.b .nil pass0 h) (qae_cons (qe_v (pv 2)) (qae_cons (qe_p (qp_ix (qp_v (pv 3)))) (qae_cons (qe_p (qp_ix (qp_v (pv 0)))) qae_nil))))) (qa_cons (qd_slice (qd_e (qe_v (pv 3))) (qo_some (qd_e qe_int)) qo_none) qa_nil)))))))
      qss_nil)
    (qss_cons (qs_if (qt_c (qc_2 (op_eqU hr.units) snd_eq (nomark _) (qd_e (qe_p (qp_ix (qp_v (pv 0))))) (qd_e qe_str)))
      (qss_one (qs_retD (qd_call (fun _ h => pe_call G__law_reading (hr.mono (by omega)) (by rfl) T.d__law_reading.m T.d__law_reading.F.kp T.d__law_reading.b .nil pass0 h) (qa_cons (qd_e (qe_v (pv 1))) (qa_cons (qd_e (qe_p (qp_ix (qp_v (pv 3))))) (qa_cons (qd_e (qe_call (fun _ h => pe_call G__law_item (hr.mono (by omega)) (by rfl) T.d__law_item.m T.d__law_item.F.kp T.d__law_item.b .nil pass0 h) (qae_cons (qe_p (qp_ix (qp_v (pv 3)))) (qae_cons (qe_p (qp_ix (qp_v (pv 3)))) qae_nil)))) (qa_cons (qd_slice (qd_e (qe_v (pv 3))) (qo_some (qd_e qe_int)) qo_none) qa_nil)))))))
      qss_nil)
    (qss_cons (qs_if (qt_c (qc_2 (op_eqU hr.units) snd_eq (nomark _) (qd_e (qe_p (qp_ix (qp_v (pv 0))))) (qd_e qe_str)))
      (qss_one (qs_retD (qd_call (fun _ h => pe_call G__law_writing (hr.mono (by omega)) (by rfl) T.d__law_writing.m T.d__law_writing.F.kp T.d__law_writing.b .nil pass0 h) (qa_cons (qd_e (qe_v (pv 1))) (qa_cons (qd_e (qe_p (qp_ix (qp_v (pv 3))))) (qa_cons (qd_e (qe_call (fun _ h => pe_call G__law_field (hr.mono (by omega)) (by rfl) T.d__law_field.m T.d__law_field.F.kp T.d__law_field.b .nil pass0 h) (qae_cons (qe_v (pv 2)) (qae_cons (qe_p (qp_ix (qp_v (pv 3)))) (qae_cons (qe_p (qp_ix (qp_v (pv 0)))) qae_nil))))) (qa_cons (qd_e (qe_p (qp_ix (qp_v (pv 3))))) (qa_cons (qd_slice (qd_e (qe_v (pv 3))) (qo_some (qd_e qe_int)) qo_none) qa_nil))))))))
      qss_nil)
    (qss_one (qs_retD (qd_call (fun _ h => pe_call G__law_writing (hr.mono (by omega)) (by rfl) T.d__law_writing.m T.d__law_writing.F.kp T.d__law_writing.b .nil pass0 h) (qa_cons (qd_e (qe_v (pv 1))) (qa_cons (qd_e (qe_p (qp_ix (qp_v (pv 3))))) (qa_cons (qd_e (qe_call (fun _ h => pe_call G__law_item (hr.mono (by omega)) (by rfl) T.d__law_item.m T.d__law_item.F.kp T.d__law_item.b .nil pass0 h) (qae_cons (qe_p (qp_ix (qp_v (pv 3)))) (qae_cons (qe_p (qp_ix (qp_v (pv 3)))) qae_nil)))) (qa_cons (qd_e (qe_p (qp_ix (qp_v (pv 3))))) (qa_cons (qd_slice (qd_e (qe_v (pv 3))) (qo_some (qd_e qe_int)) qo_none) qa_nil)))))))))))))
theorem ok__law_due (T : Tx K mg w) : FnOk P w K mg base CX0 12 T.d__law_due.f T.d__law_due.fd ["parts", "local", "records"] (spD K 3 m__law_due) := by
  have G__law_goes := ok__law_goes (P := P) (w := w) (base := base) T
  have G__law_error := ok__law_error (P := P) (w := w) (base := base) T
  have G__law_due_cells := ok__law_due_cells (P := P) (w := w) (base := base) T
  have G__law_cell_of := ok__law_cell_of (P := P) (w := w) (base := base) T
  exact fn_d (tb T) T.d__law_due.F sc__law_due rfl (fun cdv A outer s H E hr => (qss_cons (qs_setD (fun _ h => ps_set (i := 3) sc__law_due.nd rfl (Or.inl rfl) h) (qd_e (qe_p (qp_ix (qp_v (pv 0))))))
    (qss_cons (qs_setD (fun _ h => ps_set (i := 4) sc__law_due.nd rfl (Or.inl rfl) h) (qd_e (qe_p (qp_ix (qp_ix (qp_v (pv 1)))))))
    (qss_cons (qs_setD (fun _ h => ps_set (i := 5) sc__law_due.nd rfl (Or.inl rfl) h) (qd_e (qe_call (fun _ h => pe_call G__law_goes (hr.mono (by omega)) (by rfl) T.d__law_goes.m T.d__law_goes.F.kp T.d__law_goes.b .nil pass0 h) (qae_cons (qe_v (pv 1)) (qae_cons (qe_p (qp_ix (qp_v (pv 1)))) qae_nil)))))
    (qss_cons (qs_if (qw_t (qw_and (qt_c (qc_2 (op_eqU hr.units) snd_eq (nomark _) (qd_e (qe_v (pv 3))) (qd_e qe_str))) (qw_and1 (qt_c (qc_2 (op_eqU hr.units) snd_eq (nomark _) (qd_e (qe_p (qp_ix (qp_v (pv 4))))) (qd_e qe_str))))))
      (qss_one (qs_retD (qd_e (qe_tup (qae_cons qe_str (qae_cons (qe_call (fun _ h => pe_call G__law_cell_of (hr.mono (by omega)) (by rfl) T.d__law_cell_of.m T.d__law_cell_of.F.kp T.d__law_cell_of.b .nil pass0 h) (qae_cons (qe_v (pv 4)) (qae_cons qe_int qae_nil))) (qae_cons (qe_v (pv 5)) qae_nil)))))))
      qss_nil)
    (qss_cons (qs_if (qw_t (qw_and (qt_c (qc_2 (op_eqU hr.units) snd_eq (nomark _) (qd_e (qe_v (pv 3))) (qd_e qe_str))) (qw_and1 (qt_c (qc_2 (op_eqU hr.units) snd_eq (nomark _) (qd_e (qe_p (qp_ix (qp_v (pv 4))))) (qd_e qe_str))))))
      (qss_one (qs_retD (qd_tup (qa_cons (qd_e qe_str) (qa_cons (qd_e (qe_call (fun _ h => pe_call G__law_cell_of (hr.mono (by omega)) (by rfl) T.d__law_cell_of.m T.d__law_cell_of.F.kp T.d__law_cell_of.b .nil pass0 h) (qae_cons (qe_v (pv 4)) (qae_cons qe_int qae_nil)))) (qa_cons (qd_call (fun _ h => pe_call G__law_goes (hr.mono (by omega)) (by rfl) T.d__law_goes.m T.d__law_goes.F.kp T.d__law_goes.b .nil pass0 h) (qa_cons (qd_e (qe_v (pv 1))) (qa_cons (qd_slice (qd_e (qe_p (qp_ix (qp_v (pv 1))))) (qo_some (qd_e qe_int)) qo_none) qa_nil))) qa_nil))))))
      qss_nil)
    (qss_cons (qs_if (qw_t (qw_and (qt_c (qc_2 (op_eqU hr.units) snd_eq (nomark _) (qd_e (qe_v (pv 3))) (qd_e qe_str))) (qw_and1 (qt_c (qc_2 (op_eqU hr.units) snd_eq (nomark _) (qd_e (qe_p (qp_ix (qp_v (pv 4))))) (qd_e qe_str))))))
      (qss_one (qs_retD (qd_tup (qa_cons (qd_e qe_str) (qa_cons (qd_call (fun _ h => pe_call G__law_goes (hr.mono (by omega)) (by rfl) T.d__law_goes.m T.d__law_goes.F.kp T.d__law_goes.b .nil pass0 h) (qa_cons (qd_e (qe_v (pv 1))) (qa_cons (qd_2 snd_add (fun _ _ h1 h2 => pe_op op_addU h1 h2) (qd_e (qe_tup (qae_cons (qe_tup (qae_cons qe_str (qae_cons (qe_lenP (qp_ix (qp_v (pv 4))) (by rfl) T.z_len) qae_nil))) qae_nil))) (qd_slice (qd_e (qe_p (qp_ix (qp_v (pv 1))))) (qo_some (qd_e qe_int)) qo_none)) qa_nil))) qa_nil)))))
      qss_nil)
    (qss_cons (qs_if (qw_t (qw_and (qt_c (qc_2 (op_eqU hr.units) snd_eq (nomark _) (qd_e (qe_v (pv 3))) (qd_e qe_str))) (qw_and1 (qt_c (qc_2 (op_eqU hr.units) snd_eq (nomark _) (qd_e (qe_p (qp_ix (qp_v (pv 4))))) (qd_e qe_str))))))
      (qss_one (qs_retD (qd_e (qe_tup (qae_cons qe_str (qae_cons (qe_v (pv 5)) qae_nil))))))
      qss_nil)
    (qss_cons (qs_if (qt_c (qc_2 (op_eqU hr.units) snd_eq (nomark _) (qd_e (qe_v (pv 3))) (qd_e qe_str)))
      (qss_one (qs_retD (qd_e (qe_tup (qae_cons qe_str (qae_cons qe_str (qae_cons (qe_v (pv 5)) qae_nil)))))))
      qss_nil)
    (qss_cons (qs_if (qt_c (qc_2 (op_eqU hr.units) snd_eq (nomark _) (qd_e (qe_v (pv 3))) (qd_e qe_str)))
      (qss_one (qs_retD (qd_e (qe_tup (qae_cons qe_str (qae_cons (qe_call (fun _ h => pe_call G__law_cell_of (hr.mono (by omega)) (by rfl) T.d__law_cell_of.m T.d__law_cell_of.F.kp T.d__law_cell_of.b .nil pass0 h) (qae_cons (qe_v (pv 4)) (qae_cons qe_int qae_nil))) (qae_cons (qe_tup (qae_cons qe_str (qae_cons (qe_p (qp_ix (qp_v (pv 0)))) qae_nil))) (qae_cons (qe_v (pv 5)) qae_nil))))))))
      qss_nil)
    (qss_cons (qs_if (qt_c (qc_2 (op_eqU hr.units) snd_eq (nomark _) (qd_e (qe_v (pv 3))) (qd_e qe_str)))
      (qss_one (qs_retD (qd_tup (qa_cons (qd_e qe_str) (qa_cons (qd_e (qe_call (fun _ h => pe_call G__law_cell_of (hr.mono (by omega)) (by rfl) T.d__law_cell_of.m T.d__law_cell_of.F.kp T.d__law_cell_of.b .nil pass0 h) (qae_cons (qe_v (pv 4)) (qae_cons qe_int qae_nil)))) (qa_cons (qd_e (qe_p (qp_ix (qp_ix (qp_v (pv 1)))))) (qa_cons (qd_call (fun _ h => pe_call G__law_goes (hr.mono (by omega)) (by rfl) T.d__law_goes.m T.d__law_goes.F.kp T.d__law_goes.b .nil pass0 h) (qa_cons (qd_e (qe_v (pv 1))) (qa_cons (qd_2 snd_add (fun _ _ h1 h2 => pe_op op_addU h1 h2) (qd_e (qe_tup (qae_cons (qe_v (pv 4)) qae_nil))) (qd_slice (qd_e (qe_p (qp_ix (qp_v (pv 1))))) (qo_some (qd_e qe_int)) qo_none)) qa_nil))) qa_nil)))))))
      qss_nil)
    (qss_cons (qs_if (qw_t (qw_and (qt_c (qc_2 (op_eqU hr.units) snd_eq (nomark _) (qd_e (qe_v (pv 3))) (qd_e qe_str))) (qw_and1 (qt_c (qc_2 (op_eqU hr.units) snd_eq (nomark _) (qd_e (qe_p (qp_ix (qp_v (pv 4))))) (qd_e qe_str))))))
      (qss_cons (qs_if (qt_c (qc_chain op_le snd_le op_le snd_le (qd_e qe_int) (qd_e (qe_p (qp_ix (qp_v (pv 4))))) (qd_e qe_int)))
      (qss_one (qs_retD (qd_e (qe_tup (qae_cons qe_str (qae_cons (qe_v (pv 5)) qae_nil))))))
      qss_nil)
    (qss_one (qs_retD (qd_e (qe_call (fun _ h => pe_call G__law_error (hr.mono (by omega)) (by rfl) T.d__law_error.m T.d__law_error.F.kp T.d__law_error.b .nil pass0 h) (qae_cons (qe_v (pv 1)) (qae_cons qe_str qae_nil)))))))
      qss_nil)
    (qss_cons (qs_if (qt_c (qc_inX op_in_seq (by rfl) (qd_e (qe_v (pv 3))) (qx_lst (qr_val (qd_e qe_str) (qr_val (qd_e qe_str) (qr_val (qd_e qe_str) (qr_val (qd_e qe_str) qr_nil)))))))
      (qss_one (qs_retD (qd_e (qe_call (fun _ h => pe_call G__law_due_cells (hr.mono (by omega)) (by rfl) T.d__law_due_cells.m T.d__law_due_cells.F.kp T.d__law_due_cells.b .nil pass0 h) (qae_cons (qe_v (pv 0)) (qae_cons (qe_v (pv 1)) (qae_cons (qe_v (pv 2)) qae_nil)))))))
      qss_nil)
    (qss_one (qs_retD (qd_e (qe_call (fun _ h => pe_call G__law_error (hr.mono (by omega)) (by rfl) T.d__law_error.m T.d__law_error.F.kp T.d__law_error.b .nil pass0 h) (qae_cons (qe_v (pv 1)) (qae_cons qe_str qae_nil)))))))))))))))))))
theorem ok_law (T : Tx K mg w) : FnOk P w K mg base CX0 13 T.d_law.f T.d_law.fd ["script"] (spX K (tb T) 1 m_law) := by
  have G__law_digits := ok__law_digits (P := P) (w := w) (base := base) T
  have G__law_records := ok__law_records (P := P) (w := w) (base := base) T
  have G__law_draw := ok__law_draw (P := P) (w := w) (base := base) T
  have G__law_local := ok__law_local (P := P) (w := w) (base := base) T
  have G__law_program := ok__law_program (P := P) (w := w) (base := base) T
  have G__law_operands := ok__law_operands (P := P) (w := w) (base := base) T
  have G__law_same := (ok__law_same (P := P) (w := w) (base := base) T 9)
  have G_action := ok_action (P := P) (w := w) (base := base) T
  have G__law_due := ok__law_due (P := P) (w := w) (base := base) T
  exact fn_x (tb T) [0] T.d_law.F sc_law rfl (by decide) (fun cdv A outer s H E hr => (qss_cons (qs_set (fun _ h => ps_set (i := 1) sc_law.nd rfl (Or.inl rfl) h) (qx_lst (qr_own (qx_call (fun _ h => pe_call G__law_digits (hr.mono (by omega)) (by rfl) T.d__law_digits.m T.d__law_digits.F.kp T.d__law_digits.b .nil pass0 h) (qr_slot (pv 0) (qr_val (qd_e qe_int) (qr_val (qd_e qe_int) qr_nil)))) (qr_val (qd_e qe_int) qr_nil))))
    (qss_cons (qs_set (fun _ h => ps_set (i := 2) sc_law.nd rfl (Or.inl rfl) h) (qx_lst (qr_val (qd_e qe_str) (qr_val (qd_e qe_str) (qr_val (qd_e qe_str) (qr_val (qd_e qe_str) (qr_val (qd_e qe_str) (qr_val (qd_e qe_str) (qr_val (qd_e qe_str) (qr_val (qd_e qe_str) (qr_val (qd_e qe_str) (qr_val (qd_e qe_str) (qr_val (qd_e qe_str) qr_nil)))))))))))))
    (qss_cons (qs_forV (i := 2) (fun _ _ h2 h3 => ps_for PassesOwn.never rfl (pi_list (pv 2)) h2 h3) (qg_nm (pg_name (i := 3) sc_law.nd rfl (Or.inl rfl)))
      (qss_cons (qs_setD (fun _ h => ps_set (i := 4) sc_law.nd rfl (Or.inl rfl) h) (qd_x (qx_call (fun _ h => pe_call G__law_records (hr.mono (by omega)) (by rfl) T.d__law_records.m T.d__law_records.F.kp T.d__law_records.b .nil pass0 h) (qr_slot (pv 1) qr_nil))))
    (qss_cons (qs_setD (fun _ h => ps_set (i := 5) sc_law.nd rfl (Or.inl rfl) h) (qd_e (qe_tup (qae_cons (qe_v (pv 3)) qae_nil))))
    (qss_cons (qs_if (qt_c (qc_inX op_in_seq (by rfl) (qd_e (qe_v (pv 3))) (qx_lst (qr_val (qd_e qe_str) (qr_val (qd_e qe_str) qr_nil)))))
      (qss_one (qs_setD (fun _ h => ps_set (i := 5) sc_law.nd rfl (Or.inl rfl) h) (qd_tup (qa_cons (qd_e (qe_v (pv 3))) (qa_cons (qd_2 snd_add (fun _ _ h1 h2 => pe_op op_addU h1 h2) (qd_e qe_str) (qd_n snd_str (fun _ h => pe_callTy call_str_int (by rfl) T.z_str (by decide +kernel) h) (qa_cons (qd_x (qx_call (fun _ h => pe_call G__law_draw (hr.mono (by omega)) (by rfl) T.d__law_draw.m T.d__law_draw.F.kp T.d__law_draw.b .nil pass0 h) (qr_slot (pv 1) (qr_val (qd_e qe_int) qr_nil)))) qa_nil))) qa_nil)))))
      qss_nil)
    (qss_cons (qs_if (qt_c (qc_2 (op_eqU hr.units) snd_eq (nomark _) (qd_e (qe_v (pv 3))) (qd_e qe_str)))
      (qss_one (qs_setD (fun _ h => ps_set (i := 5) sc_law.nd rfl (Or.inl rfl) h) (qd_tup (qa_cons (qd_e (qe_v (pv 3))) (qa_cons (qd_2 snd_add (fun _ _ h1 h2 => pe_op op_addU h1 h2) (qd_e qe_str) (qd_n snd_str (fun _ h => pe_callTy call_str_int (by rfl) T.z_str (by decide +kernel) h) (qa_cons (qd_x (qx_call (fun _ h => pe_call G__law_draw (hr.mono (by omega)) (by rfl) T.d__law_draw.m T.d__law_draw.F.kp T.d__law_draw.b .nil pass0 h) (qr_slot (pv 1) (qr_val (qd_e qe_int) qr_nil)))) qa_nil))) qa_nil)))))
      qss_nil)
    (qss_cons (qs_setD (fun _ h => ps_set (i := 6) sc_law.nd rfl (Or.inl rfl) h) (qd_x (qx_call (fun _ h => pe_call G__law_draw (hr.mono (by omega)) (by rfl) T.d__law_draw.m T.d__law_draw.F.kp T.d__law_draw.b .nil pass0 h) (qr_slot (pv 1) (qr_val (qd_e qe_int) qr_nil)))))
    (qss_cons (qs_setD (fun _ h => ps_set (i := 7) sc_law.nd rfl (Or.inl rfl) h) (qd_x (qx_call (fun _ h => pe_call G__law_local (hr.mono (by omega)) (by rfl) T.d__law_local.m T.d__law_local.F.kp T.d__law_local.b .nil pass0 h) (qr_slot (pv 1) (qr_val (qd_e (qe_v (pv 6))) (qr_val (qd_x (qx_call (fun _ h => pe_call G__law_operands (hr.mono (by omega)) (by rfl) T.d__law_operands.m T.d__law_operands.F.kp T.d__law_operands.b .nil pass0 h) (qr_slot (pv 1) (qr_val (qd_e (qe_v (pv 3))) qr_nil)))) qr_nil))))))
    (qss_cons (qs_set (fun _ h => ps_set (i := 8) sc_law.nd rfl (Or.inl rfl) h) (qx_call (fun _ h => pe_call G__law_program (hr.mono (by omega)) (by rfl) T.d__law_program.m T.d__law_program.F.kp T.d__law_program.b .nil pass0 h) (qr_val (qd_e (qe_v (pv 5))) (qr_val (qd_e (qe_v (pv 6))) (qr_val (qd_e (qe_v (pv 4))) (qr_val (qd_e (qe_tup qae_nil)) qr_nil))))))
    (qss_one (qs_if (qt_not (qt_truth (qx_d (qd_call (fun _ h => pe_call G__law_same (hr.mono (by omega)) (by rfl) T.d__law_same.m T.d__law_same.F.kp T.d__law_same.b .nil pass0 h) (qa_cons (qd_x (qx_call (fun _ h => pe_call G_action (hr.mono (by omega)) (by rfl) T.d_action.m T.d_action.F.kp T.d_action.b .nil pass0 h) (qr_slot (pv 8) (qr_val (qd_e (qe_v (pv 7))) qr_nil)))) (qa_cons (qd_e (qe_call (fun _ h => pe_call G__law_due (hr.mono (by omega)) (by rfl) T.d__law_due.m T.d__law_due.F.kp T.d__law_due.b .nil pass0 h) (qae_cons (qe_v (pv 5)) (qae_cons (qe_v (pv 7)) (qae_cons (qe_v (pv 4)) qae_nil))))) qa_nil))))))
      (qss_one (qs_retD (qd_e qe_bl)))
      qss_nil))))))))))
    (qss_one (qs_retD (qd_e qe_bl)))))))
end
theorem law_ok {P : Program} {w : World} {K : PySem.W.Frag} {T : Tb} {mg : Str → Option Value} {base : Heap} {f : Addr} {fd : FuncData} {ps : List Str} {k : Nat} (F : FnOk P w K mg base CX0 k f fd ps (spX K T 1 m_law)) : FnOk P w K mg base CX0 k f fd ps (spLaw K) := law_imp law_true F



theorem all_mk {P : Program} {w : World} {K : PySem.W.Frag} {h : Heap} {mg : Str → Option Value} {fa : Addr} (X : K.In h) (G : h.Ns mainGlobals mg) (hlaw : mg "law" = some (.ref fa)) (c : SaysM hfa hfn hts hex w K) :
    ∃ fd : FuncData, (∀ (s : Shared) (v : Value), BindsTo s fd ⟨[v], []⟩ [("script", v)]) ∧ ∀ base : Heap, K.In base → base.Ns mainGlobals mg → FnOk P w K mg base CX0 13 fa fd ["script"] (spLaw K) := by
  have e := hlaw.symm.trans (He.glo_ok X G (c.fact 94 (f := .glo "law")))
  cases e
  obtain ⟨fd0, F0⟩ := c.fun_ 0 (a := ("field_cell", none)) (x := "field_cell") (qual := "field_cell") (st := s_field_cell) (f := He.ga K "field_cell")
  have b0 := F0.binds (ps := ["records", "held", "name"]) fun _ _ _ _ _ _ us hl => match us, hl with | [_, _, _], _ => rfl
  obtain ⟨fd1, F1⟩ := c.fun_ 1 (a := ("item_cell", none)) (x := "item_cell") (qual := "item_cell") (st := s_item_cell) (f := He.ga K "item_cell")
  have b1 := F1.binds (ps := ["held", "at"]) fun _ _ _ _ _ _ us hl => match us, hl with | [_, _], _ => rfl
  obtain ⟨fd2, F2⟩ := c.fun_ 2 (a := ("array_size", none)) (x := "array_size") (qual := "array_size") (st := s_array_size) (f := He.ga K "array_size")
  have b2 := F2.binds (ps := ["value"]) fun _ _ _ _ _ _ us hl => match us, hl with | [_], _ => rfl
  obtain ⟨fd3, F3⟩ := c.fun_ 3 (a := ("both", none)) (x := "both") (qual := "both") (st := s_both) (f := He.ga K "both")
  have b3 := F3.binds (ps := ["op", "a", "b"]) fun _ _ _ _ _ _ us hl => match us, hl with | [_, _, _], _ => rfl
  obtain ⟨fd4, F4⟩ := c.fun_ 4 (a := ("together", none)) (x := "together") (qual := "together") (st := s_together) (f := He.ga K "together")
  have b4 := F4.binds (ps := ["a", "b"]) fun _ _ _ _ _ _ us hl => match us, hl with | [_, _], _ => rfl
  obtain ⟨fd5, F5⟩ := c.fun_ 5 (a := ("divided", none)) (x := "divided") (qual := "divided") (st := s_divided) (f := He.ga K "divided")
  have b5 := F5.binds (ps := ["op", "left", "right"]) fun _ _ _ _ _ _ us hl => match us, hl with | [_, _, _], _ => rfl
  obtain ⟨fd6, F6⟩ := c.fun_ 6 (a := ("computed", none)) (x := "computed") (qual := "computed") (st := s_computed) (f := He.ga K "computed")
  have b6 := F6.binds (ps := ["op", "left", "right"]) fun _ _ _ _ _ _ us hl => match us, hl with | [_, _, _], _ => rfl
  obtain ⟨fd7, F7⟩ := c.fun_ 7 (a := ("bounded", none)) (x := "bounded") (qual := "bounded") (st := s_bounded) (f := He.ga K "bounded")
  have b7 := F7.binds (ps := ["number"]) fun _ _ _ _ _ _ us hl => match us, hl with | [_], _ => rfl
  obtain ⟨fd8, F8⟩ := c.fun_ 8 (a := ("negative", none)) (x := "negative") (qual := "negative") (st := s_negative) (f := He.ga K "negative")
  have b8 := F8.binds (ps := ["a"]) fun _ _ _ _ _ _ us hl => match us, hl with | [_], _ => rfl
  obtain ⟨fd9, F9⟩ := c.fun_ 9 (a := ("opposite", none)) (x := "opposite") (qual := "opposite") (st := s_opposite) (f := He.ga K "opposite")
  have b9 := F9.binds (ps := ["a"]) fun _ _ _ _ _ _ us hl => match us, hl with | [_], _ => rfl
  obtain ⟨fd10, F10⟩ := c.fun_ 10 (a := ("truth", none)) (x := "truth") (qual := "truth") (st := s_truth) (f := He.ga K "truth")
  have b10 := F10.binds (ps := ["a"]) fun _ _ _ _ _ _ us hl => match us, hl with | [_], _ => rfl
  obtain ⟨fd11, F11⟩ := c.fun_ 11 (a := ("leave", none)) (x := "leave") (qual := "leave") (st := s_leave) (f := He.ga K "leave")
  have b11 := F11.binds (ps := ["control", "what"]) fun _ _ _ _ _ _ us hl => match us, hl with | [_, _], _ => rfl
  obtain ⟨fd12, F12⟩ := c.fun_ 12 (a := ("passing", none)) (x := "passing") (qual := "passing") (st := s_passing) (f := He.ga K "passing")
  have b12 := F12.binds (ps := ["cuts", "after"]) fun _ _ _ _ _ _ us hl => match us, hl with | [_, _], _ => rfl
  obtain ⟨fd13, F13⟩ := c.fun_ 13 (a := ("thrown", none)) (x := "thrown") (qual := "thrown") (st := s_thrown) (f := He.ga K "thrown")
  have b13 := F13.binds (ps := ["local", "value"]) fun _ _ _ _ _ _ us hl => match us, hl with | [_, _], _ => rfl
  obtain ⟨fd14, F14⟩ := c.fun_ 14 (a := ("gone_on", none)) (x := "gone_on") (qual := "gone_on") (st := s_gone_on) (f := He.ga K "gone_on")
  have b14 := F14.binds (ps := ["local", "operands"]) fun _ _ _ _ _ _ us hl => match us, hl with | [_, _], _ => rfl
  obtain ⟨fd15, F15⟩ := c.fun_ 15 (a := ("gone_to", none)) (x := "gone_to") (qual := "gone_to") (st := s_gone_to) (f := He.ga K "gone_to")
  have b15 := F15.binds (ps := ["local", "address", "operands"]) fun _ _ _ _ _ _ us hl => match us, hl with | [_, _, _], _ => rfl
  obtain ⟨fd16, F16⟩ := c.fun_ 16 (a := ("controlled", none)) (x := "controlled") (qual := "controlled") (st := s_controlled) (f := He.ga K "controlled")
  have b16 := F16.binds (ps := ["local", "operands", "control"]) fun _ _ _ _ _ _ us hl => match us, hl with | [_, _, _], _ => rfl
  obtain ⟨fd17, F17⟩ := c.fun_ 17 (a := ("fault", none)) (x := "fault") (qual := "fault") (st := s_fault) (f := He.ga K "fault")
  have b17 := F17.binds (ps := ["local", "words"]) fun _ _ _ _ _ _ us hl => match us, hl with | [_, _], _ => rfl
  obtain ⟨fd18, F18⟩ := c.fun_ 18 (a := ("put", none)) (x := "put") (qual := "put") (st := s_put) (f := He.ga K "put")
  have b18 := F18.binds (ps := ["local", "value", "operands"]) fun _ _ _ _ _ _ us hl => match us, hl with | [_, _, _], _ => rfl
  obtain ⟨fd19, F19⟩ := c.fun_ 19 (a := ("put_answer", none)) (x := "put_answer") (qual := "put_answer") (st := s_put_answer) (f := He.ga K "put_answer")
  have b19 := F19.binds (ps := ["local", "answer", "operands"]) fun _ _ _ _ _ _ us hl => match us, hl with | [_, _, _], _ => rfl
  obtain ⟨fd20, F20⟩ := c.fun_ 20 (a := ("do_push", none)) (x := "do_push") (qual := "do_push") (st := s_do_push) (f := He.ga K "do_push")
  have b20 := F20.binds (ps := ["program", "local", "instruction"]) fun _ _ _ _ _ _ us hl => match us, hl with | [_, _, _], _ => rfl
  obtain ⟨fd21, F21⟩ := c.fun_ 21 (a := ("do_not", none)) (x := "do_not") (qual := "do_not") (st := s_do_not) (f := He.ga K "do_not")
  have b21 := F21.binds (ps := ["program", "local", "instruction"]) fun _ _ _ _ _ _ us hl => match us, hl with | [_, _, _], _ => rfl
  obtain ⟨fd22, F22⟩ := c.fun_ 22 (a := ("do_minus", none)) (x := "do_minus") (qual := "do_minus") (st := s_do_minus) (f := He.ga K "do_minus")
  have b22 := F22.binds (ps := ["program", "local", "instruction"]) fun _ _ _ _ _ _ us hl => match us, hl with | [_, _, _], _ => rfl
  obtain ⟨fd23, F23⟩ := c.fun_ 23 (a := ("do_both", none)) (x := "do_both") (qual := "do_both") (st := s_do_both) (f := He.ga K "do_both")
  have b23 := F23.binds (ps := ["program", "local", "instruction"]) fun _ _ _ _ _ _ us hl => match us, hl with | [_, _, _], _ => rfl
  obtain ⟨fd24, F24⟩ := c.fun_ 24 (a := ("do_jump", none)) (x := "do_jump") (qual := "do_jump") (st := s_do_jump) (f := He.ga K "do_jump")
  have b24 := F24.binds (ps := ["program", "local", "instruction"]) fun _ _ _ _ _ _ us hl => match us, hl with | [_, _, _], _ => rfl
  obtain ⟨fd25, F25⟩ := c.fun_ 25 (a := ("do_jump_not", none)) (x := "do_jump_not") (qual := "do_jump_not") (st := s_do_jump_not) (f := He.ga K "do_jump_not")
  have b25 := F25.binds (ps := ["program", "local", "instruction"]) fun _ _ _ _ _ _ us hl => match us, hl with | [_, _, _], _ => rfl
  obtain ⟨fd26, F26⟩ := c.fun_ 26 (a := ("do_and_jump", none)) (x := "do_and_jump") (qual := "do_and_jump") (st := s_do_and_jump) (f := He.ga K "do_and_jump")
  have b26 := F26.binds (ps := ["program", "local", "instruction"]) fun _ _ _ _ _ _ us hl => match us, hl with | [_, _, _], _ => rfl
  obtain ⟨fd27, F27⟩ := c.fun_ 27 (a := ("do_or_jump", none)) (x := "do_or_jump") (qual := "do_or_jump") (st := s_do_or_jump) (f := He.ga K "do_or_jump")
  have b27 := F27.binds (ps := ["program", "local", "instruction"]) fun _ _ _ _ _ _ us hl => match us, hl with | [_, _, _], _ => rfl
  obtain ⟨fd28, F28⟩ := c.fun_ 28 (a := ("jump_with", none)) (x := "jump_with") (qual := "jump_with") (st := s_jump_with) (f := He.ga K "jump_with")
  have b28 := F28.binds (ps := ["local", "deciding", "address"]) fun _ _ _ _ _ _ us hl => match us, hl with | [_, _, _], _ => rfl
  obtain ⟨fd29, F29⟩ := c.fun_ 29 (a := ("do_sized", none)) (x := "do_sized") (qual := "do_sized") (st := s_do_sized) (f := He.ga K "do_sized")
  have b29 := F29.binds (ps := ["program", "local", "instruction"]) fun _ _ _ _ _ _ us hl => match us, hl with | [_, _, _], _ => rfl
  obtain ⟨fd30, F30⟩ := c.fun_ 30 (a := ("do_check_size", none)) (x := "do_check_size") (qual := "do_check_size") (st := s_do_check_size) (f := He.ga K "do_check_size")
  have b30 := F30.binds (ps := ["program", "local", "instruction"]) fun _ _ _ _ _ _ us hl => match us, hl with | [_, _, _], _ => rfl
  obtain ⟨fd31, F31⟩ := c.fun_ 31 (a := ("do_drop", none)) (x := "do_drop") (qual := "do_drop") (st := s_do_drop) (f := He.ga K "do_drop")
  have b31 := F31.binds (ps := ["program", "local", "instruction"]) fun _ _ _ _ _ _ us hl => match us, hl with | [_, _, _], _ => rfl
  obtain ⟨fd32, F32⟩ := c.fun_ 32 (a := ("do_print", none)) (x := "do_print") (qual := "do_print") (st := s_do_print) (f := He.ga K "do_print")
  have b32 := F32.binds (ps := ["program", "local", "instruction"]) fun _ _ _ _ _ _ us hl => match us, hl with | [_, _, _], _ => rfl
  obtain ⟨fd33, F33⟩ := c.fun_ 33 (a := ("do_input", none)) (x := "do_input") (qual := "do_input") (st := s_do_input) (f := He.ga K "do_input")
  have b33 := F33.binds (ps := ["program", "local", "instruction"]) fun _ _ _ _ _ _ us hl => match us, hl with | [_, _, _], _ => rfl
  obtain ⟨fd34, F34⟩ := c.fun_ 34 (a := ("within", none)) (x := "within") (qual := "within") (st := s_within) (f := He.ga K "within")
  have b34 := F34.binds (ps := ["local", "operands", "entry"]) fun _ _ _ _ _ _ us hl => match us, hl with | [_, _, _], _ => rfl
  obtain ⟨fd35, F35⟩ := c.fun_ 35 (a := ("do_counter", none)) (x := "do_counter") (qual := "do_counter") (st := s_do_counter) (f := He.ga K "do_counter")
  have b35 := F35.binds (ps := ["program", "local", "instruction"]) fun _ _ _ _ _ _ us hl => match us, hl with | [_, _, _], _ => rfl
  obtain ⟨fd36, F36⟩ := c.fun_ 36 (a := ("counter_value", none)) (x := "counter_value") (qual := "counter_value") (st := s_counter_value) (f := He.ga K "counter_value")
  have b36 := F36.binds (ps := ["control", "number"]) fun _ _ _ _ _ _ us hl => match us, hl with | [_, _], _ => rfl
  obtain ⟨fd37, F37⟩ := c.fun_ 37 (a := ("do_call", none)) (x := "do_call") (qual := "do_call") (st := s_do_call) (f := He.ga K "do_call")
  have b37 := F37.binds (ps := ["program", "local", "instruction"]) fun _ _ _ _ _ _ us hl => match us, hl with | [_, _, _], _ => rfl
  obtain ⟨fd38, F38⟩ := c.fun_ 38 (a := ("do_return", none)) (x := "do_return") (qual := "do_return") (st := s_do_return) (f := He.ga K "do_return")
  have b38 := F38.binds (ps := ["program", "local", "instruction"]) fun _ _ _ _ _ _ us hl => match us, hl with | [_, _, _], _ => rfl
  obtain ⟨fd39, F39⟩ := c.fun_ 39 (a := ("do_break", none)) (x := "do_break") (qual := "do_break") (st := s_do_break) (f := He.ga K "do_break")
  have b39 := F39.binds (ps := ["program", "local", "instruction"]) fun _ _ _ _ _ _ us hl => match us, hl with | [_, _, _], _ => rfl
  obtain ⟨fd40, F40⟩ := c.fun_ 40 (a := ("do_throw", none)) (x := "do_throw") (qual := "do_throw") (st := s_do_throw) (f := He.ga K "do_throw")
  have b40 := F40.binds (ps := ["program", "local", "instruction"]) fun _ _ _ _ _ _ us hl => match us, hl with | [_, _, _], _ => rfl
  obtain ⟨fd41, F41⟩ := c.fun_ 41 (a := ("do_guard", none)) (x := "do_guard") (qual := "do_guard") (st := s_do_guard) (f := He.ga K "do_guard")
  have b41 := F41.binds (ps := ["program", "local", "instruction"]) fun _ _ _ _ _ _ us hl => match us, hl with | [_, _, _], _ => rfl
  obtain ⟨fd42, F42⟩ := c.fun_ 42 (a := ("do_loop", none)) (x := "do_loop") (qual := "do_loop") (st := s_do_loop) (f := He.ga K "do_loop")
  have b42 := F42.binds (ps := ["program", "local", "instruction"]) fun _ _ _ _ _ _ us hl => match us, hl with | [_, _, _], _ => rfl
  obtain ⟨fd43, F43⟩ := c.fun_ 43 (a := ("do_each", none)) (x := "do_each") (qual := "do_each") (st := s_do_each) (f := He.ga K "do_each")
  have b43 := F43.binds (ps := ["program", "local", "instruction"]) fun _ _ _ _ _ _ us hl => match us, hl with | [_, _, _], _ => rfl
  obtain ⟨fd44, F44⟩ := c.fun_ 44 (a := ("do_leave_entry", none)) (x := "do_leave_entry") (qual := "do_leave_entry") (st := s_do_leave_entry) (f := He.ga K "do_leave_entry")
  have b44 := F44.binds (ps := ["program", "local", "instruction"]) fun _ _ _ _ _ _ us hl => match us, hl with | [_, _, _], _ => rfl
  obtain ⟨fd45, F45⟩ := c.fun_ 45 (a := ("do_test", none)) (x := "do_test") (qual := "do_test") (st := s_do_test) (f := He.ga K "do_test")
  have b45 := F45.binds (ps := ["program", "local", "instruction"]) fun _ _ _ _ _ _ us hl => match us, hl with | [_, _, _], _ => rfl
  obtain ⟨fd46, F46⟩ := c.fun_ 46 (a := ("do_next", none)) (x := "do_next") (qual := "do_next") (st := s_do_next) (f := He.ga K "do_next")
  have b46 := F46.binds (ps := ["program", "local", "instruction"]) fun _ _ _ _ _ _ us hl => match us, hl with | [_, _, _], _ => rfl
  obtain ⟨fd47, F47⟩ := c.fun_ 47 (a := ("do_spawn", none)) (x := "do_spawn") (qual := "do_spawn") (st := s_do_spawn) (f := He.ga K "do_spawn")
  have b47 := F47.binds (ps := ["program", "local", "instruction"]) fun _ _ _ _ _ _ us hl => match us, hl with | [_, _, _], _ => rfl
  obtain ⟨fd48, F48⟩ := c.fun_ 48 (a := ("do_stop", none)) (x := "do_stop") (qual := "do_stop") (st := s_do_stop) (f := He.ga K "do_stop")
  have b48 := F48.binds (ps := ["program", "local", "instruction"]) fun _ _ _ _ _ _ us hl => match us, hl with | [_, _, _], _ => rfl
  obtain ⟨fd49, F49⟩ := c.fun_ 49 (a := ("place_in", none)) (x := "place_in") (qual := "place_in") (st := s_place_in) (f := He.ga K "place_in")
  have b49 := F49.binds (ps := ["thing", "cell"]) fun _ _ _ _ _ _ us hl => match us, hl with | [_, _], _ => rfl
  obtain ⟨fd50, F50⟩ := c.fun_ 50 (a := ("place_of", none)) (x := "place_of") (qual := "place_of") (st := s_place_of) (f := He.ga K "place_of")
  have b50 := F50.binds (ps := ["local", "variable"]) fun _ _ _ _ _ _ us hl => match us, hl with | [_, _], _ => rfl
  obtain ⟨fd51, F51⟩ := c.fun_ 51 (a := ("do_load", none)) (x := "do_load") (qual := "do_load") (st := s_do_load) (f := He.ga K "do_load")
  have b51 := F51.binds (ps := ["program", "local", "instruction"]) fun _ _ _ _ _ _ us hl => match us, hl with | [_, _, _], _ => rfl
  obtain ⟨fd52, F52⟩ := c.fun_ 52 (a := ("do_store", none)) (x := "do_store") (qual := "do_store") (st := s_do_store) (f := He.ga K "do_store")
  have b52 := F52.binds (ps := ["program", "local", "instruction"]) fun _ _ _ _ _ _ us hl => match us, hl with | [_, _, _], _ => rfl
  obtain ⟨fd53, F53⟩ := c.fun_ 53 (a := ("do_kind", none)) (x := "do_kind") (qual := "do_kind") (st := s_do_kind) (f := He.ga K "do_kind")
  have b53 := F53.binds (ps := ["program", "local", "instruction"]) fun _ _ _ _ _ _ us hl => match us, hl with | [_, _, _], _ => rfl
  obtain ⟨fd54, F54⟩ := c.fun_ 54 (a := ("read_cell", none)) (x := "read_cell") (qual := "read_cell") (st := s_read_cell) (f := He.ga K "read_cell")
  have b54 := F54.binds (ps := ["local", "thing", "answer", "operands"]) fun _ _ _ _ _ _ us hl => match us, hl with | [_, _, _, _], _ => rfl
  obtain ⟨fd55, F55⟩ := c.fun_ 55 (a := ("write_cell", none)) (x := "write_cell") (qual := "write_cell") (st := s_write_cell) (f := He.ga K "write_cell")
  have b55 := F55.binds (ps := ["local", "thing", "answer", "value", "operands"]) fun _ _ _ _ _ _ us hl => match us, hl with | [_, _, _, _, _], _ => rfl
  obtain ⟨fd56, F56⟩ := c.fun_ 56 (a := ("do_field", none)) (x := "do_field") (qual := "do_field") (st := s_do_field) (f := He.ga K "do_field")
  have b56 := F56.binds (ps := ["program", "local", "instruction"]) fun _ _ _ _ _ _ us hl => match us, hl with | [_, _, _], _ => rfl
  obtain ⟨fd57, F57⟩ := c.fun_ 57 (a := ("do_item", none)) (x := "do_item") (qual := "do_item") (st := s_do_item) (f := He.ga K "do_item")
  have b57 := F57.binds (ps := ["program", "local", "instruction"]) fun _ _ _ _ _ _ us hl => match us, hl with | [_, _, _], _ => rfl
  obtain ⟨fd58, F58⟩ := c.fun_ 58 (a := ("do_set_field", none)) (x := "do_set_field") (qual := "do_set_field") (st := s_do_set_field) (f := He.ga K "do_set_field")
  have b58 := F58.binds (ps := ["program", "local", "instruction"]) fun _ _ _ _ _ _ us hl => match us, hl with | [_, _, _], _ => rfl
  obtain ⟨fd59, F59⟩ := c.fun_ 59 (a := ("do_set_item", none)) (x := "do_set_item") (qual := "do_set_item") (st := s_do_set_item) (f := He.ga K "do_set_item")
  have b59 := F59.binds (ps := ["program", "local", "instruction"]) fun _ _ _ _ _ _ us hl => match us, hl with | [_, _, _], _ => rfl
  obtain ⟨fd60, F60⟩ := c.fun_ 60 (a := ("do_size", none)) (x := "do_size") (qual := "do_size") (st := s_do_size) (f := He.ga K "do_size")
  have b60 := F60.binds (ps := ["program", "local", "instruction"]) fun _ _ _ _ _ _ us hl => match us, hl with | [_, _, _], _ => rfl
  obtain ⟨fd61, F61⟩ := c.fun_ 61 (a := ("do_make", none)) (x := "do_make") (qual := "do_make") (st := s_do_make) (f := He.ga K "do_make")
  have b61 := F61.binds (ps := ["program", "local", "instruction"]) fun _ _ _ _ _ _ us hl => match us, hl with | [_, _, _], _ => rfl
  obtain ⟨fd62, F62⟩ := c.fun_ 62 (a := ("do_tag", none)) (x := "do_tag") (qual := "do_tag") (st := s_do_tag) (f := He.ga K "do_tag")
  have b62 := F62.binds (ps := ["program", "local", "instruction"]) fun _ _ _ _ _ _ us hl => match us, hl with | [_, _, _], _ => rfl
  obtain ⟨fd63, F63⟩ := c.fun_ 63 (a := ("do_tag_size", none)) (x := "do_tag_size") (qual := "do_tag_size") (st := s_do_tag_size) (f := He.ga K "do_tag_size")
  have b63 := F63.binds (ps := ["program", "local", "instruction"]) fun _ _ _ _ _ _ us hl => match us, hl with | [_, _, _], _ => rfl
  obtain ⟨fd64, F64⟩ := c.fun_ 64 (a := ("do_enter", none)) (x := "do_enter") (qual := "do_enter") (st := s_do_enter) (f := He.ga K "do_enter")
  have b64 := F64.binds (ps := ["program", "local", "instruction"]) fun _ _ _ _ _ _ us hl => match us, hl with | [_, _, _], _ => rfl
  obtain ⟨fd65, F65⟩ := c.fun_ 65 (a := ("action", none)) (x := "action") (qual := "action") (st := s_action) (f := He.ga K "action")
  have b65 := F65.binds (ps := ["program", "local"]) fun _ _ _ _ _ _ us hl => match us, hl with | [_, _], _ => rfl
  obtain ⟨fd66, F66⟩ := c.fun_ 66 (a := ("_law_cell", none)) (x := "_law_cell") (qual := "_law_cell") (st := s__law_cell) (f := He.ga K "_law_cell")
  have b66 := F66.binds (ps := ["script", "k"]) fun _ _ _ _ _ _ us hl => match us, hl with | [_, _], _ => rfl
  obtain ⟨fd67, F67⟩ := c.fun_ 67 (a := ("_law_digits", none)) (x := "_law_digits") (qual := "_law_digits") (st := s__law_digits) (f := He.ga K "_law_digits")
  have b67 := F67.binds (ps := ["script", "first", "last"]) fun _ _ _ _ _ _ us hl => match us, hl with | [_, _, _], _ => rfl
  obtain ⟨fd68, F68⟩ := c.fun_ 68 (a := ("_law_draw", none)) (x := "_law_draw") (qual := "_law_draw") (st := s__law_draw) (f := He.ga K "_law_draw")
  have b68 := F68.binds (ps := ["box", "many"]) fun _ _ _ _ _ _ us hl => match us, hl with | [_, _], _ => rfl
  obtain ⟨fd69, F69⟩ := c.fun_ 69 (a := ("_law_same", none)) (x := "_law_same") (qual := "_law_same") (st := s__law_same) (f := He.ga K "_law_same")
  have b69 := F69.binds (ps := ["actual", "expected"]) fun _ _ _ _ _ _ us hl => match us, hl with | [_, _], _ => rfl
  obtain ⟨fd70, F70⟩ := c.fun_ 70 (a := ("_law_number", none)) (x := "_law_number") (qual := "_law_number") (st := s__law_number) (f := He.ga K "_law_number")
  have b70 := F70.binds (ps := ["box"]) fun _ _ _ _ _ _ us hl => match us, hl with | [_], _ => rfl
  obtain ⟨fd71, F71⟩ := c.fun_ 71 (a := ("_law_text", none)) (x := "_law_text") (qual := "_law_text") (st := s__law_text) (f := He.ga K "_law_text")
  have b71 := F71.binds (ps := ["box", "most"]) fun _ _ _ _ _ _ us hl => match us, hl with | [_, _], _ => rfl
  obtain ⟨fd72, F72⟩ := c.fun_ 72 (a := ("_law_value", none)) (x := "_law_value") (qual := "_law_value") (st := s__law_value) (f := He.ga K "_law_value")
  have b72 := F72.binds (ps := ["box"]) fun _ _ _ _ _ _ us hl => match us, hl with | [_], _ => rfl
  obtain ⟨fd73, F73⟩ := c.fun_ 73 (a := ("_law_object", none)) (x := "_law_object") (qual := "_law_object") (st := s__law_object) (f := He.ga K "_law_object")
  have b73 := F73.binds (ps := ["box"]) fun _ _ _ _ _ _ us hl => match us, hl with | [_], _ => rfl
  obtain ⟨fd74, F74⟩ := c.fun_ 74 (a := ("_law_entry", none)) (x := "_law_entry") (qual := "_law_entry") (st := s__law_entry) (f := He.ga K "_law_entry")
  have b74 := F74.binds (ps := ["box"]) fun _ _ _ _ _ _ us hl => match us, hl with | [_], _ => rfl
  obtain ⟨fd75, F75⟩ := c.fun_ 75 (a := ("_law_control", none)) (x := "_law_control") (qual := "_law_control") (st := s__law_control) (f := He.ga K "_law_control")
  have b75 := F75.binds (ps := ["box"]) fun _ _ _ _ _ _ us hl => match us, hl with | [_], _ => rfl
  obtain ⟨fd76, F76⟩ := c.fun_ 76 (a := ("_law_local", none)) (x := "_law_local") (qual := "_law_local") (st := s__law_local) (f := He.ga K "_law_local")
  have b76 := F76.binds (ps := ["box", "address", "operands"]) fun _ _ _ _ _ _ us hl => match us, hl with | [_, _, _], _ => rfl
  obtain ⟨fd77, F77⟩ := c.fun_ 77 (a := ("_law_leave", none)) (x := "_law_leave") (qual := "_law_leave") (st := s__law_leave) (f := He.ga K "_law_leave")
  have b77 := F77.binds (ps := ["control", "kinds"]) fun _ _ _ _ _ _ us hl => match us, hl with | [_, _], _ => rfl
  obtain ⟨fd78, F78⟩ := c.fun_ 78 (a := ("_law_after", none)) (x := "_law_after") (qual := "_law_after") (st := s__law_after) (f := He.ga K "_law_after")
  have b78 := F78.binds (ps := ["cuts", "after"]) fun _ _ _ _ _ _ us hl => match us, hl with | [_, _], _ => rfl
  obtain ⟨fd79, F79⟩ := c.fun_ 79 (a := ("_law_thrown", none)) (x := "_law_thrown") (qual := "_law_thrown") (st := s__law_thrown) (f := He.ga K "_law_thrown")
  have b79 := F79.binds (ps := ["local", "value"]) fun _ _ _ _ _ _ us hl => match us, hl with | [_, _], _ => rfl
  obtain ⟨fd80, F80⟩ := c.fun_ 80 (a := ("_law_error", none)) (x := "_law_error") (qual := "_law_error") (st := s__law_error) (f := He.ga K "_law_error")
  have b80 := F80.binds (ps := ["local", "words"]) fun _ _ _ _ _ _ us hl => match us, hl with | [_, _], _ => rfl
  obtain ⟨fd81, F81⟩ := c.fun_ 81 (a := ("_law_program", none)) (x := "_law_program") (qual := "_law_program") (st := s__law_program) (f := He.ga K "_law_program")
  have b81 := F81.binds (ps := ["parts", "address", "records", "procedures"]) fun _ _ _ _ _ _ us hl => match us, hl with | [_, _, _, _], _ => rfl
  obtain ⟨fd82, F82⟩ := c.fun_ 82 (a := ("_law_goes", none)) (x := "_law_goes") (qual := "_law_goes") (st := s__law_goes) (f := He.ga K "_law_goes")
  have b82 := F82.binds (ps := ["local", "operands"]) fun _ _ _ _ _ _ us hl => match us, hl with | [_, _], _ => rfl
  obtain ⟨fd83, F83⟩ := c.fun_ 83 (a := ("_law_records", none)) (x := "_law_records") (qual := "_law_records") (st := s__law_records) (f := He.ga K "_law_records")
  have b83 := F83.binds (ps := ["box"]) fun _ _ _ _ _ _ us hl => match us, hl with | [_], _ => rfl
  obtain ⟨fd84, F84⟩ := c.fun_ 84 (a := ("_law_field", none)) (x := "_law_field") (qual := "_law_field") (st := s__law_field) (f := He.ga K "_law_field")
  have b84 := F84.binds (ps := ["records", "held", "name"]) fun _ _ _ _ _ _ us hl => match us, hl with | [_, _, _], _ => rfl
  obtain ⟨fd85, F85⟩ := c.fun_ 85 (a := ("_law_item", none)) (x := "_law_item") (qual := "_law_item") (st := s__law_item) (f := He.ga K "_law_item")
  have b85 := F85.binds (ps := ["held", "at"]) fun _ _ _ _ _ _ us hl => match us, hl with | [_, _], _ => rfl
  obtain ⟨fd86, F86⟩ := c.fun_ 86 (a := ("_law_cell_of", none)) (x := "_law_cell_of") (qual := "_law_cell_of") (st := s__law_cell_of) (f := He.ga K "_law_cell_of")
  have b86 := F86.binds (ps := ["thing", "number"]) fun _ _ _ _ _ _ us hl => match us, hl with | [_, _], _ => rfl
  obtain ⟨fd87, F87⟩ := c.fun_ 87 (a := ("_law_held", none)) (x := "_law_held") (qual := "_law_held") (st := s__law_held) (f := He.ga K "_law_held")
  have b87 := F87.binds (ps := ["box"]) fun _ _ _ _ _ _ us hl => match us, hl with | [_], _ => rfl
  obtain ⟨fd88, F88⟩ := c.fun_ 88 (a := ("_law_any", none)) (x := "_law_any") (qual := "_law_any") (st := s__law_any) (f := He.ga K "_law_any")
  have b88 := F88.binds (ps := ["box", "kind"]) fun _ _ _ _ _ _ us hl => match us, hl with | [_, _], _ => rfl
  obtain ⟨fd89, F89⟩ := c.fun_ 89 (a := ("_law_operands", none)) (x := "_law_operands") (qual := "_law_operands") (st := s__law_operands) (f := He.ga K "_law_operands")
  have b89 := F89.binds (ps := ["box", "kind"]) fun _ _ _ _ _ _ us hl => match us, hl with | [_, _], _ => rfl
  obtain ⟨fd90, F90⟩ := c.fun_ 90 (a := ("_law_reading", none)) (x := "_law_reading") (qual := "_law_reading") (st := s__law_reading) (f := He.ga K "_law_reading")
  have b90 := F90.binds (ps := ["local", "thing", "result", "operands"]) fun _ _ _ _ _ _ us hl => match us, hl with | [_, _, _, _], _ => rfl
  obtain ⟨fd91, F91⟩ := c.fun_ 91 (a := ("_law_writing", none)) (x := "_law_writing") (qual := "_law_writing") (st := s__law_writing) (f := He.ga K "_law_writing")
  have b91 := F91.binds (ps := ["local", "thing", "result", "value", "operands"]) fun _ _ _ _ _ _ us hl => match us, hl with | [_, _, _, _, _], _ => rfl
  obtain ⟨fd92, F92⟩ := c.fun_ 92 (a := ("_law_due_cells", none)) (x := "_law_due_cells") (qual := "_law_due_cells") (st := s__law_due_cells) (f := He.ga K "_law_due_cells")
  have b92 := F92.binds (ps := ["parts", "local", "records"]) fun _ _ _ _ _ _ us hl => match us, hl with | [_, _, _], _ => rfl
  obtain ⟨fd93, F93⟩ := c.fun_ 93 (a := ("_law_due", none)) (x := "_law_due") (qual := "_law_due") (st := s__law_due) (f := He.ga K "_law_due")
  have b93 := F93.binds (ps := ["parts", "local", "records"]) fun _ _ _ _ _ _ us hl => match us, hl with | [_, _, _], _ => rfl
  obtain ⟨fd94, F94⟩ := c.fun_ 94 (a := ("law", none)) (x := "law") (qual := "law") (st := s_law) (f := He.ga K "law")
  have b94 := F94.binds (ps := ["script"]) fun _ _ _ _ _ _ us hl => match us, hl with | [_], _ => rfl
  obtain ⟨fd95, F95⟩ := c.fun_ 95 (a := ("Program", some "__init__")) (x := "__init__") (qual := "Program.__init__") (st := s_Program___init__) (f := He.ma K (He.ga K "Program") "__init__")
  have b95 := F95.binds (ps := ["self", "code", "lines", "records", "variables", "procedures"]) fun _ _ _ _ _ _ us hl => match us, hl with | [_, _, _, _, _, _], _ => rfl
  obtain ⟨es_0, n_0, kd_0, g_0⟩ := c.tab 0
  obtain ⟨es_1, n_1, kd_1, g_1⟩ := c.tab 1
  obtain ⟨es_2, n_2, kd_2, g_2⟩ := c.tab 2
  obtain ⟨es_3, n_3, kd_3, g_3⟩ := c.tab 3
  obtain ⟨u_INTEGER, hu_INTEGER, q_INTEGER⟩ := con_ok X G (c.fx 0 (f := .con "INTEGER" k_INTEGER))
  obtain ⟨u_ITEMS, hu_ITEMS, q_ITEMS⟩ := con_ok X G (c.fx 1 (f := .con "ITEMS" k_ITEMS))
  obtain ⟨u_KIND_cells, hu_KIND_cells, q_KIND_cells⟩ := con_ok X G (c.fx 2 (f := .con "KIND_cells" k_KIND_cells))
  obtain ⟨u_KIND_operators, hu_KIND_operators, q_KIND_operators⟩ := con_ok X G (c.fx 3 (f := .con "KIND_operators" k_KIND_operators))
  obtain ⟨u_NONE, hu_NONE, q_NONE⟩ := con_ok X G (c.fx 4 (f := .con "NONE" k_NONE))
  obtain ⟨u_RUN_CHARACTERS, hu_RUN_CHARACTERS, q_RUN_CHARACTERS⟩ := con_ok X G (c.fx 5 (f := .con "RUN_CHARACTERS" k_RUN_CHARACTERS))
  obtain ⟨_, _, _, _, _, _, _, _, _, rfl, _, _⟩ := F94.ex
  let T : Tx K mg w := { C_Program := He.ga K "Program", cl_Program := He.cls_ok (c.fact 105 (f := .cls "Program")), mg_Program := He.glo_ok X G (c.fact 104 (f := .glo "Program")), na_Program_code := He.noat_ok (c.fact 106 (f := .noat "Program" "code")), na_Program_lines := He.noat_ok (c.fact 107 (f := .noat "Program" "lines")), na_Program_records := He.noat_ok (c.fact 108 (f := .noat "Program" "records")), na_Program_variables := He.noat_ok (c.fact 109 (f := .noat "Program" "variables")), na_Program_procedures := He.noat_ok (c.fact 110 (f := .noat "Program" "procedures")), d_field_cell := ⟨_, _, F0, b0, He.glo_ok X G (c.fact 0 (f := .glo "field_cell"))⟩, d_item_cell := ⟨_, _, F1, b1, He.glo_ok X G (c.fact 1 (f := .glo "item_cell"))⟩, d_array_size := ⟨_, _, F2, b2, He.glo_ok X G (c.fact 2 (f := .glo "array_size"))⟩, d_both := ⟨_, _, F3, b3, He.glo_ok X G (c.fact 3 (f := .glo "both"))⟩, d_together := ⟨_, _, F4, b4, He.glo_ok X G (c.fact 4 (f := .glo "together"))⟩, d_divided := ⟨_, _, F5, b5, He.glo_ok X G (c.fact 5 (f := .glo "divided"))⟩, d_computed := ⟨_, _, F6, b6, He.glo_ok X G (c.fact 6 (f := .glo "computed"))⟩, d_bounded := ⟨_, _, F7, b7, He.glo_ok X G (c.fact 7 (f := .glo "bounded"))⟩, d_negative := ⟨_, _, F8, b8, He.glo_ok X G (c.fact 8 (f := .glo "negative"))⟩, d_opposite := ⟨_, _, F9, b9, He.glo_ok X G (c.fact 9 (f := .glo "opposite"))⟩, d_truth := ⟨_, _, F10, b10, He.glo_ok X G (c.fact 10 (f := .glo "truth"))⟩, d_leave := ⟨_, _, F11, b11, He.glo_ok X G (c.fact 11 (f := .glo "leave"))⟩, d_passing := ⟨_, _, F12, b12, He.glo_ok X G (c.fact 12 (f := .glo "passing"))⟩, d_thrown := ⟨_, _, F13, b13, He.glo_ok X G (c.fact 13 (f := .glo "thrown"))⟩, d_gone_on := ⟨_, _, F14, b14, He.glo_ok X G (c.fact 14 (f := .glo "gone_on"))⟩, d_gone_to := ⟨_, _, F15, b15, He.glo_ok X G (c.fact 15 (f := .glo "gone_to"))⟩, d_controlled := ⟨_, _, F16, b16, He.glo_ok X G (c.fact 16 (f := .glo "controlled"))⟩, d_fault := ⟨_, _, F17, b17, He.glo_ok X G (c.fact 17 (f := .glo "fault"))⟩, d_put := ⟨_, _, F18, b18, He.glo_ok X G (c.fact 18 (f := .glo "put"))⟩, d_put_answer := ⟨_, _, F19, b19, He.glo_ok X G (c.fact 19 (f := .glo "put_answer"))⟩, d_do_push := ⟨_, _, F20, b20, He.glo_ok X G (c.fact 20 (f := .glo "do_push"))⟩, d_do_not := ⟨_, _, F21, b21, He.glo_ok X G (c.fact 21 (f := .glo "do_not"))⟩, d_do_minus := ⟨_, _, F22, b22, He.glo_ok X G (c.fact 22 (f := .glo "do_minus"))⟩, d_do_both := ⟨_, _, F23, b23, He.glo_ok X G (c.fact 23 (f := .glo "do_both"))⟩, d_do_jump := ⟨_, _, F24, b24, He.glo_ok X G (c.fact 24 (f := .glo "do_jump"))⟩, d_do_jump_not := ⟨_, _, F25, b25, He.glo_ok X G (c.fact 25 (f := .glo "do_jump_not"))⟩, d_do_and_jump := ⟨_, _, F26, b26, He.glo_ok X G (c.fact 26 (f := .glo "do_and_jump"))⟩, d_do_or_jump := ⟨_, _, F27, b27, He.glo_ok X G (c.fact 27 (f := .glo "do_or_jump"))⟩, d_jump_with := ⟨_, _, F28, b28, He.glo_ok X G (c.fact 28 (f := .glo "jump_with"))⟩, d_do_sized := ⟨_, _, F29, b29, He.glo_ok X G (c.fact 29 (f := .glo "do_sized"))⟩, d_do_check_size := ⟨_, _, F30, b30, He.glo_ok X G (c.fact 30 (f := .glo "do_check_size"))⟩, d_do_drop := ⟨_, _, F31, b31, He.glo_ok X G (c.fact 31 (f := .glo "do_drop"))⟩, d_do_print := ⟨_, _, F32, b32, He.glo_ok X G (c.fact 32 (f := .glo "do_print"))⟩, d_do_input := ⟨_, _, F33, b33, He.glo_ok X G (c.fact 33 (f := .glo "do_input"))⟩, d_within := ⟨_, _, F34, b34, He.glo_ok X G (c.fact 34 (f := .glo "within"))⟩, d_do_counter := ⟨_, _, F35, b35, He.glo_ok X G (c.fact 35 (f := .glo "do_counter"))⟩, d_counter_value := ⟨_, _, F36, b36, He.glo_ok X G (c.fact 36 (f := .glo "counter_value"))⟩, d_do_call := ⟨_, _, F37, b37, He.glo_ok X G (c.fact 37 (f := .glo "do_call"))⟩, d_do_return := ⟨_, _, F38, b38, He.glo_ok X G (c.fact 38 (f := .glo "do_return"))⟩, d_do_break := ⟨_, _, F39, b39, He.glo_ok X G (c.fact 39 (f := .glo "do_break"))⟩, d_do_throw := ⟨_, _, F40, b40, He.glo_ok X G (c.fact 40 (f := .glo "do_throw"))⟩, d_do_guard := ⟨_, _, F41, b41, He.glo_ok X G (c.fact 41 (f := .glo "do_guard"))⟩, d_do_loop := ⟨_, _, F42, b42, He.glo_ok X G (c.fact 42 (f := .glo "do_loop"))⟩, d_do_each := ⟨_, _, F43, b43, He.glo_ok X G (c.fact 43 (f := .glo "do_each"))⟩, d_do_leave_entry := ⟨_, _, F44, b44, He.glo_ok X G (c.fact 44 (f := .glo "do_leave_entry"))⟩, d_do_test := ⟨_, _, F45, b45, He.glo_ok X G (c.fact 45 (f := .glo "do_test"))⟩, d_do_next := ⟨_, _, F46, b46, He.glo_ok X G (c.fact 46 (f := .glo "do_next"))⟩, d_do_spawn := ⟨_, _, F47, b47, He.glo_ok X G (c.fact 47 (f := .glo "do_spawn"))⟩, d_do_stop := ⟨_, _, F48, b48, He.glo_ok X G (c.fact 48 (f := .glo "do_stop"))⟩, d_place_in := ⟨_, _, F49, b49, He.glo_ok X G (c.fact 49 (f := .glo "place_in"))⟩, d_place_of := ⟨_, _, F50, b50, He.glo_ok X G (c.fact 50 (f := .glo "place_of"))⟩, d_do_load := ⟨_, _, F51, b51, He.glo_ok X G (c.fact 51 (f := .glo "do_load"))⟩, d_do_store := ⟨_, _, F52, b52, He.glo_ok X G (c.fact 52 (f := .glo "do_store"))⟩, d_do_kind := ⟨_, _, F53, b53, He.glo_ok X G (c.fact 53 (f := .glo "do_kind"))⟩, d_read_cell := ⟨_, _, F54, b54, He.glo_ok X G (c.fact 54 (f := .glo "read_cell"))⟩, d_write_cell := ⟨_, _, F55, b55, He.glo_ok X G (c.fact 55 (f := .glo "write_cell"))⟩, d_do_field := ⟨_, _, F56, b56, He.glo_ok X G (c.fact 56 (f := .glo "do_field"))⟩, d_do_item := ⟨_, _, F57, b57, He.glo_ok X G (c.fact 57 (f := .glo "do_item"))⟩, d_do_set_field := ⟨_, _, F58, b58, He.glo_ok X G (c.fact 58 (f := .glo "do_set_field"))⟩, d_do_set_item := ⟨_, _, F59, b59, He.glo_ok X G (c.fact 59 (f := .glo "do_set_item"))⟩, d_do_size := ⟨_, _, F60, b60, He.glo_ok X G (c.fact 60 (f := .glo "do_size"))⟩, d_do_make := ⟨_, _, F61, b61, He.glo_ok X G (c.fact 61 (f := .glo "do_make"))⟩, d_do_tag := ⟨_, _, F62, b62, He.glo_ok X G (c.fact 62 (f := .glo "do_tag"))⟩, d_do_tag_size := ⟨_, _, F63, b63, He.glo_ok X G (c.fact 63 (f := .glo "do_tag_size"))⟩, d_do_enter := ⟨_, _, F64, b64, He.glo_ok X G (c.fact 64 (f := .glo "do_enter"))⟩, d_action := ⟨_, _, F65, b65, He.glo_ok X G (c.fact 65 (f := .glo "action"))⟩, d__law_cell := ⟨_, _, F66, b66, He.glo_ok X G (c.fact 66 (f := .glo "_law_cell"))⟩, d__law_digits := ⟨_, _, F67, b67, He.glo_ok X G (c.fact 67 (f := .glo "_law_digits"))⟩, d__law_draw := ⟨_, _, F68, b68, He.glo_ok X G (c.fact 68 (f := .glo "_law_draw"))⟩, d__law_same := ⟨_, _, F69, b69, He.glo_ok X G (c.fact 69 (f := .glo "_law_same"))⟩, d__law_number := ⟨_, _, F70, b70, He.glo_ok X G (c.fact 70 (f := .glo "_law_number"))⟩, d__law_text := ⟨_, _, F71, b71, He.glo_ok X G (c.fact 71 (f := .glo "_law_text"))⟩, d__law_value := ⟨_, _, F72, b72, He.glo_ok X G (c.fact 72 (f := .glo "_law_value"))⟩, d__law_object := ⟨_, _, F73, b73, He.glo_ok X G (c.fact 73 (f := .glo "_law_object"))⟩, d__law_entry := ⟨_, _, F74, b74, He.glo_ok X G (c.fact 74 (f := .glo "_law_entry"))⟩, d__law_control := ⟨_, _, F75, b75, He.glo_ok X G (c.fact 75 (f := .glo "_law_control"))⟩, d__law_local := ⟨_, _, F76, b76, He.glo_ok X G (c.fact 76 (f := .glo "_law_local"))⟩, d__law_leave := ⟨_, _, F77, b77, He.glo_ok X G (c.fact 77 (f := .glo "_law_leave"))⟩, d__law_after := ⟨_, _, F78, b78, He.glo_ok X G (c.fact 78 (f := .glo "_law_after"))⟩, d__law_thrown := ⟨_, _, F79, b79, He.glo_ok X G (c.fact 79 (f := .glo "_law_thrown"))⟩, d__law_error := ⟨_, _, F80, b80, He.glo_ok X G (c.fact 80 (f := .glo "_law_error"))⟩, d__law_program := ⟨_, _, F81, b81, He.glo_ok X G (c.fact 81 (f := .glo "_law_program"))⟩, d__law_goes := ⟨_, _, F82, b82, He.glo_ok X G (c.fact 82 (f := .glo "_law_goes"))⟩, d__law_records := ⟨_, _, F83, b83, He.glo_ok X G (c.fact 83 (f := .glo "_law_records"))⟩, d__law_field := ⟨_, _, F84, b84, He.glo_ok X G (c.fact 84 (f := .glo "_law_field"))⟩, d__law_item := ⟨_, _, F85, b85, He.glo_ok X G (c.fact 85 (f := .glo "_law_item"))⟩, d__law_cell_of := ⟨_, _, F86, b86, He.glo_ok X G (c.fact 86 (f := .glo "_law_cell_of"))⟩, d__law_held := ⟨_, _, F87, b87, He.glo_ok X G (c.fact 87 (f := .glo "_law_held"))⟩, d__law_any := ⟨_, _, F88, b88, He.glo_ok X G (c.fact 88 (f := .glo "_law_any"))⟩, d__law_operands := ⟨_, _, F89, b89, He.glo_ok X G (c.fact 89 (f := .glo "_law_operands"))⟩, d__law_reading := ⟨_, _, F90, b90, He.glo_ok X G (c.fact 90 (f := .glo "_law_reading"))⟩, d__law_writing := ⟨_, _, F91, b91, He.glo_ok X G (c.fact 91 (f := .glo "_law_writing"))⟩, d__law_due_cells := ⟨_, _, F92, b92, He.glo_ok X G (c.fact 92 (f := .glo "_law_due_cells"))⟩, d__law_due := ⟨_, _, F93, b93, He.glo_ok X G (c.fact 93 (f := .glo "_law_due"))⟩, d_law := ⟨_, _, F94, b94, He.glo_ok X G (c.fact 94 (f := .glo "law"))⟩, d_Program___init__ := ⟨_, fd95, F95, b95⟩, mk_Program := He.mkr_ok (c.fact 111 (f := .mkr "Program")), z_len := He.free_ok X G (c.fact 95 (f := .free "len")), z_isinstance := He.free_ok X G (c.fact 96 (f := .free "isinstance")), z_tuple := He.free_ok X G (c.fact 97 (f := .free "tuple")), z_int := He.free_ok X G (c.fact 98 (f := .free "int")), z_bool := He.free_ok X G (c.fact 99 (f := .free "bool")), z_str := He.free_ok X G (c.fact 100 (f := .free "str")), z_range := He.free_ok X G (c.fact 101 (f := .free "range")), z_abs := He.free_ok X G (c.fact 102 (f := .free "abs")), z_enumerate := He.free_ok X G (c.fact 103 (f := .free "enumerate")), u_INTEGER := u_INTEGER, c_INTEGER := hu_INTEGER, q_INTEGER := q_INTEGER, u_ITEMS := u_ITEMS, c_ITEMS := hu_ITEMS, q_ITEMS := q_ITEMS, u_KIND_cells := u_KIND_cells, c_KIND_cells := hu_KIND_cells, q_KIND_cells := q_KIND_cells, u_KIND_operators := u_KIND_operators, c_KIND_operators := hu_KIND_operators, q_KIND_operators := q_KIND_operators, u_NONE := u_NONE, c_NONE := hu_NONE, q_NONE := q_NONE, u_RUN_CHARACTERS := u_RUN_CHARACTERS, c_RUN_CHARACTERS := hu_RUN_CHARACTERS, q_RUN_CHARACTERS := q_RUN_CHARACTERS, a_COMPUTING := He.ga K "COMPUTING", c_COMPUTING := He.glo_ok X G (c.fact 112 (f := .glo "COMPUTING")), es_COMPUTING := es_0, n_COMPUTING := n_0, kd_COMPUTING := kd_0, g_COMPUTING := g_0, e_COMPUTING_0 := ent_ok (c.fx 6 (f := .ent "COMPUTING" "push" "do_push")), e_COMPUTING_1 := ent_ok (c.fx 7 (f := .ent "COMPUTING" "not" "do_not")), e_COMPUTING_2 := ent_ok (c.fx 8 (f := .ent "COMPUTING" "minus" "do_minus")), e_COMPUTING_3 := ent_ok (c.fx 9 (f := .ent "COMPUTING" "both" "do_both")), e_COMPUTING_4 := ent_ok (c.fx 10 (f := .ent "COMPUTING" "jump" "do_jump")), e_COMPUTING_5 := ent_ok (c.fx 11 (f := .ent "COMPUTING" "jump_not" "do_jump_not")), e_COMPUTING_6 := ent_ok (c.fx 12 (f := .ent "COMPUTING" "and_jump" "do_and_jump")), e_COMPUTING_7 := ent_ok (c.fx 13 (f := .ent "COMPUTING" "or_jump" "do_or_jump")), e_COMPUTING_8 := ent_ok (c.fx 14 (f := .ent "COMPUTING" "sized" "do_sized")), e_COMPUTING_9 := ent_ok (c.fx 15 (f := .ent "COMPUTING" "check_size" "do_check_size")), e_COMPUTING_10 := ent_ok (c.fx 16 (f := .ent "COMPUTING" "drop" "do_drop")), e_COMPUTING_11 := ent_ok (c.fx 17 (f := .ent "COMPUTING" "print" "do_print")), e_COMPUTING_12 := ent_ok (c.fx 18 (f := .ent "COMPUTING" "input" "do_input")), a_REACHING := He.ga K "REACHING", c_REACHING := He.glo_ok X G (c.fact 113 (f := .glo "REACHING")), es_REACHING := es_1, n_REACHING := n_1, kd_REACHING := kd_1, g_REACHING := g_1, e_REACHING_0 := ent_ok (c.fx 19 (f := .ent "REACHING" "load" "do_load")), e_REACHING_1 := ent_ok (c.fx 20 (f := .ent "REACHING" "store" "do_store")), e_REACHING_2 := ent_ok (c.fx 21 (f := .ent "REACHING" "kind" "do_kind")), e_REACHING_3 := ent_ok (c.fx 22 (f := .ent "REACHING" "field" "do_field")), e_REACHING_4 := ent_ok (c.fx 23 (f := .ent "REACHING" "item" "do_item")), e_REACHING_5 := ent_ok (c.fx 24 (f := .ent "REACHING" "set_field" "do_set_field")), e_REACHING_6 := ent_ok (c.fx 25 (f := .ent "REACHING" "set_item" "do_set_item")), e_REACHING_7 := ent_ok (c.fx 26 (f := .ent "REACHING" "size" "do_size")), e_REACHING_8 := ent_ok (c.fx 27 (f := .ent "REACHING" "make" "do_make")), e_REACHING_9 := ent_ok (c.fx 28 (f := .ent "REACHING" "tag" "do_tag")), e_REACHING_10 := ent_ok (c.fx 29 (f := .ent "REACHING" "tag_size" "do_tag_size")), e_REACHING_11 := ent_ok (c.fx 30 (f := .ent "REACHING" "enter" "do_enter")), a_CONTROLLING := He.ga K "CONTROLLING", c_CONTROLLING := He.glo_ok X G (c.fact 114 (f := .glo "CONTROLLING")), es_CONTROLLING := es_2, n_CONTROLLING := n_2, kd_CONTROLLING := kd_2, g_CONTROLLING := g_2, e_CONTROLLING_0 := ent_ok (c.fx 31 (f := .ent "CONTROLLING" "counter" "do_counter")), e_CONTROLLING_1 := ent_ok (c.fx 32 (f := .ent "CONTROLLING" "call" "do_call")), e_CONTROLLING_2 := ent_ok (c.fx 33 (f := .ent "CONTROLLING" "return" "do_return")), e_CONTROLLING_3 := ent_ok (c.fx 34 (f := .ent "CONTROLLING" "break" "do_break")), e_CONTROLLING_4 := ent_ok (c.fx 35 (f := .ent "CONTROLLING" "throw" "do_throw")), e_CONTROLLING_5 := ent_ok (c.fx 36 (f := .ent "CONTROLLING" "guard" "do_guard")), e_CONTROLLING_6 := ent_ok (c.fx 37 (f := .ent "CONTROLLING" "unguard" "do_leave_entry")), e_CONTROLLING_7 := ent_ok (c.fx 38 (f := .ent "CONTROLLING" "loop" "do_loop")), e_CONTROLLING_8 := ent_ok (c.fx 39 (f := .ent "CONTROLLING" "end_loop" "do_leave_entry")), e_CONTROLLING_9 := ent_ok (c.fx 40 (f := .ent "CONTROLLING" "each" "do_each")), e_CONTROLLING_10 := ent_ok (c.fx 41 (f := .ent "CONTROLLING" "test" "do_test")), e_CONTROLLING_11 := ent_ok (c.fx 42 (f := .ent "CONTROLLING" "next" "do_next")), e_CONTROLLING_12 := ent_ok (c.fx 43 (f := .ent "CONTROLLING" "spawn" "do_spawn")), e_CONTROLLING_13 := ent_ok (c.fx 44 (f := .ent "CONTROLLING" "finish" "do_stop")), e_CONTROLLING_14 := ent_ok (c.fx 45 (f := .ent "CONTROLLING" "halt" "do_stop")), a_FITTING := He.ga K "FITTING", c_FITTING := He.glo_ok X G (c.fact 115 (f := .glo "FITTING")), es_FITTING := es_3, n_FITTING := n_3, kd_FITTING := kd_3, g_FITTING := g_3, e_FITTING_0 := dat_ok (c.fx 46 (f := .dat "FITTING" "call" (.tuple [.str "call"]))), e_FITTING_1 := dat_ok (c.fx 47 (f := .dat "FITTING" "loop" (.tuple [.str "loop", .str "count"]))), e_FITTING_2 := dat_ok (c.fx 48 (f := .dat "FITTING" "guard" (.tuple [.str "guard"]))) }
  exact ⟨_, fun s v => .of_eq rfl, fun base _ _ => law_ok (ok_law T)⟩
end My
open PySem PySem.W PySem.Calls PyProof.Rows
set_option maxRecDepth 100000 in
set_option maxHeartbeats 0 in
theorem PySem.Challenge.cw_foretask_k26_instructions_of_objects_holds : PySem.Challenge.rw_foretask_k26_instructions_of_objects.Holds := by
  w_on; o_law
  refine HandSHeadRun.head_any (r := OpenLaw.row PySem.Challenge.rw_foretask_k26_instructions_of_objects) (q := view (OpenLaw.row PySem.Challenge.rw_foretask_k26_instructions_of_objects).prog [117]) (H := My.hk) (ob := My.hob) (M := 40000) (loose := My.hloose) (d := HandSHeadRun.topDef (OpenLaw.row PySem.Challenge.rw_foretask_k26_instructions_of_objects).prog 117) (kwd := []) My.hob_eq
    (by kernel_rfl) (fun s => by kernel_rfl) My.run (by kernel_rfl) (by kernel_rfl) (by kernel_rfl) (by rfl) (by first | assumption | decide +kernel) (by decide +kernel) ⟨rfl, rfl, rfl, rfl, rfl, by decide +kernel⟩ ?hw ?hc
  case hw => w_witness2
  case hc =>
    refine My.walk_ofEB (l := PySem.Challenge.rw_foretask_k26_instructions_of_objects) (n := 63) (k := 13) (x := "script") (CX := L2.CX0) rfl (by decide) (by kernel_rfl) ⟨rfl, by decide, by decide⟩ ?F (fun _ _ _ _ z => z)
    intro w mg fa h Y G hmg0
    obtain ⟨K, KX, c⟩ := Y
    have hmg : mg ("law" : PySem.Str) = some (.ref fa) := by
      have e : (HandSHeadRun.topDef (OpenLaw.row PySem.Challenge.rw_foretask_k26_instructions_of_objects).prog 117).name = ("law" : PySem.Str) := by kernel_rfl
      rw [← e]
      exact hmg0
    obtain ⟨fd, hb, hF⟩ := My.all_mk (P := (PySem.Challenge.rw_foretask_k26_instructions_of_objects).prog) (w := w) KX G hmg c
    exact ⟨K, fd, My.spLaw K, KX, hb, fun H a ns hl hbits hO hS => ⟨a, ns, rfl, My.scr_of hO hS, hl, hbits, fun _ => rfl⟩, hF⟩
