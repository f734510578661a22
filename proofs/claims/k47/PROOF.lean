import PyProof.Rows.All
import Wide.All
import OpenK.AllK
import Wide.FinOn
import HandS.ForMost
import HandS.IsInst
import HandS.Wide
import HandS.EndBits
import HandS.TupAny
import HandS.TupMul
import HandS.Strs
import HandS.Codes
import HandS.More
import HandS.StrMore
import HandS.Comp
import KE.GoesMore
import HandS.CallLocal
import HandS.HeadHook3
import HandS.Head2
import HandS.TupLe
import KE.KDictKeyed
import HandS.TupLen
import HandS.DictTup
import HandS.Deep
import PySem.Challenge.RW_foretask_k47_publishing_writes
set_option Elab.async false
set_option linter.all false
set_option maxRecDepth 100000
set_option maxHeartbeats 4000000
namespace My
open PySem L2 PySem.Spec PyProof.Rows
/-! ### the head by facts: what is looked at -/
mutual
def klitB (K : PySem.W.Frag) : PyData → Value → Bool
  | .none, u => (match u with
    | .none => true
    | _ => false)
  | .bool b, u => (match u with
    | .bool c => b == c
    | _ => false)
  | .int i, u => (match u with
    | .int j _ => decide (j = i)
    | _ => false)
  | .str s, u => (match u with
    | .str t _ => decide (t = s)
    | _ => false)
  | .tuple ds, u => (match u with
    | .ref a => (match K.lookup a with
      | some ⟨.type c, none, .seq its _, _⟩ => decide (c = "tuple") && (decide (its.toList.length ≤ 1000) && klitsB K ds its.toList)
      | _ => false)
    | _ => false)
  | .list _, _ => false
  | .dict _, _ => false
def klitsB (K : PySem.W.Frag) : List PyData → List Value → Bool
  | [], us => us.isEmpty
  | d :: ds, us => (match us with
    | u :: us => klitB K d u && klitsB K ds us
    | [] => false)
end
/-- facts besides: a constant, an entry of a table (a def, data), two classes that are not one -/
inductive Fx where
  | con (x : Str) (d : PyData)
  | ent (t z f : Str)
  | dat (t z : Str) (d : PyData)
  | ne (a b : Str)
  | sys (t : Str)
open Classical in
def Fx.ok (K : PySem.W.Frag) : Fx → Bool
  | .con x d => (match PySem.W.nsIn K mainGlobals x with
    | some (some u) => klitB K d u
    | _ => false)
  | .ent t z f => He.eqO (PySem.W.nsIn K (He.ga K t) z) (some (some (.ref (He.ga K f))))
  | .dat t z d => (match PySem.W.nsIn K (He.ga K t) z with
    | some (some u) => klitB K d u
    | _ => false)
  | .ne a b => !(He.ga K a == He.ga K b)
  | .sys t => !(He.ga K t == sysModules)
/-- what the module's names reach in n steps, from step to step -/
def nexts (g : Addr → Option Obj) (as : List Addr) : List Addr := as.flatMap fun a => match g a with
  | some o => He.refsD o
  | none => []
def asF (g : Addr → Option Obj) : Nat → List Addr → List Addr
  | 0, fr => fr
  | n + 1, fr => fr ++ asF g n (nexts g fr)
abbrev AlM : Type := (He.Al × List (Option (List (Option (Str × Int))))) × Bool
def obsM (fa : List He.Fa) (fn : List He.FnD) (ts : List He.Tab) (ex : List Fx) (K : PySem.W.Frag) : AlM := ((He.obsE fa fn K, ts.map fun t => He.dicW K (t.1 K)), (ex.all fun f => f.ok K) && fn.all fun d => PySem.W.keepIn K (.ref (He.fAd K d.at_)))
def valM (fn : List He.FnD) (ts : List He.Tab) (w : World) : AlM := ((He.valE fn, ts.map fun t => some (He.keysIn w.params t.2)), true)
def obsMG (n : Nat) (fa : List He.Fa) (fn : List He.FnD) (ts : List He.Tab) (ex : List Fx) (g : Addr → Option Obj) : AlM := obsM fa fn ts ex (He.frG g (asF g n [mainGlobals]))
def SaysM (fa : List He.Fa) (fn : List He.FnD) (ts : List He.Tab) (ex : List Fx) (w : World) (K : PySem.W.Frag) : Prop := obsM fa fn ts ex K = valM fn ts w
def hookM (n : Nat) (fa : List He.Fa) (fn : List He.FnD) (ts : List He.Tab) (ex : List Fx) : PySem.W.Hook where
  α := AlM
  obs := fun s => obsMG n fa fn ts ex s.heap.get?
  val := fun w => valM fn ts w
  says := fun w h => ∃ K : PySem.W.Frag, K.In h ∧ SaysM fa fn ts ex w K
  of := fun _ _ e => ⟨_, He.frG_in, e⟩
  keeps := fun _ _ _ ⟨K, hK, c⟩ k => ⟨K, PySem.W.Frag.In.keeps hK k, c⟩
theorem obsMG_eq {n : Nat} {fa : List He.Fa} {fn : List He.FnD} {ts : List He.Tab} {ex : List Fx} {g : Addr → Option Obj} {s : Shared} (h : ∀ a, g a = s.heap.get? a) : obsMG n fa fn ts ex g = (hookM n fa fn ts ex).obs s := by
  have e : g = s.heap.get? := funext h
  rw [e] <;> rfl
/-! ### tuples whose object is known -/
section
open PySem.Spec PyProof.Rows
variable {X : Cx}
def TupO (o : Obj) : Prop := o.cls = .type "tuple" ∧ o.dict = none
def tTupF (t : TA) : TE := fun σ H Q => t σ H fun xs H' => xs.length ≤ sizeLine ∧ ∀ (p : Addr) (o : Obj), H' p = none → TupO o → Q (.ref p) (upd H' p (.frz o (.tup xs)))
theorem pe_tupF {es : List Expr} {t : TA} {pos : Pos} {x1 : Nat} (h : PA X es t) : PE X (.Tuple es x1 pos) (tTupF t) := by
  constructor
  intro pins s σ H Q I hq
  apply wpAny_Tuple_spliced
  refine thn (h.run pos pins s σ H _ I hq) ?_
  rintro us s1 ⟨xs, H', I', r, z, q⟩
  have fr := I'.hok.fresh (Nat.le_refl s1.heap.objs.size)
  have get := Heap.get?_push_size s1.heap (o := { cls := .type "tuple", data := .seq us.toArray }) rfl
  refine ⟨by rw [← r.length]; exact z, .ref s1.heap.objs.size, _, I'.laid (o := .frz { cls := .type "tuple", data := .seq us.toArray } (.tup xs)) (t' := s1.toks) (fun _ _ e => Heap.get?_push_of_some _ e) (Nat.le_refl _) ?_, rfl, q _ _ fr ⟨rfl, rfl⟩⟩
  exact ⟨get, z, us, r, _, get, rfl, _, rfl⟩
def rCatF (K : PySem.W.Frag) : R2 := fun x y H Q => ∃ a b xs ys, x = .ref a ∧ y = .ref b ∧ SqT K H a xs ∧ SqT K H b ys ∧ xs.length + ys.length ≤ sizeLine ∧ xs ≠ [] ∧ ys ≠ [] ∧ ∀ (p : Addr) (o : Obj), H p = none → TupO o → Q (.ref p) (upd H p (.frz o (.tup (xs ++ ys))))
theorem op_catF : OpR X (binaryOp .Add) (rCatF X.K) := by
  intro pins s σ H x y v u Q I rx ry h
  obtain ⟨a, b, xs, ys, rfl, rfl, ha, hb, hz, hx, hy, q⟩ := h
  cases rx
  cases ry
  obtain ⟨its, r1, p1, _⟩ := I.tuple ha
  obtain ⟨jts, r2, p2, _⟩ := I.tuple hb
  have e1 : its ≠ [] := fun z => hx (r1.nil_iff.mp z)
  have e2 : jts ≠ [] := fun z => hy (r2.nil_iff.mp z)
  have fr := I.hok.fresh (Nat.le_refl s.heap.objs.size)
  have get := Heap.get?_push_size s.heap (o := { cls := .type "tuple", data := .seq (its ++ jts).toArray }) rfl
  refine HT.cat_tup p1 p2 e1 (fun z => absurd z e2) (fun _ => ?_) (by rw [← r1.length, ← r2.length]; exact hz)
  refine ⟨.ref s.heap.objs.size, _, I.laid (o := .frz { cls := .type "tuple", data := .seq (its ++ jts).toArray } (.tup (xs ++ ys))) (t' := s.toks) (fun _ _ e => Heap.get?_push_of_some _ e) (Nat.le_refl _) ?_, rfl, q _ _ fr ⟨rfl, rfl⟩⟩
  exact ⟨get, by rw [List.length_append]; exact hz, _, r1.append r2, _, get, rfl, _, rfl⟩
def rCatZ (K : PySem.W.Frag) : R2 := fun x y H Q => ∃ a b xs ys, x = .ref a ∧ y = .ref b ∧ SqT K H a xs ∧ SqT K H b ys ∧ xs.length + ys.length ≤ sizeLine ∧
  (xs = [] → Q (.ref b) H) ∧ (xs ≠ [] → ys = [] → Q (.ref a) H) ∧ (xs ≠ [] → ys ≠ [] → ∀ (p : Addr) (o : Obj), H p = none → TupO o → Q (.ref p) (upd H p (.frz o (.tup (xs ++ ys)))))
theorem op_catZ : OpR X (binaryOp .Add) (rCatZ X.K) := by
  intro pins s σ H x y v u Q I rx ry h
  obtain ⟨a, b, xs, ys, rfl, rfl, ha, hb, hz, q0, q1, q2⟩ := h
  by_cases hx : xs = []
  · exact op_catA pins s σ H _ _ v u Q I rx ry ⟨a, b, xs, ys, rfl, rfl, ha, hb, hz, q0, fun z => absurd hx z, fun z => absurd hx z⟩
  · by_cases hy : ys = []
    · exact op_catA pins s σ H _ _ v u Q I rx ry ⟨a, b, xs, ys, rfl, rfl, ha, hb, hz, q0, q1, fun _ z => absurd hy z⟩
    · exact op_catF pins s σ H _ _ v u Q I rx ry ⟨a, b, xs, ys, rfl, rfl, ha, hb, hz, hx, hy, q2 hx hy⟩
def rSlZ (K : PySem.W.Frag) : V → Option Int → Option Int → Hp → VK → Prop := fun x lo hi H Q => ∃ a xs, x = .ref a ∧ SqT K H a xs ∧
  (HT.sIx xs.length 0 lo = 0 ∧ HT.sIx xs.length xs.length hi = xs.length → Q (.ref a) H) ∧ (¬ (HT.sIx xs.length 0 lo = 0 ∧ HT.sIx xs.length xs.length hi = xs.length) → ∀ (p : Addr) (o : Obj), H p = none → TupO o → Q (.ref p) (upd H p (.frz o (.tup (cutV xs lo hi)))))
theorem sl_tupZ : SlR X (rSlZ X.K) := by
  intro pins s σ H x v vl vu lo hi sl Q I rx hs pl pu h
  obtain ⟨a, xs, rfl, hx, q1, q2⟩ := h
  by_cases hw : HT.sIx xs.length 0 lo = 0 ∧ HT.sIx xs.length xs.length hi = xs.length
  · exact sl_tupA pins s σ H _ v vl vu lo hi sl Q I rx hs pl pu ⟨a, xs, rfl, hx, q1, fun z => absurd hw z⟩
  · cases rx
    obtain ⟨its, r, ht, hz⟩ := I.tuple hx
    have hlen : its.toArray.size = xs.length := by rw [List.size_toArray]; exact r.length.symm
    refine ⟨"tuple", _, PyProof.Rows.slot_tuple_getitem.lookup, ht.typeIs, ?_⟩
    refine HT.getItem_tuple_cut ht hs pl pu (by rw [hlen]; exact hw) ?_ (by rw [hlen]; exact hz)
    rw [hlen]
    refine ⟨.ref s.heap.objs.size, _, I.laid (t' := s.toks) (o := .frz { cls := .type "tuple", data := .seq ((its.drop (HT.sIx xs.length 0 lo)).take (HT.sIx xs.length xs.length hi - HT.sIx xs.length 0 lo)).toArray } (.tup (cutV xs lo hi))) (fun b ob q => Heap.get?_push_of_some _ q) (Nat.le_refl _) ?_, rfl, q2 hw _ _ (I.hok.fresh (Nat.le_refl _)) ⟨rfl, rfl⟩⟩
    have get := Heap.get?_push_size s.heap (o := { cls := .type "tuple", data := .seq ((its.drop (HT.sIx xs.length 0 lo)).take (HT.sIx xs.length xs.length hi - HT.sIx xs.length 0 lo)).toArray }) rfl
    exact ⟨get, Nat.le_trans (cutV_length xs lo hi) hz, _, (r.drop (HT.sIx xs.length 0 lo)).take (HT.sIx xs.length xs.length hi - HT.sIx xs.length 0 lo), _, get, rfl, _, rfl⟩
def rRepZ (K : PySem.W.Frag) : R2 := fun x y H Q => ∃ l k xs, x = .ref l ∧ y = .int k ∧ SqT K H l xs ∧ xs ≠ [] ∧ 2 ≤ k ∧ k ≤ 1000 ∧ xs.length ≤ 1000 ∧ ∀ (p : Addr) (o : Obj), H p = none → TupO o → Q (.ref p) (upd H p (.frz o (.tup (List.replicate k.toNat xs).flatten)))
theorem op_repZ : OpR X (binaryOp .Mult) (rRepZ X.K) := by
  intro pins s σ H x y v u Q I rx ry h
  obtain ⟨l, k, xs, rfl, rfl, hT, hne, h1, h2, hz, q⟩ := h
  cases rx
  obtain ⟨t, rfl⟩ := ry
  obtain ⟨its, r, ⟨⟨cls, dd, data, sl⟩, ho, hc, n, hd⟩, hs⟩ := I.tuple hT
  simp only at hc hd
  subst hc hd
  have hle : its.length = xs.length := r.length.symm
  have hn : its ≠ [] := fun e => hne (by
    rw [e] at hle
    exact List.eq_nil_of_length_eq_zero hle.symm)
  have hi : its.toArray.isEmpty = false := by
    cases its with
    | nil => exact absurd rfl hn
    | cons a b => rfl
  have hsz0 : its.toArray.size = xs.length := by rw [List.size_toArray, hle]
  have hm : ((its.toArray.size : Nat) : Int) * k ≤ 1000000 := by
    rw [hsz0]
    have a1 : ((xs.length : Nat) : Int) * k ≤ 1000 * k := Int.mul_le_mul_of_nonneg_right (by omega) (by omega)
    omega
  have flen : (List.replicate k.toNat its).flatten.length ≤ sizeLine := by
    rw [PyProof.Rows.lm_len_rep_flat, hle, sizeLine_eq]
    have a1 : k.toNat * xs.length ≤ 1000 * 1000 := Nat.mul_le_mul (by omega) hz
    omega
  have c0 : (decide (k < -(2 ^ 63)) || decide (k ≥ 2 ^ 63)) = false := by
    rw [decide_eq_false (by omega), decide_eq_false (by omega)] <;> rfl
  have c1 : (its.toArray.isEmpty || k == 1) = false := by
    rw [hi, Bool.false_or]
    exact beq_eq_false_iff_ne.mpr (by omega)
  have c2 : (decide (k ≤ 0) || its.toArray.isEmpty) = false := by
    rw [hi, Bool.or_false]
    exact decide_eq_false (by omega)
  have c4 : Builtin.Tuple.tupleTooMany (((its.toArray.size : Nat) : Int) * k) = false := by
    unfold Builtin.Tuple.tupleTooMany
    rw [sizeLine_eq]
    exact decide_eq_false (by omega)
  refine wpAny_binaryOp_repeat_ref (T := "tuple") (U := "int") (by decide) ⟨_, ho, rfl⟩ (fun s' => typeIs_int s' k t) noFill_tuple_mul F.fills_int_mul F.slot_int_rmul repeat_tuple F.slot_int_index.lookup
    (call_meets F.slot_int_rmul (typeIs_int s k t) F.entry_int_rmul (F.args_int_rmul_2 _ _) (int_rmul_tuple k t l its.toArray n dd sl)
      ⟨ho, rfl, ⟨_, ho, rfl⟩, call_meets F.slot_tuple_mul ⟨_, ho, rfl⟩ F.entry_tuple_mul (F.args_tuple_mul_2 _ _) (tuple_mulW l its.toArray n dd sl k t c0 c1 c2 (by omega) c4 (by rw [size_rep, List.size_toArray]; exact flen)) ⟨ho, ?_⟩⟩)
  rw [size_rep]
  refine ⟨.ref s.heap.objs.size, _, I.laid (t' := s.toks) (o := .frz { cls := .type "tuple", data := .seq (List.replicate k.toNat its).flatten.toArray } (.tup (List.replicate k.toNat xs).flatten)) (fun b ob q => Heap.get?_push_of_some _ q) (Nat.le_refl _) ?_, rfl, q _ _ (I.hok.fresh (Nat.le_refl _)) ⟨rfl, rfl⟩⟩
  have get := Heap.get?_push_size s.heap (o := { cls := .type "tuple", data := .seq (List.replicate k.toNat its).flatten.toArray }) rfl
  exact ⟨get, by rw [PyProof.Rows.lm_len_rep_flat, sizeLine_eq]; have a1 : k.toNat * xs.length ≤ 1000 * 1000 := Nat.mul_le_mul (by omega) hz; omega, _, r.rep k.toNat, _, get, rfl, _, rfl⟩
theorem call_tupleZ : CallR X (.type "tuple") (fun xs H Q => ∃ p ys, xs = [.ref p] ∧ ((SqL X.K H p ys ∧ ∀ (l : Addr) (o : Obj), H l = none → TupO o → Q (.ref l) (upd H l (.frz o (.tup ys)))) ∨ (SqT X.K H p ys ∧ Q (.ref p) H))) := by
  intro pins s σ H xs us Q I r h
  obtain ⟨p, ys, rfl, h⟩ := h
  obtain ⟨u, rfl, rx⟩ := vals1 r
  cases rx
  rcases h with ⟨hq, q⟩ | ⟨hq, q⟩
  · obtain ⟨its, r', pl, hz⟩ := I.list hq
    have hlen := r'.length
    refine call_tuple_list pl.isList (fun h' kp => ?_) (by simp only [List.size_toArray] <;> omega)
    have I1 : Inv X pins σ H { s with heap := h' } := I.kept (t' := s.toks) kp
    have get := Heap.get?_push_size h' (o := { cls := .type "tuple", data := .seq its.toArray }) rfl
    have I2 : Inv X pins σ (upd H h'.objs.size (.frz { cls := .type "tuple", data := .seq its.toArray } (.tup ys))) { s with heap := h'.push { cls := .type "tuple", data := .seq its.toArray } } :=
      I1.laid (t' := s.toks) (fun b o e => Heap.get?_push_of_some _ e) (Nat.le_refl _) (show ObjOk X.prog X.w _ _ _ (.frz _ (.tup ys)) from ⟨get, hz, its, r', _, get, rfl, _, rfl⟩)
    exact ⟨.ref h'.objs.size, _, I2, rfl, q _ _ (I1.hok.fresh (Nat.le_refl _)) ⟨rfl, rfl⟩⟩
  · obtain ⟨its, r', pl, hz⟩ := I.tuple hq
    exact call_tuple_same pl ⟨.ref p, H, I, rfl, q⟩
/-- a method of a tuple whose object is known -/
def tMT (K : PySem.W.Frag) (r : V → List V → Hp → VK → Prop) (to : TE) (t : TA) : TE := fun σ H Q => to σ H fun x H' => (∃ p, x = .ref p ∧ ((∃ o u, H' p = some (.frz o u) ∧ TupO o) ∨ ∃ o, K.lookup p = some o ∧ TupO o)) ∧ t σ H' fun xs H'' => r x xs H'' Q
theorem pe_mt {o e : Expr} {to : TE} {t : TA} {nm : Str} {apos cpos : Pos} {id : String} {r : V → List V → Hp → VK → Prop} (slot : Slot "tuple" nm id) (hty : typeOf (.builtin id) = pure (.type "method_descriptor")) (hm : MtR X id r)
    (ho : PE X o to) (ha : PA X [e] t) (hb : attributeBase o nm X.env (eval o X.env) = eval o X.env := by rfl)
    (hf : ((backTo cpos (starEach [e] X.env)).all (fun x => !x.1) && (backToKw cpos (keywordEach [] X.env)).all (fun x => x.1.isSome) && decide (([e] : List Expr).length + ([] : List Keyword).length + (if ([] : List Keyword).isEmpty then 0 else 1) < 30)) = true := by rfl)
    (hl : (apos.endLine == cpos.line) = true := by rfl) (hs : starEach [e] X.env = (false, eval e X.env) :: starEach [] X.env := by rfl) (hp : (backTo cpos (starEach [] X.env)).any (·.1) = false := by rfl) :
    PE X (.Call (.Attribute o nm apos) [e] [] cpos) (tMT X.K r to t) := by
  constructor
  intro pins s σ H Q I h
  refine wpAny_Call_method_late hb hf hl rfl (thn (ho.run pins s σ H _ I h) ?_)
  rintro v s1 ⟨x, H', I', rx, ⟨p, rfl, hx⟩, q1⟩
  cases rx
  have ⟨ob, g, hc, hd⟩ : ∃ ob, s1.heap.get? p = some ob ∧ ob.cls = .type "tuple" ∧ ob.dict = none := by
    rcases hx with ⟨ob, u, hx, hc, hd⟩ | ⟨ob, hx, hc, hd⟩
    · have ok : ObjOk X.prog X.w H' s1.heap p (.frz ob u) := I'.hok p _ hx
      exact ⟨ob, ok.1, hc, hd⟩
    · exact ⟨ob, I'.kIn _ _ hx, hc, hd⟩
  refine ⟨"tuple", id, PySem.F.plainAttrs_tuple, slot, hty, ⟨ob, g, hc⟩, fun a e => ?_, ?_⟩
  · cases e
    exact ⟨ob, g, hd⟩
  · have hA := ha.run cpos pins s1 σ H' _ I' q1
    rw [hs] at hA ⊢
    refine Calls.callWith_builtin (by show (false || (backTo cpos (starEach [] X.env)).any (·.1)) = false; rw [hp]; rfl) (Calls.evalArgs_plain (thn hA ?_))
    rintro us s2 ⟨vs, H2, I2, r2, q2⟩
    exact hm pins s2 σ H2 (.ref p) vs (.ref p) us Q I2 rfl r2 q2
end
/-- a tuple's items, its object known -/
def Tq (K : PySem.W.Frag) (H : Hp) (a : Addr) (xs : List V) : Prop :=
  (∃ o, H a = some (.frz o (.tup xs)) ∧ TupO o) ∨ ∃ (o : Obj) (its : Array Value) (n : Nat), K.lookup a = some o ∧ TupO o ∧ o.data = .seq its n ∧ its.size ≤ sizeLine ∧ Vals xs its.toList
theorem Tq.sq {K : PySem.W.Frag} {H : Hp} {a : Addr} {xs : List V} (h : Tq K H a xs) : SqT K H a xs := by
  rcases h with ⟨o, h, _⟩ | ⟨o, its, n, h1, h2, h3, h4, h5⟩
  · exact .inl (.inr ⟨o, h⟩)
  · exact .inr ⟨o, its, n, h1, h2.1, h3, h4, h5⟩
theorem Tq.tob {K : PySem.W.Frag} {H : Hp} {a : Addr} {xs : List V} (h : Tq K H a xs) : (∃ o u, H a = some (.frz o u) ∧ TupO o) ∨ ∃ o, K.lookup a = some o ∧ TupO o := by
  rcases h with ⟨o, h, t⟩ | ⟨o, its, n, h1, h2, _⟩
  · exact .inl ⟨o, _, h, t⟩
  · exact .inr ⟨o, h1, h2⟩

mutual
inductive Dq (K : PySem.W.Frag) (H : Hp) : V → PyData → Prop
  | non : Dq K H .non .none
  | bl (b : Bool) : Dq K H (.bl b) (.bool b)
  | int (i : Int) : Dq K H (.int i) (.int i)
  | str (x : Str) : Dq K H (.str x) (.str x)
  | tup {a : Addr} {xs : List V} {ds : List PyData} : Tq K H a xs → DqAll K H xs ds → Dq K H (.ref a) (.tuple ds)
inductive DqAll (K : PySem.W.Frag) (H : Hp) : List V → List PyData → Prop
  | nil : DqAll K H [] []
  | cons {v : V} {vs : List V} {d : PyData} {ds : List PyData} : Dq K H v d → DqAll K H vs ds → DqAll K H (v :: vs) (d :: ds)
end
mutual
theorem Dq.dp {K : PySem.W.Frag} {H : Hp} : ∀ {v : V} {d : PyData}, Dq K H v d → Dp K H v d
  | _, _, .non => .non
  | _, _, .bl b => .bl b
  | _, _, .int i => .int i
  | _, _, .str x => .str x
  | _, _, .tup g a => .tup g.sq (DqAll.dp a)
theorem DqAll.dp {K : PySem.W.Frag} {H : Hp} : ∀ {vs : List V} {ds : List PyData}, DqAll K H vs ds → DpAll K H vs ds
  | _, _, .nil => .nil
  | _, _, .cons a r => .cons (Dq.dp a) (DqAll.dp r)
end
/-! ### dicts whose keys are data (tuples of whole numbers, texts, None, nested) -/
mutual
def kOf : PyData → Option NestedKey
  | .none => some .none
  | .int i => some (.num i)
  | .str x => some (.text x)
  | .tuple ds => (kOfs ds).map .tup
  | .bool _ => none
  | .list _ => none
  | .dict _ => none
def kOfs : List PyData → Option (List NestedKey)
  | [] => some []
  | d :: ds => (kOf d).bind fun k => (kOfs ds).map fun ks => k :: ks
end
/-- the key that a tuple is -/
def kT (d : PyData) : Option NestedKey := match d with
  | .tuple ds => (kOf (.tuple ds)).bind fun k => if k.depth ≤ 8 then some k else none
  | _ => none
section
open PySem.Spec PyProof.Rows
variable {X : Cx} {K : PySem.W.Frag} {pins : List (Addr × Obj)} {σ : L2.St} {H : Hp} {s : Shared}
mutual
theorem is_of (I : Inv X pins σ H s) : ∀ {v : V} {d : PyData} {k : NestedKey} {u : Value}, Dq X.K H v d → kOf d = some k → RelV v u → NestedIs s.heap k u
  | _, _, _, _, .non, e, r => by
    cases e
    cases r
    exact .none
  | _, _, _, _, .bl b, e, r => by cases e
  | _, _, _, _, .int i, e, r => by
    cases e
    obtain ⟨t, rfl⟩ := r
    exact .int _ _
  | _, _, _, _, .str x, e, r => by
    cases e
    obtain ⟨t, rfl⟩ := r
    exact .text _ _
  | _, _, k, _, .tup (ds := ds) g a, e, r => by
    cases r
    have e' : (kOfs ds).map NestedKey.tup = some k := e
    obtain ⟨ks, h1, h2⟩ := Option.map_eq_some_iff.mp e'
    subst h2
    rcases g with ⟨o, hx, hc, hd⟩ | ⟨o, its, n, h1', h2', h3', h4', h5'⟩
    · have ok : ObjOk X.prog X.w H s.heap _ (.frz o (.tup _)) := I.hok _ _ hx
      obtain ⟨g, z, its, r, ob, g2, c2, n, d2⟩ := ok
      exact .tup g2 c2 d2 (all_of I a h1 (by simpa using r))
    · exact .tup (I.kIn _ _ h1') h2'.1 h3' (all_of I a h1 h5')
theorem all_of (I : Inv X pins σ H s) : ∀ {vs : List V} {ds : List PyData} {ks : List NestedKey} {us : List Value}, DqAll X.K H vs ds → kOfs ds = some ks → Vals vs us → NestedAll s.heap ks us
  | _, _, _, _, .nil, e, r => by
    cases e
    cases r
    exact .nil
  | _, _, ks, _, .cons (d := d) (ds := ds) a b, e, r => by
    have e' : ((kOf d).bind fun k => (kOfs ds).map fun ks => k :: ks) = some ks := e
    obtain ⟨k, h1, h2⟩ := Option.bind_eq_some_iff.mp e'
    obtain ⟨ks', h3, h4⟩ := Option.map_eq_some_iff.mp h2
    subst h4
    cases r with
    | cons r1 r2 => exact .cons (is_of I a h1 r1) (all_of I b h3 r2)
end
/-- what stands at a is the dict o, whole -/
def dicO (a : Addr) (o : Obj) : HO := .ext fun h => h.get? a = some o
theorem dicO_ok {P : Program} {w : World} {h : Heap} {a : Addr} {o : Obj} (e : h.get? a = some o) : ObjOk P w H h a (dicO a o) := ⟨e, ⟨_, e⟩, fun _ _ x k => k _ x⟩
def entN (w : World) (x : NestedKey × Addr × Value) : DictEntry := ⟨x.1.hash w, .ref x.2.1, x.2.2⟩
abbrev EntL := List (NestedKey × V × V)
abbrev EntR : EntL → List (NestedKey × Addr × Value) → Prop := Paired fun p q => p.1 = q.1 ∧ p.2.1 = .ref q.2.1 ∧ RelV p.2.2 q.2.2
def atN (xs : EntL) (k : NestedKey) : Option (V × V) := (xs.find? fun x => decide (x.1 = k)).map (·.2)
def putN (xs : EntL) (k : NestedKey) (kv v : V) : EntL := if (atN xs k).isSome then xs.map fun x => if x.1 = k then (x.1, x.2.1, v) else x else xs ++ [(k, kv, v)]
def dropN (xs : EntL) (k : NestedKey) : EntL := xs.filter fun x => decide (x.1 ≠ k)
def DicOb (w : World) (a : Addr) (o : Obj) (xs : EntL) : Prop :=
  (a == sysModules) = false ∧ xs.length ≤ sizeLine ∧ o.ExactDict ∧ ∃ (es : Array DictEntry) (ep : Nat) (ys : List (NestedKey × Addr × Value)), o.data = .dict es ep ∧ es.toList = ys.map (entN w) ∧ EntR xs ys ∧ (ys.map (·.1)).Nodup
def IsK (K : PySem.W.Frag) (H : Hp) (y : V) (k : NestedKey) : Prop := ∃ d, Dq K H y d ∧ kT d = some k
/-- a dict, to be read: free, or locked while it is walked -/
def Dic (K : PySem.W.Frag) (w : World) (H : Hp) (a : Addr) (xs : EntL) : Prop := ∃ o, (H a = some (dicO a o) ∨ ∃ od, H a = some (.frz od (dicO a o))) ∧ DicOb w a o xs ∧ ∀ x ∈ xs, IsK K H x.2.1 x.1
def Free (H : Hp) (a : Addr) : Prop := ∃ o, H a = some (dicO a o)
theorem IsK.ref {y : V} {k : NestedKey} (h : IsK K H y k) : ∃ b, y = .ref b := by
  obtain ⟨d, h1, h2⟩ := h
  cases h1 with
  | tup g a => exact ⟨_, rfl⟩
  | _ => cases h2
theorem IsK.is {b : Addr} {k : NestedKey} (I : Inv X pins σ H s) (h : IsK X.K H (.ref b) k) : (nestedKind X.prog X.w).is s.heap k b := by
  obtain ⟨d, h1, h2⟩ := h
  cases h1 with
  | tup g a =>
    obtain ⟨k', e1, e2⟩ := Option.bind_eq_some_iff.mp h2
    split at e2
    · rename_i hd
      cases e2
      exact ⟨is_of I (.tup g a) e1 rfl, hd⟩
    · cases e2
theorem EntR.at {xs : EntL} {ys : List (NestedKey × Addr × Value)} (r : EntR xs ys) (k : NestedKey) : (∃ kv v p, atN xs k = some (kv, v) ∧ atKey ys k = some p ∧ kv = .ref p.1 ∧ RelV v p.2) ∨ (atN xs k = none ∧ atKey ys k = none) := by
  induction r with
  | nil => exact .inr ⟨rfl, rfl⟩
  | @cons p q ps qs h t ih =>
    obtain ⟨h1, h2, h3⟩ := h
    by_cases e : p.1 = k
    · have e' : q.1 = k := h1.symm.trans e
      exact .inl ⟨p.2.1, p.2.2, q.2, by simp [atN, List.find?_cons, e], by simp [atKey, List.find?_cons, e'], h2, h3⟩
    · have e' : ¬ q.1 = k := fun z => e (h1.trans z)
      have a1 : atN (p :: ps) k = atN ps k := by simp [atN, List.find?_cons, e]
      have a2 : atKey (q :: qs) k = atKey qs k := by simp [atKey, List.find?_cons, e']
      rw [a1, a2]
      exact ih
theorem EntR.repl {xs : EntL} {ys : List (NestedKey × Addr × Value)} (r : EntR xs ys) (k : NestedKey) {v : V} {u : Value} (rv : RelV v u) :
    EntR (xs.map fun x => if x.1 = k then (x.1, x.2.1, v) else x) (ys.map (putAt k u)) := by
  induction r with
  | nil => exact .nil
  | @cons p q ps qs h t ih =>
    rw [List.map_cons, List.map_cons]
    refine .cons ?_ ih
    obtain ⟨h1, h2, h3⟩ := h
    unfold putAt
    by_cases e : p.1 = k
    · have e' : q.1 = k := h1.symm.trans e
      rw [if_pos e, if_pos e']
      exact ⟨h1, h2, rv⟩
    · have e' : ¬ q.1 = k := fun z => e (h1.trans z)
      rw [if_neg e, if_neg e']
      exact ⟨h1, h2, h3⟩
theorem EntR.put {xs : EntL} {ys : List (NestedKey × Addr × Value)} (r : EntR xs ys) (k : NestedKey) {b : Addr} {v : V} {u : Value} (rv : RelV v u) : EntR (putN xs k (.ref b) v) (storedH ys k b u) := by
  unfold putN storedH
  rcases r.at k with ⟨kv, v', p, h1, h2, _⟩ | ⟨h1, h2⟩
  · rw [h1, h2]
    exact r.repl k rv
  · rw [h1, h2]
    exact Paired.snoc r ⟨rfl, rfl, rv⟩
theorem EntR.drop {xs : EntL} {ys : List (NestedKey × Addr × Value)} (r : EntR xs ys) (k : NestedKey) : EntR (dropN xs k) (withoutH ys k) := by
  induction r with
  | nil => exact .nil
  | @cons p q ps qs h t ih =>
    unfold dropN withoutH
    by_cases e : p.1 = k
    · have e' : q.1 = k := h.1.symm.trans e
      rw [List.filter_cons_of_neg (by simpa using e), List.filter_cons_of_neg (by simpa using e')]
      exact ih
    · have e' : ¬ q.1 = k := fun z => e (h.1.trans z)
      rw [List.filter_cons_of_pos (by simpa using e), List.filter_cons_of_pos (by simpa using e')]
      exact .cons h ih
theorem putN_mem {xs : EntL} {k : NestedKey} {kv v : V} {x : NestedKey × V × V} (h : x ∈ putN xs k kv v) : (∃ y ∈ xs, x.1 = y.1 ∧ x.2.1 = y.2.1 ∧ (x.2.2 = y.2.2 ∨ x.2.2 = v)) ∨ x = (k, kv, v) := by
  unfold putN at h
  split at h
  · obtain ⟨y, h1, h2⟩ := List.mem_map.mp h
    refine .inl ⟨y, h1, ?_⟩
    split at h2
    · subst h2
      exact ⟨rfl, rfl, .inr rfl⟩
    · subst h2
      exact ⟨rfl, rfl, .inl rfl⟩
  · rcases List.mem_append.mp h with z | z
    · exact .inl ⟨x, z, rfl, rfl, .inl rfl⟩
    · exact .inr (by simpa using z)
theorem putN_len (xs : EntL) (k : NestedKey) (kv v : V) : (putN xs k kv v).length ≤ xs.length + 1 := by
  unfold putN
  split
  · rw [List.length_map]
    omega
  · rw [List.length_append]
    exact Nat.le_refl _
theorem Dic.of {a : Addr} {xs : EntL} (I : Inv X pins σ H s) (h : Dic X.K X.w H a xs) : (a == sysModules) = false ∧ xs.length ≤ sizeLine ∧ ∃ ys, EntR xs ys ∧ s.heap.DictOfH (nestedKind X.prog X.w) a ys := by
  obtain ⟨o, ho, ⟨hs, hz, hx, es, ep, ys, hd, he, hr, hn⟩, hk⟩ := h
  have ok : s.heap.get? a = some o := by
    rcases ho with ho | ⟨od, ho⟩
    · have ok : ObjOk X.prog X.w H s.heap a (dicO a o) := I.hok _ _ ho
      exact ok.1
    · have ok : ObjOk X.prog X.w H s.heap a (.frz od (dicO a o)) := I.hok _ _ ho
      exact ok.2.1
  refine ⟨hs, hz, ys, hr, o, es, ep, ok, hx, hd, he, fun y hy => ?_, hn⟩
  have all : ∀ {xs : EntL} {ys : List (NestedKey × Addr × Value)}, EntR xs ys → (∀ x ∈ xs, IsK X.K H x.2.1 x.1) → ∀ y ∈ ys, (nestedKind X.prog X.w).is s.heap y.1 y.2.1 := by
    intro xs ys r
    induction r with
    | nil => exact fun _ _ z => nomatch z
    | @cons p q ps qs h t ih =>
      intro hk y hy
      rcases List.mem_cons.mp hy with z | z
      · subst z
        have := hk p List.mem_cons_self
        rw [h.1, h.2.1] at this
        exact this.is I
      · exact ih (fun x hx => hk x (List.mem_cons_of_mem _ hx)) y z
  exact all hr hk y hy
theorem DicOb.of {a : Addr} {h' : Heap} {xs : EntL} {ys : List (NestedKey × Addr × Value)} (hs : (a == sysModules) = false) (hz : xs.length ≤ sizeLine) (hr : EntR xs ys) (dd : h'.DictOfH (nestedKind X.prog X.w) a ys) : ∃ o, h'.get? a = some o ∧ DicOb X.w a o xs := by
  obtain ⟨o, es, ep, h1, h2, h3, h4, h5, h6⟩ := dd
  exact ⟨o, h1, hs, hz, h2, es, ep, ys, h3, h4, hr, h6⟩
theorem rm (hu : X.A.units + 64 < cLine) : (nestedKind X.prog X.w).room X.A.in1 := by
  show X.A.units + 1 + 8 < cLine
  omega
theorem dic_get {a : Addr} {y v : V} {u : Value} {k : NestedKey} {kv : V} {xs : EntL} {Q : VK} (hu : X.A.units + 64 < cLine) (I : Inv X pins σ H s) (g : Dic X.K X.w H a xs) (hk : IsK X.K H y k) (ry : RelV y u) (ha : atN xs k = some (kv, v)) (q : Q v H) :
    wpAny (model X.prog X.w) X.A (getItem (.ref a) u) (EP X pins σ Q) X.xe s := by
  obtain ⟨b, rfl⟩ := hk.ref
  cases ry
  obtain ⟨hs, hz, ys, r, dd⟩ := g.of I
  rcases r.at k with ⟨kv', v', p, h1, h2, h3, h4⟩ | ⟨h1, h2⟩
  · rw [ha] at h1
    cases h1
    exact wpAny_getItem_heap (rm hu) (hk.is I) dd h2 ⟨v, H, I.tok _, h4, q⟩
  · rw [ha] at h1
    cases h1
theorem EntR.some {xs : EntL} {ys : List (NestedKey × Addr × Value)} (r : EntR xs ys) (k : NestedKey) : (atKey ys k).isSome = (atN xs k).isSome := by
  rcases r.at k with ⟨kv', v', p, h1, h2, h3, h4⟩ | ⟨h1, h2⟩
  · rw [h1, h2]
    rfl
  · rw [h1, h2]
    rfl
theorem dic_in {a : Addr} {y : V} {u : Value} {k : NestedKey} {xs : EntL} {Q : VK} (hu : X.A.units + 64 < cLine) (I : Inv X pins σ H s) (g : Dic X.K X.w H a xs) (hk : IsK X.K H y k) (ry : RelV y u) (q : Q (.bl (atN xs k).isSome) H) :
    wpAny (model X.prog X.w) X.A (compareOp .In u (.ref a)) (EP X pins σ Q) X.xe s := by
  obtain ⟨b, rfl⟩ := hk.ref
  cases ry
  obtain ⟨hs, hz, ys, r, dd⟩ := g.of I
  refine wpAny_in_heap (rm hu) (hk.is I) hs dd ?_
  rw [r.some]
  exact ⟨.bl _, H, I.tok _, rfl, q⟩
theorem dic_notIn {a : Addr} {y : V} {u : Value} {k : NestedKey} {xs : EntL} {Q : VK} (hu : X.A.units + 64 < cLine) (I : Inv X pins σ H s) (g : Dic X.K X.w H a xs) (hk : IsK X.K H y k) (ry : RelV y u) (q : Q (.bl (!(atN xs k).isSome)) H) :
    wpAny (model X.prog X.w) X.A (compareOp .NotIn u (.ref a)) (EP X pins σ Q) X.xe s := by
  obtain ⟨b, rfl⟩ := hk.ref
  cases ry
  obtain ⟨hs, hz, ys, r, dd⟩ := g.of I
  refine wpAny_notIn_heap (rm hu) (hk.is I) hs dd ?_
  rw [r.some]
  exact ⟨.bl _, H, I.tok _, rfl, q⟩
/-- the dict's object is another -/
theorem dic_write {a : Addr} {h' : Heap} {o' : Obj} {t' : Nat} (I : Inv X pins σ H s) (g : Free H a) (hs : Heap.SameBut a s.heap h') (ho : h'.get? a = some o') : Inv X pins σ (upd H a (dicO a o')) { s with heap := h', toks := t' } := by
  obtain ⟨o, e⟩ := g
  exact I.write (x := a) (e := a) (by rw [e]; exact True.intro) (.inl rfl) (fun b q hb z => (hs.2 b hb).trans z) ⟨_, ho⟩ (dicO_ok ho)
theorem dic_set {a : Addr} {y v : V} {u r : Value} {k : NestedKey} {xs : EntL} {Q : Hp → Prop} (hu : X.A.units + 64 < cLine) (I : Inv X pins σ H s) (f : Free H a) (g : Dic X.K X.w H a xs) (hk : IsK X.K H y k) (ry : RelV y u) (rv : RelV v r) (hl : xs.length < sizeLine)
    (q : ∀ o, DicOb X.w a o (putN xs k y v) → Q (upd H a (dicO a o))) :
    wpAny (model X.prog X.w) X.A (setItem (.ref a) u r) (fun _ s' => ∃ H', Inv X pins σ H' s' ∧ Q H') X.xe s := by
  obtain ⟨b, rfl⟩ := hk.ref
  cases ry
  obtain ⟨hs, hz, ys, rr, dd⟩ := g.of I
  have hz2 : ys.length ≤ sizeLine := by rw [← Paired.length rr]; exact hz
  refine wpAny_setItem_heap (hsz := hz2) (rm hu) (hk.is I) dd fun h' dd' sb => ?_
  obtain ⟨o', h1, h2⟩ := DicOb.of hs (Nat.le_trans (putN_len xs k (.ref b) v) hl) (rr.put k rv) dd'
  exact ⟨_, dic_write I f sb h1, q _ h2⟩
theorem dic_del {a : Addr} {y : V} {u : Value} {k : NestedKey} {xs : EntL} {Q : Hp → Prop} (hu : X.A.units + 64 < cLine) (I : Inv X pins σ H s) (f : Free H a) (g : Dic X.K X.w H a xs) (hk : IsK X.K H y k) (ry : RelV y u) (hl : (atN xs k).isSome = true)
    (q : ∀ o, DicOb X.w a o (dropN xs k) → Q (upd H a (dicO a o))) :
    wpAny (model X.prog X.w) X.A (delItem (.ref a) u) (fun _ s' => ∃ H', Inv X pins σ H' s' ∧ Q H') X.xe s := by
  obtain ⟨b, rfl⟩ := hk.ref
  cases ry
  obtain ⟨hs, hz, ys, rr, dd⟩ := g.of I
  have hz2 : ys.length ≤ sizeLine := by rw [← Paired.length rr]; exact hz
  obtain ⟨p, hp⟩ := Option.isSome_iff_exists.mp ((rr.some k).trans hl)
  refine wpAny_delItem_heap (hsz := hz2) (rm hu) (hk.is I) hs dd hp fun h' dd' sb => ?_
  obtain ⟨o', h1, h2⟩ := DicOb.of hs (Nat.le_trans (List.length_filter_le _ _) hz) (rr.drop k) dd'
  exact ⟨_, dic_write I f sb h1, q _ h2⟩
/-- d.get(k, x) -/
def rEGet (K : PySem.W.Frag) (w : World) : V → List V → Hp → VK → Prop := fun x xs H Q => ∃ (a : Addr) (es : EntL) (y d : V) (k : NestedKey), x = .ref a ∧ xs = [y, d] ∧ Dic K w H a es ∧ IsK K H y k ∧ Q (((atN es k).map Prod.snd).getD d) H
theorem mt_eget (hu : X.A.units + 64 < cLine) : MtR X "dict.get" (rEGet X.K X.w) := by
  intro pins s σ H x xs v us Q I rx rxs h
  obtain ⟨a, es, y, d, k, rfl, rfl, g, hk, q⟩ := h
  cases rx
  obtain ⟨b, rfl⟩ := hk.ref
  obtain ⟨u1, u2, rfl, r1, r2⟩ := vals2 rxs
  cases r1
  obtain ⟨hs, hz, ys, rr, dd⟩ := g.of I
  refine call_meetsIn F.slot_dict_get dd.typeIs F.entry_dict_get (F.args_dict_get_3 _ _ _) (meetsH_dict_get_default (nestedKind X.prog X.w) a b hs u2) ⟨rm hu, k, ys, hk.is I, dd, ?_⟩
  rcases rr.at k with ⟨kv', v', p, h1, h2, h3, h4⟩ | ⟨h1, h2⟩
  · rw [h2]
    rw [h1] at q
    exact ⟨v', H, I.tok _, h4, q⟩
  · rw [h2]
    rw [h1] at q
    exact ⟨d, H, I.tok _, r2, q⟩
/-- d.pop(k), there -/
def rEPop (K : PySem.W.Frag) (w : World) : V → List V → Hp → VK → Prop := fun x xs H Q => ∃ (a : Addr) (es : EntL) (y kv v : V) (k : NestedKey), x = .ref a ∧ xs = [y] ∧ Free H a ∧ Dic K w H a es ∧ IsK K H y k ∧ atN es k = some (kv, v) ∧
  ∀ o, DicOb w a o (dropN es k) → Q v (upd H a (dicO a o))
theorem mt_epop (hu : X.A.units + 64 < cLine) : MtR X "dict.pop" (rEPop X.K X.w) := by
  intro pins s σ H x xs v us Q I rx rxs h
  obtain ⟨a, es, y, kv, w0, k, rfl, rfl, f, g, hk, hat, q⟩ := h
  cases rx
  obtain ⟨b, rfl⟩ := hk.ref
  obtain ⟨u1, rfl, r1⟩ := vals1 rxs
  cases r1
  obtain ⟨hs, hz, ys, rr, dd⟩ := g.of I
  have hz2 : ys.length ≤ sizeLine := by rw [← Paired.length rr]; exact hz
  rcases rr.at k with ⟨kv', v', p, h1, h2, h3, h4⟩ | ⟨h1, h2⟩
  · rw [hat] at h1
    cases h1
    refine call_pop_heap (hsz := hz2) (more := []) (.inl rfl) (F.args_dict_pop_2 _ _) (rm hu) (hk.is I) hs dd h2 fun h' dd' sb => ?_
    obtain ⟨o', e1, e2⟩ := DicOb.of hs (Nat.le_trans (List.length_filter_le _ _) hz) (rr.drop k) dd'
    exact ⟨w0, _, dic_write I f sb e1, h4, q _ e2⟩
  · rw [hat] at h1
    cases h1
/-- len(d) -/
def rELen (K : PySem.W.Frag) (w : World) : List V → Hp → VK → Prop := fun xs H Q => ∃ (p : Addr) (es : EntL), xs = [.ref p] ∧ Dic K w H p es ∧ Q (.int ((es.length : Nat) : Int)) H
theorem call_elen : CallR X (.builtin "len") (rELen X.K X.w) := by
  intro pins s σ H xs us Q I r h
  obtain ⟨p, es, rfl, g, q⟩ := h
  obtain ⟨u, rfl, rx⟩ := vals1 r
  cases rx
  obtain ⟨hs, hz, ys, rr, dd⟩ := g.of I
  have hl : es.length = ys.length := Paired.length rr
  refine call_len_dictH hs dd (by rw [← hl]; rw [sizeLine_eq] at hz; omega) ?_
  rw [← hl]
  exact ⟨.int ((es.length : Nat) : Int), H, I.tok _, ⟨_, rfl⟩, q⟩
/-- {} -/
def tENew (w : World) : TE := fun _ H Q => ∀ (p : Addr) (o : Obj), H p = none → DicOb w p o [] → Q (.ref p) (upd H p (dicO p o))
theorem pe_enew {pos : Pos} : PE X (.Dict [] [] pos) (tENew X.w) := ⟨fun pins s σ H Q I h => by
  have fr := I.hok.fresh (Nat.le_refl s.heap.objs.size)
  have hb : (s.heap.objs.size == sysModules) = false := beq_eq_false_iff_ne.mpr (Ne.symm (Nat.ne_of_lt I.big))
  have get : (s.heap.push { cls := .type "dict", data := .dict #[] }).get? s.heap.objs.size = some { cls := .type "dict", data := .dict #[] } := Heap.get?_push_size _ rfl
  refine wpAny_Dict_empty ⟨.ref s.heap.objs.size, _, I.laid (a := s.heap.objs.size) (o := dicO s.heap.objs.size { cls := .type "dict", data := .dict #[] }) (t' := s.toks) (fun _ _ q => Heap.get?_push_of_some _ q) (Nat.le_refl _) (dicO_ok get), rfl, h _ _ fr ?_⟩
  exact ⟨hb, Nat.zero_le _, ⟨rfl, rfl, rfl⟩, #[], 0, [], rfl, rfl, .nil, List.nodup_nil⟩⟩
/-- the keys of the locked dict at a, in their order -/
def ItkN (a : Addr) (od o : Obj) (xs : EntL) : It :=
  ⟨fun i H => H a = some (.frz od (dicO a o)) ∧ i < xs.length, fun i H x H' => H' = H ∧ ∃ y : NestedKey × V × V, xs[i]? = some y ∧ x = y.2.1, fun i H => H a = some (.frz od (dicO a o)) ∧ xs.length ≤ i⟩
theorem DicOb.ents {w : World} {a : Addr} {o : Obj} {xs : EntL} (h : DicOb w a o xs) : o.ExactDict ∧ (a == sysModules) = false ∧ ∃ es ep, o.data = .dict es ep ∧ es.size = xs.length ∧ ∀ (i : Nat) (y : NestedKey × V × V), xs[i]? = some y → ∃ en : DictEntry, es[i]? = some en ∧ RelV y.2.1 en.key := by
  obtain ⟨hs, hz, hx, es, ep, ys, hd, he, hr, hn⟩ := h
  refine ⟨hx, hs, es, ep, hd, ?_, fun i y hy => ?_⟩
  · rw [← Array.length_toList, he, List.length_map]
    exact (Paired.length hr).symm
  · obtain ⟨b, hb, e1, e2, e3⟩ := paired_get hr hy
    refine ⟨entN w b, ?_, ?_⟩
    · rw [← Array.getElem?_toList, he, List.getElem?_map, hb]
      rfl
    · rw [e2]
      rfl
theorem turn_keysN {P : Program} {w : World} {tg : Expr} {a : Addr} {od o : Obj} {es : Array DictEntry} {ep : Nat} {xs : EntL} (it : Addr) (hb : DicOb w a o xs) (hod : o.data = .dict es ep) :
    Turn P w K tg (ItkN a od o xs) [it] it (fun i h => h.IsKeyIter it a i xs.length ep) where
  mem := by simp
  obj := fun i h st b hb => by
    have e : b = it := by simpa using hb
    subst e
    obtain ⟨oi, e, c, dd⟩ := st
    exact ⟨oi, e, fun v z => by rw [dd] at z; cases z⟩
  keep := fun i h h' st k => st.at fun oi e => k it (by simp) oi e
  item := by
    intro X hP hw hK hc i pins s σ H E I hf st hg
    subst hP hw hK
    obtain ⟨hd, hi⟩ := hg
    obtain ⟨f0, f1, f2, f3, f4, f5⟩ := hf it (by simp)
    have ok : ObjOk X.prog X.w H s.heap a (.frz od (dicO a o)) := I.hok _ _ hd
    obtain ⟨hx, hs, es', ep', hdt, hsz, ent⟩ := hb.ents
    obtain ⟨rfl, rfl⟩ := dict_ep hod hdt
    obtain ⟨y, hy⟩ : ∃ p, xs[i]? = some p := ⟨xs[i], List.getElem?_eq_getElem hi⟩
    obtain ⟨en, hen, hkey⟩ := ent i y hy
    refine next_key_item st ok.2.1 hdt hsz hen fun h' st' sb => ?_
    have I1 : Inv X pins σ H { s with heap := h' } := I.turned (t' := s.toks) (fun b ob hb e => (sb.2 b hb).trans e) f0 f1 f3 f4 f5
    obtain ⟨oi, e, c, dd⟩ := id st'
    exact ⟨en.key, rfl, go_of (s := { s with heap := h' }) e c dd (by decide) ⟨y.2.1, H, I1, hkey, ⟨rfl, y, hy, rfl⟩, st', fun b hb => (hf b hb).1⟩⟩
  done := by
    intro X hP hw hK hc i pins s σ H E I hf st hg
    subst hP hw hK
    obtain ⟨hd, hi⟩ := hg
    obtain ⟨f0, f1, f2, f3, f4, f5⟩ := hf it (by simp)
    have ok : ObjOk X.prog X.w H s.heap a (.frz od (dicO a o)) := I.hok _ _ hd
    obtain ⟨hx, hs, es', ep', hdt, hsz, ent⟩ := hb.ents
    obtain ⟨rfl, rfl⟩ := dict_ep hod hdt
    exact next_key_end (I.ok.hd hc) st ok.2.1 hdt hsz hi fun h' eb => ⟨rfl, I.turned (t' := s.toks) (fun b ob hb e => eb b ob hb e) f0 f1 f3 f4 f5⟩
  self := fun A i s Q E st h => by
    refine wpAny_pyIter_slot st.typeIs F.slot_dict_keyiterator_iter (wpAny_call_entry F.slot_dict_keyiterator_iter st.typeIs F.entry_dict_keyiterator_iter ?_ (F.args_dict_keyiterator_iter_1 _))
    show wpAny _ _ (ret (.ref it)) _ _ s
    exact wpAny_pure ⟨_, rfl, "dict_keyiterator", _, st.typeIs, F.slot_dict_keyiterator_next.lookup, h⟩
/-- for k in d: the dict is locked (tLock) -/
def iKeysN (td : TE) (w : World) : TI := fun σ H R => td σ H fun x H1 => ∃ a od o xs, x = .ref a ∧ H1 a = some (.frz od (dicO a o)) ∧ DicOb w a o xs ∧ R (ItkN a od o xs) H1
theorem pi_keysN {tg e : Expr} {td : TE} (he : PE X e td) : PI X tg e (iKeysN td X.w) := by
  refine ⟨fun pins s σ H R I h => ?_⟩
  refine thn (he.run pins s σ H _ I h) fun u s1 ⟨x, H1, I1, rx, a, od, o, xs, ex, ha, hb, q⟩ => ?_
  subst ex
  obtain rfl : u = Value.ref a := rx
  have ok : ObjOk X.prog X.w H1 s1.heap a (.frz od (dicO a o)) := I1.hok _ _ ha
  obtain ⟨hx, hs, es, ep, hdt, hsz, ent⟩ := hb.ents
  refine iter_keys hs ok.2.1 hx hdt (pi_one (tk := s1.toks) I1 _ (turn_keysN _ hb hdt) ⟨_, Heap.get?_push_size _ rfl, rfl, ?_⟩ q)
  rw [hsz] <;> rfl
end
def k_NONE : PyData := .tuple [.str "none"]
def top (i : Nat) : Stmt := PySem.Challenge.pw_foretask_k47_publishing_writes.main.body.getD i (.Pass ⟨0, 0, 0, 0⟩)
abbrev s_put_value : Stmt := top 2
theorem sc_put_value : FnScope ["memory", "place", "value"] ["memory", "place", "value"] (defScope s_put_value) := ⟨rfl, rfl, rfl, by decide +kernel, rfl, by decide +kernel, by decide +kernel⟩
abbrev s_publish : Stmt := top 4
theorem sc_publish : FnScope ["memory", "writes", "place", "value"] ["memory", "writes"] (defScope s_publish) := ⟨rfl, rfl, rfl, by decide +kernel, rfl, by decide +kernel, by decide +kernel⟩
abbrev s__law_cell : Stmt := top 6
theorem sc__law_cell : FnScope ["script", "k"] ["script", "k"] (defScope s__law_cell) := ⟨rfl, rfl, rfl, by decide +kernel, rfl, by decide +kernel, by decide +kernel⟩
abbrev s__law_digits : Stmt := top 7
theorem sc__law_digits : FnScope ["script", "first", "last", "digits", "k", "cell", "turn", "seed"] ["script", "first", "last"] (defScope s__law_digits) := ⟨rfl, rfl, rfl, by decide +kernel, rfl, by decide +kernel, by decide +kernel⟩
abbrev s__law_draw : Stmt := top 8
theorem sc__law_draw : FnScope ["box", "many", "at"] ["box", "many"] (defScope s__law_draw) := ⟨rfl, rfl, rfl, by decide +kernel, rfl, by decide +kernel, by decide +kernel⟩
abbrev s__law_same : Stmt := top 9
theorem sc__law_same : FnScope ["actual", "expected", "k"] ["actual", "expected"] (defScope s__law_same) := ⟨rfl, rfl, rfl, by decide +kernel, rfl, by decide +kernel, by decide +kernel⟩
abbrev s__law_number : Stmt := top 10
theorem sc__law_number : FnScope ["box", "kind", "size"] ["box"] (defScope s__law_number) := ⟨rfl, rfl, rfl, by decide +kernel, rfl, by decide +kernel, by decide +kernel⟩
abbrev s__law_text : Stmt := top 11
theorem sc__law_text : FnScope ["box", "most", "signs", "text", "k"] ["box", "most"] (defScope s__law_text) := ⟨rfl, rfl, rfl, by decide +kernel, rfl, by decide +kernel, by decide +kernel⟩
abbrev s__law_value : Stmt := top 12
theorem sc__law_value : FnScope ["box", "kind", "task", "k"] ["box"] (defScope s__law_value) := ⟨rfl, rfl, rfl, by decide +kernel, rfl, by decide +kernel, by decide +kernel⟩
abbrev s__law_same_memory : Stmt := top 13
theorem sc__law_same_memory : FnScope ["actual", "expected", "place"] ["actual", "expected"] (defScope s__law_same_memory) := ⟨rfl, rfl, rfl, by decide +kernel, rfl, by decide +kernel, by decide +kernel⟩
abbrev s__law_place : Stmt := top 14
theorem sc__law_place : FnScope ["box", "task", "k"] ["box"] (defScope s__law_place) := ⟨rfl, rfl, rfl, by decide +kernel, rfl, by decide +kernel, by decide +kernel⟩
abbrev s_law : Stmt := top 15
theorem sc_law : FnScope ["script", "box", "memory", "k", "place", "value", "writes", "pair", "due", "turn"] ["script"] (defScope s_law) := ⟨rfl, rfl, rfl, by decide +kernel, rfl, by decide +kernel, by decide +kernel⟩
def dd_put_value : He.FnD := ⟨("put_value", none), "put_value", "put_value", defArgs s_put_value, defBody s_put_value, defScope s_put_value⟩
def dd_publish : He.FnD := ⟨("publish", none), "publish", "publish", defArgs s_publish, defBody s_publish, defScope s_publish⟩
def dd__law_cell : He.FnD := ⟨("_law_cell", none), "_law_cell", "_law_cell", defArgs s__law_cell, defBody s__law_cell, defScope s__law_cell⟩
def dd__law_digits : He.FnD := ⟨("_law_digits", none), "_law_digits", "_law_digits", defArgs s__law_digits, defBody s__law_digits, defScope s__law_digits⟩
def dd__law_draw : He.FnD := ⟨("_law_draw", none), "_law_draw", "_law_draw", defArgs s__law_draw, defBody s__law_draw, defScope s__law_draw⟩
def dd__law_same : He.FnD := ⟨("_law_same", none), "_law_same", "_law_same", defArgs s__law_same, defBody s__law_same, defScope s__law_same⟩
def dd__law_number : He.FnD := ⟨("_law_number", none), "_law_number", "_law_number", defArgs s__law_number, defBody s__law_number, defScope s__law_number⟩
def dd__law_text : He.FnD := ⟨("_law_text", none), "_law_text", "_law_text", defArgs s__law_text, defBody s__law_text, defScope s__law_text⟩
def dd__law_value : He.FnD := ⟨("_law_value", none), "_law_value", "_law_value", defArgs s__law_value, defBody s__law_value, defScope s__law_value⟩
def dd__law_same_memory : He.FnD := ⟨("_law_same_memory", none), "_law_same_memory", "_law_same_memory", defArgs s__law_same_memory, defBody s__law_same_memory, defScope s__law_same_memory⟩
def dd__law_place : He.FnD := ⟨("_law_place", none), "_law_place", "_law_place", defArgs s__law_place, defBody s__law_place, defScope s__law_place⟩
def dd_law : He.FnD := ⟨("law", none), "law", "law", defArgs s_law, defBody s_law, defScope s_law⟩
def hfa_0 : List He.Fa := [.glo "put_value", .glo "publish", .glo "_law_cell", .glo "_law_digits", .glo "_law_draw", .glo "_law_same", .glo "_law_number", .glo "_law_text", .glo "_law_value", .glo "_law_same_memory", .glo "_law_place", .glo "law", .free "len", .free "isinstance", .free "tuple", .free "int", .free "bool", .free "str", .free "dict", .free "range"]
def hfa : List He.Fa := hfa_0
def hfn_0 : List He.FnD := [dd_put_value, dd_publish, dd__law_cell, dd__law_digits, dd__law_draw, dd__law_same, dd__law_number, dd__law_text, dd__law_value, dd__law_same_memory, dd__law_place, dd_law]
def hfn : List He.FnD := hfn_0
def hts_0 : List He.Tab := []
def hts : List He.Tab := hts_0
def hex_0 : List Fx := [.con "NONE" k_NONE]
def hex : List Fx := hex_0
def hloose_0 : List Str := ["NONE", "__name__", "put_value", "publish", "_law_cell", "_law_digits", "_law_draw", "_law_same", "_law_number", "_law_text", "_law_value", "_law_same_memory", "_law_place"]
def hloose : List Str := hloose_0
abbrev HR : PySem.W.OpenRow := PySem.W.OpenLaw.row PySem.Challenge.rw_foretask_k47_publishing_writes
abbrev hk : PySem.W.Hook := hookM 6 hfa hfn hts hex
def hob (s : PySem.W.SharedT) : AlM := obsMG 6 hfa hfn hts hex (HandSHeadRun.getT s)
theorem hob_eq (s : PySem.W.SharedT) : hob s = hk.obs s.abs := obsMG_eq (HandSHeadRun.getT_eq s)
theorem run (w : World) : HandSHeadRun.RunEq HR (PySem.W.view HR.prog [15]) hk hob 40000 hloose w := by
  intro os
  kernel_rfl
/-! ### what a name may hold, without the heap -/
/-- imm: data that is never changed; the others may change and have one owner; fro: an instance that is never changed again; hol: lent -/
inductive M where
  | imm (d : PyData)
  | scr (ns : List Int)
  | fn (k : Nat)
  | hol
  | lst (xs : List M)
  | ins (c : Nat) (fs : List (Str × M))
  | fro (c : Nat) (fs : List (Str × PyData))
  | dic (kvs : List (PyData × PyData))
  | fdic (kvs : List (PyData × PyData))
/-- the addresses of the defs and classes that values name; which classes' instances are never written -/
structure Tb where
  fa : Nat → Addr
  ca : Nat → Addr
  fz : Nat → Bool
  wd : World
  ne : ∀ c c', fz c = true → fz c' = false → ca c ≠ ca c'
mutual
def noL : PyData → Bool
  | .list _ => false
  | .dict _ => false
  | .tuple xs => noLs xs
  | _ => true
def noLs : List PyData → Bool
  | [] => true
  | x :: xs => noL x && noLs xs
end
theorem noLs_append {a b : List PyData} (ha : noLs a = true) (hb : noLs b = true) : noLs (a ++ b) = true := by
  induction a with
  | nil => exact hb
  | cons x xs ih =>
    simp only [noLs, Bool.and_eq_true, List.cons_append] at ha ⊢
    exact ⟨ha.1, ih ha.2⟩
theorem noLs_iff : ∀ {a : List PyData}, noLs a = true ↔ ∀ x ∈ a, noL x = true
  | [] => by simp [noLs]
  | x :: xs => by
    simp only [noLs, Bool.and_eq_true, List.mem_cons, noLs_iff]
    exact ⟨fun h y hy => hy.elim (fun e => e ▸ h.1) (h.2 y), fun h => ⟨h x (.inl rfl), fun y hy => h y (.inr hy)⟩⟩
/-- the entries as data -/
inductive KD (K : PySem.W.Frag) (H : Hp) : EntL → List (PyData × PyData) → Prop
  | nil : KD K H [] []
  | cons {kv vv : V} {kd vd : PyData} {k : NestedKey} {xs : EntL} {kvs : List (PyData × PyData)} : Dq K H kv kd → kT kd = some k → (noL kd = true ∧ noL vd = true) → Dq K H vv vd → KD K H xs kvs → KD K H ((k, kv, vv) :: xs) ((kd, vd) :: kvs)
def atD (kvs : List (PyData × PyData)) (d : PyData) : Option PyData := (kvs.find? fun p => decide (kT p.1 = kT d)).map (·.2)
def putD (kvs : List (PyData × PyData)) (kd vd : PyData) : List (PyData × PyData) := if (atD kvs kd).isSome then kvs.map fun p => if kT p.1 = kT kd then (p.1, vd) else p else kvs ++ [(kd, vd)]
def dropD (kvs : List (PyData × PyData)) (kd : PyData) : List (PyData × PyData) := kvs.filter fun p => decide (kT p.1 ≠ kT kd)
section
variable {K : PySem.W.Frag} {H : Hp}
theorem KD.isK {xs : EntL} {kvs : List (PyData × PyData)} (h : KD K H xs kvs) : ∀ x ∈ xs, IsK K H x.2.1 x.1 := by
  induction h with
  | nil => exact fun _ z => nomatch z
  | @cons kv vv kd vd k xs kvs a b n c t ih =>
    intro x hx
    rcases List.mem_cons.mp hx with z | z
    · subst z
      exact ⟨kd, a, b⟩
    · exact ih x z
theorem KD.len {xs : EntL} {kvs : List (PyData × PyData)} (h : KD K H xs kvs) : xs.length = kvs.length := by
  induction h with
  | nil => rfl
  | cons a b n c t ih => exact congrArg (· + 1) ih
theorem KD.at {xs : EntL} {kvs : List (PyData × PyData)} (h : KD K H xs kvs) {d : PyData} {k : NestedKey} (hd : kT d = some k) :
    (∃ kv vv vd, atN xs k = some (kv, vv) ∧ atD kvs d = some vd ∧ Dq K H vv vd ∧ noL vd = true) ∨ (atN xs k = none ∧ atD kvs d = none) := by
  induction h with
  | nil => exact .inr ⟨rfl, rfl⟩
  | @cons kv vv kd vd k' xs kvs a b n c t ih =>
    by_cases e : k' = k
    · have e' : kT kd = kT d := by rw [b, hd, e]
      exact .inl ⟨kv, vv, vd, by simp [atN, List.find?_cons, e], by simp [atD, List.find?_cons, e'], c, n.2⟩
    · have e' : ¬ kT kd = kT d := fun z => e (by rw [b, hd] at z; exact Option.some.inj z)
      have a1 : atN ((k', kv, vv) :: xs) k = atN xs k := by simp [atN, List.find?_cons, e]
      have a2 : atD ((kd, vd) :: kvs) d = atD kvs d := by simp [atD, List.find?_cons, e']
      rw [a1, a2]
      exact ih
theorem KD.repl {xs : EntL} {kvs : List (PyData × PyData)} (h : KD K H xs kvs) {d vd : PyData} {k : NestedKey} {v : V} (hd : kT d = some k) (hv : Dq K H v vd) (nv : noL vd = true) :
    KD K H (xs.map fun x => if x.1 = k then (x.1, x.2.1, v) else x) (kvs.map fun p => if kT p.1 = kT d then (p.1, vd) else p) := by
  induction h with
  | nil => exact .nil
  | @cons kv vv kd vd' k' xs kvs a b n c t ih =>
    rw [List.map_cons, List.map_cons]
    by_cases e : k' = k
    · have e' : kT kd = kT d := by rw [b, hd, e]
      rw [if_pos e, if_pos e']
      exact .cons a b ⟨n.1, nv⟩ hv ih
    · have e' : ¬ kT kd = kT d := fun z => e (by rw [b, hd] at z; exact Option.some.inj z)
      rw [if_neg e, if_neg e']
      exact .cons a b n c ih
theorem KD.app {xs ys : EntL} {kvs kws : List (PyData × PyData)} (h : KD K H xs kvs) (g : KD K H ys kws) : KD K H (xs ++ ys) (kvs ++ kws) := by
  induction h with
  | nil => exact g
  | cons a b n c t ih => exact .cons a b n c ih
theorem KD.put {xs : EntL} {kvs : List (PyData × PyData)} (h : KD K H xs kvs) {d vd : PyData} {k : NestedKey} {kv v : V} (hk : Dq K H kv d) (nk : noL d = true) (hd : kT d = some k) (hv : Dq K H v vd) (nv : noL vd = true) : KD K H (putN xs k kv v) (putD kvs d vd) := by
  unfold putN putD
  rcases h.at hd with ⟨x1, x2, x3, x4, x5, x6⟩ | ⟨x1, x2⟩
  · rw [x4, x5]
    exact h.repl hd hv nv
  · rw [x1, x2]
    exact h.app (.cons hk hd ⟨nk, nv⟩ hv .nil)
theorem KD.drop {xs : EntL} {kvs : List (PyData × PyData)} (h : KD K H xs kvs) {d : PyData} {k : NestedKey} (hd : kT d = some k) : KD K H (dropN xs k) (dropD kvs d) := by
  induction h with
  | nil => exact .nil
  | @cons kv vv kd vd' k' xs kvs a b n c t ih =>
    unfold dropN dropD
    by_cases e : k' = k
    · have e' : kT kd = kT d := by rw [b, hd, e]
      rw [List.filter_cons_of_neg (by simpa using e), List.filter_cons_of_neg (by simpa using e')]
      exact ih
    · have e' : ¬ kT kd = kT d := fun z => e (by rw [b, hd] at z; exact Option.some.inj z)
      rw [List.filter_cons_of_pos (by simpa using e), List.filter_cons_of_pos (by simpa using e')]
      exact .cons a b n c ih
theorem KD.get {xs : EntL} {kvs : List (PyData × PyData)} (h : KD K H xs kvs) {i : Nat} {y : NestedKey × V × V} (e : xs[i]? = some y) : ∃ p, kvs[i]? = some p ∧ Dq K H y.2.1 p.1 ∧ noL p.1 = true := by
  induction h generalizing i with
  | nil => simp at e
  | @cons kv vv kd vd k xs kvs a b n c t ih =>
    cases i with
    | zero =>
      simp at e
      subst e
      exact ⟨_, rfl, a, n.1⟩
    | succ j => 
      obtain ⟨p, h1, h2⟩ := ih (i := j) (by simpa using e)
      exact ⟨p, by simpa using h1, h2⟩
end
/-- what never changes -/
def Stay (T : Tb) : HO → Prop
  | .tup _ => True
  | .frz _ _ => True
  | .ins C _ _ => ∃ c, T.fz c = true ∧ C = T.ca c
  | _ => False
/-- what an owner may change -/
def Wr (T : Tb) : HO → Prop
  | .lst _ => True
  | .ins C _ _ => ∃ c, T.fz c = false ∧ C = T.ca c
  | .ext _ => True
  | _ => False
theorem stay_wr {T : Tb} {o : HO} (h : Stay T o) (g : Wr T o) : False := by
  cases o with
  | ins C dx fs =>
    obtain ⟨c, h1, h2⟩ := h
    obtain ⟨c', g1, g2⟩ := g
    exact T.ne c c' h1 g1 (h2.symm.trans g2)
  | _ => first | exact h | exact g
def ScrAt (K : PySem.W.Frag) (H : Hp) (a : Addr) (xs : List V) : Prop :=
  (∃ o, H a = some (.frz o (.lst xs))) ∨ ∃ (o : Obj) (its : Array Value) (n : Nat), K.lookup a = some o ∧ o.cls = .type "list" ∧ o.dict = none ∧ o.data = .seq its n ∧ its.size ≤ sizeLine ∧ Vals xs its.toList
theorem ScrAt.seq {K : PySem.W.Frag} {H : Hp} {a : Addr} {xs : List V} (h : ScrAt K H a xs) : SqL K H a xs := by
  rcases h with h | h
  · exact .inl (.inr h)
  · exact .inr h
section
variable (K : PySem.W.Frag) (T : Tb) (H : Hp)
mutual
inductive Rep : V → M → List Addr → Prop
  | imm {v : V} {d : PyData} : Dq K H v d → noL d = true → Rep v (.imm d) []
  | scr {a : Addr} {ns : List Int} : ScrAt K H a (ns.map V.int) → Rep (.ref a) (.scr ns) []
  | fn {k : Nat} : Rep (.ref (T.fa k)) (.fn k) []
  | hol {v : V} : Rep v .hol []
  | lst {a : Addr} {vs : List V} {xs : List M} {f : List Addr} : H a = some (.lst vs) → Reps vs xs f → Rep (.ref a) (.lst xs) (a :: f)
  | ins {a dx : Addr} {c : Nat} {fvs : List (Str × V)} {fs : List (Str × M)} {f : List Addr} : H a = some (.ins (T.ca c) dx fvs) → T.fz c = false → fvs.map Prod.fst = fs.map Prod.fst → Reps (fvs.map Prod.snd) (fs.map Prod.snd) f → Rep (.ref a) (.ins c fs) (a :: f)
  | fro {a dx : Addr} {c : Nat} {fvs : List (Str × V)} {fs : List (Str × PyData)} : H a = some (.ins (T.ca c) dx fvs) → T.fz c = true → fvs.map Prod.fst = fs.map Prod.fst → DqAll K H (fvs.map Prod.snd) (fs.map Prod.snd) → noLs (fs.map Prod.snd) = true → Rep (.ref a) (.fro c fs) []
  | dic {a : Addr} {o : Obj} {xs : EntL} {kvs : List (PyData × PyData)} : H a = some (dicO a o) → DicOb T.wd a o xs → KD K H xs kvs → Rep (.ref a) (.dic kvs) [a]
  | fdic {a : Addr} {od o : Obj} {xs : EntL} {kvs : List (PyData × PyData)} : H a = some (.frz od (dicO a o)) → DicOb T.wd a o xs → KD K H xs kvs → Rep (.ref a) (.fdic kvs) []
inductive Reps : List V → List M → List Addr → Prop
  | nil : Reps [] [] []
  | cons {v : V} {x : M} {f g : List Addr} {vs : List V} {xs : List M} : Rep v x f → Reps vs xs g → Reps (v :: vs) (x :: xs) (f ++ g)
end
/-- the names' values -/
inductive EnvR : List (Option V) → List (Option M) → List Addr → Prop
  | nil : EnvR [] [] []
  | no {o : Option V} {σ : List (Option V)} {ρ : List (Option M)} {f : List Addr} : EnvR σ ρ f → EnvR (o :: σ) (.none :: ρ) f
  | yes {v : V} {x : M} {f g : List Addr} {σ : List (Option V)} {ρ : List (Option M)} : Rep K T H v x f → EnvR σ ρ g → EnvR (.some v :: σ) (.some x :: ρ) (f ++ g)
end
/-! ### data under change -/
def KeepX (H H' : Hp) : Prop := ∀ a o xs, H a = some (.frz o (.tup xs)) → H' a = some (.frz o (.tup xs))
mutual
theorem dp_keepX {K : PySem.W.Frag} {H H' : Hp} (k : KeepX H H') : ∀ {v : V} {d : PyData}, noL d = true → Dq K H v d → Dq K H' v d
  | _, _, _, .non => .non
  | _, _, _, .bl b => .bl b
  | _, _, _, .int i => .int i
  | _, _, _, .str x => .str x
  | _, _, h, .tup g a => .tup (g.elim (fun ⟨o, g, t⟩ => .inl ⟨o, k _ _ _ g, t⟩) .inr) (dp_keepXs k (by simpa [noL] using h) a)
theorem dp_keepXs {K : PySem.W.Frag} {H H' : Hp} (k : KeepX H H') : ∀ {vs : List V} {ds : List PyData}, noLs ds = true → DqAll K H vs ds → DqAll K H' vs ds
  | _, _, _, .nil => .nil
  | _, _, h, .cons a b => by
    simp only [noLs, Bool.and_eq_true] at h
    exact .cons (dp_keepX k h.1 a) (dp_keepXs k h.2 b)
end
theorem KD.keep {K : PySem.W.Frag} {H H' : Hp} (k : KeepX H H') {xs : EntL} {kvs : List (PyData × PyData)} (h : KD K H xs kvs) : KD K H' xs kvs := by
  induction h with
  | nil => exact .nil
  | cons a b n c t ih => exact .cons (dp_keepX k n.1 a) b n (dp_keepX k n.2 c) ih
section
variable {K : PySem.W.Frag} {T : Tb} {H H' H1 H2 : Hp}
/-- kept: what stays and what stands at g -/
def Kp (T : Tb) (g : List Addr) (H H' : Hp) : Prop := ∀ b o, H b = some o → (b ∈ g ∨ Stay T o) → H' b = some o
theorem Kp.x {g : List Addr} (k : Kp T g H H') : KeepX H H' := fun a o xs h => k _ _ h (.inr trivial)
theorem Kp.sub {g g' : List Addr} (k : Kp T g H H') (s : ∀ b ∈ g', b ∈ g) : Kp T g' H H' := fun b o h q => k b o h (q.elim (fun z => .inl (s b z)) .inr)
theorem ScrAt.keep {g : List Addr} {a : Addr} {xs : List V} (h : ScrAt K H a xs) (k : Kp T g H H') : ScrAt K H' a xs := by
  rcases h with ⟨o, h⟩ | h
  · exact .inl ⟨o, k _ _ h (.inr trivial)⟩
  · exact .inr h
mutual
theorem Rep.keep : ∀ {v : V} {x : M} {f : List Addr}, Rep K T H v x f → Kp T f H H' → Rep K T H' v x f
  | _, _, _, .imm a n, k => .imm (dp_keepX k.x n a) n
  | _, _, _, .scr h, k => .scr (h.keep k)
  | _, _, _, .fn, _ => .fn
  | _, _, _, .hol, _ => .hol
  | _, _, _, .lst h r, k => .lst (k _ _ h (.inl (List.mem_cons_self ..))) (Reps.keep r (k.sub fun b hb => List.mem_cons_of_mem _ hb))
  | _, _, _, .ins h z e r, k => .ins (k _ _ h (.inl (List.mem_cons_self ..))) z e (Reps.keep r (k.sub fun b hb => List.mem_cons_of_mem _ hb))
  | _, _, _, .fro h z e r n, k => .fro (k _ _ h (.inr ⟨_, z, rfl⟩)) z e (dp_keepXs k.x n r) n
  | _, _, _, .dic h z r, k => .dic (k _ _ h (.inl (List.mem_cons_self ..))) z (r.keep k.x)
  | _, _, _, .fdic h z r, k => .fdic (k _ _ h (.inr trivial)) z (r.keep k.x)
theorem Reps.keep : ∀ {vs : List V} {xs : List M} {f : List Addr}, Reps K T H vs xs f → Kp T f H H' → Reps K T H' vs xs f
  | _, _, _, .nil, _ => .nil
  | _, _, _, .cons a r, k => .cons (Rep.keep a (k.sub fun b hb => List.mem_append_left _ hb)) (Reps.keep r (k.sub fun b hb => List.mem_append_right _ hb))
end
theorem EnvR.keep : ∀ {σ : List (Option V)} {ρ : List (Option M)} {f : List Addr}, EnvR K T H σ ρ f → Kp T f H H' → EnvR K T H' σ ρ f
  | _, _, _, .nil, _ => .nil
  | _, _, _, .no r, k => .no (EnvR.keep r k)
  | _, _, _, .yes a r, k => .yes (a.keep (k.sub fun b hb => List.mem_append_left _ hb)) (EnvR.keep r (k.sub fun b hb => List.mem_append_right _ hb))
/-- what is owned may be written -/
def WrA (T : Tb) (H : Hp) (f : List Addr) : Prop := ∀ b ∈ f, ∃ o, H b = some o ∧ Wr T o
mutual
theorem Rep.wr : ∀ {v : V} {x : M} {f : List Addr}, Rep K T H v x f → WrA T H f
  | _, _, _, .imm _ _, b, hb => nomatch hb
  | _, _, _, .scr _, b, hb => nomatch hb
  | _, _, _, .fn, b, hb => nomatch hb
  | _, _, _, .hol, b, hb => nomatch hb
  | _, _, _, .lst (vs := vs) h r, b, hb => (List.mem_cons.mp hb).elim (fun e => ⟨.lst vs, e ▸ h, trivial⟩) (Reps.wr r b)
  | _, _, _, .ins (dx := dx) (c := c) (fvs := fvs) h z e r, b, hb => (List.mem_cons.mp hb).elim (fun e => ⟨.ins (T.ca c) dx fvs, e ▸ h, ⟨c, z, rfl⟩⟩) (Reps.wr r b)
  | _, _, _, .fro _ _ _ _ _, b, hb => nomatch hb
  | _, _, _, .dic (a := a) (o := o) h _ _, b, hb => (List.mem_cons.mp hb).elim (fun e => ⟨dicO a o, e ▸ h, trivial⟩) fun z => nomatch z
  | _, _, _, .fdic _ _ _, b, hb => nomatch hb
theorem Reps.wr : ∀ {vs : List V} {xs : List M} {f : List Addr}, Reps K T H vs xs f → WrA T H f
  | _, _, _, .nil, b, hb => nomatch hb
  | _, _, _, .cons a r, b, hb => (List.mem_append.mp hb).elim (Rep.wr a b) (Reps.wr r b)
end
theorem EnvR.wr : ∀ {σ : List (Option V)} {ρ : List (Option M)} {f : List Addr}, EnvR K T H σ ρ f → WrA T H f
  | _, _, _, .nil, b, hb => nomatch hb
  | _, _, _, .no r, b, hb => EnvR.wr r b hb
  | _, _, _, .yes a r, b, hb => (List.mem_append.mp hb).elim (a.wr b) (EnvR.wr r b)
/-- all but f is kept -/
def Chg (f : List Addr) (H H' : Hp) : Prop := ∀ b o, H b = some o → b ∉ f → H' b = some o
theorem Chg.kp {f g : List Addr} (c : Chg f H H') (w : WrA T H f) (d : ∀ b ∈ g, b ∉ f) : Kp T g H H' := fun b o h q => by
  refine c b o h fun hf => ?_
  rcases q with q | q
  · exact d b q hf
  · obtain ⟨o', h', w'⟩ := w b hf
    rw [h] at h'
    cases h'
    exact stay_wr q w'
theorem Same.kp {g : List Addr} (s : Same H H') : Kp T g H H' := fun b o h _ => s b o h
theorem Chg.same {f : List Addr} (s : Same H H') : Chg f H H' := fun b o h _ => s b o h
theorem Chg.nil (c : Chg [] H H') : Same H H' := fun b o h => c b o h (by simp)
/-- from what f owns to what f' owns -/
structure Mv (f : List Addr) (H : Hp) (f' : List Addr) (H' : Hp) : Prop where
  c : Chg f H H'
  n : ∀ b ∈ f', b ∈ f ∨ H b = none
theorem Mv.refl {f f' : List Addr} (s : ∀ b ∈ f', b ∈ f) : Mv f H f' H := ⟨fun _ _ h _ => h, fun b hb => .inl (s b hb)⟩
theorem Mv.same {f f' : List Addr} (s : Same H H') (h : ∀ b ∈ f', b ∈ f) : Mv f H f' H' := ⟨Chg.same s, fun b hb => .inl (h b hb)⟩
theorem Mv.trans {f f1 f2 : List Addr} (a : Mv f H f1 H1) (b : Mv f1 H1 f2 H2) : Mv f H f2 H2 := by
  refine ⟨fun c o h n => ?_, fun c hc => ?_⟩
  · refine b.c c o (a.c c o h n) fun hc => ?_
    rcases a.n c hc with z | z
    · exact n z
    · rw [h] at z
      cases z
  · rcases b.n c hc with z | z
    · exact a.n c z
    · by_cases hf : c ∈ f
      · exact .inl hf
      · refine .inr ?_
        cases e : H c with
        | none => rfl
        | some o =>
          have := a.c c o e hf
          rw [z] at this
          cases this
theorem Mv.sub {f f1 f2 : List Addr} (a : Mv f H f1 H1) (s : ∀ b ∈ f2, b ∈ f1) : Mv f H f2 H1 := ⟨a.c, fun b hb => a.n b (s b hb)⟩
theorem Mv.sup {f f1 g : List Addr} (a : Mv f H f1 H1) (s : ∀ b ∈ f, b ∈ g) : Mv g H f1 H1 := ⟨fun b o h n => a.c b o h fun z => n (s b z), fun b hb => (a.n b hb).elim (fun z => .inl (s b z)) .inr⟩
/-- what lies apart is kept, and lies apart from what is new -/
theorem Mv.apart {f f' g : List Addr} (m : Mv f H f' H') (w : WrA T H f) (wg : WrA T H g) (d : ∀ b ∈ g, b ∉ f) : Kp T g H H' ∧ ∀ b ∈ g, b ∉ f' :=
  ⟨m.c.kp w d, fun b hb hf => (m.n b hf).elim (d b hb) fun z => by
    obtain ⟨o, h, _⟩ := wg b hb
    rw [h] at z
    cases z⟩
end
section
variable {K : PySem.W.Frag} {T : Tb} {H H' H1 H2 : Hp}
theorem EnvR.len : ∀ {σ : List (Option V)} {ρ : List (Option M)} {F : List Addr}, EnvR K T H σ ρ F → σ.length = ρ.length
  | _, _, _, .nil => rfl
  | _, _, _, .no r => congrArg (· + 1) (EnvR.len r)
  | _, _, _, .yes _ r => congrArg (· + 1) (EnvR.len r)
theorem Reps.len : ∀ {vs : List V} {xs : List M} {F : List Addr}, Reps K T H vs xs F → vs.length = xs.length
  | _, _, _, .nil => rfl
  | _, _, _, .cons _ r => congrArg (· + 1) (Reps.len r)
/-- the value of a slot -/
theorem EnvR.get : ∀ {σ : List (Option V)} {ρ : List (Option M)} {F : List Addr} {i : Nat} {x : M}, EnvR K T H σ ρ F → ρ[i]? = some (some x) → ∃ v f, σ[i]? = some (some v) ∧ Rep K T H v x f ∧ ∀ b ∈ f, b ∈ F
  | _, _, _, i, x, .nil, h => by simp at h
  | _, _, _, 0, x, .no r, h => by simp at h
  | _, _, _, 0, x, .yes a r, h => by
    simp at h
    subst h
    exact ⟨_, _, rfl, a, fun b hb => List.mem_append_left _ hb⟩
  | _, _, _, i + 1, x, .no r, h => by
    obtain ⟨v, f, h1, h2, h3⟩ := EnvR.get (i := i) (x := x) r (by simpa using h)
    exact ⟨v, f, by simpa using h1, h2, h3⟩
  | _, _, _, i + 1, x, .yes a r, h => by
    obtain ⟨v, f, h1, h2, h3⟩ := EnvR.get (i := i) (x := x) r (by simpa using h)
    exact ⟨v, f, by simpa using h1, h2, fun b hb => List.mem_append_right _ (h3 b hb)⟩
/-- a slot is given another value -/
theorem EnvR.set : ∀ {σ : List (Option V)} {ρ : List (Option M)} {F : List Addr} {v : V} {x : M} {f : List Addr} (i : Nat), EnvR K T H σ ρ F → Rep K T H v x f → (f ++ F).Nodup →
    ∃ F', EnvR K T H (σ.set i (some v)) (ρ.set i (some x)) F' ∧ F'.Nodup ∧ ∀ b ∈ F', b ∈ f ++ F
  | _, _, _, v, x, f, i, .nil, a, n => ⟨[], .nil, List.nodup_nil, fun b hb => nomatch hb⟩
  | _, _, _, v, x, f, 0, .no r, a, n => ⟨_, .yes a r, n, fun b hb => hb⟩
  | _, _, _, v, x, f, 0, .yes (f := f1) (g := g1) a1 r, a, n => by
    refine ⟨_, .yes a r, ?_, fun b hb => ?_⟩
    · rw [List.nodup_append] at n ⊢
      refine ⟨n.1, (List.nodup_append.mp n.2.1).2.1, fun b hb c hc => n.2.2 b hb c (List.mem_append_right _ hc)⟩
    · rcases List.mem_append.mp hb with h | h
      · exact List.mem_append_left _ h
      · exact List.mem_append_right _ (List.mem_append_right _ h)
  | _, _, _, v, x, f, i + 1, .no r, a, n => by
    obtain ⟨F', h1, h2, h3⟩ := EnvR.set i r a n
    exact ⟨F', .no h1, h2, h3⟩
  | _, _, _, v, x, f, i + 1, .yes (f := f1) (g := g1) a1 r, a, n => by
    have n' : (f ++ g1).Nodup := by
      rw [List.nodup_append] at n ⊢
      exact ⟨n.1, (List.nodup_append.mp n.2.1).2.1, fun b hb c hc => n.2.2 b hb c (List.mem_append_right _ hc)⟩
    obtain ⟨F', h1, h2, h3⟩ := EnvR.set i r a n'
    refine ⟨_, .yes a1 h1, ?_, fun b hb => ?_⟩
    · rw [List.nodup_append] at n ⊢
      have n2 := List.nodup_append.mp n.2.1
      refine ⟨n2.1, h2, fun b hb c hc => ?_⟩
      rcases List.mem_append.mp (h3 c hc) with h | h
      · exact fun e => n.2.2 c h b (List.mem_append_left _ hb) e.symm
      · exact n2.2.2 b hb c h
    · rcases List.mem_append.mp hb with h | h
      · exact List.mem_append_right _ (List.mem_append_left _ h)
      · rcases List.mem_append.mp (h3 b h) with h | h
        · exact List.mem_append_left _ h
        · exact List.mem_append_right _ (List.mem_append_right _ h)
/-- a slot's value is lent -/
theorem EnvR.take : ∀ {σ : List (Option V)} {ρ : List (Option M)} {F : List Addr} {i : Nat} {x : M}, EnvR K T H σ ρ F → ρ[i]? = some (some x) →
    ∃ v f F', σ[i]? = some (some v) ∧ Rep K T H v x f ∧ EnvR K T H σ (ρ.set i (some .hol)) F' ∧ (f ++ F').Perm F
  | _, _, _, i, x, .nil, h => by simp at h
  | _, _, _, 0, x, .no r, h => by simp at h
  | _, _, _, 0, x, .yes a r, h => by
    simp at h
    subst h
    exact ⟨_, _, _, rfl, a, .yes .hol r, List.Perm.refl _⟩
  | _, _, _, i + 1, x, .no r, h => by
    obtain ⟨v, f, F', h1, h2, h3, h4⟩ := EnvR.take (i := i) (x := x) r (by simpa using h)
    exact ⟨v, f, F', by simpa using h1, h2, .no h3, h4⟩
  | _, _, _, i + 1, x, .yes (f := f1) (g := g1) a r, h => by
    obtain ⟨v, f, F', h1, h2, h3, h4⟩ := EnvR.take (i := i) (x := x) r (by simpa using h)
    refine ⟨v, f, f1 ++ F', by simpa using h1, h2, .yes a h3, ?_⟩
    rw [← List.append_assoc]
    refine (List.Perm.append_right _ List.perm_append_comm).trans ?_
    rw [List.append_assoc]
    exact List.Perm.append_left _ h4
/-- what was lent comes back -/
theorem EnvR.put : ∀ {σ : List (Option V)} {ρ : List (Option M)} {F : List Addr} {i : Nat} {v : V} {x : M} {f : List Addr}, EnvR K T H σ ρ F → σ[i]? = some (some v) → ρ[i]? = some (some .hol) → Rep K T H v x f →
    ∃ F', EnvR K T H σ (ρ.set i (some x)) F' ∧ (f ++ F).Perm F'
  | _, _, _, i, v, x, f, .nil, h, g, a => by simp at h
  | _, _, _, 0, v, x, f, .no r, h, g, a => by simp at g
  | _, _, _, 0, v, x, f, .yes b r, h, g, a => by
    simp at h g
    subst h g
    cases b
    exact ⟨_, .yes a r, List.Perm.refl _⟩
  | _, _, _, i + 1, v, x, f, .no r, h, g, a => by
    obtain ⟨F', h1, h2⟩ := EnvR.put (i := i) r (by simpa using h) (by simpa using g) a
    exact ⟨F', .no h1, h2⟩
  | _, _, _, i + 1, v, x, f, .yes (f := f1) (g := g1) b r, h, g, a => by
    obtain ⟨F', h1, h2⟩ := EnvR.put (i := i) r (by simpa using h) (by simpa using g) a
    refine ⟨f1 ++ F', .yes b h1, ?_⟩
    rw [← List.append_assoc]
    refine (List.Perm.append_right _ List.perm_append_comm).trans ?_
    rw [List.append_assoc]
    exact List.Perm.append_left _ h2
theorem EnvR.nones : ∀ (n : Nat), EnvR K T H (List.replicate n none) (List.replicate n none) []
  | 0 => .nil
  | n + 1 => .no (EnvR.nones n)
theorem EnvR.start : ∀ {vs : List V} {xs : List M} {F : List Addr} (n : Nat), Reps K T H vs xs F → EnvR K T H (vs.map some ++ List.replicate n none) (xs.map some ++ List.replicate n none) F
  | _, _, _, n, .nil => EnvR.nones n
  | _, _, _, n, .cons a r => .yes a (EnvR.start n r)
end
/-! ### what a piece of text does -/
abbrev Env' := List (Option M)
/-- how it ends: with a value, or with an exception of the program's own; and the names then -/
inductive Rs (S α : Type) where
  | ok (a : α) (s : S)
  | er (c : Nat) (fs : List (Str × PyData)) (s : S)
abbrev MM (α : Type) := Env' → Option (Rs Env' α)
def bindM {α β : Type} (m : MM α) (k : α → MM β) : MM β := fun ρ => match m ρ with
  | none => none
  | some (.ok a ρ1) => k a ρ1
  | some (.er c fs ρ1) => some (.er c fs ρ1)
def pureM {α : Type} (a : α) : MM α := fun ρ => some (.ok a ρ)
/-- a value that is there or not -/
def optM {α : Type} (o : Option α) : MM α := fun ρ => o.map fun a => .ok a ρ
/-- a pure piece -/
def liftM {α : Type} (m : Env' → Option α) : MM α := fun ρ => (m ρ).map fun a => .ok a ρ
/-- how a statement ends -/
inductive Fl where
  | nx
  | rt (x : M)
  | bk
  | ct
/-- what is wanted of an exception: its class, its dict, the slots, the heap -/
abbrev WXk := Value → Option Addr → L2.St → Hp → Prop
section
variable (K : PySem.W.Frag) (T : Tb)
/-- an exception's fields as its dict -/
def XdOk (H : Hp) (d : Addr) (fs : List (Str × PyData)) : Prop := ∃ vs, H d = some (.xd vs) ∧ ∀ n x, (n, x) ∈ fs → ∃ v, vs.lookup n = some v ∧ Dq K H v x ∧ noL x = true
def XOk (W : WXk) (H : Hp) (F : List Addr) (σ : L2.St) (c : Nat) (fs : List (Str × PyData)) (ρ : Env') : Prop :=
  ∀ d H' F', XdOk K H' d fs → EnvR K T H' σ ρ F' → F'.Nodup → Mv F H F' H' → W (.ref (T.ca c)) (some d) σ H'
/-- behind an expression -/
def GoE (W : WXk) (H : Hp) (F : List Addr) (σ : L2.St) (r : Rs Env' M) (Q : VK) : Prop := match r with
  | .ok x ρ => ∀ v H' f F', Rep K T H' v x f → EnvR K T H' σ ρ F' → (f ++ F').Nodup → Mv F H (f ++ F') H' → Q v H'
  | .er c fs ρ => XOk K T W H F σ c fs ρ
/-- .. a list of values that are data -/
def GoA (W : WXk) (H : Hp) (F : List Addr) (σ : L2.St) (r : Rs Env' (List PyData)) (Q : List V → Hp → Prop) : Prop := match r with
  | .ok xs ρ => ∀ vs H' F', DqAll K H' vs xs → noLs xs = true → EnvR K T H' σ ρ F' → F'.Nodup → Mv F H F' H' → Q vs H'
  | .er c fs ρ => XOk K T W H F σ c fs ρ
/-- behind a test -/
def GoT (W : WXk) (H : Hp) (F : List Addr) (σ : L2.St) (r : Rs Env' Bool) (Q : Bool → Hp → Prop) : Prop := match r with
  | .ok b ρ => ∀ H' F', EnvR K T H' σ ρ F' → F'.Nodup → Mv F H F' H' → Q b H'
  | .er c fs ρ => XOk K T W H F σ c fs ρ
/-- the slots that keep their value through the def -/
def Stb (S : List Nat) (σ σ' : L2.St) : Prop := ∀ i ∈ S, σ'[i]? = σ[i]?
/-- behind a statement -/
def GoS (S : List Nat) (W : WXk) (D : Ends) (H : Hp) (F : List Addr) (σ : L2.St) (r : Rs Env' Fl) : Prop := match r with
  | .ok .nx ρ => ∀ σ' H' F', Stb S σ σ' → EnvR K T H' σ' ρ F' → F'.Nodup → Mv F H F' H' → D.nx σ' H'
  | .ok .bk ρ => ∀ σ' H' F', Stb S σ σ' → EnvR K T H' σ' ρ F' → F'.Nodup → Mv F H F' H' → D.bk σ' H'
  | .ok .ct ρ => ∀ σ' H' F', Stb S σ σ' → EnvR K T H' σ' ρ F' → F'.Nodup → Mv F H F' H' → D.ct σ' H'
  | .ok (.rt x) ρ => ∀ v σ' H' f F', Stb S σ σ' → Rep K T H' v x f → EnvR K T H' σ' ρ F' → (f ++ F').Nodup → Mv F H (f ++ F') H' → D.rt v H'
  | .er c fs ρ => ∀ σ' d H' F', Stb S σ σ' → XdOk K H' d fs → EnvR K T H' σ' ρ F' → F'.Nodup → Mv F H F' H' → W (.ref (T.ca c)) (some d) σ' H'
end
/-- a pure expression, its value data -/
structure QE (T : Tb) (X : Cx) (e : Expr) (m : Env' → Option PyData) : Prop where
  ex : ∃ t : TE, PE X e t ∧ ∀ (σ : L2.St) (H : Hp) (ρ : Env') (F : List Addr) (d : PyData) (Q : VK), EnvR X.K T H σ ρ F → m ρ = some d →
    (∀ v H', Same H H' → Dq X.K H' v d → noL d = true → Q v H') → t σ H Q
/-- an expression that names what stands there already -/
structure QP (T : Tb) (X : Cx) (e : Expr) (m : Env' → Option M) : Prop where
  ex : ∃ t : TE, PE X e t ∧ ∀ (σ : L2.St) (H : Hp) (ρ : Env') (F : List Addr) (x : M) (Q : VK), EnvR X.K T H σ ρ F → m ρ = some x →
    (∀ v f, Rep X.K T H v x f → (∀ b ∈ f, b ∈ F) → Q v H) → t σ H Q
/-- any expression: it may change what the names own, its value is data or new -/
structure QX (T : Tb) (X : Cx) (W : WXk) (e : Expr) (m : MM M) : Prop where
  ex : ∃ t : TE, PE X e t ∧ ∀ (σ : L2.St) (H : Hp) (ρ : Env') (F : List Addr) (r : Rs Env' M) (Q : VK), EnvR X.K T H σ ρ F → F.Nodup → m ρ = some r → GoE X.K T W H F σ r Q → t σ H Q
/-- several, all data -/
structure QA (T : Tb) (X : Cx) (W : WXk) (es : List Expr) (m : MM (List PyData)) : Prop where
  ex : ∃ t : TA, PA X es t ∧ ∀ (σ : L2.St) (H : Hp) (ρ : Env') (F : List Addr) (r : Rs Env' (List PyData)) (Q : List V → Hp → Prop), EnvR X.K T H σ ρ F → F.Nodup → m ρ = some r → GoA X.K T W H F σ r Q → t σ H Q
/-- several pure ones -/
structure QAE (T : Tb) (X : Cx) (es : List Expr) (m : Env' → Option (List PyData)) : Prop where
  ex : ∃ t : TA, PA X es t ∧ ∀ (σ : L2.St) (H : Hp) (ρ : Env') (F : List Addr) (ds : List PyData) (Q : List V → Hp → Prop), EnvR X.K T H σ ρ F → m ρ = some ds →
    (∀ vs H', Same H H' → DqAll X.K H' vs ds → noLs ds = true → Q vs H') → t σ H Q
structure QT (T : Tb) (X : Cx) (W : WXk) (e : Expr) (m : MM Bool) : Prop where
  ex : ∃ t : TT, PT X e t ∧ ∀ (σ : L2.St) (H : Hp) (ρ : Env') (F : List Addr) (r : Rs Env' Bool) (Q : Bool → Hp → Prop), EnvR X.K T H σ ρ F → F.Nodup → m ρ = some r → GoT X.K T W H F σ r Q → t σ H Q
structure QW (T : Tb) (X : Cx) (W : WXk) (e : Expr) (m : MM Bool) : Prop where
  ex : ∃ t : TT, PW X e t ∧ ∀ (σ : L2.St) (H : Hp) (ρ : Env') (F : List Addr) (r : Rs Env' Bool) (Q : Bool → Hp → Prop), EnvR X.K T H σ ρ F → F.Nodup → m ρ = some r → GoT X.K T W H F σ r Q → t σ H Q
structure QS (T : Tb) (S : List Nat) (X : Cx) (W : WXk) (st : Stmt) (m : MM Fl) : Prop where
  ex : ∃ t : TS, PS X st t ∧ ∀ (σ : L2.St) (H : Hp) (ρ : Env') (F : List Addr) (r : Rs Env' Fl) (D : Ends), EnvR X.K T H σ ρ F → F.Nodup → m ρ = some r → GoS X.K T S W D H F σ r → t D σ H
structure QSs (T : Tb) (S : List Nat) (X : Cx) (W : WXk) (st : List Stmt) (m : MM Fl) : Prop where
  ex : ∃ t : TS, PSs X st t ∧ ∀ (σ : L2.St) (H : Hp) (ρ : Env') (F : List Addr) (r : Rs Env' Fl) (D : Ends), EnvR X.K T H σ ρ F → F.Nodup → m ρ = some r → GoS X.K T S W D H F σ r → t D σ H
/-- an expression whose value is data; it may change what the names own -/
def GoD (K : PySem.W.Frag) (T : Tb) (W : WXk) (H : Hp) (F : List Addr) (σ : L2.St) (r : Rs Env' PyData) (Q : VK) : Prop := match r with
  | .ok d ρ => ∀ v H' F', Dq K H' v d → noL d = true → EnvR K T H' σ ρ F' → F'.Nodup → Mv F H F' H' → Q v H'
  | .er c fs ρ => XOk K T W H F σ c fs ρ
structure QD (T : Tb) (X : Cx) (W : WXk) (e : Expr) (m : MM PyData) : Prop where
  ex : ∃ t : TE, PE X e t ∧ ∀ (σ : L2.St) (H : Hp) (ρ : Env') (F : List Addr) (r : Rs Env' PyData) (Q : VK), EnvR X.K T H σ ρ F → F.Nodup → m ρ = some r → GoD X.K T W H F σ r Q → t σ H Q
section
variable {T : Tb} {X : Cx} {W : WXk} {e a b c : Expr} {es : List Expr} {pos : Pos}
/-! #### from one kind to another -/
theorem dpAll_keepX {K : PySem.W.Frag} {H H' : Hp} (s : Same H H') {v : V} {d : PyData} (n : noL d = true) (h : Dq K H v d) : Dq K H' v d := dp_keepX (fun a o xs g => s _ _ g) n h
theorem EnvR.same {K : PySem.W.Frag} {H H' : Hp} {σ : L2.St} {ρ : Env'} {F : List Addr} (E : EnvR K T H σ ρ F) (s : Same H H') : EnvR K T H' σ ρ F := E.keep (Same.kp s)
theorem XOk.from {K : PySem.W.Frag} {H H' : Hp} {F F' : List Addr} {σ : L2.St} {c : Nat} {fs : List (Str × PyData)} {ρ : Env'} (x : XOk K T W H F σ c fs ρ) (m : Mv F H F' H') : XOk K T W H' F' σ c fs ρ :=
  fun d H2 F2 xd E n m2 => x d H2 F2 xd E n (m.trans m2)
def qM (m : Env' → Option PyData) : MM PyData := fun ρ => (m ρ).map fun d => .ok d ρ
theorem qd_e {m : Env' → Option PyData} (h : QE T X e m) : QD T X W e (qM m) := by
  obtain ⟨t, ht, q⟩ := h.ex
  refine ⟨t, ht, fun σ H ρ F r Q E n hm k => ?_⟩
  unfold qM at hm
  cases hd : m ρ with
  | none => rw [hd] at hm; cases hm
  | some d =>
    rw [hd] at hm
    cases hm
    exact q σ H ρ F d Q E hd fun v H' s dp nl => k v H' F dp nl (E.same s) n (Mv.same s fun _ hb => hb)
def dX (m : MM PyData) : MM M := bindM m fun d => pureM (.imm d)
theorem qx_d {m : MM PyData} (h : QD T X W e m) : QX T X W e (dX m) := by
  obtain ⟨t, ht, q⟩ := h.ex
  refine ⟨t, ht, fun σ H ρ F r Q E n hm k => ?_⟩
  unfold dX bindM at hm
  cases hd : m ρ with
  | none => rw [hd] at hm; cases hm
  | some r1 =>
    rw [hd] at hm
    refine q σ H ρ F r1 Q E n hd ?_
    cases r1 with
    | ok d ρ1 =>
      cases hm
      exact fun v H' F' dp nl E' n' mv => k v H' [] F' (.imm dp nl) E' n' mv
    | er c fs ρ1 =>
      cases hm
      exact k
/-- data out of any value -/
def dM : M → Option PyData
  | .imm d => some d
  | _ => none
def xD (m : MM M) : MM PyData := bindM m fun x => optM (dM x)
theorem qd_x {m : MM M} (h : QX T X W e m) : QD T X W e (xD m) := by
  obtain ⟨t, ht, q⟩ := h.ex
  refine ⟨t, ht, fun σ H ρ F r Q E n hm k => ?_⟩
  unfold xD bindM at hm
  cases hd : m ρ with
  | none => rw [hd] at hm; cases hm
  | some r1 =>
    rw [hd] at hm
    refine q σ H ρ F r1 Q E n hd ?_
    cases r1 with
    | ok x ρ1 =>
      cases x with
      | imm d =>
        cases hm
        intro v H' f F' r' E' n' mv
        cases r' with
        | imm dp nl => exact k v H' F' dp nl E' n' mv
      | _ => cases hm
    | er c fs ρ1 =>
      cases hm
      exact k
def pE (m : Env' → Option M) : Env' → Option PyData := fun ρ => (m ρ).bind dM
theorem qe_p {m : Env' → Option M} (h : QP T X e m) : QE T X e (pE m) := by
  obtain ⟨t, ht, q⟩ := h.ex
  refine ⟨t, ht, fun σ H ρ F d Q E hm k => ?_⟩
  unfold pE at hm
  cases hd : m ρ with
  | none => rw [hd] at hm; cases hm
  | some x =>
    rw [hd] at hm
    cases x with
    | imm d' =>
      cases hm
      refine q σ H ρ F _ Q E hd fun v f r _ => ?_
      cases r with
      | imm dp nl => exact k v H (Same.refl H) dp nl
    | _ => cases hm
/-! #### names, constants -/
def eP (i : Nat) : Env' → Option M := fun ρ => (ρ[i]?).join
theorem qp_v {i : Nat} (h : PE X e (tVar i)) : QP T X e (eP i) := by
  refine ⟨_, h, fun σ H ρ F x Q E hm k => ?_⟩
  unfold eP at hm
  cases hg : ρ[i]? with
  | none => rw [hg] at hm; cases hm
  | some o =>
    rw [hg] at hm
    cases o with
    | none => cases hm
    | some y =>
      cases hm
      obtain ⟨v, f, h1, h2, h3⟩ := E.get hg
      exact ⟨v, h1, k v f h2 h3⟩
def eV (i : Nat) : Env' → Option PyData := pE (eP i)
theorem qe_v {i : Nat} (h : PE X e (tVar i)) : QE T X e (eV i) := qe_p (qp_v h)
def eC (d : PyData) : Env' → Option PyData := fun _ => some d
theorem qe_c {v : V} {d : PyData} (h : PE X e (tC v)) (hd : ∀ H, Dq X.K H v d) (n : noL d = true := by rfl) : QE T X e (eC d) :=
  ⟨_, h, fun σ H ρ F d' Q E hm k => by
    cases hm
    exact k v H (Same.refl H) (hd H) n⟩
theorem qe_int {i : Int} {j pos} : QE T X (.Constant (.int i) j pos) (eC (.int i)) := qe_c pe_int fun _ => .int i
theorem qe_bl {i : Bool} {j pos} : QE T X (.Constant (.bool i) j pos) (eC (.bool i)) := qe_c pe_bl fun _ => .bl i
theorem qe_str {i : Str} {j pos} : QE T X (.Constant (.str i) j pos) (eC (.str i)) := qe_c pe_str fun _ => .str i
theorem qe_non {j pos} : QE T X (.Constant .none j pos) (eC .none) := qe_c pe_non fun _ => .non
/-! #### operators with two operands, by values -/
def Snd2 (K : PySem.W.Frag) (r : R2) (o : PyData → PyData → Option PyData) : Prop :=
  ∀ (H : Hp) (x y : V) (p q z : PyData) (Q : VK), Dq K H x p → noL p = true → Dq K H y q → noL q = true → o p q = some z → (∀ v H', Same H H' → Dq K H' v z → noL z = true → Q v H') → r x y H Q
def e2 (o : PyData → PyData → Option PyData) (ma mb : Env' → Option PyData) : Env' → Option PyData := fun ρ => (ma ρ).bind fun x => (mb ρ).bind fun y => o x y
theorem qe_2 {r : R2} {o : PyData → PyData → Option PyData} {ma mb : Env' → Option PyData} (s : Snd2 X.K r o) (mk : ∀ ta tb, PE X a ta → PE X b tb → PE X e (tOp r ta tb)) (ha : QE T X a ma) (hb : QE T X b mb) : QE T X e (e2 o ma mb) := by
  obtain ⟨ta, h1, q1⟩ := ha.ex
  obtain ⟨tb, h2, q2⟩ := hb.ex
  refine ⟨_, mk ta tb h1 h2, fun σ H ρ F d Q E hm k => ?_⟩
  unfold e2 at hm
  cases hx : ma ρ with
  | none => rw [hx] at hm; cases hm
  | some x =>
    cases hy : mb ρ with
    | none => rw [hx, hy] at hm; cases hm
    | some y =>
      rw [hx, hy] at hm
      refine q1 σ H ρ F x _ E hx fun u H1 s1 d1 n1 => ?_
      refine q2 σ H1 ρ F y _ (E.same s1) hy fun v H2 s2 d2 n2 => ?_
      exact s H2 u v x y d Q (dpAll_keepX s2 n1 d1) n1 d2 n2 hm fun w H3 s3 => k w H3 ((s1.trans s2).trans s3)
def d2 (o : PyData → PyData → Option PyData) (ma mb : MM PyData) : MM PyData := bindM ma fun x => bindM mb fun y => optM (o x y)
theorem qd_2 {r : R2} {o : PyData → PyData → Option PyData} {ma mb : MM PyData} (s : Snd2 X.K r o) (mk : ∀ ta tb, PE X a ta → PE X b tb → PE X e (tOp r ta tb)) (ha : QD T X W a ma) (hb : QD T X W b mb) : QD T X W e (d2 o ma mb) := by
  obtain ⟨ta, h1, q1⟩ := ha.ex
  obtain ⟨tb, h2, q2⟩ := hb.ex
  refine ⟨_, mk ta tb h1 h2, fun σ H ρ F r Q E n hm k => ?_⟩
  unfold d2 bindM at hm
  cases hx : ma ρ with
  | none => rw [hx] at hm; cases hm
  | some rx =>
    rw [hx] at hm
    refine q1 σ H ρ F rx _ E n hx ?_
    cases rx with
    | er c fs ρ1 => cases hm; exact k
    | ok x ρ1 =>
      intro u H1 F1 d1 n1 E1 nd1 m1
      dsimp only at hm
      cases hy : mb ρ1 with
      | none => rw [hy] at hm; cases hm
      | some ry =>
        rw [hy] at hm
        refine q2 σ H1 ρ1 F1 ry _ E1 nd1 hy ?_
        cases ry with
        | er c fs ρ2 => cases hm; exact XOk.from k m1
        | ok y ρ2 =>
          intro v H2 F2 d2 n2 E2 nd2 m2
          dsimp only [optM] at hm
          cases hz : o x y with
          | none => rw [hz] at hm; cases hm
          | some z =>
            rw [hz] at hm
            cases hm
            refine s H2 u v x y z Q (dp_keepX (m2.c.kp (g := []) E1.wr (fun _ h => nomatch h)).x n1 d1) n1 d2 n2 hz fun w H3 s3 dz nz => ?_
            exact k w H3 F2 dz nz (E2.same s3) nd2 ((m1.trans m2).trans (Mv.same s3 fun _ h => h))
/-! #### .. with one -/
def Snd1 (K : PySem.W.Frag) (r : V → Hp → VK → Prop) (o : PyData → Option PyData) : Prop :=
  ∀ (H : Hp) (x : V) (p z : PyData) (Q : VK), Dq K H x p → noL p = true → o p = some z → (∀ v H', Same H H' → Dq K H' v z → noL z = true → Q v H') → r x H Q
def e1 (o : PyData → Option PyData) (ma : Env' → Option PyData) : Env' → Option PyData := fun ρ => (ma ρ).bind o
theorem qe_1 {r : V → Hp → VK → Prop} {o : PyData → Option PyData} {ma : Env' → Option PyData} (s : Snd1 X.K r o) (mk : ∀ ta, PE X a ta → PE X e (tUn r ta)) (ha : QE T X a ma) : QE T X e (e1 o ma) := by
  obtain ⟨ta, h1, q1⟩ := ha.ex
  refine ⟨_, mk ta h1, fun σ H ρ F d Q E hm k => ?_⟩
  unfold e1 at hm
  cases hx : ma ρ with
  | none => rw [hx] at hm; cases hm
  | some x =>
    rw [hx] at hm
    refine q1 σ H ρ F x _ E hx fun u H1 s1 d1 n1 => ?_
    exact s H1 u x d Q d1 n1 hm fun w H3 s3 => k w H3 (s1.trans s3)
def d1 (o : PyData → Option PyData) (ma : MM PyData) : MM PyData := bindM ma fun x => optM (o x)
theorem qd_1 {r : V → Hp → VK → Prop} {o : PyData → Option PyData} {ma : MM PyData} (s : Snd1 X.K r o) (mk : ∀ ta, PE X a ta → PE X e (tUn r ta)) (ha : QD T X W a ma) : QD T X W e (d1 o ma) := by
  obtain ⟨ta, h1, q1⟩ := ha.ex
  refine ⟨_, mk ta h1, fun σ H ρ F r Q E n hm k => ?_⟩
  unfold d1 bindM at hm
  cases hx : ma ρ with
  | none => rw [hx] at hm; cases hm
  | some rx =>
    rw [hx] at hm
    refine q1 σ H ρ F rx _ E n hx ?_
    cases rx with
    | er c fs ρ1 => cases hm; exact k
    | ok x ρ1 =>
      intro u H1 F1 d1 n1 E1 nd1 m1
      dsimp only [optM] at hm
      cases hz : o x with
      | none => rw [hz] at hm; cases hm
      | some z =>
        rw [hz] at hm
        cases hm
        refine s H1 u x z Q d1 n1 hz fun w H3 s3 dz nz => ?_
        exact k w H3 F1 dz nz (E1.same s3) nd1 (m1.trans (Mv.same s3 fun _ h => h))
/-! #### rows of expressions -/
def aNil : Env' → Option (List PyData) := fun _ => some []
def aCons (m : Env' → Option PyData) (r : Env' → Option (List PyData)) : Env' → Option (List PyData) := fun ρ => (m ρ).bind fun x => (r ρ).map fun xs => x :: xs
theorem qae_nil : QAE T X [] aNil := ⟨_, pa_nil, fun σ H ρ F ds Q E hm k => by
  cases hm
  exact k [] H (Same.refl H) .nil rfl⟩
theorem qae_cons {m : Env' → Option PyData} {r : Env' → Option (List PyData)} (ha : QE T X a m) (hr : QAE T X es r) (hs : starEach (a :: es) X.env = (false, eval a X.env) :: starEach es X.env := by rfl) : QAE T X (a :: es) (aCons m r) := by
  obtain ⟨ta, h1, q1⟩ := ha.ex
  obtain ⟨tr, h2, q2⟩ := hr.ex
  refine ⟨_, pa_cons h1 h2 hs, fun σ H ρ F ds Q E hm k => ?_⟩
  unfold aCons at hm
  cases hx : m ρ with
  | none => rw [hx] at hm; cases hm
  | some x =>
    cases hy : r ρ with
    | none => rw [hx, hy] at hm; cases hm
    | some xs =>
      rw [hx, hy] at hm
      cases hm
      refine q1 σ H ρ F x _ E hx fun u H1 s1 d1 n1 => ?_
      refine q2 σ H1 ρ F xs _ (E.same s1) hy fun vs H2 s2 d2 n2 => ?_
      exact k _ H2 (s1.trans s2) (.cons (dpAll_keepX s2 n1 d1) d2) (by simp [noLs, n1, n2])
def bNil : MM (List PyData) := pureM []
def bCons (m : MM PyData) (r : MM (List PyData)) : MM (List PyData) := bindM m fun x => bindM r fun xs => pureM (x :: xs)
theorem qa_nil : QA T X W [] bNil := ⟨_, pa_nil, fun σ H ρ F r Q E n hm k => by
  cases hm
  exact k [] H F .nil rfl E n (Mv.refl fun _ h => h)⟩
theorem qa_cons {m : MM PyData} {r : MM (List PyData)} (ha : QD T X W a m) (hr : QA T X W es r) (hs : starEach (a :: es) X.env = (false, eval a X.env) :: starEach es X.env := by rfl) : QA T X W (a :: es) (bCons m r) := by
  obtain ⟨ta, h1, q1⟩ := ha.ex
  obtain ⟨tr, h2, q2⟩ := hr.ex
  refine ⟨_, pa_cons h1 h2 hs, fun σ H ρ F res Q E n hm k => ?_⟩
  unfold bCons bindM at hm
  cases hx : m ρ with
  | none => rw [hx] at hm; cases hm
  | some rx =>
    rw [hx] at hm
    refine q1 σ H ρ F rx _ E n hx ?_
    cases rx with
    | er c fs ρ1 => cases hm; exact k
    | ok x ρ1 =>
      intro u H1 F1 d1 n1 E1 nd1 m1
      dsimp only at hm
      cases hy : r ρ1 with
      | none => rw [hy] at hm; cases hm
      | some ry =>
        rw [hy] at hm
        refine q2 σ H1 ρ1 F1 ry _ E1 nd1 hy ?_
        cases ry with
        | er c fs ρ2 => cases hm; exact XOk.from k m1
        | ok xs ρ2 =>
          cases hm
          intro vs H2 F2 d2 n2 E2 nd2 m2
          exact k _ H2 F2 (.cons (dp_keepX (m2.c.kp (g := []) E1.wr (fun _ h => nomatch h)).x n1 d1) d2) (by simp [noLs, n1, n2]) E2 nd2 (m1.trans m2)
theorem dpAll_len {K : PySem.W.Frag} {H : Hp} : ∀ {vs : List V} {ds : List PyData}, DqAll K H vs ds → vs.length = ds.length
  | _, _, .nil => rfl
  | _, _, .cons _ t => congrArg (· + 1) (dpAll_len t)
/-- how many may stand in one tuple, list or text -/
def most : Nat := 1000000
theorem most_le {n : Nat} (h : n ≤ most) : n ≤ sizeLine := Nat.le_trans h (by decide)
theorem most_lt {n : Nat} (h : n ≤ most) : n < sizeLine := Nat.lt_of_le_of_lt h (by decide)
def eTup (m : Env' → Option (List PyData)) : Env' → Option PyData := fun ρ => (m ρ).bind fun ds => if ds.length ≤ most then some (.tuple ds) else none
theorem qe_tup {m : Env' → Option (List PyData)} {x1 : Nat} (h : QAE T X es m) : QE T X (.Tuple es x1 pos) (eTup m) := by
  obtain ⟨t, h1, q1⟩ := h.ex
  refine ⟨_, pe_tupF h1, fun σ H ρ F d Q E hm k => ?_⟩
  unfold eTup at hm
  cases hx : m ρ with
  | none => rw [hx] at hm; cases hm
  | some ds =>
    rw [hx] at hm
    dsimp only [Option.bind] at hm
    split at hm
    · rename_i hl
      cases hm
      refine q1 σ H ρ F ds _ E hx fun vs H1 s1 d1 n1 => ⟨by rw [dpAll_len d1]; exact most_le hl, fun p ob np to => ?_⟩
      have s2 : Same H1 (upd H1 p (.frz ob (.tup vs))) := fun b u q => by rw [upd_ne (ne_of_none q np)]; exact q
      refine k _ _ (s1.trans s2) (.tup (.inl ⟨ob, upd_same, to⟩) ?_) (by simpa [noL] using n1)
      exact dp_keepXs (fun a o xs g => s2 _ _ g) n1 d1
    · cases hm
def dTup (m : MM (List PyData)) : MM PyData := bindM m fun ds => optM (if ds.length ≤ most then some (.tuple ds) else none)
theorem qd_tup {m : MM (List PyData)} {x1 : Nat} (h : QA T X W es m) : QD T X W (.Tuple es x1 pos) (dTup m) := by
  obtain ⟨t, h1, q1⟩ := h.ex
  refine ⟨_, pe_tupF h1, fun σ H ρ F r Q E n hm k => ?_⟩
  unfold dTup bindM at hm
  cases hx : m ρ with
  | none => rw [hx] at hm; cases hm
  | some rx =>
    rw [hx] at hm
    refine q1 σ H ρ F rx _ E n hx ?_
    cases rx with
    | er c fs ρ1 => cases hm; exact k
    | ok ds ρ1 =>
      intro vs H1 F1 d1 n1 E1 nd1 m1
      dsimp only [optM] at hm
      split at hm
      · rename_i hl
        cases hm
        refine ⟨by rw [dpAll_len d1]; exact most_le hl, fun p ob np to => ?_⟩
        have s2 : Same H1 (upd H1 p (.frz ob (.tup vs))) := fun b u q => by rw [upd_ne (ne_of_none q np)]; exact q
        refine k _ _ F1 (.tup (.inl ⟨ob, upd_same, to⟩) ?_) (by simpa [noL] using n1) (E1.same s2) nd1 (m1.trans (Mv.same s2 fun _ h => h))
        exact dp_keepXs (fun a o xs g => s2 _ _ g) n1 d1
      · cases hm
end
/-! #### tests -/
section
variable {T : Tb} {X : Cx} {W : WXk} {e a b c : Expr} {es rest : List Expr} {pos : Pos}
def bM : PyData → Option Bool
  | .bool b => some b
  | _ => none
def tM (m : MM PyData) : MM Bool := bindM m fun d => optM (bM d)
/-- a value that is a bool, as a test -/
theorem qt_mk {m : MM PyData} {f : TE → TT} (mk : ∀ t, PE X e t → PT X e (f t)) (sp : ∀ (t : TE) (σ : L2.St) (H : Hp) (Q : Bool → Hp → Prop), t σ H (fun v H' => ∃ k, v = .bl k ∧ Q k H') → f t σ H Q) (h : QD T X W e m) : QT T X W e (tM m) := by
  obtain ⟨t, ht, q⟩ := h.ex
  refine ⟨f t, mk t ht, fun σ H ρ F r Q E n hm k => sp t σ H Q ?_⟩
  unfold tM bindM at hm
  cases hd : m ρ with
  | none => rw [hd] at hm; cases hm
  | some r1 =>
    rw [hd] at hm
    refine q σ H ρ F r1 _ E n hd ?_
    cases r1 with
    | ok d ρ1 =>
      cases d with
      | bool b =>
        cases hm
        intro v H' F' dp nl E' n' mv
        cases dp
        exact ⟨b, rfl, k H' F' E' n' mv⟩
      | _ => cases hm
    | er c fs ρ1 =>
      cases hm
      exact k
theorem qt_val {m : MM PyData} (h : QD T X W e m) (he : ∀ whole, isTrue e X.env whole = (do let v ← whole; standAt e.pos; holding [v] (truthy v)) := by intro _; rfl) : QT T X W e (tM m) :=
  qt_mk (f := tB) (fun t ht => pt_val ht he) (fun t σ H Q q => q) h
/-- a comparison as a test -/
theorem qt_cmp {op : CmpOp} {r : R2} {o : PyData → PyData → Option PyData} {ma mb : MM PyData} (ho : OpR X (compareOp op) r) (s : Snd2 X.K r o) (hm : behindInMarks op b = false) (ha : QD T X W a ma) (hb : QD T X W b mb) :
    QT T X W (.Compare a [op] [b] pos) (tM (d2 o ma mb)) := by
  obtain ⟨ta, h1, q1⟩ := ha.ex
  obtain ⟨tb, h2, q2⟩ := hb.ex
  obtain ⟨t, ht, q⟩ := (qd_2 (e := .Compare a [op] [b] pos) s (fun ta tb h1 h2 => pe_cmpR ho h1 h2 hm) ⟨⟨ta, h1, q1⟩⟩ ⟨⟨tb, h2, q2⟩⟩).ex
  have z : QD T X W (.Compare a [op] [b] pos) (d2 o ma mb) := qd_2 s (fun ta tb h1 h2 => pe_cmpR ho h1 h2 hm) ⟨⟨ta, h1, q1⟩⟩ ⟨⟨tb, h2, q2⟩⟩
  refine ⟨tTest (tOp r ta tb), pt_cmpR ho h1 h2 hm, fun σ H ρ F res Q E n hres k => ?_⟩
  show tOp r ta tb σ H fun x H' => ∃ k, x = .bl k ∧ Q k H'
  unfold tM bindM at hres
  cases hx : ma ρ with
  | none =>
    unfold d2 bindM at hres
    rw [hx] at hres
    cases hres
  | some rx =>
    unfold d2 bindM at hres
    rw [hx] at hres
    refine q1 σ H ρ F rx _ E n hx ?_
    cases rx with
    | er c fs ρ1 => cases hres; exact k
    | ok x ρ1 =>
      intro u H1 F1 d1 n1 E1 nd1 m1
      dsimp only at hres
      cases hy : mb ρ1 with
      | none => rw [hy] at hres; cases hres
      | some ry =>
        rw [hy] at hres
        refine q2 σ H1 ρ1 F1 ry _ E1 nd1 hy ?_
        cases ry with
        | er c fs ρ2 => cases hres; exact XOk.from k m1
        | ok y ρ2 =>
          intro v H2 F2 d2 n2 E2 nd2 m2
          dsimp only [optM] at hres
          cases hz : o x y with
          | none => rw [hz] at hres; cases hres
          | some z =>
            rw [hz] at hres
            cases z with
            | bool bb =>
              cases hres
              refine s H2 u v x y (.bool bb) _ (dp_keepX (m2.c.kp (g := []) E1.wr (fun _ h => nomatch h)).x n1 d1) n1 d2 n2 hz fun w H3 s3 dz nz => ?_
              cases dz
              exact ⟨bb, rfl, k H3 F2 (E2.same s3) nd2 ((m1.trans m2).trans (Mv.same s3 fun _ h => h))⟩
            | _ => cases hres
/-- a value's truth -/
def truM : M → Option Bool
  | .imm .none => some false
  | .imm (.bool b) => some b
  | .imm (.int i) => some (i != 0)
  | .imm (.str y) => if y.length ≤ most then some ((y.length : Int) != 0) else none
  | .imm (.tuple xs) => some (!xs.isEmpty)
  | .lst xs => some (!xs.isEmpty)
  | _ => none
theorem tru_d {K : PySem.W.Frag} {H : Hp} {v : V} {x : M} {f : List Addr} {b : Bool} (r : Rep K T H v x f) (h : truM x = some b) : TruV K v H b := by
  cases r with
  | imm dp n =>
    cases dp with
    | non => cases h; rfl
    | bl k => cases h; rfl
    | int i => cases h; rfl
    | str y =>
      simp only [truM] at h
      split at h
      · rename_i hl
        cases h
        exact ⟨most_le hl, rfl⟩
      · cases h
    | tup s a =>
      cases h
      refine .inr (.inl ⟨_, s.sq, ?_⟩)
      cases a <;> rfl
  | lst hl rs =>
    cases h
    refine .inl ⟨_, SqL.of hl, ?_⟩
    cases rs <;> rfl
  | _ => cases h

def uM (m : MM M) : MM Bool := bindM m fun x => optM (truM x)
/-- any value as a test -/
theorem qt_truth {m : MM M} (h : QX T X W e m) (he : ∀ whole, isTrue e X.env whole = (do let v ← whole; standAt e.pos; holding [v] (truthy v)) := by intro _; rfl) : QT T X W e (uM m) := by
  obtain ⟨t, ht, q⟩ := h.ex
  refine ⟨_, pt_truth ht he, fun σ H ρ F r Q E n hm k => ?_⟩
  unfold uM bindM at hm
  cases hd : m ρ with
  | none => rw [hd] at hm; cases hm
  | some r1 =>
    rw [hd] at hm
    refine q σ H ρ F r1 _ E n hd ?_
    cases r1 with
    | ok x ρ1 =>
      dsimp only [optM] at hm
      cases hz : truM x with
      | none => rw [hz] at hm; cases hm
      | some b =>
        rw [hz] at hm
        cases hm
        intro v H' f F' rp E' n' mv
        exact ⟨b, tru_d rp hz, k H' F' E' (List.nodup_append.mp n').2.1 (mv.sub fun _ h => List.mem_append_right _ h)⟩
    | er c fs ρ1 =>
      cases hm
      exact k
def uP (m : Env' → Option M) : MM Bool := fun ρ => ((m ρ).bind truM).map fun b => .ok b ρ
/-- .. of what stands there -/
theorem qt_truthP {m : Env' → Option M} (h : QP T X e m) (he : ∀ whole, isTrue e X.env whole = (do let v ← whole; standAt e.pos; holding [v] (truthy v)) := by intro _; rfl) : QT T X W e (uP m) := by
  obtain ⟨t, ht, q⟩ := h.ex
  refine ⟨_, pt_truth ht he, fun σ H ρ F r Q E n hm k => ?_⟩
  unfold uP at hm
  cases hd : m ρ with
  | none => rw [hd] at hm; cases hm
  | some x =>
    rw [hd] at hm
    dsimp only [Option.bind] at hm
    cases hz : truM x with
    | none => rw [hz] at hm; cases hm
    | some b =>
      rw [hz] at hm
      cases hm
      exact q σ H ρ F x _ E hd fun v f rp _ => ⟨b, tru_d rp hz, k H F E n (Mv.refl fun _ h => h)⟩
theorem qw_t {m : MM Bool} (h : QW T X W e m) : QT T X W e m := by
  obtain ⟨t, ht, q⟩ := h.ex
  exact ⟨t, ht.pt, q⟩
def andM (m k : MM Bool) : MM Bool := bindM m fun b => if b then k else pureM false
def orM (m k : MM Bool) : MM Bool := bindM m fun b => if b then pureM true else k
def notM (m : MM Bool) : MM Bool := bindM m fun b => pureM (!b)
theorem qw_and1 {m : MM Bool} (h : QT T X W a m) : QW T X W (.BoolOp .And [a] pos) m := by
  obtain ⟨t, ht, q⟩ := h.ex
  exact ⟨t, pw_and1 ht, q⟩
theorem qw_or1 {m : MM Bool} (h : QT T X W a m) : QW T X W (.BoolOp .Or [a] pos) m := by
  obtain ⟨t, ht, q⟩ := h.ex
  exact ⟨t, pw_or1 ht, q⟩
theorem goT_bind {K : PySem.W.Frag} {t u : TT} {m k' : MM Bool} {g : Bool → MM Bool} {f : Bool → L2.St → Hp → (Bool → Hp → Prop) → Prop} (q : ∀ (σ : L2.St) (H : Hp) (ρ : Env') (F : List Addr) (r : Rs Env' Bool) (Q : Bool → Hp → Prop), EnvR K T H σ ρ F → F.Nodup → m ρ = some r → GoT K T W H F σ r Q → t σ H Q)
    (q2 : ∀ (b : Bool) (σ : L2.St) (H : Hp) (ρ : Env') (F : List Addr) (r : Rs Env' Bool) (Q : Bool → Hp → Prop), EnvR K T H σ ρ F → F.Nodup → g b ρ = some r → GoT K T W H F σ r Q → f b σ H Q) :
    ∀ (σ : L2.St) (H : Hp) (ρ : Env') (F : List Addr) (r : Rs Env' Bool) (Q : Bool → Hp → Prop), EnvR K T H σ ρ F → F.Nodup → bindM m g ρ = some r → GoT K T W H F σ r Q → t σ H fun b H1 => f b σ H1 Q := by
  intro σ H ρ F r Q E n hm k
  unfold bindM at hm
  cases hd : m ρ with
  | none => rw [hd] at hm; cases hm
  | some r1 =>
    rw [hd] at hm
    refine q σ H ρ F r1 _ E n hd ?_
    cases r1 with
    | er c fs ρ1 => cases hm; exact k
    | ok b ρ1 =>
      intro H' F' E' n' mv
      refine q2 b σ H' ρ1 F' r Q E' n' hm ?_
      cases r with
      | ok b2 ρ2 => exact fun H2 F2 E2 n2 m2 => k H2 F2 E2 n2 (mv.trans m2)
      | er c fs ρ2 => exact XOk.from k mv
theorem goT_pure {K : PySem.W.Frag} {b : Bool} (σ : L2.St) (H : Hp) (ρ : Env') (F : List Addr) (r : Rs Env' Bool) (Q : Bool → Hp → Prop) (E : EnvR K T H σ ρ F) (n : F.Nodup) (hm : pureM b ρ = some r) (k : GoT K T W H F σ r Q) : Q b H := by
  cases hm
  exact k H F E n (Mv.refl fun _ h => h)
theorem qw_and {m k : MM Bool} (h : QT T X W a m) (h2 : QW T X W (.BoolOp .And (b :: rest) pos) k) : QW T X W (.BoolOp .And (a :: b :: rest) pos) (andM m k) := by
  obtain ⟨t, ht, q⟩ := h.ex
  obtain ⟨u, hu, q2⟩ := h2.ex
  refine ⟨_, pw_and ht hu, goT_bind (k' := k) (u := u) (f := fun c σ H Q => if c = true then u σ H Q else Q false H) q fun c σ H ρ F r Q E n hm kk => ?_⟩
  cases c with
  | true => exact q2 σ H ρ F r Q E n hm kk
  | false => exact goT_pure σ H ρ F r Q E n hm kk
theorem qw_or {m k : MM Bool} (h : QT T X W a m) (h2 : QW T X W (.BoolOp .Or (b :: rest) pos) k) : QW T X W (.BoolOp .Or (a :: b :: rest) pos) (orM m k) := by
  obtain ⟨t, ht, q⟩ := h.ex
  obtain ⟨u, hu, q2⟩ := h2.ex
  refine ⟨_, pw_or ht hu, goT_bind (k' := k) (u := u) (f := fun c σ H Q => if c = true then Q true H else u σ H Q) q fun c σ H ρ F r Q E n hm kk => ?_⟩
  cases c with
  | true => exact goT_pure σ H ρ F r Q E n hm kk
  | false => exact q2 σ H ρ F r Q E n hm kk
theorem qt_not {m : MM Bool} (h : QT T X W a m) : QT T X W (.UnaryOp .Not a pos) (notM m) := by
  obtain ⟨t, ht, q⟩ := h.ex
  exact ⟨_, pt_not ht, goT_bind (k' := m) (u := t) (f := fun c σ H Q => Q (!c) H) q fun c σ H ρ F r Q E n hm kk => goT_pure σ H ρ F r Q E n hm kk⟩
/-! #### a and b, a or b, not a, a if t else b, as values -/
def tV (m : MM Bool) : MM PyData := bindM m fun b => pureM (.bool b)
def ifM {α : Type} (t : MM Bool) (m k : MM α) : MM α := bindM t fun b => if b then m else k
theorem qd_if {m k : MM PyData} {tm : MM Bool} (ht : QT T X W c tm) (ha : QD T X W a m) (hb : QD T X W b k) : QD T X W (.IfExp c a b pos) (ifM tm m k) := by
  obtain ⟨t, h1, q1⟩ := ht.ex
  obtain ⟨ta, h2, q2⟩ := ha.ex
  obtain ⟨tb, h3, q3⟩ := hb.ex
  refine ⟨_, pe_ifExp h1 h2 h3, fun σ H ρ F r Q E n hm kk => ?_⟩
  unfold ifM bindM at hm
  cases hd : tm ρ with
  | none => rw [hd] at hm; cases hm
  | some r1 =>
    rw [hd] at hm
    refine q1 σ H ρ F r1 _ E n hd ?_
    cases r1 with
    | er c fs ρ1 => cases hm; exact kk
    | ok b ρ1 =>
      intro H' F' E' n' mv
      have kk' : GoD X.K T W H' F' σ r Q := by
        cases r with
        | ok d ρ2 => exact fun v H2 F2 dp nl E2 n2 m2 => kk v H2 F2 dp nl E2 n2 (mv.trans m2)
        | er c fs ρ2 => exact XOk.from kk mv
      cases b with
      | true => exact q2 σ H' ρ1 F' r Q E' n' hm kk'
      | false => exact q3 σ H' ρ1 F' r Q E' n' hm kk'
/-- x and y, x or y as values, all but the last bools -/
def dAnd (m k : MM PyData) : MM PyData := bindM m fun d => match d with | .bool true => k | .bool false => pureM (.bool false) | _ => fun _ => none
def dOr (m k : MM PyData) : MM PyData := bindM m fun d => match d with | .bool true => pureM (.bool true) | .bool false => k | _ => fun _ => none
theorem qd_one {op} {m : MM PyData} (h : QD T X W a m) : QD T X W (.BoolOp op [a] pos) m := by
  obtain ⟨t, ht, q⟩ := h.ex
  exact ⟨t, pe_one ht, q⟩
theorem goD_pure {K : PySem.W.Frag} {b : PyData} {v : V} (σ : L2.St) (H : Hp) (ρ : Env') (F : List Addr) (r : Rs Env' PyData) (Q : VK) (E : EnvR K T H σ ρ F) (n : F.Nodup) (hm : pureM b ρ = some r) (k : GoD K T W H F σ r Q) (dp : Dq K H v b) (nl : noL b = true) : Q v H := by
  cases hm
  exact k v H F dp nl E n (Mv.refl fun _ h => h)
theorem goD_from {K : PySem.W.Frag} {H H' : Hp} {F F' : List Addr} {σ : L2.St} {r : Rs Env' PyData} {Q : VK} (kk : GoD K T W H F σ r Q) (mv : Mv F H F' H') : GoD K T W H' F' σ r Q := by
  cases r with
  | ok d ρ2 => exact fun v H2 F2 dp nl E2 n2 m2 => kk v H2 F2 dp nl E2 n2 (mv.trans m2)
  | er c fs ρ2 => exact XOk.from kk mv
theorem qd_and {m k : MM PyData} (h : QD T X W a m) (h2 : QD T X W (.BoolOp .And (b :: rest) pos) k) : QD T X W (.BoolOp .And (a :: b :: rest) pos) (dAnd m k) := by
  obtain ⟨t, ht, q⟩ := h.ex
  obtain ⟨u, hu, q2⟩ := h2.ex
  refine ⟨_, pe_and ht hu, fun σ H ρ F r Q E n hm kk => ?_⟩
  unfold dAnd bindM at hm
  cases hd : m ρ with
  | none => rw [hd] at hm; cases hm
  | some r1 =>
    rw [hd] at hm
    refine q σ H ρ F r1 _ E n hd ?_
    cases r1 with
    | er c fs ρ1 => cases hm; exact kk
    | ok d ρ1 =>
      intro v H' F' dp nl E' n' mv
      cases d with
      | bool b =>
        cases dp
        refine ⟨b, rfl, ?_⟩
        cases b with
        | true => exact q2 σ H' ρ1 F' r Q E' n' hm (goD_from kk mv)
        | false => exact goD_pure σ H' ρ1 F' r Q E' n' hm (goD_from kk mv) (.bl false) rfl
      | _ => cases hm
theorem qd_or {m k : MM PyData} (h : QD T X W a m) (h2 : QD T X W (.BoolOp .Or (b :: rest) pos) k) : QD T X W (.BoolOp .Or (a :: b :: rest) pos) (dOr m k) := by
  obtain ⟨t, ht, q⟩ := h.ex
  obtain ⟨u, hu, q2⟩ := h2.ex
  refine ⟨_, pe_or ht hu, fun σ H ρ F r Q E n hm kk => ?_⟩
  unfold dOr bindM at hm
  cases hd : m ρ with
  | none => rw [hd] at hm; cases hm
  | some r1 =>
    rw [hd] at hm
    refine q σ H ρ F r1 _ E n hd ?_
    cases r1 with
    | er c fs ρ1 => cases hm; exact kk
    | ok d ρ1 =>
      intro v H' F' dp nl E' n' mv
      cases d with
      | bool b =>
        cases dp
        refine ⟨b, rfl, ?_⟩
        cases b with
        | true => exact goD_pure σ H' ρ1 F' r Q E' n' hm (goD_from kk mv) (.bl true) rfl
        | false => exact q2 σ H' ρ1 F' r Q E' n' hm (goD_from kk mv)
      | _ => cases hm
def dNot (m : MM PyData) : MM PyData := bindM m fun d => match d with | .bool b => pureM (.bool (!b)) | _ => fun _ => none
theorem qd_not {m : MM PyData} (h : QD T X W a m) : QD T X W (.UnaryOp .Not a pos) (dNot m) := by
  obtain ⟨t, ht, q⟩ := h.ex
  refine ⟨_, pe_not ht, fun σ H ρ F r Q E n hm kk => ?_⟩
  unfold dNot bindM at hm
  cases hd : m ρ with
  | none => rw [hd] at hm; cases hm
  | some r1 =>
    rw [hd] at hm
    refine q σ H ρ F r1 _ E n hd ?_
    cases r1 with
    | er c fs ρ1 => cases hm; exact kk
    | ok d ρ1 =>
      intro v H' F' dp nl E' n' mv
      cases d with
      | bool b =>
        cases dp
        exact ⟨b, rfl, goD_pure σ H' ρ1 F' r Q E' n' hm (goD_from kk mv) (.bl _) rfl⟩
      | _ => cases hm
end
/-! ### the operators on data -/
section
variable {K : PySem.W.Frag} {X : Cx}
theorem dp_int {H : Hp} {v : V} {i : Int} (h : Dq K H v (.int i)) : v = .int i := by cases h; rfl
theorem dp_str {H : Hp} {v : V} {i : Str} (h : Dq K H v (.str i)) : v = .str i := by cases h; rfl
theorem dp_bl {H : Hp} {v : V} {i : Bool} (h : Dq K H v (.bool i)) : v = .bl i := by cases h; rfl
theorem dp_non {H : Hp} {v : V} (h : Dq K H v .none) : v = .non := by cases h; rfl
theorem dp_tupX {H : Hp} {v : V} {ds : List PyData} (h : Dq K H v (.tuple ds)) : ∃ a xs, v = .ref a ∧ Tq K H a xs ∧ DqAll K H xs ds := by cases h with | tup s a => exact ⟨_, _, rfl, s, a⟩
theorem newT {H : Hp} {p : Addr} {ob : Obj} {xs : List V} {ds : List PyData} (np : H p = none) (to : TupO ob) (n : noLs ds = true) (a : DqAll K H xs ds) : Same H (upd H p (.frz ob (.tup xs))) ∧ Dq K (upd H p (.frz ob (.tup xs))) (.ref p) (.tuple ds) := by
  have s2 : Same H (upd H p (.frz ob (.tup xs))) := fun b u q => by rw [upd_ne (ne_of_none q np)]; exact q
  exact ⟨s2, .tup (.inl ⟨ob, upd_same, to⟩) (dp_keepXs (fun a o xs g => s2 _ _ g) n a)⟩
theorem dpAll_app {H : Hp} : ∀ {vs ws : List V} {ds es : List PyData}, DqAll K H vs ds → DqAll K H ws es → DqAll K H (vs ++ ws) (ds ++ es)
  | _, _, _, _, .nil, b => b
  | _, _, _, _, .cons a t, b => .cons a (dpAll_app t b)
theorem dpAll_take {H : Hp} : ∀ {vs : List V} {ds : List PyData} (n : Nat), DqAll K H vs ds → DqAll K H (vs.take n) (ds.take n)
  | _, _, 0, _ => .nil
  | _, _, _ + 1, .nil => .nil
  | _, _, n + 1, .cons a t => .cons a (dpAll_take n t)
theorem dpAll_drop {H : Hp} : ∀ {vs : List V} {ds : List PyData} (n : Nat), DqAll K H vs ds → DqAll K H (vs.drop n) (ds.drop n)
  | _, _, 0, h => h
  | _, _, _ + 1, .nil => .nil
  | _, _, n + 1, .cons a t => dpAll_drop n t
theorem dpAll_at {H : Hp} : ∀ {vs : List V} {ds : List PyData} {i : Nat} {d : PyData}, DqAll K H vs ds → ds[i]? = some d → ∃ v, vs[i]? = some v ∧ Dq K H v d
  | _, _, i, d, .nil, h => by simp at h
  | _, _, 0, d, .cons a t, h => by
    simp at h
    subst h
    exact ⟨_, rfl, a⟩
  | _, _, i + 1, d, .cons a t, h => by
    obtain ⟨v, h1, h2⟩ := dpAll_at (i := i) (d := d) t (by simpa using h)
    exact ⟨v, by simpa using h1, h2⟩
theorem noLs_take {ds : List PyData} (n : Nat) (h : noLs ds = true) : noLs (ds.take n) = true := noLs_iff.mpr fun x hx => noLs_iff.mp h x (List.mem_of_mem_take hx)
theorem noLs_drop {ds : List PyData} (n : Nat) (h : noLs ds = true) : noLs (ds.drop n) = true := noLs_iff.mpr fun x hx => noLs_iff.mp h x (List.mem_of_mem_drop hx)
theorem noLs_at {ds : List PyData} {i : Nat} {d : PyData} (h : noLs ds = true) (e : ds[i]? = some d) : noL d = true := noLs_iff.mp h d (List.mem_of_getElem? e)
/-- a + b -/
def oAdd : PyData → PyData → Option PyData
  | .int a, .int b => some (.int (a + b))
  | .str a, .str b => if a.length + b.length ≤ most then some (.str (a ++ b)) else none
  | .tuple a, .tuple b => if a.length + b.length ≤ most then some (.tuple (a ++ b)) else none
  | _, _ => none
abbrev rAddU (K : PySem.W.Frag) : R2 := fun x y H Q => rI0 (fun i j => .int (i + j)) x y H Q ∨ (∃ i j, x = .str i ∧ y = .str j ∧ i.length + j.length ≤ sizeLine ∧ Q (.str (i ++ j)) H) ∨ rCatZ K x y H Q
theorem op_addU : OpR X (binaryOp .Add) (rAddU X.K) := OpR.or op_add (OpR.or op_add_str op_catZ)
theorem snd_add : Snd2 K (rAddU K) oAdd := by
  intro H x y p q z Q dx nx dy ny h k
  cases p with
  | int a =>
    cases q with
    | int b =>
      cases h
      cases dx
      cases dy
      exact .inl ⟨a, b, rfl, rfl, k _ H (Same.refl H) (.int _) rfl⟩
    | _ => cases h
  | str a =>
    cases q with
    | str b =>
      simp only [oAdd] at h
      split at h
      · rename_i hl
        cases h
        cases dx
        cases dy
        exact .inr (.inl ⟨a, b, rfl, rfl, most_le hl, k _ H (Same.refl H) (.str _) rfl⟩)
      · cases h
    | _ => cases h
  | tuple a =>
    cases q with
    | tuple b =>
      simp only [oAdd] at h
      split at h
      · rename_i hl
        cases h
        obtain ⟨p1, xs, rfl, s1, a1⟩ := dp_tupX dx
        obtain ⟨p2, ys, rfl, s2, a2⟩ := dp_tupX dy
        have e1 := dpAll_len a1
        have e2 := dpAll_len a2
        have n1 : noLs a = true := by simpa [noL] using nx
        have n2 : noLs b = true := by simpa [noL] using ny
        refine .inr (.inr ⟨p1, p2, xs, ys, rfl, rfl, s1.sq, s2.sq, by rw [e1, e2]; exact most_le hl, fun e => ?_, fun e f => ?_, fun e f r ob nr to => ?_⟩)
        · subst e
          cases a1
          exact k _ H (Same.refl H) (.tup s2 a2) (by simpa [noL] using n2)
        · subst f
          cases a2
          refine k _ H (Same.refl H) ?_ ?_
          · rw [List.append_nil]
            exact .tup s1 a1
          · rw [List.append_nil]
            simpa [noL] using n1
        · have nn : noLs (a ++ b) = true := noLs_append n1 n2
          obtain ⟨s3, d3⟩ := newT (K := K) nr to nn (dpAll_app a1 a2)
          exact k _ _ s3 d3 (by simpa [noL] using nn)
      · cases h
    | _ => cases h
  | _ => cases h
/-- ints alone -/
def oI (g : Int → Int → Option PyData) : PyData → PyData → Option PyData
  | .int a, .int b => g a b
  | _, _ => none
theorem snd_I {r : R2} {g : Int → Int → Option PyData} (h : ∀ H i j z Q, g i j = some z → (∀ v, Dq K H v z → noL z = true → Q v H) → r (.int i) (.int j) H Q) : Snd2 K r (oI g) := by
  intro H x y p q z Q dx nx dy ny e k
  cases p with
  | int a =>
    cases q with
    | int b =>
      cases dx
      cases dy
      exact h H a b z Q e fun v dp nl => k v H (Same.refl H) dp nl
    | _ => cases e
  | _ => cases e
def oSub := oI fun a b => some (.int (a - b))
theorem snd_sub : Snd2 K (rI0 fun i j => .int (i - j)) oSub := snd_I fun H i j z Q e k => by
  cases e
  exact ⟨i, j, rfl, rfl, k _ (.int _) rfl⟩
def CMulX (i j : Int) : Prop := i.natAbs.log2 + j.natAbs.log2 < 134000000
instance {i j : Int} : Decidable (CMulX i j) := Nat.decLt ..
theorem mulX_fits {i j : Int} (h : CMulX i j) : IntMulOk i j := by
  have hb : ∀ x : Int, Builtin.Int.intBits x ≤ x.natAbs.log2 + 1 := by
    intro x
    unfold Builtin.Int.intBits
    split
    · omega
    · omega
  intro hh
  simp only [Bool.and_eq_true, Builtin.Int.intTooBig, decide_eq_true_eq] at hh
  have hl : bitsLine = 134217728 := by decide
  have h1 := hb i
  have h2 := hb j
  unfold CMulX at h
  omega
theorem op_mulX : OpR X (binaryOp .Mult) (rI CMulX fun i j => .int (i * j)) := opI fun _ _ _ _ _ _ _ c q => mul_int q (mulX_fits c)
def oMulI := oI fun a b => if CMulX a b then some (.int (a * b)) else none
theorem snd_mulI : Snd2 K (rI CMulX fun i j => .int (i * j)) oMulI := snd_I fun H i j z Q e k => by
  split at e
  · rename_i c
    cases e
    exact ⟨i, j, rfl, rfl, c, k _ (.int _) rfl⟩
  · cases e
def oMod := oI fun a b => if b = 0 then none else some (.int (a.fmod b))
theorem snd_mod : Snd2 K (rI (fun _ j => j ≠ 0) fun i j => .int (i.fmod j)) oMod := snd_I fun H i j z Q e k => by
  split at e
  · cases e
  · rename_i c
    cases e
    exact ⟨i, j, rfl, rfl, c, k _ (.int _) rfl⟩
def CDivG (_ j : Int) : Prop := j ≠ 0 ∧ j.natAbs.log2 < 9000
instance {i j : Int} : Decidable (CDivG i j) := inferInstanceAs (Decidable (j ≠ 0 ∧ j.natAbs.log2 < 9000))
theorem op_fdivG : OpR X (binaryOp .FloorDiv) (rI CDivG fun i j => .int (i.fdiv j)) := opI fun _ _ _ _ _ _ _ c q => floordiv_int c.1 q (.inl (PyProof.noPylong_of_log2 c.2))
def oDiv := oI fun a b => if CDivG a b then some (.int (a.fdiv b)) else none
theorem snd_div : Snd2 K (rI CDivG fun i j => .int (i.fdiv j)) oDiv := snd_I fun H i j z Q e k => by
  split at e
  · rename_i c
    cases e
    exact ⟨i, j, rfl, rfl, c, k _ (.int _) rfl⟩
  · cases e
instance {i j : Int} : Decidable (CPow i j) := inferInstanceAs (Decidable (0 ≤ j ∧ j ≤ 1000000 ∧ i.natAbs < 2 ^ 64))
def oPow := oI fun a b => if CPow a b then some (.int (a ^ b.toNat)) else none
theorem snd_pow : Snd2 K (rI CPow fun i j => .int (i ^ j.toNat)) oPow := snd_I fun H i j z Q e k => by
  split at e
  · rename_i c
    cases e
    exact ⟨i, j, rfl, rfl, c, k _ (.int _) rfl⟩
  · cases e
/-- comparisons of ints or texts -/
def oLt : PyData → PyData → Option PyData
  | .int a, .int b => some (.bool (decide (a < b)))
  | .str a, .str b => some (.bool (decide (a.cps.toList < b.cps.toList)))
  | _, _ => none
abbrev rLtU : R2 := fun x y H Q => rI0 (fun i j => .bl (decide (i < j))) x y H Q ∨ ∃ i j, x = .str i ∧ y = .str j ∧ Q (.bl (decide (i.cps.toList < j.cps.toList))) H
theorem op_ltU : OpR X (compareOp .Lt) rLtU := OpR.or op_lt op_lt_str
theorem snd_lt : Snd2 K rLtU oLt := by
  intro H x y p q z Q dx nx dy ny h k
  cases p with
  | int a =>
    cases q with
    | int b =>
      cases h
      cases dx
      cases dy
      exact .inl ⟨a, b, rfl, rfl, k _ H (Same.refl H) (.bl _) rfl⟩
    | _ => cases h
  | str a =>
    cases q with
    | str b =>
      cases h
      cases dx
      cases dy
      exact .inr ⟨a, b, rfl, rfl, k _ H (Same.refl H) (.bl _) rfl⟩
    | _ => cases h
  | _ => cases h
def oLe := oI fun a b => some (.bool (decide (a ≤ b)))
theorem snd_le : Snd2 K (rI0 fun i j => .bl (decide (i ≤ j))) oLe := snd_I fun H i j z Q e k => by
  cases e
  exact ⟨i, j, rfl, rfl, k _ (.bl _) rfl⟩
def oGt := oI fun a b => some (.bool (decide (b < a)))
theorem snd_gt : Snd2 K (rI0 fun i j => .bl (decide (j < i))) oGt := snd_I fun H i j z Q e k => by
  cases e
  exact ⟨i, j, rfl, rfl, k _ (.bl _) rfl⟩
def oGe := oI fun a b => some (.bool (decide (b ≤ a)))
theorem snd_ge : Snd2 K (rI0 fun i j => .bl (decide (j ≤ i))) oGe := snd_I fun H i j z Q e k => by
  cases e
  exact ⟨i, j, rfl, rfl, k _ (.bl _) rfl⟩
/-- == -/
def scD : PyData → Option V
  | .none => some .non
  | .bool b => some (.bl b)
  | .int i => some (.int i)
  | .str x => some (.str x)
  | _ => none
theorem scD_dp {H : Hp} {v x : V} {d : PyData} (h : Dq K H v d) (e : scD d = some x) : v = x := by
  cases h <;> first | (cases e; rfl) | cases e
def eqS (a b : PyData) : Option Bool := if SeqAt.shaped a && SeqAt.shaped b then some (PyData.eqv a b) else none
def eqB (a b : PyData) : Option Bool := match scD a, scD b with
  | some x, some y => if scal x y then some (decide (x = y)) else eqS a b
  | _, _ => eqS a b
def oEq (a b : PyData) : Option PyData := (eqB a b).map .bool
def oNe (a b : PyData) : Option PyData := (eqB a b).map fun c => .bool (!c)
abbrev rEqU (K : PySem.W.Frag) : R2 := fun x y H Q => rEq x y H Q ∨ rEqD K x y H Q
theorem op_eqU (hu : X.A.units + 64 < cLine) : OpR X (compareOp .Eq) (rEqU X.K) := OpR.or op_eq (op_eqD hu)
abbrev rNeU (K : PySem.W.Frag) : R2 := fun x y H Q => rNe x y H Q ∨ rNeD K x y H Q
theorem op_neU (hu : X.A.units + 64 < cLine) : OpR X (compareOp .NotEq) (rNeU X.K) := OpR.or op_ne (op_neD hu)
theorem eqB_ok {H : Hp} {u v : V} {a b : PyData} {c : Bool} (du : Dq K H u a) (dv : Dq K H v b) (h : eqB a b = some c) :
    (scal u v = true ∧ c = decide (u = v)) ∨ (SeqAt.shaped a = true ∧ SeqAt.shaped b = true ∧ c = PyData.eqv a b) := by
  have go : eqS a b = some c → SeqAt.shaped a = true ∧ SeqAt.shaped b = true ∧ c = PyData.eqv a b := fun h => by
    unfold eqS at h
    split at h
    · rename_i hs
      rw [Bool.and_eq_true] at hs
      cases h
      exact ⟨hs.1, hs.2, rfl⟩
    · cases h
  unfold eqB at h
  split at h
  · rename_i x y hx hy
    obtain rfl := scD_dp du hx
    obtain rfl := scD_dp dv hy
    split at h
    · rename_i hs
      cases h
      exact .inl ⟨hs, rfl⟩
    · exact .inr (go h)
  · exact .inr (go h)
theorem snd_eq : Snd2 K (rEqU K) oEq := by
  intro H x y p q z Q dx nx dy ny h k
  unfold oEq at h
  cases hc : eqB p q with
  | none => rw [hc] at h; cases h
  | some c =>
    rw [hc] at h
    cases h
    rcases eqB_ok dx dy hc with ⟨h1, h2⟩ | ⟨h1, h2, h3⟩
    · subst h2
      exact .inl ⟨h1, k _ H (Same.refl H) (.bl _) rfl⟩
    · subst h3
      exact .inr ⟨p, q, dx.dp, dy.dp, h1, h2, k _ H (Same.refl H) (.bl _) rfl⟩
theorem snd_ne : Snd2 K (rNeU K) oNe := by
  intro H x y p q z Q dx nx dy ny h k
  unfold oNe at h
  cases hc : eqB p q with
  | none => rw [hc] at h; cases h
  | some c =>
    rw [hc] at h
    cases h
    rcases eqB_ok dx dy hc with ⟨h1, h2⟩ | ⟨h1, h2, h3⟩
    · subst h2
      exact .inl ⟨h1, k _ H (Same.refl H) (.bl _) rfl⟩
    · subst h3
      exact .inr ⟨p, q, dx.dp, dy.dp, h1, h2, k _ H (Same.refl H) (.bl _) rfl⟩
/-- is None -/
def isN : PyData → Bool
  | .none => true
  | _ => false
theorem isN_dp {H : Hp} {v : V} {d : PyData} (h : Dq K H v d) : decide (v = .non) = isN d := by cases h <;> rfl
def oIs : PyData → PyData → Option PyData
  | a, .none => some (.bool (isN a))
  | _, _ => none
def oIsNot : PyData → PyData → Option PyData
  | a, .none => some (.bool (!isN a))
  | _, _ => none
theorem snd_is : Snd2 K (fun x y H Q => y = .non ∧ Q (.bl (decide (x = .non))) H) oIs := by
  intro H x y p q z Q dx nx dy ny h k
  cases q with
  | none =>
    cases h
    cases dy
    refine ⟨rfl, ?_⟩
    rw [isN_dp dx]
    exact k _ H (Same.refl H) (.bl _) rfl
  | _ => cases h
theorem snd_isNot : Snd2 K (fun x y H Q => y = .non ∧ Q (.bl (!decide (x = .non))) H) oIsNot := by
  intro H x y p q z Q dx nx dy ny h k
  cases q with
  | none =>
    cases h
    cases dy
    refine ⟨rfl, ?_⟩
    rw [isN_dp dx]
    exact k _ H (Same.refl H) (.bl _) rfl
  | _ => cases h
/-- a in b, b a row of scalars, or a text -/
def scDs : List PyData → Option (List V)
  | [] => some []
  | d :: ds => match scD d, scDs ds with | some v, some vs => some (v :: vs) | _, _ => none
theorem scDs_dp {H : Hp} : ∀ {vs xs : List V} {ds : List PyData}, DqAll K H vs ds → scDs ds = some xs → vs = xs
  | _, _, _, .nil, e => by cases e; rfl
  | _, _, _, .cons a t, e => by
    simp only [scDs] at e
    split at e
    · rename_i v vs h1 h2
      cases e
      rw [scD_dp a h1, scDs_dp t h2]
    · cases e
theorem scD_flat {d : PyData} {v : V} (h : scD d = some v) : flatV v = true := by
  cases d <;> first | (cases h; rfl) | cases h
theorem scDs_flat : ∀ {ds : List PyData} {vs : List V}, scDs ds = some vs → vs.all flatV = true
  | [], _, h => by cases h; rfl
  | d :: ds, _, h => by
    simp only [scDs] at h
    split at h
    · rename_i v vs h1 h2
      cases h
      rw [List.all_cons, scD_flat h1, scDs_flat h2]
      rfl
    · cases h
def inB (a : PyData) (ds : List PyData) : Option Bool := match scD a, scDs ds with
  | some x, some xs => some (inV x xs)
  | _, _ => none
def oIn : PyData → PyData → Option PyData
  | a, .tuple ds => (inB a ds).map .bool
  | .str a, .str b => some (.bool (!(Builtin.Str.occurrences b a 0 b.length 1).isEmpty))
  | _, _ => none
def oNotIn : PyData → PyData → Option PyData
  | a, .tuple ds => (inB a ds).map fun c => .bool (!c)
  | .str a, .str b => some (.bool (!(!(Builtin.Str.occurrences b a 0 b.length 1).isEmpty)))
  | _, _ => none
abbrev rInU (K : PySem.W.Frag) : R2 := fun x y H Q => rIn K false x y H Q ∨ ∃ i j, x = .str i ∧ y = .str j ∧ Q (.bl (!(Builtin.Str.occurrences j i 0 j.length 1).isEmpty)) H
theorem op_inU : OpR X (compareOp .In) (rInU X.K) := OpR.or op_in_seq op_in_str
abbrev rNotInU (K : PySem.W.Frag) : R2 := fun x y H Q => rIn K true x y H Q ∨ ∃ i j, x = .str i ∧ y = .str j ∧ Q (.bl (!(!(Builtin.Str.occurrences j i 0 j.length 1).isEmpty))) H
theorem op_notInU : OpR X (compareOp .NotIn) (rNotInU X.K) := OpR.or op_notIn_seq op_notin_str
theorem inB_ok {H : Hp} {x : V} {xs : List V} {p : PyData} {ds : List PyData} {c : Bool} (dx : Dq K H x p) (a : DqAll K H xs ds) (h : inB p ds = some c) : flatV x = true ∧ xs.all flatV = true ∧ c = inV x xs := by
  unfold inB at h
  split at h
  · rename_i y ys h1 h2
    cases h
    obtain rfl := scD_dp dx h1
    obtain rfl := scDs_dp a h2
    exact ⟨scD_flat h1, scDs_flat h2, rfl⟩
  · cases h
theorem snd_in : Snd2 K (rInU K) oIn := by
  intro H x y p q z Q dx nx dy ny h k
  cases q with
  | tuple ds =>
    simp only [oIn] at h
    cases hc : inB p ds with
    | none => rw [hc] at h; cases h
    | some c =>
      rw [hc] at h
      cases h
      obtain ⟨a, xs, rfl, s, al⟩ := dp_tupX dy
      obtain ⟨h1, h2, rfl⟩ := inB_ok dx al hc
      exact .inl ⟨a, xs, rfl, .inr s.sq, h1, h2, k _ H (Same.refl H) (.bl _) rfl⟩
  | str b =>
    cases p with
    | str a =>
      cases h
      cases dx
      cases dy
      exact .inr ⟨a, b, rfl, rfl, k _ H (Same.refl H) (.bl _) rfl⟩
    | _ => cases h
  | _ => cases p <;> cases h
theorem snd_notIn : Snd2 K (rNotInU K) oNotIn := by
  intro H x y p q z Q dx nx dy ny h k
  cases q with
  | tuple ds =>
    simp only [oNotIn] at h
    cases hc : inB p ds with
    | none => rw [hc] at h; cases h
    | some c =>
      rw [hc] at h
      cases h
      obtain ⟨a, xs, rfl, s, al⟩ := dp_tupX dy
      obtain ⟨h1, h2, rfl⟩ := inB_ok dx al hc
      exact .inl ⟨a, xs, rfl, .inr s.sq, h1, h2, k _ H (Same.refl H) (.bl _) rfl⟩
  | str b =>
    cases p with
    | str a =>
      cases h
      cases dx
      cases dy
      exact .inr ⟨a, b, rfl, rfl, k _ H (Same.refl H) (.bl _) rfl⟩
    | _ => cases h
  | _ => cases p <;> cases h
/-- a[i] -/
def oIx : PyData → PyData → Option PyData
  | .tuple ds, .int i => atI ds i
  | .str z, .int i => if z.length ≤ most then (atI z.cps.toList i).map fun c => .str ⟨#[c]⟩ else none
  | _, _ => none
abbrev rIxU (K : PySem.W.Frag) : R2 := fun x y H Q => rIxT K x y H Q ∨ rIxS x y H Q
theorem ix_U : IxR X (rIxU X.K) := ix_tup.or ix_str
theorem atI_dp {H : Hp} {xs : List V} {ds : List PyData} {i : Int} {d : PyData} (a : DqAll K H xs ds) (n : noLs ds = true) (h : atI ds i = some d) : ∃ v, atI xs i = some v ∧ Dq K H v d ∧ noL d = true := by
  unfold atI at h ⊢
  rw [dpAll_len a]
  cases hj : ixN ds.length i with
  | none => rw [hj] at h; cases h
  | some j =>
    rw [hj] at h
    obtain ⟨v, h1, h2⟩ := dpAll_at a (show ds[j]? = some d from h)
    exact ⟨v, h1, h2, noLs_at n (show ds[j]? = some d from h)⟩
theorem snd_ix : Snd2 K (rIxU K) oIx := by
  intro H x y p q z Q dx nx dy ny h k
  cases p with
  | tuple ds =>
    cases q with
    | int i =>
      cases dy
      obtain ⟨a, xs, rfl, s, al⟩ := dp_tupX dx
      obtain ⟨v, h1, h2, h3⟩ := atI_dp al (by simpa [noL] using nx) h
      exact .inl ⟨a, xs, i, v, rfl, rfl, s.sq, h1, k _ H (Same.refl H) h2 h3⟩
    | _ => cases h
  | str b =>
    cases q with
    | int i =>
      cases dx
      cases dy
      simp only [oIx] at h
      split at h
      · rename_i hl
        cases hc : atI b.cps.toList i with
        | none => rw [hc] at h; cases h
        | some c =>
          rw [hc] at h
          cases h
          exact .inr ⟨b, i, c, rfl, rfl, most_le hl, hc, k _ H (Same.refl H) (.str _) rfl⟩
      · cases h
    | _ => cases h
  | _ => cases h
/-- x[lo:hi] -/
def cutL {α : Type} (xs : List α) (lo hi : Option Int) : List α := (xs.drop (HT.sIx xs.length 0 lo)).take (HT.sIx xs.length xs.length hi - HT.sIx xs.length 0 lo)
def oSl : PyData → Option Int → Option Int → Option PyData
  | .tuple ds, lo, hi => some (.tuple (cutL ds lo hi))
  | .str z, lo, hi => if z.length ≤ most then some (.str (cutS z lo hi)) else none
  | _, _, _ => none
abbrev rSlU (K : PySem.W.Frag) : V → Option Int → Option Int → Hp → VK → Prop := fun x lo hi H Q => rSlZ K x lo hi H Q ∨ rSlS x lo hi H Q
theorem sl_U : SlR X (rSlU X.K) := SlR.or sl_tupZ sl_str
theorem cutL_dp {H : Hp} {xs : List V} {ds : List PyData} {lo hi : Option Int} (a : DqAll K H xs ds) : DqAll K H (cutV xs lo hi) (cutL ds lo hi) := by
  unfold cutV cutL
  rw [dpAll_len a]
  exact dpAll_take _ (dpAll_drop _ a)
theorem snd_sl {H : Hp} {x : V} {p z : PyData} {lo hi : Option Int} {Q : VK} (dx : Dq K H x p) (nx : noL p = true) (h : oSl p lo hi = some z) (k : ∀ v H', Same H H' → Dq K H' v z → noL z = true → Q v H') : rSlU K x lo hi H Q := by
  cases p with
  | tuple ds =>
    cases h
    obtain ⟨a, xs, rfl, s, al⟩ := dp_tupX dx
    have n1 : noLs ds = true := by simpa [noL] using nx
    have nc : noLs (cutL ds lo hi) = true := by
      unfold cutL
      exact noLs_take _ (noLs_drop _ n1)
    refine .inl ⟨a, xs, rfl, s.sq, fun e => ?_, fun _ r ob nr to => ?_⟩
    · refine k _ H (Same.refl H) ?_ (by simpa [noL] using nc)
      have e' : cutL ds lo hi = ds := by
        unfold cutL
        rw [dpAll_len al] at e
        rw [e.1, e.2, List.drop_zero, Nat.sub_zero, List.take_length]
      rw [e']
      exact dx
    · obtain ⟨s3, d3⟩ := newT (K := K) nr to nc (cutL_dp al)
      exact k _ _ s3 d3 (by simpa [noL] using nc)
  | str b =>
    simp only [oSl] at h
    split at h
    · rename_i hl
      cases h
      cases dx
      exact .inr ⟨b, rfl, most_le hl, k _ H (Same.refl H) (.str _) rfl⟩
    · cases h
  | _ => cases h
def oNeg : PyData → Option PyData
  | .int i => some (.int (-i))
  | _ => none
theorem snd_neg : Snd1 K (rU fun i => .int (-i)) oNeg := by
  intro H x p z Q dx nx h k
  cases p with
  | int i =>
    cases h
    cases dx
    exact ⟨i, rfl, k _ H (Same.refl H) (.int _) rfl⟩
  | _ => cases h
end
/-! ### slices, built-ins by their names -/
section
variable {T : Tb} {X : Cx} {W : WXk} {e a b c : Expr} {es rest : List Expr} {pos p2 : Pos}
/-- a slice's bound: left out, or an int -/
structure QO (T : Tb) (X : Cx) (W : WXk) (e : Option Expr) (m : MM (Option Int)) : Prop where
  ex : ∃ t : TO, PO X e t ∧ ∀ (σ : L2.St) (H : Hp) (ρ : Env') (F : List Addr) (r : Rs Env' (Option Int)) (Q : Option Int → Hp → Prop), EnvR X.K T H σ ρ F → F.Nodup → m ρ = some r →
    (match r with
      | .ok i ρ1 => ∀ H' F', EnvR X.K T H' σ ρ1 F' → F'.Nodup → Mv F H F' H' → Q i H'
      | .er c fs ρ1 => XOk X.K T W H F σ c fs ρ1) → t σ H Q
def oN : MM (Option Int) := pureM none
def oS (m : MM PyData) : MM (Option Int) := bindM m fun d => match d with | .int i => pureM (some i) | _ => fun _ => none
theorem qo_none : QO T X W none oN := ⟨_, po_none, fun σ H ρ F r Q E n hm k => by
  cases hm
  exact k H F E n (Mv.refl fun _ h => h)⟩
theorem qo_some {m : MM PyData} (h : QD T X W e m) : QO T X W (some e) (oS m) := by
  obtain ⟨t, ht, q⟩ := h.ex
  refine ⟨_, po_some ht, fun σ H ρ F r Q E n hm k => ?_⟩
  unfold oS bindM at hm
  cases hd : m ρ with
  | none => rw [hd] at hm; cases hm
  | some r1 =>
    rw [hd] at hm
    refine q σ H ρ F r1 _ E n hd ?_
    cases r1 with
    | er c fs ρ1 => cases hm; exact k
    | ok d ρ1 =>
      intro v H' F' dp nl E' n' mv
      cases d with
      | int i =>
        cases hm
        cases dp
        exact ⟨i, rfl, k H' F' E' n' mv⟩
      | _ => cases hm
def dSl (m : MM PyData) (l h : MM (Option Int)) : MM PyData := bindM m fun x => bindM l fun lo => bindM h fun hi => optM (oSl x lo hi)
theorem qd_slice {lo hi : Option Expr} {m : MM PyData} {ml mh : MM (Option Int)} (he : QD T X W e m) (hl : QO T X W lo ml) (hh : QO T X W hi mh) : QD T X W (.Subscript e (.Slice lo hi none p2) pos) (dSl m ml mh) := by
  obtain ⟨t, h1, q1⟩ := he.ex
  obtain ⟨tl, h2, q2⟩ := hl.ex
  obtain ⟨th, h3, q3⟩ := hh.ex
  refine ⟨_, pe_slice sl_U h1 h2 h3, fun σ H ρ F r Q E n hm k => ?_⟩
  unfold dSl bindM at hm
  cases hx : m ρ with
  | none => rw [hx] at hm; cases hm
  | some rx =>
    rw [hx] at hm
    refine q1 σ H ρ F rx _ E n hx ?_
    cases rx with
    | er c fs ρ1 => cases hm; exact k
    | ok x ρ1 =>
      intro u H1 F1 d1 n1 E1 nd1 m1
      dsimp only at hm
      cases hy : ml ρ1 with
      | none => rw [hy] at hm; cases hm
      | some ry =>
        rw [hy] at hm
        refine q2 σ H1 ρ1 F1 ry _ E1 nd1 hy ?_
        cases ry with
        | er c fs ρ2 => cases hm; exact XOk.from k m1
        | ok y ρ2 =>
          intro H2 F2 E2 nd2 m2
          dsimp only at hm
          cases hz : mh ρ2 with
          | none => rw [hz] at hm; cases hm
          | some rz =>
            rw [hz] at hm
            refine q3 σ H2 ρ2 F2 rz _ E2 nd2 hz ?_
            cases rz with
            | er c fs ρ3 => cases hm; exact XOk.from k (m1.trans m2)
            | ok zz ρ3 =>
              intro H3 F3 E3 nd3 m3
              dsimp only [optM] at hm
              cases ho : oSl x y zz with
              | none => rw [ho] at hm; cases hm
              | some w =>
                rw [ho] at hm
                cases hm
                have k13 : Kp T [] H1 H3 := fun b o hb hq => (m2.trans m3).c.kp (g := []) E1.wr (fun _ h => nomatch h) b o hb hq
                refine snd_sl (dp_keepX k13.x n1 d1) n1 ho fun v H4 s4 d4 n4 => ?_
                exact k v H4 F3 d4 n4 (E3.same s4) nd3 (((m1.trans m2).trans m3).trans (Mv.same s4 fun _ h => h))
/-- a built-in that is called with data -/
def SndN (K : PySem.W.Frag) (r : List V → Hp → VK → Prop) (o : List PyData → Option PyData) : Prop :=
  ∀ (H : Hp) (xs : List V) (ps : List PyData) (z : PyData) (Q : VK), DqAll K H xs ps → noLs ps = true → o ps = some z → (∀ v H', Same H H' → Dq K H' v z → noL z = true → Q v H') → r xs H Q
def eN (o : List PyData → Option PyData) (m : Env' → Option (List PyData)) : Env' → Option PyData := fun ρ => (m ρ).bind o
def dN (o : List PyData → Option PyData) (m : MM (List PyData)) : MM PyData := bindM m fun xs => optM (o xs)
theorem qe_n {r : List V → Hp → VK → Prop} {o : List PyData → Option PyData} {m : Env' → Option (List PyData)} (s : SndN X.K r o) (mk : ∀ t, PA X es t → PE X e (tCB r t)) (h : QAE T X es m) : QE T X e (eN o m) := by
  obtain ⟨t, ht, q⟩ := h.ex
  refine ⟨_, mk t ht, fun σ H ρ F d Q E hm k => ?_⟩
  unfold eN at hm
  cases hx : m ρ with
  | none => rw [hx] at hm; cases hm
  | some ds =>
    rw [hx] at hm
    refine q σ H ρ F ds _ E hx fun vs H1 s1 d1 n1 => ?_
    exact s H1 vs ds d Q d1 n1 hm fun v H2 s2 => k v H2 (s1.trans s2)
theorem qd_n {r : List V → Hp → VK → Prop} {o : List PyData → Option PyData} {m : MM (List PyData)} (s : SndN X.K r o) (mk : ∀ t, PA X es t → PE X e (tCB r t)) (h : QA T X W es m) : QD T X W e (dN o m) := by
  obtain ⟨t, ht, q⟩ := h.ex
  refine ⟨_, mk t ht, fun σ H ρ F r Q E n hm k => ?_⟩
  unfold dN bindM at hm
  cases hx : m ρ with
  | none => rw [hx] at hm; cases hm
  | some rx =>
    rw [hx] at hm
    refine q σ H ρ F rx _ E n hx ?_
    cases rx with
    | er c fs ρ1 => cases hm; exact k
    | ok ds ρ1 =>
      intro vs H1 F1 d1 n1 E1 nd1 m1
      dsimp only [optM] at hm
      cases hz : o ds with
      | none => rw [hz] at hm; cases hm
      | some z =>
        rw [hz] at hm
        cases hm
        refine s H1 vs ds z Q d1 n1 hz fun w H3 s3 dz nz => ?_
        exact k w H3 F1 dz nz (E1.same s3) nd1 (m1.trans (Mv.same s3 fun _ h => h))
theorem dpAll1 {K : PySem.W.Frag} {H : Hp} {xs : List V} {d : PyData} (h : DqAll K H xs [d]) : ∃ v, xs = [v] ∧ Dq K H v d := by
  cases h with
  | cons a t =>
    cases t
    exact ⟨_, rfl, a⟩
theorem dpAll2 {K : PySem.W.Frag} {H : Hp} {xs : List V} {d e : PyData} (h : DqAll K H xs [d, e]) : ∃ v w, xs = [v, w] ∧ Dq K H v d ∧ Dq K H w e := by
  cases h with
  | cons a t =>
    obtain ⟨w, rfl, b⟩ := dpAll1 t
    exact ⟨_, w, rfl, a, b⟩
/-- int(x) -/
def oInt : List PyData → Option PyData
  | [.int i] => some (.int i)
  | [.str a] => if a.length ≤ 640 then (PySem.intText? a).map .int else none
  | _ => none
abbrev rInt : List V → Hp → VK → Prop := fun xs H Q => ((∃ i, xs = [.int i] ∧ Q (.int i) H) ∨ ∃ k, xs = [.bl k] ∧ Q (.int (if k then 1 else 0)) H) ∨ ∃ a n, xs = [.str a] ∧ PySem.intText? a = some n ∧ a.length ≤ 640 ∧ Q (.int n) H
theorem call_intU : CallR X (.type "int") rInt := CallR.or call_int1 call_int_str
theorem snd_int {K : PySem.W.Frag} : SndN K rInt oInt := by
  intro H xs ps z Q a n h k
  unfold oInt at h
  split at h
  · cases h
    obtain ⟨v, rfl, dv⟩ := dpAll1 a
    cases dv
    exact .inl (.inl ⟨_, rfl, k _ H (Same.refl H) (.int _) rfl⟩)
  · split at h
    · rename_i x hl
      obtain ⟨v, rfl, dv⟩ := dpAll1 a
      cases dv
      cases ht : PySem.intText? x with
      | none => rw [ht] at h; cases h
      | some m =>
        rw [ht] at h
        cases h
        exact .inr ⟨x, m, rfl, ht, hl, k _ H (Same.refl H) (.int _) rfl⟩
    · cases h
  · cases h
/-- str(i) -/
def oStr : List PyData → Option PyData
  | [.int i] => if i.natAbs.log2 < 1920 then some (.str (toString i)) else none
  | _ => none
theorem snd_str {K : PySem.W.Frag} : SndN K (fun xs H Q => ∃ i, xs = [.int i] ∧ i.natAbs.log2 < 1920 ∧ Q (.str (toString i)) H) oStr := by
  intro H xs ps z Q a n h k
  unfold oStr at h
  split at h
  · split at h
    · rename_i i hl
      cases h
      obtain ⟨v, rfl, dv⟩ := dpAll1 a
      cases dv
      exact ⟨_, rfl, hl, k _ H (Same.refl H) (.str _) rfl⟩
    · cases h
  · cases h
def oAbs : List PyData → Option PyData
  | [.int i] => some (.int (if i < 0 then -i else i))
  | _ => none
theorem snd_abs {K : PySem.W.Frag} : SndN K (fun xs H Q => ∃ i, xs = [.int i] ∧ Q (.int (if i < 0 then -i else i)) H) oAbs := by
  intro H xs ps z Q a n h k
  unfold oAbs at h
  split at h
  · cases h
    obtain ⟨v, rfl, dv⟩ := dpAll1 a
    cases dv
    exact ⟨_, rfl, k _ H (Same.refl H) (.int _) rfl⟩
  · cases h
def oMax : List PyData → Option PyData
  | [.int i, .int j] => some (.int (if j > i then j else i))
  | _ => none
theorem snd_max {K : PySem.W.Frag} : SndN K (fun xs H Q => ∃ i j, xs = [.int i, .int j] ∧ Q (.int (if j > i then j else i)) H) oMax := by
  intro H xs ps z Q a n h k
  unfold oMax at h
  split at h
  · cases h
    obtain ⟨v, w, rfl, dv, dw⟩ := dpAll2 a
    cases dv
    cases dw
    exact ⟨_, _, rfl, k _ H (Same.refl H) (.int _) rfl⟩
  · cases h
/-- len of data -/
def oLen : List PyData → Option PyData
  | [.tuple ds] => some (.int ds.length)
  | [.str z] => if z.length ≤ most then some (.int z.length) else none
  | _ => none
abbrev rLenU (K : PySem.W.Frag) : List V → Hp → VK → Prop := fun xs H Q => (∃ p ys, xs = [.ref p] ∧ (SqL K H p ys ∨ SqT K H p ys) ∧ Q (.int ys.length) H) ∨ ∃ z, xs = [.str z] ∧ z.length ≤ sizeLine ∧ Q (.int z.length) H
theorem call_lenU : CallR X (.builtin "len") (rLenU X.K) := CallR.or call_len_seq call_len_str
theorem snd_len {K : PySem.W.Frag} : SndN K (rLenU K) oLen := by
  intro H xs ps z Q a n h k
  unfold oLen at h
  split at h
  · cases h
    obtain ⟨v, rfl, dv⟩ := dpAll1 a
    obtain ⟨p, ys, rfl, s, al⟩ := dp_tupX dv
    refine .inl ⟨p, ys, rfl, .inr s.sq, ?_⟩
    rw [dpAll_len al]
    exact k _ H (Same.refl H) (.int _) rfl
  · split at h
    · rename_i x hl
      cases h
      obtain ⟨v, rfl, dv⟩ := dpAll1 a
      cases dv
      exact .inr ⟨_, rfl, most_le hl, k _ H (Same.refl H) (.int _) rfl⟩
    · cases h
  · cases h
/-- len of what stands there -/
def lenM : M → Option PyData
  | .imm d => oLen [d]
  | .lst xs => some (.int xs.length)
  | .scr ns => some (.int ns.length)
  | _ => none
def eLenP (m : Env' → Option M) : Env' → Option PyData := fun ρ => (m ρ).bind lenM
theorem lenM_ok {K : PySem.W.Frag} {H : Hp} {v : V} {x : M} {f : List Addr} {z : PyData} {Q : VK} (r : Rep K T H v x f) (h : lenM x = some z) (k : ∀ v, Dq K H v z → noL z = true → Q v H) : rLenU K [v] H Q := by
  cases r with
  | imm dp nl =>
    cases dp with
    | str y =>
      simp only [lenM, oLen] at h
      split at h
      · rename_i hl
        cases h
        exact .inr ⟨_, rfl, most_le hl, k _ (.int _) rfl⟩
      · cases h
    | tup s a =>
      cases h
      refine .inl ⟨_, _, rfl, .inr s.sq, ?_⟩
      rw [dpAll_len a]
      exact k _ (.int _) rfl
    | _ => cases h
  | scr s =>
    cases h
    refine .inl ⟨_, _, rfl, .inl s.seq, ?_⟩
    rw [List.length_map]
    exact k _ (.int _) rfl
  | lst h1 rs =>
    cases h
    refine .inl ⟨_, _, rfl, .inl (SqL.of h1), ?_⟩
    rw [rs.len]
    exact k _ (.int _) rfl
  | _ => cases h

theorem qe_lenP {p : Pos} {m : Env' → Option M} (h : QP T X a m) (hg : Gl X "len") (hm : X.mg "len" = none) (hs : starEach [a] X.env = (false, eval a X.env) :: starEach [] X.env := by rfl) : QE T X (.Call (.Name "len" p) [a] [] pos) (eLenP m) := by
  obtain ⟨t, ht, q⟩ := h.ex
  refine ⟨_, pe_callB call_lenU hg hm PySem.boot_len (pa_cons ht pa_nil hs) (he := hs), fun σ H ρ F d Q E hmm k => ?_⟩
  unfold eLenP at hmm
  cases hx : m ρ with
  | none => rw [hx] at hmm; cases hmm
  | some x =>
    rw [hx] at hmm
    exact q σ H ρ F x _ E hx fun v f r _ => lenM_ok r hmm fun w dz nz => k w H (Same.refl H) dz nz
/-- isinstance -/
def tyN : PyData → String
  | .none => "NoneType"
  | .bool _ => "bool"
  | .int _ => "int"
  | .str _ => "str"
  | .tuple _ => "tuple"
  | _ => "list"
theorem tyX_of {K : PySem.W.Frag} {H : Hp} {x : V} {d : PyData} (h : Dq K H x d) (n : noL d = true) : TyX K H x (.type (tyN d)) := by
  cases h with
  | non => exact .base .non
  | bl b => exact .base (.bl b)
  | int i => exact .base (.int i)
  | str s => exact .base (.str s)
  | tup hs _ =>
    rcases hs with ⟨o, h, _⟩ | ⟨o, its, n, hk, hc, _⟩
    · exact .fTuple h
    · exact .kTuple hk hc.1
theorem kt_NoneType_tuple {K : PySem.W.Frag} : PySem.W.kitOne K (.type "NoneType") (.type "tuple") = some false := kit_ty (by decide +kernel)
theorem kt_NoneType_bool {K : PySem.W.Frag} : PySem.W.kitOne K (.type "NoneType") (.type "bool") = some false := kit_ty (by decide +kernel)
theorem kt_NoneType_int {K : PySem.W.Frag} : PySem.W.kitOne K (.type "NoneType") (.type "int") = some false := kit_ty (by decide +kernel)
theorem kt_NoneType_str {K : PySem.W.Frag} : PySem.W.kitOne K (.type "NoneType") (.type "str") = some false := kit_ty (by decide +kernel)
theorem kt_bool_tuple {K : PySem.W.Frag} : PySem.W.kitOne K (.type "bool") (.type "tuple") = some false := kit_ty (by decide +kernel)
theorem kt_bool_bool {K : PySem.W.Frag} : PySem.W.kitOne K (.type "bool") (.type "bool") = some true := kit_ty (by decide +kernel)
theorem kt_bool_int {K : PySem.W.Frag} : PySem.W.kitOne K (.type "bool") (.type "int") = some true := kit_ty (by decide +kernel)
theorem kt_bool_str {K : PySem.W.Frag} : PySem.W.kitOne K (.type "bool") (.type "str") = some false := kit_ty (by decide +kernel)
theorem kt_int_tuple {K : PySem.W.Frag} : PySem.W.kitOne K (.type "int") (.type "tuple") = some false := kit_ty (by decide +kernel)
theorem kt_int_bool {K : PySem.W.Frag} : PySem.W.kitOne K (.type "int") (.type "bool") = some false := kit_ty (by decide +kernel)
theorem kt_int_int {K : PySem.W.Frag} : PySem.W.kitOne K (.type "int") (.type "int") = some true := kit_ty (by decide +kernel)
theorem kt_int_str {K : PySem.W.Frag} : PySem.W.kitOne K (.type "int") (.type "str") = some false := kit_ty (by decide +kernel)
theorem kt_str_tuple {K : PySem.W.Frag} : PySem.W.kitOne K (.type "str") (.type "tuple") = some false := kit_ty (by decide +kernel)
theorem kt_str_bool {K : PySem.W.Frag} : PySem.W.kitOne K (.type "str") (.type "bool") = some false := kit_ty (by decide +kernel)
theorem kt_str_int {K : PySem.W.Frag} : PySem.W.kitOne K (.type "str") (.type "int") = some false := kit_ty (by decide +kernel)
theorem kt_str_str {K : PySem.W.Frag} : PySem.W.kitOne K (.type "str") (.type "str") = some true := kit_ty (by decide +kernel)
theorem kt_tuple_tuple {K : PySem.W.Frag} : PySem.W.kitOne K (.type "tuple") (.type "tuple") = some true := kit_ty (by decide +kernel)
theorem kt_tuple_bool {K : PySem.W.Frag} : PySem.W.kitOne K (.type "tuple") (.type "bool") = some false := kit_ty (by decide +kernel)
theorem kt_tuple_int {K : PySem.W.Frag} : PySem.W.kitOne K (.type "tuple") (.type "int") = some false := kit_ty (by decide +kernel)
theorem kt_tuple_str {K : PySem.W.Frag} : PySem.W.kitOne K (.type "tuple") (.type "str") = some false := kit_ty (by decide +kernel)
def isTup : PyData → Bool
  | .tuple _ => true
  | _ => false
def isBool : PyData → Bool
  | .bool _ => true
  | _ => false
def isInt : PyData → Bool
  | .int _ => true
  | .bool _ => true
  | _ => false
def isStr : PyData → Bool
  | .str _ => true
  | _ => false
/-- f: what isinstance(x, ty) answers -/
def IsT (ty : String) (f : PyData → Bool) : Prop := ∀ (K : PySem.W.Frag) (d : PyData), noL d = true → PySem.W.kitOne K (.type (tyN d)) (.type ty) = some (f d)
theorem isT_tuple : IsT "tuple" isTup := fun K d n => by
  cases d with
  | none => exact kt_NoneType_tuple
  | bool _ => exact kt_bool_tuple
  | int _ => exact kt_int_tuple
  | str _ => exact kt_str_tuple
  | tuple _ => exact kt_tuple_tuple
  | list _ => simp [noL] at n
  | dict _ => simp [noL] at n
theorem isT_bool : IsT "bool" isBool := fun K d n => by
  cases d with
  | none => exact kt_NoneType_bool
  | bool _ => exact kt_bool_bool
  | int _ => exact kt_int_bool
  | str _ => exact kt_str_bool
  | tuple _ => exact kt_tuple_bool
  | list _ => simp [noL] at n
  | dict _ => simp [noL] at n
theorem isT_int : IsT "int" isInt := fun K d n => by
  cases d with
  | none => exact kt_NoneType_int
  | bool _ => exact kt_bool_int
  | int _ => exact kt_int_int
  | str _ => exact kt_str_int
  | tuple _ => exact kt_tuple_int
  | list _ => simp [noL] at n
  | dict _ => simp [noL] at n
theorem isT_str : IsT "str" isStr := fun K d n => by
  cases d with
  | none => exact kt_NoneType_str
  | bool _ => exact kt_bool_str
  | int _ => exact kt_int_str
  | str _ => exact kt_str_str
  | tuple _ => exact kt_tuple_str
  | list _ => simp [noL] at n
  | dict _ => simp [noL] at n
def dIsi (f : PyData → Bool) (m : MM PyData) : MM PyData := bindM m fun d => pureM (.bool (f d))
theorem qd_isi {p : Pos} {ty : String} {f : PyData → Bool} {m : MM PyData} (i : IsT ty f) (h : QD T X W a m) (hb : PE X b (tC (.ty ty))) (hg : Gl X "isinstance") (hm : X.mg "isinstance" = none)
    (hs : starEach [a, b] X.env = (false, eval a X.env) :: starEach [b] X.env := by rfl) (hs2 : starEach [b] X.env = (false, eval b X.env) :: starEach [] X.env := by rfl) (hpl : (backTo pos (starEach [b] X.env)).any (·.1) = false := by rfl) :
    QD T X W (.Call (.Name "isinstance" p) [a, b] [] pos) (dIsi f m) := by
  obtain ⟨t, ht, q⟩ := h.ex
  refine ⟨_, pe_callB call_isi hg hm (by decide +kernel) (pa_cons ht (pa_cons hb pa_nil hs2) hs) (he := hs) (hpl := hpl), fun σ H ρ F r Q E n hmm k => ?_⟩
  unfold dIsi bindM at hmm
  cases hd : m ρ with
  | none => rw [hd] at hmm; cases hmm
  | some r1 =>
    rw [hd] at hmm
    refine q σ H ρ F r1 _ E n hd ?_
    cases r1 with
    | er c fs ρ1 => cases hmm; exact k
    | ok d ρ1 =>
      intro v H' F' dp nl E' n' mv
      cases hmm
      exact ⟨v, .ty ty, .type (tyN d), .type ty, f d, rfl, .ty ty, tyX_of dp nl, i X.K d nl, k _ H' F' (.bl _) rfl E' n' mv⟩
end
/-! ### targets -/
inductive Pt where
  | nm (i : Nat)
  | tp (ps : List Pt)
mutual
def bindP : Pt → PyData → Env' → Option Env'
  | .nm i, d, ρ => some (ρ.set i (some (.imm d)))
  | .tp ps, .tuple ds, ρ => bindPs ps ds ρ
  | .tp _, _, _ => none
def bindPs : List Pt → List PyData → Env' → Option Env'
  | [], [], ρ => some ρ
  | p :: ps, d :: ds, ρ => (bindP p d ρ).bind fun ρ' => bindPs ps ds ρ'
  | _, _, _ => none
end
section
variable {T : Tb} {S : List Nat} {X : Cx} {W : WXk} {e a b c : Expr} {es rest : List Expr} {st : Stmt} {sts : List Stmt} {pos p2 : Pos}
theorem Stb.refl (σ : L2.St) : Stb S σ σ := fun _ _ => rfl
theorem Stb.trans {σ σ1 σ2 : L2.St} (a : Stb S σ σ1) (b : Stb S σ1 σ2) : Stb S σ σ2 := fun i hi => (b i hi).trans (a i hi)
theorem Stb.set {σ : L2.St} {i : Nat} {o : Option V} (h : i ∉ S) : Stb S σ (σ.set i o) := fun j hj => by
  rw [List.getElem?_set_ne]
  intro e
  subst e
  exact h hj
theorem Stb.sub {S' : List Nat} {σ σ1 : L2.St} (a : Stb S' σ σ1) (h : ∀ i ∈ S, i ∈ S') : Stb S σ σ1 := fun i hi => a i (h i hi)
structure QG (T : Tb) (S : List Nat) (X : Cx) (tg : Expr) (p : Pt) : Prop where
  ex : ∃ g : TG, PG X tg g ∧ ∀ (v : V) (σ : L2.St) (H : Hp) (ρ ρ' : Env') (F : List Addr) (d : PyData) (Q : L2.St → Hp → Prop), EnvR X.K T H σ ρ F → F.Nodup → Dq X.K H v d → noL d = true → bindP p d ρ = some ρ' →
    (∀ σ' F', Stb S σ σ' → EnvR X.K T H σ' ρ' F' → F'.Nodup → (∀ b ∈ F', b ∈ F) → Q σ' H) → g v σ H Q
structure QGs (T : Tb) (S : List Nat) (X : Cx) (tgs : List Expr) (ps : List Pt) : Prop where
  ex : ∃ g : TGs, PGs X tgs g ∧ ∀ (vs : List V) (σ : L2.St) (H : Hp) (ρ ρ' : Env') (F : List Addr) (ds : List PyData) (Q : L2.St → Hp → Prop), EnvR X.K T H σ ρ F → F.Nodup → DqAll X.K H vs ds → noLs ds = true → bindPs ps ds ρ = some ρ' →
    (∀ σ' F', Stb S σ σ' → EnvR X.K T H σ' ρ' F' → F'.Nodup → (∀ b ∈ F', b ∈ F) → Q σ' H) → g vs σ H Q
theorem qg_nm {i : Nat} (h : PG X a (gName i)) (hi : i ∉ S := by decide) : QG T S X a (.nm i) := by
  refine ⟨_, h, fun v σ H ρ ρ' F d Q E n dp nl hb k => ?_⟩
  simp only [bindP] at hb
  cases hb
  obtain ⟨F', h1, h2, h3⟩ := E.set i (.imm dp nl) n
  exact k _ F' (Stb.set hi) h1 h2 h3
theorem qgs_nil : QGs T S X [] [] := by
  refine ⟨_, pgs_nil, fun vs σ H ρ ρ' F ds Q E n dp nl hb k => ?_⟩
  cases ds with
  | nil =>
    simp only [bindPs] at hb
    cases hb
    cases dp
    exact ⟨rfl, k σ F (Stb.refl σ) E n fun _ h => h⟩
  | cons _ _ => simp [bindPs] at hb
theorem qgs_cons {p : Pt} {ps : List Pt} (h : QG T S X a p) (h2 : QGs T S X es ps) (hs : (assignEach (a :: es) X.env).map (·.2) = assign a X.env :: (assignEach es X.env).map (·.2) := by rfl) : QGs T S X (a :: es) (p :: ps) := by
  obtain ⟨g, hg, q⟩ := h.ex
  obtain ⟨gs, hgs, q2⟩ := h2.ex
  refine ⟨_, pgs_cons hg hgs hs, fun vs σ H ρ ρ' F ds Q E n dp nl hb k => ?_⟩
  cases dp with
  | nil => simp [bindPs] at hb
  | cons d1 dr =>
    simp only [bindPs] at hb
    simp only [noLs, Bool.and_eq_true] at nl
    refine ⟨_, _, rfl, ?_⟩
    rename_i d ds
    cases hb1 : bindP p d ρ with
    | none => rw [hb1] at hb; cases hb
    | some ρ1 =>
      rw [hb1] at hb
      refine q _ σ H ρ ρ1 F d _ E n d1 nl.1 hb1 fun σ1 F1 s1 E1 n1 f1 => ?_
      exact q2 _ σ1 H ρ1 ρ' F1 ds Q E1 n1 dr nl.2 hb fun σ2 F2 s2 E2 n2 f2 => k σ2 F2 (s1.trans s2) E2 n2 fun b hb => f1 b (f2 b hb)
theorem qg_tp {k : Nat} {ps : List Pt} {n : Nat} (hc : X.calm = true) (h : QGs T S X es ps) (hl : ps.length = n := by rfl) (hn : (assignEach es X.env).length = n := by rfl) (hst : (assignEach es X.env).findIdx? (·.1) = none := by rfl) : QG T S X (.Tuple es k pos) (.tp ps) := by
  obtain ⟨gs, hgs, q⟩ := h.ex
  refine ⟨_, pg_tup hc hgs hn hst, fun v σ H ρ ρ' F d Q E nd dp nl hb k => ?_⟩
  cases d with
  | tuple ds =>
    obtain ⟨a, xs, rfl, s, al⟩ := dp_tupX dp
    simp only [bindP] at hb
    have len : ∀ (ps : List Pt) (ds : List PyData) (ρ ρ' : Env'), bindPs ps ds ρ = some ρ' → ds.length = ps.length := by
      intro ps
      induction ps with
      | nil =>
        intro ds ρ ρ' h
        cases ds with
        | nil => rfl
        | cons _ _ => simp [bindPs] at h
      | cons p ps ih =>
        intro ds ρ ρ' h
        cases ds with
        | nil => simp [bindPs] at h
        | cons d ds =>
          simp only [bindPs] at h
          cases hb1 : bindP p d ρ with
          | none => rw [hb1] at h; cases h
          | some ρ1 =>
            rw [hb1] at h
            rw [List.length_cons, List.length_cons, ih ds ρ1 ρ' h]
    refine ⟨a, xs, rfl, s.sq, by rw [dpAll_len al, len _ _ _ _ hb, hl], ?_⟩
    exact q xs σ H ρ ρ' F ds Q E nd al (by simpa [noL] using nl) hb k
  | _ => simp [bindP] at hb
/-! ### statements -/
def sSetD (i : Nat) (m : MM PyData) : MM Fl := bindM m fun d ρ => some (.ok .nx (ρ.set i (some (.imm d))))
def sSet (i : Nat) (m : MM M) : MM Fl := bindM m fun x ρ => some (.ok .nx (ρ.set i (some x)))
theorem qs_setD {i : Nat} {m : MM PyData} (mk : ∀ te, PE X e te → PS X st (tAsg te (gName i))) (h : QD T X W e m) (hi : i ∉ S := by decide) : QS T S X W st (sSetD i m) := by
  obtain ⟨t, ht, q⟩ := h.ex
  refine ⟨_, mk t ht, fun σ H ρ F r D E n hm k => ?_⟩
  unfold sSetD bindM at hm
  cases hd : m ρ with
  | none => rw [hd] at hm; cases hm
  | some r1 =>
    rw [hd] at hm
    refine q σ H ρ F r1 _ E n hd ?_
    cases r1 with
    | er c fs ρ1 =>
      cases hm
      exact fun d H' F' xd E' n' mv => k σ d H' F' (Stb.refl σ) xd E' n' mv
    | ok d ρ1 =>
      cases hm
      intro v H' F' dp nl E' n' mv
      obtain ⟨F2, h1, h2, h3⟩ := E'.set i (.imm dp nl) n'
      exact k _ H' F2 (Stb.set hi) h1 h2 (mv.sub h3)
theorem qs_set {i : Nat} {m : MM M} (mk : ∀ te, PE X e te → PS X st (tAsg te (gName i))) (h : QX T X W e m) (hi : i ∉ S := by decide) : QS T S X W st (sSet i m) := by
  obtain ⟨t, ht, q⟩ := h.ex
  refine ⟨_, mk t ht, fun σ H ρ F r D E n hm k => ?_⟩
  unfold sSet bindM at hm
  cases hd : m ρ with
  | none => rw [hd] at hm; cases hm
  | some r1 =>
    rw [hd] at hm
    refine q σ H ρ F r1 _ E n hd ?_
    cases r1 with
    | er c fs ρ1 =>
      cases hm
      exact fun d H' F' xd E' n' mv => k σ d H' F' (Stb.refl σ) xd E' n' mv
    | ok d ρ1 =>
      cases hm
      intro v H' f F' rp E' n' mv
      obtain ⟨F2, h1, h2, h3⟩ := E'.set i rp n'
      exact k _ H' F2 (Stb.set hi) h1 h2 (mv.sub h3)
/-- a, b = a tuple -/
def sPat (p : Pt) (m : MM PyData) : MM Fl := bindM m fun d ρ => (bindP p d ρ).map fun ρ' => .ok .nx ρ'
theorem qs_pat {p : Pt} {m : MM PyData} {tg : Expr} (mk : ∀ te g, PE X e te → PG X tg g → PS X st (tAsg te g)) (h : QD T X W e m) (hg : QG T S X tg p) : QS T S X W st (sPat p m) := by
  obtain ⟨t, ht, q⟩ := h.ex
  obtain ⟨g, hg', qg⟩ := hg.ex
  refine ⟨_, mk t g ht hg', fun σ H ρ F r D E n hm k => ?_⟩
  unfold sPat bindM at hm
  cases hd : m ρ with
  | none => rw [hd] at hm; cases hm
  | some r1 =>
    rw [hd] at hm
    refine q σ H ρ F r1 _ E n hd ?_
    cases r1 with
    | er c fs ρ1 =>
      cases hm
      exact fun d H' F' xd E' n' mv => k σ d H' F' (Stb.refl σ) xd E' n' mv
    | ok d ρ1 =>
      intro v H' F' dp nl E' n' mv
      dsimp only at hm
      cases hb : bindP p d ρ1 with
      | none => rw [hb] at hm; cases hm
      | some ρ2 =>
        rw [hb] at hm
        cases hm
        exact qg v σ H' ρ1 ρ2 F' d _ E' n' dp nl hb fun σ2 F2 s2 E2 n2 f2 => k σ2 H' F2 s2 E2 n2 (mv.sub f2)
def sRetD (m : MM PyData) : MM Fl := bindM m fun d => pureM (.rt (.imm d))
def sRet (m : MM M) : MM Fl := bindM m fun x => pureM (.rt x)
theorem qs_retD {m : MM PyData} (h : QD T X W e m) : QS T S X W (.Return (some e) pos) (sRetD m) := by
  obtain ⟨t, ht, q⟩ := h.ex
  refine ⟨_, ps_ret ht, fun σ H ρ F r D E n hm k => ?_⟩
  unfold sRetD bindM at hm
  cases hd : m ρ with
  | none => rw [hd] at hm; cases hm
  | some r1 =>
    rw [hd] at hm
    refine q σ H ρ F r1 _ E n hd ?_
    cases r1 with
    | er c fs ρ1 =>
      cases hm
      exact fun d H' F' xd E' n' mv => k σ d H' F' (Stb.refl σ) xd E' n' mv
    | ok d ρ1 =>
      cases hm
      exact fun v H' F' dp nl E' n' mv => k v σ H' [] F' (Stb.refl σ) (.imm dp nl) E' n' mv
theorem qs_ret {m : MM M} (h : QX T X W e m) : QS T S X W (.Return (some e) pos) (sRet m) := by
  obtain ⟨t, ht, q⟩ := h.ex
  refine ⟨_, ps_ret ht, fun σ H ρ F r D E n hm k => ?_⟩
  unfold sRet bindM at hm
  cases hd : m ρ with
  | none => rw [hd] at hm; cases hm
  | some r1 =>
    rw [hd] at hm
    refine q σ H ρ F r1 _ E n hd ?_
    cases r1 with
    | er c fs ρ1 =>
      cases hm
      exact fun d H' F' xd E' n' mv => k σ d H' F' (Stb.refl σ) xd E' n' mv
    | ok d ρ1 =>
      cases hm
      exact fun v H' f F' rp E' n' mv => k v σ H' f F' (Stb.refl σ) rp E' n' mv
/-- a local's list is handed out -/
def sRetV (i : Nat) : MM Fl := fun ρ => match ρ[i]? with
  | some (some x) => some (.ok (.rt x) (ρ.set i (some .hol)))
  | _ => none
theorem qs_retV {i : Nat} (h : PE X e (tVar i)) : QS T S X W (.Return (some e) pos) (sRetV i) := by
  refine ⟨_, ps_ret h, fun σ H ρ F r D E n hm k => ?_⟩
  unfold sRetV at hm
  split at hm
  · rename_i x hx
    cases hm
    obtain ⟨v, f, F', h1, h2, h3, h4⟩ := E.take hx
    exact ⟨v, h1, k v σ H f F' (Stb.refl σ) h2 h3 (h4.nodup_iff.mpr n) (Mv.refl fun b hb => h4.mem_iff.mp hb)⟩
  · cases hm
def sRetN : MM Fl := pureM (.rt (.imm .none))
theorem qs_retN : QS T S X W (.Return none pos) sRetN := by
  refine ⟨_, ps_retN, fun σ H ρ F r D E n hm k => ?_⟩
  cases hm
  exact k .non σ H [] F (Stb.refl σ) (.imm .non rfl) E n (Mv.refl fun _ h => h)
def sDrop (m : MM M) : MM Fl := bindM m fun _ => pureM .nx
theorem qs_expr {m : MM M} (h : QX T X W e m) (hs : swapsWith e none pos.line X.env = pure false := by rfl) : QS T S X W (.Expr e pos) (sDrop m) := by
  obtain ⟨t, ht, q⟩ := h.ex
  refine ⟨_, ps_expr ht hs, fun σ H ρ F r D E n hm k => ?_⟩
  unfold sDrop bindM at hm
  cases hd : m ρ with
  | none => rw [hd] at hm; cases hm
  | some r1 =>
    rw [hd] at hm
    refine q σ H ρ F r1 _ E n hd ?_
    cases r1 with
    | er c fs ρ1 =>
      cases hm
      exact fun d H' F' xd E' n' mv => k σ d H' F' (Stb.refl σ) xd E' n' mv
    | ok d ρ1 =>
      cases hm
      exact fun v H' f F' rp E' n' mv => k σ H' F' (Stb.refl σ) E' (List.nodup_append.mp n').2.1 (mv.sub fun _ h => List.mem_append_right _ h)
theorem qs_never : QS T S X W st (fun _ => none) := ⟨_, ps_never, fun σ H ρ F r D E n hm k => by cases hm⟩
theorem qs_pass : QS T S X W (.Pass pos) (pureM .nx) := ⟨_, ps_pass, fun σ H ρ F r D E n hm k => by
  cases hm
  exact k σ H F (Stb.refl σ) E n (Mv.refl fun _ h => h)⟩
theorem qs_break : QS T S X W (.Break pos) (pureM .bk) := ⟨_, ps_break, fun σ H ρ F r D E n hm k => by
  cases hm
  exact k σ H F (Stb.refl σ) E n (Mv.refl fun _ h => h)⟩
theorem qs_cont : QS T S X W (.Continue pos) (pureM .ct) := ⟨_, ps_continue, fun σ H ρ F r D E n hm k => by
  cases hm
  exact k σ H F (Stb.refl σ) E n (Mv.refl fun _ h => h)⟩
/-- from further on -/
theorem GoS.from {K : PySem.W.Frag} {D : Ends} {H H' : Hp} {F F' : List Addr} {σ σ' : L2.St} {r : Rs Env' Fl} (k : GoS K T S W D H F σ r) (s : Stb S σ σ') (m : Mv F H F' H') : GoS K T S W D H' F' σ' r := by
  cases r with
  | er c fs ρ => exact fun σ2 d H2 F2 s2 xd E2 n2 m2 => k σ2 d H2 F2 (s.trans s2) xd E2 n2 (m.trans m2)
  | ok f ρ =>
    cases f with
    | nx => exact fun σ2 H2 F2 s2 E2 n2 m2 => k σ2 H2 F2 (s.trans s2) E2 n2 (m.trans m2)
    | bk => exact fun σ2 H2 F2 s2 E2 n2 m2 => k σ2 H2 F2 (s.trans s2) E2 n2 (m.trans m2)
    | ct => exact fun σ2 H2 F2 s2 E2 n2 m2 => k σ2 H2 F2 (s.trans s2) E2 n2 (m.trans m2)
    | rt x => exact fun v σ2 H2 f F2 s2 rp E2 n2 m2 => k v σ2 H2 f F2 (s.trans s2) rp E2 n2 (m.trans m2)
/-- one after the other -/
def seqM (m k : MM Fl) : MM Fl := bindM m fun f => match f with
  | .nx => k
  | f => pureM f
def endM : MM Fl := pureM .nx
theorem qss_nil : QSs T S X W [] endM := ⟨_, pss_nil, fun σ H ρ F r D E n hm k => by
  cases hm
  exact k σ H F (Stb.refl σ) E n (Mv.refl fun _ h => h)⟩
theorem qss_one {m : MM Fl} (h : QS T S X W st m) : QSs T S X W [st] m := by
  obtain ⟨t, ht, q⟩ := h.ex
  exact ⟨t, pss_one ht, q⟩
theorem qss_cons {m k : MM Fl} (h : QS T S X W st m) (h2 : QSs T S X W sts k) : QSs T S X W (st :: sts) (seqM m k) := by
  obtain ⟨t, ht, q⟩ := h.ex
  obtain ⟨u, hu, q2⟩ := h2.ex
  refine ⟨_, pss_cons ht hu, fun σ H ρ F r D E n hm kk => ?_⟩
  unfold seqM bindM at hm
  cases hd : m ρ with
  | none => rw [hd] at hm; cases hm
  | some r1 =>
    rw [hd] at hm
    refine q σ H ρ F r1 _ E n hd ?_
    cases r1 with
    | er c fs ρ1 => cases hm; exact kk
    | ok f ρ1 =>
      cases f with
      | nx => exact fun σ1 H1 F1 s1 E1 n1 m1 => q2 σ1 H1 ρ1 F1 r D E1 n1 hm (kk.from s1 m1)
      | bk => cases hm; exact kk
      | ct => cases hm; exact kk
      | rt x => cases hm; exact kk
theorem qs_if {sa sb : List Stmt} {tm : MM Bool} {m k : MM Fl} (hc : QT T X W c tm) (ha : QSs T S X W sa m) (hb : QSs T S X W sb k) : QS T S X W (.If c sa sb pos) (ifM tm m k) := by
  obtain ⟨t, h1, q1⟩ := hc.ex
  obtain ⟨ta, h2, q2⟩ := ha.ex
  obtain ⟨tb, h3, q3⟩ := hb.ex
  refine ⟨_, ps_if h1 h2 h3, fun σ H ρ F r D E n hm kk => ?_⟩
  unfold ifM bindM at hm
  cases hd : tm ρ with
  | none => rw [hd] at hm; cases hm
  | some r1 =>
    rw [hd] at hm
    refine q1 σ H ρ F r1 _ E n hd ?_
    cases r1 with
    | er c fs ρ1 =>
      cases hm
      exact fun d H' F' xd E' n' mv => kk σ d H' F' (Stb.refl σ) xd E' n' mv
    | ok b ρ1 =>
      intro H1 F1 E1 n1 m1
      cases b with
      | true => exact q2 σ H1 ρ1 F1 r D E1 n1 hm (kk.from (Stb.refl σ) m1)
      | false => exact q3 σ H1 ρ1 F1 r D E1 n1 hm (kk.from (Stb.refl σ) m1)
/-- x += e, x an int -/
def sAug (i : Nat) (o : PyData → PyData → Option PyData) (m : MM PyData) : MM Fl := fun ρ => match eV i ρ with
  | some x => bindM m (fun y ρ1 => (o x y).map fun z => .ok .nx (ρ1.set i (some (.imm z)))) ρ
  | none => none
def SndA (K : PySem.W.Frag) (r : TIp) (o : PyData → PyData → Option PyData) : Prop :=
  ∀ (H : Hp) (x y : V) (p q z : PyData) (Q : VK), Dq K H x p → noL p = true → Dq K H y q → noL q = true → o p q = some z → (∀ v H', Same H H' → Dq K H' v z → noL z = true → Q v H') → r x y H Q
theorem qs_aug {i : Nat} {ti : TIp} {o : PyData → PyData → Option PyData} {m : MM PyData} (s : SndA X.K ti o) (mk : ∀ te, PE X e te → PS X st (tAug i te ti)) (h : QD T X W e m) (hi : i ∉ S := by decide) : QS T S X W st (sAug i o m) := by
  obtain ⟨t, ht, q⟩ := h.ex
  refine ⟨_, mk t ht, fun σ H ρ F r D E n hm k => ?_⟩
  unfold sAug at hm
  cases hx : eV i ρ with
  | none => rw [hx] at hm; cases hm
  | some x =>
    rw [hx] at hm
    have hx' : ρ[i]? = some (some (.imm x)) := by
      unfold eV pE eP at hx
      cases hg : ρ[i]? with
      | none => rw [hg] at hx; cases hx
      | some o =>
        rw [hg] at hx
        cases o with
        | none => cases hx
        | some y =>
          cases y with
          | imm d => cases hx; rfl
          | _ => cases hx
    obtain ⟨v0, f0, g1, g2, _⟩ := E.get hx'
    cases g2 with
    | imm dp0 nl0 =>
    refine ⟨v0, g1, ?_⟩
    dsimp only at hm
    unfold bindM at hm
    cases hd : m ρ with
    | none => rw [hd] at hm; cases hm
    | some r1 =>
      rw [hd] at hm
      refine q σ H ρ F r1 _ E n hd ?_
      cases r1 with
      | er c fs ρ1 =>
        cases hm
        exact fun d H' F' xd E' n' mv => k σ d H' F' (Stb.refl σ) xd E' n' mv
      | ok y ρ1 =>
        intro v H' F' dp nl E' n' mv
        dsimp only at hm
        cases hz : o x y with
        | none => rw [hz] at hm; cases hm
        | some z =>
          rw [hz] at hm
          cases hm
          refine s H' v0 v x y z _ (dp_keepX (mv.c.kp (g := []) E.wr (fun _ h => nomatch h)).x nl0 dp0) nl0 dp nl hz fun w H2 s2 dz nz => ?_
          obtain ⟨F2, h1, h2, h3⟩ := (E'.same s2).set i (.imm dz nz) n'
          exact k _ H2 F2 (Stb.set hi) h1 h2 (mv.trans (Mv.same s2 h3))
theorem snd_ipadd {K : PySem.W.Frag} : SndA K (ipI fun i j => i + j) (oI fun a b => some (.int (a + b))) := by
  intro H x y p q z Q dx nx dy ny h k
  cases p with
  | int a =>
    cases q with
    | int b =>
      cases h
      cases dx
      cases dy
      exact ⟨a, b, rfl, rfl, k _ H (Same.refl H) (.int _) rfl⟩
    | _ => cases h
  | _ => cases h
theorem snd_ipsub {K : PySem.W.Frag} : SndA K (ipI fun i j => i - j) (oI fun a b => some (.int (a - b))) := by
  intro H x y p q z Q dx nx dy ny h k
  cases p with
  | int a =>
    cases q with
    | int b =>
      cases h
      cases dx
      cases dy
      exact ⟨a, b, rfl, rfl, k _ H (Same.refl H) (.int _) rfl⟩
    | _ => cases h
  | _ => cases h
end
/-! ### loops -/
structure ItOk (K : PySem.W.Frag) (J : It) (items : List PyData) (G : Hp → Prop) : Prop where
  go : ∀ i H, G H → i < items.length → J.go i H
  yld : ∀ i H x H', G H → i < items.length → J.yld i H x H' → ∃ d, items[i]? = some d ∧ Dq K H' x d ∧ noL d = true ∧ Same H H'
  stop : ∀ i H, G H → i = items.length → J.stop i H
structure QI (T : Tb) (X : Cx) (W : WXk) (tg e : Expr) (m : MM (List PyData)) : Prop where
  ex : ∃ wi : TI, PI X tg e wi ∧ ∀ (σ : L2.St) (H : Hp) (ρ : Env') (F : List Addr) (r : Rs Env' (List PyData)) (R : It → Hp → Prop), EnvR X.K T H σ ρ F → F.Nodup → m ρ = some r →
    (match r with
      | .ok items ρ1 => ∀ (J : It) (H' : Hp) (fp F' : List Addr) (G : Hp → Prop), ItOk X.K J items G → (∀ H1 H2, Kp T fp H1 H2 → G H1 → G H2) → G H' → WrA T H' fp → EnvR X.K T H' σ ρ1 F' → (fp ++ F').Nodup → Mv F H (fp ++ F') H' → R J H'
      | .er c fs ρ1 => XOk X.K T W H F σ c fs ρ1) → wi σ H R
def loopM (p : Pt) (mb : MM Fl) : List PyData → MM Fl
  | [] => pureM .nx
  | d :: ds => fun ρ => match bindP p d ρ with
    | none => none
    | some ρ1 => match mb ρ1 with
      | none => none
      | some (.ok .nx ρ2) => loopM p mb ds ρ2
      | some (.ok .ct ρ2) => loopM p mb ds ρ2
      | some (.ok .bk ρ2) => some (.ok .nx ρ2)
      | some (.ok (.rt x) ρ2) => some (.ok (.rt x) ρ2)
      | some (.er c fs ρ2) => some (.er c fs ρ2)
def forM (p : Pt) (m : MM (List PyData)) (mb : MM Fl) : MM Fl := bindM m fun items => loopM p mb items
def whileM (tm : MM Bool) (mb : MM Fl) : Nat → MM Fl
  | 0 => fun _ => none
  | n + 1 => bindM tm fun b => if b then (fun ρ => match mb ρ with
      | none => none
      | some (.ok .nx ρ2) => whileM tm mb n ρ2
      | some (.ok .ct ρ2) => whileM tm mb n ρ2
      | some (.ok .bk ρ2) => some (.ok .nx ρ2)
      | some (.ok (.rt x) ρ2) => some (.ok (.rt x) ρ2)
      | some (.er c fs ρ2) => some (.er c fs ρ2)) else pureM .nx
section
variable {T : Tb} {S S' : List Nat} {X : Cx} {W : WXk} {e a b c tg : Expr} {es rest : List Expr} {st : Stmt} {sts body : List Stmt} {pos p2 : Pos}
theorem wrA_mv {H H' : Hp} {f F F' : List Addr} (w : WrA T H f) (m : Mv F H F' H') (d : ∀ b ∈ f, b ∉ F) : WrA T H' f := fun b hb => by
  obtain ⟨o, h, q⟩ := w b hb
  exact ⟨o, m.c b o h (d b hb), q⟩
theorem nodup_mv {K : PySem.W.Frag} {H H' : Hp} {f F F' : List Addr} {σ : L2.St} {ρ : Env'} (n : (f ++ F).Nodup) (n' : F'.Nodup) (m : Mv F H F' H') (w : WrA T H f) : (f ++ F').Nodup := by
  rw [List.nodup_append] at n ⊢
  refine ⟨n.1, n', fun b hb c hc e => ?_⟩
  subst e
  rcases m.n b hc with z | z
  · exact n.2.2 b hb b z rfl
  · obtain ⟨o, h, _⟩ := w b hb
    rw [z] at h
    cases h
theorem mv_frame {H H' : Hp} {f F F' : List Addr} (m : Mv F H F' H') : Mv (f ++ F) H (f ++ F') H' :=
  ⟨fun b o h n => m.c b o h fun z => n (List.mem_append_right _ z), fun b hb => (List.mem_append.mp hb).elim (fun z => .inl (List.mem_append_left _ z)) fun z => (m.n b z).elim (fun y => .inl (List.mem_append_right _ y)) .inr⟩
theorem qs_for {p : Pt} {m : MM (List PyData)} {mb : MM Fl} (mk : ∀ wi g tb, PI X tg e wi → PG X tg g → PSs X body tb → PS X st (tFor wi g tb)) (hi : QI T X W tg e m) (hg : QG T S X tg p) (hb : QSs T S X W body mb) : QS T S X W st (forM p m mb) := by
  obtain ⟨wi, h1, q1⟩ := hi.ex
  obtain ⟨g, h2, q2⟩ := hg.ex
  obtain ⟨tb, h3, q3⟩ := hb.ex
  refine ⟨_, mk wi g tb h1 h2 h3, fun σ H ρ F r D E n hm k => ?_⟩
  unfold forM bindM at hm
  cases hd : m ρ with
  | none => rw [hd] at hm; cases hm
  | some r1 =>
    rw [hd] at hm
    refine q1 σ H ρ F r1 _ E n hd ?_
    cases r1 with
    | er c fs ρ1 =>
      cases hm
      exact fun d H' F' xd E' n' mv => k σ d H' F' (Stb.refl σ) xd E' n' mv
    | ok items ρ1 =>
      intro J H1 fp F1 G it gk g1 w1 E1 n1 m1
      refine ⟨fun i mm σ' H' => mm = items.length - i ∧ i ≤ items.length ∧ ∃ ρ' F', EnvR X.K T H' σ' ρ' F' ∧ (fp ++ F').Nodup ∧ G H' ∧ WrA T H' fp ∧ Stb S σ σ' ∧ Mv F H (fp ++ F') H' ∧ loopM p mb (items.drop i) ρ' = some r,
        ⟨_, rfl, Nat.zero_le _, ρ1, F1, E1, n1, g1, w1, Stb.refl σ, m1, hm⟩, ?_⟩
      rintro i mm σ2 H2 ⟨rfl, hle, ρ2, F2, E2, n2, g2, w2, s2, m2, hl⟩
      by_cases hlt : i < items.length
      · refine .inr ⟨it.go i H2 g2 hlt, fun σ3 H3 => ∃ ρ3 F3, EnvR X.K T H3 σ3 ρ3 F3 ∧ (fp ++ F3).Nodup ∧ G H3 ∧ WrA T H3 fp ∧ Stb S σ σ3 ∧ Mv F H (fp ++ F3) H3 ∧ loopM p mb (items.drop (i + 1)) ρ3 = some r,
          fun σ3 H3 h => ⟨items.length - (i + 1), by omega, rfl, hlt, h⟩, fun x H3 y => ?_⟩
        obtain ⟨d, hx, dp, nl, s3⟩ := it.yld i H2 x H3 g2 hlt y
        have hdr : items.drop i = d :: items.drop (i + 1) := by
          rw [List.drop_eq_getElem_cons hlt]
          rw [List.getElem?_eq_getElem hlt] at hx
          cases hx
          rfl
        rw [hdr] at hl
        simp only [loopM] at hl
        cases hbp : bindP p d ρ2 with
        | none => rw [hbp] at hl; cases hl
        | some ρ3 =>
          rw [hbp] at hl
          dsimp only at hl
          have n2' := (List.nodup_append.mp n2).2.1
          refine q2 x σ2 H3 ρ2 ρ3 F2 d _ (E2.same s3) n2' dp nl hbp fun σ4 F4 s4 E4 n4 f4 => ?_
          cases hmb : mb ρ3 with
          | none => rw [hmb] at hl; cases hl
          | some r4 =>
            rw [hmb] at hl
            have w3 : WrA T H3 fp := wrA_mv w2 (Mv.same (f := []) (f' := []) s3 fun _ h => h) (fun _ _ h => nomatch h)
            have n34 : (fp ++ F4).Nodup := by
              rw [List.nodup_append] at n2 ⊢
              exact ⟨n2.1, n4, fun b hb c hc => n2.2.2 b hb c (f4 c hc)⟩
            have m34 : Mv F H (fp ++ F4) H3 := m2.trans (Mv.same s3 fun b hb => (List.mem_append.mp hb).elim (List.mem_append_left _) fun z => List.mem_append_right _ (f4 b z))
            have dis : ∀ b ∈ fp, b ∉ F4 := fun b hb hf => (List.nodup_append.mp n34).2.2 b hb b hf rfl
            have g3 : G H3 := gk H2 H3 (Same.kp s3) g2
            have nxt : ∀ (σ5 : L2.St) (H5 : Hp) (F5 : List Addr) (ρ5 : Env'), Stb S σ4 σ5 → EnvR X.K T H5 σ5 ρ5 F5 → F5.Nodup → Mv F4 H3 F5 H5 → loopM p mb (items.drop (i + 1)) ρ5 = some r →
                ∃ ρ3 F3, EnvR X.K T H5 σ5 ρ3 F3 ∧ (fp ++ F3).Nodup ∧ G H5 ∧ WrA T H5 fp ∧ Stb S σ σ5 ∧ Mv F H (fp ++ F3) H5 ∧ loopM p mb (items.drop (i + 1)) ρ3 = some r :=
              fun σ5 H5 F5 ρ5 s5 E5 n5 m5 h5 => ⟨ρ5, F5, E5, nodup_mv (K := X.K) (σ := σ4) (ρ := ρ3) n34 n5 m5 w3, gk H3 H5 (m5.c.kp E4.wr dis) g3, wrA_mv w3 m5 dis, (s2.trans s4).trans s5, m34.trans (mv_frame m5), h5⟩
            have out : ∀ {F5 : List Addr} {H5 : Hp}, Mv F4 H3 F5 H5 → Mv F H F5 H5 := fun {F5 H5} m5 => (m34.trans (mv_frame m5)).sub fun _ h => List.mem_append_right _ h
            refine q3 σ4 H3 ρ3 F4 r4 _ E4 n4 hmb ?_
            cases r4 with
            | er c fs ρ5 =>
              cases hl
              exact fun σ5 d5 H5 F5 s5 xd E5 n5 m5 => k σ5 d5 H5 F5 ((s2.trans s4).trans s5) xd E5 n5 (out m5)
            | ok f ρ5 =>
              cases f with
              | nx => exact fun σ5 H5 F5 s5 E5 n5 m5 => nxt σ5 H5 F5 ρ5 s5 E5 n5 m5 hl
              | ct => exact fun σ5 H5 F5 s5 E5 n5 m5 => nxt σ5 H5 F5 ρ5 s5 E5 n5 m5 hl
              | bk =>
                cases hl
                exact fun σ5 H5 F5 s5 E5 n5 m5 => k σ5 H5 F5 ((s2.trans s4).trans s5) E5 n5 (out m5)
              | rt z =>
                cases hl
                exact fun v σ5 H5 f5 F5 s5 rp E5 n5 m5 => k v σ5 H5 f5 F5 ((s2.trans s4).trans s5) rp E5 n5 (out m5)
      · have e : i = items.length := by omega
        refine .inl ⟨it.stop i H2 g2 e, ?_⟩
        subst e
        rw [List.drop_length] at hl
        cases hl
        exact k σ2 H2 F2 s2 E2 (List.nodup_append.mp n2).2.1 (m2.sub fun _ h => List.mem_append_right _ h)
theorem qs_while {fuel : Nat} {tm : MM Bool} {mb : MM Fl} (mk : ∀ tc tb, PT X c tc → PSs X body tb → PS X st (tWhile tc tb)) (hc : QT T X W c tm) (hb : QSs T S X W body mb) : QS T S X W st (whileM tm mb fuel) := by
  obtain ⟨tc, h1, q1⟩ := hc.ex
  obtain ⟨tb, h2, q2⟩ := hb.ex
  refine ⟨_, mk tc tb h1 h2, fun σ H ρ F r D E n hm k => ?_⟩
  refine ⟨fun mm σ' H' => ∃ ρ' F', EnvR X.K T H' σ' ρ' F' ∧ F'.Nodup ∧ Stb S σ σ' ∧ Mv F H F' H' ∧ whileM tm mb mm ρ' = some r, ⟨fuel, ρ, F, E, n, Stb.refl σ, Mv.refl fun _ h => h, hm⟩, ?_⟩
  rintro mm σ1 H1 ⟨ρ1, F1, E1, n1, s1, m1, hw⟩
  cases mm with
  | zero => cases hw
  | succ mm =>
    simp only [whileM] at hw
    unfold bindM at hw
    cases ht : tm ρ1 with
    | none => rw [ht] at hw; cases hw
    | some r2 =>
      rw [ht] at hw
      refine q1 σ1 H1 ρ1 F1 r2 _ E1 n1 ht ?_
      cases r2 with
      | er c fs ρ2 =>
        cases hw
        exact fun d H' F' xd E' n' mv => k σ1 d H' F' s1 xd E' n' (m1.trans mv)
      | ok b ρ2 =>
        intro H2 F2 E2 n2 m2
        cases b with
        | false =>
          cases hw
          exact k σ1 H2 F2 s1 E2 n2 (m1.trans m2)
        | true =>
          refine ⟨fun σ' H' => ∃ ρ' F', EnvR X.K T H' σ' ρ' F' ∧ F'.Nodup ∧ Stb S σ σ' ∧ Mv F H F' H' ∧ whileM tm mb mm ρ' = some r, fun σ' H' h => ⟨mm, Nat.lt_succ_self _, h⟩, ?_⟩
          dsimp only at hw
          rw [if_pos rfl] at hw
          cases hmb : mb ρ2 with
          | none => rw [hmb] at hw; cases hw
          | some r4 =>
            rw [hmb] at hw
            refine q2 σ1 H2 ρ2 F2 r4 _ E2 n2 hmb ?_
            cases r4 with
            | er c fs ρ5 =>
              cases hw
              exact fun σ5 d5 H5 F5 s5 xd E5 n5 m5 => k σ5 d5 H5 F5 (s1.trans s5) xd E5 n5 ((m1.trans m2).trans m5)
            | ok f ρ5 =>
              cases f with
              | nx => exact fun σ5 H5 F5 s5 E5 n5 m5 => ⟨ρ5, F5, E5, n5, s1.trans s5, (m1.trans m2).trans m5, hw⟩
              | ct => exact fun σ5 H5 F5 s5 E5 n5 m5 => ⟨ρ5, F5, E5, n5, s1.trans s5, (m1.trans m2).trans m5, hw⟩
              | bk =>
                cases hw
                exact fun σ5 H5 F5 s5 E5 n5 m5 => k σ5 H5 F5 (s1.trans s5) E5 n5 ((m1.trans m2).trans m5)
              | rt z =>
                cases hw
                exact fun v σ5 H5 f5 F5 s5 rp E5 n5 m5 => k v σ5 H5 f5 F5 (s1.trans s5) rp E5 n5 ((m1.trans m2).trans m5)
/-! #### what is walked -/
def rangeL (lo : Int) (n : Nat) : List PyData := (List.range n).map fun j => .int (lo + (j : Nat))
theorem rangeL_len (lo : Int) (n : Nat) : (rangeL lo n).length = n := by unfold rangeL; rw [List.length_map, List.length_range]
theorem itr_ok {K : PySem.W.Frag} {lo : Int} {n : Nat} : ItOk K (Itr lo n) (rangeL lo n) (fun _ => True) := by
  refine ⟨fun i H _ h => by rw [rangeL_len] at h; exact h, fun i H x H' _ hi y => ?_, fun i H _ h => by rw [rangeL_len] at h; exact Nat.le_of_eq h.symm⟩
  obtain ⟨rfl, rfl⟩ := y
  rw [rangeL_len] at hi
  refine ⟨.int (lo + (i : Nat)), ?_, .int _, rfl, Same.refl _⟩
  unfold rangeL
  rw [List.getElem?_map, List.getElem?_range hi]
  rfl
theorem itt_ok {K : PySem.W.Frag} {a : Addr} {vs : List V} {ds : List PyData} (n : noLs ds = true) : ItOk K (Itt K a) ds (fun H => Tq K H a vs ∧ DqAll K H vs ds) := by
  refine ⟨fun i H g h => ?_, fun i H x H' g hi y => ?_, fun i H g h => ?_⟩
  · obtain ⟨v, hv, _⟩ := dpAll_at g.2 (List.getElem?_eq_getElem h)
    exact ⟨vs, v, g.1.sq, hv⟩
  · obtain ⟨rfl, y⟩ := y
    obtain ⟨v, hv, dv⟩ := dpAll_at g.2 (List.getElem?_eq_getElem hi)
    have := y vs g.1.sq
    rw [hv] at this
    cases this
    exact ⟨_, List.getElem?_eq_getElem hi, dv, noLs_at n (List.getElem?_eq_getElem hi), Same.refl _⟩
  · exact ⟨vs, g.1.sq, by rw [dpAll_len g.2, h] <;> exact Nat.le_refl _⟩
theorem tq_kp {K : PySem.W.Frag} {H H' : Hp} {f : List Addr} {a : Addr} {vs : List V} (k : Kp T f H H') (h : Tq K H a vs) : Tq K H' a vs := h.elim (fun ⟨o, g, t⟩ => .inl ⟨o, k.x _ _ _ g, t⟩) .inr
/-- over the items of a tuple -/
def tupL : PyData → Option (List PyData)
  | .tuple ds => some ds
  | _ => none
def iT (m : MM PyData) : MM (List PyData) := bindM m fun d => optM (tupL d)
theorem qi_tup {m : MM PyData} (h : QD T X W e m) : QI T X W tg e (iT m) := by
  obtain ⟨t, ht, q⟩ := h.ex
  refine ⟨_, pi_tup ht, fun σ H ρ F r R E n hm k => ?_⟩
  unfold iT bindM at hm
  cases hd : m ρ with
  | none => rw [hd] at hm; cases hm
  | some r1 =>
    rw [hd] at hm
    refine q σ H ρ F r1 _ E n hd ?_
    cases r1 with
    | er c fs ρ1 => cases hm; exact k
    | ok d ρ1 =>
      intro v H' F' dp nl E' n' mv
      cases d with
      | tuple ds =>
        cases hm
        obtain ⟨a, xs, rfl, s, al⟩ := dp_tupX dp
        have nn : noLs ds = true := by simpa [noL] using nl
        refine ⟨a, rfl, ⟨xs, s.sq⟩, ?_⟩
        exact k (Itt X.K a) H' [] F' (fun H => Tq X.K H a xs ∧ DqAll X.K H xs ds) (itt_ok nn) (fun H1 H2 kp g => ⟨tq_kp kp g.1, dp_keepXs kp.x nn g.2⟩) ⟨s, al⟩ (fun _ h => nomatch h) E' n' mv
      | _ => cases hm
/-- over the signs of a text -/
def signsL (z : Str) : List PyData := z.cps.toList.map fun c => .str ⟨#[c]⟩
theorem its_ok {K : PySem.W.Frag} {z : Str} : ItOk K (Its z) (signsL z) (fun _ => True) := by
  have hl : (signsL z).length = z.cps.size := by
    unfold signsL
    rw [List.length_map, Array.length_toList]
  refine ⟨fun i H _ h => by rw [hl] at h; exact h, fun i H x H' _ hi y => ?_, fun i H _ h => by rw [hl] at h; exact Nat.le_of_eq h.symm⟩
  obtain ⟨rfl, c, hc, rfl⟩ := y
  refine ⟨.str ⟨#[c]⟩, ?_, .str _, rfl, Same.refl _⟩
  unfold signsL
  rw [List.getElem?_map, Array.getElem?_toList, hc]
  rfl
def iStrM (m : MM PyData) : MM (List PyData) := bindM m fun d => match d with | .str z => pureM (signsL z) | _ => fun _ => none
theorem qi_str {m : MM PyData} (h : QD T X W e m) : QI T X W tg e (iStrM m) := by
  obtain ⟨t, ht, q⟩ := h.ex
  refine ⟨_, pi_str ht, fun σ H ρ F r R E n hm k => ?_⟩
  unfold iStrM bindM at hm
  cases hd : m ρ with
  | none => rw [hd] at hm; cases hm
  | some r1 =>
    rw [hd] at hm
    refine q σ H ρ F r1 _ E n hd ?_
    cases r1 with
    | er c fs ρ1 => cases hm; exact k
    | ok d ρ1 =>
      intro v H' F' dp nl E' n' mv
      cases d with
      | str z =>
        cases hm
        cases dp
        exact ⟨z, rfl, k (Its z) H' [] F' (fun _ => True) its_ok (fun _ _ _ _ => trivial) trivial (fun _ h => nomatch h) E' n' mv⟩
      | _ => cases hm
/-- over a list of data that is new -/
def immL : List M → Option (List PyData)
  | [] => some []
  | .imm d :: xs => (immL xs).map fun ds => d :: ds
  | _ => none
theorem immL_dp {K : PySem.W.Frag} {H : Hp} : ∀ {vs : List V} {xs : List M} {f : List Addr} {ds : List PyData}, Reps K T H vs xs f → immL xs = some ds → DqAll K H vs ds ∧ noLs ds = true ∧ f = []
  | _, _, _, _, .nil, h => by
    cases h
    exact ⟨.nil, rfl, rfl⟩
  | _, _, _, _, .cons (x := x) a r, h => by
    cases x with
    | imm d =>
      simp only [immL] at h
      rename_i vs xs
      cases hx : immL xs with
      | none => rw [hx] at h; cases h
      | some es =>
        rw [hx] at h
        cases h
        obtain ⟨h1, h2, h3⟩ := immL_dp r hx
        cases a with
        | imm dp nl =>
          subst h3
          exact ⟨.cons dp h1, by simp [noLs, nl, h2], rfl⟩
    | _ => cases h
theorem itl_ok {K : PySem.W.Frag} {a : Addr} {vs : List V} {ds : List PyData} (n : noLs ds = true) : ItOk K (Itl K a) ds (fun H => SqL K H a vs ∧ DqAll K H vs ds) := by
  refine ⟨fun i H g h => ?_, fun i H x H' g hi y => ?_, fun i H g h => ?_⟩
  · obtain ⟨v, hv, _⟩ := dpAll_at g.2 (List.getElem?_eq_getElem h)
    exact ⟨vs, v, g.1, hv⟩
  · obtain ⟨rfl, y⟩ := y
    obtain ⟨v, hv, dv⟩ := dpAll_at g.2 (List.getElem?_eq_getElem hi)
    have := y vs g.1
    rw [hv] at this
    cases this
    exact ⟨_, List.getElem?_eq_getElem hi, dv, noLs_at n (List.getElem?_eq_getElem hi), Same.refl _⟩
  · exact ⟨vs, g.1, by rw [dpAll_len g.2, h] <;> exact Nat.le_refl _⟩
def lstL : M → Option (List PyData)
  | .lst xs => immL xs
  | .scr ns => some (ns.map .int)
  | _ => none
def iL (m : MM M) : MM (List PyData) := bindM m fun x => optM (lstL x)
theorem dpAll_ints {K : PySem.W.Frag} {H : Hp} : ∀ (ns : List Int), DqAll K H (ns.map V.int) (ns.map PyData.int)
  | [] => .nil
  | n :: ns => .cons (.int n) (dpAll_ints ns)
theorem noLs_ints : ∀ (ns : List Int), noLs (ns.map PyData.int) = true
  | [] => rfl
  | n :: ns => by simp [noLs, noL, noLs_ints ns]
theorem qi_lst {m : MM M} (h : QX T X W e m) : QI T X W tg e (iL m) := by
  obtain ⟨t, ht, q⟩ := h.ex
  refine ⟨_, pi_list ht, fun σ H ρ F r R E n hm k => ?_⟩
  unfold iL bindM at hm
  cases hd : m ρ with
  | none => rw [hd] at hm; cases hm
  | some r1 =>
    rw [hd] at hm
    refine q σ H ρ F r1 _ E n hd ?_
    cases r1 with
    | er c fs ρ1 => cases hm; exact k
    | ok x ρ1 =>
      intro v H' f F' rp E' n' mv
      dsimp only [optM] at hm
      cases hx : lstL x with
      | none => rw [hx] at hm; cases hm
      | some ds =>
        rw [hx] at hm
        cases hm
        cases x with
        | lst xs =>
          have wf := rp.wr
          cases rp with
          | lst ha rs =>
          obtain ⟨h1, h2, rfl⟩ := immL_dp rs hx
          rename_i a vs
          refine ⟨a, rfl, ⟨vs, SqL.of ha⟩, ?_⟩
          exact k (Itl X.K a) H' [a] F' (fun H => H a = some (.lst vs) ∧ SqL X.K H a vs ∧ DqAll X.K H vs ds) ⟨fun i H g h => (itl_ok h2).go i H g.2 h, fun i H x H' g hi y => (itl_ok h2).yld i H x H' g.2 hi y, fun i H g h => (itl_ok h2).stop i H g.2 h⟩
            (fun H1 H2 kp g => ⟨kp _ _ g.1 (.inl (by simp)), SqL.of (kp _ _ g.1 (.inl (by simp))), dp_keepXs kp.x h2 g.2.2⟩) ⟨ha, SqL.of ha, h1⟩ wf E' n' mv
        | scr ns =>
          cases hx
          cases rp with
          | scr sa =>
          rename_i a
          refine ⟨a, rfl, ⟨_, sa.seq⟩, ?_⟩
          exact k (Itl X.K a) H' [] F' (fun H => ScrAt X.K H a (ns.map V.int) ∧ SqL X.K H a (ns.map V.int) ∧ DqAll X.K H (ns.map V.int) (ns.map .int)) ⟨fun i H g h => (itl_ok (noLs_ints ns)).go i H g.2 h, fun i H x H' g hi y => (itl_ok (noLs_ints ns)).yld i H x H' g.2 hi y, fun i H g h => (itl_ok (noLs_ints ns)).stop i H g.2 h⟩
            (fun H1 H2 kp g => ⟨g.1.keep kp, (g.1.keep kp).seq, dpAll_ints ns⟩) ⟨sa, sa.seq, dpAll_ints ns⟩ (fun _ h => nomatch h) E' n' mv
        | _ => cases hx
def big62 : Int := 4611686018427387904
theorem big62_eq : (2 : Int) ^ 62 = big62 := by decide
def rng1 : PyData → Option (List PyData)
  | .int j => if -big62 ≤ j ∧ j < big62 then some (rangeL 0 j.toNat) else none
  | _ => none
def rng2 : PyData → PyData → Option (List PyData)
  | .int i, .int j => if (-big62 ≤ i ∧ i < big62) ∧ -big62 ≤ j ∧ j < big62 then some (rangeL i (j - i).toNat) else none
  | _, _ => none
def iR1 (m : MM PyData) : MM (List PyData) := bindM m fun d => optM (rng1 d)
def iR2 (m k : MM PyData) : MM (List PyData) := bindM m fun d => bindM k fun e => optM (rng2 d e)
theorem qi_range1 {m : MM PyData} {p : Pos} (h : QD T X W a m) (hg : Gl X "range") (hz : X.mg "range" = none) (hs : starEach [a] X.env = [(false, eval a X.env)] := by rfl) : QI T X W tg (.Call (.Name "range" p) [a] [] pos) (iR1 m) := by
  obtain ⟨t, ht, q⟩ := h.ex
  refine ⟨_, pi_range1 hg hz (pa_cons ht pa_nil hs) hs, fun σ H ρ F r R E n hm k => ?_⟩
  unfold iR1 bindM at hm
  cases hd : m ρ with
  | none => rw [hd] at hm; cases hm
  | some r1 =>
    rw [hd] at hm
    refine q σ H ρ F r1 _ E n hd ?_
    cases r1 with
    | er c fs ρ1 => cases hm; exact k
    | ok d ρ1 =>
      intro v H' F' dp nl E' n' mv
      cases d with
      | int j =>
        simp only [optM, rng1] at hm
        split at hm
        · rename_i hj
          cases hm
          cases dp
          exact ⟨j, rfl, by rw [big62_eq]; exact hj.1, by rw [big62_eq]; exact hj.2, k (Itr 0 j.toNat) H' [] F' (fun _ => True) itr_ok (fun _ _ _ _ => trivial) trivial (fun _ h => nomatch h) E' n' mv⟩
        · cases hm
      | _ => cases hm
theorem qi_range2 {m m2 : MM PyData} {p : Pos} (h : QD T X W a m) (h2 : QD T X W b m2) (hg : Gl X "range") (hz : X.mg "range" = none) (hs : starEach [a, b] X.env = [(false, eval a X.env), (false, eval b X.env)] := by rfl)
    (hs2 : starEach [b] X.env = [(false, eval b X.env)] := by rfl) : QI T X W tg (.Call (.Name "range" p) [a, b] [] pos) (iR2 m m2) := by
  obtain ⟨t, ht, q⟩ := h.ex
  obtain ⟨t2, ht2, q2⟩ := h2.ex
  refine ⟨_, pi_range2 hg hz (pa_cons ht (pa_cons ht2 pa_nil hs2) (hs.trans (by rw [hs2]))) hs hs2, fun σ H ρ F r R E n hm k => ?_⟩
  unfold iR2 bindM at hm
  cases hd : m ρ with
  | none => rw [hd] at hm; cases hm
  | some r1 =>
    rw [hd] at hm
    refine q σ H ρ F r1 _ E n hd ?_
    cases r1 with
    | er c fs ρ1 => cases hm; exact k
    | ok d ρ1 =>
      intro v H1 F1 d1 nl1 E1 n1 m1
      dsimp only at hm
      cases hd2 : m2 ρ1 with
      | none => rw [hd2] at hm; cases hm
      | some r2 =>
        rw [hd2] at hm
        refine q2 σ H1 ρ1 F1 r2 _ E1 n1 hd2 ?_
        cases r2 with
        | er c fs ρ2 => cases hm; exact XOk.from k m1
        | ok d' ρ2 =>
          intro w H2 F2 d2 nl2 E2 n2 m2'
          cases d with
          | int i =>
            cases d' with
            | int j =>
              simp only [optM, rng2] at hm
              split at hm
              · rename_i hj
                cases hm
                cases d1
                cases d2
                exact ⟨i, j, rfl, by rw [big62_eq]; exact ⟨hj.1.1, hj.1.2, hj.2.1, hj.2.2⟩, k (Itr i (j - i).toNat) H2 [] F2 (fun _ => True) itr_ok (fun _ _ _ _ => trivial) trivial (fun _ h => nomatch h) E2 n2 (m1.trans m2')⟩
              · cases hm
            | _ => cases hm
          | _ => cases hm
end
/-! ### defs and their calls -/
section
variable {K : PySem.W.Frag} {T : Tb}
def spD (K : PySem.W.Frag) (n : Nat) (m : List PyData → Option PyData) : Sp := fun vs H Q _ => ∃ ds r, DqAll K H vs ds ∧ noLs ds = true ∧ ds.length = n ∧ m ds = some r ∧ ∀ v H', Same H H' → Dq K H' v r → noL r = true → Q v H'
def GoC (K : PySem.W.Frag) (T : Tb) (vs : List V) (H : Hp) (F : List Addr) (r : Rs (List M) M) (Q : VK) (E : XK) : Prop := match r with
  | .ok y ys => ∀ v H' f F', Rep K T H' v y f → Reps K T H' vs ys F' → (f ++ F').Nodup → Mv F H (f ++ F') H' → Q v H'
  | .er c fs ys => ∀ d H' F', XdOk K H' d fs → Reps K T H' vs ys F' → F'.Nodup → Mv F H F' H' → E (.ref (T.ca c)) (some d) H'
def spX (K : PySem.W.Frag) (T : Tb) (n : Nat) (m : List M → Option (Rs (List M) M)) : Sp := fun vs H Q E => ∃ xs F r, Reps K T H vs xs F ∧ F.Nodup ∧ xs.length = n ∧ m xs = some r ∧ GoC K T vs H F r Q E
def W0 : WXk := fun _ _ _ _ => False
def runD (L : Nat) (m : MM Fl) (ds : List PyData) : Option PyData := match m (ds.map (fun d => some (.imm d)) ++ List.replicate (L - ds.length) none) with
  | some (.ok (.rt (.imm d)) _) => some d
  | some (.ok .nx _) => some .none
  | _ => none
theorem reps_imm {H : Hp} : ∀ {vs : List V} {ds : List PyData}, DqAll K H vs ds → noLs ds = true → Reps K T H vs (ds.map .imm) []
  | _, _, .nil, _ => .nil
  | _, _, .cons a t, n => by
    simp only [noLs, Bool.and_eq_true] at n
    exact .cons (f := []) (g := []) (.imm a n.1) (reps_imm t n.2)
theorem fn_d {P : Program} {w : World} {mg : Str → Option Value} {base : Heap} {x qual : Str} {st : Stmt} {f : Addr} {fd : FuncData} {N ps : List Str} {k n : Nat} {m : MM Fl} (T : Tb) (F : Fun K x qual st f fd) (S : FnScope N ps (defScope st)) (hn : ps.length = n)
    (body : ∀ (cdv : Value) (A : Around) (outer : List PySem.Env) (s : Shared) (H : Hp) (E : XK), Room k (A.deeper (envOfC qual (defScope st) s.heap.objs.size f cdv)) →
      QSs T [] (cxOf CX0 P w K mg base N qual (defScope st) f cdv A outer s H E).nox W0 (defBody st) m) : FnOk P w K mg base CX0 (k + 1) f fd ps (spD K n (runD N.length m)) := by
  refine F.ok S (fun vs H Q E h => ?_) (fun cdv A outer s H vs Q E hr h => ?_)
  · obtain ⟨ds, r, h1, h2, h3, _⟩ := h
    rw [dpAll_len h1, h3, hn]
  · obtain ⟨ds, r, h1, h2, h3, h4, q⟩ := h
    obtain ⟨t, ht, p⟩ := (body cdv A outer s H E hr).ex
    refine ⟨t, ht, ?_⟩
    unfold runD at h4
    have hl := dpAll_len h1
    have R := reps_imm (T := T) h1 h2
    have En := EnvR.start (N.length - vs.length) R
    have es : (ds.map M.imm).map some = ds.map (fun d => some (M.imm d)) := by rw [List.map_map]; rfl
    rw [es] at En
    rw [hl] at En
    cases hm : m (ds.map (fun d => some (.imm d)) ++ List.replicate (N.length - ds.length) none) with
    | none => rw [hm] at h4; cases h4
    | some res =>
      rw [hm] at h4
      refine p (L2.start N vs) H _ [] res _ (by unfold L2.start; rw [hl]; exact En) List.nodup_nil hm ?_
      cases res with
      | er c fs ρ => cases h4
      | ok fl ρ =>
        cases fl with
        | nx =>
          cases h4
          exact fun σ' H' F' _ _ _ mv => q .non H' (Chg.nil mv.c) .non rfl
        | bk => cases h4
        | ct => cases h4
        | rt y =>
          cases y with
          | imm d =>
            cases h4
            intro v σ' H' f F' _ rp _ _ mv
            cases rp with
            | imm dp nl => exact q v H' (Chg.nil mv.c) dp nl
          | _ => cases h4
def isImm : M → Bool
  | .imm _ => true
  | .scr _ => true
  | .fn _ => true
  | .fro _ _ => true
  | _ => false
theorem isImm_keep {H H' : Hp} {v : V} {x : M} {f : List Addr} (r : Rep K T H v x f) (h : isImm x = true) (k : Kp T [] H H') : Rep K T H' v x [] := by
  cases r with
  | imm a n => exact Rep.keep (.imm a n) k
  | scr a => exact Rep.keep (.scr a) k
  | fn => exact .fn
  | fro a b c d e => exact Rep.keep (.fro a b c d e) k
  | _ => cases h
/-- the parameters' objects behind a call: those in S as the body left them, the others are data -/
def backs (S : List Nat) : Nat → List M → Env' → Option (List M)
  | _, [], _ => some []
  | i, x :: xs, o :: ρ => if S.contains i then (match o with
      | some y => (backs S (i + 1) xs ρ).map fun ys => y :: ys
      | none => none) else if isImm x then (backs S (i + 1) xs ρ).map fun ys => x :: ys else none
  | _, _ :: _, [] => none
theorem backs_ok {S : List Nat} {H H' : Hp} (k : Kp T [] H H') : ∀ {xs : List M} {vs : List V} {F : List Addr} {i : Nat} {σ : L2.St} {ρ : Env'} {F' : List Addr} {ys : List M}, Reps K T H vs xs F → EnvR K T H' σ ρ F' →
    (∀ j v, i + j ∈ S → vs[j]? = some v → σ[j]? = some (some v)) → backs S i xs ρ = some ys → ∃ F2, Reps K T H' vs ys F2 ∧ F2.Sublist F'
  | [], _, _, i, σ, ρ, F', ys, .nil, E, hs, h => by
    simp only [backs] at h
    cases h
    exact ⟨[], .nil, List.nil_sublist _⟩
  | x :: xs, v :: vs, _, i, σ, [], F', ys, .cons a r, E, hs, h => by simp [backs] at h
  | x :: xs, v :: vs, _, i, σ, o :: ρ, F', ys, .cons a r, E, hs, h => by
    simp only [backs] at h
    cases E with
    | no E =>
      rename_i o'
      split at h
      · cases h
      · split at h
        · rename_i hi
          cases hb : backs S (i + 1) xs ρ with
          | none => rw [hb] at h; cases h
          | some zs =>
            rw [hb] at h
            cases h
            obtain ⟨F2, h1, h2⟩ := backs_ok k r E (fun j w hj hw => by
              have := hs (j + 1) w (by rw [← Nat.add_assoc, Nat.add_right_comm]; exact hj) (by simpa using hw)
              simpa using this) hb
            exact ⟨[] ++ F2, .cons (isImm_keep a hi k) h1, h2⟩
        · cases h
    | yes b E =>
      rename_i u y f g σ
      split at h
      · rename_i hc
        dsimp only at h
        cases hb : backs S (i + 1) xs ρ with
        | none => rw [hb] at h; cases h
        | some zs =>
          rw [hb] at h
          cases h
          obtain ⟨F2, h1, h2⟩ := backs_ok k r E (fun j w hj hw => by
            have := hs (j + 1) w (by rw [← Nat.add_assoc, Nat.add_right_comm]; exact hj) (by simpa using hw)
            simpa using this) hb
          have e0 := hs 0 v (by simpa using hc) rfl
          have e1 : u = v := by simpa using e0
          subst e1
          exact ⟨f ++ F2, .cons b h1, List.Sublist.append_left h2 f⟩
      · split at h
        · rename_i hi
          cases hb : backs S (i + 1) xs ρ with
          | none => rw [hb] at h; cases h
          | some zs =>
            rw [hb] at h
            cases h
            obtain ⟨F2, h1, h2⟩ := backs_ok k r E (fun j w hj hw => by
              have := hs (j + 1) w (by rw [← Nat.add_assoc, Nat.add_right_comm]; exact hj) (by simpa using hw)
              simpa using this) hb
            exact ⟨[] ++ F2, .cons (isImm_keep a hi k) h1, List.Sublist.trans h2 (List.sublist_append_right f g)⟩
        · cases h
def runX (S : List Nat) (L : Nat) (m : MM Fl) (xs : List M) : Option (Rs (List M) M) := match m (xs.map some ++ List.replicate (L - xs.length) none) with
  | some (.ok (.rt y) ρ) => (backs S 0 xs ρ).map fun ys => .ok y ys
  | some (.ok .nx ρ) => (backs S 0 xs ρ).map fun ys => .ok (.imm .none) ys
  | _ => none
theorem fn_x {P : Program} {w : World} {mg : Str → Option Value} {base : Heap} {x qual : Str} {st : Stmt} {f : Addr} {fd : FuncData} {N ps : List Str} {k n : Nat} {m : MM Fl} (T : Tb) (St' : List Nat) (F : Fun K x qual st f fd) (S : FnScope N ps (defScope st)) (hn : ps.length = n)
    (hS : ∀ i ∈ St', i < n)
    (body : ∀ (cdv : Value) (A : Around) (outer : List PySem.Env) (s : Shared) (H : Hp) (E : XK), Room k (A.deeper (envOfC qual (defScope st) s.heap.objs.size f cdv)) →
      QSs T St' (cxOf CX0 P w K mg base N qual (defScope st) f cdv A outer s H E).nox W0 (defBody st) m) : FnOk P w K mg base CX0 (k + 1) f fd ps (spX K T n (runX St' N.length m)) := by
  refine F.ok S (fun vs H Q E h => ?_) (fun cdv A outer s H vs Q E hr h => ?_)
  · obtain ⟨xs, F0, r, h1, h2, h3, _⟩ := h
    rw [h1.len, h3, hn]
  · obtain ⟨xs, F0, r, h1, h2, h3, h4, q⟩ := h
    obtain ⟨t, ht, p⟩ := (body cdv A outer s H E hr).ex
    refine ⟨t, ht, ?_⟩
    unfold runX at h4
    have hl := h1.len
    have En := EnvR.start (N.length - vs.length) h1
    rw [hl] at En
    have hst : ∀ (σ' : L2.St), Stb St' (L2.start N vs) σ' → ∀ j v, 0 + j ∈ St' → vs[j]? = some v → σ'[j]? = some (some v) := fun σ' s j v hj hv => by
      rw [Nat.zero_add] at hj
      rw [s j hj]
      unfold L2.start
      have hlt : j < (vs.map some).length := by
        rw [List.length_map, hl, h3]
        exact hS j hj
      rw [List.getElem?_append_left hlt, List.getElem?_map, hv]
      rfl
    cases hm : m (xs.map some ++ List.replicate (N.length - xs.length) none) with
    | none => rw [hm] at h4; cases h4
    | some res =>
      rw [hm] at h4
      refine p (L2.start N vs) H _ F0 res _ (by unfold L2.start; rw [hl]; exact En) h2 hm ?_
      cases res with
      | er c fs ρ => cases h4
      | ok fl ρ =>
        cases fl with
        | nx =>
          dsimp only at h4
          cases hb : backs St' 0 xs ρ with
          | none => rw [hb] at h4; cases h4
          | some ys =>
            rw [hb] at h4
            cases h4
            intro σ' H' F' s E' n' mv
            obtain ⟨F2, r2, sl⟩ := backs_ok (mv.c.kp h1.wr (fun _ h => nomatch h)) h1 E' (hst σ' s) hb
            exact q .non H' [] F2 (.imm .non rfl) r2 (sl.nodup n') (mv.sub fun b hb => sl.subset hb)
        | bk => cases h4
        | ct => cases h4
        | rt y =>
          dsimp only at h4
          cases hb : backs St' 0 xs ρ with
          | none => rw [hb] at h4; cases h4
          | some ys =>
            rw [hb] at h4
            cases h4
            intro v σ' H' f F' s rp E' n' mv
            obtain ⟨F2, r2, sl⟩ := backs_ok (mv.c.kp h1.wr (fun _ h => nomatch h)) h1 E' (hst σ' s) hb
            exact q v H' f F2 rp r2 ((List.Sublist.append_left sl f).nodup n') (mv.sub fun b hb => (List.mem_append.mp hb).elim (List.mem_append_left _) fun z => List.mem_append_right _ (sl.subset z))
end
/-! #### calls of pure defs -/
section
variable {T : Tb} {X : Cx} {W : WXk} {e a b c : Expr} {es rest : List Expr} {pos p2 : Pos}
def eCall (n : Nat) (mf : List PyData → Option PyData) (m : Env' → Option (List PyData)) : Env' → Option PyData := fun ρ => (m ρ).bind fun ds => if ds.length = n then mf ds else none
def dCall (n : Nat) (mf : List PyData → Option PyData) (m : MM (List PyData)) : MM PyData := bindM m fun ds => optM (if ds.length = n then mf ds else none)
theorem qe_call {k : Nat} {mf : List PyData → Option PyData} {m : Env' → Option (List PyData)} {E : XK} (mk : ∀ t, PA X es t → PE X e (tCall (spD X.K k mf) [] E t)) (h : QAE T X es m) : QE T X e (eCall k mf m) := by
  obtain ⟨t, ht, q⟩ := h.ex
  refine ⟨_, mk t ht, fun σ H ρ F d Q En hm kk => ?_⟩
  unfold eCall at hm
  cases hx : m ρ with
  | none => rw [hx] at hm; cases hm
  | some ds =>
    rw [hx] at hm
    dsimp only [Option.bind] at hm
    split at hm
    · rename_i hl
      refine q σ H ρ F ds _ En hx fun vs H1 s1 d1 n1 => ?_
      show spD X.K k mf (vs ++ []) H1 Q E
      rw [List.append_nil]
      exact ⟨ds, d, d1, n1, hl, hm, fun v H2 s2 => kk v H2 (s1.trans s2)⟩
    · cases hm
theorem qd_call {k : Nat} {mf : List PyData → Option PyData} {m : MM (List PyData)} {E : XK} (mk : ∀ t, PA X es t → PE X e (tCall (spD X.K k mf) [] E t)) (h : QA T X W es m) : QD T X W e (dCall k mf m) := by
  obtain ⟨t, ht, q⟩ := h.ex
  refine ⟨_, mk t ht, fun σ H ρ F r Q En n hm kk => ?_⟩
  unfold dCall bindM at hm
  cases hx : m ρ with
  | none => rw [hx] at hm; cases hm
  | some rx =>
    rw [hx] at hm
    refine q σ H ρ F rx _ En n hx ?_
    cases rx with
    | er c fs ρ1 => cases hm; exact kk
    | ok ds ρ1 =>
      intro vs H1 F1 d1 n1 E1 nd1 m1
      dsimp only [optM] at hm
      split at hm
      · rename_i hl
        cases hz : mf ds with
        | none => rw [hz] at hm; cases hm
        | some z =>
          rw [hz] at hm
          cases hm
          show spD X.K k mf (vs ++ []) H1 Q E
          rw [List.append_nil]
          exact ⟨ds, z, d1, n1, hl, hz, fun v H2 s2 dz nz => kk v H2 F1 dz nz (E1.same s2) nd1 (m1.trans (Mv.same s2 fun _ h => h))⟩
      · cases hm
/-! #### calls of defs that are lent what the names own -/
inductive Aw where
  | val (d : PyData)
  | slot (i : Nat)
  | own (x : M)
inductive AwR (K : PySem.W.Frag) (T : Tb) (H : Hp) (σ : L2.St) : List V → List Aw → List Addr → Prop
  | nil : AwR K T H σ [] [] []
  | val {v : V} {d : PyData} {vs : List V} {as : List Aw} {f : List Addr} : Dq K H v d → noL d = true → AwR K T H σ vs as f → AwR K T H σ (v :: vs) (.val d :: as) f
  | slot {v : V} {i : Nat} {vs : List V} {as : List Aw} {f : List Addr} : σ[i]? = some (some v) → AwR K T H σ vs as f → AwR K T H σ (v :: vs) (.slot i :: as) f
  | own {v : V} {x : M} {vs : List V} {as : List Aw} {f g : List Addr} : Rep K T H v x f → AwR K T H σ vs as g → AwR K T H σ (v :: vs) (.own x :: as) (f ++ g)
theorem AwR.keep {K : PySem.W.Frag} {H H' : Hp} {σ : L2.St} : ∀ {vs : List V} {as : List Aw} {f : List Addr}, AwR K T H σ vs as f → Kp T f H H' → AwR K T H' σ vs as f
  | _, _, _, .nil, _ => .nil
  | _, _, _, .val a n r, k => .val (dp_keepX k.x n a) n (AwR.keep r k)
  | _, _, _, .slot h r, k => .slot h (AwR.keep r k)
  | _, _, _, .own a r, k => .own (a.keep (k.sub fun b hb => List.mem_append_left _ hb)) (AwR.keep r (k.sub fun b hb => List.mem_append_right _ hb))
theorem AwR.wr {K : PySem.W.Frag} {H : Hp} {σ : L2.St} : ∀ {vs : List V} {as : List Aw} {f : List Addr}, AwR K T H σ vs as f → WrA T H f
  | _, _, _, .nil, b, hb => nomatch hb
  | _, _, _, .val _ _ r, b, hb => AwR.wr r b hb
  | _, _, _, .slot _ r, b, hb => AwR.wr r b hb
  | _, _, _, .own a r, b, hb => (List.mem_append.mp hb).elim (a.wr b) (AwR.wr r b)
structure QAr (T : Tb) (X : Cx) (W : WXk) (es : List Expr) (m : MM (List Aw)) : Prop where
  ex : ∃ t : TA, PA X es t ∧ ∀ (σ : L2.St) (H : Hp) (ρ : Env') (F : List Addr) (r : Rs Env' (List Aw)) (Q : List V → Hp → Prop), EnvR X.K T H σ ρ F → F.Nodup → m ρ = some r →
    (match r with
      | .ok as ρ1 => ∀ vs H' fo F', AwR X.K T H' σ vs as fo → EnvR X.K T H' σ ρ1 F' → (fo ++ F').Nodup → Mv F H (fo ++ F') H' → Q vs H'
      | .er c fs ρ1 => XOk X.K T W H F σ c fs ρ1) → t σ H Q
def rNil : MM (List Aw) := pureM []
def rVal (m : MM PyData) (k : MM (List Aw)) : MM (List Aw) := bindM m fun d => bindM k fun as => pureM (.val d :: as)
def rSlot (i : Nat) (k : MM (List Aw)) : MM (List Aw) := fun ρ => match ρ[i]? with
  | some (some _) => bindM k (fun as => pureM (.slot i :: as)) ρ
  | _ => none
def rOwn (m : MM M) (k : MM (List Aw)) : MM (List Aw) := bindM m fun x => bindM k fun as => pureM (.own x :: as)
theorem qr_nil : QAr T X W [] rNil := ⟨_, pa_nil, fun σ H ρ F r Q E n hm k => by
  cases hm
  exact k [] H [] F .nil E n (Mv.refl fun _ h => h)⟩
theorem qr_val {m : MM PyData} {r : MM (List Aw)} (ha : QD T X W a m) (hr : QAr T X W es r) (hs : starEach (a :: es) X.env = (false, eval a X.env) :: starEach es X.env := by rfl) : QAr T X W (a :: es) (rVal m r) := by
  obtain ⟨ta, h1, q1⟩ := ha.ex
  obtain ⟨tr, h2, q2⟩ := hr.ex
  refine ⟨_, pa_cons h1 h2 hs, fun σ H ρ F res Q E n hm k => ?_⟩
  unfold rVal bindM at hm
  cases hx : m ρ with
  | none => rw [hx] at hm; cases hm
  | some rx =>
    rw [hx] at hm
    refine q1 σ H ρ F rx _ E n hx ?_
    cases rx with
    | er c fs ρ1 => cases hm; exact k
    | ok x ρ1 =>
      intro u H1 F1 d1 n1 E1 nd1 m1
      dsimp only at hm
      cases hy : r ρ1 with
      | none => rw [hy] at hm; cases hm
      | some ry =>
        rw [hy] at hm
        refine q2 σ H1 ρ1 F1 ry _ E1 nd1 hy ?_
        cases ry with
        | er c fs ρ2 => cases hm; exact XOk.from k m1
        | ok xs ρ2 =>
          cases hm
          intro vs H2 fo F2 d2 E2 nd2 m2
          exact k _ H2 fo F2 (.val (dp_keepX (m2.c.kp (g := []) E1.wr (fun _ h => nomatch h)).x n1 d1) n1 d2) E2 nd2 (m1.trans m2)
theorem qr_slot {i : Nat} {r : MM (List Aw)} (ha : PE X a (tVar i)) (hr : QAr T X W es r) (hs : starEach (a :: es) X.env = (false, eval a X.env) :: starEach es X.env := by rfl) : QAr T X W (a :: es) (rSlot i r) := by
  obtain ⟨tr, h2, q2⟩ := hr.ex
  refine ⟨_, pa_cons ha h2 hs, fun σ H ρ F res Q E n hm k => ?_⟩
  unfold rSlot at hm
  split at hm
  · rename_i x hx
    obtain ⟨v, f, g1, g2, _⟩ := E.get hx
    refine ⟨v, g1, ?_⟩
    unfold bindM at hm
    cases hy : r ρ with
    | none => rw [hy] at hm; cases hm
    | some ry =>
      rw [hy] at hm
      refine q2 σ H ρ F ry _ E n hy ?_
      cases ry with
      | er c fs ρ2 => cases hm; exact k
      | ok xs ρ2 =>
        cases hm
        intro vs H2 fo F2 d2 E2 nd2 m2
        exact k _ H2 fo F2 (.slot g1 d2) E2 nd2 m2
  · cases hm
theorem qr_own {m : MM M} {r : MM (List Aw)} (ha : QX T X W a m) (hr : QAr T X W es r) (hs : starEach (a :: es) X.env = (false, eval a X.env) :: starEach es X.env := by rfl) : QAr T X W (a :: es) (rOwn m r) := by
  obtain ⟨ta, h1, q1⟩ := ha.ex
  obtain ⟨tr, h2, q2⟩ := hr.ex
  refine ⟨_, pa_cons h1 h2 hs, fun σ H ρ F res Q E n hm k => ?_⟩
  unfold rOwn bindM at hm
  cases hx : m ρ with
  | none => rw [hx] at hm; cases hm
  | some rx =>
    rw [hx] at hm
    refine q1 σ H ρ F rx _ E n hx ?_
    cases rx with
    | er c fs ρ1 => cases hm; exact k
    | ok x ρ1 =>
      intro u H1 f1 F1 rp E1 nd1 m1
      dsimp only at hm
      have nF1 := (List.nodup_append.mp nd1).2.1
      have mF : Mv F H F1 H1 := m1.sub fun _ h => List.mem_append_right _ h
      cases hy : r ρ1 with
      | none => rw [hy] at hm; cases hm
      | some ry =>
        rw [hy] at hm
        refine q2 σ H1 ρ1 F1 ry _ E1 nF1 hy ?_
        cases ry with
        | er c fs ρ2 => cases hm; exact XOk.from k mF
        | ok xs ρ2 =>
          cases hm
          intro vs H2 fo F2 d2 E2 nd2 m2
          have dis : ∀ b ∈ f1, b ∉ F1 := fun b hb hf => (List.nodup_append.mp nd1).2.2 b hb b hf rfl
          have ap := m2.apart E1.wr rp.wr dis
          have nn : (f1 ++ (fo ++ F2)).Nodup := nodup_mv (K := X.K) (σ := σ) (ρ := ρ1) nd1 nd2 m2 rp.wr
          refine k _ H2 (f1 ++ fo) F2 (.own (rp.keep ap.1) d2) E2 (by rw [List.append_assoc]; exact nn) ?_
          rw [List.append_assoc]
          exact m1.trans (mv_frame m2)
/-- what is lent for the call -/
def takes : List Aw → Env' → Option (List M × Env')
  | [], ρ => some ([], ρ)
  | .val d :: r, ρ => (takes r ρ).map fun p => (.imm d :: p.1, p.2)
  | .own x :: r, ρ => (takes r ρ).map fun p => (x :: p.1, p.2)
  | .slot i :: r, ρ => match ρ[i]? with
    | some (some x) => (takes r (ρ.set i (some .hol))).map fun p => (x :: p.1, p.2)
    | _ => none
/-- .. comes back -/
def puts : List Aw → List M → Env' → Option Env'
  | [], [], ρ => some ρ
  | .slot i :: r, y :: ys, ρ => match ρ[i]? with
    | some (some .hol) => puts r ys (ρ.set i (some y))
    | _ => none
  | .val _ :: r, _ :: ys, ρ => puts r ys ρ
  | .own _ :: r, _ :: ys, ρ => puts r ys ρ
  | _, _, _ => none
theorem takes_ok {K : PySem.W.Frag} {H : Hp} {σ : L2.St} : ∀ {as : List Aw} {vs : List V} {fo F : List Addr} {ρ ρ1 : Env'} {xs : List M}, AwR K T H σ vs as fo → EnvR K T H σ ρ F → takes as ρ = some (xs, ρ1) →
    ∃ fx F1, Reps K T H vs xs fx ∧ EnvR K T H σ ρ1 F1 ∧ (fx ++ F1).Perm (fo ++ F)
  | [], _, _, F, ρ, ρ1, xs, .nil, E, h => by
    simp only [takes] at h
    cases h
    exact ⟨[], F, .nil, E, List.Perm.refl _⟩
  | .val d :: as, _, _, F, ρ, ρ1, xs, .val a n r, E, h => by
    simp only [takes] at h
    cases ht : takes as ρ with
    | none => rw [ht] at h; cases h
    | some p =>
      obtain ⟨ys, ρ2⟩ := p
      rw [ht] at h
      cases h
      obtain ⟨fx, F1, h1, h2, h3⟩ := takes_ok r E ht
      exact ⟨[] ++ fx, F1, .cons (.imm a n) h1, h2, h3⟩
  | .own x :: as, _, _, F, ρ, ρ1, xs, .own (f := f) a r, E, h => by
    simp only [takes] at h
    cases ht : takes as ρ with
    | none => rw [ht] at h; cases h
    | some p =>
      obtain ⟨ys, ρ2⟩ := p
      rw [ht] at h
      cases h
      obtain ⟨fx, F1, h1, h2, h3⟩ := takes_ok r E ht
      refine ⟨f ++ fx, F1, .cons a h1, h2, ?_⟩
      rw [List.append_assoc, List.append_assoc]
      exact List.Perm.append_left _ h3
  | .slot i :: as, _, fo, F, ρ, ρ1, xs, .slot hs r, E, h => by
    simp only [takes] at h
    split at h
    · rename_i x hx
      cases ht : takes as (ρ.set i (some .hol)) with
      | none => rw [ht] at h; cases h
      | some p =>
        obtain ⟨ys, ρ2⟩ := p
        rw [ht] at h
        cases h
        obtain ⟨v, f, F', g1, g2, g3, g4⟩ := E.take hx
        rw [hs] at g1
        cases g1
        obtain ⟨fx, F1, h1, h2, h3⟩ := takes_ok r g3 ht
        refine ⟨f ++ fx, F1, .cons g2 h1, h2, ?_⟩
        rw [List.append_assoc]
        refine (List.Perm.append_left f h3).trans ?_
        rw [← List.append_assoc]
        refine (List.Perm.append_right F' List.perm_append_comm).trans ?_
        rw [List.append_assoc]
        exact List.Perm.append_left fo g4
    · cases h
theorem puts_ok {K : PySem.W.Frag} {H : Hp} {σ : L2.St} : ∀ {as : List Aw} {vs : List V} {F1 F2 : List Addr} {ρ ρ2 : Env'} {ys : List M}, True →
    (∀ (j i : Nat), as[j]? = some (Aw.slot i) → ∃ v, vs[j]? = some v ∧ σ[i]? = some (some v)) → EnvR K T H σ ρ F1 → Reps K T H vs ys F2 → (F2 ++ F1).Nodup → puts as ys ρ = some ρ2 →
    ∃ F3, EnvR K T H σ ρ2 F3 ∧ F3.Nodup ∧ ∀ b ∈ F3, b ∈ F2 ++ F1
  | [], _, F1, F2, ρ, ρ2, ys, _, hs, E, r, n, h => by
    cases ys with
    | nil =>
      simp only [puts] at h
      cases h
      exact ⟨F1, E, (List.nodup_append.mp n).2.1, fun b hb => List.mem_append_right _ hb⟩
    | cons y ys => simp [puts] at h
  | a :: as, _, F1, _, ρ, ρ2, _, _, hs, E, .nil, n, h => by cases a <;> simp [puts] at h
  | .val d :: as, _, F1, _, ρ, ρ2, _, _, hs, E, .cons (f := f) (g := g) b r, n, h => by
    simp only [puts] at h
    rw [List.append_assoc] at n
    obtain ⟨F3, h1, h2, h3⟩ := puts_ok trivial (fun j i hj => by
      obtain ⟨v, e1, e2⟩ := hs (j + 1) i (by simpa using hj)
      exact ⟨v, by simpa using e1, e2⟩) E r (List.nodup_append.mp n).2.1 h
    exact ⟨F3, h1, h2, fun b hb => by rw [List.append_assoc]; exact List.mem_append_right _ (h3 b hb)⟩
  | .own d :: as, _, F1, _, ρ, ρ2, _, _, hs, E, .cons (f := f) (g := g) b r, n, h => by
    simp only [puts] at h
    rw [List.append_assoc] at n
    obtain ⟨F3, h1, h2, h3⟩ := puts_ok trivial (fun j i hj => by
      obtain ⟨v, e1, e2⟩ := hs (j + 1) i (by simpa using hj)
      exact ⟨v, by simpa using e1, e2⟩) E r (List.nodup_append.mp n).2.1 h
    exact ⟨F3, h1, h2, fun b hb => by rw [List.append_assoc]; exact List.mem_append_right _ (h3 b hb)⟩
  | .slot i :: as, _, F1, _, ρ, ρ2, _, _, hs, E, .cons (f := f) (g := g) b r, n, h => by
    simp only [puts] at h
    split at h
    · rename_i hh
      obtain ⟨v, e1, e2⟩ := hs 0 i rfl
      have e1' := Option.some.inj e1
      subst e1'
      obtain ⟨F', g1, g2⟩ := E.put e2 hh b
      have n2 : (g ++ F').Nodup := by
        have : (g ++ F').Perm ((f ++ g) ++ F1) := by
          refine (List.Perm.append_left g g2.symm).trans ?_
          rw [← List.append_assoc]
          exact List.Perm.append_right F1 List.perm_append_comm
        exact this.nodup_iff.mpr n
      obtain ⟨F3, h1, h2, h3⟩ := puts_ok trivial (fun j i hj => by
        obtain ⟨v, e1, e2⟩ := hs (j + 1) i (by simpa using hj)
        exact ⟨v, by simpa using e1, e2⟩) g1 r n2 h
      refine ⟨F3, h1, h2, fun b hb => ?_⟩
      rcases List.mem_append.mp (h3 b hb) with z | z
      · exact List.mem_append_left _ (List.mem_append_right _ z)
      · rcases List.mem_append.mp (g2.mem_iff.mpr z) with z | z
        · exact List.mem_append_left _ (List.mem_append_left _ z)
        · exact List.mem_append_right _ z
    · cases h
theorem AwR.slots {K : PySem.W.Frag} {H : Hp} {σ : L2.St} : ∀ {vs : List V} {as : List Aw} {f : List Addr}, AwR K T H σ vs as f → ∀ (j i : Nat), as[j]? = some (Aw.slot i) → ∃ v, vs[j]? = some v ∧ σ[i]? = some (some v)
  | _, _, _, .nil, j, i, h => by simp at h
  | _, _, _, .val _ _ r, 0, i, h => by simp at h
  | _, _, _, .own _ r, 0, i, h => by simp at h
  | _, _, _, .slot hs r, 0, i, h => by
    simp at h
    subst h
    exact ⟨_, rfl, hs⟩
  | _, _, _, .val _ _ r, j + 1, i, h => by
    obtain ⟨v, h1, h2⟩ := AwR.slots r j i (by simpa using h)
    exact ⟨v, by simpa using h1, h2⟩
  | _, _, _, .own _ r, j + 1, i, h => by
    obtain ⟨v, h1, h2⟩ := AwR.slots r j i (by simpa using h)
    exact ⟨v, by simpa using h1, h2⟩
  | _, _, _, .slot hs r, j + 1, i, h => by
    obtain ⟨v, h1, h2⟩ := AwR.slots r j i (by simpa using h)
    exact ⟨v, by simpa using h1, h2⟩
def xCall (n : Nat) (mf : List M → Option (Rs (List M) M)) (m : MM (List Aw)) : MM M := bindM m fun as ρ => match takes as ρ with
  | none => none
  | some (xs, ρ1) => if xs.length = n then (match mf xs with
      | none => none
      | some (.ok y ys) => (puts as ys ρ1).map fun ρ2 => .ok y ρ2
      | some (.er _ _ _) => none) else none
/-- behind the arguments -/
theorem call_go {K : PySem.W.Frag} {k : Nat} {mf : List M → Option (Rs (List M) M)} {vs : List V} {H : Hp} {σ : L2.St} {as : List Aw} {fo F : List Addr} {ρ ρ1 : Env'} {xs : List M} {res : Rs Env' M} {Q : VK} {H0 : Hp} {F0 : List Addr}
    (a : AwR K T H σ vs as fo) (E : EnvR K T H σ ρ F) (n : (fo ++ F).Nodup) (m : Mv F0 H0 (fo ++ F) H) (ht : takes as ρ = some (xs, ρ1)) (hk : xs.length = k)
    (hm : (match mf xs with
      | none => none
      | some (.ok y ys) => (puts as ys ρ1).map fun ρ2 => Rs.ok y ρ2
      | some (.er _ _ _) => none) = some res) (kk : GoE K T W H0 F0 σ res Q) {EE : XK} : spX K T k mf vs H Q EE := by
  obtain ⟨fx, F1, h1, h2, h3⟩ := takes_ok a E ht
  have nn : (fx ++ F1).Nodup := h3.nodup_iff.mpr n
  have nx := List.nodup_append.mp nn
  cases hf : mf xs with
  | none => rw [hf] at hm; cases hm
  | some r =>
    rw [hf] at hm
    refine ⟨xs, fx, r, h1, nx.1, hk, hf, ?_⟩
    cases r with
    | er c fs ys => cases hm
    | ok y ys =>
      dsimp only at hm
      cases hp : puts as ys ρ1 with
      | none => rw [hp] at hm; cases hm
      | some ρ2 =>
        rw [hp] at hm
        cases hm
        intro v H' f F' rp rs nd mv
        have dis : ∀ b ∈ F1, b ∉ fx := fun b hb hf => nx.2.2 b hf b hb rfl
        have ap := mv.apart h1.wr h2.wr dis
        have E' := h2.keep ap.1
        have nd2 := List.nodup_append.mp nd
        have dj : ∀ b ∈ f ++ F', ∀ c ∈ F1, b ≠ c := fun b hb c hc e => by
          subst e
          exact ap.2 b hc hb
        have n2 : (F' ++ F1).Nodup := List.nodup_append.mpr ⟨nd2.2.1, nx.2.1, fun b hb c hc => dj b (List.mem_append_right _ hb) c hc⟩
        obtain ⟨F3, e1, e2, e3⟩ := puts_ok trivial (a.slots) E' rs n2 hp
        refine kk v H' f F3 rp e1 ?_ ?_
        · refine List.nodup_append.mpr ⟨nd2.1, e2, fun b hb c hc e => ?_⟩
          subst e
          rcases List.mem_append.mp (e3 b hc) with z | z
          · exact nd2.2.2 b hb b z rfl
          · exact dj b (List.mem_append_left _ hb) b z rfl
        · refine m.trans ?_
          have mf' : Mv (fx ++ F1) H ((f ++ F') ++ F1) H' := ⟨fun b o hb hn => mv.c b o hb fun z => hn (List.mem_append_left _ z), fun b hb => (List.mem_append.mp hb).elim (fun z => (mv.n b z).elim (fun y => .inl (List.mem_append_left _ y)) .inr) fun z => .inl (List.mem_append_right _ z)⟩
          have mg : Mv (fo ++ F) H ((f ++ F') ++ F1) H' := mf'.sup fun b hb => h3.mem_iff.mp hb
          refine mg.sub fun b hb => ?_
          rcases List.mem_append.mp hb with z | z
          · exact List.mem_append_left _ (List.mem_append_left _ z)
          · rcases List.mem_append.mp (e3 b z) with z | z
            · exact List.mem_append_left _ (List.mem_append_right _ z)
            · exact List.mem_append_right _ z
theorem qx_call {k : Nat} {mf : List M → Option (Rs (List M) M)} {m : MM (List Aw)} {E : XK} (mk : ∀ t, PA X es t → PE X e (tCall (spX X.K T k mf) [] E t)) (h : QAr T X W es m) : QX T X W e (xCall k mf m) := by
  obtain ⟨t, ht, q⟩ := h.ex
  refine ⟨_, mk t ht, fun σ H ρ F r Q En n hm kk => ?_⟩
  unfold xCall bindM at hm
  cases hx : m ρ with
  | none => rw [hx] at hm; cases hm
  | some rx =>
    rw [hx] at hm
    refine q σ H ρ F rx _ En n hx ?_
    cases rx with
    | er c fs ρ1 => cases hm; exact kk
    | ok as ρ1 =>
      intro vs H1 fo F1 aw E1 nd1 m1
      dsimp only at hm
      cases htk : takes as ρ1 with
      | none => rw [htk] at hm; cases hm
      | some p =>
        obtain ⟨xs, ρ2⟩ := p
        rw [htk] at hm
        dsimp only at hm
        split at hm
        · rename_i hl
          show spX X.K T k mf (vs ++ []) H1 Q _
          rw [List.append_nil]
          exact call_go aw E1 nd1 m1 htk hl hm kk
        · cases hm
end
/-! ### lists, instances -/
section
variable {K : PySem.W.Frag} {T : Tb} {X : Cx} {W : WXk} {e a b c o : Expr} {es rest : List Expr} {st : Stmt} {S : List Nat} {pos p2 : Pos}
abbrev mkS (l : List Nat) : Str := ⟨l.toArray⟩
theorem mkS_len (l : List Nat) : (mkS l).length = l.length := by
  show l.toArray.size = _
  rw [List.size_toArray]
theorem mkS_cp (z : Str) : mkS z.cps.toList = z := by
  cases z
  simp [mkS]
def rMulS : R2 := fun x y H Q => ∃ (z : Str) (n : Int), x = .str z ∧ y = .int n ∧ 0 ≤ n ∧ n ≤ 1000 ∧ z.length ≤ 1000 ∧ Q (.str (mkS (List.replicate n.toNat z.cps.toList).flatten)) H
theorem rep_acc (c : Array Nat) : ∀ (n : Nat) (acc : List Nat), List.foldl (fun x y => x ++ y) acc.toArray (List.replicate n c) = (acc ++ (List.replicate n c.toList).flatten).toArray
  | 0, acc => by simp
  | n + 1, acc => by
    have e : acc.toArray ++ c = (acc ++ c.toList).toArray := by simp
    rw [List.replicate_succ, List.foldl_cons, e, rep_acc c n (acc ++ c.toList), List.replicate_succ, List.append_assoc]
    rfl
theorem rep_len (c : List Nat) : ∀ n : Nat, (List.replicate n c).flatten.length = n * c.length
  | 0 => by simp
  | n + 1 => by
    rw [List.replicate_succ, List.flatten_cons, List.length_append, rep_len c n, Nat.succ_mul]
    omega
theorem op_mulS : OpR X (binaryOp .Mult) rMulS := by
  intro pins s σ H x y v u Q I rx ry h
  obtain ⟨z, n, rfl, rfl, h0, h1, hz, q⟩ := h
  obtain ⟨t, rfl⟩ := rx
  obtain ⟨t', rfl⟩ := ry
  have hs : 1000000 ≤ sizeLine := by decide
  have prod : z.length * n.toNat ≤ 1000 * 1000 := Nat.mul_le_mul hz (by omega)
  refine PySem.P.mul_str ?_ ?_ ?_ ?_
  · rw [decide_eq_false (by omega), decide_eq_false (by omega)]
    rfl
  · intro a _ g
    have d : 1000 ≤ (2 ^ 63 - 1 : Int) / n := (Int.le_ediv_iff_mul_le (by omega)).mpr (by omega)
    omega
  · intro _ _
    show decide (z.length * n.toNat > sizeLine) = false
    exact decide_eq_false (by omega)
  · have hacc := rep_acc z.cps n.toNat []
    rw [List.nil_append] at hacc
    by_cases a : n < 1
    · rw [if_pos a]
      have e : n = 0 := by omega
      subst e
      exact ⟨by decide, .str _, H, I.tok _, ⟨_, rfl⟩, q⟩
    · rw [if_neg a]
      cases e : (n == 1 || z.length == 0) with
      | true =>
        rw [if_pos rfl]
        have ez : mkS (List.replicate n.toNat z.cps.toList).flatten = z := by
          rw [Bool.or_eq_true] at e
          rcases e with e | e
          · have e' : n = 1 := eq_of_beq e
            subst e'
            show mkS (List.replicate 1 z.cps.toList).flatten = z
            rw [List.replicate_one, List.flatten_cons, List.flatten_nil, List.append_nil, mkS_cp]
          · have e' : z.length = 0 := eq_of_beq e
            have e2 : z.cps.toList = [] := List.eq_nil_of_length_eq_zero (by rw [Array.length_toList]; exact e')
            have e3 : z = mkS [] := by rw [← e2, mkS_cp]
            rw [e2, e3]
            have : (List.replicate n.toNat ([] : List Nat)).flatten = [] := List.eq_nil_of_length_eq_zero (by rw [rep_len]; simp)
            rw [this]
        rw [ez] at q
        exact ⟨.str z, H, I, ⟨_, rfl⟩, q⟩
      | false =>
        rw [if_neg Bool.false_ne_true]
        have z2 : (⟨List.foldl (fun x1 x2 => x1 ++ x2) #[] (List.replicate n.toNat z.cps)⟩ : Str) = mkS (List.replicate n.toNat z.cps.toList).flatten := congrArg Str.mk hacc
        refine ⟨?_, .str (mkS (List.replicate n.toNat z.cps.toList).flatten), H, I.tok _, ⟨s.toks, ?_⟩, q⟩
        · rw [z2, mkS_len, rep_len, Array.length_toList, Nat.mul_comm]
          show z.cps.size * n.toNat ≤ sizeLine
          have pr : z.cps.size * n.toNat ≤ 1000 * 1000 := prod
          omega
        · rw [z2]
/-- a * b -/
def oMul : PyData → PyData → Option PyData
  | .int a, .int b => if CMulX a b then some (.int (a * b)) else none
  | .str z, .int n => if 0 ≤ n ∧ n ≤ 1000 ∧ z.length ≤ 1000 then some (.str (mkS (List.replicate n.toNat z.cps.toList).flatten)) else none
  | .tuple ds, .int n => if ds ≠ [] ∧ 2 ≤ n ∧ n ≤ 1000 ∧ ds.length ≤ 1000 then some (.tuple (List.replicate n.toNat ds).flatten) else none
  | _, _ => none
abbrev rMulU (K : PySem.W.Frag) : R2 := fun x y H Q => rI CMulX (fun i j => .int (i * j)) x y H Q ∨ rMulS x y H Q ∨ rRepZ K x y H Q
theorem op_mulU : OpR X (binaryOp .Mult) (rMulU X.K) := OpR.or op_mulX (OpR.or op_mulS op_repZ)
theorem dpAll_rep {H : Hp} {vs : List V} {ds : List PyData} (a : DqAll K H vs ds) : ∀ n : Nat, DqAll K H (List.replicate n vs).flatten (List.replicate n ds).flatten
  | 0 => .nil
  | n + 1 => by
    rw [List.replicate_succ, List.replicate_succ, List.flatten_cons, List.flatten_cons]
    exact dpAll_app a (dpAll_rep a n)
theorem noLs_rep {ds : List PyData} (a : noLs ds = true) : ∀ n : Nat, noLs (List.replicate n ds).flatten = true
  | 0 => rfl
  | n + 1 => by
    rw [List.replicate_succ, List.flatten_cons]
    exact noLs_append a (noLs_rep a n)
theorem snd_mul : Snd2 K (rMulU K) oMul := by
  intro H x y p q z Q dx nx dy ny h k
  cases p with
  | int a =>
    cases q with
    | int b =>
      simp only [oMul] at h
      split at h
      · rename_i hc
        cases h
        cases dx
        cases dy
        exact .inl ⟨a, b, rfl, rfl, hc, k _ H (Same.refl H) (.int _) rfl⟩
      · cases h
    | _ => cases h
  | str a =>
    cases q with
    | int b =>
      simp only [oMul] at h
      split at h
      · rename_i hc
        cases h
        cases dx
        cases dy
        exact .inr (.inl ⟨a, b, rfl, rfl, hc.1, hc.2.1, hc.2.2, k _ H (Same.refl H) (.str _) rfl⟩)
      · cases h
    | _ => cases h
  | tuple ds =>
    cases q with
    | int b =>
      simp only [oMul] at h
      split at h
      · rename_i hc
        cases h
        obtain ⟨p1, xs, rfl, s1, a1⟩ := dp_tupX dx
        cases dy
        have n1 : noLs ds = true := by simpa [noL] using nx
        refine .inr (.inr ⟨p1, b, xs, rfl, rfl, s1.sq, fun e => ?_, hc.2.1, hc.2.2.1, by rw [dpAll_len a1]; exact hc.2.2.2, fun r ob nr to => ?_⟩)
        · subst e
          cases a1
          exact hc.1 rfl
        · have nn := noLs_rep n1 b.toNat
          obtain ⟨s3, d3⟩ := newT (K := K) nr to nn (dpAll_rep a1 b.toNat)
          exact k _ _ s3 d3 (by simpa [noL] using nn)
      · cases h
    | _ => cases h
  | _ => cases h
/-! #### what stands at a slot is changed -/
theorem EnvR.change (g : List Addr) {H : Hp} {σ : L2.St} {ρ : Env'} {F : List Addr} {i : Nat} {x : M} (E : EnvR K T H σ ρ F) (n : (g ++ F).Nodup) (wg : WrA T H g) (h : ρ[i]? = some (some x)) :
    ∃ v f, σ[i]? = some (some v) ∧ Rep K T H v x f ∧ f.Nodup ∧ (∀ b ∈ f, b ∈ F) ∧ ∀ H' x' f', Rep K T H' v x' f' → f'.Nodup → Mv (g ++ f) H f' H' → ∃ F2, EnvR K T H' σ (ρ.set i (some x')) F2 ∧ F2.Nodup ∧ Mv (g ++ F) H F2 H' := by
  have n0 := List.nodup_append.mp n
  obtain ⟨v, f, F1, h1, h2, h3, h4⟩ := E.take h
  have nn := List.nodup_append.mp (h4.nodup_iff.mpr n0.2.1)
  refine ⟨v, f, h1, h2, nn.1, fun b hb => h4.mem_iff.mp (List.mem_append_left _ hb), fun H' x' f' r n' m => ?_⟩
  have dis : ∀ b ∈ F1, b ∉ g ++ f := fun b hb hf => (List.mem_append.mp hf).elim (fun z => n0.2.2 b z b (h4.mem_iff.mp (List.mem_append_right _ hb)) rfl) fun z => nn.2.2 b z b hb rfl
  have wgf : WrA T H (g ++ f) := fun b hb => (List.mem_append.mp hb).elim (wg b) (h2.wr b)
  have ap := m.apart wgf h3.wr dis
  have hh : (ρ.set i (some M.hol))[i]? = some (some .hol) := by
    rw [List.getElem?_set_self]
    exact (List.getElem?_eq_some_iff.mp h).1
  obtain ⟨F2, e1, e2⟩ := (h3.keep ap.1).put h1 hh r
  rw [List.set_set] at e1
  have n2 : (f' ++ F1).Nodup := List.nodup_append.mpr ⟨n', nn.2.1, fun b hb c hc e => by
    subst e
    exact ap.2 b hc hb⟩
  refine ⟨F2, e1, e2.nodup_iff.mp n2, ?_⟩
  have m1 : Mv ((g ++ f) ++ F1) H (f' ++ F1) H' := ⟨fun b o hb hn => m.c b o hb fun z => hn (List.mem_append_left _ z), fun b hb => (List.mem_append.mp hb).elim (fun z => (m.n b z).elim (fun y => .inl (List.mem_append_left _ y)) .inr) fun z => .inl (List.mem_append_right _ z)⟩
  refine (m1.sup fun b hb => ?_).sub fun b hb => e2.mem_iff.mpr hb
  rw [List.append_assoc] at hb
  exact (List.mem_append.mp hb).elim (List.mem_append_left _) fun z => List.mem_append_right _ (h4.mem_iff.mp z)
theorem Reps.set {H : Hp} {y : M} {u : V} (r0 : Rep K T H u y []) : ∀ {vs : List V} {xs : List M} {f : List Addr} (j : Nat), Reps K T H vs xs f → ∃ f', Reps K T H (vs.set j u) (xs.set j y) f' ∧ f'.Sublist f
  | _, _, _, _, .nil => ⟨[], .nil, List.Sublist.refl _⟩
  | _, _, _, 0, .cons (f := f) (g := g) a r => ⟨[] ++ g, .cons r0 r, List.sublist_append_right f g⟩
  | _, _, _, j + 1, .cons (f := f) (g := g) a r => by
    obtain ⟨f', h1, h2⟩ := Reps.set r0 j r
    exact ⟨f ++ f', .cons a h1, List.Sublist.append_left h2 f⟩
theorem Reps.at {H : Hp} : ∀ {vs : List V} {xs : List M} {f : List Addr} {j : Nat} {x : M}, Reps K T H vs xs f → xs[j]? = some x → ∃ v g, vs[j]? = some v ∧ Rep K T H v x g ∧ ∀ b ∈ g, b ∈ f
  | _, _, _, j, x, .nil, h => by simp at h
  | _, _, _, 0, x, .cons a r, h => by
    simp at h
    subst h
    exact ⟨_, _, rfl, a, fun b hb => List.mem_append_left _ hb⟩
  | _, _, _, j + 1, x, .cons a r, h => by
    obtain ⟨v, g, h1, h2, h3⟩ := Reps.at (j := j) (x := x) r (by simpa using h)
    exact ⟨v, g, by simpa using h1, h2, fun b hb => List.mem_append_right _ (h3 b hb)⟩
theorem Reps.app {H : Hp} {ys : List M} {ws : List V} {g : List Addr} (r2 : Reps K T H ws ys g) : ∀ {vs : List V} {xs : List M} {f : List Addr}, Reps K T H vs xs f → Reps K T H (vs ++ ws) (xs ++ ys) (f ++ g)
  | _, _, _, .nil => r2
  | _, _, _, .cons a r => by
    rw [List.append_assoc]
    exact .cons a (Reps.app r2 r)
/-- a list at l is written -/
theorem lst_write {H : Hp} {l : Addr} {vs : List V} {o' : HO} {f : List Addr} (h : H l = some (.lst vs)) : Mv (l :: f) H (l :: f) (upd H l o') :=
  ⟨fun b o hb hn => by rw [upd_ne (fun e => hn (by rw [e]; exact List.mem_cons_self))]; exact hb, fun b hb => .inl hb⟩
theorem kp_write {H : Hp} {l : Addr} {o o' : HO} {f : List Addr} (h : H l = some o) (w : Wr T o) (hl : l ∉ f) : Kp T f H (upd H l o') := fun b u hb hq => by
  rw [upd_ne ?_]
  · exact hb
  · intro e
    subst e
    rcases hq with z | z
    · exact hl z
    · rw [h] at hb
      cases hb
      exact stay_wr z w
/-- o[k] = e, o a list at slot i -/
def ixSet (xs : List M) (k : PyData) (y : M) : Option (List M) := match k with
  | .int z => (ixN xs.length z).map fun j => xs.set j y
  | _ => none
def sIdx (i : Nat) (mk : Env' → Option PyData) (m : MM PyData) : MM Fl := bindM m fun d ρ => match ρ[i]? with
  | some (some (.lst xs)) => (mk ρ).bind fun k => (ixSet xs k (.imm d)).map fun ys => .ok .nx (ρ.set i (some (.lst ys)))
  | _ => none
theorem qs_idx {i : Nat} {mk : Env' → Option PyData} {m : MM PyData} (asm : ∀ te to tk, PE X e te → PE X o to → PE X a tk → PS X st (tAsg te (gSub to tk rSetL))) (he : QD T X W e m) (ho : PE X o (tVar i)) (ha : QE T X a mk) : QS T S X W st (sIdx i mk m) := by
  obtain ⟨t, ht, q⟩ := he.ex
  obtain ⟨tk, hk, qk⟩ := ha.ex
  refine ⟨_, asm t _ tk ht ho hk, fun σ H ρ F r D E n hm k => ?_⟩
  unfold sIdx bindM at hm
  cases hd : m ρ with
  | none => rw [hd] at hm; cases hm
  | some r1 =>
    rw [hd] at hm
    refine q σ H ρ F r1 _ E n hd ?_
    cases r1 with
    | er c fs ρ1 =>
      cases hm
      exact fun d H' F' xd E' n' mv => k σ d H' F' (Stb.refl σ) xd E' n' mv
    | ok d ρ1 =>
      intro v H1 F1 dp nl E1 n1 m1
      dsimp only at hm
      split at hm
      · rename_i xs hx
        cases hz : mk ρ1 with
        | none => rw [hz] at hm; cases hm
        | some kd =>
          rw [hz] at hm
          dsimp only [Option.bind] at hm
          cases hy : ixSet xs kd (.imm d) with
          | none => rw [hy] at hm; cases hm
          | some ys =>
            rw [hy] at hm
            cases hm
            obtain ⟨w0, f0, g0, _, _⟩ := E1.get hx
            refine ⟨w0, g0, ?_⟩
            refine qk σ H1 ρ1 F1 kd _ E1 hz fun kv H2 s2 dk nk => ?_
            have E2 := E1.same s2
            obtain ⟨w, f, g1, rp, nf, sf, go⟩ := E2.change [] n1 (fun _ h => nomatch h) hx
            have ew : w0 = w := by
              rw [g0] at g1
              exact Option.some.inj (Option.some.inj g1)
            subst ew
            cases rp with
            | @lst l vs _ f1 ha rs =>
            cases kd with
            | int z =>
              cases dk
              simp only [ixSet] at hy
              cases hj : ixN xs.length z with
              | none => rw [hj] at hy; cases hy
              | some j =>
                rw [hj] at hy
                cases hy
                refine ⟨l, vs, z, j, rfl, rfl, ha, by rw [rs.len]; exact hj, ?_⟩
                have nf' := List.nodup_cons.mp nf
                have rs' := rs.keep (kp_write (o' := .lst (vs.set j v)) ha trivial nf'.1)
                have dv : Dq X.K (upd H2 l (.lst (vs.set j v))) v d := dp_keepX (kp_write (T := T) (f := []) (o' := .lst (vs.set j v)) ha trivial (fun h => nomatch h)).x nl (dpAll_keepX s2 nl dp)
                obtain ⟨f2, r2, sl⟩ := Reps.set (.imm dv nl) j rs'
                obtain ⟨F3, e1, e2, e3⟩ := go _ (.lst (xs.set j (.imm d))) (l :: f2) (.lst upd_same r2) (List.nodup_cons.mpr ⟨fun z => nf'.1 (sl.subset z), sl.nodup nf'.2⟩) ((lst_write ha).sub fun b hb => by
                  rcases List.mem_cons.mp hb with z | z
                  · exact List.mem_cons.mpr (.inl z)
                  · exact List.mem_cons.mpr (.inr (sl.subset z)))
                exact k σ _ F3 (Stb.refl σ) e1 e2 ((m1.trans (Mv.same s2 fun _ h => h)).trans e3)
            | _ => cases hy
      · cases hm
/-- o.append(e), o a list at slot i -/
def xApp (i : Nat) (m : MM M) : MM M := fun ρ => match ρ[i]? with
  | some (some (.lst _)) => bindM m (fun y ρ1 => match ρ1[i]? with
      | some (some (.lst xs)) => if xs.length ≤ most then some (.ok (.imm .none) (ρ1.set i (some (.lst (xs ++ [y]))))) else none
      | _ => none) ρ
  | _ => none
theorem qx_app {i : Nat} {m : MM M} {apos : Pos} (ho : PE X o (tVar i)) (he : QX T X W e m)
    (hs : starEach [e] X.env = (false, eval e X.env) :: starEach [] X.env := by rfl)
    (mk : ∀ t, PA X [e] t → PE X (.Call (.Attribute o "append" apos) [e] [] pos) (tBM X.K "list" rAppend (tVar i) t)) : QX T X W (.Call (.Attribute o "append" apos) [e] [] pos) (xApp i m) := by
  obtain ⟨t, ht, q⟩ := he.ex
  refine ⟨_, mk _ (pa_cons ht pa_nil hs), fun σ H ρ F r Q E n hm k => ?_⟩
  unfold xApp at hm
  split at hm
  · rename_i xs0 hx0
    obtain ⟨w0, f0, g0, r0, _⟩ := E.get hx0
    refine ⟨w0, g0, ?_⟩
    cases r0 with
    | @lst l0 vs0 _ f00 ha0 rs0 =>
    refine ⟨.inl ⟨rfl, _, SqL.of ha0⟩, ?_⟩
    unfold bindM at hm
    cases hd : m ρ with
    | none => rw [hd] at hm; cases hm
    | some r1 =>
      rw [hd] at hm
      refine q σ H ρ F r1 _ E n hd ?_
      cases r1 with
      | er c fs ρ1 => cases hm; exact k
      | ok y ρ1 =>
        intro v H1 fy F1 ry E1 n1 m1
        dsimp only at hm
        split at hm
        · rename_i xs hx
          split at hm
          · rename_i hlen
            cases hm
            have nn := List.nodup_append.mp n1
            obtain ⟨w, f, g1, rp, nf, sf, go⟩ := E1.change fy n1 ry.wr hx
            have ew : (V.ref l0) = w := by
              rw [g0] at g1
              exact Option.some.inj (Option.some.inj g1)
            subst ew
            cases rp with
            | @lst _ vs _ f1 ha rs =>
            refine ⟨l0, vs, v, rfl, rfl, ha, by rw [rs.len]; exact most_lt hlen, ?_⟩
            have nf' := List.nodup_cons.mp nf
            have hl0 : l0 ∈ F1 := sf l0 (List.mem_cons_self)
            have kpf : Kp T f1 H1 (upd H1 l0 (.lst (vs ++ [v]))) := kp_write ha trivial nf'.1
            have kpy : Kp T fy H1 (upd H1 l0 (.lst (vs ++ [v]))) := kp_write ha trivial fun z => nn.2.2 l0 z l0 hl0 rfl
            have ry' : Reps X.K T (upd H1 l0 (.lst (vs ++ [v]))) [v] [y] (fy ++ []) := .cons (ry.keep kpy) .nil
            have dj : ∀ b ∈ f1, ∀ c ∈ fy ++ [], b ≠ c := fun b hb c hc e => by
              subst e
              rw [List.append_nil] at hc
              exact nn.2.2 b hc b (sf b (List.mem_cons_of_mem _ hb)) rfl
            have ny : (f1 ++ (fy ++ [])).Nodup := List.nodup_append.mpr ⟨nf'.2, by rw [List.append_nil]; exact nn.1, dj⟩
            have nly : l0 ∉ f1 ++ (fy ++ []) := fun z => (List.mem_append.mp z).elim nf'.1 fun z => by
              rw [List.append_nil] at z
              exact nn.2.2 l0 z l0 hl0 rfl
            have mv2 : Mv (fy ++ (l0 :: f1)) H1 (l0 :: (f1 ++ (fy ++ []))) (upd H1 l0 (.lst (vs ++ [v]))) := by
              refine ⟨fun b o hb hn => ?_, fun b hb => .inl ?_⟩
              · rw [upd_ne fun e => hn (List.mem_append_right _ (by rw [e]; exact List.mem_cons_self))]
                exact hb
              · rcases List.mem_cons.mp hb with z | z
                · exact List.mem_append_right _ (by rw [z]; exact List.mem_cons_self)
                · rcases List.mem_append.mp z with z | z
                  · exact List.mem_append_right _ (List.mem_cons_of_mem _ z)
                  · rw [List.append_nil] at z
                    exact List.mem_append_left _ z
            obtain ⟨F3, e1, e2, e3⟩ := go _ (.lst (xs ++ [y])) (l0 :: (f1 ++ (fy ++ []))) (.lst upd_same (Reps.app ry' (rs.keep kpf))) (List.nodup_cons.mpr ⟨nly, ny⟩) mv2
            exact k .non _ [] F3 (.imm .non rfl) e1 e2 (m1.trans e3)
          · cases hm
        · cases hm
  · cases hm

/-! #### a list of written items -/
def awM : List Aw → Option (List M)
  | [] => some []
  | .val d :: r => (awM r).map fun xs => .imm d :: xs
  | .own x :: r => (awM r).map fun xs => x :: xs
  | .slot _ :: _ => none
theorem awM_ok {H : Hp} {σ : L2.St} : ∀ {vs : List V} {as : List Aw} {f : List Addr} {xs : List M}, AwR K T H σ vs as f → awM as = some xs → Reps K T H vs xs f
  | _, _, _, _, .nil, h => by
    cases h
    exact .nil
  | _, _, _, _, .val (as := as) a n r, h => by
    simp only [awM] at h
    cases hx : awM as with
    | none => rw [hx] at h; cases h
    | some ys =>
      rw [hx] at h
      cases h
      exact .cons (f := []) (.imm a n) (awM_ok r hx)
  | _, _, _, _, .own (as := as) a r, h => by
    simp only [awM] at h
    cases hx : awM as with
    | none => rw [hx] at h; cases h
    | some ys =>
      rw [hx] at h
      cases h
      exact .cons a (awM_ok r hx)
  | _, _, _, _, .slot _ r, h => by simp [awM] at h
def xLst (m : MM (List Aw)) : MM M := bindM m fun as => optM ((awM as).bind fun xs => if xs.length ≤ most then some (.lst xs) else none)
theorem AwR.len {H : Hp} {σ : L2.St} : ∀ {vs : List V} {as : List Aw} {f : List Addr}, AwR K T H σ vs as f → vs.length = as.length
  | _, _, _, .nil => rfl
  | _, _, _, .val _ _ r => congrArg (· + 1) (AwR.len r)
  | _, _, _, .slot _ r => congrArg (· + 1) (AwR.len r)
  | _, _, _, .own _ r => congrArg (· + 1) (AwR.len r)
theorem qx_lst {m : MM (List Aw)} (h : QAr T X W es m) : QX T X W (.List es pos) (xLst m) := by
  obtain ⟨t, ht, q⟩ := h.ex
  refine ⟨_, pe_lst ht, fun σ H ρ F r Q E n hm k => ?_⟩
  unfold xLst bindM at hm
  cases hx : m ρ with
  | none => rw [hx] at hm; cases hm
  | some rx =>
    rw [hx] at hm
    refine q σ H ρ F rx _ E n hx ?_
    cases rx with
    | er c fs ρ1 => cases hm; exact k
    | ok as ρ1 =>
      intro vs H1 fo F1 aw E1 nd1 m1
      dsimp only [optM] at hm
      cases ha : awM as with
      | none => rw [ha] at hm; cases hm
      | some xs =>
        rw [ha] at hm
        dsimp only [Option.bind] at hm
        split at hm
        · rename_i hl
          cases hm
          have rs := awM_ok aw ha
          refine ⟨by rw [rs.len]; exact most_le hl, fun p np => ?_⟩
          have s2 : Same H1 (upd H1 p (.lst vs)) := fun b u q => by rw [upd_ne (ne_of_none q np)]; exact q
          have nold : ∀ f, WrA T H1 f → p ∉ f := fun f w hp => by
            obtain ⟨o, ho, _⟩ := w p hp
            rw [np] at ho
            cases ho
          refine k _ _ (p :: fo) F1 (.lst upd_same (rs.keep (Same.kp s2))) (E1.same s2) ?_ (m1.trans ⟨Chg.same s2, fun b hb => ?_⟩)
          · rw [List.cons_append]
            exact List.nodup_cons.mpr ⟨fun z => (List.mem_append.mp z).elim (nold _ rs.wr) (nold _ E1.wr), nd1⟩
          · rw [List.cons_append] at hb
            rcases List.mem_cons.mp hb with z | z
            · exact .inr (by rw [z]; exact np)
            · exact .inl z
        · cases hm
/-! #### reading what stands there -/
def ixM : M → PyData → Option M
  | .lst xs, .int z => atI xs z
  | .scr ns, .int z => (atI ns z).map fun n => .imm (.int n)
  | .imm d, k => (oIx d k).map .imm
  | _, _ => none
/-- o[k], k a written number -/
def pIx (m : Env' → Option M) (k : Int) : Env' → Option M := fun ρ => (m ρ).bind fun x => ixM x (.int k)
theorem atI_map {α β : Type} (f : α → β) (xs : List α) (z : Int) : atI (xs.map f) z = (atI xs z).map f := by
  unfold atI
  rw [List.length_map]
  cases ixN xs.length z with
  | none => rfl
  | some j => exact List.getElem?_map ..
abbrev rIxA (K : PySem.W.Frag) : R2 := fun x y H Q => rIxL K x y H Q ∨ rIxT K x y H Q ∨ rIxS x y H Q
theorem ixM_ok {H : Hp} {v : V} {x y : M} {f : List Addr} {z : Int} {Q : VK} (r : Rep K T H v x f) (h : ixM x (.int z) = some y) (k : ∀ w g, Rep K T H w y g → (∀ b ∈ g, b ∈ f) → Q w H) : rIxA K v (.int z) H Q := by
  cases r with
  | imm dp n =>
    simp only [ixM] at h
    cases ho : oIx _ (.int z) with
    | none => rw [ho] at h; cases h
    | some d =>
      rw [ho] at h
      cases h
      cases dp with
      | tup s a =>
        obtain ⟨w, h1, h2, h3⟩ := atI_dp a (by simpa [noL] using n) ho
        exact .inr (.inl ⟨_, _, z, w, rfl, rfl, s.sq, h1, k w [] (.imm h2 h3) fun _ h => nomatch h⟩)
      | str b =>
        simp only [oIx] at ho
        split at ho
        · rename_i hl
          cases hc : atI b.cps.toList z with
          | none => rw [hc] at ho; cases ho
          | some c =>
            rw [hc] at ho
            cases ho
            exact .inr (.inr ⟨b, z, c, rfl, rfl, most_le hl, hc, k _ [] (.imm (.str _) rfl) fun _ h => nomatch h⟩)
        · cases ho
      | _ => cases ho
  | scr s =>
    simp only [ixM] at h
    rename_i a ns
    cases hc : atI ns z with
    | none => rw [hc] at h; cases h
    | some c =>
      rw [hc] at h
      cases h
      exact .inl ⟨a, _, z, .int c, rfl, rfl, s.seq, by rw [atI_map, hc]; rfl, k _ [] (.imm (.int c) rfl) fun _ h => nomatch h⟩
  | @lst a vs xs f1 ha rs =>
    simp only [ixM] at h
    unfold atI at h
    cases hj : ixN xs.length z with
    | none => rw [hj] at h; cases h
    | some j =>
      rw [hj] at h
      obtain ⟨w, g, h1, h2, h3⟩ := Reps.at rs (show xs[j]? = some y from h)
      exact .inl ⟨a, vs, z, w, rfl, rfl, SqL.of ha, by
        unfold atI
        rw [rs.len, hj]
        exact h1, k w g h2 fun b hb => List.mem_cons_of_mem _ (h3 b hb)⟩
  | _ => cases h
theorem qp_ix {m : Env' → Option M} {z : Int} {j : Nat} {p3 : Pos} (h : QP T X o m) : QP T X (.Subscript o (.Constant (.int z) j p3) pos) (pIx m z) := by
  obtain ⟨t, ht, q⟩ := h.ex
  refine ⟨_, pe_ix ix_seq ht pe_int (fun _ _ => rfl), fun σ H ρ F y Q E hm k => ?_⟩
  unfold pIx at hm
  cases hx : m ρ with
  | none => rw [hx] at hm; cases hm
  | some x =>
    rw [hx] at hm
    exact q σ H ρ F x _ E hx fun v f r sf => ixM_ok r hm fun w g rg sg => k w g rg fun b hb => sf b (sg b hb)
/-- o[k], k pure: data -/
def eIx (m : Env' → Option M) (mk : Env' → Option PyData) : Env' → Option PyData := fun ρ => (m ρ).bind fun x => (mk ρ).bind fun k => (ixM x k).bind dM
theorem qe_ix {m : Env' → Option M} {mk : Env' → Option PyData} (h : QP T X o m) (ha : QE T X a mk) (hs : PlainIx a) : QE T X (.Subscript o a pos) (eIx m mk) := by
  obtain ⟨t, ht, q⟩ := h.ex
  obtain ⟨tk, hk, qk⟩ := ha.ex
  refine ⟨_, pe_ix ix_seq ht hk hs, fun σ H ρ F d Q E hm k => ?_⟩
  unfold eIx at hm
  cases hx : m ρ with
  | none => rw [hx] at hm; cases hm
  | some x =>
    rw [hx] at hm
    dsimp only [Option.bind] at hm
    cases hz : mk ρ with
    | none => rw [hz] at hm; cases hm
    | some kd =>
      rw [hz] at hm
      dsimp only at hm
      refine q σ H ρ F x _ E hx fun v f r sf => ?_
      refine qk σ H ρ F kd _ E hz fun kv H2 s2 dk nk => ?_
      cases hy : ixM x kd with
      | none => rw [hy] at hm; cases hm
      | some y =>
        rw [hy] at hm
        cases kd with
        | int z =>
          cases dk
          cases y with
          | imm d' =>
            cases hm
            refine ixM_ok (r.keep (Same.kp s2)) hy fun w g rg sg => ?_
            cases rg with
            | imm dp nl => exact k w H2 s2 dp nl
          | _ => cases hm
        | str _ => cases x <;> simp [ixM] at hy; rename_i d0; cases d0 <;> simp [oIx] at hy
        | none => cases x <;> simp [ixM] at hy; rename_i d0; cases d0 <;> simp [oIx] at hy
        | bool _ => cases x <;> simp [ixM] at hy; rename_i d0; cases d0 <;> simp [oIx] at hy
        | tuple _ => cases x <;> simp [ixM] at hy; rename_i d0; cases d0 <;> simp [oIx] at hy
        | list _ => cases x <;> simp [ixM] at hy; rename_i d0; cases d0 <;> simp [oIx] at hy
        | dict _ => cases x <;> simp [ixM] at hy; rename_i d0; cases d0 <;> simp [oIx] at hy
/-- [..][k], a new list, then k -/
def dIxX (m : MM M) (mk : MM PyData) : MM PyData := bindM m fun x => bindM mk fun k => match k with
  | .int z => optM ((ixM x (.int z)).bind dM)
  | _ => fun _ => none
theorem qd_ixX {m : MM M} {mk : MM PyData} (h : QX T X W o m) (ha : QD T X W a mk) (hs : PlainIx a) : QD T X W (.Subscript o a pos) (dIxX m mk) := by
  obtain ⟨t, ht, q⟩ := h.ex
  obtain ⟨tk, hk, qk⟩ := ha.ex
  refine ⟨_, pe_ix ix_seq ht hk hs, fun σ H ρ F r Q E n hm k => ?_⟩
  unfold dIxX bindM at hm
  cases hx : m ρ with
  | none => rw [hx] at hm; cases hm
  | some rx =>
    rw [hx] at hm
    refine q σ H ρ F rx _ E n hx ?_
    cases rx with
    | er c fs ρ1 => cases hm; exact k
    | ok x ρ1 =>
      intro v H1 f F1 rp E1 n1 m1
      have nn := List.nodup_append.mp n1
      have mF : Mv F H F1 H1 := m1.sub fun _ h => List.mem_append_right _ h
      dsimp only at hm
      cases hz : mk ρ1 with
      | none => rw [hz] at hm; cases hm
      | some rk =>
        rw [hz] at hm
        refine qk σ H1 ρ1 F1 rk _ E1 nn.2.1 hz ?_
        cases rk with
        | er c fs ρ2 => cases hm; exact XOk.from k mF
        | ok kd ρ2 =>
          intro kv H2 F2 dk nk E2 n2 m2
          dsimp only at hm
          cases kd with
          | int z =>
            cases dk
            dsimp only [optM] at hm
            cases hy : ixM x (.int z) with
            | none => rw [hy] at hm; cases hm
            | some y =>
              rw [hy] at hm
              cases y with
              | imm d' =>
                cases hm
                have ap := m2.apart E1.wr rp.wr fun b hb hf => nn.2.2 b hb b hf rfl
                refine ixM_ok (rp.keep ap.1) hy fun w g rg sg => ?_
                cases rg with
                | imm dp nl => exact k w H2 F2 dp nl E2 n2 (mF.trans m2)
              | _ => cases hm
          | _ => cases hm
/-- o[k], o a name, then k -/
def dIxV (i : Nat) (mk : MM PyData) : MM PyData := fun ρ => match ρ[i]? with
  | some (some _) => bindM mk (fun k ρ1 => match k, ρ1[i]? with
      | .int z, some (some x) => ((ixM x (.int z)).bind dM).map fun d => .ok d ρ1
      | _, _ => none) ρ
  | _ => none
theorem qd_ixV {i : Nat} {mk : MM PyData} (h : PE X o (tVar i)) (ha : QD T X W a mk) (hs : PlainIx a) : QD T X W (.Subscript o a pos) (dIxV i mk) := by
  obtain ⟨tk, hk, qk⟩ := ha.ex
  refine ⟨_, pe_ix ix_seq h hk hs, fun σ H ρ F r Q E n hm k => ?_⟩
  unfold dIxV at hm
  split at hm
  · rename_i x0 hx0
    obtain ⟨v0, f0, g0, _, _⟩ := E.get hx0
    refine ⟨v0, g0, ?_⟩
    unfold bindM at hm
    cases hz : mk ρ with
    | none => rw [hz] at hm; cases hm
    | some rk =>
      rw [hz] at hm
      refine qk σ H ρ F rk _ E n hz ?_
      cases rk with
      | er c fs ρ2 => cases hm; exact k
      | ok kd ρ2 =>
        intro kv H2 F2 dk nk E2 n2 m2
        dsimp only at hm
        split at hm
        · rename_i z x hx
          cases dk
          obtain ⟨v, f, g1, rp, sf⟩ := E2.get hx
          have ev : v0 = v := by
            rw [g0] at g1
            exact Option.some.inj (Option.some.inj g1)
          subst ev
          cases hy : ixM x (.int z) with
          | none => rw [hy] at hm; cases hm
          | some y =>
            rw [hy] at hm
            cases y with
            | imm d' =>
              cases hm
              refine ixM_ok rp hy fun w g rg sg => ?_
              cases rg with
              | imm dp nl => exact k w H2 F2 dp nl E2 n2 m2
            | _ => cases hm
        · cases hm
  · cases hm
end
/-! ### a loop over a list that stands at a slot -/
open Classical in
noncomputable def loopV (i : Nat) (p : Pt) (mb : MM Fl) : List PyData → MM Fl
  | [] => pureM .nx
  | d :: ds => fun ρ => match bindP p d ρ with
    | none => none
    | some ρ1 => match mb ρ1 with
      | none => none
      | some (.ok .nx ρ2) => if ρ2[i]? = ρ[i]? then loopV i p mb ds ρ2 else none
      | some (.ok .ct ρ2) => if ρ2[i]? = ρ[i]? then loopV i p mb ds ρ2 else none
      | some (.ok .bk ρ2) => some (.ok .nx ρ2)
      | some (.ok (.rt x) ρ2) => some (.ok (.rt x) ρ2)
      | some (.er c fs ρ2) => some (.er c fs ρ2)
noncomputable def forV (i : Nat) (p : Pt) (mb : MM Fl) : MM Fl := fun ρ => match ρ[i]? with
  | some (some x) => match lstL x with
    | some items => loopV i p mb items ρ
    | none => none
  | _ => none
section
variable {T : Tb} {S S' : List Nat} {X : Cx} {W : WXk} {e a b c tg : Expr} {es rest : List Expr} {st : Stmt} {sts body : List Stmt} {pos p2 : Pos}
theorem lstL_dp {K : PySem.W.Frag} {H : Hp} {v : V} {x : M} {f : List Addr} {ds : List PyData} (r : Rep K T H v x f) (h : lstL x = some ds) : ∃ a vs, v = .ref a ∧ SqL K H a vs ∧ DqAll K H vs ds ∧ noLs ds = true := by
  cases r with
  | @lst a vs xs f1 ha rs =>
    obtain ⟨h1, h2, _⟩ := immL_dp rs h
    exact ⟨a, vs, rfl, SqL.of ha, h1, h2⟩
  | @scr a ns sa =>
    cases h
    exact ⟨a, _, rfl, sa.seq, dpAll_ints ns, noLs_ints ns⟩
  | _ => cases h
theorem qs_forV {i : Nat} {p : Pt} {mb : MM Fl} (mk : ∀ g tb, PG X tg g → PSs X body tb → PS X st (tFor (iList X.K (tVar i)) g tb)) (hg : QG T (i :: S) X tg p) (hb : QSs T (i :: S) X W body mb) : QS T S X W st (forV i p mb) := by
  obtain ⟨g, h2, q2⟩ := hg.ex
  obtain ⟨tb, h3, q3⟩ := hb.ex
  refine ⟨_, mk g tb h2 h3, fun σ H ρ F r D E n hm k => ?_⟩
  unfold forV at hm
  split at hm
  · rename_i x hx
    split at hm
    · rename_i items hit
      obtain ⟨v, f, g1, rp, _⟩ := E.get hx
      obtain ⟨a, vs0, rfl, sq, _, _⟩ := lstL_dp rp hit
      refine ⟨_, g1, a, rfl, ⟨vs0, sq⟩, ?_⟩
      refine ⟨fun j mm σ' H' => mm = items.length - j ∧ j ≤ items.length ∧ ∃ ρ' F', EnvR X.K T H' σ' ρ' F' ∧ F'.Nodup ∧ Stb (i :: S) σ σ' ∧ Mv F H F' H' ∧ ρ'[i]? = some (some x) ∧ loopV i p mb (items.drop j) ρ' = some r,
        ⟨_, rfl, Nat.zero_le _, ρ, F, E, n, Stb.refl σ, Mv.refl (fun _ h => h), hx, hm⟩, ?_⟩
      rintro j mm σ2 H2 ⟨rfl, hle, ρ2, F2, E2, n2, s2, m2, hx2, hl⟩
      have ss : ∀ {σ3 : L2.St}, Stb (i :: S) σ σ3 → Stb S σ σ3 := fun s => s.sub fun b hb => List.mem_cons_of_mem _ hb
      obtain ⟨v2, f2, g2, rp2, _⟩ := E2.get hx2
      have ev : V.ref a = v2 := by
        have := s2 i List.mem_cons_self
        rw [g2, g1] at this
        exact (Option.some.inj (Option.some.inj this)).symm
      subst ev
      obtain ⟨a', vs, ea, sq2, al2, nl2⟩ := lstL_dp rp2 hit
      cases ea
      have hlen := dpAll_len al2
      by_cases hlt : j < items.length
      · obtain ⟨w, hw, dw⟩ := dpAll_at al2 (List.getElem?_eq_getElem hlt)
        refine .inr ⟨⟨vs, w, sq2, hw⟩, fun σ3 H3 => ∃ ρ3 F3, EnvR X.K T H3 σ3 ρ3 F3 ∧ F3.Nodup ∧ Stb (i :: S) σ σ3 ∧ Mv F H F3 H3 ∧ ρ3[i]? = some (some x) ∧ loopV i p mb (items.drop (j + 1)) ρ3 = some r,
          fun σ3 H3 h => ⟨items.length - (j + 1), by omega, rfl, hlt, h⟩, fun y H3 yy => ?_⟩
        obtain ⟨rfl, yy⟩ := yy
        have ey := yy vs sq2
        rw [hw] at ey
        cases ey
        have hdr : items.drop j = items[j] :: items.drop (j + 1) := List.drop_eq_getElem_cons hlt
        rw [hdr] at hl
        simp only [loopV] at hl
        cases hbp : bindP p items[j] ρ2 with
        | none => rw [hbp] at hl; cases hl
        | some ρ3 =>
          rw [hbp] at hl
          dsimp only at hl
          refine q2 w σ2 H3 ρ2 ρ3 F2 items[j] _ E2 n2 dw (noLs_at nl2 (List.getElem?_eq_getElem hlt)) hbp fun σ4 F4 s4 E4 n4 f4 => ?_
          cases hmb : mb ρ3 with
          | none => rw [hmb] at hl; cases hl
          | some r4 =>
            rw [hmb] at hl
            have m34 : Mv F H F4 H3 := m2.sub f4
            refine q3 σ4 H3 ρ3 F4 r4 _ E4 n4 hmb ?_
            cases r4 with
            | er c fs ρ5 =>
              cases hl
              exact fun σ5 d5 H5 F5 s5 xd E5 n5 m5 => k σ5 d5 H5 F5 (ss ((s2.trans s4).trans s5)) xd E5 n5 (m34.trans m5)
            | ok f ρ5 =>
              cases f with
              | nx =>
                dsimp only at hl
                split at hl
                · rename_i heq
                  exact fun σ5 H5 F5 s5 E5 n5 m5 => ⟨ρ5, F5, E5, n5, (s2.trans s4).trans s5, m34.trans m5, heq.trans hx2, hl⟩
                · cases hl
              | ct =>
                dsimp only at hl
                split at hl
                · rename_i heq
                  exact fun σ5 H5 F5 s5 E5 n5 m5 => ⟨ρ5, F5, E5, n5, (s2.trans s4).trans s5, m34.trans m5, heq.trans hx2, hl⟩
                · cases hl
              | bk =>
                cases hl
                exact fun σ5 H5 F5 s5 E5 n5 m5 => k σ5 H5 F5 (ss ((s2.trans s4).trans s5)) E5 n5 (m34.trans m5)
              | rt z =>
                cases hl
                exact fun v σ5 H5 f5 F5 s5 rp E5 n5 m5 => k v σ5 H5 f5 F5 (ss ((s2.trans s4).trans s5)) rp E5 n5 (m34.trans m5)
      · have e : j = items.length := by omega
        subst e
        rw [List.drop_length] at hl
        cases hl
        exact .inl ⟨⟨vs, sq2, by rw [hlen] <;> exact Nat.le_refl _⟩, k σ2 H2 F2 (ss s2) E2 n2 m2⟩
    · cases hm
  · cases hm
/-! ### fields -/
theorem lookupF {K : PySem.W.Frag} {H : Hp} {f : Str} {x : M} : ∀ {fvs : List (Str × V)} {fs : List (Str × M)} {F : List Addr}, fvs.map Prod.fst = fs.map Prod.fst → Reps K T H (fvs.map Prod.snd) (fs.map Prod.snd) F → fs.lookup f = some x →
    ∃ v g, fvs.lookup f = some v ∧ Rep K T H v x g ∧ ∀ b ∈ g, b ∈ F
  | [], [], _, _, _, h => by cases h
  | [], _ :: _, _, e, _, _ => by cases e
  | _ :: _, [], _, e, _, _ => by cases e
  | (n, v) :: fvs, (n', y) :: fs, _, e, r, h => by
    simp only [List.map_cons, List.cons.injEq] at e
    obtain ⟨e1, e2⟩ := e
    subst e1
    simp only [List.map_cons] at r
    cases r with
    | cons a r =>
      rw [List.lookup_cons] at h ⊢
      cases hn : f == n with
      | true =>
        rw [hn] at h
        cases h
        exact ⟨v, _, rfl, a, fun b hb => List.mem_append_left _ hb⟩
      | false =>
        rw [hn] at h
        obtain ⟨w, g, h1, h2, h3⟩ := lookupF e2 r h
        exact ⟨w, g, h1, h2, fun b hb => List.mem_append_right _ (h3 b hb)⟩
theorem lookupD {K : PySem.W.Frag} {H : Hp} {f : Str} {x : PyData} : ∀ {fvs : List (Str × V)} {fs : List (Str × PyData)}, fvs.map Prod.fst = fs.map Prod.fst → DqAll K H (fvs.map Prod.snd) (fs.map Prod.snd) → noLs (fs.map Prod.snd) = true → fs.lookup f = some x →
    ∃ v, fvs.lookup f = some v ∧ Dq K H v x ∧ noL x = true
  | [], [], _, _, _, h => by cases h
  | [], _ :: _, e, _, _, _ => by cases e
  | _ :: _, [], e, _, _, _ => by cases e
  | (n, v) :: fvs, (n', y) :: fs, e, r, nl, h => by
    simp only [List.map_cons, List.cons.injEq] at e
    obtain ⟨e1, e2⟩ := e
    subst e1
    simp only [List.map_cons] at r
    simp only [List.map_cons, noLs, Bool.and_eq_true] at nl
    cases r with
    | cons a r =>
      rw [List.lookup_cons] at h ⊢
      cases hn : f == n with
      | true =>
        rw [hn] at h
        cases h
        exact ⟨v, rfl, a, nl.1⟩
      | false =>
        rw [hn] at h
        obtain ⟨w, h1, h2⟩ := lookupD e2 r nl.2 h
        exact ⟨w, h1, h2⟩
def fldM (c : Nat) (f : Str) : M → Option M
  | .ins c' fs => if c' = c then fs.lookup f else none
  | .fro c' fs => if c' = c then (fs.lookup f).map .imm else none
  | _ => none
def pFld (c : Nat) (f : Str) (m : Env' → Option M) : Env' → Option M := fun ρ => (m ρ).bind (fldM c f)
theorem qp_fld {c : Nat} {f : Str} {o : Expr} {m : Env' → Option M} (cl : Cls X.K (T.ca c)) (na : NoAttr X.K (T.ca c) f) (h : QP T X o m) (hb : attributeBase o f X.env (eval o X.env) = eval o X.env := by rfl) : QP T X (.Attribute o f pos) (pFld c f m) := by
  obtain ⟨t, ht, q⟩ := h.ex
  refine ⟨_, pe_fld ht hb, fun σ H ρ F y Q E hm k => ?_⟩
  unfold pFld at hm
  cases hx : m ρ with
  | none => rw [hx] at hm; cases hm
  | some x =>
    rw [hx] at hm
    refine q σ H ρ F x _ E hx fun v g r sg => ?_
    dsimp only [Option.bind] at hm
    cases r with
    | @ins a dx c' fvs fs g1 ha hz he rs =>
      simp only [fldM] at hm
      split at hm
      · rename_i ec
        subst ec
        obtain ⟨w, g2, h1, h2, h3⟩ := lookupF he rs hm
        exact ⟨a, _, dx, fvs, w, rfl, ha, cl, na, h1, k w g2 h2 fun b hb => sg b (List.mem_cons_of_mem _ (h3 b hb))⟩
      · cases hm
    | @fro a dx c' fvs fs ha hz he al nl =>
      simp only [fldM] at hm
      split at hm
      · rename_i ec
        subst ec
        cases hl : fs.lookup f with
        | none => rw [hl] at hm; cases hm
        | some d =>
          rw [hl] at hm
          cases hm
          obtain ⟨w, h1, h2, h3⟩ := lookupD he al nl hl
          exact ⟨a, _, dx, fvs, w, rfl, ha, cl, na, h1, k w [] (.imm h2 h3) fun _ h => nomatch h⟩
      · cases hm
    | _ => cases hm
/-! ### tables of the module: a dict with texts as keys -/
structure KTab (K : PySem.W.Frag) (T : Tb) (w : World) (a : Addr) (tab : List (Str × M)) : Prop where
  dict : ∃ es n, KDict K w a es n
  has : ∀ z x, tab.lookup z = some x → ∃ u v, PySem.W.nsIn K a z = some (some u) ∧ RelV v u ∧ ∀ H, Rep K T H v x []
  not : ∀ z, tab.lookup z = none → PySem.W.nsIn K a z = some none
def tabM (tab : List (Str × M)) (m : MM PyData) : MM M := bindM m fun d => match d with | .str z => optM (tab.lookup z) | _ => fun _ => none
/-- TABLE[key] -/
theorem qx_tab {o : Expr} {a' : Addr} {tab : List (Str × M)} {m : MM PyData} (D : KTab X.K T X.w a' tab) (ho : PE X o (tC (.ref a'))) (h : QD T X W a m) (hs : PlainIx a) : QX T X W (.Subscript o a pos) (tabM tab m) := by
  obtain ⟨t, ht, q⟩ := h.ex
  refine ⟨_, pe_ix ix_kdict ho ht hs, fun σ H ρ F r Q E n hm k => ?_⟩
  unfold tabM bindM at hm
  cases hx : m ρ with
  | none => rw [hx] at hm; cases hm
  | some rx =>
    rw [hx] at hm
    refine q σ H ρ F rx _ E n hx ?_
    cases rx with
    | er c fs ρ1 => cases hm; exact k
    | ok d ρ1 =>
      intro v H1 F1 dp nl E1 n1 m1
      cases d with
      | str z =>
        cases dp
        dsimp only [optM] at hm
        cases hl : tab.lookup z with
        | none => rw [hl] at hm; cases hm
        | some x =>
          rw [hl] at hm
          cases hm
          obtain ⟨es, nn, kd⟩ := D.dict
          obtain ⟨u, w, h1, h2, h3⟩ := D.has z x hl
          exact ⟨a', z, w, rfl, rfl, ⟨es, nn, u, kd.at_, kd.lit, h1, h2⟩, k w H1 [] F1 (h3 H1) E1 n1 m1⟩
      | _ => cases hm
def oTabIn (tab : List (Str × M)) : PyData → Option PyData
  | .str z => some (.bool (tab.lookup z).isSome)
  | _ => none
def dTabIn (tab : List (Str × M)) (m : MM PyData) : MM PyData := bindM m fun d => optM (oTabIn tab d)
theorem ktab_in {K : PySem.W.Frag} {w : World} {a' : Addr} {tab : List (Str × M)} (D : KTab K T w a' tab) (z : Str) : ∃ r, PySem.W.nsIn K a' z = some r ∧ r.isSome = (tab.lookup z).isSome := by
  cases hl : tab.lookup z with
  | none => exact ⟨_, D.not z hl, rfl⟩
  | some x =>
    obtain ⟨u, v, h1, _⟩ := D.has z x hl
    exact ⟨_, h1, rfl⟩
/-- key in TABLE, key not in TABLE, as tests -/
theorem qt_tabIn {o : Expr} {a' : Addr} {tab : List (Str × M)} {m : MM PyData} (D : KTab X.K T X.w a' tab) (ho : PE X o (tC (.ref a'))) (h : QD T X W a m) (hmk : behindInMarks .In o = false := by rfl) : QT T X W (.Compare a [.In] [o] pos) (tM (dTabIn tab m)) := by
  obtain ⟨t, ht, q⟩ := h.ex
  obtain ⟨es, nn, kd⟩ := D.dict
  refine ⟨_, pt_cmpR (op_in_kd kd) ht ho hmk, fun σ H ρ F r Q E n hm k => ?_⟩
  unfold tM dTabIn bindM at hm
  cases hx : m ρ with
  | none => rw [hx] at hm; cases hm
  | some rx =>
    rw [hx] at hm
    refine q σ H ρ F rx _ E n hx ?_
    cases rx with
    | er c fs ρ1 => cases hm; exact k
    | ok d ρ1 =>
      intro v H1 F1 dp nl E1 n1 m1
      cases d with
      | str z =>
        cases dp
        cases hm
        obtain ⟨r, h1, h2⟩ := ktab_in D z
        exact ⟨z, r, rfl, rfl, h1, _, rfl, by rw [h2]; exact k H1 F1 E1 n1 m1⟩
      | _ => cases hm
def oTabNot (tab : List (Str × M)) : PyData → Option PyData
  | .str z => some (.bool (!(tab.lookup z).isSome))
  | _ => none
def dTabNot (tab : List (Str × M)) (m : MM PyData) : MM PyData := bindM m fun d => optM (oTabNot tab d)
theorem qt_tabNot {o : Expr} {a' : Addr} {tab : List (Str × M)} {m : MM PyData} (D : KTab X.K T X.w a' tab) (ho : PE X o (tC (.ref a'))) (h : QD T X W a m) (hmk : behindInMarks .NotIn o = false := by rfl) : QT T X W (.Compare a [.NotIn] [o] pos) (tM (dTabNot tab m)) := by
  obtain ⟨t, ht, q⟩ := h.ex
  obtain ⟨es, nn, kd⟩ := D.dict
  refine ⟨_, pt_cmpR (op_notIn_kd kd) ht ho hmk, fun σ H ρ F r Q E n hm k => ?_⟩
  unfold tM dTabNot bindM at hm
  cases hx : m ρ with
  | none => rw [hx] at hm; cases hm
  | some rx =>
    rw [hx] at hm
    refine q σ H ρ F rx _ E n hx ?_
    cases rx with
    | er c fs ρ1 => cases hm; exact k
    | ok d ρ1 =>
      intro v H1 F1 dp nl E1 n1 m1
      cases d with
      | str z =>
        cases dp
        cases hm
        obtain ⟨r, h1, h2⟩ := ktab_in D z
        exact ⟨z, r, rfl, rfl, h1, _, rfl, by rw [h2]; exact k H1 F1 E1 n1 m1⟩
      | _ => cases hm
/-! ### a call of a def that a name holds -/
theorem pe_callV {Φ : Nat → Sp} {n i k : Nat} {x : Str} {p : Pos} {t : TA} (A : ∀ j, j < n → Held X.prog X.w X.K X.mg X.base k (T.fa j) (Φ j)) (hr : Room k X.A) (hN : X.N[i]? = some x) (hv : Vis X.env.scope x) (ha : PA X (e :: es) t)
    (hdb : (x == ("__debug__" : Str)) = false := by decide) (hcd : (x == ("__classdict__" : Str)) = false := by decide)
    (he : starEach (e :: es) X.env = (false, eval e X.env) :: starEach es X.env := by rfl) (hpl : (backTo pos (starEach es X.env)).any (·.1) = false := by rfl) :
    PE X (.Call (.Name x p) (e :: es) [] pos) (fun σ H Q => ∃ j, j < n ∧ σ[i]? = some (some (.ref (T.fa j))) ∧ t σ H fun vs H1 => Φ j vs H1 Q (fun _ _ _ => False)) := by
  refine ⟨fun pins s σ H Q I h => ?_⟩
  obtain ⟨j, hj, hs, ht⟩ := h
  obtain ⟨fd, ps, F, hk, hb⟩ := (A j hj).ex
  refine (pe_callL (i := i) (f := T.fa j) (sp := Φ j) (dvs := []) (E := fun _ _ _ => False) F hr hN hv hk hb .nil (fun _ _ _ _ _ _ _ z => z.elim) ha hdb hcd he hpl).run pins s σ H Q I ⟨hs, ?_⟩
  have e0 : (fun (vs : List V) (H1 : Hp) => Φ j (vs ++ []) H1 Q (fun _ _ _ => False)) = fun vs H1 => Φ j vs H1 Q (fun _ _ _ => False) := by
    funext vs H1
    rw [List.append_nil]
  show t σ H (fun vs H1 => Φ j (vs ++ []) H1 Q (fun _ _ _ => False))
  rw [e0]
  exact ht
def xCallV (i n k : Nat) (Φ : Nat → List M → Option (Rs (List M) M)) (m : MM (List Aw)) : MM M := fun ρ => match ρ[i]? with
  | some (some (.fn j)) => if j < n then xCall k (Φ j) m ρ else none
  | _ => none
theorem qx_callV {i n k : Nat} {Φ : Nat → List M → Option (Rs (List M) M)} {m : MM (List Aw)} (mk : ∀ t, PA X es t → PE X e (fun σ H Q => ∃ j, j < n ∧ σ[i]? = some (some (.ref (T.fa j))) ∧ t σ H fun vs H1 => spX X.K T k (Φ j) vs H1 Q (fun _ _ _ => False))) (h : QAr T X W es m) : QX T X W e (xCallV i n k Φ m) := by
  obtain ⟨t, ht, q⟩ := h.ex
  refine ⟨_, mk t ht, fun σ H ρ F r Q En nd hm kk => ?_⟩
  unfold xCallV at hm
  split at hm
  · rename_i j hj
    split at hm
    · rename_i hlt
      obtain ⟨v, f, g1, rp, _⟩ := En.get hj
      cases rp
      refine ⟨j, hlt, g1, ?_⟩
      unfold xCall bindM at hm
      cases hx : m ρ with
      | none => rw [hx] at hm; cases hm
      | some rx =>
        rw [hx] at hm
        refine q σ H ρ F rx _ En nd hx ?_
        cases rx with
        | er c fs ρ1 => cases hm; exact kk
        | ok as ρ1 =>
          intro vs H1 fo F1 aw E1 nd1 m1
          dsimp only at hm
          cases htk : takes as ρ1 with
          | none => rw [htk] at hm; cases hm
          | some p =>
            obtain ⟨xs, ρ2⟩ := p
            rw [htk] at hm
            dsimp only at hm
            split at hm
            · rename_i hl
              exact call_go aw E1 nd1 m1 htk hl hm kk
            · cases hm
    · cases hm
  · cases hm
end
/-! ### comparisons, as a value and as a test -/
section
variable {K : PySem.W.Frag} {T : Tb} {X : Cx} {W : WXk} {e a b c o tg : Expr} {es rest : List Expr} {st : Stmt} {S : List Nat} {pos p2 : Pos}
structure QC (T : Tb) (X : Cx) (W : WXk) (e : Expr) (m : MM PyData) : Prop where
  ex : ∃ t : TE, PE X e t ∧ PT X e (tTest t) ∧ ∀ (σ : L2.St) (H : Hp) (ρ : Env') (F : List Addr) (r : Rs Env' PyData) (Q : VK), EnvR X.K T H σ ρ F → F.Nodup → m ρ = some r → GoD X.K T W H F σ r Q → t σ H Q
theorem qd_c {m : MM PyData} (h : QC T X W e m) : QD T X W e m := by
  obtain ⟨t, ht, _, q⟩ := h.ex
  exact ⟨t, ht, q⟩
theorem qt_c {m : MM PyData} (h : QC T X W e m) : QT T X W e (tM m) := by
  obtain ⟨t, h1, h2, q⟩ := h.ex
  refine ⟨_, h2, fun σ H ρ F r Q E n hm k => ?_⟩
  show t σ H fun x H' => ∃ k, x = .bl k ∧ Q k H'
  unfold tM bindM at hm
  cases hd : m ρ with
  | none => rw [hd] at hm; cases hm
  | some r1 =>
    rw [hd] at hm
    refine q σ H ρ F r1 _ E n hd ?_
    cases r1 with
    | ok d ρ1 =>
      cases d with
      | bool b =>
        cases hm
        intro v H' F' dp nl E' n' mv
        cases dp
        exact ⟨b, rfl, k H' F' E' n' mv⟩
      | _ => cases hm
    | er c fs ρ1 =>
      cases hm
      exact k
theorem qc_2 {op : CmpOp} {r : R2} {o : PyData → PyData → Option PyData} {ma mb : MM PyData} (ho : OpR X (compareOp op) r) (s : Snd2 X.K r o) (hm : behindInMarks op b = false) (ha : QD T X W a ma) (hb : QD T X W b mb) :
    QC T X W (.Compare a [op] [b] pos) (d2 o ma mb) := by
  obtain ⟨ta, h1, q1⟩ := ha.ex
  obtain ⟨tb, h2, q2⟩ := hb.ex
  refine ⟨tOp r ta tb, pe_cmpR ho h1 h2 hm, pt_cmpR ho h1 h2 hm, fun σ H ρ F res Q E n hm k => ?_⟩
  unfold d2 bindM at hm
  cases hx : ma ρ with
  | none => rw [hx] at hm; cases hm
  | some rx =>
    rw [hx] at hm
    refine q1 σ H ρ F rx _ E n hx ?_
    cases rx with
    | er c fs ρ1 => cases hm; exact k
    | ok x ρ1 =>
      intro u H1 F1 d1 n1 E1 nd1 m1
      dsimp only at hm
      cases hy : mb ρ1 with
      | none => rw [hy] at hm; cases hm
      | some ry =>
        rw [hy] at hm
        refine q2 σ H1 ρ1 F1 ry _ E1 nd1 hy ?_
        cases ry with
        | er c fs ρ2 => cases hm; exact XOk.from k m1
        | ok y ρ2 =>
          intro v H2 F2 d2 n2 E2 nd2 m2
          dsimp only [optM] at hm
          cases hz : o x y with
          | none => rw [hz] at hm; cases hm
          | some z =>
            rw [hz] at hm
            cases hm
            refine s H2 u v x y z Q (dp_keepX (m2.c.kp (g := []) E1.wr (fun _ h => nomatch h)).x n1 d1) n1 d2 n2 hz fun w H3 s3 dz nz => ?_
            exact k w H3 F2 dz nz (E2.same s3) nd2 ((m1.trans m2).trans (Mv.same s3 fun _ h => h))
/-- a in a list -/
def inL (neg : Bool) (a : PyData) (x : M) : Option PyData := match lstL x with
  | some ds => (inB a ds).map fun c => .bool (if neg then !c else c)
  | none => none
theorem inL_ok {H : Hp} {u v : V} {p z : PyData} {x : M} {f : List Addr} {neg : Bool} {Q : VK} (dx : Dq K H u p) (r : Rep K T H v x f) (h : inL neg p x = some z) (k : ∀ v, Dq K H v z → noL z = true → Q v H) : rIn K neg u v H Q := by
  unfold inL at h
  split at h
  · rename_i ds hl
    cases hc : inB p ds with
    | none => rw [hc] at h; cases h
    | some c =>
      rw [hc] at h
      cases h
      obtain ⟨a, vs, rfl, s, al, nl⟩ := lstL_dp r hl
      obtain ⟨h1, h2, rfl⟩ := inB_ok dx al hc
      exact ⟨a, vs, rfl, .inl s, h1, h2, k _ (.bl _) rfl⟩
  · cases h
def dInX (neg : Bool) (m : MM PyData) (k : MM M) : MM PyData := bindM m fun d => bindM k fun x => optM (inL neg d x)
theorem qc_inX {op : CmpOp} {neg : Bool} {m : MM PyData} {mk : MM M} (ho : OpR X (compareOp op) (rIn X.K neg)) (hmk : behindInMarks op b = false) (ha : QD T X W a m) (hb : QX T X W b mk) : QC T X W (.Compare a [op] [b] pos) (dInX neg m mk) := by
  obtain ⟨ta, h1, q1⟩ := ha.ex
  obtain ⟨tb, h2, q2⟩ := hb.ex
  refine ⟨tOp _ ta tb, pe_cmpR ho h1 h2 hmk, pt_cmpR ho h1 h2 hmk, fun σ H ρ F res Q E n hm k => ?_⟩
  unfold dInX bindM at hm
  cases hx : m ρ with
  | none => rw [hx] at hm; cases hm
  | some rx =>
    rw [hx] at hm
    refine q1 σ H ρ F rx _ E n hx ?_
    cases rx with
    | er c fs ρ1 => cases hm; exact k
    | ok x ρ1 =>
      intro u H1 F1 d1 n1 E1 nd1 m1
      dsimp only at hm
      cases hy : mk ρ1 with
      | none => rw [hy] at hm; cases hm
      | some ry =>
        rw [hy] at hm
        refine q2 σ H1 ρ1 F1 ry _ E1 nd1 hy ?_
        cases ry with
        | er c fs ρ2 => cases hm; exact XOk.from k m1
        | ok y ρ2 =>
          intro v H2 f2 F2 r2 E2 nd2 m2
          dsimp only [optM] at hm
          cases hz : inL neg x y with
          | none => rw [hz] at hm; cases hm
          | some z =>
            rw [hz] at hm
            cases hm
            refine inL_ok (dp_keepX (m2.c.kp (g := []) E1.wr (fun _ h => nomatch h)).x n1 d1) r2 hz fun w dz nz => ?_
            exact k w H2 F2 dz nz E2 (List.nodup_append.mp nd2).2.1 ((m1.trans m2).sub fun _ h => List.mem_append_right _ h)
def dInP (neg : Bool) (m : MM PyData) (k : Env' → Option M) : MM PyData := bindM m fun d ρ => ((k ρ).bind fun x => inL neg d x).map fun z => .ok z ρ
theorem qc_inP {op : CmpOp} {neg : Bool} {m : MM PyData} {mk : Env' → Option M} (ho : OpR X (compareOp op) (rIn X.K neg)) (hmk : behindInMarks op b = false) (ha : QD T X W a m) (hb : QP T X b mk) : QC T X W (.Compare a [op] [b] pos) (dInP neg m mk) := by
  obtain ⟨ta, h1, q1⟩ := ha.ex
  obtain ⟨tb, h2, q2⟩ := hb.ex
  refine ⟨tOp _ ta tb, pe_cmpR ho h1 h2 hmk, pt_cmpR ho h1 h2 hmk, fun σ H ρ F res Q E n hm k => ?_⟩
  unfold dInP bindM at hm
  cases hx : m ρ with
  | none => rw [hx] at hm; cases hm
  | some rx =>
    rw [hx] at hm
    refine q1 σ H ρ F rx _ E n hx ?_
    cases rx with
    | er c fs ρ1 => cases hm; exact k
    | ok x ρ1 =>
      intro u H1 F1 d1 n1 E1 nd1 m1
      dsimp only at hm
      cases hy : mk ρ1 with
      | none => rw [hy] at hm; cases hm
      | some y =>
        rw [hy] at hm
        dsimp only [Option.bind] at hm
        refine q2 σ H1 ρ1 F1 y _ E1 hy fun v f r _ => ?_
        cases hz : inL neg x y with
        | none => rw [hz] at hm; cases hm
        | some z =>
          rw [hz] at hm
          cases hm
          exact inL_ok d1 r hz fun w dz nz => k w H1 F1 dz nz E1 nd1 m1
/-! ### constants of the module -/
mutual
inductive KLit (K : PySem.W.Frag) : Value → PyData → Prop
  | none : KLit K .none .none
  | bool (b : Bool) : KLit K (.bool b) (.bool b)
  | int (i : Int) (t : Tok) : KLit K (.int i t) (.int i)
  | str (s : Str) (t : Tok) : KLit K (.str s t) (.str s)
  | tup {a : Addr} {its : Array Value} {n : Nat} {sl : Array (Option Value)} {us : List Value} {ds : List PyData} : K.lookup a = some ⟨.type "tuple", none, .seq its n, sl⟩ → its.toList = us → us.length ≤ 1000 → KLits K us ds → KLit K (.ref a) (.tuple ds)
inductive KLits (K : PySem.W.Frag) : List Value → List PyData → Prop
  | nil : KLits K [] []
  | cons {u : Value} {d : PyData} {us : List Value} {ds : List PyData} : KLit K u d → KLits K us ds → KLits K (u :: us) (d :: ds)
end
mutual
theorem KLit.dp : ∀ {u : Value} {d : PyData}, KLit K u d → ∃ v, RelV v u ∧ (∀ H, Dq K H v d) ∧ noL d = true
  | _, _, .none => ⟨.non, rfl, fun _ => .non, rfl⟩
  | _, _, .bool b => ⟨.bl b, rfl, fun _ => .bl b, rfl⟩
  | _, _, .int i t => ⟨.int i, ⟨t, rfl⟩, fun _ => .int i, rfl⟩
  | _, _, .str s t => ⟨.str s, ⟨t, rfl⟩, fun _ => .str s, rfl⟩
  | _, _, .tup (a := a) (its := its) (n := n) h e hl r => by
    obtain ⟨vs, h1, h2, h3⟩ := KLits.dp r
    refine ⟨.ref a, rfl, fun H => .tup (.inr ⟨_, its, n, h, ⟨rfl, rfl⟩, rfl, ?_, ?_⟩) (h2 H), by simpa [noL] using h3⟩
    · have : its.size = its.toList.length := by simp
      rw [this, e]
      exact Nat.le_trans hl (by decide)
    · rw [e]
      exact h1
theorem KLits.dp : ∀ {us : List Value} {ds : List PyData}, KLits K us ds → ∃ vs, Vals vs us ∧ (∀ H, DqAll K H vs ds) ∧ noLs ds = true
  | _, _, .nil => ⟨[], .nil, fun _ => .nil, rfl⟩
  | _, _, .cons a r => by
    obtain ⟨v, h1, h2, h3⟩ := KLit.dp a
    obtain ⟨vs, g1, g2, g3⟩ := KLits.dp r
    exact ⟨v :: vs, .cons h1 g1, fun H => .cons (h2 H) (g2 H), by simp [noLs, h3, g3]⟩
end
theorem qe_k {x : Str} {u : Value} {d : PyData} (hg : Gl X x) (hm : X.mg x = some u) (q : KLit X.K u d) (hd : (x == ("__debug__" : Str)) = false := by decide) : QE T X (.Name x pos) (eC d) := by
  obtain ⟨v, h1, h2, h3⟩ := q.dp
  exact qe_c (pe_glob hg hm h1 hd) h2 h3
def KeysAre : List DictEntry → List Str → Prop
  | [], [] => True
  | e :: r, k :: ks => (∃ t, e.key = .str k t) ∧ KeysAre r ks
  | _, _ => False
theorem key_miss {w : World} {a : Addr} {es : Array DictEntry} {n : Nat} {ks : List Str} {x : Str} (D : KDict K w a es n) (g : KeysAre es.toList ks) (h : ¬ x ∈ ks) : PySem.W.nsIn K a x = some none := by
  have go : ∀ (l : List DictEntry) (ks : List Str), KeysAre l ks → ¬ x ∈ ks → l.find? (·.key.isStr x) = none ∧ l.any (·.refKey) = false := by
    intro l
    induction l with
    | nil => exact fun _ _ _ => ⟨rfl, rfl⟩
    | cons e r ih =>
      intro ks g h
      cases ks with
      | nil => exact absurd g id
      | cons k ks =>
        obtain ⟨⟨t, hk⟩, g2⟩ := g
        obtain ⟨h1, h2⟩ := ih ks g2 fun m => h (List.mem_cons_of_mem _ m)
        have hne : (k == x) = false := beq_eq_false_iff_ne.mpr fun e => h (by rw [e]; exact List.mem_cons_self)
        have hs : e.key.isStr x = false := by
          rw [hk]
          exact hne
        have hr : e.refKey = false := by
          unfold DictEntry.refKey
          rw [hk]
        refine ⟨?_, ?_⟩
        · rw [List.find?_cons_of_neg (by rw [hs]; exact Bool.false_ne_true)]
          exact h1
        · rw [List.any_cons, hr, h2]
          rfl
  obtain ⟨h1, h2⟩ := go es.toList ks g h
  unfold PySem.W.nsIn
  rw [D.at_]
  dsimp only
  rw [h1]
  dsimp only
  rw [h2]
  rfl
inductive KEnts (K : PySem.W.Frag) (T : Tb) (a : Addr) : List (Str × M) → Prop
  | nil : KEnts K T a []
  | dat {z : Str} {u : Value} {d : PyData} {r : List (Str × M)} : PySem.W.nsIn K a z = some (some u) → KLit K u d → KEnts K T a r → KEnts K T a ((z, .imm d) :: r)
  | fn {z : Str} {k : Nat} {r : List (Str × M)} : PySem.W.nsIn K a z = some (some (.ref (T.fa k))) → KEnts K T a r → KEnts K T a ((z, .fn k) :: r)
theorem ktab_mk {w : World} {a : Addr} {es : Array DictEntry} {n : Nat} {tab : List (Str × M)} (D : KDict K w a es n) (g : KeysAre es.toList (tab.map Prod.fst)) (e : KEnts K T a tab) : KTab K T w a tab := by
  refine ⟨⟨es, n, D⟩, fun z x h => ?_, fun z h => key_miss D g fun hm => ?_⟩
  · clear g
    induction e with
    | nil => cases h
    | @dat z' u d r h1 h2 _ ih =>
      rw [List.lookup_cons] at h
      cases hz : z == z' with
      | true =>
        rw [hz] at h
        cases h
        obtain ⟨v, g1, g2, g3⟩ := h2.dp
        exact ⟨u, v, (eq_of_beq hz) ▸ h1, g1, fun H => .imm (g2 H) g3⟩
      | false =>
        rw [hz] at h
        exact ih h
    | @fn z' k r h1 _ ih =>
      rw [List.lookup_cons] at h
      cases hz : z == z' with
      | true =>
        rw [hz] at h
        cases h
        exact ⟨_, .ref (T.fa k), (eq_of_beq hz) ▸ h1, rfl, fun H => .fn⟩
      | false =>
        rw [hz] at h
        exact ih h
  · clear g e D
    induction tab with
    | nil => cases hm
    | cons p r ih =>
      obtain ⟨z', x⟩ := p
      rw [List.lookup_cons] at h
      rw [List.map_cons] at hm
      cases hz : z == z' with
      | true => rw [hz] at h; cases h
      | false =>
        rw [hz] at h
        rcases List.mem_cons.mp hm with e | e
        · rw [e] at hz
          simp at hz
        · exact ih h e
/-! ### tuple(x) of a list -/
def oTupL (x : M) : Option PyData := match x with
  | .lst _ => (lstL x).map .tuple
  | .imm (.tuple ds) => some (.tuple ds)
  | _ => none
abbrev rTupO (K : PySem.W.Frag) : List V → Hp → VK → Prop := fun xs H Q => ∃ p ys, xs = [.ref p] ∧ ((SqL K H p ys ∧ ∀ (l : Addr) (o : Obj), H l = none → TupO o → Q (.ref l) (upd H l (.frz o (.tup ys)))) ∨ (SqT K H p ys ∧ Q (.ref p) H))
theorem oTupL_ok {H : Hp} {v : V} {x : M} {f : List Addr} {z : PyData} {Q : VK} (r : Rep K T H v x f) (h : oTupL x = some z) (k : ∀ v H', Same H H' → Dq K H' v z → noL z = true → Q v H') : rTupO K [v] H Q := by
  cases x with
  | lst xs =>
    simp only [oTupL] at h
    cases hl : lstL (.lst xs) with
    | none => rw [hl] at h; cases h
    | some ds =>
      rw [hl] at h
      cases h
      obtain ⟨a, vs, rfl, s, al, nl⟩ := lstL_dp r hl
      refine ⟨a, vs, rfl, .inl ⟨s, fun l ob nl' to => ?_⟩⟩
      obtain ⟨s2, d2⟩ := newT (K := K) nl' to nl al
      exact k _ _ s2 d2 (by simpa [noL] using nl)
  | imm d =>
    cases d with
    | tuple ds =>
      cases h
      cases r with
      | imm dp nl =>
        obtain ⟨a, vs, rfl, s, al⟩ := dp_tupX dp
        exact ⟨a, vs, rfl, .inr ⟨s.sq, k _ H (Same.refl H) dp nl⟩⟩
    | _ => cases h
  | _ => cases h
def dTupX (m : MM M) : MM PyData := bindM m fun x => optM (oTupL x)
theorem qd_tupX {p : Pos} {m : MM M} (h : QX T X W a m) (hg : Gl X "tuple") (hz : X.mg "tuple" = none) (hs : starEach [a] X.env = (false, eval a X.env) :: starEach [] X.env := by rfl) : QD T X W (.Call (.Name "tuple" p) [a] [] pos) (dTupX m) := by
  obtain ⟨t, ht, q⟩ := h.ex
  refine ⟨_, pe_callTy call_tupleZ hg hz (by decide +kernel) (pa_cons ht pa_nil hs) (he := hs), fun σ H ρ F r Q E n hm k => ?_⟩
  unfold dTupX bindM at hm
  cases hd : m ρ with
  | none => rw [hd] at hm; cases hm
  | some r1 =>
    rw [hd] at hm
    refine q σ H ρ F r1 _ E n hd ?_
    cases r1 with
    | er c fs ρ1 => cases hm; exact k
    | ok x ρ1 =>
      intro v H' f F' rp E' n' mv
      dsimp only [optM] at hm
      cases hz : oTupL x with
      | none => rw [hz] at hm; cases hm
      | some z =>
        rw [hz] at hm
        cases hm
        exact oTupL_ok rp hz fun w H2 s2 dz nz => k w H2 F' dz nz (E'.same s2) (List.nodup_append.mp n').2.1 ((mv.trans (Mv.same s2 fun _ h => h)).sub fun _ h => List.mem_append_right _ h)
def eTupP (m : Env' → Option M) : Env' → Option PyData := fun ρ => (m ρ).bind oTupL
theorem qe_tupP {p : Pos} {m : Env' → Option M} (h : QP T X a m) (hg : Gl X "tuple") (hz : X.mg "tuple" = none) (hs : starEach [a] X.env = (false, eval a X.env) :: starEach [] X.env := by rfl) : QE T X (.Call (.Name "tuple" p) [a] [] pos) (eTupP m) := by
  obtain ⟨t, ht, q⟩ := h.ex
  refine ⟨_, pe_callTy call_tupleZ hg hz (by decide +kernel) (pa_cons ht pa_nil hs) (he := hs), fun σ H ρ F d Q E hm k => ?_⟩
  unfold eTupP at hm
  cases hd : m ρ with
  | none => rw [hd] at hm; cases hm
  | some x =>
    rw [hd] at hm
    exact q σ H ρ F x _ E hd fun v f r _ => oTupL_ok r hm fun w H2 s2 dz nz => k w H2 s2 dz nz
end
/-! ### further rules -/
section
variable {K : PySem.W.Frag} {T : Tb} {X : Cx} {W : WXk} {e a b c o tg : Expr} {es rest : List Expr} {st : Stmt} {S : List Nat} {pos p2 : Pos}
abbrev oIpAdd : PyData → PyData → Option PyData := oI fun a b => some (.int (a + b))
abbrev oIpSub : PyData → PyData → Option PyData := oI fun a b => some (.int (a - b))
theorem fn_none_d {P : Program} {w : World} {mg : Str → Option Value} {base : Heap} {f : Addr} {fd : FuncData} {ps : List Str} {k n : Nat} : FnOk P w K mg base CX0 k f fd ps (spD K n fun _ => none) := by
  have no : ∀ vs H Q E, ¬ spD K n (fun _ => none) vs H Q E := fun vs H Q E h => by
    obtain ⟨ds, r, _, _, _, h, _⟩ := h
    cases h
  exact ⟨fun vs H Q E h => absurd h (no vs H Q E), fun A outer s H args us vs Q E _ _ _ _ h => absurd h (no vs H Q E)⟩
theorem fn_none_x {P : Program} {w : World} {mg : Str → Option Value} {base : Heap} {f : Addr} {fd : FuncData} {ps : List Str} {k n : Nat} : FnOk P w K mg base CX0 k f fd ps (spX K T n fun _ => none) := by
  have no : ∀ vs H Q E, ¬ spX K T n (fun _ => none) vs H Q E := fun vs H Q E h => by
    obtain ⟨ds, F, r, _, _, _, h, _⟩ := h
    cases h
  exact ⟨fun vs H Q E h => absurd h (no vs H Q E), fun A outer s H args us vs Q E _ _ _ _ h => absurd h (no vs H Q E)⟩
def eCall0 (mf : List PyData → Option PyData) : Env' → Option PyData := fun _ => mf []
theorem qe_call0 {mf : List PyData → Option PyData} {E : XK} (ht : PE X e (tCall (spD X.K 0 mf) [] E tNil)) : QE T X e (eCall0 mf) := by
  refine ⟨_, ht, fun σ H ρ F d Q En hm kk => ?_⟩
  exact ⟨[], d, .nil, rfl, rfl, hm, fun v H2 s2 => kk v H2 s2⟩
/-- a op1 b op2 c -/
def dChain (o1 o2 : PyData → PyData → Option PyData) (ma mb mc : MM PyData) : MM PyData := bindM ma fun x => bindM mb fun y => bindM (optM (o1 x y)) fun z => match z with
  | .bool true => bindM mc fun w => optM (o2 y w)
  | .bool false => pureM (.bool false)
  | _ => fun _ => none
theorem qc_chain {op1 op2 : CmpOp} {r1 r2 : R2} {o1 o2 : PyData → PyData → Option PyData} {ma mb mc : MM PyData} (h1 : OpR X (compareOp op1) r1) (s1 : Snd2 X.K r1 o1) (h2 : OpR X (compareOp op2) r2) (s2 : Snd2 X.K r2 o2)
    (ha : QD T X W a ma) (hb : QD T X W b mb) (hc : QD T X W c mc) (hmk : lastMarks [op1, op2] [b, c] = false := by with_unfolding_all rfl) : QC T X W (.Compare a [op1, op2] [b, c] pos) (dChain o1 o2 ma mb mc) := by
  obtain ⟨ta, ha, q1⟩ := ha.ex
  obtain ⟨tb, hb, q2⟩ := hb.ex
  obtain ⟨tc, hc, q3⟩ := hc.ex
  refine ⟨tChain r1 r2 ta tb tc, pe_chain h1 h2 ha hb hc hmk, pt_chain h1 h2 ha hb hc hmk, fun σ H ρ F res Q E n hm k => ?_⟩
  unfold dChain bindM at hm
  cases hx : ma ρ with
  | none => rw [hx] at hm; cases hm
  | some rx =>
    rw [hx] at hm
    refine q1 σ H ρ F rx _ E n hx ?_
    cases rx with
    | er c fs ρ1 => cases hm; exact k
    | ok x ρ1 =>
      intro u H1 F1 d1 n1 E1 nd1 m1
      dsimp only at hm
      cases hy : mb ρ1 with
      | none => rw [hy] at hm; cases hm
      | some ry =>
        rw [hy] at hm
        refine q2 σ H1 ρ1 F1 ry _ E1 nd1 hy ?_
        cases ry with
        | er c fs ρ2 => cases hm; exact XOk.from k m1
        | ok y ρ2 =>
          intro v H2 F2 d2 n2 E2 nd2 m2
          dsimp only [optM] at hm
          cases hz : o1 x y with
          | none => rw [hz] at hm; cases hm
          | some z =>
            rw [hz] at hm
            dsimp only [Option.map] at hm
            have kx := (m2.c.kp (g := []) E1.wr (fun _ h => nomatch h)).x
            refine s1 H2 u v x y z _ (dp_keepX kx n1 d1) n1 d2 n2 hz fun w H3 s3 dz nz => ?_
            have m3 := (m1.trans m2).trans (Mv.same s3 fun _ h => h)
            cases z with
            | bool bb =>
              cases dz
              refine ⟨bb, rfl, ?_⟩
              cases bb with
              | false =>
                rw [if_neg Bool.false_ne_true]
                cases hm
                exact k _ H3 F2 (.bl false) rfl (E2.same s3) nd2 m3
              | true =>
                rw [if_pos rfl]
                dsimp only at hm
                cases hw : mc ρ2 with
                | none => rw [hw] at hm; cases hm
                | some rw' =>
                  rw [hw] at hm
                  refine q3 σ H3 ρ2 F2 rw' _ (E2.same s3) nd2 hw ?_
                  cases rw' with
                  | er c fs ρ3 => cases hm; exact XOk.from k m3
                  | ok w2 ρ3 =>
                    intro w' H4 F4 d4 n4 E4 nd4 m4
                    dsimp only [optM] at hm
                    cases hz2 : o2 y w2 with
                    | none => rw [hz2] at hm; cases hm
                    | some z2 =>
                      rw [hz2] at hm
                      cases hm
                      have ky := (m4.c.kp (g := []) (E2.same s3).wr (fun _ h => nomatch h)).x
                      exact s2 H4 v w' y w2 z2 Q (dp_keepX ky n2 (dpAll_keepX s3 n2 d2)) n2 d4 n4 hz2 fun w5 H5 s5 dz5 nz5 => k w5 H5 F4 dz5 nz5 (E4.same s5) nd4 ((m3.trans m4).trans (Mv.same s5 fun _ h => h))
            | _ => cases hm
/-! #### an instance that is never changed again -/
def spNew (C : Addr) (names : List Str) : Sp := fun vs H Q _ => ∃ (a dx : Addr) (us : List V), vs = .ref a :: us ∧ us.length = names.length ∧ H a = some (.ins C dx []) ∧ Q .non (upd H a (.ins C dx (names.zip us)))
def xNew (c : Nat) (names : List Str) (m : MM (List PyData)) : MM M := bindM m fun ds => optM (if ds.length = names.length then some (.fro c (names.zip ds)) else none)
theorem zip_fst {α β : Type} : ∀ {ns : List α} {xs : List β}, xs.length = ns.length → (ns.zip xs).map Prod.fst = ns
  | [], [], _ => rfl
  | [], _ :: _, h => by simp at h
  | _ :: _, [], h => by simp at h
  | n :: ns, x :: xs, h => by
    rw [List.zip_cons_cons, List.map_cons, zip_fst (by simpa using h)]
theorem zip_snd {α β : Type} : ∀ {ns : List α} {xs : List β}, xs.length = ns.length → (ns.zip xs).map Prod.snd = xs
  | [], [], _ => rfl
  | [], _ :: _, h => by simp at h
  | _ :: _, [], h => by simp at h
  | n :: ns, x :: xs, h => by
    rw [List.zip_cons_cons, List.map_cons, zip_snd (by simpa using h)]
theorem qx_new {c : Nat} {names : List Str} {m : MM (List PyData)} {E : XK} (hz : T.fz c = true) (mk : ∀ t, PA X es t → PE X e (tMake (T.ca c) (spNew (T.ca c) names) [] E t)) (h : QA T X W es m) : QX T X W e (xNew c names m) := by
  obtain ⟨t, ht, q⟩ := h.ex
  refine ⟨_, mk t ht, fun σ H ρ F r Q En n hm kk => ?_⟩
  unfold xNew bindM at hm
  cases hx : m ρ with
  | none => rw [hx] at hm; cases hm
  | some rx =>
    rw [hx] at hm
    refine q σ H ρ F rx _ En n hx ?_
    cases rx with
    | er c fs ρ1 => cases hm; exact kk
    | ok ds ρ1 =>
      intro vs H1 F1 d1 n1 E1 nd1 m1
      dsimp only [optM] at hm
      split at hm
      · rename_i hl
        cases hm
        intro x dx hx0 hd0 ne
        have hlv : vs.length = names.length := by rw [dpAll_len d1]; exact hl
        rw [List.append_nil]
        refine ⟨x, dx, vs, rfl, hlv, upd_same, rfl, ?_⟩
        rw [upd_upd]
        have s2 : Same H1 (upd (upd H1 dx (.own x)) x (.ins (T.ca c) dx (names.zip vs))) := fun b u hb => by
          rw [upd_ne (ne_of_none hb hx0), upd_ne (ne_of_none hb hd0)]
          exact hb
        refine kk _ _ [] F1 (.fro upd_same hz ?_ ?_ ?_) (E1.same s2) nd1 (m1.trans (Mv.same s2 fun _ h => h))
        · rw [zip_fst hlv, zip_fst hl]
        · rw [zip_snd hlv, zip_snd hl]
          exact dp_keepXs (fun a o xs g => s2 _ _ g) n1 d1
        · rw [zip_snd hl]
          exact n1
      · cases hm
end
/-! ### the law -/
def spLaw (K : PySem.W.Frag) : Sp := fun vs H Q _ => ∃ (a : Addr) (ns : List Int), vs = [.ref a] ∧ ScrAt K H a (ns.map V.int) ∧ ns.length ≤ 63 ∧ (∀ z ∈ ns, Builtin.Int.intBits z ≤ 1048576) ∧ ∀ H', Q (.bl true) H'
theorem scr_of {K : PySem.W.Frag} {H : Hp} {a : Addr} {xs : List V} (o : Only H) (h : SqL K H a xs) : ScrAt K H a xs := by
  rcases h with (h | ⟨o', h⟩) | h
  · rcases o a with z | ⟨_, _, z⟩
    · rw [z] at h
      cases h
    · rw [z] at h
      cases h
  · exact .inl ⟨o', h⟩
  · exact .inr h
theorem law_imp {P : Program} {w : World} {K : PySem.W.Frag} {T : Tb} {mg : Str → Option Value} {base : Heap} {f : Addr} {fd : FuncData} {ps : List Str} {k : Nat} {m : List M → Option (Rs (List M) M)}
    (hm : ∀ ns : List Int, ns.length ≤ 63 → (∀ z ∈ ns, Builtin.Int.intBits z ≤ 1048576) → ∃ ys, m [.scr ns] = some (.ok (.imm (.bool true)) ys)) (F : FnOk P w K mg base CX0 k f fd ps (spX K T 1 m)) : FnOk P w K mg base CX0 k f fd ps (spLaw K) :=
  F.imp fun vs H Q E h => by
    obtain ⟨a, ns, rfl, hs, h63, hb, q⟩ := h
    obtain ⟨ys, e⟩ := hm ns h63 hb
    exact ⟨[.scr ns], [], _, .cons (f := []) (.scr hs) .nil, List.nodup_nil, rfl, e, fun v H' f F' rp _ _ _ => by
      cases rp with
      | imm dp _ =>
        cases dp
        exact q H'⟩
/-! ### enumerate(tuple) -/
section
open PySem.Spec PyProof.Rows
set_option maxHeartbeats 4000000 in
theorem meets_enum_tup (l : Addr) (items : Array Value) :
    Meets (Builtin.«enumerate.__new__» ⟨[.type "enumerate", .ref l], []⟩) (fun _ R s => s.heap.IsTuple l items ∧
      R (.ok (.ret (.ref (s.heap.push { cls := .type "tuple_iterator", data := .fields #[.ref l, .int 0 0] }).objs.size)))
        { s with heap := (s.heap.push { cls := .type "tuple_iterator", data := .fields #[.ref l, .int 0 0] }).push { cls := .type "enumerate", data := .fields #[.none, .bool false, .ref s.heap.objs.size, rawInt 0, .none, .none] } }) :=
  .of_wp fun prog w A R s h => by
    obtain ⟨hp, g, d, tk, os⟩ := s
    obtain ⟨hl, h⟩ := h
    have hsub := sub_enumerate
    have q1 : ∀ {A' : Around} {E : Value → Shared → Prop} {Q : Value → Shared → Prop}, Q (.ref hp.objs.size) ⟨hp.push { cls := .type "tuple_iterator", data := .fields #[.ref l, .int 0 0] }, g, d, tk, os⟩ → wpAny (model prog w) A' (pyIter (.ref l)) Q E ⟨hp, g, d, tk, os⟩ :=
      fun q => wpAny_pyIter_tuple (s := ⟨hp, g, d, tk, os⟩) hl q
    wp_walk using q1
    refine wpAny_stack_any fun st => wpAny_pure ?_
    split
    · rename_i c _ _ _ _ _
      cases (c == Value.type "enumerate")
      · wp_walk using q1
        exact ⟨_, rfl, h⟩
      · wp_walk using q1
        exact ⟨_, rfl, h⟩
    · wp_walk using q1
      exact ⟨_, rfl, h⟩
theorem call_enum_tup {prog : Program} {w : World} {A : Around} {E : Value → Shared → Prop} {s : Shared} {l : Addr} {items : Array Value} {Q : Value → Shared → Prop} (hL : s.heap.IsTuple l items)
    (h : ∀ h', IsEnum h' (s.heap.objs.size + 1) s.heap.objs.size 0 .none → h'.IsTupleIter s.heap.objs.size l 0 →
      (∀ b o, s.heap.get? b = some o → h'.get? b = some o) → Q (.ref (s.heap.objs.size + 1)) { s with heap := h' }) :
    wpAny (model prog w) A (call (.type "enumerate") [.ref l]) Q E s := by
  refine callType_new F.called_enumerate (by decide) (F.typeCall_enumerate_1 _) (F.newCall_enumerate_1 _) (fun obj => F.args_object_init_2 obj _) F.entry_enumerate_new
    (meets_enum_tup l items) ⟨hL, ?_⟩
  have hz : (s.heap.push { cls := .type "tuple_iterator", data := .fields #[.ref l, .int 0 0] }).objs.size = s.heap.objs.size + 1 := Heap.size_push ..
  show _ ∧ _
  rw [hz]
  have he : IsEnum ((s.heap.push { cls := .type "tuple_iterator", data := .fields #[.ref l, .int 0 0] }).push
      { cls := .type "enumerate", data := .fields #[.none, .bool false, .ref s.heap.objs.size, rawInt 0, .none, .none] }) (s.heap.objs.size + 1) s.heap.objs.size 0 .none := by
    have := Heap.get?_push_size (s.heap.push { cls := .type "tuple_iterator", data := .fields #[.ref l, .int 0 0] })
      (o := { cls := .type "enumerate", data := .fields #[.none, .bool false, .ref s.heap.objs.size, rawInt 0, .none, .none] }) rfl
    rw [hz] at this; exact this
  refine ⟨⟨_, he, rfl⟩, h _ he ⟨_, Heap.get?_push_of_some _ (Heap.get?_push_size _ rfl), rfl, rfl⟩ fun b o x => Heap.get?_push_of_some _ (Heap.get?_push_of_some _ x)⟩
/-- the tuple at a, each item in a new pair -/
def IteT (K : PySem.W.Frag) (a : Addr) : It :=
  ⟨fun i H => ∃ (xs : List V) (x : V), SqT K H a xs ∧ xs[i]? = some x, fun i H v H' => ∃ T x ob, v = .ref T ∧ H T = none ∧ TupO ob ∧ H' = upd H T (.frz ob (.tup [.int (i : Nat), x])) ∧ ∀ xs, SqT K H a xs → xs[i]? = some x, fun i H => ∃ xs : List V, SqT K H a xs ∧ xs.length ≤ i⟩
theorem turn_enumT {P : Program} {w : World} {K : PySem.W.Frag} {elts : List Expr} {kk : Nat} {tpos : Pos} (a e it : Addr) :
    Turn P w K (.Tuple elts kk tpos) (IteT K a) [e, it] e (fun i h => (∃ old, IsEnum h e it ((i : Nat) : Int) old) ∧ h.IsTupleIter it a i ∧ e ≠ it) where
  mem := by simp
  obj := fun i h st b hb => by
    obtain ⟨⟨old, he⟩, ⟨o, ho, hc, hd⟩, _⟩ := st
    have e' : b = e ∨ b = it := by simpa using hb
    rcases e' with z | z
    · rw [z]; exact ⟨_, he, fun v q => nomatch q⟩
    · rw [z]; exact ⟨o, ho, fun v q => by rw [hd] at q; cases q⟩
  keep := fun i h h' st k => let ⟨⟨old, he⟩, hi, hne⟩ := st; ⟨⟨old, k e (by simp) _ he⟩, hi.at fun o q => k it (by simp) o q, hne⟩
  item := by
    intro X hP hw hK hc i pins s σ H E I hf st hg
    subst hP hw hK
    obtain ⟨⟨old, he⟩, hit, hne⟩ := st
    obtain ⟨xs, x, hq, hx⟩ := hg
    obtain ⟨its, rv, p, hz⟩ := I.tuple hq
    obtain ⟨u, hu, ru⟩ := rv.get hx
    have p : s.heap.IsTuple a its.toArray := p
    have hel : e < s.heap.objs.size := Heap.lt_size he
    have hil : it < s.heap.objs.size := by obtain ⟨_, q, _⟩ := hit; exact Heap.lt_size q
    have hea : a ≠ e := fun z => by
      obtain ⟨o, ho, hc', _⟩ := p
      rw [z] at ho
      have e' := Option.some.inj (ho.symm.trans he)
      rw [e'] at hc'
      have hc2 : Value.type "enumerate" = Value.type "tuple" := hc'
      injection hc2 with hc3
      exact absurd hc3 (by decide)
    have hia : a ≠ it := fun z => by
      obtain ⟨o, ho, hc', _⟩ := p
      obtain ⟨o2, ho2, hc2, _⟩ := hit
      rw [z] at ho
      have e' := Option.some.inj (ho.symm.trans ho2)
      rw [e', hc2] at hc'
      injection hc' with hc3
      exact absurd hc3 (by decide)
    have hlt : i < its.toArray.size := by
      have := (List.getElem?_eq_some_iff.mp hu).1
      simpa using this
    refine wpAny_pyNext_enum_itemD (Draws.tuple (A := X.A.in1) (show X.A.in1.handled = none from I.ok.hd hc) it a hia its.toArray) he ⟨hit, p⟩ hlt hne (by simp [hne, hea.symm]) fun x' h' tk hP ho hst hT hsz hk => ?_
    have ex : x' = u := by
      have h1 : its[i]? = some x' := by simpa using hP
      rw [hu] at h1
      exact (Option.some.inj h1).symm
    subst ex
    obtain ⟨hit', _⟩ := hst
    refine ⟨_, rfl, wpAny_letOwnedTupleGo_enum (s := { s with heap := h', toks := tk + 1 }) ho fun h'' he' sb => ?_⟩
    have hT2 : h''.get? s.heap.objs.size = some { cls := .type "tuple", data := .seq #[.int i tk, x'] } := (sb.2 _ (Nat.ne_of_gt hel)).trans hT
    have new : ObjOk X.prog X.w (upd H s.heap.objs.size (.frz { cls := .type "tuple", data := .seq #[.int i tk, x'] } (.tup [.int (i : Nat), x]))) h'' s.heap.objs.size (.frz { cls := .type "tuple", data := .seq #[.int i tk, x'] } (.tup [.int (i : Nat), x])) :=
      ⟨hT2, by show 2 ≤ sizeLine; decide, [.int i tk, x'], .cons ⟨_, rfl⟩ (.cons ru .nil), ⟨_, hT2, rfl, _, rfl⟩⟩
    have I1 : Inv X pins σ (upd H s.heap.objs.size (.frz { cls := .type "tuple", data := .seq #[.int i tk, x'] } (.tup [.int (i : Nat), x]))) { s with heap := h'', toks := tk + 1 } :=
      I.turnedNew (ch := [e, it]) (fun b ob hb q => (sb.2 b (fun z => hb (by simp [z]))).trans (hk b ob (fun z => hb (by simp [z])) (fun z => hb (by simp [z])) q)) hf (Nat.le_refl _) new
    refine ⟨.ref s.heap.objs.size, _, I1, rfl, ⟨_, x, _, rfl, I.hok.fresh (Nat.le_refl _), ⟨rfl, rfl⟩, rfl, fun ys hy => by rw [I.tuple_inj hy hq]; exact hx⟩, ⟨⟨x', ?_⟩, hit'.at fun o q => (sb.2 it (Ne.symm hne)).trans q, hne⟩, fun b hb => ?_⟩
    · have e1 : ((i + 1 : Nat) : Int) = (i : Int) + 1 := by omega
      rw [e1]; exact he'
    · have hb' : b < s.heap.objs.size := by
        have e' : b = e ∨ b = it := by simpa using hb
        rcases e' with z | z
        · rw [z]; exact hel
        · rw [z]; exact hil
      rw [upd_ne (Nat.ne_of_lt hb')]
      exact (hf b hb).1
  done := by
    intro X hP hw hK hc i pins s σ H E I hf st hg
    subst hP hw hK
    obtain ⟨⟨old, he⟩, hit, hne⟩ := st
    obtain ⟨xs, hq, hx⟩ := hg
    obtain ⟨its, rv, p, hz⟩ := I.tuple hq
    have p : s.heap.IsTuple a its.toArray := p
    obtain ⟨f0, f1, f2, f3, f4, f5⟩ := hf it (by simp)
    have hl := rv.length
    have hia : a ≠ it := fun z => by
      obtain ⟨o, ho, hc', _⟩ := p
      obtain ⟨o2, ho2, hc2, _⟩ := hit
      rw [z] at ho
      have e' := Option.some.inj (ho.symm.trans ho2)
      rw [e', hc2] at hc'
      injection hc' with hc3
      exact absurd hc3 (by decide)
    have D : Draws X.prog X.w X.A.in1 it [it, a] i (fun _ _ => True) (fun j h => j = i ∧ h.IsTupleIter it a i ∧ h.IsTuple a its.toArray) :=
      ⟨fun _ _ st => let ⟨o, ho, _⟩ := st.2.1; ⟨o, ho⟩, fun _ _ _ st hk => ⟨st.1, st.2.1.at fun o e => hk it (by simp) o e, st.2.2.at fun o e => hk a (by simp) o e⟩,
        fun j s Q E hj st _ => absurd st.1 (Nat.ne_of_lt hj), fun s Q E st hE => wpAny_nextOf_tuple_end (I.ok.hd hc) st.2.1 st.2.2 (by simp; omega) hE⟩
    exact wpAny_pyNext_enum_endD D he ⟨rfl, hit, p⟩ fun h' eb => ⟨rfl, I.turned (t' := s.toks) (fun b o hb q => eb b o hb q) f0 f1 f3 f4 f5⟩
  self := fun A i s Q E st h => let ⟨⟨_, he⟩, _⟩ := st; wpAny_pyIter_enum he h
def iEnumT (K : PySem.W.Frag) (ta : TA) : TI := fun σ H R => ta σ H fun vs H1 => ∃ a xs, vs = [.ref a] ∧ SqT K H1 a xs ∧ R (IteT K a) H1
theorem pi_enumT {X : Cx} {e : Expr} {ta : TA} {p pos tpos : Pos} {elts : List Expr} {kk : Nat} (hg : Gl X "enumerate") (hm : X.mg "enumerate" = none) (ha : PA X [e] ta) (hs : starEach [e] X.env = [(false, eval e X.env)] := by rfl) :
    PI X (.Tuple elts kk tpos) (.Call (.Name "enumerate" p) [e] [] pos) (iEnumT X.K ta) := by
  refine ⟨fun pins s σ H R I h => ?_⟩
  refine Call_ (ld_blt I hg hm boot_enumerate (PyProof.Rows.callWith_type1 (thn (ha.run pos pins s σ H _ I h) fun us s1 ⟨vs, H1, I1, r1, q1⟩ => ?_) hs rfl))
  obtain ⟨a, xs, ex, hq, q⟩ := q1
  subst ex
  cases r1 with
  | cons r rr =>
    cases rr
    cases r
    obtain ⟨its, rv, p', hz⟩ := I1.tuple hq
    refine call_enum_tup (show s1.heap.IsTuple a its.toArray from p') fun h' he hit hk => wpAny_pyIter_enum he ?_
    have I2 : Inv X pins σ H1 { s1 with heap := h' } := I1.kept (t' := s1.toks) hk
    refine ⟨s1.heap.objs.size + 1, [s1.heap.objs.size + 1, s1.heap.objs.size], _, _, H1, rfl, I2, turn_enumT a (s1.heap.objs.size + 1) s1.heap.objs.size, ⟨⟨.none, he⟩, hit, Nat.succ_ne_self _⟩, fun b hb => ?_, q⟩
    have e' : b = s1.heap.objs.size + 1 ∨ b = s1.heap.objs.size := by simpa using hb
    have hle : s1.heap.objs.size ≤ b := by
      rcases e' with z | z
      · rw [z]; exact Nat.le_add_right _ _
      · rw [z]; exact Nat.le_refl _
    exact I1.fpOk hle (I1.hok.fresh hle)
end

section
variable {K : PySem.W.Frag} {T : Tb} {X : Cx} {W : WXk} {e a b c o tg : Expr} {es rest : List Expr} {st : Stmt} {S : List Nat} {pos p2 : Pos}
def numL : Nat → List PyData → List PyData
  | _, [] => []
  | i, d :: ds => .tuple [.int (i : Nat), d] :: numL (i + 1) ds
theorem numL_len : ∀ (ds : List PyData) (i : Nat), (numL i ds).length = ds.length
  | [], _ => rfl
  | _ :: ds, i => congrArg (· + 1) (numL_len ds (i + 1))
theorem numL_at : ∀ (ds : List PyData) (i j : Nat) (d : PyData), ds[j]? = some d → (numL i ds)[j]? = some (.tuple [.int ((i + j : Nat) : Int), d])
  | [], _, _, _, h => by simp at h
  | x :: ds, i, 0, d, h => by
    simp at h
    subst h
    rfl
  | x :: ds, i, j + 1, d, h => by
    have := numL_at ds (i + 1) j d (by simpa using h)
    rw [show i + 1 + j = i + (j + 1) from by omega] at this
    simpa [numL] using this
theorem iteT_ok {a : Addr} {vs : List V} {ds : List PyData} (n : noLs ds = true) : ItOk K (IteT K a) (numL 0 ds) (fun H => Tq K H a vs ∧ DqAll K H vs ds) := by
  refine ⟨fun i H g h => ?_, fun i H x H' g hi y => ?_, fun i H g h => ?_⟩
  · rw [numL_len] at h
    obtain ⟨v, hv, _⟩ := dpAll_at g.2 (List.getElem?_eq_getElem h)
    exact ⟨vs, v, g.1.sq, hv⟩
  · rw [numL_len] at hi
    obtain ⟨t, x', ob, rfl, ht, to, rfl, y⟩ := y
    obtain ⟨v, hv, dv⟩ := dpAll_at g.2 (List.getElem?_eq_getElem hi)
    have := y vs g.1.sq
    rw [hv] at this
    cases this
    have nd := noLs_at n (List.getElem?_eq_getElem hi)
    have nn : noLs [.int ((0 + i : Nat) : Int), ds[i]] = true := by simp [noLs, noL, nd]
    have hh : DqAll K H [.int (i : Nat), x'] [.int ((0 + i : Nat) : Int), ds[i]] := by
      rw [Nat.zero_add]
      exact .cons (.int _) (.cons dv .nil)
    obtain ⟨s2, d2⟩ := newT (K := K) ht to nn hh
    exact ⟨_, numL_at ds 0 i _ (List.getElem?_eq_getElem hi), d2, by simpa [noL] using nn, s2⟩
  · rw [numL_len] at h
    exact ⟨vs, g.1.sq, by rw [dpAll_len g.2, h] <;> exact Nat.le_refl _⟩
def iEn (m : MM PyData) : MM (List PyData) := bindM m fun d => optM ((tupL d).map (numL 0))
theorem qi_enum {m : MM PyData} {p tpos : Pos} {elts : List Expr} {kk : Nat} (h : QD T X W e m) (hg : Gl X "enumerate") (hz : X.mg "enumerate" = none) (hs : starEach [e] X.env = [(false, eval e X.env)] := by rfl) : QI T X W (.Tuple elts kk tpos) (.Call (.Name "enumerate" p) [e] [] pos) (iEn m) := by
  obtain ⟨t, ht, q⟩ := h.ex
  refine ⟨_, pi_enumT hg hz (pa_cons ht pa_nil hs) hs, fun σ H ρ F r R E n hm k => ?_⟩
  unfold iEn bindM at hm
  cases hd : m ρ with
  | none => rw [hd] at hm; cases hm
  | some r1 =>
    rw [hd] at hm
    refine q σ H ρ F r1 _ E n hd ?_
    cases r1 with
    | er c fs ρ1 => cases hm; exact k
    | ok d ρ1 =>
      intro v H' F' dp nl E' n' mv
      cases d with
      | tuple ds =>
        cases hm
        obtain ⟨a, xs, rfl, s, al⟩ := dp_tupX dp
        have nn : noLs ds = true := by simpa [noL] using nl
        exact ⟨a, xs, rfl, s.sq, k (IteT X.K a) H' [] F' (fun H => Tq X.K H a xs ∧ DqAll X.K H xs ds) (iteT_ok nn) (fun H1 H2 kp g => ⟨tq_kp kp g.1, dp_keepXs kp.x nn g.2⟩) ⟨s, al⟩ (fun _ h => nomatch h) E' n' mv⟩
      | _ => cases hm
end
/-! ### how the mirrors are reckoned -/
section
variable {α β : Type} {ρ : Env'} {i : Nat}
def thB (r : Option (Rs Env' α)) (k : α → MM β) : Option (Rs Env' β) := match r with
  | none => none
  | some (.ok a ρ1) => k a ρ1
  | some (.er c fs ρ1) => some (.er c fs ρ1)
@[simp] theorem thB_ok {a : α} {k : α → MM β} : thB (some (.ok a ρ)) k = k a ρ := rfl
@[simp] theorem thB_none {k : α → MM β} : thB none k = none := rfl
@[simp] theorem thB_er {c : Nat} {fs : List (Str × PyData)} {k : α → MM β} : thB (some (.er c fs ρ)) k = some (.er c fs ρ) := rfl
def thI (r : Option (Rs Env' Bool)) (m k : MM α) : Option (Rs Env' α) := match r with
  | none => none
  | some (.ok b ρ1) => if b = true then m ρ1 else k ρ1
  | some (.er c fs ρ1) => some (.er c fs ρ1)
@[simp] theorem thI_ok {b : Bool} {m k : MM α} : thI (some (.ok b ρ)) m k = if b = true then m ρ else k ρ := rfl
@[simp] theorem thI_none {m k : MM α} : thI none m k = none := rfl
@[simp] theorem thI_er {c : Nat} {fs : List (Str × PyData)} {m k : MM α} : thI (some (.er c fs ρ)) m k = some (.er c fs ρ) := rfl
def thS (r : Option (Rs Env' Fl)) (k : MM Fl) : Option (Rs Env' Fl) := match r with
  | none => none
  | some (.ok .nx ρ1) => k ρ1
  | some (.ok f ρ1) => some (.ok f ρ1)
  | some (.er c fs ρ1) => some (.er c fs ρ1)
@[simp] theorem thS_nx {k : MM Fl} : thS (some (.ok .nx ρ)) k = k ρ := rfl
@[simp] theorem thS_rt {x : M} {k : MM Fl} : thS (some (.ok (.rt x) ρ)) k = some (.ok (.rt x) ρ) := rfl
@[simp] theorem thS_bk {k : MM Fl} : thS (some (.ok .bk ρ)) k = some (.ok .bk ρ) := rfl
@[simp] theorem thS_ct {k : MM Fl} : thS (some (.ok .ct ρ)) k = some (.ok .ct ρ) := rfl
@[simp] theorem thS_none {k : MM Fl} : thS none k = none := rfl
@[simp] theorem thS_er {c : Nat} {fs : List (Str × PyData)} {k : MM Fl} : thS (some (.er c fs ρ)) k = some (.er c fs ρ) := rfl
@[simp] theorem a_bind {m : MM α} {k : α → MM β} : bindM m k ρ = thB (m ρ) k := by
  unfold bindM thB
  cases m ρ with
  | none => rfl
  | some r => cases r <;> rfl
@[simp] theorem a_pure {a : α} : pureM a ρ = some (.ok a ρ) := rfl
@[simp] theorem a_opt {o : Option α} : optM o ρ = o.map fun a => .ok a ρ := rfl
@[simp] theorem a_qM {m : Env' → Option PyData} : qM m ρ = (m ρ).map fun d => .ok d ρ := rfl
@[simp] theorem a_dX {m : MM PyData} : dX m ρ = bindM m (fun d => pureM (.imm d)) ρ := rfl
@[simp] theorem a_dM {d : PyData} : dM (.imm d) = some d := rfl
@[simp] theorem a_xD {m : MM M} : xD m ρ = bindM m (fun x => optM (dM x)) ρ := rfl
@[simp] theorem a_pE {m : Env' → Option M} : pE m ρ = (m ρ).bind dM := rfl
@[simp] theorem a_eP : eP i ρ = (ρ[i]?).join := rfl
@[simp] theorem a_eV : eV i ρ = ((ρ[i]?).join).bind dM := rfl
@[simp] theorem a_eC {d : PyData} : eC d ρ = some d := rfl
@[simp] theorem a_e2 {o : PyData → PyData → Option PyData} {ma mb : Env' → Option PyData} : e2 o ma mb ρ = (ma ρ).bind fun x => (mb ρ).bind fun y => o x y := rfl
@[simp] theorem a_d2 {o : PyData → PyData → Option PyData} {ma mb : MM PyData} : d2 o ma mb ρ = bindM ma (fun x => bindM mb fun y => optM (o x y)) ρ := rfl
@[simp] theorem a_e1 {o : PyData → Option PyData} {ma : Env' → Option PyData} : e1 o ma ρ = (ma ρ).bind o := rfl
@[simp] theorem a_d1 {o : PyData → Option PyData} {ma : MM PyData} : d1 o ma ρ = bindM ma (fun x => optM (o x)) ρ := rfl
@[simp] theorem a_aNil : aNil ρ = some [] := rfl
@[simp] theorem a_aCons {m : Env' → Option PyData} {r : Env' → Option (List PyData)} : aCons m r ρ = (m ρ).bind fun x => (r ρ).map fun xs => x :: xs := rfl
@[simp] theorem a_bNil : bNil ρ = some (.ok [] ρ) := rfl
@[simp] theorem a_bCons {m : MM PyData} {r : MM (List PyData)} : bCons m r ρ = bindM m (fun x => bindM r fun xs => pureM (x :: xs)) ρ := rfl
theorem len_most {n : Nat} (h : n ≤ 1000) : n ≤ most := Nat.le_trans h (by decide)
@[simp] theorem a_eTup {m : Env' → Option (List PyData)} : eTup m ρ = (m ρ).bind fun ds => if ds.length ≤ most then some (.tuple ds) else none := rfl
@[simp] theorem a_dTup {m : MM (List PyData)} : dTup m ρ = bindM m (fun ds => optM (if ds.length ≤ most then some (.tuple ds) else none)) ρ := rfl
@[simp] theorem a_bM {b : Bool} : bM (.bool b) = some b := rfl
@[simp] theorem a_tM {m : MM PyData} : tM m ρ = bindM m (fun d => optM (bM d)) ρ := rfl
@[simp] theorem a_tru_n : truM (.imm .none) = some false := rfl
@[simp] theorem a_tru_b {b : Bool} : truM (.imm (.bool b)) = some b := rfl
@[simp] theorem a_tru_i {z : Int} : truM (.imm (.int z)) = some (z != 0) := rfl
@[simp] theorem a_tru_s {z : Str} : truM (.imm (.str z)) = if z.length ≤ most then some ((z.length : Int) != 0) else none := rfl
@[simp] theorem a_tru_t {xs : List PyData} : truM (.imm (.tuple xs)) = some (!xs.isEmpty) := rfl
@[simp] theorem a_tru_l {xs : List M} : truM (.lst xs) = some (!xs.isEmpty) := rfl
@[simp] theorem a_uM {m : MM M} : uM m ρ = bindM m (fun x => optM (truM x)) ρ := rfl
@[simp] theorem a_uP {m : Env' → Option M} : uP m ρ = ((m ρ).bind truM).map fun b => .ok b ρ := rfl
@[simp] theorem a_and {m k : MM Bool} : andM m k ρ = thI (m ρ) k (pureM false) := by
  unfold andM bindM thI
  cases m ρ with
  | none => rfl
  | some r =>
    cases r with
    | ok b ρ1 => cases b <;> rfl
    | er _ _ _ => rfl
@[simp] theorem a_or {m k : MM Bool} : orM m k ρ = thI (m ρ) (pureM true) k := by
  unfold orM bindM thI
  cases m ρ with
  | none => rfl
  | some r =>
    cases r with
    | ok b ρ1 => cases b <;> rfl
    | er _ _ _ => rfl
@[simp] theorem a_not {m : MM Bool} : notM m ρ = bindM m (fun b => pureM (!b)) ρ := rfl
@[simp] theorem a_if {t : MM Bool} {m k : MM α} : ifM t m k ρ = thI (t ρ) m k := by
  unfold ifM bindM thI
  cases t ρ with
  | none => rfl
  | some r =>
    cases r with
    | ok b ρ1 => cases b <;> rfl
    | er _ _ _ => rfl
def kAnd (k : MM PyData) : PyData → MM PyData
  | .bool b => fun ρ => if b = true then k ρ else some (.ok (.bool false) ρ)
  | _ => fun _ => none
@[simp] theorem a_kAnd {k : MM PyData} {b : Bool} : kAnd k (.bool b) ρ = if b = true then k ρ else some (.ok (.bool false) ρ) := rfl
@[simp] theorem a_dAnd {m k : MM PyData} : dAnd m k ρ = thB (m ρ) (kAnd k) := by
  unfold dAnd bindM thB
  cases m ρ with
  | none => rfl
  | some r =>
    cases r with
    | ok d ρ1 =>
      cases d with
      | bool b => cases b <;> rfl
      | _ => rfl
    | er _ _ _ => rfl
def kOr (k : MM PyData) : PyData → MM PyData
  | .bool b => fun ρ => if b = true then some (.ok (.bool true) ρ) else k ρ
  | _ => fun _ => none
@[simp] theorem a_kOr {k : MM PyData} {b : Bool} : kOr k (.bool b) ρ = if b = true then some (.ok (.bool true) ρ) else k ρ := rfl
@[simp] theorem a_dOr {m k : MM PyData} : dOr m k ρ = thB (m ρ) (kOr k) := by
  unfold dOr bindM thB
  cases m ρ with
  | none => rfl
  | some r =>
    cases r with
    | ok d ρ1 =>
      cases d with
      | bool b => cases b <;> rfl
      | _ => rfl
    | er _ _ _ => rfl
def kNot : PyData → MM PyData
  | .bool b => fun ρ => some (.ok (.bool (!b)) ρ)
  | _ => fun _ => none
@[simp] theorem a_kNot {b : Bool} : kNot (.bool b) ρ = some (.ok (.bool (!b)) ρ) := rfl
@[simp] theorem a_dNot {m : MM PyData} : dNot m ρ = thB (m ρ) kNot := by
  unfold dNot bindM thB
  cases m ρ with
  | none => rfl
  | some r =>
    cases r with
    | ok d ρ1 => cases d <;> rfl
    | er _ _ _ => rfl
@[simp] theorem o_add_i {a b : Int} : oAdd (.int a) (.int b) = some (.int (a + b)) := rfl
@[simp] theorem o_add_s {a b : Str} : oAdd (.str a) (.str b) = if a.length + b.length ≤ most then some (.str (a ++ b)) else none := rfl
@[simp] theorem o_add_t {a b : List PyData} : oAdd (.tuple a) (.tuple b) = if a.length + b.length ≤ most then some (.tuple (a ++ b)) else none := rfl
@[simp] theorem o_I {g : Int → Int → Option PyData} {a b : Int} : oI g (.int a) (.int b) = g a b := rfl
@[simp] theorem o_sub {a b : Int} : oSub (.int a) (.int b) = some (.int (a - b)) := rfl
@[simp] theorem o_mul_i {a b : Int} : oMul (.int a) (.int b) = if CMulX a b then some (.int (a * b)) else none := rfl
@[simp] theorem o_mul_s {a : Str} {b : Int} : oMul (.str a) (.int b) = if 0 ≤ b ∧ b ≤ 1000 ∧ a.length ≤ 1000 then some (.str (mkS (List.replicate b.toNat a.cps.toList).flatten)) else none := rfl
@[simp] theorem o_mul_t {ds : List PyData} {b : Int} : oMul (.tuple ds) (.int b) = if ds ≠ [] ∧ 2 ≤ b ∧ b ≤ 1000 ∧ ds.length ≤ 1000 then some (.tuple (List.replicate b.toNat ds).flatten) else none := rfl
@[simp] theorem o_mod {a b : Int} : oMod (.int a) (.int b) = if b = 0 then none else some (.int (a.fmod b)) := rfl
@[simp] theorem o_div {a b : Int} : oDiv (.int a) (.int b) = if CDivG a b then some (.int (a.fdiv b)) else none := rfl
@[simp] theorem o_pow {a b : Int} : oPow (.int a) (.int b) = if CPow a b then some (.int (a ^ b.toNat)) else none := rfl
@[simp] theorem o_lt {a b : Int} : oLt (.int a) (.int b) = some (.bool (decide (a < b))) := rfl
@[simp] theorem o_lt_s {a b : Str} : oLt (.str a) (.str b) = some (.bool (decide (a.cps.toList < b.cps.toList))) := rfl
@[simp] theorem o_le {a b : Int} : oLe (.int a) (.int b) = some (.bool (decide (a ≤ b))) := rfl
@[simp] theorem o_gt {a b : Int} : oGt (.int a) (.int b) = some (.bool (decide (b < a))) := rfl
@[simp] theorem o_ge {a b : Int} : oGe (.int a) (.int b) = some (.bool (decide (b ≤ a))) := rfl
@[simp] theorem q_ss {a b : Str} : eqB (.str a) (.str b) = some (decide (a = b)) := by
  show (if scal (V.str a) (V.str b) = true then some (decide (V.str a = V.str b)) else eqS (.str a) (.str b)) = _
  rw [if_pos (show scal (V.str a) (V.str b) = true from rfl)]
  simp
@[simp] theorem q_ii {a b : Int} : eqB (.int a) (.int b) = some (decide (a = b)) := by
  show (if scal (V.int a) (V.int b) = true then some (decide (V.int a = V.int b)) else eqS (.int a) (.int b)) = _
  rw [if_pos (show scal (V.int a) (V.int b) = true from rfl)]
  simp
@[simp] theorem q_bb {a b : Bool} : eqB (.bool a) (.bool b) = some (decide (a = b)) := by
  show (if scal (V.bl a) (V.bl b) = true then some (decide (V.bl a = V.bl b)) else eqS (.bool a) (.bool b)) = _
  rw [if_pos (show scal (V.bl a) (V.bl b) = true from rfl)]
  simp
@[simp] theorem q_nn : eqB .none .none = some true := rfl
@[simp] theorem o_eq {a b : PyData} : oEq a b = (eqB a b).map .bool := rfl
@[simp] theorem o_ne {a b : PyData} : oNe a b = (eqB a b).map fun c => .bool (!c) := rfl
@[simp] theorem isTup_n : isTup .none = false := rfl
@[simp] theorem isTup_b {x : Bool} : isTup (.bool x) = false := rfl
@[simp] theorem isTup_i {x : Int} : isTup (.int x) = false := rfl
@[simp] theorem isTup_s {x : Str} : isTup (.str x) = false := rfl
@[simp] theorem isTup_t {x : List PyData} : isTup (.tuple x) = true := rfl
@[simp] theorem isBool_n : isBool .none = false := rfl
@[simp] theorem isBool_b {x : Bool} : isBool (.bool x) = true := rfl
@[simp] theorem isBool_i {x : Int} : isBool (.int x) = false := rfl
@[simp] theorem isBool_s {x : Str} : isBool (.str x) = false := rfl
@[simp] theorem isBool_t {x : List PyData} : isBool (.tuple x) = false := rfl
@[simp] theorem isInt_n : isInt .none = false := rfl
@[simp] theorem isInt_b {x : Bool} : isInt (.bool x) = true := rfl
@[simp] theorem isInt_i {x : Int} : isInt (.int x) = true := rfl
@[simp] theorem isInt_s {x : Str} : isInt (.str x) = false := rfl
@[simp] theorem isInt_t {x : List PyData} : isInt (.tuple x) = false := rfl
@[simp] theorem isStr_n : isStr .none = false := rfl
@[simp] theorem isStr_b {x : Bool} : isStr (.bool x) = false := rfl
@[simp] theorem isStr_i {x : Int} : isStr (.int x) = false := rfl
@[simp] theorem isStr_s {x : Str} : isStr (.str x) = true := rfl
@[simp] theorem isStr_t {x : List PyData} : isStr (.tuple x) = false := rfl
@[simp] theorem n_n : isN .none = true := rfl
@[simp] theorem n_b {b : Bool} : isN (.bool b) = false := rfl
@[simp] theorem n_i {b : Int} : isN (.int b) = false := rfl
@[simp] theorem n_s {b : Str} : isN (.str b) = false := rfl
@[simp] theorem n_t {b : List PyData} : isN (.tuple b) = false := rfl
@[simp] theorem o_is {a : PyData} : oIs a .none = some (.bool (isN a)) := rfl
@[simp] theorem o_isNot {a : PyData} : oIsNot a .none = some (.bool (!isN a)) := rfl
theorem inV_strs (x : Str) : ∀ xs : List Str, inV (.str x) (xs.map V.str) = decide (x ∈ xs)
  | [] => rfl
  | y :: xs => by
    have ih := inV_strs x xs
    unfold inV at ih ⊢
    rw [List.map_cons, List.any_cons, ih]
    show ((y == x) || _) = _
    by_cases h : y = x
    · subst h
      simp
    · have : (y == x) = false := beq_eq_false_iff_ne.mpr h
      rw [this]
      have h' : ¬ x = y := fun e => h e.symm
      simp [h']
theorem scDs_strs : ∀ xs : List Str, scDs (xs.map PyData.str) = some (xs.map V.str)
  | [] => rfl
  | x :: xs => by
    rw [List.map_cons, List.map_cons]
    simp only [scDs, scD, scDs_strs xs]
theorem in_strsD (x : Str) (xs : List Str) : inB (.str x) (xs.map PyData.str) = some (decide (x ∈ xs)) := by
  unfold inB
  rw [scDs_strs]
  show some (inV (.str x) _) = _
  rw [inV_strs]
@[simp] theorem in_nil {x : Str} : inB (.str x) [] = some false := rfl
@[simp] theorem in_cons {x y : Str} {ds : List PyData} : inB (.str x) (.str y :: ds) = (inB (.str x) ds).map fun c => decide (x = y) || c := by
  unfold inB
  show (match some (V.str x), (match some (V.str y), scDs ds with | some v, some vs => some (v :: vs) | _, _ => none) with | some x, some xs => some (inV x xs) | _, _ => none) = _
  cases scDs ds with
  | none => rfl
  | some vs =>
    show some (inV (.str x) (.str y :: vs)) = some (decide (x = y) || inV (.str x) vs)
    unfold inV
    rw [List.any_cons]
    show some ((y == x) || _) = _
    by_cases h : y = x
    · subst h
      simp
    · have : (y == x) = false := beq_eq_false_iff_ne.mpr h
      rw [this]
      have h' : ¬ x = y := fun e => h e.symm
      simp [h']
@[simp] theorem o_in_t {a : PyData} {ds : List PyData} : oIn a (.tuple ds) = (inB a ds).map .bool := by cases a <;> rfl
@[simp] theorem o_notIn_t {a : PyData} {ds : List PyData} : oNotIn a (.tuple ds) = (inB a ds).map fun c => .bool (!c) := by cases a <;> rfl
theorem at_n {xs : List α} {j : Nat} {z : Int} (h : j < xs.length) (e : z = (j : Int)) : atI xs z = some xs[j] := by
  subst e
  unfold atI ixN
  have h0 : (0 : Int) ≤ (j : Int) := by omega
  have h1 : (j : Int) < (xs.length : Int) := by omega
  rw [if_pos h0, if_pos h1]
  simp [h]
@[simp] theorem at_0 {x : α} {xs : List α} : atI (x :: xs) 0 = some x := by
  have h := at_n (xs := x :: xs) (j := 0) (z := 0) (by simp only [List.length_cons]; omega) rfl
  simpa using h
@[simp] theorem at_1 {x y : α} {xs : List α} : atI (x :: y :: xs) 1 = some y := by
  have h := at_n (xs := x :: y :: xs) (j := 1) (z := 1) (by simp only [List.length_cons]; omega) rfl
  simpa using h
@[simp] theorem at_2 {x y z : α} {xs : List α} : atI (x :: y :: z :: xs) 2 = some z := by
  have h := at_n (xs := x :: y :: z :: xs) (j := 2) (z := 2) (by simp only [List.length_cons]; omega) rfl
  simpa using h
@[simp] theorem at_3 {x y z w : α} {xs : List α} : atI (x :: y :: z :: w :: xs) 3 = some w := by
  have h := at_n (xs := x :: y :: z :: w :: xs) (j := 3) (z := 3) (by simp only [List.length_cons]; omega) rfl
  simpa using h
@[simp] theorem at_4 {x y z w v : α} {xs : List α} : atI (x :: y :: z :: w :: v :: xs) 4 = some v := by
  have h := at_n (xs := x :: y :: z :: w :: v :: xs) (j := 4) (z := 4) (by simp only [List.length_cons]; omega) rfl
  simpa using h
@[simp] theorem o_ix_t {ds : List PyData} {z : Int} : oIx (.tuple ds) (.int z) = atI ds z := rfl
@[simp] theorem o_ix_s {b : Str} {z : Int} : oIx (.str b) (.int z) = if b.length ≤ most then (atI b.cps.toList z).map fun c => .str ⟨#[c]⟩ else none := rfl
@[simp] theorem o_sl_t {ds : List PyData} {lo hi : Option Int} : oSl (.tuple ds) lo hi = some (.tuple (cutL ds lo hi)) := rfl
@[simp] theorem o_sl_s {b : Str} {lo hi : Option Int} : oSl (.str b) lo hi = if b.length ≤ most then some (.str (cutS b lo hi)) else none := rfl
@[simp] theorem cut_nat {xs : List α} {j : Nat} : cutL xs (some (j : Int)) none = xs.drop j := by
  have hz : HT.sIx xs.length 0 (some (j : Int)) = min j xs.length := by
    show (if (j : Int) < 0 then ((j : Int) + (xs.length : Int)).toNat else min (j : Int).toNat xs.length) = _
    rw [if_neg (by omega)]
    simp
  unfold cutL
  rw [hz]
  show List.take (xs.length - min j xs.length) _ = _
  rw [List.take_of_length_le (by rw [List.length_drop] <;> omega)]
  by_cases h : j ≤ xs.length
  · rw [Nat.min_eq_left h]
  · rw [Nat.min_eq_right (by omega), List.drop_length, List.drop_eq_nil_of_le (by omega)]
@[simp] theorem cut_1 {xs : List α} : cutL xs (some 1) none = xs.drop 1 := cut_nat (j := 1)
@[simp] theorem cut_2 {xs : List α} : cutL xs (some 2) none = xs.drop 2 := cut_nat (j := 2)
@[simp] theorem cut_3 {xs : List α} : cutL xs (some 3) none = xs.drop 3 := cut_nat (j := 3)
@[simp] theorem cut_4 {xs : List α} : cutL xs (some 4) none = xs.drop 4 := cut_nat (j := 4)
theorem cut_to {xs : List α} {j : Nat} : cutL xs none (some (j : Int)) = xs.take j := by
  have hz : HT.sIx xs.length xs.length (some (j : Int)) = min j xs.length := by
    show (if (j : Int) < 0 then ((j : Int) + (xs.length : Int)).toNat else min (j : Int).toNat xs.length) = _
    rw [if_neg (by omega)]
    simp
  unfold cutL
  rw [hz]
  show List.take (min j xs.length - 0) (xs.drop 0) = _
  rw [Nat.sub_zero, List.drop_zero, ← List.take_take, List.take_length]
@[simp] theorem cut_to2 {xs : List α} : cutL xs none (some 2) = xs.take 2 := cut_to (j := 2)
@[simp] theorem cut_to3 {xs : List α} : cutL xs none (some 3) = xs.take 3 := cut_to (j := 3)
@[simp] theorem cut_to4 {xs : List α} : cutL xs none (some 4) = xs.take 4 := cut_to (j := 4)
@[simp] theorem o_neg {z : Int} : oNeg (.int z) = some (.int (-z)) := rfl
@[simp] theorem a_oN : oN ρ = some (.ok none ρ) := rfl
def kS : PyData → MM (Option Int)
  | .int z => fun ρ => some (.ok (some z) ρ)
  | _ => fun _ => none
@[simp] theorem a_kS {z : Int} : kS (.int z) ρ = some (.ok (some z) ρ) := rfl
@[simp] theorem a_oS {m : MM PyData} : oS m ρ = thB (m ρ) kS := by
  unfold oS bindM thB
  cases m ρ with
  | none => rfl
  | some r =>
    cases r with
    | ok d ρ1 => cases d <;> rfl
    | er _ _ _ => rfl
@[simp] theorem a_dSl {m : MM PyData} {l h : MM (Option Int)} : dSl m l h ρ = bindM m (fun x => bindM l fun lo => bindM h fun hi => optM (oSl x lo hi)) ρ := rfl
@[simp] theorem a_eN {o : List PyData → Option PyData} {m : Env' → Option (List PyData)} : eN o m ρ = (m ρ).bind o := rfl
@[simp] theorem a_dN {o : List PyData → Option PyData} {m : MM (List PyData)} : dN o m ρ = bindM m (fun xs => optM (o xs)) ρ := rfl
@[simp] theorem o_int {z : Int} : oInt [.int z] = some (.int z) := rfl
@[simp] theorem o_str {z : Int} : oStr [.int z] = if z.natAbs.log2 < 1920 then some (.str (toString z)) else none := rfl
@[simp] theorem o_abs {z : Int} : oAbs [.int z] = some (.int (if z < 0 then -z else z)) := rfl
@[simp] theorem o_max {i j : Int} : oMax [.int i, .int j] = some (.int (if j > i then j else i)) := rfl
@[simp] theorem o_len_t {ds : List PyData} : oLen [.tuple ds] = some (.int ds.length) := rfl
@[simp] theorem o_len_s {z : Str} : oLen [.str z] = if z.length ≤ most then some (.int z.length) else none := rfl
@[simp] theorem l_d {d : PyData} : lenM (.imm d) = oLen [d] := rfl
@[simp] theorem l_l {xs : List M} : lenM (.lst xs) = some (.int xs.length) := rfl
@[simp] theorem l_s {ns : List Int} : lenM (.scr ns) = some (.int ns.length) := rfl
@[simp] theorem a_eLenP {m : Env' → Option M} : eLenP m ρ = (m ρ).bind lenM := rfl
@[simp] theorem a_dIsi {f : PyData → Bool} {m : MM PyData} : dIsi f m ρ = bindM m (fun d => pureM (.bool (f d))) ρ := rfl
@[simp] theorem a_nm {d : PyData} : bindP (.nm i) d ρ = some (ρ.set i (some (.imm d))) := by simp only [bindP]
@[simp] theorem a_tp {ps : List Pt} {ds : List PyData} : bindP (.tp ps) (.tuple ds) ρ = bindPs ps ds ρ := by simp only [bindP]
@[simp] theorem a_ps_nil : bindPs [] [] ρ = some ρ := by simp only [bindPs]
@[simp] theorem a_ps_cons {p : Pt} {ps : List Pt} {d : PyData} {ds : List PyData} : bindPs (p :: ps) (d :: ds) ρ = (bindP p d ρ).bind fun ρ' => bindPs ps ds ρ' := by simp only [bindPs]
@[simp] theorem a_sSetD {m : MM PyData} : sSetD i m ρ = thB (m ρ) (fun d ρ1 => some (.ok .nx (ρ1.set i (some (.imm d))))) := by
  unfold sSetD
  try unfold bindM
  unfold thB
  cases m ρ with
  | none => rfl
  | some r => cases r <;> rfl
@[simp] theorem a_sSet {m : MM M} : sSet i m ρ = thB (m ρ) (fun x ρ1 => some (.ok .nx (ρ1.set i (some x)))) := by
  unfold sSet
  try unfold bindM
  unfold thB
  cases m ρ with
  | none => rfl
  | some r => cases r <;> rfl
@[simp] theorem a_sPat {p : Pt} {m : MM PyData} : sPat p m ρ = thB (m ρ) (fun d ρ1 => (bindP p d ρ1).map fun ρ' => .ok .nx ρ') := by
  unfold sPat
  try unfold bindM
  unfold thB
  cases m ρ with
  | none => rfl
  | some r => cases r <;> rfl
@[simp] theorem a_sRetD {m : MM PyData} : sRetD m ρ = thB (m ρ) (fun d ρ1 => some (.ok (.rt (.imm d)) ρ1)) := by
  unfold sRetD
  try unfold bindM
  unfold thB
  cases m ρ with
  | none => rfl
  | some r => cases r <;> rfl
@[simp] theorem a_sRet {m : MM M} : sRet m ρ = thB (m ρ) (fun x ρ1 => some (.ok (.rt x) ρ1)) := by
  unfold sRet
  try unfold bindM
  unfold thB
  cases m ρ with
  | none => rfl
  | some r => cases r <;> rfl
@[simp] theorem a_sRetV : sRetV i ρ = match ρ[i]? with | some (some x) => some (.ok (.rt x) (ρ.set i (some .hol))) | _ => none := rfl
@[simp] theorem a_sRetN : sRetN ρ = some (.ok (.rt (.imm .none)) ρ) := rfl
@[simp] theorem a_sDrop {m : MM M} : sDrop m ρ = thB (m ρ) (fun _ ρ1 => some (.ok .nx ρ1)) := by
  unfold sDrop
  try unfold bindM
  unfold thB
  cases m ρ with
  | none => rfl
  | some r => cases r <;> rfl
@[simp] theorem a_seq {m k : MM Fl} : seqM m k ρ = thS (m ρ) k := by
  unfold seqM bindM thS
  cases m ρ with
  | none => rfl
  | some r =>
    cases r with
    | ok f ρ1 => cases f <;> rfl
    | er _ _ _ => rfl
@[simp] theorem a_end : endM ρ = some (.ok .nx ρ) := rfl
@[simp] theorem a_sAug {o : PyData → PyData → Option PyData} {m : MM PyData} : sAug i o m ρ = (eV i ρ).bind fun x => thB (m ρ) (fun y ρ1 => (o x y).map fun z => .ok .nx (ρ1.set i (some (.imm z)))) := by
  unfold sAug bindM thB
  cases eV i ρ with
  | none => rfl
  | some x =>
    cases m ρ with
    | none => rfl
    | some r => cases r <;> rfl
@[simp] theorem a_for {p : Pt} {m : MM (List PyData)} {mb : MM Fl} : forM p m mb ρ = thB (m ρ) (fun xs ρ1 => loopM p mb xs ρ1) := by
  unfold forM
  try unfold bindM
  unfold thB
  cases m ρ with
  | none => rfl
  | some r => cases r <;> rfl
@[simp] theorem a_loop_nil {p : Pt} {mb : MM Fl} : loopM p mb [] ρ = some (.ok .nx ρ) := rfl
@[simp] theorem a_iT {m : MM PyData} : iT m ρ = bindM m (fun d => optM (tupL d)) ρ := rfl
@[simp] theorem a_tupL {ds : List PyData} : tupL (.tuple ds) = some ds := rfl
@[simp] theorem a_iStr {m : MM PyData} : iStrM m ρ = bindM m (fun d => match d with | .str z => pureM (signsL z) | _ => fun _ => none) ρ := rfl
@[simp] theorem a_iL {m : MM M} : iL m ρ = bindM m (fun x => optM (lstL x)) ρ := rfl
@[simp] theorem a_lstL {xs : List M} : lstL (.lst xs) = immL xs := rfl
@[simp] theorem a_lstS {ns : List Int} : lstL (.scr ns) = some (ns.map .int) := rfl
@[simp] theorem a_immN : immL [] = some [] := rfl
@[simp] theorem a_immC {d : PyData} {xs : List M} : immL (.imm d :: xs) = (immL xs).map fun ds => d :: ds := rfl
@[simp] theorem a_rng1 {j : Int} : rng1 (.int j) = if -big62 ≤ j ∧ j < big62 then some (rangeL 0 j.toNat) else none := rfl
@[simp] theorem a_rng2 {i j : Int} : rng2 (.int i) (.int j) = if (-big62 ≤ i ∧ i < big62) ∧ -big62 ≤ j ∧ j < big62 then some (rangeL i (j - i).toNat) else none := rfl
@[simp] theorem a_iR1 {m : MM PyData} : iR1 m ρ = bindM m (fun d => optM (rng1 d)) ρ := rfl
@[simp] theorem a_iR2 {m k : MM PyData} : iR2 m k ρ = bindM m (fun d => bindM k fun e => optM (rng2 d e)) ρ := rfl
@[simp] theorem a_iEn {m : MM PyData} : iEn m ρ = bindM m (fun d => optM ((tupL d).map (numL 0))) ρ := rfl
@[simp] theorem a_backN {S : List Nat} : backs S i [] ρ = some [] := by simp only [backs]
@[simp] theorem a_backC {S : List Nat} {x : M} {xs : List M} {o : Option M} : backs S i (x :: xs) (o :: ρ) = if S.contains i then (match o with | some y => (backs S (i + 1) xs ρ).map fun ys => y :: ys | none => none) else if isImm x then (backs S (i + 1) xs ρ).map fun ys => x :: ys else none := by
  simp only [backs]
  all_goals rfl
@[simp] theorem i_imm {d : PyData} : isImm (.imm d) = true := rfl
@[simp] theorem i_scr {d : List Int} : isImm (.scr d) = true := rfl
@[simp] theorem i_fn {d : Nat} : isImm (.fn d) = true := rfl
@[simp] theorem i_fro {d : Nat} {fs : List (Str × PyData)} : isImm (.fro d fs) = true := rfl
@[simp] theorem a_eCall {n : Nat} {mf : List PyData → Option PyData} {m : Env' → Option (List PyData)} : eCall n mf m ρ = (m ρ).bind fun ds => if ds.length = n then mf ds else none := rfl
@[simp] theorem a_dCall {n : Nat} {mf : List PyData → Option PyData} {m : MM (List PyData)} : dCall n mf m ρ = bindM m (fun ds => optM (if ds.length = n then mf ds else none)) ρ := rfl
@[simp] theorem a_eCall0 {mf : List PyData → Option PyData} : eCall0 mf ρ = mf [] := rfl
@[simp] theorem a_rNil : rNil ρ = some (.ok [] ρ) := rfl
@[simp] theorem a_rVal {m : MM PyData} {k : MM (List Aw)} : rVal m k ρ = bindM m (fun d => bindM k fun as => pureM (.val d :: as)) ρ := rfl
@[simp] theorem a_rSlot {k : MM (List Aw)} : rSlot i k ρ = match ρ[i]? with | some (some _) => bindM k (fun as => pureM (.slot i :: as)) ρ | _ => none := rfl
@[simp] theorem a_rOwn {m : MM M} {k : MM (List Aw)} : rOwn m k ρ = bindM m (fun d => bindM k fun as => pureM (.own d :: as)) ρ := rfl
@[simp] theorem t_nil : takes [] ρ = some ([], ρ) := by simp only [takes]
@[simp] theorem t_val {d : PyData} {r : List Aw} : takes (.val d :: r) ρ = (takes r ρ).map fun p => (.imm d :: p.1, p.2) := by simp only [takes]
@[simp] theorem t_own {d : M} {r : List Aw} : takes (.own d :: r) ρ = (takes r ρ).map fun p => (d :: p.1, p.2) := by simp only [takes]
@[simp] theorem t_slot {r : List Aw} : takes (.slot i :: r) ρ = match ρ[i]? with | some (some x) => (takes r (ρ.set i (some .hol))).map fun p => (x :: p.1, p.2) | _ => none := by
  rw [takes.eq_def]
  all_goals rfl
@[simp] theorem p_nil : puts [] [] ρ = some ρ := by simp only [puts]
@[simp] theorem p_slot {r : List Aw} {y : M} {ys : List M} : puts (.slot i :: r) (y :: ys) ρ = match ρ[i]? with | some (some .hol) => puts r ys (ρ.set i (some y)) | _ => none := by
  rw [puts.eq_def]
  all_goals rfl
@[simp] theorem p_val {r : List Aw} {d : PyData} {y : M} {ys : List M} : puts (.val d :: r) (y :: ys) ρ = puts r ys ρ := by simp only [puts]
@[simp] theorem p_own {r : List Aw} {d y : M} {ys : List M} : puts (.own d :: r) (y :: ys) ρ = puts r ys ρ := by simp only [puts]
def afterC (as : List Aw) (ρ1 : Env') : Option (Rs (List M) M) → Option (Rs Env' M)
  | none => none
  | some (.ok y ys) => (puts as ys ρ1).map fun ρ2 => .ok y ρ2
  | some (.er _ _ _) => none
@[simp] theorem c_ok {as : List Aw} {y : M} {ys : List M} : afterC as ρ (some (.ok y ys)) = (puts as ys ρ).map fun ρ2 => .ok y ρ2 := rfl
def goC (n : Nat) (mf : List M → Option (Rs (List M) M)) (as : List Aw) : Option (List M × Env') → Option (Rs Env' M)
  | none => none
  | some (xs, ρ1) => if xs.length = n then afterC as ρ1 (mf xs) else none
@[simp] theorem g_ok {n : Nat} {mf : List M → Option (Rs (List M) M)} {as : List Aw} {xs : List M} : goC n mf as (some (xs, ρ)) = if xs.length = n then afterC as ρ (mf xs) else none := rfl
@[simp] theorem a_xCall {n : Nat} {mf : List M → Option (Rs (List M) M)} {m : MM (List Aw)} : xCall n mf m ρ = thB (m ρ) (fun as ρ1 => goC n mf as (takes as ρ1)) := by
  unfold xCall bindM thB
  cases m ρ with
  | none => rfl
  | some r =>
    cases r with
    | er _ _ _ => rfl
    | ok as ρ1 =>
      dsimp only
      cases takes as ρ1 with
      | none => rfl
      | some p =>
        obtain ⟨xs, ρ2⟩ := p
        dsimp only [goC]
        split
        · cases mf xs with
          | none => rfl
          | some q => cases q <;> rfl
        · rfl
@[simp] theorem a_sIdx {mk : Env' → Option PyData} {m : MM PyData} : sIdx i mk m ρ = bindM m (fun d ρ => match ρ[i]? with
  | some (some (.lst xs)) => (mk ρ).bind fun k => (ixSet xs k (.imm d)).map fun ys => .ok .nx (ρ.set i (some (.lst ys)))
  | _ => none) ρ := rfl
@[simp] theorem x_set {xs : List M} {z : Int} {y : M} : ixSet xs (.int z) y = (ixN xs.length z).map fun j => xs.set j y := rfl
@[simp] theorem a_xApp {m : MM M} : xApp i m ρ = match ρ[i]? with
  | some (some (.lst _)) => bindM m (fun y ρ1 => match ρ1[i]? with
      | some (some (.lst xs)) => if xs.length ≤ most then some (.ok (.imm .none) (ρ1.set i (some (.lst (xs ++ [y]))))) else none
      | _ => none) ρ
  | _ => none := rfl
@[simp] theorem w_nil : awM [] = some [] := rfl
@[simp] theorem w_val {d : PyData} {r : List Aw} : awM (.val d :: r) = (awM r).map fun xs => .imm d :: xs := rfl
@[simp] theorem w_own {d : M} {r : List Aw} : awM (.own d :: r) = (awM r).map fun xs => d :: xs := rfl
@[simp] theorem a_xLst {m : MM (List Aw)} : xLst m ρ = bindM m (fun as => optM ((awM as).bind fun xs => if xs.length ≤ most then some (.lst xs) else none)) ρ := rfl
@[simp] theorem x_l {xs : List M} {z : Int} : ixM (.lst xs) (.int z) = atI xs z := rfl
@[simp] theorem x_s {ns : List Int} {z : Int} : ixM (.scr ns) (.int z) = (atI ns z).map fun n => .imm (.int n) := rfl
@[simp] theorem x_d {d k : PyData} : ixM (.imm d) k = (oIx d k).map .imm := by cases k <;> rfl
@[simp] theorem a_pIx {m : Env' → Option M} {k : Int} : pIx m k ρ = (m ρ).bind fun x => ixM x (.int k) := rfl
@[simp] theorem a_eIx {m : Env' → Option M} {mk : Env' → Option PyData} : eIx m mk ρ = (m ρ).bind fun x => (mk ρ).bind fun k => (ixM x k).bind dM := rfl
@[simp] theorem a_dIxX {m : MM M} {mk : MM PyData} : dIxX m mk ρ = bindM m (fun x => bindM mk fun k => match k with
  | .int z => optM ((ixM x (.int z)).bind dM)
  | _ => fun _ => none) ρ := rfl
@[simp] theorem a_dIxV {mk : MM PyData} : dIxV i mk ρ = match ρ[i]? with
  | some (some _) => bindM mk (fun k ρ1 => match k, ρ1[i]? with
      | .int z, some (some x) => ((ixM x (.int z)).bind dM).map fun d => .ok d ρ1
      | _, _ => none) ρ
  | _ => none := rfl
@[simp] theorem a_forV {p : Pt} {mb : MM Fl} : forV i p mb ρ = match ρ[i]? with
  | some (some x) => (match lstL x with
    | some items => loopV i p mb items ρ
    | none => none)
  | _ => none := rfl
@[simp] theorem a_loopV_nil {p : Pt} {mb : MM Fl} : loopV i p mb [] ρ = some (.ok .nx ρ) := by simp only [loopV]; rfl
@[simp] theorem f_ins {c : Nat} {f : Str} {c' : Nat} {fs : List (Str × M)} : fldM c f (.ins c' fs) = if c' = c then fs.lookup f else none := rfl
@[simp] theorem f_fro {c : Nat} {f : Str} {c' : Nat} {fs : List (Str × PyData)} : fldM c f (.fro c' fs) = if c' = c then (fs.lookup f).map .imm else none := rfl
@[simp] theorem a_pFld {c : Nat} {f : Str} {m : Env' → Option M} : pFld c f m ρ = (m ρ).bind (fldM c f) := rfl
def kTab (tab : List (Str × M)) : PyData → MM M
  | .str z => fun ρ => (tab.lookup z).map fun x => .ok x ρ
  | _ => fun _ => none
@[simp] theorem a_kTab {tab : List (Str × M)} {z : Str} : kTab tab (.str z) ρ = (tab.lookup z).map fun x => .ok x ρ := rfl
@[simp] theorem a_tab {tab : List (Str × M)} {m : MM PyData} : tabM tab m ρ = thB (m ρ) (kTab tab) := by
  unfold tabM bindM thB
  cases m ρ with
  | none => rfl
  | some r =>
    cases r with
    | ok d ρ1 => cases d <;> rfl
    | er _ _ _ => rfl
@[simp] theorem o_tabIn {tab : List (Str × M)} {z : Str} : oTabIn tab (.str z) = some (.bool (tab.lookup z).isSome) := rfl
@[simp] theorem o_tabNot {tab : List (Str × M)} {z : Str} : oTabNot tab (.str z) = some (.bool (!(tab.lookup z).isSome)) := rfl
@[simp] theorem a_tabIn {tab : List (Str × M)} {m : MM PyData} : dTabIn tab m ρ = bindM m (fun d => optM (oTabIn tab d)) ρ := rfl
@[simp] theorem a_tabNot {tab : List (Str × M)} {m : MM PyData} : dTabNot tab m ρ = bindM m (fun d => optM (oTabNot tab d)) ρ := rfl
@[simp] theorem a_xCallV {n k : Nat} {Φ : Nat → List M → Option (Rs (List M) M)} {m : MM (List Aw)} : xCallV i n k Φ m ρ = match ρ[i]? with
  | some (some (.fn j)) => if j < n then xCall k (Φ j) m ρ else none
  | _ => none := rfl
@[simp] theorem a_dInX {neg : Bool} {m : MM PyData} {k : MM M} : dInX neg m k ρ = bindM m (fun d => bindM k fun x => optM (inL neg d x)) ρ := rfl
@[simp] theorem a_dInP {neg : Bool} {m : MM PyData} {k : Env' → Option M} : dInP neg m k ρ = bindM m (fun d ρ => ((k ρ).bind fun x => inL neg d x).map fun z => .ok z ρ) ρ := rfl
@[simp] theorem in_l {neg : Bool} {a : PyData} {xs : List M} : inL neg a (.lst xs) = match immL xs with | some ds => (inB a ds).map fun c => .bool (if neg then !c else c) | none => none := rfl
@[simp] theorem tup_l {xs : List M} : oTupL (.lst xs) = (immL xs).map .tuple := rfl
@[simp] theorem tup_d {ds : List PyData} : oTupL (.imm (.tuple ds)) = some (.tuple ds) := rfl
@[simp] theorem a_dTupX {m : MM M} : dTupX m ρ = bindM m (fun x => optM (oTupL x)) ρ := rfl
@[simp] theorem a_eTupP {m : Env' → Option M} : eTupP m ρ = (m ρ).bind oTupL := rfl
@[simp] theorem a_chain {o1 o2 : PyData → PyData → Option PyData} {ma mb mc : MM PyData} : dChain o1 o2 ma mb mc ρ = bindM ma (fun x => bindM mb fun y => bindM (optM (o1 x y)) fun z => match z with
  | .bool true => bindM mc fun w => optM (o2 y w)
  | .bool false => pureM (.bool false)
  | _ => fun _ => none) ρ := rfl
@[simp] theorem a_new {c : Nat} {names : List Str} {m : MM (List PyData)} : xNew c names m ρ = bindM m (fun ds => optM (if ds.length = names.length then some (.fro c (names.zip ds)) else none)) ρ := rfl
/-! #### loops by a word -/
/-- each turn of a loop keeps the word and goes on -/
theorem loop_inv {p : Pt} {mb : MM Fl} (Pv : Nat → Env' → Prop) (xs : List PyData) (h : ∀ j ρ (hj : j < xs.length), Pv j ρ → ∃ ρ', (match bindP p xs[j] ρ with | none => none | some ρ1 => mb ρ1) = some (.ok .nx ρ') ∧ Pv (j + 1) ρ') :
    ∀ (n j : Nat) (ρ : Env'), j + n = xs.length → Pv j ρ → ∃ ρ', loopM p mb (xs.drop j) ρ = some (.ok .nx ρ') ∧ Pv xs.length ρ'
  | 0, j, ρ, e, hp => by
    have e' : j = xs.length := by omega
    subst e'
    exact ⟨ρ, by rw [List.drop_length]; rfl, hp⟩
  | n + 1, j, ρ, e, hp => by
    have hj : j < xs.length := by omega
    obtain ⟨ρ', h1, h2⟩ := h j ρ hj hp
    obtain ⟨ρ2, g1, g2⟩ := loop_inv Pv xs h n (j + 1) ρ' (by omega) h2
    refine ⟨ρ2, ?_, g2⟩
    rw [List.drop_eq_getElem_cons hj]
    simp only [loopM]
    cases hb : bindP p xs[j] ρ with
    | none => rw [hb] at h1; cases h1
    | some ρ1 =>
      rw [hb] at h1
      dsimp only at h1 ⊢
      rw [h1]
      exact g1
theorem for_inv {p : Pt} {mb : MM Fl} (Pv : Nat → Env' → Prop) (xs : List PyData) (ρ : Env') (h0 : Pv 0 ρ) (h : ∀ j ρ (hj : j < xs.length), Pv j ρ → ∃ ρ', (match bindP p xs[j] ρ with | none => none | some ρ1 => mb ρ1) = some (.ok .nx ρ') ∧ Pv (j + 1) ρ') :
    ∃ ρ', loopM p mb xs ρ = some (.ok .nx ρ') ∧ Pv xs.length ρ' := by
  have := loop_inv Pv xs h xs.length 0 ρ (by omega) h0
  rwa [List.drop_zero] at this
theorem rangeL_get {lo : Int} {n j : Nat} (h : j < (rangeL lo n).length) : (rangeL lo n)[j] = .int (lo + (j : Nat)) := by
  have e : ∀ (xs : List PyData) (_ : xs = rangeL lo n) (h : j < xs.length), xs[j] = .int (lo + (j : Nat)) := fun xs ex h => by
    subst ex
    have h' : (rangeL lo n)[j]? = some (.int (lo + (j : Nat))) := by
      have hj : j < n := by rwa [rangeL_len] at h
      unfold rangeL
      rw [List.getElem?_map, List.getElem?_range hj]
      rfl
    exact (List.getElem_eq_iff h).mpr h'
  exact e _ rfl h
theorem range_inv {k : Nat} {mb : MM Fl} (Pv : Nat → Env' → Prop) (lo : Int) (n : Nat) (ρ : Env') (h0 : Pv 0 ρ) (h : ∀ j ρ, j < n → Pv j ρ → ∃ ρ', mb (ρ.set k (some (.imm (.int (lo + (j : Nat)))))) = some (.ok .nx ρ') ∧ Pv (j + 1) ρ') :
    ∃ ρ', loopM (.nm k) mb (rangeL lo n) ρ = some (.ok .nx ρ') ∧ Pv n ρ' := by
  have := for_inv (p := .nm k) (mb := mb) Pv (rangeL lo n) ρ h0 fun j ρ hj hp => by
    have hj' : j < n := by rwa [rangeL_len] at hj
    rw [rangeL_get hj, a_nm]
    exact h j ρ hj' hp
  rwa [rangeL_len] at this
theorem loopV_inv {p : Pt} {mb : MM Fl} (x : M) (Pv : Nat → Env' → Prop) (xs : List PyData) (hx : ∀ j ρ, Pv j ρ → ρ[i]? = some (some x)) (h : ∀ j ρ (hj : j < xs.length), Pv j ρ → ∃ ρ', (match bindP p xs[j] ρ with | none => none | some ρ1 => mb ρ1) = some (.ok .nx ρ') ∧ Pv (j + 1) ρ') :
    ∀ (n j : Nat) (ρ : Env'), j + n = xs.length → Pv j ρ → ∃ ρ', loopV i p mb (xs.drop j) ρ = some (.ok .nx ρ') ∧ Pv xs.length ρ'
  | 0, j, ρ, e, hp => by
    have e' : j = xs.length := by omega
    subst e'
    exact ⟨ρ, by rw [List.drop_length]; simp, hp⟩
  | n + 1, j, ρ, e, hp => by
    have hj : j < xs.length := by omega
    obtain ⟨ρ', h1, h2⟩ := h j ρ hj hp
    obtain ⟨ρ2, g1, g2⟩ := loopV_inv x Pv xs hx h n (j + 1) ρ' (by omega) h2
    refine ⟨ρ2, ?_, g2⟩
    rw [List.drop_eq_getElem_cons hj]
    simp only [loopV]
    cases hb : bindP p xs[j] ρ with
    | none => rw [hb] at h1; cases h1
    | some ρ1 =>
      rw [hb] at h1
      dsimp only at h1 ⊢
      rw [h1]
      dsimp only
      rw [if_pos ((hx _ _ h2).trans (hx _ _ hp).symm)]
      exact g1
theorem forV_inv {p : Pt} {mb : MM Fl} (x : M) (Pv : Nat → Env' → Prop) (xs : List PyData) (ρ : Env') (hx : ∀ j ρ, Pv j ρ → ρ[i]? = some (some x)) (h0 : Pv 0 ρ) (h : ∀ j ρ (hj : j < xs.length), Pv j ρ → ∃ ρ', (match bindP p xs[j] ρ with | none => none | some ρ1 => mb ρ1) = some (.ok .nx ρ') ∧ Pv (j + 1) ρ') :
    ∃ ρ', loopV i p mb xs ρ = some (.ok .nx ρ') ∧ Pv xs.length ρ' := by
  have := loopV_inv x Pv xs hx h xs.length 0 ρ (by omega) h0
  rwa [List.drop_zero] at this
end
section
variable {S : List Nat} {L : Nat} {m : MM Fl} {ρ : Env'}
def finX (S : List Nat) (xs : List M) : Option (Rs Env' Fl) → Option (Rs (List M) M)
  | some (.ok (.rt y) ρ) => (backs S 0 xs ρ).map fun ys => .ok y ys
  | some (.ok .nx ρ) => (backs S 0 xs ρ).map fun ys => .ok (.imm .none) ys
  | _ => none
@[simp] theorem finX_rt {xs : List M} {y : M} : finX S xs (some (.ok (.rt y) ρ)) = (backs S 0 xs ρ).map fun ys => .ok y ys := rfl
@[simp] theorem finX_nx {xs : List M} : finX S xs (some (.ok .nx ρ)) = (backs S 0 xs ρ).map fun ys => .ok (.imm .none) ys := rfl
theorem a_runX {xs : List M} : runX S L m xs = finX S xs (m (xs.map some ++ List.replicate (L - xs.length) none)) := rfl
def finD : Option (Rs Env' Fl) → Option PyData
  | some (.ok (.rt (.imm d)) _) => some d
  | some (.ok .nx _) => some .none
  | _ => none
@[simp] theorem finD_rt {d : PyData} : finD (some (.ok (.rt (.imm d)) ρ)) = some d := rfl
@[simp] theorem finD_nx : finD (some (.ok .nx ρ)) = some .none := rfl
theorem a_runD {ds : List PyData} : runD L m ds = finD (m (ds.map (fun d => some (.imm d)) ++ List.replicate (L - ds.length) none)) := rfl
end
/-! ### texts that are written -/
def tg (s : Str) : Nat := s.cps.toList.foldl (fun h c => h * 1114112 + (c + 1)) 0
theorem tg_ne {a b : Str} (h : (tg a == tg b) = false) : (a = b) = False := eq_false fun e => by
  subst e
  simp at h
theorem tg_bne {a b : Str} (h : (tg a == tg b) = false) : (a == b) = false := beq_eq_false_iff_ne.mpr fun e => by
  subst e
  simp at h
theorem lookup_ne {β : Type} {a b : Str} {x : β} {xs : List (Str × β)} (h : (tg a == tg b) = false) : List.lookup a ((b, x) :: xs) = List.lookup a xs := by
  rw [List.lookup_cons, tg_bne h]
theorem lookup_eq {β : Type} {a : Str} {x : β} {xs : List (Str × β)} : List.lookup a ((a, x) :: xs) = some x := by
  rw [List.lookup_cons, beq_self_eq_true]
theorem le_most (n : Nat) : (n ≤ most) = (n ≤ 1000000) := propext ⟨fun h => h, fun h => h⟩
theorem in_big (i : Int) : (-big62 ≤ i ∧ i < big62) = (-4611686018427387904 ≤ i ∧ i < 4611686018427387904) := propext ⟨fun h => h, fun h => h⟩
/-! ### a digit drawn -/
def BX (ds : List Int) (k : Nat) : M := .lst [.lst (ds.map fun i => .imm (.int i)), .imm (.int k)]
def dr (ds : List Int) (k : Nat) (m : Int) : Int := match ds[k]? with
  | some z => z.fmod m
  | none => 0
theorem dr_nn (ds : List Int) (k : Nat) {m : Int} (h : 0 < m) : 0 ≤ dr ds k m := by
  unfold dr
  split
  · exact Int.fmod_nonneg_of_pos _ h
  · exact Int.le_refl _
theorem dr_lt (ds : List Int) (k : Nat) {m : Int} (h : 0 < m) : dr ds k m < m := by
  unfold dr
  split
  · exact Int.fmod_lt_of_pos _ h
  · exact h
theorem at_ints (ds : List Int) (k : Nat) (h : k < ds.length) : atI (ds.map fun i => M.imm (.int i)) (k : Int) = some (.imm (.int ds[k])) := by
  rw [at_n (j := k) (by rw [List.length_map]; exact h) rfl, List.getElem_map]
theorem bits_log {z : Int} (h : Builtin.Int.intBits z ≤ 1048576) : z.natAbs.log2 ≤ 1048576 := by
  unfold Builtin.Int.intBits at h
  split at h
  · rename_i e
    have : z = 0 := by simpa using e
    subst this
    decide
  · omega
theorem log2_small {z : Int} {n : Nat} (h1 : 0 < n) (h : z.natAbs < 2 ^ n) : z.natAbs.log2 < n := PySem.Flt.log2_lt_of h1 h
/-- the digits as a list in a name -/
def LI (ds : List Int) : M := .lst (ds.map fun i => .imm (.int i))
theorem LI_app (ds : List Int) (z : Int) : M.lst (ds.map (fun i => .imm (.int i)) ++ [.imm (.int z)]) = LI (ds ++ [z]) := by
  unfold LI
  rw [List.map_append]
  rfl
theorem mulX_log {i j : Int} {a b : Nat} (h1 : i.natAbs.log2 ≤ a) (h2 : j.natAbs.log2 ≤ b) (h : a + b < 134000000) : CMulX i j := by
  unfold CMulX
  omega
theorem log_neg {z : Int} (h : z.natAbs.log2 ≤ 1048576) : (1 - 2 * z).natAbs.log2 ≤ 1048578 := by
  have h1 : z.natAbs < 2 ^ 1048577 := by
    by_cases e : z.natAbs = 0
    · rw [e]
      exact Nat.two_pow_pos _
    · exact (Nat.log2_lt e).mp (by omega)
  have h2 : (1 - 2 * z).natAbs < 2 ^ 1048579 := by
    have e : 2 ^ 1048579 = 4 * 2 ^ 1048577 := by
      rw [show (1048579 : Nat) = 1048577 + 2 from rfl, Nat.pow_add, Nat.mul_comm]
    rw [e]
    generalize 2 ^ 1048577 = p at h1
    omega
  exact Nat.le_of_lt_succ (PySem.Flt.log2_lt_of (by decide) h2)
theorem mulX_nat {i j : Int} (h1 : i.natAbs < 10 ^ 70) (h2 : j.natAbs < 10 ^ 70) : CMulX i j := by
  have two240 : (10 ^ 70 : Nat) < 2 ^ 240 := by decide +kernel
  exact mulX_log (a := 240) (b := 240) (Nat.le_of_lt (log2_small (by decide) (Nat.lt_trans h1 two240))) (Nat.le_of_lt (log2_small (by decide) (Nat.lt_trans h2 two240))) (by decide)
theorem str_at (s : Str) (z : Int) (h0 : 0 ≤ z) (h1 : z < s.length) : ∃ c, atI s.cps.toList z = some c := by
  have h2 : s.cps.toList.length = s.length := by
    rw [Array.length_toList]
    rfl
  have := at_n (xs := s.cps.toList) (j := z.toNat) (z := z) (by omega) (by omega)
  exact ⟨_, this⟩
theorem mk_len (xs : List Nat) : (mkS xs).length = xs.length := by
  show xs.toArray.size = _
  simp
theorem app_len (a b : Str) : (a ++ b).length = a.length + b.length := by
  show (a.cps ++ b.cps).size = _
  rw [Array.size_append]
  rfl
theorem dr_big (ds : List Int) (k : Nat) (m : Int) (h0 : 0 < m) (h1 : m ≤ 1000000) : (-4611686018427387904 ≤ dr ds k m ∧ dr ds k m < 4611686018427387904) = True := eq_true ⟨by have := dr_nn ds k h0; omega, by have := dr_lt ds k h0; omega⟩
/-! ### the head by facts -/
mutual
theorem klitB_ok {K : PySem.W.Frag} : ∀ {d : PyData} {u : Value}, klitB K d u = true → KLit K u d
  | .none, u, h => by
    cases u <;> first | exact .none | (simp only [klitB] at h; cases h)
  | .bool b, u, h => by
    cases u with
    | bool c =>
      simp only [klitB] at h
      have := beq_iff_eq.mp h
      subst this
      exact .bool b
    | _ => simp only [klitB] at h; cases h
  | .int i, u, h => by
    cases u with
    | int j t =>
      simp only [klitB] at h
      have := of_decide_eq_true h
      subst this
      exact .int j t
    | _ => simp only [klitB] at h; cases h
  | .str s, u, h => by
    cases u with
    | str j t =>
      simp only [klitB] at h
      have := of_decide_eq_true h
      subst this
      exact .str j t
    | _ => simp only [klitB] at h; cases h
  | .tuple ds, u, h => by
    cases u with
    | ref a =>
      simp only [klitB] at h
      cases q : K.lookup a with
      | none => rw [q] at h; cases h
      | some o =>
        obtain ⟨oc, od, dt, osl⟩ := o
        rw [q] at h
        cases od with
        | some _ => cases oc <;> cases dt <;> cases h
        | none =>
        cases oc with
        | type c =>
          cases dt with
          | seq its n =>
            have h0 : (decide (c = "tuple") && (decide (its.toList.length ≤ 1000) && klitsB K ds its.toList)) = true := h
            obtain ⟨h1, h2⟩ := He.ba h0
            obtain ⟨h3, h4⟩ := He.ba h2
            have e := of_decide_eq_true h1
            subst e
            exact .tup q rfl (of_decide_eq_true h3) (klitsB_ok h4)
          | _ => cases h
        | _ => cases dt <;> cases h
    | _ => simp only [klitB] at h; cases h
  | .list _, _, h => by simp only [klitB] at h; cases h
  | .dict _, _, h => by simp only [klitB] at h; cases h
theorem klitsB_ok {K : PySem.W.Frag} : ∀ {ds : List PyData} {us : List Value}, klitsB K ds us = true → KLits K us ds
  | [], us, h => by
    simp only [klitsB] at h
    rw [List.isEmpty_iff.mp h]
    exact .nil
  | d :: ds, us, h => by
    cases us with
    | nil => simp only [klitsB] at h; cases h
    | cons u us =>
      simp only [klitsB] at h
      obtain ⟨h1, h2⟩ := He.ba h
      exact .cons (klitB_ok h1) (klitsB_ok h2)
end
section
variable {K : PySem.W.Frag} {h : Heap} {mg : Str → Option Value}
theorem con_ok (X : K.In h) (G : h.Ns mainGlobals mg) {x : Str} {d : PyData} (c : (Fx.con x d).ok K = true) : ∃ u, mg x = some u ∧ KLit K u d := by
  have c2 : (match PySem.W.nsIn K mainGlobals x with
    | some (some u) => klitB K d u
    | _ => false) = true := c
  cases e : PySem.W.nsIn K mainGlobals x with
  | none => rw [e] at c2; cases c2
  | some o =>
    rw [e] at c2
    cases o with
    | none => cases c2
    | some u => exact ⟨u, PySem.W.mg_of X G e, klitB_ok c2⟩
theorem ent_ok {t z f : Str} (c : (Fx.ent t z f).ok K = true) : PySem.W.nsIn K (He.ga K t) z = some (some (.ref (He.ga K f))) := He.eqO_ok c
theorem dat_ok {t z : Str} {d : PyData} (c : (Fx.dat t z d).ok K = true) : ∃ u, PySem.W.nsIn K (He.ga K t) z = some (some u) ∧ KLit K u d := by
  have c2 : (match PySem.W.nsIn K (He.ga K t) z with
    | some (some u) => klitB K d u
    | _ => false) = true := c
  cases e : PySem.W.nsIn K (He.ga K t) z with
  | none => rw [e] at c2; cases c2
  | some o =>
    rw [e] at c2
    cases o with
    | none => cases c2
    | some u => exact ⟨u, rfl, klitB_ok c2⟩
theorem ne_ok {a b : Str} (c : (Fx.ne a b).ok K = true) : He.ga K a ≠ He.ga K b := by
  have c2 : (!(He.ga K a == He.ga K b)) = true := c
  intro e
  rw [e, beq_self_eq_true] at c2
  cases c2
end
theorem keysAre_of {P : Params} : ∀ {l : List DictEntry} {ks : List Str}, l.map He.keyOf = He.keysIn P ks → KeysAre l ks
  | [], [], _ => True.intro
  | [], k :: ks, h => by cases h
  | e :: r, [], h => by cases h
  | e :: r, k :: ks, h => by
    have h1 : He.keyOf e :: r.map He.keyOf = some (k, PyData.keyHash P k) :: He.keysIn P ks := h
    injection h1 with h2 h3
    refine ⟨?_, keysAre_of h3⟩
    unfold He.keyOf at h2
    split at h2
    · rename_i x t q
      obtain ⟨h5, h6⟩ := Prod.mk.inj (Option.some.inj h2)
      exact ⟨t, by rw [q, h5]⟩
    · cases h2
theorem dicK_ok {K : PySem.W.Frag} {w : World} {a : Addr} {ks : List Str} (h : He.dicW K a = some (He.keysIn w.params ks)) : ∃ es n, KDict K w a es n ∧ KeysAre es.toList ks := by
  obtain ⟨es, n, D⟩ := He.dicW_ok h
  refine ⟨es, n, D, ?_⟩
  have l := D.at_
  unfold He.dicW at h
  rw [l] at h
  have h1 : (match decide ("dict" = "dict") && ((#[] : Array (Option Value)).isEmpty && !(a == sysModules)) with
    | true => some (es.toList.map He.keyOf)
    | false => none) = some (He.keysIn w.params ks) := h
  cases z : decide ("dict" = "dict") && ((#[] : Array (Option Value)).isEmpty && !(a == sysModules)) with
  | false => rw [z] at h1; cases h1
  | true =>
    rw [z] at h1
    exact keysAre_of (Option.some.inj h1)
section
variable {fa : List He.Fa} {fn : List He.FnD} {ts : List He.Tab} {ex : List Fx} {w : World} {K : PySem.W.Frag}
theorem SaysM.e (c : SaysM fa fn ts ex w K) : He.SaysE fa fn K := congrArg (fun z : AlM => z.1.1) c
theorem SaysM.fact (c : SaysM fa fn ts ex w K) (i : Nat) {f : He.Fa} (h : fa[i]? = some f := by rfl) : f.ok K = true := c.e.fact i h
theorem SaysM.two (c : SaysM fa fn ts ex w K) : (ex.all fun f => f.ok K) = true ∧ (fn.all fun d => PySem.W.keepIn K (.ref (He.fAd K d.at_))) = true :=
  He.ba (show ((ex.all fun f => f.ok K) && fn.all fun d => PySem.W.keepIn K (.ref (He.fAd K d.at_))) = true from congrArg (fun z : AlM => z.2) c)
theorem SaysM.fx (c : SaysM fa fn ts ex w K) (i : Nat) {f : Fx} (h : ex[i]? = some f := by rfl) : f.ok K = true := List.all_eq_true.mp c.two.1 f (List.mem_of_getElem? h)
theorem SaysM.tab (c : SaysM fa fn ts ex w K) (i : Nat) {t : He.Tab} (h : ts[i]? = some t := by rfl) : ∃ es n, KDict K w (t.1 K) es n ∧ KeysAre es.toList t.2 := by
  have e : ts.map (fun t => He.dicW K (t.1 K)) = ts.map fun t => some (He.keysIn w.params t.2) := congrArg (fun z : AlM => z.1.2) c
  have e2 : (ts.map fun t => He.dicW K (t.1 K))[i]? = (ts.map fun t => some (He.keysIn w.params t.2))[i]? := by rw [e]
  rw [List.getElem?_map, List.getElem?_map, h] at e2
  exact dicK_ok (Option.some.inj e2)
theorem SaysM.fun_ (c : SaysM fa fn ts ex w K) (i : Nat) {a : Str × Option Str} {x qual : Str} {st : Stmt} {f : Addr} (h : fn[i]? = some ⟨a, x, qual, defArgs st, defBody st, defScope st⟩ := by rfl) (ha : He.fAd K a = f := by rfl) : ∃ fd, Fun K x qual st f fd := by
  obtain ⟨oc, od, osl, kV, doc, pm, an, cdv, ct, l, cc⟩ := c.e.def_ i h
  have k := List.all_eq_true.mp c.two.2 _ (List.mem_of_getElem? h)
  subst ha
  exact ⟨_, fun_mk l cc k⟩
end
/-- a law's end over a head by facts, its numbers bounded -/
theorem walk_ofEB {l : PySem.W.OpenLaw} {n k : Nat} {q : Program} {loose : List Str} {XP : (Str → Option Value) → Heap → Prop} {YP : World → Heap → Prop} {d : DefRec} {CX : CXT} {x : Str}
    (hn : l.most = some n) (hn2 : n ≤ sizeLine) (hdf : d.params.defaults = []) (hr : Room k callerA)
    (F : ∀ (w : World) (mg : Str → Option Value) (fa : Addr) (h : Heap), YP w h → h.Ns mainGlobals mg → mg d.name = some (.ref fa) →
      ∃ (K : PySem.W.Frag) (fd : FuncData) (sp : Sp), K.In h ∧ (∀ (s : Shared) (u : Value), BindsTo s fd ⟨[u], []⟩ [(x, u)]) ∧
        (∀ (H : Hp) (a : Addr) (ns : List Int), ns.length ≤ n → (∀ z ∈ ns, Builtin.Int.intBits z ≤ 1048576) → Only H → SqL K H a (ns.map V.int) → sp [.ref a] H (fun v _ => v = .bl true) fun _ _ _ => False) ∧
        ∀ base : Heap, K.In base → base.Ns mainGlobals mg → FnOk l.prog w K mg base CX k fa fd [x] sp)
    (hCX : ∀ (H : Hp) (s : Shared) (e : Value) (s' : Shared), CX [] H s (fun _ _ _ => False) e s' → False) :
    PySem.W.WalkO q loose XP YP l.row.toRowW d [] (fun f vs => PySem.call f vs) := by
  refine Att.attach_callB hn hdf fun w s₀ s₁ mg mb fa o pm cd doc a vs ns G Y ho hd hcd hmg hobj hints hlen hbits hg => ?_
  obtain ⟨K, fd, sp, KX, hb, hsp, hF⟩ := F w mg fa _ Y G.T.g hmg
  exact law_call KX G.T.g G.T.b G.T.builtins G.T.nolimit hg hobj hints (Nat.le_trans hlen hn2) hr hF hb (fun H hO hS => hsp H a ns hlen hbits hO hS) fun H e s' => hCX H s₁ e s'
theorem putF_new {fs : List (Str × V)} {n : Str} {v : V} (h : (fs.map Prod.fst).contains n = false) : putF n v fs = fs ++ [(n, v)] := by
  induction fs with
  | nil => rfl
  | cons p r ih =>
    obtain ⟨m, u⟩ := p
    rw [List.map_cons, List.contains_cons, Bool.or_eq_false_iff] at h
    have e : (m == n) = false := by
      have h1 := beq_eq_false_iff_ne.mp h.1
      exact beq_eq_false_iff_ne.mpr fun e => h1 e.symm
    have e2 : ¬ m = n := beq_eq_false_iff_ne.mp e
    unfold putF
    first
      | rw [if_neg e2, ih h.2]; rfl
      | (simp only [e, e2, ih h.2, if_false, List.cons_append]; done)
      | (simp [e2, ih h.2])
/-! ### loops, turn by turn -/
section
variable {ρ : Env'} {i : Nat}
def thL (k : MM Fl) : Option (Rs Env' Fl) → Option (Rs Env' Fl)
  | none => none
  | some (.ok .nx ρ2) => k ρ2
  | some (.ok .ct ρ2) => k ρ2
  | some (.ok .bk ρ2) => some (.ok .nx ρ2)
  | some (.ok (.rt x) ρ2) => some (.ok (.rt x) ρ2)
  | some (.er c fs ρ2) => some (.er c fs ρ2)
@[simp] theorem thL_none {k : MM Fl} : thL k none = none := rfl
@[simp] theorem thL_nx {k : MM Fl} : thL k (some (.ok .nx ρ)) = k ρ := rfl
@[simp] theorem thL_ct {k : MM Fl} : thL k (some (.ok .ct ρ)) = k ρ := rfl
@[simp] theorem thL_bk {k : MM Fl} : thL k (some (.ok .bk ρ)) = some (.ok .nx ρ) := rfl
@[simp] theorem thL_rt {k : MM Fl} {x : M} : thL k (some (.ok (.rt x) ρ)) = some (.ok (.rt x) ρ) := rfl
@[simp] theorem thL_er {k : MM Fl} {c : Nat} {fs : List (Str × PyData)} : thL k (some (.er c fs ρ)) = some (.er c fs ρ) := rfl
theorem loop_cons {p : Pt} {mb : MM Fl} {d : PyData} {ds : List PyData} : loopM p mb (d :: ds) ρ = (bindP p d ρ).bind fun ρ1 => thL (loopM p mb ds) (mb ρ1) := by
  show (match bindP p d ρ with | none => none | some ρ1 => _) = _
  cases bindP p d ρ with
  | none => rfl
  | some ρ1 =>
    dsimp only [Option.bind_some]
    cases mb ρ1 with
    | none => rfl
    | some r =>
      cases r with
      | ok f ρ2 => cases f <;> rfl
      | er _ _ _ => rfl
theorem num_cons {j : Nat} {d : PyData} {ds : List PyData} : numL j (d :: ds) = .tuple [.int (j : Int), d] :: numL (j + 1) ds := rfl
@[simp] theorem num_nil {j : Nat} : numL j [] = [] := rfl
theorem range_cons {j : Nat} {n : Nat} : rangeL (j : Int) (n + 1) = .int (j : Int) :: rangeL ((j + 1 : Nat) : Int) n := by
  unfold rangeL
  rw [List.range_succ_eq_map, List.map_cons, List.map_map]
  refine congr (congrArg _ (by simp)) (List.map_congr_left fun a _ => ?_)
  show PyData.int _ = PyData.int _
  congr 1
  show (j : Int) + ((a + 1 : Nat) : Int) = ((j + 1 : Nat) : Int) + (a : Int)
  omega
@[simp] theorem range_nil {lo : Int} : rangeL lo 0 = [] := rfl
end
/-! ### is True, is False -/
section
variable {K : PySem.W.Frag}
def oIsB : PyData → PyData → Option PyData
  | .bool a, .bool b => some (.bool (decide (a = b)))
  | _, _ => none
def oIsNotB : PyData → PyData → Option PyData
  | .bool a, .bool b => some (.bool (!decide (a = b)))
  | _, _ => none
theorem snd_isB : Snd2 K (fun x y H Q => ∃ a b, x = .bl a ∧ y = .bl b ∧ Q (.bl (decide (a = b))) H) oIsB := by
  intro H x y p q z Q dx nx dy ny h k
  cases p with
  | bool a =>
    cases q with
    | bool b =>
      cases h
      cases dy
      cases dx
      exact ⟨a, b, rfl, rfl, k _ H (Same.refl H) (.bl _) rfl⟩
    | _ => cases h
  | _ => cases q <;> cases h
theorem snd_isNotB : Snd2 K (fun x y H Q => ∃ a b, x = .bl a ∧ y = .bl b ∧ Q (.bl (!decide (a = b))) H) oIsNotB := by
  intro H x y p q z Q dx nx dy ny h k
  cases p with
  | bool a =>
    cases q with
    | bool b =>
      cases h
      cases dy
      cases dx
      exact ⟨a, b, rfl, rfl, k _ H (Same.refl H) (.bl _) rfl⟩
    | _ => cases h
  | _ => cases q <;> cases h
@[simp] theorem o_isB {a b : Bool} : oIsB (.bool a) (.bool b) = some (.bool (decide (a = b))) := rfl
@[simp] theorem o_isNotB {a b : Bool} : oIsNotB (.bool a) (.bool b) = some (.bool (!decide (a = b))) := rfl
end
/-! ### list comprehensions -/
/-- the block's own names forgotten -/
def wipeM (ρ : Env') : List Nat → Env'
  | [] => ρ
  | v :: vs => (wipeM ρ vs).set v none
section
variable {K : PySem.W.Frag} {T : Tb} {H : Hp}
theorem EnvR.clr : ∀ {σ : L2.St} {ρ : Env'} {F : List Addr} (v : Nat), EnvR K T H σ ρ F → F.Nodup → ∃ F', EnvR K T H (σ.set v none) (ρ.set v none) F' ∧ F'.Nodup ∧ ∀ b ∈ F', b ∈ F
  | _, _, _, v, .nil, n => ⟨[], .nil, n, fun _ h => h⟩
  | _, _, _, 0, .no r, n => ⟨_, .no r, n, fun _ h => h⟩
  | _, _, _, 0, .yes (f := f) a r, n => ⟨_, .no r, (List.nodup_append.mp n).2.1, fun b hb => List.mem_append_right _ hb⟩
  | _, _, _, v + 1, .no r, n => by
    obtain ⟨F', h1, h2, h3⟩ := EnvR.clr v r n
    exact ⟨F', .no h1, h2, h3⟩
  | _, _, _, v + 1, .yes a r, n => by
    have nn := List.nodup_append.mp n
    obtain ⟨F', h1, h2, h3⟩ := EnvR.clr v r nn.2.1
    refine ⟨_, .yes a h1, List.nodup_append.mpr ⟨nn.1, h2, fun b hb c hc => nn.2.2 b hb c (h3 c hc)⟩, fun b hb => ?_⟩
    rcases List.mem_append.mp hb with z | z
    · exact List.mem_append_left _ z
    · exact List.mem_append_right _ (h3 b z)
theorem EnvR.unclr : ∀ {σ : L2.St} {ρ : Env'} {F : List Addr} (v : Nat), EnvR K T H (σ.set v none) (ρ.set v none) F → EnvR K T H σ (ρ.set v none) F
  | [], [], _, _, E => E
  | [], _ :: _, _, 0, E => by cases E
  | [], _ :: _, _, _ + 1, E => by cases E
  | _ :: _, [], _, 0, E => by cases E
  | _ :: _, [], _, _ + 1, E => by cases E
  | o :: σ, x :: ρ, _, 0, E => by
    cases E with
    | no r => exact .no r
  | o :: σ, x :: ρ, _, v + 1, E => by
    cases E with
    | no r => exact .no (EnvR.unclr v r)
    | yes a r => exact .yes a (EnvR.unclr v r)
theorem wipe_set (σ : L2.St) (v : Nat) : ∀ vs : List Nat, wipe (σ.set v none) vs = (wipe σ vs).set v none
  | [] => rfl
  | u :: vs => by
    unfold wipe
    rw [wipe_set σ v vs]
    by_cases e : u = v
    · subst e
      rfl
    · rw [List.set_comm _ _ fun h => e h.symm]
theorem wipeM_set (σ : Env') (v : Nat) : ∀ vs : List Nat, wipeM (σ.set v none) vs = (wipeM σ vs).set v none
  | [] => rfl
  | u :: vs => by
    unfold wipeM
    rw [wipeM_set σ v vs]
    by_cases e : u = v
    · subst e
      rfl
    · rw [List.set_comm _ _ fun h => e h.symm]
theorem wipeM_len (ρ : Env') : ∀ vs : List Nat, (wipeM ρ vs).length = ρ.length
  | [] => rfl
  | v :: vs => by unfold wipeM; rw [List.length_set, wipeM_len ρ vs]
theorem EnvR.wipe {σ : L2.St} {ρ : Env'} : ∀ {F : List Addr} (vs : List Nat), EnvR K T H σ ρ F → F.Nodup → ∃ F', EnvR K T H (wipe σ vs) (wipeM ρ vs) F' ∧ F'.Nodup ∧ ∀ b ∈ F', b ∈ F
  | _, [], E, n => ⟨_, E, n, fun _ h => h⟩
  | _, v :: vs, E, n => by
    obtain ⟨F1, h1, h2, h3⟩ := EnvR.wipe vs E n
    obtain ⟨F2, g1, g2, g3⟩ := h1.clr v h2
    exact ⟨F2, g1, g2, fun b hb => h3 b (g3 b hb)⟩
theorem EnvR.unwipe {σ : L2.St} {F : List Addr} : ∀ (vs : List Nat) {ρ : Env'}, EnvR K T H (L2.wipe σ vs) (wipeM ρ vs) F → EnvR K T H σ (wipeM ρ vs) F
  | [], _, E => E
  | v :: vs, ρ, E => by
    unfold L2.wipe wipeM at E
    have E1 := EnvR.unclr v E
    have E2 : EnvR K T H (L2.wipe σ vs) (wipeM (ρ.set v none) vs) F := by
      rw [wipeM_set]
      exact E1
    have E3 := EnvR.unwipe vs E2
    rw [wipeM_set] at E3
    exact E3
end
/-- the turns of a list comprehension -/
def lcL (p : Pt) (vs : List Nat) (mt : MM Bool) (me : MM M) : List PyData → List M → MM M
  | [], acc => fun ρ => some (.ok (.lst acc) ρ)
  | d :: ds, acc => fun ρ => match bindP p d ρ with
    | none => none
    | some ρ1 => match mt ρ1 with
      | some (.ok true ρ2) => (match me ρ2 with
        | some (.ok x ρ3) => if acc.length ≤ most then lcL p vs mt me ds (acc ++ [x]) (wipeM ρ3 vs) else none
        | _ => none)
      | some (.ok false ρ2) => lcL p vs mt me ds acc (wipeM ρ2 vs)
      | _ => none
def xLc (L : Nat) (p : Pt) (vs : List Nat) (mi : MM (List PyData)) (mt : MM Bool) (me : MM M) : MM M := bindM mi fun items ρ => if ρ.length = L then lcL p vs mt me items [] (wipeM ρ vs) else none
structure QTs (T : Tb) (X : Cx) (W : WXk) (es : List Expr) (m : MM Bool) : Prop where
  ex : ∃ t : TT, PTs X es t ∧ ∀ (σ : L2.St) (H : Hp) (ρ : Env') (F : List Addr) (r : Rs Env' Bool) (Q : Bool → Hp → Prop), EnvR X.K T H σ ρ F → F.Nodup → m ρ = some r → GoT X.K T W H F σ r Q → t σ H Q
section
variable {T : Tb} {X : Cx} {W : WXk} {e c elt tg iter : Expr}
theorem qts_nil : QTs T X W [] (pureM true) := by
  refine ⟨tYes, pts_nil, fun σ H ρ F r Q E n hm k => ?_⟩
  cases hm
  exact k H F E n (Mv.refl fun _ h => h)
theorem qts_one {m : MM Bool} (h : QT T X W c m) : QTs T X W [c] m := by
  obtain ⟨t, h1, q⟩ := h.ex
  exact ⟨t, pts_one h1, q⟩
theorem bind_len : ∀ {p : Pt} {d : PyData} {ρ ρ' : Env'}, bindP p d ρ = some ρ' → ρ'.length = ρ.length
  | .nm i, d, ρ, ρ', h => by
    rw [bindP] at h
    cases h
    rw [List.length_set]
  | .tp ps, d, ρ, ρ', h => by
    cases d with
    | tuple ds =>
      rw [bindP] at h
      exact binds_len h
    | _ => simp [bindP] at h
where
  binds_len : ∀ {ps : List Pt} {ds : List PyData} {ρ ρ' : Env'}, bindPs ps ds ρ = some ρ' → ρ'.length = ρ.length
  | [], ds, ρ, ρ', h => by
    cases ds with
    | nil => rw [bindPs] at h; cases h; rfl
    | cons _ _ => simp [bindPs] at h
  | p :: ps, [], ρ, ρ', h => by simp [bindPs] at h
  | p :: ps, d :: ds, ρ, ρ', h => by
    rw [bindPs] at h
    cases hb : bindP p d ρ with
    | none => rw [hb] at h; cases h
    | some ρ1 =>
      rw [hb] at h
      rw [binds_len h, bind_len hb]
theorem wipe_keep {σ σ' : L2.St} {vs : List Nat} (hl : σ'.length = σ.length) (h : ∀ i, i ∉ vs → σ'[i]? = σ[i]?) : wipe σ' vs = wipe σ vs := by
  apply List.ext_getElem?
  intro i
  by_cases hi : i ∈ vs
  · have e : ∀ (τ : L2.St), (wipe τ vs)[i]? = if i < τ.length then some none else none := fun τ => by
      clear h hl
      induction vs with
      | nil => cases hi
      | cons v vs ih =>
        unfold wipe
        by_cases e : v = i
        · subst e
          rw [List.getElem?_set]
          simp [wipe_length]
        · rw [List.getElem?_set_ne e]
          exact ih (by
            rcases List.mem_cons.mp hi with z | z
            · exact absurd z.symm e
            · exact z)
    rw [e, e, hl]
  · rw [wipe_out hi, wipe_out hi, h i hi]
theorem wipe_wipe (σ : L2.St) (vs : List Nat) : wipe (wipe σ vs) vs = wipe σ vs := wipe_keep (wipe_length σ vs) fun _ hi => wipe_out hi
end
section
variable {T : Tb} {X : Cx} {W : WXk} {e c elt tg iter : Expr} {ifs : List Expr} {scope : Scope} {own : List (Str × Nat)} {pos : Pos}
theorem frame_keep {H H' : Hp} {f F F' : List Addr} (n : (f ++ F).Nodup) (w : WrA T H F) (m : Mv F H F' H') : Kp T f H H' := m.c.kp w fun b hb hf => (List.nodup_append.mp n).2.2 b hb b hf rfl
theorem qx_lc {L : Nat} {S : List Nat} {p : Pt} {mi : MM (List PyData)} {mt : MM Bool} {me : MM M} (hc : X.calm = true) (hN : X.N.Nodup) (hi : QI T X W tg iter mi) (ok : BlkOk X.N X.env.scope scope own)
    (hS : ∀ i < L, i ∈ S ∨ i ∈ own.map (·.2))
    (hg : ∀ (s : Shared) (H : Hp) (C : Addr) (cl : List (Str × Addr)) (fp : List Addr), QG T S (X.blk s H scope (compEnvC scope cl C X.env) fp) tg p)
    (ht : ∀ (s : Shared) (H : Hp) (C : Addr) (cl : List (Str × Addr)) (fp : List Addr), QTs T (X.blk s H scope (compEnvC scope cl C X.env) fp) W ifs mt)
    (he : ∀ (s : Shared) (H : Hp) (C : Addr) (cl : List (Str × Addr)) (fp : List Addr), QX T (X.blk s H scope (compEnvC scope cl C X.env) fp) W elt me)
    (hs : ∀ x, foldedSetIterable iter X.env x = pure x := by intro _; rfl) :
    QX T X W (.ListComp elt [⟨tg, iter, ifs, 0⟩] scope pos) (xLc L p (own.map (·.2)) mi mt me) := by
  obtain ⟨wi, h1, q1⟩ := hi.ex
  refine ⟨_, pe_lc hc hN h1 ok (g := fun v σ H Q => ∀ s H0 C cl fp, (hg s H0 C cl fp).ex.choose v σ H Q) (tt := fun σ H Q => ∀ s H0 C cl fp, (ht s H0 C cl fp).ex.choose σ H Q) (te := fun σ H Q => ∀ s H0 C cl fp, (he s H0 C cl fp).ex.choose σ H Q)
    (fun s H0 C cl fp => ⟨fun pins s' σ H v u Q I q h => (hg s H0 C cl fp).ex.choose_spec.1.run pins s' σ H v u Q I q (h s H0 C cl fp)⟩)
    (fun s H0 C cl fp => ⟨fun pins s' σ H Q I h => (ht s H0 C cl fp).ex.choose_spec.1.run pins s' σ H Q I (h s H0 C cl fp)⟩)
    (fun s H0 C cl fp => ⟨fun pins s' σ H Q I h => (he s H0 C cl fp).ex.choose_spec.1.run pins s' σ H Q I (h s H0 C cl fp)⟩) hs, fun σ H ρ F r Q E n hm k => ?_⟩
  generalize own.map (·.2) = vs at hm hS ⊢
  unfold xLc bindM at hm
  cases hd : mi ρ with
  | none => rw [hd] at hm; cases hm
  | some r1 =>
    rw [hd] at hm
    refine q1 σ H ρ F r1 _ E n hd ?_
    cases r1 with
    | er c fs ρ1 => cases hm; exact k
    | ok items ρ1 =>
      by_cases hL : ρ1.length = L
      case neg =>
        dsimp only at hm
        rw [if_neg hL] at hm
        cases hm
      case pos =>
      dsimp only at hm
      rw [if_pos hL] at hm
      intro J H1 fp F1 G it gk g1 w1 E1 n1 m1 D hD
      obtain ⟨Fw, Ew, nw, sw⟩ := E1.wipe vs (List.nodup_append.mp n1).2.1
      let Iv : List PyData → Hp → Prop := fun ds H' => ∃ (vl : List V) (xs : List M) (fx : List Addr) (ρ' : Env') (F' : List Addr), H' D = some (.lst vl) ∧ Reps X.K T H' vl xs fx ∧ EnvR X.K T H' (wipe σ vs) (wipeM ρ' vs) F' ∧ ρ'.length = L ∧ ((fp ++ (D :: fx)) ++ F').Nodup ∧ G H' ∧ WrA T H' fp ∧ Mv F H ((fp ++ (D :: fx)) ++ F') H' ∧ lcL p vs mt me ds xs (wipeM ρ' vs) = some r
      refine ⟨fun i mm H' => mm = items.length - i ∧ i ≤ items.length ∧ Iv (items.drop i) H', ⟨_, rfl, Nat.zero_le _, ?_⟩, ?_⟩
      · have dn1 : D ∉ fp := fun z => by
          obtain ⟨o, ho, _⟩ := w1 D z
          rw [hD] at ho
          cases ho
        have dn2 : D ∉ F1 := fun z => by
          obtain ⟨o, ho, _⟩ := E1.wr D z
          rw [hD] at ho
          cases ho
        have sm : Same H1 (upd H1 D (.lst [])) := fun b o hb => by
          rw [upd_ne]
          · exact hb
          · intro e
            subst e
            rw [hD] at hb
            cases hb
        have nn := List.nodup_append.mp n1
        refine ⟨[], [], [], ρ1, Fw, upd_same, .nil, Ew.same sm, hL, ?_, gk _ _ (Same.kp sm) g1, wrA_mv w1 (Mv.same (f := []) (f' := []) sm fun _ h => h) (fun _ _ h => nomatch h), ?_, hm⟩
        · refine List.nodup_append.mpr ⟨List.nodup_append.mpr ⟨nn.1, by simp, fun b hb c hc e => ?_⟩, nw, fun b hb c hc e => ?_⟩
          · subst e
            rw [List.mem_singleton] at hc
            subst hc
            exact dn1 hb
          · subst e
            rcases List.mem_append.mp hb with z | z
            · exact nn.2.2 b z b (sw b hc) rfl
            · rw [List.mem_singleton] at z
              subst z
              exact dn2 (sw _ hc)
        · refine m1.trans ⟨fun b o hb _ => sm b o hb, fun b hb => ?_⟩
          rcases List.mem_append.mp hb with z | z
          · rcases List.mem_append.mp z with z | z
            · exact .inl (List.mem_append_left _ z)
            · rw [List.mem_singleton] at z
              subst z
              exact .inr hD
          · exact .inl (List.mem_append_right _ (sw b z))
      · rintro i mm H2 ⟨rfl, hle, vl, xs, fx, ρ2, F2, hD2, rx, E2, hl2, n2, g2, w2, m2, hr⟩
        by_cases hlt : i < items.length
        · refine .inr ⟨it.go i H2 g2 hlt, fun H3 => Iv (items.drop (i + 1)) H3, fun H' h => ⟨items.length - (i + 1), by omega, rfl, hlt, h⟩, fun x H3 y => ?_⟩
          obtain ⟨d, hx, dp, nl, s3⟩ := it.yld i H2 x H3 g2 hlt y
          have hdr : items.drop i = d :: items.drop (i + 1) := by
            rw [List.drop_eq_getElem_cons hlt]
            rw [List.getElem?_eq_getElem hlt] at hx
            cases hx
            rfl
          rw [hdr] at hr
          simp only [lcL] at hr
          cases hbp : bindP p d (wipeM ρ2 vs) with
          | none => rw [hbp] at hr; cases hr
          | some ρ3 =>
            rw [hbp] at hr
            dsimp only at hr
            have n2' := (List.nodup_append.mp n2).2.1
            intro s0 H0 C cl fp0
            refine (hg s0 H0 C cl fp0).ex.choose_spec.2 x (wipe σ vs) H3 (wipeM ρ2 vs) ρ3 F2 d _ (E2.same s3) n2' dp nl hbp fun σ4 F4 s4 E4 n4 f4 => ?_
            have l4 : σ4.length = (wipe σ vs).length := by rw [E4.len, bind_len hbp, ← E2.len]
            have lL : (wipe σ vs).length = L := by rw [E2.len, wipeM_len, hl2]
            have l3 : ρ3.length = L := by rw [bind_len hbp, wipeM_len, hl2]
            have wp : wipe σ4 vs = wipe σ vs := by
              rw [← wipe_wipe σ vs]
              refine wipe_keep l4 fun j hj => ?_
              by_cases hjL : j < L
              · exact s4 j ((hS j hjL).resolve_right hj)
              · rw [List.getElem?_eq_none (by omega), List.getElem?_eq_none (by omega)]
            refine ⟨wp, ?_⟩
            intro s0 H0 C cl fp0
            have n34 : ((fp ++ (D :: fx)) ++ F4).Nodup := by
              rw [List.nodup_append] at n2 ⊢
              exact ⟨n2.1, n4, fun b hb c hc => n2.2.2 b hb c (f4 c hc)⟩
            have rD3 : Rep X.K T H3 (.ref D) (.lst xs) (D :: fx) := (Rep.lst hD2 rx).keep (Same.kp s3)
            have g3 : G H3 := gk H2 H3 (Same.kp s3) g2
            have w3 : WrA T H3 fp := wrA_mv w2 (Mv.same (f := []) (f' := []) s3 fun _ h => h) (fun _ _ h => nomatch h)
            have m3 : Mv F H ((fp ++ (D :: fx)) ++ F4) H3 := m2.trans (Mv.same s3 fun b hb => (List.mem_append.mp hb).elim (List.mem_append_left _) fun z => List.mem_append_right _ (f4 b z))
            cases hmt : mt ρ3 with
            | none => rw [hmt] at hr; cases hr
            | some r4 =>
              rw [hmt] at hr
              refine (ht s0 H0 C cl fp0).ex.choose_spec.2 σ4 H3 ρ3 F4 r4 _ E4 n4 hmt ?_
              cases r4 with
              | er _ _ _ => cases hr
              | ok b ρ4 =>
                intro H5 F5 E5 n5 m5
                have wfr : WrA T H3 (fp ++ (D :: fx)) := fun b hb => (List.mem_append.mp hb).elim (w3 b) (rD3.wr b)
                have kp5 : Kp T (fp ++ (D :: fx)) H3 H5 := frame_keep n34 E4.wr m5
                have n5' : ((fp ++ (D :: fx)) ++ F5).Nodup := nodup_mv (K := X.K) (σ := σ4) (ρ := ρ3) n34 n5 m5 wfr
                have rD5 : Rep X.K T H5 (.ref D) (.lst xs) (D :: fx) := rD3.keep (kp5.sub fun b hb => List.mem_append_right _ hb)
                have g5 : G H5 := gk H3 H5 (kp5.sub fun b hb => List.mem_append_left _ hb) g3
                have w5f : WrA T H5 (fp ++ (D :: fx)) := wrA_mv wfr m5 fun b hb hf => (List.nodup_append.mp n34).2.2 b hb b hf rfl
                have w5 : WrA T H5 fp := fun b hb => w5f b (List.mem_append_left _ hb)
                have m5' : Mv F H ((fp ++ (D :: fx)) ++ F5) H5 := m3.trans (mv_frame m5)
                have l45 : ρ4.length = L := by rw [← E5.len, l4, lL]
                cases b with
                | false =>
                  dsimp only at hr
                  obtain ⟨F7, E7, n7, s7⟩ := E5.wipe vs n5
                  rw [wp] at E7
                  cases rD5 with
                  | lst hD5 rx5 =>
                  refine ⟨_, xs, fx, ρ4, F7, hD5, rx5, E7, l45, ?_, g5, w5, m5'.sub fun b hb => (List.mem_append.mp hb).elim (List.mem_append_left _) fun z => List.mem_append_right _ (s7 b z), hr⟩
                  rw [List.nodup_append] at n5' ⊢
                  exact ⟨n5'.1, n7, fun b hb c hc => n5'.2.2 b hb c (s7 c hc)⟩
                | true =>
                  dsimp only at hr
                  intro s0 H0 C cl fp0
                  cases hme : me ρ4 with
                  | none => rw [hme] at hr; cases hr
                  | some r6 =>
                    rw [hme] at hr
                    refine (he s0 H0 C cl fp0).ex.choose_spec.2 σ4 H5 ρ4 F5 r6 _ E5 n5 hme ?_
                    cases r6 with
                    | er _ _ _ => cases hr
                    | ok yv ρ6 =>
                      intro v H6 f F6 ry E6 n6 m6
                      dsimp only at hr
                      by_cases hlen : xs.length ≤ most
                      case neg =>
                        rw [if_neg hlen] at hr
                        cases hr
                      case pos =>
                      rw [if_pos hlen] at hr
                      have kp6 : Kp T (fp ++ (D :: fx)) H5 H6 := frame_keep n5' E5.wr m6
                      have n6' : ((fp ++ (D :: fx)) ++ (f ++ F6)).Nodup := nodup_mv (K := X.K) (σ := σ4) (ρ := ρ4) n5' n6 m6 w5f
                      have rD6 : Rep X.K T H6 (.ref D) (.lst xs) (D :: fx) := rD5.keep (kp6.sub fun b hb => List.mem_append_right _ hb)
                      have g6 : G H6 := gk H5 H6 (kp6.sub fun b hb => List.mem_append_left _ hb) g5
                      have w6f : WrA T H6 (fp ++ (D :: fx)) := wrA_mv w5f m6 fun b hb hf => (List.nodup_append.mp n5').2.2 b hb b hf rfl
                      have m6' : Mv F H ((fp ++ (D :: fx)) ++ (f ++ F6)) H6 := m5'.trans (mv_frame m6)
                      have l6 : ρ6.length = L := by rw [← E6.len, l4, lL]
                      cases rD6 with
                      | @lst _ vl6 _ _ hD6 rx6 =>
                      refine ⟨vl6, hD6, by rw [rx6.len]; exact most_lt hlen, ?_⟩
                      obtain ⟨F7, E7, n7, s7⟩ := E6.wipe vs (List.nodup_append.mp n6).2.1
                      rw [wp] at E7
                      have a1 := List.nodup_append.mp n6'
                      have a2 := List.nodup_append.mp a1.1
                      have a3 := List.nodup_cons.mp a2.2.1
                      have a4 := List.nodup_append.mp n6
                      have dD : ∀ {g : List Addr}, D ∉ g → Kp T g H6 (upd H6 D (.lst (vl6 ++ [v]))) := fun h => kp_write hD6 trivial h
                      have Dfp : D ∉ fp := fun z => a2.2.2 D z D List.mem_cons_self rfl
                      have Df : D ∉ f := fun z => a1.2.2 D (List.mem_append_right _ List.mem_cons_self) D (List.mem_append_left _ z) rfl
                      have DF : D ∉ F7 := fun z => a1.2.2 D (List.mem_append_right _ List.mem_cons_self) D (List.mem_append_right _ (s7 D z)) rfl
                      have ry' : Reps X.K T (upd H6 D (.lst (vl6 ++ [v]))) [v] [yv] (f ++ []) := .cons (ry.keep (dD Df)) .nil
                      refine ⟨vl6 ++ [v], xs ++ [yv], fx ++ (f ++ []), ρ6, F7, upd_same, (ry').app (rx6.keep (dD a3.1)), E7.keep (dD DF), l6, ?_, gk _ _ (dD Dfp) g6, fun b hb => ?_, ?_, hr⟩
                      · rw [List.append_nil]
                        refine List.nodup_append.mpr ⟨List.nodup_append.mpr ⟨a2.1, List.nodup_cons.mpr ⟨fun z => ?_, List.nodup_append.mpr ⟨a3.2, a4.1, fun b hb c hc e => ?_⟩⟩, fun b hb c hc e => ?_⟩, n7, fun b hb c hc e => ?_⟩
                        · exact (List.mem_append.mp z).elim a3.1 Df
                        · subst e
                          exact a1.2.2 b (List.mem_append_right _ (List.mem_cons_of_mem _ hb)) b (List.mem_append_left _ hc) rfl
                        · subst e
                          rcases List.mem_cons.mp hc with z | z
                          · subst z
                            exact Dfp hb
                          · rcases List.mem_append.mp z with z | z
                            · exact a2.2.2 b hb b (List.mem_cons_of_mem _ z) rfl
                            · exact a1.2.2 b (List.mem_append_left _ hb) b (List.mem_append_left _ z) rfl
                        · subst e
                          rcases List.mem_append.mp hb with z | z
                          · exact a1.2.2 b (List.mem_append_left _ z) b (List.mem_append_right _ (s7 b hc)) rfl
                          · rcases List.mem_cons.mp z with z | z
                            · subst z
                              exact DF hc
                            · rcases List.mem_append.mp z with z | z
                              · exact a1.2.2 b (List.mem_append_right _ (List.mem_cons_of_mem _ z)) b (List.mem_append_right _ (s7 b hc)) rfl
                              · exact a4.2.2 b z b (s7 b hc) rfl
                      · obtain ⟨o, ho, wo⟩ := w6f b (List.mem_append_left _ hb)
                        refine ⟨o, ?_, wo⟩
                        rw [upd_ne]
                        · exact ho
                        · intro e
                          subst e
                          exact Dfp hb
                      · rw [List.append_nil]
                        refine m6'.trans ⟨fun b o hb hn => ?_, fun b hb => .inl ?_⟩
                        · rw [upd_ne]
                          · exact hb
                          · intro e
                            subst e
                            exact hn (List.mem_append_left _ (List.mem_append_right _ List.mem_cons_self))
                        · rcases List.mem_append.mp hb with z | z
                          · rcases List.mem_append.mp z with z | z
                            · exact List.mem_append_left _ (List.mem_append_left _ z)
                            · rcases List.mem_cons.mp z with z | z
                              · subst z
                                exact List.mem_append_left _ (List.mem_append_right _ List.mem_cons_self)
                              · rcases List.mem_append.mp z with z | z
                                · exact List.mem_append_left _ (List.mem_append_right _ (List.mem_cons_of_mem _ z))
                                · exact List.mem_append_right _ (List.mem_append_left _ z)
                          · exact List.mem_append_right _ (List.mem_append_right _ (s7 b z))
        · have e : i = items.length := by omega
          refine .inl ⟨it.stop i H2 g2 e, ?_⟩
          subst e
          rw [List.drop_length] at hr
          simp only [lcL] at hr
          cases hr
          have a1 := List.nodup_append.mp n2
          have a2 := List.nodup_append.mp a1.1
          exact k (.ref D) H2 (D :: fx) F2 (.lst hD2 rx) (E2.unwipe vs) (List.nodup_append.mpr ⟨a2.2.1, a1.2.1, fun b hb c hc => a1.2.2 b (List.mem_append_right _ hb) c hc⟩)
            (m2.sub fun b hb => (List.mem_append.mp hb).elim (fun z => List.mem_append_left _ (List.mem_append_right _ z)) fun z => List.mem_append_right _ z)
end
/-! ### the length of a new list; lists of data, one behind the other -/
section
variable {T : Tb} {X : Cx} {W : WXk} {a b : Expr} {pos : Pos}
def dLenX (m : MM M) : MM PyData := bindM m fun x => optM (lenM x)
theorem qd_lenX {p : Pos} {m : MM M} (h : QX T X W a m) (hg : Gl X "len") (hz : X.mg "len" = none) (hs : starEach [a] X.env = (false, eval a X.env) :: starEach [] X.env := by rfl) : QD T X W (.Call (.Name "len" p) [a] [] pos) (dLenX m) := by
  obtain ⟨t, ht, q⟩ := h.ex
  refine ⟨_, pe_callB call_lenU hg hz PySem.boot_len (pa_cons ht pa_nil hs) (he := hs), fun σ H ρ F r Q E n hm k => ?_⟩
  unfold dLenX bindM at hm
  cases hd : m ρ with
  | none => rw [hd] at hm; cases hm
  | some r1 =>
    rw [hd] at hm
    refine q σ H ρ F r1 _ E n hd ?_
    cases r1 with
    | er c fs ρ1 => cases hm; exact k
    | ok x ρ1 =>
      intro v H' f F' rp E' n' mv
      dsimp only [optM] at hm
      cases hz : lenM x with
      | none => rw [hz] at hm; cases hm
      | some z =>
        rw [hz] at hm
        cases hm
        exact lenM_ok rp hz fun w dz nz => k w H' F' dz nz E' (List.nodup_append.mp n').2.1 (mv.sub fun _ h => List.mem_append_right _ h)
@[simp] theorem a_dLenX {m : MM M} {ρ : Env'} : dLenX m ρ = bindM m (fun x => optM (lenM x)) ρ := rfl
theorem repsImm {K : PySem.W.Frag} {H : Hp} : ∀ {vs : List V} {ds : List PyData}, DqAll K H vs ds → noLs ds = true → Reps K T H vs (ds.map .imm) []
  | _, _, .nil, _ => .nil
  | _, _, .cons a r, n => by
    simp only [noLs, Bool.and_eq_true] at n
    exact .cons (f := []) (.imm a n.1) (repsImm r n.2)
def catV (ρ1 : Env') : M → M → Option (Rs Env' M)
  | .lst xs, .lst ys => match immL xs, immL ys with
    | some ds, some es => if ds.length + es.length ≤ most then some (.ok (.lst ((ds ++ es).map .imm)) ρ1) else none
    | _, _ => none
  | _, _ => none
def xCatV (i : Nat) (m : MM M) : MM M := fun ρ => match ρ[i]? with
  | some (some _) => bindM m (fun y ρ1 => match ρ1[i]? with
      | some (some x) => catV ρ1 x y
      | _ => none) ρ
  | _ => none
@[simp] theorem a_xCatV {i : Nat} {m : MM M} {ρ : Env'} : xCatV i m ρ = match ρ[i]? with
  | some (some _) => bindM m (fun y ρ1 => match ρ1[i]? with
      | some (some x) => catV ρ1 x y
      | _ => none) ρ
  | _ => none := rfl
@[simp] theorem a_catV {ρ1 : Env'} {xs ys : List M} : catV ρ1 (.lst xs) (.lst ys) = match immL xs, immL ys with
    | some ds, some es => if ds.length + es.length ≤ most then some (.ok (.lst ((ds ++ es).map .imm)) ρ1) else none
    | _, _ => none := rfl
theorem qx_catV {i : Nat} {m : MM M} (ha : PE X a (tVar i)) (hb : QX T X W b m) : QX T X W (.BinOp a .Add b pos) (xCatV i m) := by
  obtain ⟨t, ht, q⟩ := hb.ex
  refine ⟨_, pe_op op_cat ha ht, fun σ H ρ F r Q E n hm k => ?_⟩
  unfold xCatV at hm
  split at hm
  · rename_i x0 hx0
    obtain ⟨w0, f0, g0, r0, _⟩ := E.get hx0
    refine ⟨w0, g0, ?_⟩
    unfold bindM at hm
    cases hd : m ρ with
    | none => rw [hd] at hm; cases hm
    | some r1 =>
      rw [hd] at hm
      refine q σ H ρ F r1 _ E n hd ?_
      cases r1 with
      | er c fs ρ1 => cases hm; exact k
      | ok y ρ1 =>
        intro v H1 fy F1 ry E1 n1 m1
        dsimp only at hm
        split at hm
        · rename_i x hx
          obtain ⟨w, f, g1, rp, sf⟩ := E1.get hx
          have ew : w0 = w := by
            rw [g0] at g1
            exact Option.some.inj (Option.some.inj g1)
          subst ew
          cases x with
          | lst xs =>
            cases y with
            | lst ys =>
              dsimp only [catV] at hm
              split at hm
              · rename_i ds es hds hes
                split at hm
                · rename_i hlen
                  cases hm
                  cases rp with
                  | @lst l vs _ f1 hl rs =>
                  cases ry with
                  | @lst l2 ws _ f2 hl2 rs2 =>
                  obtain ⟨a1, a2, a3⟩ := immL_dp rs hds
                  obtain ⟨b1, b2, b3⟩ := immL_dp rs2 hes
                  subst a3 b3
                  refine ⟨l, l2, vs, ws, rfl, rfl, hl, hl2, by rw [dpAll_len a1, dpAll_len b1]; exact Nat.le_of_lt (most_lt hlen), fun p hp => ?_⟩
                  have sm : Same H1 (upd H1 p (.lst (vs ++ ws))) := fun b o hb => by
                    rw [upd_ne]
                    · exact hb
                    · intro e
                      subst e
                      rw [hp] at hb
                      cases hb
                  have pn : p ∉ F1 := fun z => by
                    obtain ⟨o, ho, _⟩ := E1.wr p z
                    rw [hp] at ho
                    cases ho
                  refine k (.ref p) _ [p] F1 (.lst upd_same ?_) (E1.same sm) ?_ ?_
                  · rw [List.map_append]
                    have e1 := (repsImm (T := T) (dp_keepXs (Same.kp (T := T) (g := []) sm).x b2 b1) b2).app (repsImm (T := T) (dp_keepXs (Same.kp (T := T) (g := []) sm).x a2 a1) a2)
                    rw [List.append_nil] at e1
                    exact e1
                  · exact List.nodup_cons.mpr ⟨pn, (List.nodup_append.mp n1).2.1⟩
                  · refine m1.trans ⟨fun b o hb _ => sm b o hb, fun b hb => ?_⟩
                    rcases List.mem_cons.mp hb with z | z
                    · subst z
                      exact .inr hp
                    · exact .inl (List.mem_append_right _ z)
                · cases hm
              · cases hm
            | _ => cases hm
          | _ => cases y <;> cases hm
        · cases hm
  · cases hm
/-! #### how a comprehension is reckoned -/
def thC (acc : List M) (vs : List Nat) (k : List M → MM M) : Option (Rs Env' M) → Option (Rs Env' M)
  | some (.ok x ρ3) => if acc.length ≤ most then k (acc ++ [x]) (wipeM ρ3 vs) else none
  | _ => none
@[simp] theorem thC_ok {acc : List M} {vs : List Nat} {k : List M → MM M} {x : M} {ρ : Env'} : thC acc vs k (some (.ok x ρ)) = if acc.length ≤ most then k (acc ++ [x]) (wipeM ρ vs) else none := rfl
def thD (acc : List M) (vs : List Nat) (me : MM M) (k : List M → MM M) : Option (Rs Env' Bool) → Option (Rs Env' M)
  | some (.ok b ρ2) => if b = true then thC acc vs k (me ρ2) else k acc (wipeM ρ2 vs)
  | _ => none
@[simp] theorem thD_ok {acc : List M} {vs : List Nat} {me : MM M} {k : List M → MM M} {b : Bool} {ρ : Env'} : thD acc vs me k (some (.ok b ρ)) = if b = true then thC acc vs k (me ρ) else k acc (wipeM ρ vs) := rfl
theorem lc_nil {p : Pt} {vs : List Nat} {mt : MM Bool} {me : MM M} {acc : List M} {ρ : Env'} : lcL p vs mt me [] acc ρ = some (.ok (.lst acc) ρ) := rfl
theorem lc_cons {p : Pt} {vs : List Nat} {mt : MM Bool} {me : MM M} {d : PyData} {ds : List PyData} {acc : List M} {ρ : Env'} : lcL p vs mt me (d :: ds) acc ρ = (bindP p d ρ).bind fun ρ1 => thD acc vs me (fun a => lcL p vs mt me ds a) (mt ρ1) := by
  show (match bindP p d ρ with | none => none | some ρ1 => _) = _
  cases bindP p d ρ with
  | none => rfl
  | some ρ1 =>
    dsimp only [Option.bind_some]
    cases mt ρ1 with
    | none => rfl
    | some r =>
      cases r with
      | er _ _ _ => rfl
      | ok b ρ2 =>
        cases b with
        | false => rfl
        | true =>
          show (match me ρ2 with | some (.ok x ρ3) => _ | _ => none) = thC _ _ _ (me ρ2)
          cases me ρ2 with
          | none => rfl
          | some r => cases r <;> rfl
@[simp] theorem a_xLc {L : Nat} {p : Pt} {vs : List Nat} {mi : MM (List PyData)} {mt : MM Bool} {me : MM M} {ρ : Env'} : xLc L p vs mi mt me ρ = bindM mi (fun items ρ => if ρ.length = L then lcL p vs mt me items [] (wipeM ρ vs) else none) ρ := rfl
@[simp] theorem w_0 {ρ : Env'} : wipeM ρ [] = ρ := rfl
@[simp] theorem w_c {ρ : Env'} {v : Nat} {vs : List Nat} : wipeM ρ (v :: vs) = (wipeM ρ vs).set v none := rfl
end
/-! ### t.index(x), the items texts -/
section
variable {K : PySem.W.Frag} {T : Tb} {X : Cx} {W : WXk} {o e : Expr} {pos apos : Pos}
def strsD : List PyData → Option (List Str)
  | [] => some []
  | .str x :: ds => (strsD ds).map fun xs => x :: xs
  | _ => none
/-- the first place of z -/
def placeS (z : Str) : List Str → Option Nat
  | [] => none
  | x :: xs => if x = z then some 0 else (placeS z xs).map (· + 1)
theorem placeS_ok {z : Str} : ∀ {xs : List Str} {j : Nat}, placeS z xs = some j → xs[j]? = some z ∧ ∀ m, m < j → xs[m]? ≠ some z
  | [], j, h => by cases h
  | x :: xs, j, h => by
    unfold placeS at h
    by_cases hx : x = z
    · rw [if_pos hx] at h
      cases h
      exact ⟨by rw [hx]; rfl, fun m hm => absurd hm (Nat.not_lt_zero m)⟩
    · rw [if_neg hx] at h
      cases hp : placeS z xs with
      | none => rw [hp] at h; cases h
      | some i =>
        rw [hp] at h
        cases h
        obtain ⟨h1, h2⟩ := placeS_ok hp
        refine ⟨h1, fun m hm => ?_⟩
        cases m with
        | zero => exact fun q => hx (Option.some.inj q)
          | succ m => exact h2 m (Nat.lt_of_succ_lt_succ hm)
theorem strsD_dp {H : Hp} : ∀ {vs : List V} {ds : List PyData} {ys : List Str}, DqAll K H vs ds → strsD ds = some ys → vs = ys.map V.str
  | _, _, _, .nil, h => by
    cases h
    rfl
  | _, _, ys, .cons (d := d) a r, h => by
    cases d with
    | str x =>
      simp only [strsD] at h
      rename_i ds
      cases hs : strsD ds with
      | none => rw [hs] at h; cases h
      | some zs =>
        rw [hs] at h
        cases h
        cases a
        rw [List.map_cons, ← strsD_dp r hs]
    | _ => cases h
def oIndex : PyData → PyData → Option PyData
  | .tuple ds, .str z => (strsD ds).bind fun ys => (placeS z ys).map fun j => .int (j : Nat)
  | _, _ => none
theorem qe_index {mo me : Env' → Option PyData} (ho : QE T X o mo) (he : QE T X e me) (hs : starEach [e] X.env = (false, eval e X.env) :: starEach [] X.env := by rfl)
    (mk : ∀ to t, PE X o to → PA X [e] t → PE X (.Call (.Attribute o "index" apos) [e] [] pos) (tMT X.K (fun x xs H Q => ∃ p, ∃ ys : List Str, ∃ z j, x = .ref p ∧ xs = [.str z] ∧ SqT X.K H p (ys.map V.str) ∧ ys[j]? = some z ∧ (∀ m, m < j → ys[m]? ≠ some z) ∧ Q (.int (j : Nat)) H) to t)) :
    QE T X (.Call (.Attribute o "index" apos) [e] [] pos) (e2 oIndex mo me) := by
  obtain ⟨to, h1, q1⟩ := ho.ex
  obtain ⟨te, h2, q2⟩ := he.ex
  refine ⟨_, mk _ _ h1 (pa_cons h2 pa_nil hs), fun σ H ρ F d Q E hm k => ?_⟩
  unfold e2 at hm
  cases hx : mo ρ with
  | none => rw [hx] at hm; cases hm
  | some x =>
    rw [hx] at hm
    refine q1 σ H ρ F x _ E hx fun v H1 s1 d1 n1 => ?_
    cases hy : me ρ with
    | none => rw [hy] at hm; cases hm
    | some y =>
      rw [hy] at hm
      have hm' : oIndex x y = some d := hm
      cases x with
      | tuple ds =>
        cases y with
        | str z =>
          simp only [oIndex] at hm'
          cases hs : strsD ds with
          | none => rw [hs] at hm'; cases hm'
          | some ys =>
            rw [hs] at hm'
            cases hp : placeS z ys with
            | none =>
              rw [Option.bind_some, hp] at hm'
              cases hm'
            | some j =>
              rw [Option.bind_some, hp] at hm'
              cases hm'
              obtain ⟨a, xs, rfl, tq, al⟩ := dp_tupX d1
              refine ⟨⟨a, rfl, tq.tob⟩, ?_⟩
              refine q2 σ H1 ρ F (.str z) _ (E.same s1) hy fun u H2 s2 d2 n2 => ?_
              cases d2
              obtain ⟨g1, g2⟩ := placeS_ok hp
              have tq2 : Tq X.K H2 a xs := tq_kp (T := T) (f := []) (Same.kp s2) tq
              have e1 := strsD_dp al hs
              subst e1
              exact ⟨a, ys, z, j, rfl, rfl, tq2.sq, g1, g2, k _ H2 (s1.trans s2) (.int _) rfl⟩
        | _ => cases hm'
      | _ => cases y <;> cases hm'
@[simp] theorem o_index {ds : List PyData} {z : Str} : oIndex (.tuple ds) (.str z) = (strsD ds).bind fun ys => (placeS z ys).map fun j => .int (j : Nat) := rfl
end
/-! ### instances: their methods, their fields -/
section
variable {K : PySem.W.Frag} {T : Tb}
def okC (c : Nat) (nm : Str) : M → Bool
  | .ins c' fs => c' == c && (fs.lookup nm).isNone
  | .fro c' fs => c' == c && (fs.lookup nm).isNone
  | _ => false
theorem lookup_fst {α β : Type} {nm : Str} : ∀ {xs : List (Str × α)} {ys : List (Str × β)}, xs.map Prod.fst = ys.map Prod.fst → (ys.lookup nm).isNone = true → xs.lookup nm = none
  | [], [], _, _ => rfl
  | [], _ :: _, h, _ => by simp at h
  | _ :: _, [], h, _ => by simp at h
  | (a, x) :: xs, (b, y) :: ys, h, hn => by
    simp only [List.map_cons, List.cons.injEq] at h
    obtain ⟨rfl, h2⟩ := h
    rw [List.lookup_cons] at hn ⊢
    cases q : nm == a with
    | true => rw [q] at hn; cases hn
    | false =>
      rw [q] at hn
      exact lookup_fst h2 hn
theorem okC_rep {H : Hp} {c : Nat} {nm : Str} {v : V} {x : M} {f : List Addr} (r : Rep K T H v x f) (h : okC c nm x = true) : ∃ a dx fvs, v = .ref a ∧ H a = some (.ins (T.ca c) dx fvs) ∧ fvs.lookup nm = none := by
  cases r with
  | ins ha hz he rs =>
    simp only [okC, Bool.and_eq_true, beq_iff_eq] at h
    obtain ⟨rfl, h2⟩ := h
    exact ⟨_, _, _, rfl, ha, lookup_fst he h2⟩
  | fro ha hz he al nl =>
    simp only [okC, Bool.and_eq_true, beq_iff_eq] at h
    obtain ⟨rfl, h2⟩ := h
    exact ⟨_, _, _, rfl, ha, lookup_fst he h2⟩
  | _ => cases h
def xMeth (c : Nat) (nm : Str) (i : Nat) (k : Nat) (mf : List M → Option (Rs (List M) M)) (m : MM (List Aw)) : MM M := fun ρ => match ρ[i]? with
  | some (some x) => if okC c nm x = true then xCall k mf (rSlot i m) ρ else none
  | _ => none
end
section
variable {T : Tb} {X : Cx} {W : WXk} {e o value : Expr} {es : List Expr} {st : Stmt} {S : List Nat} {pos apos : Pos}
theorem qx_methG {c i k : Nat} {nm : Str} {mf : List M → Option (Rs (List M) M)} {m : MM (List Aw)} {E : XK} {t : TA} (hp : PE X e (tMeth (T.ca c) nm (spX X.K T k mf) [] E (tVar i) t))
    (q : ∀ (σ : L2.St) (H : Hp) (ρ : Env') (F : List Addr) (r : Rs Env' (List Aw)) (Q : List V → Hp → Prop), EnvR X.K T H σ ρ F → F.Nodup → m ρ = some r →
    (match r with
      | .ok as ρ1 => ∀ vs H' fo F', AwR X.K T H' σ vs as fo → EnvR X.K T H' σ ρ1 F' → (fo ++ F').Nodup → Mv F H (fo ++ F') H' → Q vs H'
      | .er c fs ρ1 => XOk X.K T W H F σ c fs ρ1) → t σ H Q) : QX T X W e (xMeth c nm i k mf m) := by
  refine ⟨_, hp, fun σ H ρ F r Q En n hm kk => ?_⟩
  unfold xMeth at hm
  split at hm
  · rename_i x hx
    split at hm
    · rename_i hok
      obtain ⟨v, f, g1, rp, sf⟩ := En.get hx
      obtain ⟨a, dx, fvs, ev, ha, hl⟩ := okC_rep rp hok
      refine ⟨v, g1, a, dx, fvs, ev, ha, hl, ?_⟩
      unfold xCall bindM rSlot at hm
      rw [hx] at hm
      dsimp only at hm
      unfold bindM at hm
      cases hy : m ρ with
      | none => rw [hy] at hm; cases hm
      | some ry =>
        rw [hy] at hm
        refine q σ H ρ F ry _ En n hy ?_
        cases ry with
        | er c' fs ρ1 => cases hm; exact kk
        | ok as ρ1 =>
          intro vs H1 fo F1 aw E1 nd1 m1
          dsimp only [pureM] at hm
          cases htk : takes (.slot i :: as) ρ1 with
          | none => rw [htk] at hm; cases hm
          | some p =>
            obtain ⟨xs, ρ2⟩ := p
            rw [htk] at hm
            dsimp only at hm
            split at hm
            · rename_i hlen
              rw [List.append_nil]
              exact call_go (.slot g1 aw) E1 nd1 m1 htk hlen hm kk
            · cases hm
    · cases hm
  · cases hm
theorem qx_meth {c i k : Nat} {nm : Str} {mf : List M → Option (Rs (List M) M)} {m : MM (List Aw)} {E : XK} (mk : ∀ t, PA X es t → PE X e (tMeth (T.ca c) nm (spX X.K T k mf) [] E (tVar i) t)) (h : QAr T X W es m) : QX T X W e (xMeth c nm i k mf m) := by
  obtain ⟨t, ht, q⟩ := h.ex
  exact qx_methG (mk t ht) q
theorem qx_meth0 {c i k : Nat} {nm : Str} {mf : List M → Option (Rs (List M) M)} {E : XK} (mk : PE X e (tMeth (T.ca c) nm (spX X.K T k mf) [] E (tVar i) tNil)) : QX T X W e (xMeth c nm i k mf rNil) :=
  qx_methG mk fun σ H ρ F r Q En n hm kk => by
    cases hm
    exact kk [] H [] F .nil En n (Mv.refl fun _ h => h)
/-! #### a field is set -/
def putM (f : Str) (x : M) : List (Str × M) → List (Str × M)
  | [] => [(f, x)]
  | (g, y) :: r => if g = f then (g, x) :: r else (g, y) :: putM f x r
theorem reps_put {K : PySem.W.Frag} {H : Hp} {f : Str} {y : V} {x : M} {fy : List Addr} (ry : Rep K T H y x fy) : ∀ {fvs : List (Str × V)} {fs : List (Str × M)} {fp : List Addr}, fvs.map Prod.fst = fs.map Prod.fst → Reps K T H (fvs.map Prod.snd) (fs.map Prod.snd) fp → (fy ++ fp).Nodup →
    ∃ fp', Reps K T H ((putF f y fvs).map Prod.snd) ((putM f x fs).map Prod.snd) fp' ∧ fp'.Nodup ∧ (∀ b ∈ fp', b ∈ fy ++ fp) ∧ (putF f y fvs).map Prod.fst = (putM f x fs).map Prod.fst
  | [], [], _, _, r, n => by
    cases r
    exact ⟨fy ++ [], .cons ry .nil, n, fun _ h => h, rfl⟩
  | [], _ :: _, _, h, _, _ => by simp at h
  | _ :: _, [], _, h, _, _ => by simp at h
  | (a, u) :: fvs, (b, z) :: fs, fp, h, r, n => by
    simp only [List.map_cons, List.cons.injEq] at h
    obtain ⟨e1, h2⟩ := h
    have e1' : a = b := e1
    subst e1'
    cases r with
    | cons ru rr =>
      rename_i g1 g2
      have nn := List.nodup_append.mp n
      have n2 := List.nodup_append.mp nn.2.1
      by_cases q : a = f
      · refine ⟨fy ++ g2, ?_, List.nodup_append.mpr ⟨nn.1, n2.2.1, fun b hb c hc => nn.2.2 b hb c (List.mem_append_right _ hc)⟩, fun b hb => ?_, ?_⟩
        · unfold putF putM
          rw [if_pos q, if_pos q]
          exact .cons ry rr
        · exact (List.mem_append.mp hb).elim (List.mem_append_left _) fun z => List.mem_append_right _ (List.mem_append_right _ z)
        · unfold putF putM
          rw [if_pos q, if_pos q, List.map_cons, List.map_cons, h2]
      · obtain ⟨fp', k1, k2, k3, k4⟩ := reps_put ry h2 rr (List.nodup_append.mpr ⟨nn.1, n2.2.1, fun b hb c hc => nn.2.2 b hb c (List.mem_append_right _ hc)⟩)
        refine ⟨g1 ++ fp', ?_, List.nodup_append.mpr ⟨n2.1, k2, fun b hb c hc e => ?_⟩, fun b hb => ?_, ?_⟩
        · unfold putF putM
          rw [if_neg q, if_neg q]
          exact .cons ru k1
        · subst e
          rcases List.mem_append.mp (k3 b hc) with z | z
          · exact nn.2.2 b z b (List.mem_append_left _ hb) rfl
          · exact n2.2.2 b hb b z rfl
        · rcases List.mem_append.mp hb with z | z
          · exact List.mem_append_right _ (List.mem_append_left _ z)
          · exact (List.mem_append.mp (k3 b z)).elim (List.mem_append_left _) fun z => List.mem_append_right _ (List.mem_append_right _ z)
        · unfold putF putM
          rw [if_neg q, if_neg q, List.map_cons, List.map_cons, k4]
def fldSet (i c : Nat) (f : Str) (y : M) (ρ1 : Env') : Option (Rs Env' Fl) := match ρ1[i]? with
  | some (some (.ins c' fs)) => if c' = c ∧ fs.length < 900 then some (.ok .nx (ρ1.set i (some (.ins c (putM f y fs))))) else none
  | _ => none
def sFldM (i c : Nat) (f : Str) (m : MM M) : MM Fl := bindM m fun y ρ1 => fldSet i c f y ρ1
theorem qs_fld {i c : Nat} {f : Str} {m : MM M} (cl : Cls X.K (T.ca c)) (na : NoAttr X.K (T.ca c) f) (hv : QX T X W value m) (mk : ∀ tv, PE X value tv → PS X st (sFld X.K (tVar i) tv f)) : QS T S X W st (sFldM i c f m) := by
  obtain ⟨tv, h1, q1⟩ := hv.ex
  refine ⟨_, mk tv h1, fun σ H ρ F r D En n hm k => ?_⟩
  unfold sFldM bindM at hm
  cases hd : m ρ with
  | none => rw [hd] at hm; cases hm
  | some r1 =>
    rw [hd] at hm
    refine q1 σ H ρ F r1 _ En n hd ?_
    cases r1 with
    | er c' fs ρ1 => cases hm; exact fun d H' F' xd E' n' mv => k σ d H' F' (Stb.refl σ) xd E' n' mv
    | ok y ρ1 =>
      intro v H1 fy F1 ry E1 n1 m1
      dsimp only at hm
      unfold fldSet at hm
      split at hm
      · rename_i c' fs hx
        split at hm
        · rename_i hcc
          obtain ⟨rfl, hlen⟩ := hcc
          cases hm
          have nn := List.nodup_append.mp n1
          obtain ⟨w, fo, g1, rp, nf, sf, go⟩ := E1.change fy n1 ry.wr hx
          refine ⟨w, g1, ?_⟩
          cases rp with
          | @ins a dx _ fvs _ fp ha hz he rs =>
            have nf' := List.nodup_cons.mp nf
            have hl2 : fvs.length = fs.length := by
              have := congrArg List.length he
              rwa [List.length_map, List.length_map] at this
            refine ⟨a, _, dx, fvs, rfl, ha, cl, na, by omega, ?_⟩
            have aF : a ∈ F1 := sf a List.mem_cons_self
            have ay : a ∉ fy := fun z => nn.2.2 a z a aF rfl
            have wr : Wr T (.ins (T.ca c') dx fvs) := ⟨c', hz, rfl⟩
            have ry' := ry.keep (kp_write (o' := .ins (T.ca c') dx (putF f v fvs)) ha wr ay)
            have rs' := rs.keep (kp_write (o' := .ins (T.ca c') dx (putF f v fvs)) ha wr nf'.1)
            have nyp : (fy ++ fp).Nodup := List.nodup_append.mpr ⟨nn.1, nf'.2, fun b hb c hc => nn.2.2 b hb c (sf c (List.mem_cons_of_mem _ hc))⟩
            obtain ⟨fp', k1, k2, k3, k4⟩ := reps_put (f := f) ry' he rs' nyp
            have ap : a ∉ fp' := fun z => (List.mem_append.mp (k3 a z)).elim ay nf'.1
            obtain ⟨F2, e1, e2, e3⟩ := go (upd H1 a (.ins (T.ca c') dx (putF f v fvs))) (.ins c' (putM f y fs)) (a :: fp') (.ins upd_same hz k4 k1) (List.nodup_cons.mpr ⟨ap, k2⟩) ⟨fun b o hb hn => by
              rw [upd_ne]
              · exact hb
              · intro e
                subst e
                exact hn (List.mem_append_right _ List.mem_cons_self), fun b hb => by
              rcases List.mem_cons.mp hb with z | z
              · subst z
                exact .inl (List.mem_append_right _ List.mem_cons_self)
              · rcases List.mem_append.mp (k3 b z) with z | z
                · exact .inl (List.mem_append_left _ z)
                · exact .inl (List.mem_append_right _ (List.mem_cons_of_mem _ z))⟩
            exact k σ _ F2 (Stb.refl σ) e1 e2 (m1.trans e3)
        · cases hm
      · cases hm
end
/-! ### lists in the fields of an instance; new instances -/
section
variable {K : PySem.W.Frag} {T : Tb}
theorem put_fst {f : Str} {x y : M} : ∀ {fs : List (Str × M)}, fs.lookup f = some x → (putM f y fs).map Prod.fst = fs.map Prod.fst
  | [], h => by cases h
  | (g, z) :: fs, h => by
    unfold putM
    by_cases q : g = f
    · rw [if_pos q]
      rfl
    · rw [if_neg q, List.map_cons, List.map_cons]
      rw [List.lookup_cons] at h
      have : (f == g) = false := beq_eq_false_iff_ne.mpr fun e => q e.symm
      rw [this] at h
      rw [put_fst h]
theorem reps_in {H : Hp} {f : Str} {xs : List M} : ∀ {fvs : List (Str × V)} {fs : List (Str × M)} {fp : List Addr}, fvs.map Prod.fst = fs.map Prod.fst → Reps K T H (fvs.map Prod.snd) (fs.map Prod.snd) fp → fp.Nodup → fs.lookup f = some (.lst xs) →
    ∃ l vs g, fvs.lookup f = some (.ref l) ∧ H l = some (.lst vs) ∧ Reps K T H vs xs g ∧ l ∈ fp ∧ ∀ ws ys g', Reps K T H ws ys g' → g'.Sublist g → ∃ fp', Reps K T (upd H l (.lst ws)) (fvs.map Prod.snd) ((putM f (.lst ys) fs).map Prod.snd) fp' ∧ fp'.Nodup ∧ ∀ b ∈ fp', b ∈ fp
  | [], [], _, _, _, _, h => by cases h
  | [], _ :: _, _, h, _, _, _ => by simp at h
  | _ :: _, [], _, h, _, _, _ => by simp at h
  | (a, u) :: fvs, (b, z) :: fs, fp, h, r, n, hl => by
    simp only [List.map_cons, List.cons.injEq] at h
    obtain ⟨e1, h2⟩ := h
    have e1' : a = b := e1
    subst e1'
    cases r with
    | cons ru rr =>
      rename_i g1 g2
      have nn := List.nodup_append.mp n
      rw [List.lookup_cons] at hl
      by_cases q : a = f
      · subst q
        rw [beq_self_eq_true] at hl
        cases hl
        cases ru with
        | @lst l vs _ g ha rs =>
          have nl := List.nodup_cons.mp nn.1
          refine ⟨l, vs, g, by rw [List.lookup_cons, beq_self_eq_true], ha, rs, List.mem_append_left _ List.mem_cons_self, fun ws ys g' rw' sg => ?_⟩
          have lg' : l ∉ g' := fun z => nl.1 (sg.subset z)
          have lg2 : l ∉ g2 := fun z => nn.2.2 l List.mem_cons_self l z rfl
          refine ⟨(l :: g') ++ g2, ?_, List.nodup_append.mpr ⟨List.nodup_cons.mpr ⟨lg', nl.2.sublist sg⟩, nn.2.1, fun b hb c hc e => ?_⟩, fun b hb => ?_⟩
          · unfold putM
            rw [if_pos rfl]
            exact .cons (.lst upd_same (rw'.keep (kp_write ha trivial lg'))) (rr.keep (kp_write ha trivial lg2))
          · subst e
            rcases List.mem_cons.mp hb with z | z
            · subst z
              exact lg2 hc
            · exact nn.2.2 b (List.mem_cons_of_mem _ (sg.subset z)) b hc rfl
          · rcases List.mem_append.mp hb with z | z
            · rcases List.mem_cons.mp z with z | z
              · subst z
                exact List.mem_append_left _ List.mem_cons_self
              · exact List.mem_append_left _ (List.mem_cons_of_mem _ (sg.subset z))
            · exact List.mem_append_right _ z
      · have hq : (f == a) = false := beq_eq_false_iff_ne.mpr fun e => q e.symm
        rw [hq] at hl
        obtain ⟨l, vs, g, k1, k2, k3, k4, k5⟩ := reps_in h2 rr nn.2.1 hl
        refine ⟨l, vs, g, by rw [List.lookup_cons, hq]; exact k1, k2, k3, List.mem_append_right _ k4, fun ws ys g' rw' sg => ?_⟩
        obtain ⟨fp', j1, j2, j3⟩ := k5 ws ys g' rw' sg
        have lg1 : l ∉ g1 := fun z => nn.2.2 l z l k4 rfl
        refine ⟨g1 ++ fp', ?_, List.nodup_append.mpr ⟨nn.1, j2, fun b hb c hc => nn.2.2 b hb c (j3 c hc)⟩, fun b hb => ?_⟩
        · unfold putM
          rw [if_neg q]
          exact .cons (ru.keep (kp_write k2 trivial lg1)) j1
        · exact (List.mem_append.mp hb).elim (List.mem_append_left _) fun z => List.mem_append_right _ (j3 b z)
/-- a list in a field of what a name holds is another one -/
theorem EnvR.inField {H : Hp} {σ : L2.St} {ρ : Env'} {F : List Addr} {i c : Nat} {fs : List (Str × M)} {f : Str} {xs : List M} (E : EnvR K T H σ ρ F) (n : F.Nodup) (hx : ρ[i]? = some (some (.ins c fs))) (hl : fs.lookup f = some (.lst xs)) :
    ∃ a dx fvs l vs g, σ[i]? = some (some (.ref a)) ∧ H a = some (.ins (T.ca c) dx fvs) ∧ fvs.lookup f = some (.ref l) ∧ H l = some (.lst vs) ∧ Reps K T H vs xs g ∧
      ∀ ws ys g', Reps K T H ws ys g' → g'.Sublist g → ∃ F2, EnvR K T (upd H l (.lst ws)) σ (ρ.set i (some (.ins c (putM f (.lst ys) fs)))) F2 ∧ F2.Nodup ∧ Mv F H F2 (upd H l (.lst ws)) := by
  obtain ⟨w, fo, g1, rp, nf, sf, go⟩ := E.change [] (by rw [List.nil_append]; exact n) (fun _ h => nomatch h) hx
  cases rp with
  | @ins a dx _ fvs _ fp ha hz he rs =>
    have nf' := List.nodup_cons.mp nf
    obtain ⟨l, vs, g, k1, k2, k3, k4, k5⟩ := reps_in he rs nf'.2 hl
    refine ⟨a, dx, fvs, l, vs, g, g1, ha, k1, k2, k3, fun ws ys g' rw' sg => ?_⟩
    obtain ⟨fp', j1, j2, j3⟩ := k5 ws ys g' rw' sg
    have al : a ≠ l := fun e => nf'.1 (e ▸ k4)
    obtain ⟨F2, e1, e2, e3⟩ := go (upd H l (.lst ws)) (.ins c (putM f (.lst ys) fs)) (a :: fp') (.ins (by rw [upd_ne al]; exact ha) hz (by rw [put_fst hl]; exact he) j1) (List.nodup_cons.mpr ⟨fun z => nf'.1 (j3 a z), j2⟩) ⟨fun b o hb hn => by
      rw [upd_ne]
      · exact hb
      · intro e
        subst e
        exact hn (List.mem_append_right _ (List.mem_cons_of_mem _ k4)), fun b hb => by
      rcases List.mem_cons.mp hb with z | z
      · subst z
        exact .inl (List.mem_append_right _ List.mem_cons_self)
      · exact .inl (List.mem_append_right _ (List.mem_cons_of_mem _ (j3 b z)))⟩
    rw [List.nil_append] at e3
    exact ⟨F2, e1, e2, e3⟩
end
section
variable {T : Tb} {X : Cx} {W : WXk} {e o value ix : Expr} {es : List Expr} {st : Stmt} {S : List Nat} {pos apos : Pos}
def lstF (c : Nat) (f : Str) : M → Option (List (Str × M) × List M)
  | .ins c' fs => if c' = c then (match fs.lookup f with
    | some (.lst xs) => some (fs, xs)
    | _ => none) else none
  | _ => none
theorem lstF_ok {c : Nat} {f : Str} {x : M} {fs : List (Str × M)} {xs : List M} (h : lstF c f x = some (fs, xs)) : x = .ins c fs ∧ fs.lookup f = some (.lst xs) := by
  cases x with
  | ins c' gs =>
    simp only [lstF] at h
    split at h
    · rename_i hc
      subst hc
      split at h
      · rename_i ys hy
        cases h
        exact ⟨rfl, hy⟩
      · cases h
    · cases h
  | _ => cases h
/-- o.f.append(e), o a name, e plain -/
def fApp (i c : Nat) (f : Str) (m : Env' → Option PyData) : MM M := fun ρ => (m ρ).bind fun d => ((ρ[i]?).join.bind (lstF c f)).bind fun p => if p.2.length ≤ most then some (.ok (.imm .none) (ρ.set i (some (.ins c (putM f (.lst (p.2 ++ [.imm d])) p.1))))) else none
theorem qx_fApp {i c : Nat} {f : Str} {m : Env' → Option PyData} (cl : Cls X.K (T.ca c)) (na : NoAttr X.K (T.ca c) f) (ho : PE X o (tFld X.K (tVar i) f)) (he : QE T X e m) (hs : starEach [e] X.env = (false, eval e X.env) :: starEach [] X.env := by rfl)
    (mk : ∀ to t, PE X o to → PA X [e] t → PE X (.Call (.Attribute o "append" apos) [e] [] pos) (tBM X.K "list" rAppend to t)) : QX T X W (.Call (.Attribute o "append" apos) [e] [] pos) (fApp i c f m) := by
  obtain ⟨t, ht, q⟩ := he.ex
  refine ⟨_, mk _ _ ho (pa_cons ht pa_nil hs), fun σ H ρ F r Q En n hm k => ?_⟩
  unfold fApp at hm
  cases hd : m ρ with
  | none => rw [hd] at hm; cases hm
  | some d =>
    rw [hd, Option.bind_some] at hm
    cases hx : ρ[i]? with
    | none => rw [hx] at hm; cases hm
    | some ox =>
      rw [hx] at hm
      cases ox with
      | none => cases hm
      | some x =>
        rw [Option.join_some, Option.bind_some] at hm
        cases hp : lstF c f x with
        | none => rw [hp] at hm; cases hm
        | some p =>
          obtain ⟨fs, xs⟩ := p
          rw [hp, Option.bind_some] at hm
          dsimp only at hm
          split at hm
          · rename_i hlen
            cases hm
            obtain ⟨rfl, hl⟩ := lstF_ok hp
            obtain ⟨a, dx, fvs, l, vs, g, g1, ha, hlv, hlo, rs, _⟩ := En.inField n hx hl
            refine ⟨.ref a, g1, a, _, dx, fvs, .ref l, rfl, ha, cl, na, hlv, .inl ⟨rfl, vs, SqL.of hlo⟩, ?_⟩
            refine q σ H ρ F d _ En hd fun v H1 s1 dv nv => ?_
            have E1 := En.same s1
            obtain ⟨a', dx', fvs', l', vs', g', g1', ha', hlv', hlo', rs', go⟩ := E1.inField n hx hl
            have ea : a = a' := by
              rw [g1] at g1'
              cases g1'
              rfl
            subst ea
            have eo := (s1 _ _ ha).symm.trans ha'
            cases eo
            rw [hlv] at hlv'
            cases hlv'
            have el := (s1 _ _ hlo).symm.trans hlo'
            cases el
            refine ⟨l, vs, v, rfl, rfl, hlo', by rw [rs'.len]; exact most_lt hlen, ?_⟩
            obtain ⟨F2, e1, e2, e3⟩ := go (vs ++ [v]) (xs ++ [.imm d]) (g' ++ ([] ++ [])) (Reps.app (.cons (.imm dv nv) .nil) rs') (by simp)
            exact k .non _ [] F2 (.imm .non rfl) e1 e2 ((Mv.same s1 fun _ h => h).trans e3)
          · cases hm
/-- o.f[k] = e, o a name, k and e plain -/
def fIdx (i c : Nat) (f : Str) (mk md : Env' → Option PyData) : MM Fl := fun ρ => (md ρ).bind fun d => (mk ρ).bind fun kk => ((ρ[i]?).join.bind (lstF c f)).bind fun p => (ixSet p.2 kk (.imm d)).bind fun ys => some (.ok .nx (ρ.set i (some (.ins c (putM f (.lst ys) p.1)))))
theorem qs_fIdx {i c : Nat} {f : Str} {mk md : Env' → Option PyData} (cl : Cls X.K (T.ca c)) (na : NoAttr X.K (T.ca c) f) (hv : QE T X value md) (ho : PE X o (tFld X.K (tVar i) f)) (hk : QE T X ix mk)
    (hmk : ∀ te to ti, PE X value te → PE X o to → PE X ix ti → PS X st (tAsg te (gSub to ti rSetL))) : QS T S X W st (fIdx i c f mk md) := by
  obtain ⟨te, h1, q1⟩ := hv.ex
  obtain ⟨ti, h2, q2⟩ := hk.ex
  refine ⟨_, hmk _ _ _ h1 ho h2, fun σ H ρ F r D En n hm k => ?_⟩
  unfold fIdx at hm
  cases hd : md ρ with
  | none => rw [hd] at hm; cases hm
  | some d =>
    rw [hd, Option.bind_some] at hm
    cases hkk : mk ρ with
    | none => rw [hkk] at hm; cases hm
    | some kk =>
      rw [hkk, Option.bind_some] at hm
      cases hx : ρ[i]? with
      | none => rw [hx] at hm; cases hm
      | some ox =>
        rw [hx] at hm
        cases ox with
        | none => cases hm
        | some x =>
          rw [Option.join_some, Option.bind_some] at hm
          cases hp : lstF c f x with
          | none => rw [hp] at hm; cases hm
          | some p =>
            obtain ⟨fs, xs⟩ := p
            rw [hp, Option.bind_some] at hm
            dsimp only at hm
            cases kk with
            | int z =>
              cases hj : ixN xs.length z with
              | none =>
                have : ixSet xs (.int z) (.imm d) = none := by
                  show (ixN xs.length z).map _ = none
                  rw [hj]
                  rfl
                rw [this] at hm
                cases hm
              | some j =>
                have : ixSet xs (.int z) (.imm d) = some (xs.set j (.imm d)) := by
                  show (ixN xs.length z).map _ = _
                  rw [hj]
                  rfl
                rw [this] at hm
                cases hm
                obtain ⟨rfl, hl⟩ := lstF_ok hp
                refine q1 σ H ρ F d _ En hd fun v H1 s1 dv nv => ?_
                have E1 := En.same s1
                obtain ⟨a, dx, fvs, l, vs, g, g1, ha, hlv, hlo, rs, _⟩ := E1.inField n hx hl
                refine ⟨.ref a, g1, a, _, dx, fvs, .ref l, rfl, ha, cl, na, hlv, ?_⟩
                refine q2 σ H1 ρ F (.int z) _ E1 hkk fun u H2 s2 du nu => ?_
                have E2 := E1.same s2
                obtain ⟨a', dx', fvs', l', vs', g', g1', ha', hlv', hlo', rs', go⟩ := E2.inField n hx hl
                have ea : a = a' := by
                  rw [g1] at g1'
                  cases g1'
                  rfl
                subst ea
                have eo := (s2 _ _ ha).symm.trans ha'
                cases eo
                rw [hlv] at hlv'
                cases hlv'
                have el := (s2 _ _ hlo).symm.trans hlo'
                cases el
                cases du
                refine ⟨l, vs, z, j, rfl, rfl, hlo', by rw [rs'.len]; exact hj, ?_⟩
                have dv2 : Dq X.K H2 v d := dp_keepX (Same.kp (T := T) (g := []) s2).x nv dv
                obtain ⟨g2, j1, j2⟩ := Reps.set (.imm dv2 nv) j rs'
                obtain ⟨F2, e1, e2, e3⟩ := go (vs.set j v) (xs.set j (.imm d)) g2 j1 j2
                exact k σ _ F2 (Stb.refl σ) e1 e2 ((Mv.same (s1.trans s2) fun _ h => h).trans e3)
            | _ => cases hm
end
/-! ### dicts keyed by data: walks -/
def noF : Nat → M → Bool
  | 0, _ => false
  | n + 1, .lst xs => xs.all (noF n)
  | n + 1, .ins _ fs => fs.all fun p => noF n p.2
  | _ + 1, .fdic _ => false
  | _ + 1, _ => true
def noFO : Option M → Bool
  | none => true
  | some x => noF 4 x
section
variable {K : PySem.W.Frag} {T : Tb} {H H' : Hp}
theorem Reps.map' : ∀ {vs : List V} {xs : List M} {f : List Addr}, Reps K T H vs xs f → (∀ v x g, x ∈ xs → (∀ b ∈ g, b ∈ f) → Rep K T H v x g → Rep K T H' v x g) → Reps K T H' vs xs f
  | _, _, _, .nil, _ => .nil
  | _, _, _, .cons a r, h => .cons (h _ _ _ List.mem_cons_self (fun _ z => List.mem_append_left _ z) a) (Reps.map' r fun v x g hx hg => h v x g (List.mem_cons_of_mem _ hx) fun b hb => List.mem_append_right _ (hg b hb))
theorem EnvR.map' : ∀ {σ : List (Option V)} {ρ : List (Option M)} {F : List Addr}, EnvR K T H σ ρ F → (∀ v x g, some x ∈ ρ → (∀ b ∈ g, b ∈ F) → Rep K T H v x g → Rep K T H' v x g) → EnvR K T H' σ ρ F
  | _, _, _, .nil, _ => .nil
  | _, _, _, .no r, h => .no (EnvR.map' r fun v x g hx hg => h v x g (List.mem_cons_of_mem _ hx) hg)
  | _, _, _, .yes a r, h => .yes (h _ _ _ List.mem_cons_self (fun _ z => List.mem_append_left _ z) a) (EnvR.map' r fun v x g hx hg => h v x g (List.mem_cons_of_mem _ hx) fun b hb => List.mem_append_right _ (hg b hb))
theorem unl_at {a b : Addr} {od o : Obj} {c u : HO} (hH : H a = some (.frz od (dicO a o))) (h : H b = some c) (ne : ∀ od' φ, c ≠ .frz od' (.ext φ)) : upd H a u b = some c := by
  rw [upd_ne ?_]
  · exact h
  · intro e
    subst e
    rw [hH] at h
    exact ne _ _ (Option.some.inj h).symm
theorem unl_x {a : Addr} {od o : Obj} {u : HO} (hH : H a = some (.frz od (dicO a o))) : KeepX H (upd H a u) := fun b o' xs h => unl_at hH h (fun _ _ z => nomatch z)
theorem Rep.unl {a : Addr} {od o : Obj} {u : HO} (hH : H a = some (.frz od (dicO a o))) : ∀ (n : Nat) {v : V} {x : M} {f : List Addr}, noF n x = true → a ∉ f → Rep K T H v x f → Rep K T (upd H a u) v x f
  | 0, _, _, _, h, _, _ => by simp [noF] at h
  | n + 1, v, x, f, h, hf, r => by
    cases r with
    | imm d nl => exact .imm (dp_keepX (unl_x hH) nl d) nl
    | scr h2 =>
      rcases h2 with ⟨o', h2⟩ | h2
      · exact .scr (.inl ⟨o', unl_at hH h2 (fun _ _ z => nomatch z)⟩)
      · exact .scr (.inr h2)
    | fn => exact .fn
    | hol => exact .hol
    | lst h2 rs =>
      have h' : ∀ y ∈ _, noF n y = true := List.all_eq_true.mp h
      exact .lst (unl_at hH h2 (fun _ _ z => nomatch z)) (rs.map' fun v y g hy hg r => Rep.unl hH n (h' y hy) (fun z => hf (List.mem_cons_of_mem _ (hg a z))) r)
    | ins h2 z e rs =>
      have h' := List.all_eq_true.mp h
      refine .ins (unl_at hH h2 (fun _ _ z => nomatch z)) z e (rs.map' fun v y g hy hg r => Rep.unl hH n ?_ (fun z => hf (List.mem_cons_of_mem _ (hg a z))) r)
      obtain ⟨p, hp, rfl⟩ := List.mem_map.mp hy
      exact h' p hp
    | fro h2 z e r nl => exact .fro (unl_at hH h2 (fun _ _ z => nomatch z)) z e (dp_keepXs (unl_x hH) nl r) nl
    | dic h2 hb hk => exact .dic (unl_at hH h2 (fun _ _ z => nomatch z)) hb (hk.keep (unl_x hH))
    | fdic h2 hb hk => simp [noF] at h
theorem EnvR.unl {a : Addr} {od o : Obj} {u : HO} {σ : List (Option V)} {ρ : List (Option M)} {F : List Addr} (hH : H a = some (.frz od (dicO a o))) (h : ρ.all noFO = true) (hf : a ∉ F) (E : EnvR K T H σ ρ F) : EnvR K T (upd H a u) σ ρ F :=
  E.map' fun v x g hx hg r => Rep.unl hH 4 (List.all_eq_true.mp h _ hx) (fun z => hf (hg a z)) r
/-- the dict at slot i is locked while m runs -/
def isSS : Option (Option M) → Bool
  | some (some _) => true
  | _ => false
def noFl : Fl → Bool
  | .rt x => noF 4 x
  | _ => true
def okU (i : Nat) (fl : Fl) (ρ : Env') : Bool := isSS ρ[i]? && ((ρ.set i (some .hol)).all noFO && noFl fl)
def unlM (i : Nat) (kvs : List (PyData × PyData)) : Rs Env' Fl → Option (Rs Env' Fl)
  | .er _ _ _ => none
  | .ok fl ρ => match okU i fl ρ with
    | true => some (.ok fl (ρ.set i (some (.dic kvs))))
    | false => none
def lockM (i : Nat) (m : MM Fl) : MM Fl := fun ρ => match ρ[i]? with
  | some (some (.dic kvs)) => (m (ρ.set i (some (.fdic kvs)))).bind (unlM i kvs)
  | _ => none
theorem unlock {a : Addr} {od o : Obj} {xs : EntL} {kvs : List (PyData × PyData)} {i : Nat} {σ' : List (Option V)} {ρ1 : List (Option M)} {y : M} {F F1 f2 F2 : List Addr} {H H2 : Hp} (ha : H a = some (dicO a o)) (hb : DicOb T.wd a o xs) (hk : KD K H xs kvs) (haF : a ∈ F)
    (w1 : WrA T (upd H a (.frz od (dicO a o))) F1) (m1 : Mv F H F1 (upd H a (.frz od (dicO a o)))) (E2 : EnvR K T H2 σ' ρ1 F2) (n2 : (f2 ++ F2).Nodup) (m2 : Mv F1 (upd H a (.frz od (dicO a o))) (f2 ++ F2) H2)
    (hs : σ'[i]? = some (some (.ref a))) (hy : ρ1[i]? = some (some y)) (hn : (ρ1.set i (some .hol)).all noFO = true) :
    H2 a = some (.frz od (dicO a o)) ∧ a ∉ f2 ∧ ∃ F3, EnvR K T (upd H2 a (dicO a o)) σ' (ρ1.set i (some (.dic kvs))) F3 ∧ (f2 ++ F3).Nodup ∧ Mv F H (f2 ++ F3) (upd H2 a (dicO a o)) := by
  have a1 : a ∉ F1 := fun z => by
    obtain ⟨c, h1, h2⟩ := w1 a z
    rw [upd_same] at h1
    cases h1
    exact h2
  have h2a : H2 a = some (.frz od (dicO a o)) := m2.c a _ upd_same a1
  have a2 : a ∉ f2 ++ F2 := fun z => (m2.n a z).elim a1 fun z => by
    rw [upd_same] at z
    cases z
  obtain ⟨v2, f', F', e1, rp, E3, pm⟩ := E2.take hy
  rw [hs] at e1
  cases e1
  have aF' : a ∉ F' := fun z => a2 (List.mem_append_right _ (pm.mem_iff.mp (List.mem_append_right _ z)))
  have E4 := EnvR.unl (u := dicO a o) h2a hn aF' E3
  have kx : KeepX H (upd H2 a (dicO a o)) := fun b o' ys h => by
    have n1 : b ≠ a := fun e => by
      subst e
      rw [ha] at h
      cases h
    rw [upd_ne n1]
    have h1 : upd H a (.frz od (dicO a o)) b = some (.frz o' (.tup ys)) := by
      rw [upd_ne n1]
      exact h
    exact (m2.c.kp (g := []) w1 (fun _ h => nomatch h)).x b o' ys h1
  have hi : (ρ1.set i (some M.hol))[i]? = some (some .hol) := by
    rw [List.getElem?_set_self]
    exact (List.getElem?_eq_some_iff.mp hy).1
  obtain ⟨F3, E5, p5⟩ := E4.put hs hi (.dic (K := K) (T := T) upd_same hb (hk.keep kx))
  rw [List.set_set] at E5
  have n3 := List.nodup_append.mp n2
  have nF' : F'.Nodup := (List.nodup_append.mp (pm.nodup_iff.mpr n3.2.1)).2.1
  have sF' : ∀ b ∈ F', b ∈ F2 := fun b hb => pm.mem_iff.mp (List.mem_append_right _ hb)
  have m12 := m1.trans m2
  refine ⟨h2a, fun z => a2 (List.mem_append_left _ z), F3, E5, ?_, ⟨fun b u h hn' => ?_, fun b hb' => ?_⟩⟩
  · refine List.nodup_append.mpr ⟨n3.1, p5.nodup_iff.mp (List.nodup_cons.mpr ⟨aF', nF'⟩), fun b hb' c hc e => ?_⟩
    subst e
    rcases List.mem_cons.mp (p5.mem_iff.mpr hc) with z | z
    · subst z
      exact a2 (List.mem_append_left _ hb')
    · exact n3.2.2 b hb' b (sF' b z) rfl
  · rw [upd_ne fun e => hn' (by rw [e]; exact haF)]
    exact m12.c b u h hn'
  · rcases List.mem_append.mp hb' with z | z
    · exact m12.n b (List.mem_append_left _ z)
    · rcases List.mem_cons.mp (p5.mem_iff.mpr z) with z | z
      · subst z
        exact .inl haF
      · exact m12.n b (List.mem_append_right _ (sF' b z))
end
section
variable {K : PySem.W.Frag} {T : Tb} {X : Cx} {W : WXk} {e a b c o tg : Expr} {es rest : List Expr} {st : Stmt} {S : List Nat} {pos p2 : Pos}
theorem qs_lock {i : Nat} {m : MM Fl} (h : QS T (i :: S) X W st m) : QS T S X W st (lockM i m) := by
  obtain ⟨t, ht, q⟩ := h.ex
  refine ⟨_, ps_lock ht, fun σ H ρ F r D E n hm k => ?_⟩
  unfold lockM at hm
  split at hm
  · rename_i kvs hx
    obtain ⟨v, f, g1, rp, nf, sf, go⟩ := E.change [] n (fun _ h => nomatch h) hx
    cases rp with
    | @dic a o xs _ ha hb hk =>
    have haF : a ∈ F := sf a List.mem_cons_self
    refine ⟨a, dicO a o, ha, trivial, fun od => ?_⟩
    have kp1 : Kp T [] H (upd H a (.frz od (dicO a o))) := kp_write ha trivial (fun h => nomatch h)
    obtain ⟨F1, E1, n1, m1⟩ := go (upd H a (.frz od (dicO a o))) (.fdic kvs) [] (.fdic upd_same hb (hk.keep kp1.x)) List.nodup_nil ⟨fun b u hb' hn => by rw [upd_ne (fun e => hn (by rw [e]; exact List.mem_append_right _ List.mem_cons_self))]; exact hb', fun b z => nomatch z⟩
    have m1' : Mv F H F1 (upd H a (.frz od (dicO a o))) := m1
    cases hr : m (ρ.set i (some (.fdic kvs))) with
    | none => rw [hr] at hm; cases hm
    | some r1 =>
      rw [hr] at hm
      have hm' : unlM i kvs r1 = some r := hm
      refine q σ _ _ F1 r1 _ E1 n1 hr ?_
      cases r1 with
      | er c fs ρ1 => cases hm'
      | ok fl ρ1 =>
        cases hc : okU i fl ρ1 with
        | true =>
          have hm2 : unlM i kvs (.ok fl ρ1) = some (.ok fl (ρ1.set i (some (.dic kvs)))) := by simp only [unlM, hc]
          rw [hm2] at hm'
          simp only [okU, Bool.and_eq_true] at hc
          obtain ⟨c3, c2, c4⟩ := hc
          cases hm'
          obtain ⟨y, hy⟩ : ∃ y, ρ1[i]? = some (some y) := by
            cases hz : ρ1[i]? with
            | none => rw [hz] at c3; cases c3
            | some z =>
              cases z with
              | none => rw [hz] at c3; cases c3
              | some y => exact ⟨y, rfl⟩
          have sg : ∀ {σ' : L2.St}, Stb (i :: S) σ σ' → σ'[i]? = some (some (.ref a)) := fun s => (s i List.mem_cons_self).trans g1
          have ss : ∀ {σ' : L2.St}, Stb (i :: S) σ σ' → Stb S σ σ' := fun s => s.sub fun b hb => List.mem_cons_of_mem _ hb
          cases fl with
          | nx =>
            intro σ' H' F' s' E' n' mv
            obtain ⟨h1, h2, F3, h3, h4, h5⟩ := unlock (f2 := []) ha hb hk haF E1.wr m1' E' n' mv (sg s') hy c2
            exact ⟨h1, k σ' _ F3 (ss s') h3 h4 h5⟩
          | bk =>
            intro σ' H' F' s' E' n' mv
            obtain ⟨h1, h2, F3, h3, h4, h5⟩ := unlock (f2 := []) ha hb hk haF E1.wr m1' E' n' mv (sg s') hy c2
            exact ⟨h1, k σ' _ F3 (ss s') h3 h4 h5⟩
          | ct =>
            intro σ' H' F' s' E' n' mv
            obtain ⟨h1, h2, F3, h3, h4, h5⟩ := unlock (f2 := []) ha hb hk haF E1.wr m1' E' n' mv (sg s') hy c2
            exact ⟨h1, k σ' _ F3 (ss s') h3 h4 h5⟩
          | rt x =>
            intro v σ' H' f F' s' rp E' n' mv
            obtain ⟨h1, h2, F3, h3, h4, h5⟩ := unlock (f2 := f) ha hb hk haF E1.wr m1' E' n' mv (sg s') hy c2
            exact ⟨h1, k v σ' _ f F3 (ss s') (Rep.unl h1 4 c4 h2 rp) h3 h4 h5⟩
        | false =>
          have hm2 : unlM i kvs (.ok fl ρ1) = none := by simp only [unlM, hc]
          rw [hm2] at hm'
          cases hm'
  · cases hm
/-- the keys of the locked dict at slot i -/
def iFd (i : Nat) : MM (List PyData) := fun ρ => match ρ[i]? with
  | some (some (.fdic kvs)) => some (.ok (kvs.map Prod.fst) ρ)
  | _ => none
theorem qi_fdic {i : Nat} (hw : T.wd = X.w) (ho : PE X e (tVar i)) : QI T X W tg e (iFd i) := by
  refine ⟨_, pi_keysN ho, fun σ H ρ F r R E n hm k => ?_⟩
  unfold iFd at hm
  split at hm
  · rename_i kvs hx
    cases hm
    obtain ⟨v, f, g1, rp, _⟩ := E.get hx
    cases rp with
    | @fdic a od o xs _ ha hb hk =>
    refine ⟨_, g1, a, od, o, xs, rfl, ha, hw ▸ hb, ?_⟩
    refine k (ItkN a od o xs) H [] F (fun H => H a = some (.frz od (dicO a o)) ∧ KD X.K H xs kvs) ⟨fun j H' g lt => ⟨g.1, by rw [g.2.len]; simpa using lt⟩, fun j H1 x H2 g lt y => ?_, fun j H' g lt => ⟨g.1, by rw [g.2.len, lt, List.length_map]; exact Nat.le_refl _⟩⟩
      (fun H1 H2 kp g => ⟨kp _ _ g.1 (.inr trivial), g.2.keep kp.x⟩) ⟨ha, hk⟩ (fun _ h => nomatch h) E n (Mv.refl fun _ h => h)
    obtain ⟨rfl, y', hy, rfl⟩ := y
    obtain ⟨p, h1, h2, h3⟩ := g.2.get hy
    exact ⟨p.1, by rw [List.getElem?_map, h1]; rfl, h2, h3, Same.refl _⟩
  · cases hm
end
/-! ### dicts keyed by data: what is done with them -/
section
variable {K : PySem.W.Frag} {T : Tb} {X : Cx} {W : WXk} {e a b c o tg : Expr} {es rest : List Expr} {st : Stmt} {S : List Nat} {pos p2 : Pos}
def dicM : M → Option (List (PyData × PyData))
  | .dic kvs => some kvs
  | .fdic kvs => some kvs
  | _ => none
theorem dicM_ok {H : Hp} {v : V} {x : M} {f : List Addr} {kvs : List (PyData × PyData)} (r : Rep K T H v x f) (h : dicM x = some kvs) : ∃ a xs, v = .ref a ∧ Dic K T.wd H a xs ∧ KD K H xs kvs := by
  cases r with
  | dic ha hb hk =>
    cases h
    exact ⟨_, _, rfl, ⟨_, .inl ha, hb, hk.isK⟩, hk⟩
  | fdic ha hb hk =>
    cases h
    exact ⟨_, _, rfl, ⟨_, .inr ⟨_, ha⟩, hb, hk.isK⟩, hk⟩
  | _ => cases h
/-- the dict at a slot -/
def dicI (i : Nat) (ρ : Env') : Option (List (PyData × PyData)) := match ρ[i]? with
  | some (some x) => dicM x
  | _ => none
theorem dicI_ok {H : Hp} {σ : L2.St} {ρ : Env'} {F : List Addr} {i : Nat} {kvs : List (PyData × PyData)} (E : EnvR K T H σ ρ F) (h : dicI i ρ = some kvs) : ∃ a xs, σ[i]? = some (some (.ref a)) ∧ Dic K T.wd H a xs ∧ KD K H xs kvs := by
  unfold dicI at h
  split at h
  · rename_i x hx
    obtain ⟨v, f, g, r, _⟩ := E.get hx
    obtain ⟨a, xs, rfl, h1, h2⟩ := dicM_ok r h
    exact ⟨a, xs, g, h1, h2⟩
  · cases h
def xDNew : MM M := pureM (.dic [])
theorem qx_dnew (hw : T.wd = X.w) : QX T X W (.Dict [] [] pos) xDNew := by
  refine ⟨_, pe_enew, fun σ H ρ F r Q E n hm k => ?_⟩
  cases hm
  intro p ob np hb
  have s2 : Same H (upd H p (dicO p ob)) := fun b u q => by rw [upd_ne (ne_of_none q np)]; exact q
  have nf : p ∉ F := fun hp => by
    obtain ⟨o, ho, _⟩ := E.wr p hp
    rw [np] at ho
    cases ho
  refine k _ _ [p] F (.dic upd_same (hw ▸ hb) .nil) (E.same s2) (List.nodup_cons.mpr ⟨nf, n⟩) ⟨Chg.same s2, fun b hb => ?_⟩
  rcases List.mem_cons.mp hb with z | z
  · exact .inr (z ▸ np)
  · exact .inl z
def tEGet (K : PySem.W.Frag) (w : World) (td ty : TE) : TE := fun σ H Q => td σ H fun x H1 => ty σ H1 fun y H2 => ∃ a es k kv v, x = .ref a ∧ Dic K w H2 a es ∧ IsK K H2 y k ∧ atN es k = some (kv, v) ∧ Q v H2
theorem pe_eget {td ty : TE} (hu : X.A.units + 64 < cLine) (ho : PE X o td) (hi : PE X a ty) (hs : NoSl a) : PE X (.Subscript o a pos) (tEGet X.K X.w td ty) := by
  refine ⟨fun pins s σ H Q I h => ?_⟩
  refine subD_of PySem.F.slot_dict_getitem.lookup hs (thn (ho.run pins s σ H _ I h) fun u s1 ⟨x, H1, I1, rx, q1⟩ => thn (hi.run pins s1 σ H1 _ I1 q1) fun iv s2 ⟨y, H2, I2, ry, ad, es, k, kv, v, ex, g, hk, hat, q2⟩ => ?_)
  subst ex
  obtain rfl : u = Value.ref ad := rx
  obtain ⟨hs, hz, ys, rr, dd⟩ := g.of I2
  exact ⟨dd.typeIs, dic_get hu I2 g hk ry hat q2⟩
/-- o[k], a dict at slot i -/
def eIxD (i : Nat) (mk : Env' → Option PyData) : Env' → Option PyData := fun ρ => (dicI i ρ).bind fun kvs => (mk ρ).bind fun kd => (kT kd).bind fun _ => atD kvs kd
theorem qe_ixD {i : Nat} {mk : Env' → Option PyData} (hw : T.wd = X.w) (hu : X.A.units + 64 < cLine) (ho : PE X o (tVar i)) (ha : QE T X a mk) (hs : NoSl a) : QE T X (.Subscript o a pos) (eIxD i mk) := by
  obtain ⟨t, h1, q⟩ := ha.ex
  refine ⟨_, pe_eget hu ho h1 hs, fun σ H ρ F d Q E hm k => ?_⟩
  obtain ⟨kvs, e1, hm⟩ := Option.bind_eq_some_iff.mp hm
  obtain ⟨kd, e2, hm⟩ := Option.bind_eq_some_iff.mp hm
  obtain ⟨key, e3, hm⟩ := Option.bind_eq_some_iff.mp hm
  obtain ⟨ad, xs, g, _, _⟩ := dicI_ok E e1
  refine ⟨_, g, q σ H ρ F kd _ E e2 fun kv H2 s2 dk nk => ?_⟩
  obtain ⟨ad', xs', g', D, hk⟩ := dicI_ok (E.same s2) e1
  rw [g] at g'
  cases g'
  rcases hk.at e3 with ⟨kv', vv, vd, h1, h2, h3, h4⟩ | ⟨h1, h2⟩
  · rw [hm] at h2
    cases h2
    exact ⟨ad, xs', key, kv', vv, rfl, hw ▸ D, ⟨kd, dk, e3⟩, h1, k vv H2 s2 h3 h4⟩
  · rw [hm] at h2
    cases h2
/-- k in d -/
def rEIn (K : PySem.W.Frag) (w : World) (neg : Bool) : R2 := fun x y H Q => ∃ a es k, y = .ref a ∧ Dic K w H a es ∧ IsK K H x k ∧ Q (.bl (if neg then !(atN es k).isSome else (atN es k).isSome)) H
theorem op_eIn (hu : X.A.units + 64 < cLine) : OpR X (compareOp .In) (rEIn X.K X.w false) := by
  intro pins s σ H x y v u Q I rx ry h
  obtain ⟨a, es, k, rfl, g, hk, q⟩ := h
  cases ry
  exact dic_in hu I g hk rx q
theorem op_eNotIn (hu : X.A.units + 64 < cLine) : OpR X (compareOp .NotIn) (rEIn X.K X.w true) := by
  intro pins s σ H x y v u Q I rx ry h
  obtain ⟨a, es, k, rfl, g, hk, q⟩ := h
  cases ry
  exact dic_notIn hu I g hk rx q
def dInD (neg : Bool) (i : Nat) (m : MM PyData) : MM PyData := bindM m fun d ρ => (dicI i ρ).bind fun kvs => (kT d).map fun _ => .ok (.bool (if neg then !(atD kvs d).isSome else (atD kvs d).isSome)) ρ
theorem qc_inD {i : Nat} {op : CmpOp} {neg : Bool} {m : MM PyData} (hw : T.wd = X.w) (ho : OpR X (compareOp op) (rEIn X.K X.w neg)) (hmk : behindInMarks op b = false) (ha : QD T X W a m) (hb : PE X b (tVar i)) : QC T X W (.Compare a [op] [b] pos) (dInD neg i m) := by
  obtain ⟨ta, h1, q1⟩ := ha.ex
  refine ⟨tOp _ ta _, pe_cmpR ho h1 hb hmk, pt_cmpR ho h1 hb hmk, fun σ H ρ F res Q E n hm k => ?_⟩
  unfold dInD bindM at hm
  cases hx : m ρ with
  | none => rw [hx] at hm; cases hm
  | some rx =>
    rw [hx] at hm
    refine q1 σ H ρ F rx _ E n hx ?_
    cases rx with
    | er c fs ρ1 => cases hm; exact k
    | ok x ρ1 =>
      intro u H1 F1 d1 n1 E1 nd1 m1
      obtain ⟨kvs, e1, hm⟩ := Option.bind_eq_some_iff.mp hm
      obtain ⟨key, e3, hm⟩ := Option.map_eq_some_iff.mp hm
      subst hm
      obtain ⟨ad, xs, g, D, hk⟩ := dicI_ok E1 e1
      refine ⟨_, g, ad, xs, key, rfl, hw ▸ D, ⟨x, d1, e3⟩, ?_⟩
      have hb : (atN xs key).isSome = (atD kvs x).isSome := by
        rcases hk.at e3 with ⟨kv', vv, vd, h1, h2, h3, h4⟩ | ⟨h1, h2⟩
        · rw [h1, h2]
          rfl
        · rw [h1, h2]
          rfl
      rw [hb]
      exact k _ H1 F1 (.bl _) rfl E1 nd1 m1
/-- a method of a dict -/
def tDM (K : PySem.W.Frag) (w : World) (r : V → List V → Hp → VK → Prop) (to : TE) (t : TA) : TE := fun σ H Q => to σ H fun x H' => (∃ a es, x = .ref a ∧ Dic K w H' a es) ∧ t σ H' fun xs H2 => r x xs H2 Q
theorem pe_dm {to : TE} {t : TA} {nm : Str} {apos cpos : Pos} {id : String} {r : V → List V → Hp → VK → Prop} (slot : Slot "dict" nm id) (hty : typeOf (.builtin id) = pure (.type "method_descriptor")) (hm : MtR X id r)
    (ho : PE X o to) (ha : PA X (e :: es) t) (hb : attributeBase o nm X.env (eval o X.env) = eval o X.env := by rfl)
    (hf : ((backTo cpos (starEach (e :: es) X.env)).all (fun x => !x.1) && (backToKw cpos (keywordEach [] X.env)).all (fun x => x.1.isSome) && decide ((e :: es).length + ([] : List Keyword).length + (if ([] : List Keyword).isEmpty then 0 else 1) < 30)) = true := by rfl)
    (hl : (apos.endLine == cpos.line) = true := by rfl) (hs : starEach (e :: es) X.env = (false, eval e X.env) :: starEach es X.env := by rfl) (hp : (backTo cpos (starEach es X.env)).any (·.1) = false := by rfl) :
    PE X (.Call (.Attribute o nm apos) (e :: es) [] cpos) (tDM X.K X.w r to t) := by
  constructor
  intro pins s σ H Q I h
  refine wpAny_Call_method_late hb hf hl rfl (thn (ho.run pins s σ H _ I h) ?_)
  rintro v s1 ⟨x, H', I', rx, ⟨p, es', rfl, g⟩, q1⟩
  cases rx
  obtain ⟨hs', hz, ys, rr, dd⟩ := g.of I'
  obtain ⟨ob, g1, hc⟩ : ∃ ob, s1.heap.get? p = some ob ∧ ob.ExactDict := by
    obtain ⟨ob, _, _, h1, h2, _⟩ := dd
    exact ⟨ob, h1, h2⟩
  refine ⟨"dict", id, PySem.F.plainAttrs_dict, slot, hty, ⟨ob, g1, hc.1⟩, fun a e => ?_, ?_⟩
  · cases e
    exact ⟨ob, g1, hc.2.1⟩
  · have hA := ha.run cpos pins s1 σ H' _ I' q1
    rw [hs] at hA ⊢
    refine Calls.callWith_builtin (by show (false || (backTo cpos (starEach es X.env)).any (·.1)) = false; rw [hp]; rfl) (Calls.evalArgs_plain (thn hA ?_))
    rintro us s2 ⟨vs, H2, I2, r2, q2⟩
    exact hm pins s2 σ H2 (.ref p) vs (.ref p) us Q I2 rfl r2 q2
/-- d.get(k, v) -/
def eGetD (i : Nat) (mk mv : Env' → Option PyData) : Env' → Option PyData := fun ρ => (dicI i ρ).bind fun kvs => (mk ρ).bind fun kd => (mv ρ).bind fun dv => (kT kd).map fun _ => (atD kvs kd).getD dv
theorem qe_getD {i : Nat} {mk mv : Env' → Option PyData} {apos : Pos} (hw : T.wd = X.w) (ho : PE X o (tVar i)) (ha : QE T X a mk) (hb : QE T X b mv)
    (hs : starEach [a, b] X.env = (false, eval a X.env) :: starEach [b] X.env := by rfl) (hs2 : starEach [b] X.env = (false, eval b X.env) :: starEach [] X.env := by rfl)
    (mk' : ∀ to t, PE X o to → PA X [a, b] t → PE X (.Call (.Attribute o "get" apos) [a, b] [] pos) (tDM X.K X.w (rEGet X.K X.w) to t)) :
    QE T X (.Call (.Attribute o "get" apos) [a, b] [] pos) (eGetD i mk mv) := by
  obtain ⟨ta, h1, q1⟩ := ha.ex
  obtain ⟨tb, h2, q2⟩ := hb.ex
  refine ⟨_, mk' _ _ ho (pa_cons h1 (pa_cons h2 pa_nil hs2) hs), fun σ H ρ F d Q E hm k => ?_⟩
  obtain ⟨kvs, e1, hm⟩ := Option.bind_eq_some_iff.mp hm
  obtain ⟨kd, e2, hm⟩ := Option.bind_eq_some_iff.mp hm
  obtain ⟨dv, e4, hm⟩ := Option.bind_eq_some_iff.mp hm
  obtain ⟨key, e3, hm⟩ := Option.map_eq_some_iff.mp hm
  obtain ⟨ad, xs, g, D, _⟩ := dicI_ok E e1
  refine ⟨_, g, ⟨ad, xs, rfl, hw ▸ D⟩, ?_⟩
  refine q1 σ H ρ F kd _ E e2 fun kv H2 s2 dk nk => ?_
  refine q2 σ H2 ρ F dv _ (E.same s2) e4 fun vv H3 s3 dd nd => ?_
  obtain ⟨ad', xs', g', D', hk⟩ := dicI_ok ((E.same s2).same s3) e1
  rw [g] at g'
  cases g'
  refine ⟨ad, xs', kv, vv, key, rfl, rfl, hw ▸ D', ⟨kd, dpAll_keepX s3 nk dk, e3⟩, ?_⟩
  rcases hk.at e3 with ⟨kv', vv', vd, h1, h2, h3, h4⟩ | ⟨h1, h2⟩
  · rw [h1]
    rw [h2] at hm
    exact k vv' H3 (s2.trans s3) (hm ▸ h3) (hm ▸ h4)
  · rw [h1]
    rw [h2] at hm
    exact k vv H3 (s2.trans s3) (hm ▸ dd) (hm ▸ nd)
/-- the dict at slot i is another -/
theorem EnvR.dicPut {H : Hp} {σ : L2.St} {ρ : Env'} {F : List Addr} {i : Nat} {kvs : List (PyData × PyData)} (E : EnvR K T H σ ρ F) (n : F.Nodup) (h : ρ[i]? = some (some (.dic kvs))) :
    ∃ ad ob xs, σ[i]? = some (some (.ref ad)) ∧ H ad = some (dicO ad ob) ∧ DicOb T.wd ad ob xs ∧ KD K H xs kvs ∧
      ∀ ob' xs' kvs', DicOb T.wd ad ob' xs' → KD K H xs' kvs' → ∃ F2, EnvR K T (upd H ad (dicO ad ob')) σ (ρ.set i (some (.dic kvs'))) F2 ∧ F2.Nodup ∧ Mv F H F2 (upd H ad (dicO ad ob')) ∧ KeepX H (upd H ad (dicO ad ob')) := by
  obtain ⟨v, f, g1, rp, nf, sf, go⟩ := E.change [] n (fun _ h => nomatch h) h
  cases rp with
  | @dic ad ob xs _ ha hb hk =>
  refine ⟨ad, ob, xs, g1, ha, hb, hk, fun ob' xs' kvs' hb' hk' => ?_⟩
  have kp : Kp T [] H (upd H ad (dicO ad ob')) := kp_write ha trivial (fun h => nomatch h)
  obtain ⟨F2, h1, h2, h3⟩ := go (upd H ad (dicO ad ob')) (.dic kvs') [ad] (.dic upd_same hb' (hk'.keep kp.x)) (List.nodup_cons.mpr ⟨fun h => (nomatch h), List.nodup_nil⟩)
    ⟨fun b u hb' hn => by rw [upd_ne (fun e => hn (by rw [e]; exact List.mem_append_right _ List.mem_cons_self))]; exact hb', fun b z => .inl (List.mem_append_right _ z)⟩
  exact ⟨F2, h1, h2, h3, kp.x⟩
/-- d[k] = v -/
def rESet (K : PySem.W.Frag) (w : World) : TSet := fun x y v H Q => ∃ a es k, x = .ref a ∧ Free H a ∧ Dic K w H a es ∧ IsK K H y k ∧ es.length < sizeLine ∧ ∀ o, DicOb w a o (putN es k y v) → Q (upd H a (dicO a o))
theorem set_e (hu : X.A.units + 64 < cLine) : PSet X (rESet X.K X.w) := by
  intro pins s σ H o i v ov iv u Q I ro ri rv h
  obtain ⟨a, es, k, rfl, f, g, hk, hl, q⟩ := h
  cases ro
  exact dic_set hu I f g hk ri rv hl q
def sPutD (i : Nat) (mk : Env' → Option PyData) (m : MM PyData) : MM Fl := bindM m fun d ρ => match ρ[i]? with
  | some (some (.dic kvs)) => (mk ρ).bind fun kd => (kT kd).bind fun _ => if kvs.length ≤ most then some (.ok .nx (ρ.set i (some (.dic (putD kvs kd d))))) else none
  | _ => none
theorem qs_putD {i : Nat} {mk : Env' → Option PyData} {m : MM PyData} (hw : T.wd = X.w) (asm : ∀ te to tk, PE X e te → PE X o to → PE X a tk → PS X st (tAsg te (gSub to tk (rESet X.K X.w)))) (he : QD T X W e m) (ho : PE X o (tVar i)) (ha : QE T X a mk) : QS T S X W st (sPutD i mk m) := by
  obtain ⟨t, ht, q⟩ := he.ex
  obtain ⟨tk, hk, qk⟩ := ha.ex
  refine ⟨_, asm t _ tk ht ho hk, fun σ H ρ F r D E n hm k => ?_⟩
  unfold sPutD bindM at hm
  cases hd : m ρ with
  | none => rw [hd] at hm; cases hm
  | some r1 =>
    rw [hd] at hm
    refine q σ H ρ F r1 _ E n hd ?_
    cases r1 with
    | er c fs ρ1 =>
      cases hm
      exact fun d H' F' xd E' n' mv => k σ d H' F' (Stb.refl σ) xd E' n' mv
    | ok d ρ1 =>
      intro v H1 F1 dp nl E1 n1 m1
      dsimp only at hm
      split at hm
      · rename_i kvs hx
        obtain ⟨kd, e2, hm⟩ := Option.bind_eq_some_iff.mp hm
        obtain ⟨key, e3, hm⟩ := Option.bind_eq_some_iff.mp hm
        split at hm
        · rename_i hl
          cases hm
          obtain ⟨w0, f0, g0, _, _⟩ := E1.get hx
          refine ⟨w0, g0, ?_⟩
          refine qk σ H1 ρ1 F1 kd _ E1 e2 fun kv H2 s2 dk nk => ?_
          obtain ⟨ad, ob, xs, g1, ha', hb, hkd, go⟩ := (E1.same s2).dicPut n1 hx
          rw [g0] at g1
          cases g1
          have dv : Dq X.K H2 v d := dpAll_keepX s2 nl dp
          refine ⟨ad, xs, key, rfl, ⟨ob, ha'⟩, ⟨ob, .inl ha', hw ▸ hb, hkd.isK⟩, ⟨kd, dk, e3⟩, by rw [hkd.len]; exact most_lt hl, fun ob' hb' => ?_⟩
          obtain ⟨F2, h1, h2, h3, _⟩ := go ob' _ _ (hw ▸ hb') (hkd.put (d := kd) dk nk e3 dv nl)
          exact k σ _ F2 (Stb.refl σ) h1 h2 ((m1.trans (Mv.same s2 fun _ h => h)).trans h3)
        · cases hm
      · cases hm
/-- d.pop(k) -/
def xPopD (i : Nat) (mk : Env' → Option PyData) : MM M := fun ρ => match ρ[i]? with
  | some (some (.dic kvs)) => (mk ρ).bind fun kd => (kT kd).bind fun _ => (atD kvs kd).map fun v => .ok (.imm v) (ρ.set i (some (.dic (dropD kvs kd))))
  | _ => none
theorem qx_popD {i : Nat} {mk : Env' → Option PyData} {apos : Pos} (hw : T.wd = X.w) (ho : PE X o (tVar i)) (ha : QE T X a mk)
    (hs : starEach [a] X.env = (false, eval a X.env) :: starEach [] X.env := by rfl)
    (mk' : ∀ to t, PE X o to → PA X [a] t → PE X (.Call (.Attribute o "pop" apos) [a] [] pos) (tDM X.K X.w (rEPop X.K X.w) to t)) :
    QX T X W (.Call (.Attribute o "pop" apos) [a] [] pos) (xPopD i mk) := by
  obtain ⟨ta, h1, q1⟩ := ha.ex
  refine ⟨_, mk' _ _ ho (pa_cons h1 pa_nil hs), fun σ H ρ F r Q E n hm k => ?_⟩
  unfold xPopD at hm
  split at hm
  · rename_i kvs hx
    obtain ⟨kd, e2, hm⟩ := Option.bind_eq_some_iff.mp hm
    obtain ⟨key, e3, hm⟩ := Option.bind_eq_some_iff.mp hm
    obtain ⟨v, e4, hm⟩ := Option.map_eq_some_iff.mp hm
    subst hm
    obtain ⟨ad, ob, xs, g1, ha', hb, hkd, _⟩ := E.dicPut n hx
    refine ⟨_, g1, ⟨ad, xs, rfl, ob, .inl ha', hw ▸ hb, hkd.isK⟩, ?_⟩
    refine q1 σ H ρ F kd _ E e2 fun kv H2 s2 dk nk => ?_
    obtain ⟨ad', ob', xs', g2, ha2, hb2, hkd2, go⟩ := (E.same s2).dicPut n hx
    rw [g1] at g2
    cases g2
    rcases hkd2.at e3 with ⟨kv', vv, vd, h1, h2, h3, h4⟩ | ⟨h1, h2⟩
    · rw [e4] at h2
      cases h2
      refine ⟨ad, xs', kv, kv', vv, key, rfl, rfl, ⟨ob', ha2⟩, ⟨ob', .inl ha2, hw ▸ hb2, hkd2.isK⟩, ⟨kd, dk, e3⟩, h1, fun o3 hb3 => ?_⟩
      obtain ⟨F2, i1, i2, i3, i4⟩ := go o3 _ _ (hw ▸ hb3) (hkd2.drop e3)
      exact k vv _ [] F2 (.imm (dp_keepX i4 h4 h3) h4) i1 i2 ((Mv.same s2 fun _ h => h).trans i3)
    · rw [e4] at h2
      cases h2
  · cases hm
/-- del d[k] -/
def tEDel (K : PySem.W.Frag) (w : World) (td ty : TE) : TS := fun D σ H => td σ H fun x H1 => ty σ H1 fun y H2 => ∃ a es k, x = .ref a ∧ Free H2 a ∧ Dic K w H2 a es ∧ IsK K H2 y k ∧ (atN es k).isSome = true ∧ ∀ o, DicOb w a o (dropN es k) → D.nx σ (upd H2 a (dicO a o))
theorem ps_edel {td ty : TE} {tpos : Pos} (hu : X.A.units + 64 < cLine) (ho : PE X o td) (hi : PE X a ty) : PS X (.Delete [.Subscript o a tpos] pos) (tEDel X.K X.w td ty) := by
  refine ⟨fun pins s σ H D I h => ?_⟩
  refine wpAny_Delete (wpAny_deleteEach_cons (wpAny_delete_Subscript (thn (ho.run pins s σ H _ I h) fun u s1 ⟨x, H1, I1, rx, q1⟩ => thn (hi.run pins s1 σ H1 _ I1 q1) fun iv s2 ⟨y, H2, I2, ry, ad, es, k, ex, f, g, hk, l, q2⟩ => ?_)))
  subst ex
  obtain rfl : u = Value.ref ad := rx
  refine thn (dic_del (Q := fun H' => D.nx σ H') hu I2 f g hk ry l q2) fun _ s3 ⟨H3, I3, q3⟩ => ?_
  exact wpAny_deleteEach_nil ⟨σ, _, I3, q3⟩
def sDelD (i : Nat) (mk : Env' → Option PyData) : MM Fl := fun ρ => match ρ[i]? with
  | some (some (.dic kvs)) => (mk ρ).bind fun kd => (kT kd).bind fun _ => if (atD kvs kd).isSome then some (.ok .nx (ρ.set i (some (.dic (dropD kvs kd))))) else none
  | _ => none
theorem qs_delD {i : Nat} {mk : Env' → Option PyData} {tpos : Pos} (hw : T.wd = X.w) (hu : X.A.units + 64 < cLine) (ho : PE X o (tVar i)) (ha : QE T X a mk) : QS T S X W (.Delete [.Subscript o a tpos] pos) (sDelD i mk) := by
  obtain ⟨tk, hk, qk⟩ := ha.ex
  refine ⟨_, ps_edel hu ho hk, fun σ H ρ F r D E n hm k => ?_⟩
  unfold sDelD at hm
  split at hm
  · rename_i kvs hx
    obtain ⟨kd, e2, hm⟩ := Option.bind_eq_some_iff.mp hm
    obtain ⟨key, e3, hm⟩ := Option.bind_eq_some_iff.mp hm
    split at hm
    · rename_i hl
      cases hm
      obtain ⟨w0, f0, g0, _, _⟩ := E.get hx
      refine ⟨w0, g0, ?_⟩
      refine qk σ H ρ F kd _ E e2 fun kv H2 s2 dk nk => ?_
      obtain ⟨ad, ob, xs, g1, ha', hb, hkd, go⟩ := (E.same s2).dicPut n hx
      rw [g0] at g1
      cases g1
      have hb' : (atN xs key).isSome = true := by
        rcases hkd.at e3 with ⟨kv', vv, vd, h1, h2, h3, h4⟩ | ⟨h1, h2⟩
        · rw [h1]
          rfl
        · rw [h2] at hl
          cases hl
      refine ⟨ad, xs, key, rfl, ⟨ob, ha'⟩, ⟨ob, .inl ha', hw ▸ hb, hkd.isK⟩, ⟨kd, dk, e3⟩, hb', fun ob' hb' => ?_⟩
      obtain ⟨F2, h1, h2, h3, _⟩ := go ob' _ _ (hw ▸ hb') (hkd.drop e3)
      exact k σ _ F2 (Stb.refl σ) h1 h2 ((Mv.same s2 fun _ h => h).trans h3)
    · cases hm
  · cases hm
/-- len(d), isinstance(d, dict) -/
def eLenD (i : Nat) : Env' → Option PyData := fun ρ => (dicI i ρ).map fun kvs => .int (kvs.length : Int)
theorem qe_lenD {i : Nat} {p : Pos} (hw : T.wd = X.w) (h : PE X a (tVar i)) (hg : Gl X "len") (hm : X.mg "len" = none) (hs : starEach [a] X.env = (false, eval a X.env) :: starEach [] X.env := by rfl) : QE T X (.Call (.Name "len" p) [a] [] pos) (eLenD i) := by
  refine ⟨_, pe_callB call_elen hg hm PySem.boot_len (pa_cons h pa_nil hs) (he := hs), fun σ H ρ F d Q E hmm k => ?_⟩
  obtain ⟨kvs, e1, hmm⟩ := Option.map_eq_some_iff.mp hmm
  obtain ⟨ad, xs, g, D, hk⟩ := dicI_ok E e1
  subst hmm
  refine ⟨_, g, ad, xs, rfl, hw ▸ D, ?_⟩
  rw [hk.len]
  exact k _ H (Same.refl H) (.int _) rfl
theorem call_isD : CallR X (.builtin "isinstance") (fun xs H Q => ∃ a es, xs = [.ref a, .ty "dict"] ∧ Dic X.K X.w H a es ∧ Q (.bl true) H) := by
  intro pins s σ H xs us Q I r h
  obtain ⟨a, es, rfl, g, q⟩ := h
  obtain ⟨u1, u2, rfl, r1, r2⟩ := vals2 r
  cases (show u1 = Value.ref a from r1)
  cases (show u2 = Value.type "dict" from r2)
  obtain ⟨hs, hz, ys, rr, dd⟩ := g.of I
  exact PySem.W.kia_one PySem.W.kitx_dict I.kIn dd.typeIs (kit_ty (by decide +kernel)) (fun z => nomatch z) fun tk => ⟨.bl true, H, I.tok tk, rfl, q⟩
def eIsD (i : Nat) : Env' → Option PyData := fun ρ => (dicI i ρ).map fun _ => .bool true
theorem qe_isD {i : Nat} {p : Pos} (hw : T.wd = X.w) (h : PE X a (tVar i)) (hb : PE X b (tC (.ty "dict"))) (hg : Gl X "isinstance") (hm : X.mg "isinstance" = none)
    (hs : starEach [a, b] X.env = (false, eval a X.env) :: starEach [b] X.env := by rfl) (hs2 : starEach [b] X.env = (false, eval b X.env) :: starEach [] X.env := by rfl) (hpl : (backTo pos (starEach [b] X.env)).any (·.1) = false := by rfl) :
    QE T X (.Call (.Name "isinstance" p) [a, b] [] pos) (eIsD i) := by
  refine ⟨_, pe_callB call_isD hg hm (by decide +kernel) (pa_cons h (pa_cons hb pa_nil hs2) hs) (he := hs) (hpl := hpl), fun σ H ρ F d Q E hmm k => ?_⟩
  obtain ⟨kvs, e1, hmm⟩ := Option.map_eq_some_iff.mp hmm
  obtain ⟨ad, xs, g, D, hk⟩ := dicI_ok E e1
  subst hmm
  exact ⟨_, g, ad, xs, rfl, hw ▸ D, k _ H (Same.refl H) (.bl _) rfl⟩
end
/-! ### dicts keyed by data: rules -/
section
variable {i : Nat} {ρ : Env'} {kvs : List (PyData × PyData)}
@[simp] theorem dM_dic : dicM (.dic kvs) = some kvs := rfl
@[simp] theorem dM_fdic : dicM (.fdic kvs) = some kvs := rfl
@[simp] theorem a_dicI : dicI i ρ = match ρ[i]? with
  | some (some x) => dicM x
  | _ => none := rfl
@[simp] theorem a_xDNew : xDNew ρ = some (.ok (.dic []) ρ) := rfl
@[simp] theorem a_eIxD {mk : Env' → Option PyData} : eIxD i mk ρ = (dicI i ρ).bind fun kvs => (mk ρ).bind fun kd => (kT kd).bind fun _ => atD kvs kd := rfl
@[simp] theorem a_dInD {neg : Bool} {m : MM PyData} : dInD neg i m ρ = bindM m (fun d ρ => (dicI i ρ).bind fun kvs => (kT d).map fun _ => .ok (.bool (if neg then !(atD kvs d).isSome else (atD kvs d).isSome)) ρ) ρ := rfl
@[simp] theorem a_eGetD {mk mv : Env' → Option PyData} : eGetD i mk mv ρ = (dicI i ρ).bind fun kvs => (mk ρ).bind fun kd => (mv ρ).bind fun dv => (kT kd).map fun _ => (atD kvs kd).getD dv := rfl
@[simp] theorem a_sPutD {mk : Env' → Option PyData} {m : MM PyData} : sPutD i mk m ρ = bindM m (fun d ρ => match ρ[i]? with
  | some (some (.dic kvs)) => (mk ρ).bind fun kd => (kT kd).bind fun _ => if kvs.length ≤ most then some (.ok .nx (ρ.set i (some (.dic (putD kvs kd d))))) else none
  | _ => none) ρ := rfl
@[simp] theorem a_xPopD {mk : Env' → Option PyData} : xPopD i mk ρ = match ρ[i]? with
  | some (some (.dic kvs)) => (mk ρ).bind fun kd => (kT kd).bind fun _ => (atD kvs kd).map fun v => .ok (.imm v) (ρ.set i (some (.dic (dropD kvs kd))))
  | _ => none := rfl
@[simp] theorem a_sDelD {mk : Env' → Option PyData} : sDelD i mk ρ = match ρ[i]? with
  | some (some (.dic kvs)) => (mk ρ).bind fun kd => (kT kd).bind fun _ => if (atD kvs kd).isSome then some (.ok .nx (ρ.set i (some (.dic (dropD kvs kd))))) else none
  | _ => none := rfl
@[simp] theorem a_eLenD : eLenD i ρ = (dicI i ρ).map fun kvs => .int (kvs.length : Int) := rfl
@[simp] theorem a_eIsD : eIsD i ρ = (dicI i ρ).map fun _ => .bool true := rfl
@[simp] theorem a_lockM {m : MM Fl} : lockM i m ρ = match ρ[i]? with
  | some (some (.dic kvs)) => (m (ρ.set i (some (.fdic kvs)))).bind (unlM i kvs)
  | _ => none := rfl
@[simp] theorem a_iFd : iFd i ρ = match ρ[i]? with
  | some (some (.fdic kvs)) => some (.ok (kvs.map Prod.fst) ρ)
  | _ => none := rfl
@[simp] theorem a_unl_er {c : Nat} {fs : List (Str × PyData)} : unlM i kvs (.er c fs ρ) = none := rfl
@[simp] theorem a_unl {fl : Fl} : unlM i kvs (.ok fl ρ) = match okU i fl ρ with
    | true => some (.ok fl (ρ.set i (some (.dic kvs))))
    | false => none := rfl
@[simp] theorem a_okU {fl : Fl} : okU i fl ρ = (isSS ρ[i]? && ((ρ.set i (some .hol)).all noFO && noFl fl)) := rfl
@[simp] theorem a_isSS {x : M} : isSS (some (some x)) = true := rfl
@[simp] theorem a_noFl_rt {x : M} : noFl (.rt x) = noF 4 x := rfl
@[simp] theorem a_noFl_nx : noFl .nx = true := rfl
@[simp] theorem a_noFl_bk : noFl .bk = true := rfl
@[simp] theorem a_noFl_ct : noFl .ct = true := rfl
@[simp] theorem a_noFO_none : noFO none = true := rfl
@[simp] theorem a_noFO_imm {d : PyData} : noFO (some (.imm d)) = true := rfl
@[simp] theorem a_noFO_hol : noFO (some .hol) = true := rfl
@[simp] theorem a_noFO_scr {ns : List Int} : noFO (some (.scr ns)) = true := rfl
@[simp] theorem a_noFO_dic : noFO (some (.dic kvs)) = true := rfl
@[simp] theorem a_noFO_lst {xs : List M} : noFO (some (.lst xs)) = xs.all (noF 3) := rfl
@[simp] theorem a_noF_lst {n : Nat} {xs : List M} : noF (n + 1) (.lst xs) = xs.all (noF n) := rfl
@[simp] theorem a_noF_imm {n : Nat} {d : PyData} : noF (n + 1) (.imm d) = true := rfl
end
/-! ### a in a list, items of any depth -/
theorem room65 {k : Nat} {A : Around} (r : Room k A) : A.units + 65 < cLine := by have := r.un; omega
section
variable {K : PySem.W.Frag} {T : Tb} {X : Cx} {W : WXk} {a b : Expr} {pos : Pos}
def rInN (K : PySem.W.Frag) (neg : Bool) : R2 := fun x y H Q => ∃ d ds, Dp K H x d ∧ Dp K H y (.list ds) ∧ SeqAt.shaped d = true ∧ SeqAt.shaped (.list ds) = true ∧ Q (.bl (if neg then !(ds.any fun z => PyData.eqv z d) else ds.any fun z => PyData.eqv z d)) H
theorem op_inDN (hu : X.A.units + 65 < cLine) : OpR X (compareOp .In) (rInN X.K false) := op_inD hu
theorem op_notInDN (hu : X.A.units + 65 < cLine) : OpR X (compareOp .NotIn) (rInN X.K true) := op_notInD hu
def inDL (neg : Bool) (a : PyData) (x : M) : Option PyData := match lstL x with
  | some ds => if (SeqAt.shaped a && SeqAt.shaped (.list ds)) = true then some (.bool (if neg then !(ds.any fun z => PyData.eqv z a) else ds.any fun z => PyData.eqv z a)) else none
  | none => none
theorem inDL_ok {H : Hp} {u v : V} {p z : PyData} {x : M} {f : List Addr} {neg : Bool} {Q : VK} (dx : Dq K H u p) (r : Rep K T H v x f) (h : inDL neg p x = some z) (k : ∀ v, Dq K H v z → noL z = true → Q v H) : rInN K neg u v H Q := by
  unfold inDL at h
  split at h
  · rename_i ds hl
    split at h
    · rename_i hc
      rw [Bool.and_eq_true] at hc
      cases h
      obtain ⟨a, vs, rfl, s, al, nl⟩ := lstL_dp r hl
      exact ⟨p, ds, dx.dp, .lst s al.dp, hc.1, hc.2, k _ (.bl _) rfl⟩
    · cases h
  · cases h
def dInN (neg : Bool) (m : MM PyData) (k : MM M) : MM PyData := bindM m fun d => bindM k fun x => optM (inDL neg d x)
theorem qc_inN {op : CmpOp} {neg : Bool} {m : MM PyData} {mk : MM M} (ho : OpR X (compareOp op) (rInN X.K neg)) (hmk : behindInMarks op b = false) (ha : QD T X W a m) (hb : QX T X W b mk) : QC T X W (.Compare a [op] [b] pos) (dInN neg m mk) := by
  obtain ⟨ta, h1, q1⟩ := ha.ex
  obtain ⟨tb, h2, q2⟩ := hb.ex
  refine ⟨tOp _ ta tb, pe_cmpR ho h1 h2 hmk, pt_cmpR ho h1 h2 hmk, fun σ H ρ F res Q E n hm k => ?_⟩
  unfold dInN bindM at hm
  cases hx : m ρ with
  | none => rw [hx] at hm; cases hm
  | some rx =>
    rw [hx] at hm
    refine q1 σ H ρ F rx _ E n hx ?_
    cases rx with
    | er c fs ρ1 => cases hm; exact k
    | ok x ρ1 =>
      intro u H1 F1 d1 n1 E1 nd1 m1
      dsimp only at hm
      cases hy : mk ρ1 with
      | none => rw [hy] at hm; cases hm
      | some ry =>
        rw [hy] at hm
        refine q2 σ H1 ρ1 F1 ry _ E1 nd1 hy ?_
        cases ry with
        | er c fs ρ2 => cases hm; exact XOk.from k m1
        | ok y ρ2 =>
          intro v H2 f2 F2 r2 E2 nd2 m2
          dsimp only [optM] at hm
          cases hz : inDL neg x y with
          | none => rw [hz] at hm; cases hm
          | some z =>
            rw [hz] at hm
            cases hm
            refine inDL_ok (dp_keepX (m2.c.kp (g := []) E1.wr (fun _ h => nomatch h)).x n1 d1) r2 hz fun w dz nz => ?_
            exact k w H2 F2 dz nz E2 (List.nodup_append.mp nd2).2.1 ((m1.trans m2).sub fun _ h => List.mem_append_right _ h)
@[simp] theorem a_dInN {neg : Bool} {m : MM PyData} {k : MM M} {ρ : Env'} : dInN neg m k ρ = bindM m (fun d => bindM k fun x => optM (inDL neg d x)) ρ := rfl
end
noncomputable def b_put_value : MM Fl := (ifM (tM (d2 oNe (qM (eV 2)) (qM (eC k_NONE))))
      (sPutD 0 (eV 1) (qM (eV 2)))
      (ifM (tM (dInD false 0 (qM (eV 1))))
      (sDelD 0 (eV 1))
      endM))
noncomputable def m_put_value : List M → Option (Rs (List M) M) := runX [0, 1, 2] 3 b_put_value
noncomputable def l1_publish : MM Fl := (sDrop (xCall 3 m_put_value (rSlot 0 (rVal (qM (eV 2)) (rVal (qM (eV 3)) rNil)))))
noncomputable def b_publish : MM Fl := (forM (.tp [(.nm 2), (.nm 3)]) (iT (qM (eV 1)))
      l1_publish)
noncomputable def m_publish : List M → Option (Rs (List M) M) := runX [0, 1] 4 b_publish
noncomputable def b__law_cell : MM Fl := (seqM (ifM (tM (d2 oLt (qM (eV 1)) (qM (eLenP (eP 0)))))
      (sRetD (qM (eIx (eP 0) (eV 1))))
      endM)
    (sRetD (qM (eC (.int 0)))))
noncomputable def m__law_cell : List M → Option (Rs (List M) M) := runX [0, 1] 2 b__law_cell
noncomputable def l1__law_digits : MM Fl := (ifM (tM (d2 oGt (qM (eV 5)) (qM (eC (.int 0)))))
      (seqM (sDrop (xApp 3 (dX (qM (e2 oMod (eN oInt (aCons (eV 5) aNil)) (eC (.int 1000)))))))
    (sSetD 5 (qM (e2 oDiv (eV 5) (eC (.int 1000))))))
      endM)
noncomputable def l2__law_digits : MM Fl := (seqM (sSetD 7 (qM (e2 oMod (eN oInt (aCons (e2 oAdd (e2 oAdd (e2 oMul (eV 7) (eC (.int 16807))) (e2 oMul (eC (.int 7)) (eV 6))) (eC (.int 1))) aNil)) (eC (.int 2147483647)))))
    (sDrop (xApp 3 (dX (qM (e2 oMod (eN oInt (aCons (e2 oDiv (eV 7) (eC (.int 997))) aNil)) (eC (.int 1000))))))))
noncomputable def l3__law_digits : MM Fl := (seqM (sSetD 5 (xD (xCall 2 m__law_cell (rSlot 0 (rVal (qM (eV 4)) rNil)))))
    (seqM (ifM (tM (d2 oLt (qM (eV 5)) (qM (eC (.int 0)))))
      (sSetD 5 (qM (e2 oSub (eC (.int 1)) (e2 oMul (eC (.int 2)) (eV 5)))))
      endM)
    (ifM (tM (d2 oGe (qM (eV 5)) (qM (e2 oPow (eC (.int 10)) (eC (.int 18))))))
      (forM (.nm 6) (iR1 (qM (eC (.int 60))))
      l1__law_digits)
      (seqM (sSetD 7 (qM (e2 oMod (eN oInt (aCons (e2 oAdd (e2 oAdd (e2 oMul (eV 5) (eC (.int 48271))) (e2 oMul (eV 4) (eC (.int 69621)))) (eC (.int 11))) aNil)) (eC (.int 2147483647)))))
    (forM (.nm 6) (iR1 (qM (eC (.int 12))))
      l2__law_digits)))))
noncomputable def b__law_digits : MM Fl := (seqM (sSet 3 (xLst rNil))
    (seqM (forM (.nm 4) (iR2 (qM (eV 1)) (qM (eV 2)))
      l3__law_digits)
    (sRetV 3)))
noncomputable def m__law_digits : List M → Option (Rs (List M) M) := runX [0, 1, 2] 8 b__law_digits
noncomputable def b__law_draw : MM Fl := (seqM (sSetD 2 (qM (pE (pIx (eP 0) 1))))
    (seqM (sIdx 0 (eC (.int 1)) (qM (e2 oAdd (eV 2) (eC (.int 1)))))
    (seqM (ifM (tM (d2 oLt (qM (eV 2)) (qM (eLenP (pIx (eP 0) 0)))))
      (sRetD (qM (e2 oMod (eN oInt (aCons (eIx (pIx (eP 0) 0) (eV 2)) aNil)) (eV 1))))
      endM)
    (sRetD (qM (eC (.int 0)))))))
noncomputable def m__law_draw : List M → Option (Rs (List M) M) := runX [0, 1] 3 b__law_draw
noncomputable def l1__law_same (self__law_same : List PyData → Option PyData) : MM Fl := (ifM (notM (uM (dX (qM (eCall 2 (self__law_same) (aCons (eIx (eP 0) (eV 2)) (aCons (eIx (eP 1) (eV 2)) aNil)))))))
      (sRetD (qM (eC (.bool false))))
      endM)
noncomputable def b__law_same (self__law_same : List PyData → Option PyData) : MM Fl := (seqM (ifM (uM (dX (dIsi isTup (qM (eV 1)))))
      (seqM (ifM (orM (notM (uM (dX (dIsi isTup (qM (eV 0)))))) (tM (d2 oNe (qM (eLenP (eP 0))) (qM (eLenP (eP 1))))))
      (sRetD (qM (eC (.bool false))))
      endM)
    (seqM (forM (.nm 2) (iR1 (qM (eLenP (eP 1))))
      (l1__law_same self__law_same))
    (sRetD (qM (eC (.bool true))))))
      endM)
    (seqM (ifM (tM (d2 oIs (qM (eV 1)) (qM (eC .none))))
      (sRetD (d2 oIs (qM (eV 0)) (qM (eC .none))))
      endM)
    (seqM (ifM (uM (dX (dIsi isBool (qM (eV 1)))))
      (sRetD (dAnd (dIsi isBool (qM (eV 0))) (d2 oEq (qM (eV 0)) (qM (eV 1)))))
      endM)
    (seqM (ifM (uM (dX (dIsi isInt (qM (eV 1)))))
      (sRetD (dAnd (dIsi isInt (qM (eV 0))) (dAnd (dNot (dIsi isBool (qM (eV 0)))) (d2 oEq (qM (eV 0)) (qM (eV 1))))))
      endM)
    (sRetD (dAnd (dIsi isStr (qM (eV 0))) (d2 oEq (qM (eV 0)) (qM (eV 1)))))))))
noncomputable def m__law_same : Nat → List PyData → Option PyData
  | 0 => fun _ => none
  | n + 1 => runD 3 (b__law_same (m__law_same n))
noncomputable def b__law_number : MM Fl := (seqM (sSetD 1 (xD (xCall 2 m__law_draw (rSlot 0 (rVal (qM (eC (.int 8))) rNil)))))
    (seqM (sSetD 2 (xD (xCall 2 m__law_draw (rSlot 0 (rVal (qM (eC (.int 1000))) rNil)))))
    (seqM (ifM (tM (d2 oEq (qM (eV 1)) (qM (eC (.int 0)))))
      (sRetD (qM (e2 oSub (e2 oSub (e2 oPow (eC (.int 10)) (eC (.int 60))) (eC (.int 1))) (e2 oMod (eV 2) (eC (.int 3))))))
      endM)
    (seqM (ifM (tM (d2 oEq (qM (eV 1)) (qM (eC (.int 1)))))
      (sRetD (qM (e2 oSub (e2 oAdd (e2 oMod (eV 2) (eC (.int 3))) (eC (.int 1))) (e2 oPow (eC (.int 10)) (eC (.int 60))))))
      endM)
    (seqM (ifM (tM (d2 oEq (qM (eV 1)) (qM (eC (.int 2)))))
      (sRetD (d2 oAdd (d2 oAdd (qM (e2 oMul (eV 2) (e2 oPow (eC (.int 10)) (eC (.int 27))))) (d2 oMul (xD (xCall 2 m__law_draw (rSlot 0 (rVal (qM (eC (.int 1000))) rNil)))) (qM (e2 oPow (eC (.int 10)) (eC (.int 12)))))) (xD (xCall 2 m__law_draw (rSlot 0 (rVal (qM (eC (.int 1000))) rNil))))))
      endM)
    (seqM (ifM (tM (d2 oEq (qM (eV 1)) (qM (eC (.int 3)))))
      (sRetD (d2 oSub (qM (e2 oSub (eC (.int 0)) (e2 oMul (eV 2) (e2 oPow (eC (.int 10)) (eC (.int 28)))))) (xD (xCall 2 m__law_draw (rSlot 0 (rVal (qM (eC (.int 1000))) rNil))))))
      endM)
    (seqM (ifM (tM (d2 oEq (qM (eV 1)) (qM (eC (.int 4)))))
      (sRetD (qM (e2 oSub (eC (.int 0)) (eV 2))))
      endM)
    (seqM (ifM (tM (d2 oEq (qM (eV 1)) (qM (eC (.int 5)))))
      (sRetD (qM (e2 oMod (eV 2) (eC (.int 3)))))
      endM)
    (sRetD (qM (eV 2)))))))))))
noncomputable def m__law_number : List M → Option (Rs (List M) M) := runX [0] 3 b__law_number
noncomputable def l1__law_text : MM Fl := (ifM (tM (d2 oLt (qM (eLenP (eP 3))) (qM (eV 1))))
      (sSetD 3 (d2 oAdd (qM (eV 3)) (dIxV 2 (xD (xCall 2 m__law_draw (rSlot 0 (rVal (qM (eC (.int 95))) rNil)))))))
      endM)
noncomputable def b__law_text : MM Fl := (seqM (sSetD 2 (qM (eC (.str " !\"#$&'()*+,-./0123456789:;<=>?@ABCDEFGHIJKLMNOPQRSTUVWXYZ[\\]^_`"))))
    (seqM (sSetD 2 (qM (e2 oAdd (eV 2) (eC (.str "abcdefghijklmnopqrstuvwxyz{|}~\n")))))
    (seqM (sSetD 3 (qM (eC (.str ""))))
    (seqM (ifM (tM (d2 oEq (xD (xCall 2 m__law_draw (rSlot 0 (rVal (qM (eC (.int 4))) rNil)))) (qM (eC (.int 0)))))
      (sSetD 3 (d2 oMul (dIxV 2 (xD (xCall 2 m__law_draw (rSlot 0 (rVal (qM (eC (.int 95))) rNil))))) (xD (xCall 2 m__law_draw (rSlot 0 (rVal (qM (e2 oAdd (eV 1) (eC (.int 1)))) rNil))))))
      endM)
    (seqM (forM (.nm 4) (iR1 (xD (xCall 2 m__law_draw (rSlot 0 (rVal (qM (eC (.int 4))) rNil)))))
      l1__law_text)
    (sRetD (qM (eV 3))))))))
noncomputable def m__law_text : List M → Option (Rs (List M) M) := runX [0, 1] 5 b__law_text
noncomputable def l1__law_value : MM Fl := (sSetD 2 (d2 oAdd (qM (eV 2)) (dTup (bCons (xD (xCall 2 m__law_draw (rSlot 0 (rVal (qM (eC (.int 3))) rNil)))) bNil))))
noncomputable def b__law_value : MM Fl := (seqM (sSetD 1 (xD (xCall 2 m__law_draw (rSlot 0 (rVal (qM (eC (.int 6))) rNil)))))
    (seqM (ifM (tM (d2 oEq (qM (eV 1)) (qM (eC (.int 0)))))
      (sRetD (qM (eTup (aCons (eC (.str "none")) aNil))))
      endM)
    (seqM (ifM (tM (d2 oEq (qM (eV 1)) (qM (eC (.int 1)))))
      (sRetD (dTup (bCons (qM (eC (.str "bool"))) (bCons (d2 oEq (xD (xCall 2 m__law_draw (rSlot 0 (rVal (qM (eC (.int 2))) rNil)))) (qM (eC (.int 1)))) bNil))))
      endM)
    (seqM (ifM (tM (d2 oEq (qM (eV 1)) (qM (eC (.int 2)))))
      (sRetD (dTup (bCons (qM (eC (.str "text"))) (bCons (xD (xCall 2 m__law_text (rSlot 0 (rVal (qM (eC (.int 200))) rNil)))) bNil))))
      endM)
    (seqM (ifM (tM (d2 oEq (qM (eV 1)) (qM (eC (.int 3)))))
      (seqM (sSetD 2 (qM (eTup aNil)))
    (seqM (forM (.nm 3) (iR1 (xD (xCall 2 m__law_draw (rSlot 0 (rVal (qM (eC (.int 3))) rNil)))))
      l1__law_value)
    (sRetD (dTup (bCons (qM (eC (.str "object"))) (bCons (qM (eV 2)) (bCons (xD (xCall 2 m__law_draw (rSlot 0 (rVal (qM (eC (.int 3))) rNil)))) bNil)))))))
      endM)
    (sRetD (dTup (bCons (qM (eC (.str "int"))) (bCons (xD (xCall 1 m__law_number (rSlot 0 rNil))) bNil)))))))))
noncomputable def m__law_value : List M → Option (Rs (List M) M) := runX [0] 4 b__law_value
noncomputable def l1__law_same_memory : MM Fl := (ifM (orM (tM (dInD true 0 (qM (eV 2)))) (notM (uM (dX (qM (eCall 2 (m__law_same 9) (aCons (eIxD 0 (eV 2)) (aCons (eIxD 1 (eV 2)) aNil))))))))
      (sRetD (qM (eC (.bool false))))
      endM)
noncomputable def b__law_same_memory : MM Fl := (seqM (ifM (orM (notM (uM (dX (qM (eIsD 0))))) (tM (d2 oNe (qM (eLenD 0)) (qM (eLenD 1)))))
      (sRetD (qM (eC (.bool false))))
      endM)
    (seqM (lockM 1 (forM (.nm 2) (iFd 1)
      l1__law_same_memory))
    (sRetD (qM (eC (.bool true))))))
noncomputable def m__law_same_memory : List M → Option (Rs (List M) M) := runX [0, 1] 3 b__law_same_memory
noncomputable def l1__law_place : MM Fl := (sSetD 1 (d2 oAdd (qM (eV 1)) (dTup (bCons (xD (xCall 2 m__law_draw (rSlot 0 (rVal (qM (eC (.int 2))) rNil)))) bNil))))
noncomputable def b__law_place : MM Fl := (seqM (sSetD 1 (qM (eTup aNil)))
    (seqM (forM (.nm 2) (iR1 (xD (xCall 2 m__law_draw (rSlot 0 (rVal (qM (eC (.int 3))) rNil)))))
      l1__law_place)
    (sRetD (dTup (bCons (qM (eV 1)) (bCons (xD (xCall 2 m__law_draw (rSlot 0 (rVal (qM (eC (.int 2))) rNil)))) (bCons (xD (xCall 2 m__law_draw (rSlot 0 (rVal (qM (eC (.int 3))) rNil)))) bNil)))))))
noncomputable def m__law_place : List M → Option (Rs (List M) M) := runX [0] 3 b__law_place
noncomputable def l1_law : MM Fl := (seqM (sSetD 4 (xD (xCall 1 m__law_place (rSlot 1 rNil))))
    (seqM (sSetD 5 (xD (xCall 1 m__law_value (rSlot 1 rNil))))
    (ifM (tM (d2 oNe (qM (pE (pIx (eP 5) 0))) (qM (eC (.str "none")))))
      (sPutD 2 (eV 4) (qM (eV 5)))
      endM)))
noncomputable def l2_law : MM Fl := (seqM (sSetD 4 (xD (xCall 1 m__law_place (rSlot 1 rNil))))
    (ifM (tM (dInN true (qM (eV 4)) (xLc 10 (.nm 7) [7] (iT (qM (eV 6))) (pureM true) (dX (qM (pE (pIx (eP 7) 0)))))))
      (sSetD 6 (d2 oAdd (qM (eV 6)) (dTup (bCons (dTup (bCons (qM (eV 4)) (bCons (xD (xCall 1 m__law_value (rSlot 1 rNil))) bNil))) bNil))))
      endM))
noncomputable def l3_law : MM Fl := (sPutD 8 (eV 4) (qM (eIxD 2 (eV 4))))
noncomputable def l4_law : MM Fl := (ifM (tM (d2 oNe (qM (pE (pIx (pIx (eP 7) 1) 0))) (qM (eC (.str "none")))))
      (sPutD 8 (pE (pIx (eP 7) 0)) (qM (pE (pIx (eP 7) 1))))
      (ifM (tM (dInD false 8 (qM (pE (pIx (eP 7) 0)))))
      (sDrop (xPopD 8 (pE (pIx (eP 7) 0))))
      endM))
noncomputable def l5_law : MM Fl := (seqM (sDrop (xCall 2 m_publish (rSlot 2 (rVal (qM (eV 6)) rNil))))
    (ifM (notM (uM (xCall 2 m__law_same_memory (rSlot 2 (rSlot 8 rNil)))))
      (sRetD (qM (eC (.bool false))))
      endM))
noncomputable def b_law : MM Fl := (seqM (sSet 1 (xLst (rOwn (xCall 3 m__law_digits (rSlot 0 (rVal (qM (eC (.int 0))) (rVal (qM (eC (.int 63))) rNil)))) (rVal (qM (eC (.int 0))) rNil))))
    (seqM (sSet 2 xDNew)
    (seqM (forM (.nm 3) (iR1 (xD (xCall 2 m__law_draw (rSlot 1 (rVal (qM (eC (.int 13))) rNil)))))
      l1_law)
    (seqM (sSetD 6 (qM (eTup aNil)))
    (seqM (forM (.nm 3) (iR1 (xD (xCall 2 m__law_draw (rSlot 1 (rVal (qM (eC (.int 11))) rNil)))))
      l2_law)
    (seqM (sSet 8 xDNew)
    (seqM (lockM 2 (forM (.nm 4) (iFd 2)
      l3_law))
    (seqM (forM (.nm 7) (iT (qM (eV 6)))
      l4_law)
    (seqM (forM (.nm 9) (iR1 (qM (eC (.int 2))))
      l5_law)
    (sRetD (qM (eC (.bool true)))))))))))))
noncomputable def m_law : List M → Option (Rs (List M) M) := runX [0] 10 b_law
theorem tg_0 : tg (Str.ofString " !\"#$&'()*+,-./0123456789:;<=>?@ABCDEFGHIJKLMNOPQRSTUVWXYZ[\\]^_`") = 29856027193219869096056447805569802937064987214643809819182447389015183197578590313803751733529185245617312972646090922956670792999180571869831943681638588157387113800613315609099422641065178870392920779396491914265441330217021367801828444339513503358263674922638029673243858161435406251182189401849456522609364778697028750228801915908298534733634452556496697742250890589860471504993 := by decide +kernel
theorem ln_0 : (Str.ofString " !\"#$&'()*+,-./0123456789:;<=>?@ABCDEFGHIJKLMNOPQRSTUVWXYZ[\\]^_`").length = 64 := by decide +kernel
theorem tg_1 : tg (Str.ofString "abcdefghijklmnopqrstuvwxyz{|}~\n") = 2506640368517312636359696509842997056714086497130056952212946941245496318399195709389815001197391080809466009485408239131193546961768119872860475077622474990549322352793867031386456075 := by decide +kernel
theorem ln_1 : (Str.ofString "abcdefghijklmnopqrstuvwxyz{|}~\n").length = 31 := by decide +kernel
theorem tg_2 : tg (Str.ofString "") = 0 := by decide +kernel
theorem ln_2 : (Str.ofString "").length = 0 := by decide +kernel
theorem tg_3 : tg (Str.ofString "none") = 153500547243944378470 := by decide +kernel
theorem ln_3 : (Str.ofString "none").length = 4 := by decide +kernel
theorem tg_4 : tg (Str.ofString "bool") = 136905908516992057453 := by decide +kernel
theorem ln_4 : (Str.ofString "bool").length = 4 := by decide +kernel
theorem tg_5 : tg (Str.ofString "text") = 161797854194976751733 := by decide +kernel
theorem ln_5 : (Str.ofString "text").length = 4 := by decide +kernel
theorem tg_6 : tg (Str.ofString "object") = 192248352724092311282247887224949 := by decide +kernel
theorem ln_6 : (Str.ofString "object").length = 6 := by decide +kernel
theorem tg_7 : tg (Str.ofString "int") = 131572151812213 := by decide +kernel
theorem ln_7 : (Str.ofString "int").length = 3 := by decide +kernel
local macro_rules
  | `(tactic| simpa [$xs,*]) => `(tactic| simp -implicitDefEqProofs only [thB_ok, thB_none, thB_er, thI_ok, thI_none, thI_er, thS_nx, thS_rt, thS_bk, thS_ct, thS_none, thS_er, a_bind, a_pure, a_opt, a_qM, a_dX, a_dM, a_xD, a_pE, a_eP, a_eV, a_eC, a_e2, a_d2, a_e1, a_d1, a_aNil, a_aCons, a_bNil, a_bCons, a_eTup, a_dTup, a_bM, a_tM, a_tru_n, a_tru_b, a_tru_i, a_tru_s, a_tru_t, a_tru_l, a_uM, a_uP, a_and, a_or, a_not, a_if, a_kAnd, a_dAnd, a_kOr, a_dOr, a_kNot, a_dNot, o_add_i, o_add_s, o_add_t, o_I, o_sub, o_mul_i, o_mul_s, o_mul_t, o_mod, o_div, o_pow, o_lt, o_lt_s, o_le, o_gt, o_ge, q_ss, q_ii, q_bb, q_nn, o_eq, o_ne, isTup_n, isTup_b, isTup_i, isTup_s, isTup_t, isBool_n, isBool_b, isBool_i, isBool_s, isBool_t, isInt_n, isInt_b, isInt_i, isInt_s, isInt_t, isStr_n, isStr_b, isStr_i, isStr_s, isStr_t, n_n, n_b, n_i, n_s, n_t, o_is, o_isNot, in_nil, in_cons, o_in_t, o_notIn_t, at_0, at_1, at_2, at_3, at_4, o_ix_t, o_ix_s, o_sl_t, o_sl_s, cut_nat, cut_1, cut_2, cut_3, cut_4, cut_to2, cut_to3, cut_to4, o_neg, a_oN, a_kS, a_oS, a_dSl, a_eN, a_dN, o_int, o_str, o_abs, o_max, o_len_t, o_len_s, l_d, l_l, l_s, a_eLenP, a_dIsi, a_nm, a_tp, a_ps_nil, a_ps_cons, a_sSetD, a_sSet, a_sPat, a_sRetD, a_sRet, a_sRetV, a_sRetN, a_sDrop, a_seq, a_end, a_sAug, a_for, a_loop_nil, a_iT, a_tupL, a_iStr, a_iL, a_lstL, a_lstS, a_immN, a_immC, a_rng1, a_rng2, a_iR1, a_iR2, a_iEn, a_backN, a_backC, i_imm, i_scr, i_fn, i_fro, a_eCall, a_dCall, a_eCall0, a_rNil, a_rVal, a_rSlot, a_rOwn, t_nil, t_val, t_own, t_slot, p_nil, p_slot, p_val, p_own, c_ok, g_ok, a_xCall, a_sIdx, x_set, a_xApp, w_nil, w_val, w_own, a_xLst, x_l, x_s, x_d, a_pIx, a_eIx, a_dIxX, a_dIxV, a_forV, a_loopV_nil, f_ins, f_fro, a_pFld, a_kTab, a_tab, o_tabIn, o_tabNot, a_tabIn, a_tabNot, a_xCallV, a_dInX, a_dInP, in_l, tup_l, tup_d, a_dTupX, a_eTupP, a_chain, a_new, finX_rt, finX_nx, finD_rt, finD_nx, thL_none, thL_nx, thL_ct, thL_bk, thL_rt, thL_er, num_nil, range_nil, o_isB, o_isNotB, a_dLenX, a_xCatV, a_catV, thC_ok, thD_ok, a_xLc, w_0, w_c, o_index, dM_dic, dM_fdic, a_dicI, a_xDNew, a_eIxD, a_dInD, a_eGetD, a_sPutD, a_xPopD, a_sDelD, a_eLenD, a_eIsD, a_lockM, a_iFd, a_unl_er, a_unl, a_okU, a_isSS, a_noFl_rt, a_noFl_nx, a_noFl_bk, a_noFl_ct, a_noFO_none, a_noFO_imm, a_noFO_hol, a_noFO_scr, a_noFO_dic, a_noFO_lst, a_noF_lst, a_noF_imm, a_dInN, a_runX, a_runD, ixN, tg_ne, tg_bne, lookup_ne, lookup_eq, ne_eq, le_most, dr_big, in_big, Nat.zero_le, CPow, Int.zero_le_ofNat, Int.reduceAbs, Nat.reducePow, and_self, List.getElem?_cons_zero, List.getElem?_cons_succ, List.getElem?_nil, List.set_cons_zero, List.set_cons_succ, List.set_nil, Option.join_some, Option.join_none, Option.map_some, Option.map_none, Option.bind_some, Option.bind_none, ite_true, ite_false, if_true, if_false, List.length_cons, List.length_nil, List.map_cons, List.map_nil, List.cons_append, List.nil_append, List.append_nil, List.replicate, List.replicate_succ, List.replicate_zero, Nat.reduceAdd, Nat.reduceSub, Nat.reduceEqDiff, Nat.reduceLeDiff, Bool.false_eq_true, Bool.not_true, Bool.not_false, reduceCtorEq, decide_true, decide_false, beq_self_eq_true, Bool.and_true, Bool.true_and, Bool.or_false, Bool.false_or, Bool.true_or, Bool.or_true, Bool.and_false, Bool.false_and, Nat.zero_add, Nat.add_zero, reduceIte, bne_self_eq_false, Option.some.injEq, List.contains_cons, List.contains_nil, Nat.reduceBEq, Nat.reduceBNe, Nat.reduceLT, Int.reduceEq, Int.reduceLT, Int.reduceLE, Int.reduceAdd, Int.reduceSub, Int.reduceMul, Int.reduceNeg, Int.reducePow, Int.reduceToNat, not_true_eq_false, not_false_eq_true, true_and, and_true, eq_self, decide_not, Bool.not_not, List.isEmpty_cons, List.lookup_nil, List.isEmpty_nil, Int.cast_ofNat_Int, Bool.not_eq_true, decide_eq_true_eq, Bool.not_eq_eq_eq_not, decide_eq_false_iff_not, Nat.reduceMod, Option.isSome_some, Option.isSome_none, List.drop_succ_cons, List.drop_zero, List.take_succ_cons, List.take_zero, List.isEmpty_iff, String.reduceEq, gt_iff_lt, ge_iff_le, k_NONE, tg_0, ln_0, tg_1, ln_1, tg_2, ln_2, tg_3, ln_3, tg_4, ln_4, tg_5, ln_5, tg_6, ln_6, tg_7, ln_7, $xs,*])
theorem draw_eq (ds : List Int) (k : Nat) (m : Int) (hm : m ≠ 0) : m__law_draw [BX ds k, .imm (.int m)] = some (.ok (.imm (.int (dr ds k m))) [BX ds (k + 1), .imm (.int m)]) := by
  unfold m__law_draw b__law_draw BX
  simpa []
  rw [List.length_map]
  by_cases h : k < ds.length
  · rw [if_pos (by omega), at_ints ds k h]
    unfold dr
    rw [List.getElem?_eq_getElem h]
    simpa [ if_neg hm]
    rfl
  · rw [if_neg (by omega)]
    unfold dr
    rw [List.getElem?_eq_none (by omega)]
    simpa []
    rfl

theorem dig_1 (x : M) (c : Int) (ds : List Int) (a b d e f : Option M) (h : ds.length ≤ 999000) :
    ∃ ρ' c' ds' g, loopM (.nm 6) l1__law_digits (rangeL 0 60) [some x, a, b, some (LI ds), d, some (.imm (.int c)), e, f] = some (.ok .nx ρ') ∧ ρ' = [some x, a, b, some (LI ds'), d, some (.imm (.int c')), g, f] ∧ ds'.length ≤ ds.length + 60 := by
  obtain ⟨ρ', h1, c', ds', g, h2, h3⟩ := range_inv (k := 6) (mb := l1__law_digits) (fun j ρ => ∃ c' ds' g, ρ = [some x, a, b, some (LI ds'), d, some (.imm (.int c')), g, f] ∧ ds'.length ≤ ds.length + j) 0 60 _ ⟨c, ds, e, rfl, Nat.le_refl _⟩ (fun j ρ hj hp => by
    obtain ⟨c1, d1, g1, rfl, h1⟩ := hp
    unfold l1__law_digits
    simpa [ LI]
    by_cases hc : 0 < c1
    · rw [if_pos hc]
      simpa [ LI, List.length_map]
      rw [if_pos (by omega)]
      simpa [ LI_app]
      exact ⟨_, rfl, _, _, _, rfl, by simp only [List.length_append, List.length_cons, List.length_nil]; omega⟩
    · rw [if_neg hc]
      exact ⟨_, rfl, _, _, _, rfl, by omega⟩)
  exact ⟨ρ', c', ds', g, h1, h2, h3⟩
theorem dig_2 (x : M) (c : Int) (ds : List Int) (a b d e f : Option M) (h : ds.length ≤ 999000) (h0 : 0 ≤ c) (h1 : c < 2147483647) :
    ∃ ρ' c' ds' g, loopM (.nm 6) l2__law_digits (rangeL 0 12) [some x, a, b, some (LI ds), d, e, f, some (.imm (.int c))] = some (.ok .nx ρ') ∧ ρ' = [some x, a, b, some (LI ds'), d, e, g, some (.imm (.int c'))] ∧ ds'.length ≤ ds.length + 12 := by
  obtain ⟨ρ', h1, c', ds', g, h2, h3, h4, h5⟩ := range_inv (k := 6) (mb := l2__law_digits) (fun j ρ => ∃ c' ds' g, ρ = [some x, a, b, some (LI ds'), d, e, g, some (.imm (.int c'))] ∧ ds'.length ≤ ds.length + j ∧ 0 ≤ c' ∧ c' < 2147483647) 0 12 _ ⟨c, ds, f, rfl, Nat.le_refl _, h0, h1⟩ (fun j ρ hj hp => by
    obtain ⟨c1, d1, g1, rfl, h1, h2, h3⟩ := hp
    have m1 : CMulX c1 16807 := mulX_log (a := 32) (b := 32) (Nat.le_of_lt (log2_small (by decide) (by omega))) (by decide) (by decide)
    have m2 : CMulX 7 (0 + (j : Nat)) := mulX_log (a := 32) (b := 32) (by decide) (Nat.le_of_lt (log2_small (by decide) (by omega))) (by decide)
    have m3 : CDivG ((c1 * 16807 + 7 * (0 + (j : Nat)) + 1).fmod 2147483647) 997 := ⟨by decide, by decide⟩
    unfold l2__law_digits
    simpa [ LI, if_pos m1, if_pos m2, if_pos m3, List.length_map]
    rw [if_pos (by omega)]
    simpa [ LI_app]
    exact ⟨_, rfl, _, _, _, rfl, by simp only [List.length_append, List.length_cons, List.length_nil]; omega, Int.fmod_nonneg_of_pos _ (by decide), Int.fmod_lt_of_pos _ (by decide)⟩)
  exact ⟨ρ', c', ds', g, h1, h2, h3⟩
theorem cell_log {ns : List Int} (hb : ∀ z ∈ ns, Builtin.Int.intBits z ≤ 1048576) (k : Nat) : ∃ z, m__law_cell [.scr ns, .imm (.int (k : Int))] = some (.ok (.imm (.int z)) [.scr ns, .imm (.int (k : Int))]) ∧ z.natAbs.log2 ≤ 1048576 := by
  unfold m__law_cell b__law_cell
  simpa []
  by_cases h : k < ns.length
  · rw [if_pos (by omega), at_n h rfl]
    simpa []
    exact ⟨_, rfl, bits_log (hb _ (List.getElem_mem h))⟩
  · rw [if_neg (by omega)]
    simpa []
    exact ⟨_, rfl, by decide⟩
theorem dig_3 {ns : List Int} (hb : ∀ z ∈ ns, Builtin.Int.intBits z ≤ 1048576) (a b : Option M) (j : Nat) (hj : j < 63) (ds : List Int) (d e f g : Option M) (h : ds.length ≤ 60 * j) :
    ∃ ρ', l3__law_digits [some (.scr ns), a, b, some (LI ds), some (.imm (.int (0 + (j : Nat)))), e, f, g] = some (.ok .nx ρ') ∧ ∃ ds' d' e' f' g', ρ' = [some (.scr ns), a, b, some (LI ds'), d', e', f', g'] ∧ ds'.length ≤ 60 * (j + 1) := by
  obtain ⟨z, ez, hz⟩ := cell_log hb j
  have hj0 : (0 + (j : Nat) : Int) = (j : Int) := by omega
  unfold l3__law_digits
  simpa [ hj0, ez]
  have fin : ∀ (z : Int), z.natAbs.log2 ≤ 1048578 → 0 ≤ z → ∃ ρ', ifM (tM (d2 oGe (qM (eV 5)) (qM (e2 oPow (eC (PyData.int 10)) (eC (PyData.int 18)))))) (forM (Pt.nm 6) (iR1 (qM (eC (PyData.int 60)))) l1__law_digits)
        (seqM (sSetD 7 (qM (e2 oMod (eN oInt (aCons (e2 oAdd (e2 oAdd (e2 oMul (eV 5) (eC (PyData.int 48271))) (e2 oMul (eV 4) (eC (PyData.int 69621)))) (eC (PyData.int 11))) aNil)) (eC (PyData.int 2147483647)))))
          (forM (Pt.nm 6) (iR1 (qM (eC (PyData.int 12)))) l2__law_digits)) [some (.scr ns), a, b, some (LI ds), some (.imm (.int (j : Int))), some (.imm (.int z)), f, g] = some (.ok .nx ρ') ∧ ∃ ds' d' e' f' g', ρ' = [some (.scr ns), a, b, some (LI ds'), d', e', f', g'] ∧ ds'.length ≤ 60 * (j + 1) := by
    intro z hz2 hz0
    by_cases hc : 1000000000000000000 ≤ z
    · obtain ⟨ρ', c', ds', g', h1, rfl, h3⟩ := dig_1 (.scr ns) z ds a b (some (.imm (.int (j : Int)))) f g (by omega)
      simpa [ if_pos hc, h1]
      exact ⟨_, rfl, _, _, _, _, _, rfl, by omega⟩
    · have m1 : CMulX z 48271 := mulX_log (a := 1048578) (b := 32) hz2 (by decide) (by decide)
      have m2 : CMulX (j : Int) 69621 := mulX_log (a := 32) (b := 32) (Nat.le_of_lt (log2_small (by decide) (by omega))) (by decide) (by decide)
      obtain ⟨ρ', c', ds', g', h1, rfl, h3⟩ := dig_2 (.scr ns) ((z * 48271 + (j : Int) * 69621 + 11).fmod 2147483647) ds a b (some (.imm (.int (j : Int)))) (some (.imm (.int z))) f (by omega) (Int.fmod_nonneg_of_pos _ (by decide)) (Int.fmod_lt_of_pos _ (by decide))
      simpa [ if_neg hc, if_pos m1, if_pos m2, h1]
      exact ⟨_, rfl, _, _, _, _, _, rfl, by omega⟩
  by_cases hn : z < 0
  · have m1 : CMulX 2 z := mulX_log (a := 32) (b := 1048576) (by decide) hz (by decide)
    simpa [ if_pos hn, if_pos m1]
    have f1 := fin (1 - 2 * z) (log_neg hz) (by omega)
    simp -implicitDefEqProofs only [thB_ok, thB_none, thB_er, thI_ok, thI_none, thI_er, thS_nx, thS_rt, thS_bk, thS_ct, thS_none, thS_er, a_bind, a_pure, a_opt, a_qM, a_dX, a_dM, a_xD, a_pE, a_eP, a_eV, a_eC, a_e2, a_d2, a_e1, a_d1, a_aNil, a_aCons, a_bNil, a_bCons, a_eTup, a_dTup, a_bM, a_tM, a_tru_n, a_tru_b, a_tru_i, a_tru_s, a_tru_t, a_tru_l, a_uM, a_uP, a_and, a_or, a_not, a_if, a_kAnd, a_dAnd, a_kOr, a_dOr, a_kNot, a_dNot, o_add_i, o_add_s, o_add_t, o_I, o_sub, o_mul_i, o_mul_s, o_mul_t, o_mod, o_div, o_pow, o_lt, o_lt_s, o_le, o_gt, o_ge, q_ss, q_ii, q_bb, q_nn, o_eq, o_ne, isTup_n, isTup_b, isTup_i, isTup_s, isTup_t, isBool_n, isBool_b, isBool_i, isBool_s, isBool_t, isInt_n, isInt_b, isInt_i, isInt_s, isInt_t, isStr_n, isStr_b, isStr_i, isStr_s, isStr_t, n_n, n_b, n_i, n_s, n_t, o_is, o_isNot, in_nil, in_cons, o_in_t, o_notIn_t, at_0, at_1, at_2, at_3, at_4, o_ix_t, o_ix_s, o_sl_t, o_sl_s, cut_nat, cut_1, cut_2, cut_3, cut_4, cut_to2, cut_to3, cut_to4, o_neg, a_oN, a_kS, a_oS, a_dSl, a_eN, a_dN, o_int, o_str, o_abs, o_max, o_len_t, o_len_s, l_d, l_l, l_s, a_eLenP, a_dIsi, a_nm, a_tp, a_ps_nil, a_ps_cons, a_sSetD, a_sSet, a_sPat, a_sRetD, a_sRet, a_sRetV, a_sRetN, a_sDrop, a_seq, a_end, a_sAug, a_for, a_loop_nil, a_iT, a_tupL, a_iStr, a_iL, a_lstL, a_lstS, a_immN, a_immC, a_rng1, a_rng2, a_iR1, a_iR2, a_iEn, a_backN, a_backC, i_imm, i_scr, i_fn, i_fro, a_eCall, a_dCall, a_eCall0, a_rNil, a_rVal, a_rSlot, a_rOwn, t_nil, t_val, t_own, t_slot, p_nil, p_slot, p_val, p_own, c_ok, g_ok, a_xCall, a_sIdx, x_set, a_xApp, w_nil, w_val, w_own, a_xLst, x_l, x_s, x_d, a_pIx, a_eIx, a_dIxX, a_dIxV, a_forV, a_loopV_nil, f_ins, f_fro, a_pFld, a_kTab, a_tab, o_tabIn, o_tabNot, a_tabIn, a_tabNot, a_xCallV, a_dInX, a_dInP, in_l, tup_l, tup_d, a_dTupX, a_eTupP, a_chain, a_new, finX_rt, finX_nx, finD_rt, finD_nx, thL_none, thL_nx, thL_ct, thL_bk, thL_rt, thL_er, num_nil, range_nil, o_isB, o_isNotB, a_dLenX, a_xCatV, a_catV, thC_ok, thD_ok, a_xLc, w_0, w_c, o_index, dM_dic, dM_fdic, a_dicI, a_xDNew, a_eIxD, a_dInD, a_eGetD, a_sPutD, a_xPopD, a_sDelD, a_eLenD, a_eIsD, a_lockM, a_iFd, a_unl_er, a_unl, a_okU, a_isSS, a_noFl_rt, a_noFl_nx, a_noFl_bk, a_noFl_ct, a_noFO_none, a_noFO_imm, a_noFO_hol, a_noFO_scr, a_noFO_dic, a_noFO_lst, a_noF_lst, a_noF_imm, a_dInN, a_runX, a_runD, ixN, tg_ne, tg_bne, lookup_ne, lookup_eq, ne_eq, le_most, dr_big, in_big, Nat.zero_le, CPow, Int.zero_le_ofNat, Int.reduceAbs, Nat.reducePow, and_self, List.getElem?_cons_zero, List.getElem?_cons_succ, List.getElem?_nil, List.set_cons_zero, List.set_cons_succ, List.set_nil, Option.join_some, Option.join_none, Option.map_some, Option.map_none, Option.bind_some, Option.bind_none, ite_true, ite_false, if_true, if_false, List.length_cons, List.length_nil, List.map_cons, List.map_nil, List.cons_append, List.nil_append, List.append_nil, List.replicate, List.replicate_succ, List.replicate_zero, Nat.reduceAdd, Nat.reduceSub, Nat.reduceEqDiff, Nat.reduceLeDiff, Bool.false_eq_true, Bool.not_true, Bool.not_false, reduceCtorEq, decide_true, decide_false, beq_self_eq_true, Bool.and_true, Bool.true_and, Bool.or_false, Bool.false_or, Bool.true_or, Bool.or_true, Bool.and_false, Bool.false_and, Nat.zero_add, Nat.add_zero, reduceIte, bne_self_eq_false, Option.some.injEq, List.contains_cons, List.contains_nil, Nat.reduceBEq, Nat.reduceBNe, Nat.reduceLT, Int.reduceEq, Int.reduceLT, Int.reduceLE, Int.reduceAdd, Int.reduceSub, Int.reduceMul, Int.reduceNeg, Int.reducePow, Int.reduceToNat, not_true_eq_false, not_false_eq_true, true_and, and_true, eq_self, decide_not, Bool.not_not, List.isEmpty_cons, List.lookup_nil, List.isEmpty_nil, Int.cast_ofNat_Int, Bool.not_eq_true, decide_eq_true_eq, Bool.not_eq_eq_eq_not, decide_eq_false_iff_not, Nat.reduceMod, Option.isSome_some, Option.isSome_none, List.drop_succ_cons, List.drop_zero, List.take_succ_cons, List.take_zero, List.isEmpty_iff, String.reduceEq, gt_iff_lt, ge_iff_le, k_NONE, tg_0, ln_0, tg_1, ln_1, tg_2, ln_2, tg_3, ln_3, tg_4, ln_4, tg_5, ln_5, tg_6, ln_6, tg_7, ln_7] at f1
    exact f1
  · simpa [ if_neg hn]
    have f1 := fin z (by omega) (by omega)
    simp -implicitDefEqProofs only [thB_ok, thB_none, thB_er, thI_ok, thI_none, thI_er, thS_nx, thS_rt, thS_bk, thS_ct, thS_none, thS_er, a_bind, a_pure, a_opt, a_qM, a_dX, a_dM, a_xD, a_pE, a_eP, a_eV, a_eC, a_e2, a_d2, a_e1, a_d1, a_aNil, a_aCons, a_bNil, a_bCons, a_eTup, a_dTup, a_bM, a_tM, a_tru_n, a_tru_b, a_tru_i, a_tru_s, a_tru_t, a_tru_l, a_uM, a_uP, a_and, a_or, a_not, a_if, a_kAnd, a_dAnd, a_kOr, a_dOr, a_kNot, a_dNot, o_add_i, o_add_s, o_add_t, o_I, o_sub, o_mul_i, o_mul_s, o_mul_t, o_mod, o_div, o_pow, o_lt, o_lt_s, o_le, o_gt, o_ge, q_ss, q_ii, q_bb, q_nn, o_eq, o_ne, isTup_n, isTup_b, isTup_i, isTup_s, isTup_t, isBool_n, isBool_b, isBool_i, isBool_s, isBool_t, isInt_n, isInt_b, isInt_i, isInt_s, isInt_t, isStr_n, isStr_b, isStr_i, isStr_s, isStr_t, n_n, n_b, n_i, n_s, n_t, o_is, o_isNot, in_nil, in_cons, o_in_t, o_notIn_t, at_0, at_1, at_2, at_3, at_4, o_ix_t, o_ix_s, o_sl_t, o_sl_s, cut_nat, cut_1, cut_2, cut_3, cut_4, cut_to2, cut_to3, cut_to4, o_neg, a_oN, a_kS, a_oS, a_dSl, a_eN, a_dN, o_int, o_str, o_abs, o_max, o_len_t, o_len_s, l_d, l_l, l_s, a_eLenP, a_dIsi, a_nm, a_tp, a_ps_nil, a_ps_cons, a_sSetD, a_sSet, a_sPat, a_sRetD, a_sRet, a_sRetV, a_sRetN, a_sDrop, a_seq, a_end, a_sAug, a_for, a_loop_nil, a_iT, a_tupL, a_iStr, a_iL, a_lstL, a_lstS, a_immN, a_immC, a_rng1, a_rng2, a_iR1, a_iR2, a_iEn, a_backN, a_backC, i_imm, i_scr, i_fn, i_fro, a_eCall, a_dCall, a_eCall0, a_rNil, a_rVal, a_rSlot, a_rOwn, t_nil, t_val, t_own, t_slot, p_nil, p_slot, p_val, p_own, c_ok, g_ok, a_xCall, a_sIdx, x_set, a_xApp, w_nil, w_val, w_own, a_xLst, x_l, x_s, x_d, a_pIx, a_eIx, a_dIxX, a_dIxV, a_forV, a_loopV_nil, f_ins, f_fro, a_pFld, a_kTab, a_tab, o_tabIn, o_tabNot, a_tabIn, a_tabNot, a_xCallV, a_dInX, a_dInP, in_l, tup_l, tup_d, a_dTupX, a_eTupP, a_chain, a_new, finX_rt, finX_nx, finD_rt, finD_nx, thL_none, thL_nx, thL_ct, thL_bk, thL_rt, thL_er, num_nil, range_nil, o_isB, o_isNotB, a_dLenX, a_xCatV, a_catV, thC_ok, thD_ok, a_xLc, w_0, w_c, o_index, dM_dic, dM_fdic, a_dicI, a_xDNew, a_eIxD, a_dInD, a_eGetD, a_sPutD, a_xPopD, a_sDelD, a_eLenD, a_eIsD, a_lockM, a_iFd, a_unl_er, a_unl, a_okU, a_isSS, a_noFl_rt, a_noFl_nx, a_noFl_bk, a_noFl_ct, a_noFO_none, a_noFO_imm, a_noFO_hol, a_noFO_scr, a_noFO_dic, a_noFO_lst, a_noF_lst, a_noF_imm, a_dInN, a_runX, a_runD, ixN, tg_ne, tg_bne, lookup_ne, lookup_eq, ne_eq, le_most, dr_big, in_big, Nat.zero_le, CPow, Int.zero_le_ofNat, Int.reduceAbs, Nat.reducePow, and_self, List.getElem?_cons_zero, List.getElem?_cons_succ, List.getElem?_nil, List.set_cons_zero, List.set_cons_succ, List.set_nil, Option.join_some, Option.join_none, Option.map_some, Option.map_none, Option.bind_some, Option.bind_none, ite_true, ite_false, if_true, if_false, List.length_cons, List.length_nil, List.map_cons, List.map_nil, List.cons_append, List.nil_append, List.append_nil, List.replicate, List.replicate_succ, List.replicate_zero, Nat.reduceAdd, Nat.reduceSub, Nat.reduceEqDiff, Nat.reduceLeDiff, Bool.false_eq_true, Bool.not_true, Bool.not_false, reduceCtorEq, decide_true, decide_false, beq_self_eq_true, Bool.and_true, Bool.true_and, Bool.or_false, Bool.false_or, Bool.true_or, Bool.or_true, Bool.and_false, Bool.false_and, Nat.zero_add, Nat.add_zero, reduceIte, bne_self_eq_false, Option.some.injEq, List.contains_cons, List.contains_nil, Nat.reduceBEq, Nat.reduceBNe, Nat.reduceLT, Int.reduceEq, Int.reduceLT, Int.reduceLE, Int.reduceAdd, Int.reduceSub, Int.reduceMul, Int.reduceNeg, Int.reducePow, Int.reduceToNat, not_true_eq_false, not_false_eq_true, true_and, and_true, eq_self, decide_not, Bool.not_not, List.isEmpty_cons, List.lookup_nil, List.isEmpty_nil, Int.cast_ofNat_Int, Bool.not_eq_true, decide_eq_true_eq, Bool.not_eq_eq_eq_not, decide_eq_false_iff_not, Nat.reduceMod, Option.isSome_some, Option.isSome_none, List.drop_succ_cons, List.drop_zero, List.take_succ_cons, List.take_zero, List.isEmpty_iff, String.reduceEq, gt_iff_lt, ge_iff_le, k_NONE, tg_0, ln_0, tg_1, ln_1, tg_2, ln_2, tg_3, ln_3, tg_4, ln_4, tg_5, ln_5, tg_6, ln_6, tg_7, ln_7] at f1
    exact f1
theorem digits_eq (ns : List Int) (hb : ∀ z ∈ ns, Builtin.Int.intBits z ≤ 1048576) : ∃ ds : List Int, m__law_digits [.scr ns, .imm (.int 0), .imm (.int 63)] = some (.ok (LI ds) [.scr ns, .imm (.int 0), .imm (.int 63)]) := by
  unfold m__law_digits b__law_digits
  simpa []
  obtain ⟨ρ', h1, ds', d', e', f', g', rfl, h2⟩ := range_inv (k := 4) (mb := l3__law_digits) (fun j ρ => ∃ ds' d' e' f' g', ρ = [some (.scr ns), some (.imm (.int 0)), some (.imm (.int 63)), some (LI ds'), d', e', f', g'] ∧ ds'.length ≤ 60 * j) 0 63 [some (M.scr ns), some (M.imm (PyData.int 0)), some (M.imm (PyData.int 63)), some (M.lst []), none, none, none, none] ⟨[], _, _, _, _, rfl, Nat.le_refl _⟩ (fun j ρ hj hp => by
    obtain ⟨ds', d', e', f', g', rfl, h2⟩ := hp
    exact dig_3 hb _ _ j hj ds' d' e' f' g' h2)
  simpa [ h1]
  exact ⟨_, rfl⟩

theorem number_eq (ds : List Int) (k : Nat) : ∃ (z : Int) (k' : Nat), m__law_number [BX ds k] = some (.ok (.imm (.int z)) [BX ds k']) ∧ z.natAbs < 10 ^ 60 := by
  unfold m__law_number b__law_number
  have d0 : ∀ k, 0 ≤ dr ds k 1000 := fun k => dr_nn ds k (by decide)
  have d1 : ∀ k, dr ds k 1000 < 1000 := fun k => dr_lt ds k (by decide)
  have h3 : ∀ a : Int, 0 ≤ a.fmod 3 ∧ a.fmod 3 < 3 := fun a => ⟨Int.fmod_nonneg_of_pos _ (by decide), Int.fmod_lt_of_pos _ (by decide)⟩
  have m1 : ∀ a, CMulX (dr ds a 1000) 1000000000000000000000000000 := fun a => mulX_nat (by have := d0 a; have := d1 a; omega) (by decide)
  have m2 : ∀ a, CMulX (dr ds a 1000) 1000000000000 := fun a => mulX_nat (by have := d0 a; have := d1 a; omega) (by decide)
  have m3 : ∀ a, CMulX (dr ds a 1000) 10000000000000000000000000000 := fun a => mulX_nat (by have := d0 a; have := d1 a; omega) (by decide)
  have e0 := d0 (k + 1)
  have e1 := d1 (k + 1)
  have e2 := d0 (k + 1 + 1)
  have e3 := d1 (k + 1 + 1)
  have e4 := d0 (k + 1 + 1 + 1)
  have e5 := d1 (k + 1 + 1 + 1)
  have e6 := h3 (dr ds (k + 1) 1000)
  simpa [ draw_eq]
  by_cases c0 : dr ds k 8 = 0
  · simpa [ draw_eq, c0]
    exact ⟨_, _, rfl, by omega⟩
  by_cases c1 : dr ds k 8 = 1
  · simpa [ draw_eq, c1]
    exact ⟨_, _, rfl, by omega⟩
  by_cases c2 : dr ds k 8 = 2
  · simpa [ draw_eq, c2, if_pos (m1 _), if_pos (m2 _)]
    exact ⟨_, _, rfl, by omega⟩
  by_cases c3 : dr ds k 8 = 3
  · simpa [ draw_eq, c3, if_pos (m3 _)]
    exact ⟨_, _, rfl, by omega⟩
  by_cases c4 : dr ds k 8 = 4
  · simpa [ draw_eq, c4]
    exact ⟨_, _, rfl, by omega⟩
  by_cases c5 : dr ds k 8 = 5
  · simpa [ draw_eq, c5]
    exact ⟨_, _, rfl, by omega⟩
  · simpa [ draw_eq, c0, c1, c2, c3, c4, c5]
    exact ⟨_, _, rfl, by omega⟩
noncomputable def numV (ds : List Int) (k : Nat) : Int := (number_eq ds k).choose
noncomputable def numK (ds : List Int) (k : Nat) : Nat := (number_eq ds k).choose_spec.choose
theorem number_rw (ds : List Int) (k : Nat) : m__law_number [BX ds k] = some (.ok (.imm (.int (numV ds k))) [BX ds (numK ds k)]) := (number_eq ds k).choose_spec.choose_spec.1
theorem number_lt (ds : List Int) (k : Nat) : (numV ds k).natAbs < 10 ^ 60 := (number_eq ds k).choose_spec.choose_spec.2

/-- a text as it may stand in a value -/
def txtOk (z : Str) : Prop := z.length ≤ 200 ∧ z.cps.all (· < 0x110000) = true
theorem str_at2 (s : Str) (z : Int) (h0 : 0 ≤ z) (h1 : z < s.length) (hs : s.cps.all (· < 0x110000) = true) : ∃ c, atI s.cps.toList z = some c ∧ c < 0x110000 := by
  have h2 : s.cps.toList.length = s.length := by
    rw [Array.length_toList]
    rfl
  have hj : z.toNat < s.cps.toList.length := by omega
  have := at_n (xs := s.cps.toList) (j := z.toNat) (z := z) hj (by omega)
  refine ⟨_, this, ?_⟩
  rw [Array.all_eq_true'] at hs
  have h3 := hs _ (Array.mem_def.mpr (List.getElem_mem hj))
  simpa using h3
theorem all_app {a b : Str} (ha : a.cps.all (· < 0x110000) = true) (hb : b.cps.all (· < 0x110000) = true) : (a ++ b).cps.all (· < 0x110000) = true := by
  show (a.cps ++ b.cps).all (· < 0x110000) = true
  rw [Array.all_append, ha, hb]
  rfl
theorem all_one {c : Nat} (h : c < 0x110000) : (Str.mk #[c]).cps.all (· < 0x110000) = true := by simp [h]
theorem all_rep {c : Nat} (h : c < 0x110000) (n : Nat) : (mkS (List.replicate n [c]).flatten).cps.all (· < 0x110000) = true := by
  rw [Array.all_eq_true']
  intro x hx
  have hx2 : x ∈ (List.replicate n [c]).flatten := by simpa using hx
  obtain ⟨l, hl, hm⟩ := List.mem_flatten.mp hx2
  rw [List.eq_of_mem_replicate hl] at hm
  simp only [List.mem_cons, List.not_mem_nil, or_false] at hm
  subst hm
  simpa using h
theorem text_step (ds : List Int) (k : Nat) (x SG : Str) (n : Int) (hS : SG.length = 95) (hA : SG.cps.all (· < 0x110000) = true) (f : Option M) (hx : x.length ≤ n) (hn : n ≤ 1000) (hxa : x.cps.all (· < 0x110000) = true) : ∃ (z : Str) (k' : Nat), l1__law_text [some (BX ds k), some (.imm (.int n)), some (.imm (.str SG)), some (.imm (.str x)), f] = some (.ok .nx [some (BX ds k'), some (.imm (.int n)), some (.imm (.str SG)), some (.imm (.str z)), f]) ∧ z.length ≤ n ∧ z.cps.all (· < 0x110000) = true := by
  have h0 : 0 ≤ dr ds k 95 := dr_nn ds k (by decide)
  have h1 : dr ds k 95 < 95 := dr_lt ds k (by decide)
  obtain ⟨c, hc, hc2⟩ := str_at2 SG (dr ds k 95) h0 (by omega) hA
  unfold l1__law_text
  have hx' : x.length ≤ 1000000 := by omega
  have hS' : SG.length ≤ 1000000 := by omega
  have h1' : (Str.mk #[c]).length = 1 := rfl
  simpa [ if_pos hx', if_pos hS']
  by_cases h : (x.length : Int) < n
  · have hy : x.length ≤ 999999 := by omega
    simpa [ h, draw_eq, hc, hS', h1', hy]
    refine ⟨_, _, rfl, ?_, all_app hxa (all_one hc2)⟩
    rw [app_len, h1']
    omega
  · simpa [ if_neg h]
    exact ⟨_, _, rfl, hx, hxa⟩
theorem text_eq (ds : List Int) (k : Nat) : ∃ (z : Str) (k' : Nat), m__law_text [BX ds k, .imm (.int 200)] = some (.ok (.imm (.str z)) [BX ds k', .imm (.int 200)]) ∧ txtOk z := by
  have hl : (Str.ofString " !\"#$&'()*+,-./0123456789:;<=>?@ABCDEFGHIJKLMNOPQRSTUVWXYZ[\\]^_`" ++ Str.ofString "abcdefghijklmnopqrstuvwxyz{|}~\n").length = 95 := by decide +kernel
  have hA : (Str.ofString " !\"#$&'()*+,-./0123456789:;<=>?@ABCDEFGHIJKLMNOPQRSTUVWXYZ[\\]^_`" ++ Str.ofString "abcdefghijklmnopqrstuvwxyz{|}~\n").cps.all (· < 0x110000) = true := by decide +kernel
  unfold m__law_text b__law_text
  simpa [ draw_eq]
  generalize (Str.ofString " !\"#$&'()*+,-./0123456789:;<=>?@ABCDEFGHIJKLMNOPQRSTUVWXYZ[\\]^_`" ++ Str.ofString "abcdefghijklmnopqrstuvwxyz{|}~\n") = SG at hl hA ⊢
  have hS' : SG.length ≤ 1000000 := by omega
  have rest : ∀ (x : Str) (k : Nat), txtOk x → ∃ (ρ : Env') (z : Str) (k' : Nat), loopM (Pt.nm 4) l1__law_text (rangeL 0 (dr ds k 4).toNat) [some (BX ds (k + 1)), some (.imm (.int 200)), some (.imm (.str SG)), some (.imm (.str x)), none] = some (.ok .nx ρ) ∧ (∃ f, ρ = [some (BX ds k'), some (.imm (.int 200)), some (.imm (.str SG)), some (.imm (.str z)), f]) ∧ txtOk z := by
    intro x k hx
    obtain ⟨ρ', h1, z, k', f, h2, h3⟩ := range_inv (k := 4) (mb := l1__law_text) (fun j ρ => ∃ z k' f, ρ = [some (BX ds k'), some (.imm (.int 200)), some (.imm (.str SG)), some (.imm (.str z)), f] ∧ txtOk z) 0 (dr ds k 4).toNat _ ⟨x, k + 1, none, rfl, hx⟩ (fun j ρ hj hp => by
      obtain ⟨z, k', f, rfl, h⟩ := hp
      obtain ⟨z2, k2, e, h'⟩ := text_step ds k' z SG 200 hl hA (some (.imm (.int (0 + (j : Nat))))) (by have := h.1; omega) (by decide) h.2
      simpa []
      exact ⟨_, e, z2, k2, _, rfl, by have := h'.1; omega, h'.2⟩)
    exact ⟨ρ', z, k', h1, ⟨f, h2⟩, h3⟩
  by_cases c : dr ds k 4 = 0
  · have h0 : 0 ≤ dr ds (k + 1) 95 := dr_nn ds _ (by decide)
    have h1 : dr ds (k + 1) 95 < 95 := dr_lt ds _ (by decide)
    have g0 : 0 ≤ dr ds (k + 1 + 1) 201 := dr_nn ds _ (by decide)
    have g1 : dr ds (k + 1 + 1) 201 < 201 := dr_lt ds _ (by decide)
    obtain ⟨c', hc, hc2⟩ := str_at2 SG (dr ds (k + 1) 95) h0 (by omega) hA
    have g2 : dr ds (k + 1 + 1) 201 ≤ 1000 := by omega
    obtain ⟨ρ, z, k', h3, ⟨f, rfl⟩, h4⟩ := rest (mkS (List.replicate (dr ds (k + 1 + 1) 201).toNat [c']).flatten) (k + 1 + 1 + 1) ⟨(by rw [mk_len, rep_len]; simp only [List.length_cons, List.length_nil]; omega), all_rep hc2 _⟩
    have h5 : (Str.mk #[c']).length = 1 := rfl
    simpa [ draw_eq, c, hc, hS', g0, g2, h3, h5]
    exact ⟨_, _, rfl, h4⟩
  · obtain ⟨ρ, z, k', h3, ⟨f, rfl⟩, h4⟩ := rest (Str.ofString "") (k + 1) ⟨by decide, by decide +kernel⟩
    simpa [ draw_eq, c, h3]
    exact ⟨_, _, rfl, h4⟩

/-! ### values, objects, entries, as data -/
structure Ob where
  task : List Int
  n : Int
def Ob.D (o : Ob) : PyData := .tuple [.str "object", .tuple (o.task.map .int), .int o.n]
def Ob.ok (o : Ob) : Prop := o.task.length ≤ 2
inductive Vl where
  | non
  | bl (b : Bool)
  | text (s : Str)
  | ob (o : Ob)
  | int (z : Int)
def Vl.D : Vl → PyData
  | .non => .tuple [.str "none"]
  | .bl b => .tuple [.str "bool", .bool b]
  | .text s => .tuple [.str "text", .str s]
  | .ob o => o.D
  | .int z => .tuple [.str "int", .int z]
def Vl.ok : Vl → Prop
  | .text s => txtOk s
  | .ob o => o.ok
  | .int z => z.natAbs < 10 ^ 60
  | _ => True
inductive En where
  | call (a : Int) (o : Ob)
  | guard (a : Int) (o : Ob)
  | loop (a : Int)
  | count (a i j : Int)
  | cut
def En.D : En → PyData
  | .call a o => .tuple [.str "call", .int a, o.D]
  | .guard a o => .tuple [.str "guard", .int a, o.D]
  | .loop a => .tuple [.str "loop", .int a]
  | .count a i j => .tuple [.str "count", .int a, .int i, .int j]
  | .cut => .tuple [.str "cut"]
def En.ok : En → Prop
  | .call a o => o.ok ∧ 0 ≤ a ∧ a < 1000
  | .guard a o => o.ok ∧ 0 ≤ a ∧ a < 1000
  | .loop a => 0 ≤ a ∧ a < 1000
  | .count a i j => (0 ≤ a ∧ a < 1000) ∧ (-4 ≤ i ∧ i ≤ 4) ∧ -4 ≤ j ∧ j ≤ 4
  | .cut => True
/-- a loop that draws a task -/
theorem nat_of {z : Int} {b : Nat} (h0 : 0 ≤ z) (h1 : z < b) : z.toNat < b := by omega
noncomputable def txV (ds : List Int) (k : Nat) : Str := (text_eq ds k).choose
noncomputable def txK (ds : List Int) (k : Nat) : Nat := (text_eq ds k).choose_spec.choose
theorem text_rw (ds : List Int) (k : Nat) : m__law_text [BX ds k, .imm (.int 200)] = some (.ok (.imm (.str (txV ds k))) [BX ds (txK ds k), .imm (.int 200)]) := (text_eq ds k).choose_spec.choose_spec.1
theorem text_ok (ds : List Int) (k : Nat) : txtOk (txV ds k) := (text_eq ds k).choose_spec.choose_spec.2
theorem value_eq (ds : List Int) (k : Nat) : ∃ (v : Vl) (k' : Nat), m__law_value [BX ds k] = some (.ok (.imm v.D) [BX ds k']) ∧ v.ok := by
  unfold m__law_value b__law_value
  by_cases c0 : dr ds k 6 = 0
  · simpa [ draw_eq, c0]
    exact ⟨.non, _, rfl, True.intro⟩
  by_cases c1 : dr ds k 6 = 1
  · simpa [ draw_eq, c1]
    exact ⟨.bl (decide (dr ds (k + 1) 2 = 1)), _, rfl, True.intro⟩
  by_cases c2 : dr ds k 6 = 2
  · simpa [ draw_eq, c2, text_rw]
    exact ⟨.text (txV ds (k + 1)), _, rfl, text_ok ds (k + 1)⟩
  by_cases c3 : dr ds k 6 = 3
  · have h0 : 0 ≤ dr ds (k + 1) 3 := dr_nn ds _ (by decide)
    have h1 : dr ds (k + 1) 3 < 3 := dr_lt ds _ (by decide)
    obtain ⟨ρ, h2, t, k', f, rfl, h3⟩ := range_inv (k := 3) (mb := l1__law_value) (fun j ρ => ∃ (t : List Int) (k' : Nat) (f : Option M), ρ = [some (BX ds k'), some (.imm (.int 3)), some (.imm (.tuple (t.map .int))), f] ∧ t.length = j) 0 (dr ds (k + 1) 3).toNat [some (BX ds (k + 1 + 1)), some (.imm (.int 3)), some (.imm (.tuple [])), none] ⟨[], k + 1 + 1, none, rfl, rfl⟩ (fun j ρ hj hp => by
      obtain ⟨t, k', f, rfl, h⟩ := hp
      unfold l1__law_value
      have h4 : (t.map PyData.int).length ≤ 999999 := by rw [List.length_map]; omega
      simpa [ draw_eq, h4]
      exact ⟨_, rfl, t ++ [dr ds k' 3], _, _, (by rw [List.map_append]; rfl), (by rw [List.length_append, h]; rfl)⟩)
    simpa [ draw_eq, c3, h2]
    exact ⟨.ob ⟨t, _⟩, _, rfl, by show t.length ≤ 2; omega⟩
  · simpa [ draw_eq, c0, c1, c2, c3, number_rw]
    exact ⟨.int (numV ds (k + 1)), _, rfl, number_lt ds (k + 1)⟩
noncomputable def vlV (ds : List Int) (k : Nat) : Vl := (value_eq ds k).choose
noncomputable def vlK (ds : List Int) (k : Nat) : Nat := (value_eq ds k).choose_spec.choose
theorem value_rw (ds : List Int) (k : Nat) : m__law_value [BX ds k] = some (.ok (.imm (vlV ds k).D) [BX ds (vlK ds k)]) := (value_eq ds k).choose_spec.choose_spec.1
theorem value_ok (ds : List Int) (k : Nat) : (vlV ds k).ok := (value_eq ds k).choose_spec.choose_spec.2

/-- data as it may be compared -/
def okD : Nat → PyData → Bool
  | _, .none => true
  | _, .bool _ => true
  | _, .int _ => true
  | _, .str _ => true
  | n + 1, .tuple ds => decide (ds.length ≤ 1000) && ds.all (okD n)
  | _, _ => false
theorem same_n (n : Nat) : m__law_same (n + 1) [.none, .none] = some (.bool true) := by
  unfold m__law_same b__law_same
  simpa []
theorem same_b (n : Nat) (b : Bool) : m__law_same (n + 1) [.bool b, .bool b] = some (.bool true) := by
  unfold m__law_same b__law_same
  simpa []
theorem same_i (n : Nat) (b : Int) : m__law_same (n + 1) [.int b, .int b] = some (.bool true) := by
  unfold m__law_same b__law_same
  simpa []
theorem same_s (n : Nat) (b : Str) : m__law_same (n + 1) [.str b, .str b] = some (.bool true) := by
  unfold m__law_same b__law_same
  simpa []
theorem same_t (n : Nat) (ds : List PyData) (hl : ds.length ≤ 1000) (ha : ∀ d ∈ ds, m__law_same n [d, d] = some (.bool true)) : m__law_same (n + 1) [.tuple ds, .tuple ds] = some (.bool true) := by
  have hb : -4611686018427387904 ≤ (ds.length : Int) ∧ (ds.length : Int) < 4611686018427387904 := ⟨by omega, by omega⟩
  obtain ⟨ρ, h2, f, rfl⟩ := range_inv (k := 2) (mb := l1__law_same (m__law_same n)) (fun j ρ => ∃ (f : Option M), ρ = [some (.imm (.tuple ds)), some (.imm (.tuple ds)), f]) 0 ds.length [some (.imm (.tuple ds)), some (.imm (.tuple ds)), none] ⟨none, rfl⟩ (fun j ρ hj hp => by
    obtain ⟨f, rfl⟩ := hp
    unfold l1__law_same
    have e := at_n (xs := ds) (j := j) (z := 0 + (j : Int)) hj (by omega)
    simpa [ e, ha _ (List.getElem_mem hj)]
    exact ⟨_, rfl, _, rfl⟩)
  unfold m__law_same b__law_same
  have hb' : ((ds.length : Int)).toNat = ds.length := by omega
  simpa [ hb, h2, hb']
theorem same_refl (n : Nat) : ∀ (d : PyData), okD n d = true → m__law_same (n + 1) [d, d] = some (.bool true) := by
  induction n with
  | zero =>
    intro d h
    cases d with
    | none => exact same_n 0
    | bool b => exact same_b 0 b
    | int b => exact same_i 0 b
    | str b => exact same_s 0 b
    | tuple ds => simp [okD] at h
    | list ds => simp [okD] at h
    | dict ds => simp [okD] at h
  | succ n ih =>
    intro d h
    cases d with
    | none => exact same_n _
    | bool b => exact same_b _ b
    | int b => exact same_i _ b
    | str b => exact same_s _ b
    | tuple ds =>
      simp only [okD, Bool.and_eq_true, decide_eq_true_eq, List.all_eq_true] at h
      exact same_t _ ds h.1 fun d hd => ih d (h.2 d hd)
    | list ds => simp [okD] at h
    | dict ds => simp [okD] at h

theorem okD_ob {n : Nat} {o : Ob} (h : o.ok) : okD (n + 2) o.D = true := by
  have h' : o.task.length ≤ 1000 := Nat.le_trans h (by decide)
  simp [Ob.D, okD, List.all_map, Function.comp_def, h']
theorem okD_vl {n : Nat} {v : Vl} (h : v.ok) : okD (n + 2) v.D = true := by
  cases v with
  | ob o => exact okD_ob h
  | _ => simp [Vl.D, okD]
theorem okD_vls {n : Nat} {vs : List Vl} (h : ∀ v ∈ vs, v.ok) (hl : vs.length ≤ 1000) : okD (n + 3) (.tuple (vs.map Vl.D)) = true := by
  simp only [okD, List.length_map, hl, decide_true, Bool.true_and, List.all_eq_true, List.mem_map]
  rintro d ⟨v, hv, rfl⟩
  exact okD_vl (h v hv)

/-! ### likeness, as the law tells it -/
mutual
def sameD : PyData → PyData → Bool
  | .tuple xs, .tuple ys => sameAll xs ys
  | .none, .none => true
  | .bool a, .bool b => decide (a = b)
  | .int a, .int b => decide (a = b)
  | .str a, .str b => decide (a = b)
  | _, _ => false
def sameAll : List PyData → List PyData → Bool
  | [], [] => true
  | x :: xs, y :: ys => sameD x y && sameAll xs ys
  | _, _ => false
end
theorem sameAll_len : ∀ {xs ys : List PyData}, xs.length ≠ ys.length → sameAll xs ys = false
  | [], [], h => absurd rfl h
  | [], _ :: _, _ => by simp only [sameAll]
  | _ :: _, [], _ => by simp only [sameAll]
  | x :: xs, y :: ys, h => by
    have := sameAll_len (xs := xs) (ys := ys) (fun e => h (by rw [List.length_cons, List.length_cons, e]))
    simp only [sameAll, this, Bool.and_false]
theorem same_loop (n : Nat) (ds es : List PyData) (hn : ds.length = es.length) (H : ∀ d ∈ ds, ∀ e ∈ es, m__law_same n [d, e] = some (.bool (sameD d e))) : ∀ (r q : List PyData) (j : Nat) (a : Option M), ds.drop j = r → es.drop j = q → ∃ ρ', loopM (.nm 2) (l1__law_same (m__law_same n)) (rangeL (j : Int) r.length) [some (.imm (.tuple ds)), some (.imm (.tuple es)), a] = some (.ok (if sameAll r q then .nx else .rt (.imm (.bool false))) ρ') ∧ ∃ a', ρ' = [some (.imm (.tuple ds)), some (.imm (.tuple es)), a'] := by
  intro r
  induction r with
  | nil =>
    intro q j a h1 h2
    have : q = [] := by
      have h3 : (ds.drop j).length = (es.drop j).length := by rw [List.length_drop, List.length_drop, hn]
      rw [h1, h2] at h3
      exact List.eq_nil_of_length_eq_zero h3.symm
    subst this
    refine ⟨[some (.imm (.tuple ds)), some (.imm (.tuple es)), a], ?_, a, rfl⟩
    have e0 : sameAll [] [] = true := by simp only [sameAll]
    rw [if_pos e0]
    rfl
  | cons d r ih =>
    intro q j a h1 h2
    have h3 : (ds.drop j).length = (es.drop j).length := by rw [List.length_drop, List.length_drop, hn]
    cases q with
    | nil =>
      rw [h1, h2] at h3
      cases h3
    | cons e q =>
      have g1 : ds.drop (j + 1) = r := by rw [← List.drop_drop, h1]; rfl
      have g2 : es.drop (j + 1) = q := by rw [← List.drop_drop, h2]; rfl
      have hj : j < ds.length := by
        have : (ds.drop j).length = r.length + 1 := by rw [h1]; rfl
        rw [List.length_drop] at this
        omega
      have hj2 : j < es.length := by omega
      have e1 : ds[j] = d := by
        have h4 := List.drop_eq_getElem_cons hj
        rw [h1] at h4
        injection h4 with h5 h6
        exact h5.symm
      have e2 : es[j] = e := by
        have h4 := List.drop_eq_getElem_cons hj2
        rw [h2] at h4
        injection h4 with h5 h6
        exact h5.symm
      have a1 : atI ds (j : Int) = some d := by rw [at_n hj rfl, e1]
      have a2 : atI es (j : Int) = some e := by rw [at_n hj2 rfl, e2]
      have hs := H d (by rw [← e1]; exact List.getElem_mem hj) e (by rw [← e2]; exact List.getElem_mem hj2)
      rw [List.length_cons, range_cons, loop_cons]
      unfold l1__law_same
      simp only [sameAll]
      by_cases c : sameD d e = true
      · simpa [ a1, a2, hs, c]
        exact ih q (j + 1) _ g1 g2
      · simpa [ a1, a2, hs, c]
        exact ⟨_, rfl, _, rfl⟩
theorem same_all (n : Nat) : ∀ (d e : PyData), okD n d = true → okD n e = true → m__law_same (n + 1) [d, e] = some (.bool (sameD d e)) := by
  induction n with
  | zero =>
    intro d e h1 h2
    cases e <;> cases d <;> first
      | (simp [okD] at h1; done)
      | (simp [okD] at h2; done)
      | (unfold m__law_same b__law_same
         simp only [sameD]
         simpa [])
  | succ n ih =>
    intro d e h1 h2
    cases e <;> cases d <;> first
      | (simp [okD] at h1; done)
      | (simp [okD] at h2; done)
      | (unfold m__law_same b__law_same
         simp only [sameD]
         simpa []
         done)
      | skip
    rename_i es ds
    simp only [okD, Bool.and_eq_true, decide_eq_true_eq, List.all_eq_true] at h1 h2
    simp only [sameD]
    by_cases hn : ds.length = es.length
    · obtain ⟨ρ, h3, a', rfl⟩ := same_loop (n + 1) ds es hn (fun d hd e he => ih d e (h1.2 d hd) (h2.2 e he)) ds es 0 none rfl rfl
      have hb : -4611686018427387904 ≤ (es.length : Int) ∧ (es.length : Int) < 4611686018427387904 := ⟨by omega, by omega⟩
      have hb' : ((es.length : Int)).toNat = ds.length := by omega
      have h0 : (((0 : Nat) : Int)) = 0 := rfl
      have hq : ((ds.length : Int) = (es.length : Int)) = True := eq_true (by omega)
      rw [h0] at h3
      rw [m__law_same]
      unfold b__law_same
      by_cases c : sameAll ds es = true
      · simpa [ hb, hb', h3, hq, c]
      · simpa [ hb, hb', h3, hq, c]
    · have hq : ((ds.length : Int) = (es.length : Int)) = False := eq_false (by omega)
      rw [m__law_same]
      unfold b__law_same
      simpa [ hq, sameAll_len hn]

/-! ### likeness of values, as == tells it -/
theorem lay_str {z : Str} (h : z.cps.all (· < 0x110000) = true) : PyData.canLay0 (.str z) = true := by
  simp only [PyData.canLay0]
  exact h
theorem lay_ints : ∀ ts : List Int, PyData.canLayAll0 (ts.map PyData.int) = true ∧ PyData.depthAll (ts.map PyData.int) = 0
  | [] => ⟨by simp only [List.map_nil, PyData.canLayAll0], by simp only [List.map_nil, PyData.depthAll]⟩
  | t :: ts => by
    have ih := lay_ints ts
    exact ⟨by simp only [List.map_cons, PyData.canLayAll0, PyData.canLay0, ih.1, Bool.and_self], by simp only [List.map_cons, PyData.depthAll, PyData.depth, ih.2, Nat.max_self]⟩
theorem shaped_vl {v : Vl} (h : v.ok) : SeqAt.shaped v.D = true := by
  have e1 : PyData.canLay0 (.str "none") = true := lay_str (by decide +kernel)
  have e2 : PyData.canLay0 (.str "bool") = true := lay_str (by decide +kernel)
  have e3 : PyData.canLay0 (.str "text") = true := lay_str (by decide +kernel)
  have e4 : PyData.canLay0 (.str "int") = true := lay_str (by decide +kernel)
  have e5 : PyData.canLay0 (.str "object") = true := lay_str (by decide +kernel)
  unfold SeqAt.shaped
  cases v with
  | non => simp [Vl.D, PyData.canLay0, PyData.canLayAll0, PyData.depth, PyData.depthAll] at e1 ⊢; exact e1
  | bl b => simp [Vl.D, PyData.canLay0, PyData.canLayAll0, PyData.depth, PyData.depthAll] at e2 ⊢; exact e2
  | text s =>
    have e6 := lay_str h.2
    simp [Vl.D, PyData.canLay0, PyData.canLayAll0, PyData.depth, PyData.depthAll] at e3 e6 ⊢
    exact ⟨e3, e6⟩
  | ob o =>
    have e6 := lay_ints o.task
    simp [Vl.D, Ob.D, PyData.canLay0, PyData.canLayAll0, PyData.depth, PyData.depthAll, e6.2] at e5 ⊢
    exact ⟨e5, e6.1⟩
  | int z => simp [Vl.D, PyData.canLay0, PyData.canLayAll0, PyData.depth, PyData.depthAll] at e4 ⊢; exact e4
theorem eqv_tup (xs ys : List PyData) : PyData.eqv (.tuple xs) (.tuple ys) = PyData.eqvAll xs ys := by simp only [PyData.eqv]
theorem eqvAll_cons (x y : PyData) (xs ys : List PyData) : PyData.eqvAll (x :: xs) (y :: ys) = (PyData.eqv x y && PyData.eqvAll xs ys) := by simp only [PyData.eqvAll]
theorem eqv_ints : ∀ ts us : List Int, PyData.eqvAll (ts.map .int) (us.map .int) = sameAll (ts.map .int) (us.map .int)
  | [], [] => by simp [PyData.eqvAll, sameAll]
  | [], _ :: _ => by simp [PyData.eqvAll, sameAll]
  | _ :: _, [] => by simp [PyData.eqvAll, sameAll]
  | t :: ts, u :: us => by
    have := eqv_ints ts us
    simp only [List.map_cons, PyData.eqvAll, sameAll, PyData.eqv, sameD, this]
    congr 1
theorem eqv_str (x y : Str) : PyData.eqv (.str x) (.str y) = decide (x = y) := by
  simp only [PyData.eqv]
  by_cases e : x = y <;> simp [e]
theorem eqv_vl (a b : Vl) : PyData.eqv a.D b.D = sameD a.D b.D := by
  cases a <;> cases b <;> (unfold Vl.D; try unfold Ob.D) <;> (try unfold Ob.D) <;> simp only [eqv_tup, sameD, eqvAll_cons, sameAll, eqv_str, eqv_ints]
  all_goals first
    | rfl
    | (simp [PyData.eqv, PyData.eqvAll, sameD, sameAll]; done)
theorem eqB_vl {a b : Vl} (ha : a.ok) (hb : b.ok) : eqB a.D b.D = some (sameD a.D b.D) := by
  have h : eqB a.D b.D = eqS a.D b.D := by cases a <;> cases b <;> rfl
  rw [h]
  unfold eqS
  rw [shaped_vl ha, shaped_vl hb, eqv_vl]
  rfl
theorem same_vl {a b : Vl} (ha : a.ok) (hb : b.ok) : m__law_same 9 [a.D, b.D] = some (.bool (sameD a.D b.D)) := same_all 8 _ _ (okD_vl (n := 6) ha) (okD_vl (n := 6) hb)
def Vl.tag : Vl → Str
  | .non => "none"
  | .bl _ => "bool"
  | .text _ => "text"
  | .ob _ => "object"
  | .int _ => "int"
def Vl.isI : Vl → Bool
  | .int _ => true
  | _ => false
def Vl.isT : Vl → Bool
  | .text _ => true
  | _ => false
def Vl.isB : Vl → Bool
  | .bl _ => true
  | _ => false
def Vl.isO : Vl → Bool
  | .ob _ => true
  | _ => false
theorem Vl.D0 (v : Vl) : oIx v.D (.int 0) = some (.str v.tag) := by cases v <;> rfl
theorem Vl.tag_int (v : Vl) : (v.tag = Str.ofString "int") = (v.isI = true) := by cases v <;> dsimp only [Vl.tag, Vl.isI] <;> exact propext (by decide +kernel)
theorem Vl.tag_text (v : Vl) : (v.tag = Str.ofString "text") = (v.isT = true) := by cases v <;> dsimp only [Vl.tag, Vl.isT] <;> exact propext (by decide +kernel)
theorem Vl.tag_bool (v : Vl) : (v.tag = Str.ofString "bool") = (v.isB = true) := by cases v <;> dsimp only [Vl.tag, Vl.isB] <;> exact propext (by decide +kernel)
theorem Vl.tag_object (v : Vl) : (v.tag = Str.ofString "object") = (v.isO = true) := by cases v <;> dsimp only [Vl.tag, Vl.isO] <;> exact propext (by decide +kernel)
inductive Re where
  | ok (v : Vl)
  | er (w : Str)
def Re.D : Re → PyData
  | .ok v => .tuple [.str "ok", v.D]
  | .er w => .tuple [.str "error", .str w]
def Re.fine : Re → Prop
  | .ok v => v.ok
  | .er _ => True

/-! ### places, memories -/
structure Pl where
  task : List Int
  a : Int
  b : Int
deriving DecidableEq
def Pl.D (p : Pl) : PyData := .tuple [.tuple (p.task.map .int), .int p.a, .int p.b]
def Pl.K (p : Pl) : NestedKey := .tup [.tup (p.task.map .num), .num p.a, .num p.b]
def Pl.ok (p : Pl) : Prop := p.task.length ≤ 2
theorem kOfs_ints : ∀ ts : List Int, kOfs (ts.map .int) = some (ts.map .num)
  | [] => by simp only [List.map_nil, kOfs]
  | t :: ts => by simp only [List.map_cons, kOfs, kOf, kOfs_ints ts, Option.bind_some, Option.map_some]
theorem depth_nums : ∀ ts : List Int, NestedKey.depthAll (ts.map .num) = 0
  | [] => by simp only [List.map_nil, NestedKey.depthAll]
  | t :: ts => by simp only [List.map_cons, NestedKey.depthAll, NestedKey.depth, depth_nums ts, Nat.max_self]
theorem kT_pl (p : Pl) : kT p.D = some p.K := by
  have h : kOf p.D = some p.K := by simp only [Pl.D, Pl.K, kOf, kOfs, kOfs_ints, Option.map_some, Option.bind_some]
  have hd : p.K.depth ≤ 8 := by simp only [Pl.K, NestedKey.depth, NestedKey.depthAll, depth_nums]; decide
  show (kOf p.D).bind _ = _
  rw [h]
  show (if p.K.depth ≤ 8 then some p.K else none) = _
  rw [if_pos hd]
theorem nums_inj : ∀ {ts us : List Int}, ts.map NestedKey.num = us.map NestedKey.num → ts = us
  | [], [], _ => rfl
  | [], _ :: _, h => by cases h
  | _ :: _, [], h => by cases h
  | t :: ts, u :: us, h => by
    simp only [List.map_cons, List.cons.injEq, NestedKey.num.injEq] at h
    rw [h.1, nums_inj h.2]
theorem kT_eq (p q : Pl) : (kT p.D = kT q.D) ↔ p = q := by
  rw [kT_pl, kT_pl]
  constructor
  · intro h
    have h := Option.some.inj h
    obtain ⟨t, a, b⟩ := p
    obtain ⟨t', a', b'⟩ := q
    simp only [Pl.K, NestedKey.tup.injEq, List.cons.injEq, NestedKey.num.injEq, and_true] at h
    obtain ⟨h1, h2, h3⟩ := h
    rw [nums_inj h1, h2, h3]
  · intro h
    rw [h]
abbrev Mem := List (Pl × Vl)
def mD (m : Mem) : List (PyData × PyData) := m.map fun q => (q.1.D, q.2.D)
def getM (m : Mem) (p : Pl) : Option Vl := (m.find? fun q => decide (q.1 = p)).map (·.2)
def setP (m : Mem) (p : Pl) (v : Vl) : Mem := if (getM m p).isSome then m.map fun q => if q.1 = p then (q.1, v) else q else m ++ [(p, v)]
theorem mD_len (m : Mem) : (mD m).length = m.length := List.length_map _
theorem atD_m (m : Mem) (p : Pl) : atD (mD m) p.D = (getM m p).map Vl.D := by
  induction m with
  | nil => rfl
  | cons q m ih =>
    unfold atD getM mD at *
    rw [List.map_cons, List.find?_cons, List.find?_cons]
    by_cases e : q.1 = p
    · rw [decide_eq_true ((kT_eq q.1 p).mpr e), decide_eq_true e]
      rfl
    · rw [decide_eq_false (fun z => e ((kT_eq q.1 p).mp z)), decide_eq_false e]
      exact ih
theorem putD_m (m : Mem) (p : Pl) (v : Vl) : putD (mD m) p.D v.D = mD (setP m p v) := by
  unfold putD setP
  rw [atD_m]
  have e : ((getM m p).map Vl.D).isSome = (getM m p).isSome := by cases getM m p <;> rfl
  rw [e]
  by_cases h : (getM m p).isSome = true
  · rw [if_pos h, if_pos h]
    unfold mD
    rw [List.map_map, List.map_map]
    refine List.map_congr_left fun q _ => ?_
    show (if kT q.1.D = kT p.D then (q.1.D, v.D) else (q.1.D, q.2.D)) = _
    by_cases e : q.1 = p
    · rw [if_pos ((kT_eq q.1 p).mpr e)]
      simp only [Function.comp_def, if_pos e]
    · rw [if_neg (fun z => e ((kT_eq q.1 p).mp z))]
      simp only [Function.comp_def, if_neg e]
  · rw [if_neg h, if_neg h]
    unfold mD
    rw [List.map_append]
    rfl
structure MOk (m : Mem) (n : Nat) : Prop where
  nd : (m.map Prod.fst).Nodup
  ok : ∀ q ∈ m, q.1.ok ∧ q.2.ok
  len : m.length ≤ n
theorem getM_none {m : Mem} {p : Pl} (h : (getM m p).isSome = false) : p ∉ m.map Prod.fst := by
  intro hp
  obtain ⟨q, hq, rfl⟩ := List.mem_map.mp hp
  unfold getM at h
  cases hf : m.find? fun x => decide (x.1 = q.1) with
  | none =>
    have := List.find?_eq_none.mp hf q hq
    simp at this
  | some y =>
    rw [hf] at h
    cases h
theorem MOk.set {m : Mem} {n : Nat} (h : MOk m n) {p : Pl} {v : Vl} (hp : p.ok) (hv : v.ok) : MOk (setP m p v) (n + 1) := by
  unfold setP
  by_cases c : (getM m p).isSome = true
  · rw [if_pos c]
    refine ⟨?_, fun q hq => ?_, by rw [List.length_map]; exact Nat.le_succ_of_le h.len⟩
    · have e : (m.map fun q => if q.1 = p then (q.1, v) else q).map Prod.fst = m.map Prod.fst := by
        rw [List.map_map]
        refine List.map_congr_left fun q _ => ?_
        simp only [Function.comp_def]
        split <;> rfl
      rw [e]
      exact h.nd
    · obtain ⟨q', h1, h2⟩ := List.mem_map.mp hq
      split at h2
      · subst h2
        exact ⟨(h.ok q' h1).1, hv⟩
      · subst h2
        exact h.ok _ h1
  · rw [if_neg c]
    refine ⟨?_, fun q hq => ?_, by rw [List.length_append]; exact Nat.succ_le_succ h.len⟩
    · rw [List.map_append]
      refine List.nodup_append.mpr ⟨h.nd, by simp, fun x hx y hy => ?_⟩
      have e : y = p := by simpa using hy
      subst e
      intro z
      subst z
      exact getM_none (by simpa using c) hx
    · rcases List.mem_append.mp hq with z | z
      · exact h.ok q z
      · have e : q = (p, v) := by simpa using z
        subst e
        exact ⟨hp, hv⟩
theorem MOk.up {m : Mem} {n : Nat} (h : MOk m n) : MOk m (n + 1) := ⟨h.nd, h.ok, Nat.le_succ_of_le h.len⟩
theorem getM_ok {m : Mem} {n : Nat} (h : MOk m n) {p : Pl} {v : Vl} (e : getM m p = some v) : v.ok := by
  unfold getM at e
  cases hf : m.find? fun x => decide (x.1 = p) with
  | none => rw [hf] at e; cases e
  | some y =>
    rw [hf] at e
    cases e
    exact (h.ok y (List.mem_of_find?_eq_some hf)).2
theorem getM_at {m : Mem} (nd : (m.map Prod.fst).Nodup) {j : Nat} (hj : j < m.length) : getM m m[j].1 = some m[j].2 := by
  induction m generalizing j with
  | nil => exact absurd hj (Nat.not_lt_zero _)
  | cons q m ih =>
    rw [List.map_cons, List.nodup_cons] at nd
    unfold getM at *
    cases j with
    | zero => simp [List.find?_cons]
    | succ j =>
      have hj' : j < m.length := Nat.lt_of_succ_lt_succ hj
      have ne : ¬ q.1 = m[j].1 := fun e => nd.1 (e ▸ List.mem_map.mpr ⟨m[j], List.getElem_mem hj', rfl⟩)
      have := ih nd.2 hj'
      rw [List.getElem_cons_succ, List.find?_cons, decide_eq_false ne]
      exact this
/-- a copy, entry by entry -/
theorem copy_step {m : Mem} (nd : (m.map Prod.fst).Nodup) {j : Nat} (hj : j < m.length) : setP (m.take j) m[j].1 m[j].2 = m.take (j + 1) := by
  have hn : (getM (m.take j) m[j].1).isSome = false := by
    cases h : getM (m.take j) m[j].1 with
    | none => rfl
    | some v =>
      exfalso
      unfold getM at h
      cases hf : (m.take j).find? fun x => decide (x.1 = m[j].1) with
      | none => rw [hf] at h; cases h
      | some y =>
        have h1 := List.mem_of_find?_eq_some hf
        have h2 : y.1 = m[j].1 := by simpa using List.find?_some hf
        obtain ⟨i, hi, e⟩ := List.mem_iff_getElem.mp h1
        rw [List.getElem_take] at e
        have hi' : i < j := by rw [List.length_take] at hi; omega
        have nd' := List.nodup_iff_pairwise_ne.mp nd
        have := (List.pairwise_iff_getElem.mp nd') i j (by rw [List.length_map]; omega) (by rw [List.length_map]; exact hj) hi'
        rw [List.getElem_map, List.getElem_map, e] at this
        exact this h2
  unfold setP
  rw [hn]
  show m.take j ++ [(m[j].1, m[j].2)] = _
  rw [List.take_succ_eq_append_getElem hj]
theorem place_eq (ds : List Int) (k : Nat) : ∃ (p : Pl) (k' : Nat), m__law_place [BX ds k] = some (.ok (.imm p.D) [BX ds k']) ∧ p.ok := by
  have h0 : 0 ≤ dr ds k 3 := dr_nn ds _ (by decide)
  have h1 : dr ds k 3 < 3 := dr_lt ds _ (by decide)
  obtain ⟨ρ, h2, t, k', f, rfl, h3⟩ := range_inv (k := 2) (mb := l1__law_place) (fun j ρ => ∃ (t : List Int) (k' : Nat) (f : Option M), ρ = [some (BX ds k'), some (.imm (.tuple (t.map .int))), f] ∧ t.length = j) 0 (dr ds k 3).toNat [some (BX ds (k + 1)), some (.imm (.tuple [])), none] ⟨[], k + 1, none, rfl, rfl⟩ (fun j ρ hj hp => by
    obtain ⟨t, k', f, rfl, h⟩ := hp
    unfold l1__law_place
    have h4 : (t.map PyData.int).length ≤ 999999 := by rw [List.length_map]; omega
    simpa [ draw_eq, h4]
    exact ⟨_, rfl, t ++ [dr ds k' 2], _, _, (by rw [List.map_append]; rfl), (by rw [List.length_append, h]; rfl)⟩)
  unfold m__law_place b__law_place
  simpa [ draw_eq, h2]
  exact ⟨⟨t, _, _⟩, _, rfl, by show t.length ≤ 2; omega⟩
noncomputable def plV (ds : List Int) (k : Nat) : Pl := (place_eq ds k).choose
noncomputable def plK (ds : List Int) (k : Nat) : Nat := (place_eq ds k).choose_spec.choose
theorem place_rw (ds : List Int) (k : Nat) : m__law_place [BX ds k] = some (.ok (.imm (plV ds k).D) [BX ds (plK ds k)]) := (place_eq ds k).choose_spec.choose_spec.1
theorem place_ok (ds : List Int) (k : Nat) : (plV ds k).ok := (place_eq ds k).choose_spec.choose_spec.2

/-! ### writes that come into a memory -/
def delP (m : Mem) (p : Pl) : Mem := m.filter fun q => decide (q.1 ≠ p)
def app1 (m : Mem) (p : Pl) (v : Vl) : Mem := match v with
  | .non => if (getM m p).isSome = true then delP m p else m
  | v => setP m p v
def appA (m : Mem) (ws : List (Pl × Vl)) : Mem := ws.foldl (fun m w => app1 m w.1 w.2) m
theorem dropD_m (m : Mem) (p : Pl) : dropD (mD m) p.D = mD (delP m p) := by
  unfold dropD delP mD
  rw [List.filter_map]
  congr 1
  refine List.filter_congr fun q _ => ?_
  show decide (kT q.1.D ≠ kT p.D) = decide (q.1 ≠ p)
  by_cases e : q.1 = p
  · simp [e]
  · have h : ¬ kT q.1.D = kT p.D := fun z => e ((kT_eq q.1 p).mp z)
    simp [e, h]
theorem getM_cons (q : Pl × Vl) (m : Mem) (p : Pl) : getM (q :: m) p = if q.1 = p then some q.2 else getM m p := by
  unfold getM
  rw [List.find?_cons]
  by_cases e : q.1 = p
  · rw [decide_eq_true e, if_pos e]
    rfl
  · rw [decide_eq_false e, if_neg e]
theorem getM_app (m l : Mem) (p : Pl) : getM (m ++ l) p = match getM m p with | some v => some v | none => getM l p := by
  induction m with
  | nil => rfl
  | cons q m ih =>
    rw [List.cons_append, getM_cons, getM_cons]
    by_cases e : q.1 = p
    · rw [if_pos e, if_pos e]
    · rw [if_neg e, if_neg e, ih]
theorem getM_map (m : Mem) (q p : Pl) (v : Vl) : getM (m.map fun x => if x.1 = q then (x.1, v) else x) p = if q = p then (getM m p).map fun _ => v else getM m p := by
  induction m with
  | nil => by_cases e : q = p <;> simp [getM, e]
  | cons x m ih =>
    rw [List.map_cons, getM_cons, getM_cons, ih]
    by_cases e : x.1 = q
    · rw [if_pos e]
      by_cases e2 : q = p
      · subst e2
        simp [e]
      · have : ¬ x.1 = p := fun z => e2 (e ▸ z)
        simp [this, e2]
    · rw [if_neg e]
      by_cases e2 : x.1 = p
      · have : ¬ q = p := fun z => e (e2.trans z.symm)
        simp [e2, this]
      · simp [e2]
theorem getM_set (m : Mem) (q p : Pl) (v : Vl) : getM (setP m q v) p = if q = p then some v else getM m p := by
  unfold setP
  by_cases h : (getM m q).isSome = true
  · rw [if_pos h, getM_map]
    by_cases e : q = p
    · subst e
      rw [if_pos rfl, if_pos rfl]
      obtain ⟨w, hw⟩ := Option.isSome_iff_exists.mp h
      rw [hw]
      rfl
    · rw [if_neg e, if_neg e]
  · rw [if_neg h, getM_app]
    have hn : getM m q = none := by simpa using h
    by_cases e : q = p
    · subst e
      rw [hn, if_pos rfl]
      show getM [(q, v)] q = _
      rw [getM_cons, if_pos rfl]
    · rw [if_neg e]
      cases hp : getM m p with
      | some w => rfl
      | none =>
        show getM [(q, v)] p = none
        rw [getM_cons, if_neg e]
        rfl
theorem getM_del (m : Mem) (q p : Pl) : getM (delP m q) p = if q = p then none else getM m p := by
  unfold delP
  induction m with
  | nil => by_cases e : q = p <;> simp [getM, e]
  | cons x m ih =>
    rw [getM_cons]
    by_cases e : x.1 = q
    · rw [List.filter_cons_of_neg (by simpa using e), ih]
      by_cases e2 : q = p
      · rw [if_pos e2, if_pos e2]
      · rw [if_neg e2, if_neg e2, if_neg (fun z => e2 (e ▸ z))]
    · rw [List.filter_cons_of_pos (by simpa using e), getM_cons, ih]
      by_cases e2 : x.1 = p
      · rw [if_pos e2, if_neg (fun z => e (e2.trans z.symm)), if_pos e2]
      · rw [if_neg e2, if_neg e2]
def vO (v : Vl) : Option Vl := match v with
  | .non => none
  | v => some v
theorem getM_app1 (m : Mem) (q p : Pl) (v : Vl) : getM (app1 m q v) p = if q = p then vO v else getM m p := by
  have hs : ∀ w, getM (setP m q w) p = if q = p then some w else getM m p := fun w => getM_set m q p w
  cases v with
  | non =>
    show getM (if (getM m q).isSome = true then delP m q else m) p = if q = p then none else getM m p
    by_cases h : (getM m q).isSome = true
    · rw [if_pos h, getM_del]
    · rw [if_neg h]
      by_cases e : q = p
      · subst e
        rw [if_pos rfl]
        simpa using h
      · rw [if_neg e]
  | _ => exact hs _
theorem MOk.del {m : Mem} {n : Nat} (h : MOk m n) (p : Pl) : MOk (delP m p) n := by
  unfold delP
  refine ⟨?_, fun q hq => h.ok q (List.mem_filter.mp hq).1, Nat.le_trans (List.length_filter_le _ _) h.len⟩
  exact h.nd.sublist ((List.filter_sublist (p := fun q : Pl × Vl => decide (q.1 ≠ p)) (l := m)).map Prod.fst)
theorem MOk.app1 {m : Mem} {n : Nat} (h : MOk m n) {p : Pl} {v : Vl} (hp : p.ok) (hv : v.ok) : MOk (app1 m p v) (n + 1) := by
  have hs := h.set hp hv
  cases v with
  | non =>
    show MOk (if (getM m p).isSome = true then delP m p else m) (n + 1)
    split
    · exact (h.del p).up
    · exact h.up
  | _ => exact hs
theorem MOk.appA {ws : List (Pl × Vl)} : ∀ {m : Mem} {n : Nat}, MOk m n → (∀ w ∈ ws, w.1.ok ∧ w.2.ok) → MOk (appA m ws) (n + ws.length) := by
  induction ws with
  | nil => exact fun h _ => h
  | cons w ws ih =>
    intro m n h hw
    have := ih (h.app1 (hw w List.mem_cons_self).1 (hw w List.mem_cons_self).2) fun x hx => hw x (List.mem_cons_of_mem _ hx)
    have e : n + 1 + ws.length = n + (w :: ws).length := by rw [List.length_cons]; omega
    rw [e] at this
    exact this
theorem getM_appA_not : ∀ {ws : List (Pl × Vl)} {m : Mem} {p : Pl}, p ∉ ws.map Prod.fst → getM (appA m ws) p = getM m p
  | [], _, _, _ => rfl
  | w :: ws, m, p, h => by
    rw [List.map_cons, List.mem_cons, not_or] at h
    show getM (appA (app1 m w.1 w.2) ws) p = _
    rw [getM_appA_not h.2, getM_app1, if_neg (fun e => h.1 e.symm)]
theorem getM_appA : ∀ {ws : List (Pl × Vl)} {m : Mem}, (ws.map Prod.fst).Nodup → ∀ w ∈ ws, getM (appA m ws) w.1 = vO w.2
  | [], _, _, _, h => nomatch h
  | w :: ws, m, nd, x, hx => by
    rw [List.map_cons, List.nodup_cons] at nd
    show getM (appA (app1 m w.1 w.2) ws) x.1 = _
    rcases List.mem_cons.mp hx with e | e
    · subst e
      rw [getM_appA_not nd.1, getM_app1, if_pos rfl]
    · exact getM_appA nd.2 x e
theorem app1_id {m : Mem} {p : Pl} {v : Vl} (nd : (m.map Prod.fst).Nodup) (h : getM m p = vO v) : app1 m p v = m := by
  have hs : ∀ w, getM m p = some w → setP m p w = m := fun w hw => by
    unfold setP
    rw [hw]
    show (m.map fun q => if q.1 = p then (q.1, w) else q) = m
    have e : ∀ q ∈ m, (if q.1 = p then (q.1, w) else q) = q := fun q hq => by
      by_cases e : q.1 = p
      · obtain ⟨j, hj, ej⟩ := List.mem_iff_getElem.mp hq
        have g := getM_at nd hj
        rw [ej, e, hw] at g
        rw [if_pos e, Option.some.inj g]
      · rw [if_neg e]
    have := List.map_congr_left e
    rw [this]
    exact List.map_id' m
  cases v with
  | non =>
    show (if (getM m p).isSome = true then delP m p else m) = m
    have : getM m p = none := h
    rw [this]
    rfl
  | _ => exact hs _ h
theorem appA_id {m : Mem} (nd : (m.map Prod.fst).Nodup) : ∀ {ws : List (Pl × Vl)}, (∀ w ∈ ws, getM m w.1 = vO w.2) → appA m ws = m
  | [], _ => rfl
  | w :: ws, h => by
    show appA (app1 m w.1 w.2) ws = m
    rw [app1_id nd (h w List.mem_cons_self)]
    exact appA_id nd fun x hx => h x (List.mem_cons_of_mem _ hx)
theorem appA_take {m : Mem} {ws : List (Pl × Vl)} {j : Nat} (hj : j < ws.length) : appA m (ws.take (j + 1)) = app1 (appA m (ws.take j)) ws[j].1 ws[j].2 := by
  rw [List.take_succ_eq_append_getElem hj]
  unfold appA
  rw [List.foldl_append]
  rfl
/-! ### places in a list -/
theorem shaped_pl (p : Pl) : SeqAt.shaped p.D = true := by
  have e := lay_ints p.task
  unfold SeqAt.shaped
  simp [Pl.D, PyData.canLay0, PyData.canLayAll0, PyData.depth, PyData.depthAll, e.1, e.2]
theorem lay_pls : ∀ ps : List Pl, PyData.canLayAll0 (ps.map Pl.D) = true ∧ PyData.depthAll (ps.map Pl.D) ≤ 2
  | [] => ⟨by simp only [List.map_nil, PyData.canLayAll0], by simp only [List.map_nil, PyData.depthAll]; omega⟩
  | p :: ps => by
    have ih := lay_pls ps
    have h1 : PyData.canLay0 p.D = true := SeqAt.canLay_of_shaped (shaped_pl p)
    have h2 : p.D.depth ≤ 2 := by
      have e := lay_ints p.task
      simp [Pl.D, PyData.depth, PyData.depthAll, e.2]
    refine ⟨by simp only [List.map_cons, PyData.canLayAll0, h1, ih.1, Bool.and_self], ?_⟩
    simp only [List.map_cons, PyData.depthAll]
    omega
theorem shaped_pls (ps : List Pl) : SeqAt.shaped (.list (ps.map Pl.D)) = true := by
  have e := lay_pls ps
  unfold SeqAt.shaped
  have h := e.2
  simp [PyData.canLay0, PyData.depth, e.1]
  omega
theorem sameAll_int : ∀ ts us : List Int, sameAll (ts.map .int) (us.map .int) = decide (ts = us)
  | [], [] => by simp [sameAll]
  | [], _ :: _ => by simp [sameAll]
  | _ :: _, [] => by simp [sameAll]
  | t :: ts, u :: us => by
    simp only [List.map_cons, sameAll, sameD, sameAll_int ts us, List.cons.injEq]
    by_cases a : t = u <;> by_cases b : ts = us <;> simp [a, b]
theorem eqv_pl (p q : Pl) : PyData.eqv p.D q.D = decide (p = q) := by
  obtain ⟨t, a, b⟩ := p
  obtain ⟨t', a', b'⟩ := q
  have h : ∀ x y : Int, PyData.eqv (.int x) (.int y) = decide (x = y) := fun x y => by
    simp only [PyData.eqv]
    by_cases e : x = y <;> simp [e]
  simp only [Pl.D, eqv_tup, eqvAll_cons, eqv_ints, sameAll_int, h, PyData.eqvAll, Pl.mk.injEq, Bool.and_true]
  by_cases e1 : t = t' <;> by_cases e2 : a = a' <;> by_cases e3 : b = b' <;> simp [e1, e2, e3]
theorem any_pl (ps : List Pl) (p : Pl) : (ps.map Pl.D).any (fun z => PyData.eqv z p.D) = decide (p ∈ ps) := by
  induction ps with
  | nil => simp
  | cons q ps ih =>
    rw [List.map_cons, List.any_cons, ih, eqv_pl]
    by_cases e : q = p
    · simp [e]
    · have : ¬ p = q := fun z => e z.symm
      simp [e, this]

def wD (w : Pl × Vl) : PyData := .tuple [w.1.D, w.2.D]
theorem put_value_eq (m : Mem) (p : Pl) (v : Vl) (hv : v.ok) (hl : m.length ≤ 1000) : m_put_value [.dic (mD m), .imm p.D, .imm v.D] = some (.ok (.imm .none) [.dic (mD (app1 m p v)), .imm p.D, .imm v.D]) := by
  have he := eqB_vl hv (show Vl.ok .non from True.intro)
  have hq := putD_m m p v
  have hd := dropD_m m p
  have ha := atD_m m p
  have hl' : (mD m).length ≤ 1000000 := by rw [mD_len]; omega
  have hN : k_NONE = Vl.non.D := rfl
  unfold m_put_value b_put_value
  rw [hN]
  cases v with
  | non =>
    have e1 : sameD Vl.non.D Vl.non.D = true := by simp [Vl.D, sameD, sameAll]
    rw [e1] at he
    cases hg : getM m p with
    | none =>
      have e2 : app1 m p .non = m := by
        show (if (getM m p).isSome = true then delP m p else m) = m
        rw [hg]
        rfl
      rw [hg] at ha
      simp only [Option.map_none] at ha
      rw [e2]
      simpa [ he, kT_pl, ha]
    | some w =>
      have e2 : app1 m p .non = delP m p := by
        show (if (getM m p).isSome = true then delP m p else m) = delP m p
        rw [hg]
        rfl
      rw [hg] at ha
      simp only [Option.map_some] at ha
      rw [e2]
      simpa [ he, kT_pl, ha, hd]
  | bl b =>
    have e1 : sameD (Vl.bl b).D Vl.non.D = false := by simp [Vl.D, sameD, sameAll]
    rw [e1] at he
    show _ = some (Rs.ok _ [M.dic (mD (setP m p (.bl b))), _, _])
    simpa [ he, kT_pl, hl', hq]
  | text b =>
    have e1 : sameD (Vl.text b).D Vl.non.D = false := by simp [Vl.D, sameD, sameAll]
    rw [e1] at he
    show _ = some (Rs.ok _ [M.dic (mD (setP m p (.text b))), _, _])
    simpa [ he, kT_pl, hl', hq]
  | ob b =>
    have e1 : sameD (Vl.ob b).D Vl.non.D = false := by simp [Vl.D, Ob.D, sameD, sameAll]
    rw [e1] at he
    show _ = some (Rs.ok _ [M.dic (mD (setP m p (.ob b))), _, _])
    simpa [ he, kT_pl, hl', hq]
  | int b =>
    have e1 : sameD (Vl.int b).D Vl.non.D = false := by simp [Vl.D, sameD, sameAll]
    rw [e1] at he
    show _ = some (Rs.ok _ [M.dic (mD (setP m p (.int b))), _, _])
    simpa [ he, kT_pl, hl', hq]
theorem publish_eq (m : Mem) (hm : MOk m 100) (ws : List (Pl × Vl)) (hw : ∀ w ∈ ws, w.1.ok ∧ w.2.ok) (hl : ws.length ≤ 11) : m_publish [.dic (mD m), .imm (.tuple (ws.map wD))] = some (.ok (.imm .none) [.dic (mD (appA m ws)), .imm (.tuple (ws.map wD))]) := by
  obtain ⟨ρ, h2, f, g, e⟩ := for_inv (p := .tp [(.nm 2), (.nm 3)]) (mb := l1_publish) (fun j ρ => ∃ f g : Option M, ρ = [some (.dic (mD (appA m (ws.take j)))), some (.imm (.tuple (ws.map wD))), f, g]) (ws.map wD) [some (.dic (mD m)), some (.imm (.tuple (ws.map wD))), none, none] ⟨none, none, rfl⟩ (fun j ρ hj hp => by
    obtain ⟨f, g, rfl⟩ := hp
    have hj' : j < ws.length := by rw [List.length_map] at hj; exact hj
    have hk := hw _ (List.getElem_mem hj')
    have hML := (hm.appA (ws := ws.take j) fun w hw' => hw w (List.mem_of_mem_take hw')).len
    have hlen : (appA m (ws.take j)).length ≤ 1000 := by
      rw [List.length_take] at hML
      omega
    have h1 := put_value_eq (appA m (ws.take j)) ws[j].1 ws[j].2 hk.2 hlen
    have hD : (ws.map wD)[j] = .tuple [ws[j].1.D, ws[j].2.D] := by rw [List.getElem_map]; rfl
    rw [hD, appA_take hj']
    unfold l1_publish
    simpa [ h1]
    exact ⟨_, rfl, _, _, rfl⟩)
  rw [List.length_map, List.take_length] at e
  subst e
  unfold m_publish b_publish
  simpa [ h2]
theorem noFO_bx (ds : List Int) (k : Nat) : noFO (some (BX ds k)) = true := by
  unfold BX noFO noF
  simp only [List.all_cons, List.all_nil, noF, Bool.and_true, List.all_map, Function.comp_def, List.all_eq_true]
  exact fun _ _ => trivial
theorem okD_v (v : Vl) (h : v.ok) : m__law_same 9 [v.D, v.D] = some (.bool true) := same_refl 8 _ (okD_vl (n := 6) h)
theorem at_fst {m : Mem} {j : Nat} (hj : j < ((mD m).map Prod.fst).length) (hj' : j < m.length) : ((mD m).map Prod.fst)[j] = m[j].1.D := by
  simp [mD]
theorem key_at {m : Mem} (nd : (m.map Prod.fst).Nodup) {j : Nat} (hj : j < m.length) : atD (mD m) m[j].1.D = some m[j].2.D := by
  rw [atD_m, getM_at nd hj]
  rfl
theorem same_memory_eq (m : Mem) (hm : MOk m 100) : m__law_same_memory [.dic (mD m), .dic (mD m)] = some (.ok (.imm (.bool true)) [.dic (mD m), .dic (mD m)]) := by
  obtain ⟨ρ, h2, f, rfl, hf⟩ := for_inv (p := .nm 2) (mb := l1__law_same_memory) (fun j ρ => ∃ (f : Option M), ρ = [some (.dic (mD m)), some (.fdic (mD m)), f] ∧ noFO f = true) ((mD m).map Prod.fst) [some (.dic (mD m)), some (.fdic (mD m)), none] ⟨none, rfl, rfl⟩ (fun j ρ hj hp => by
    obtain ⟨f, rfl, hf⟩ := hp
    have hj' : j < m.length := by rw [List.length_map, mD_len] at hj; exact hj
    rw [at_fst hj hj']
    have h1 := key_at hm.nd hj'
    have h2 := okD_v m[j].2 (hm.ok _ (List.getElem_mem hj')).2
    unfold l1__law_same_memory
    simpa [ kT_pl, h1, h2]
    exact ⟨_, rfl, _, rfl, rfl⟩)
  unfold m__law_same_memory b__law_same_memory
  simpa [ h2, hf, List.all_cons, List.all_nil]

/-! ### the loops of the law -/
theorem mem_loop (S : Option M) (ds : List Int) (k n : Nat) (hn : n ≤ 12) : ∃ ρ', loopM (.nm 3) l1_law (rangeL 0 n) [S, some (BX ds k), some (.dic []), none, none, none, none, none, none, none] = some (.ok .nx ρ') ∧ ∃ (m : Mem) (k' : Nat) (f g h : Option M), ρ' = [S, some (BX ds k'), some (.dic (mD m)), f, g, h, none, none, none, none] ∧ MOk m n ∧ noFO f = true ∧ noFO g = true ∧ noFO h = true := by
  refine range_inv (k := 3) (mb := l1_law) (fun j ρ => ∃ (m : Mem) (k' : Nat) (f g h : Option M), ρ = [S, some (BX ds k'), some (.dic (mD m)), f, g, h, none, none, none, none] ∧ MOk m j ∧ noFO f = true ∧ noFO g = true ∧ noFO h = true) 0 n _ ⟨[], k, none, none, none, rfl, ⟨List.nodup_nil, (fun _ h => nomatch h), Nat.le_refl _⟩, rfl, rfl, rfl⟩ (fun j ρ hj hp => ?_)
  obtain ⟨m, k', f, g, h, rfl, hm, hf, hg, hh⟩ := hp
  unfold l1_law
  have hl : (mD m).length ≤ 1000000 := by rw [mD_len]; have := hm.len; omega
  have hp := place_ok ds k'
  have hv := value_ok ds (plK ds k')
  have hw := value_rw ds (plK ds k')
  have hq := putD_m m (plV ds k') (vlV ds (plK ds k'))
  have hs := hm.set hp hv
  cases hc : vlV ds (plK ds k') with
  | non =>
    rw [hc] at hw
    simp only [Vl.D] at hw
    simpa [ place_rw, hw]
    exact ⟨_, rfl, m, _, _, _, _, rfl, hm.up, rfl, rfl, rfl⟩
  | bl b =>
    rw [hc] at hw hq hs
    simp only [Vl.D] at hw hq
    simpa [ place_rw, hw, kT_pl, hl, hq]
    exact ⟨_, rfl, _, _, _, _, _, rfl, hs, rfl, rfl, rfl⟩
  | text b =>
    rw [hc] at hw hq hs
    simp only [Vl.D] at hw hq
    simpa [ place_rw, hw, kT_pl, hl, hq]
    exact ⟨_, rfl, _, _, _, _, _, rfl, hs, rfl, rfl, rfl⟩
  | ob b =>
    rw [hc] at hw hq hs
    simp only [Vl.D, Ob.D] at hw hq
    simpa [ place_rw, hw, kT_pl, hl, hq]
    exact ⟨_, rfl, _, _, _, _, _, rfl, hs, rfl, rfl, rfl⟩
  | int b =>
    rw [hc] at hw hq hs
    simp only [Vl.D] at hw hq
    simpa [ place_rw, hw, kT_pl, hl, hq]
    exact ⟨_, rfl, _, _, _, _, _, rfl, hs, rfl, rfl, rfl⟩
theorem comp_loop {ρ0 : Env'} (hv : 7 < ρ0.length) (hw : ρ0.set 7 none = ρ0) : ∀ (ws : List (Pl × Vl)) (acc : List M), acc.length + ws.length ≤ 1000 →
    lcL (.nm 7) [7] (pureM true) (dX (qM (pE (pIx (eP 7) 0)))) (ws.map wD) acc ρ0 = some (.ok (.lst (acc ++ ws.map fun w => M.imm w.1.D)) ρ0) := by
  intro ws
  induction ws with
  | nil =>
    intro acc _
    rw [List.map_nil, lc_nil, List.map_nil, List.append_nil]
  | cons w r ih =>
    intro acc hl
    rw [List.length_cons] at hl
    have hD : wD w = .tuple [w.1.D, w.2.D] := rfl
    have hg : (ρ0.set 7 (some (.imm (.tuple [w.1.D, w.2.D]))))[7]? = some (some (.imm (.tuple [w.1.D, w.2.D]))) := by rw [List.getElem?_set_self hv]
    have hss : (ρ0.set 7 (some (.imm (.tuple [w.1.D, w.2.D])))).set 7 none = ρ0 := by rw [List.set_set, hw]
    have ha : acc.length ≤ 1000000 := by omega
    rw [List.map_cons, lc_cons, hD]
    simpa [ hg, ha, hss]
    rw [ih _ (by rw [List.length_append]; simp only [List.length_cons, List.length_nil]; omega), List.append_assoc]
    rfl
theorem immL_ws : ∀ ws : List (Pl × Vl), immL (ws.map fun w => M.imm w.1.D) = some ((ws.map Prod.fst).map Pl.D)
  | [] => by simp [immL]
  | w :: ws => by simp [immL, immL_ws ws]
theorem in_ws (p : Pl) (ws : List (Pl × Vl)) : inDL true p.D (.lst (ws.map fun w => M.imm w.1.D)) = some (.bool (!decide (p ∈ ws.map Prod.fst))) := by
  have hl : lstL (.lst (ws.map fun w => M.imm w.1.D)) = some ((ws.map Prod.fst).map Pl.D) := immL_ws ws
  have hs : (SeqAt.shaped p.D && SeqAt.shaped (.list ((ws.map Prod.fst).map Pl.D))) = true := by rw [shaped_pl, shaped_pls]; rfl
  unfold inDL
  rw [hl]
  show (if (SeqAt.shaped p.D && SeqAt.shaped (.list ((ws.map Prod.fst).map Pl.D))) = true then some (PyData.bool (!(((ws.map Prod.fst).map Pl.D).any fun z => PyData.eqv z p.D))) else none) = _
  rw [if_pos hs, any_pl]
structure WOk (ws : List (Pl × Vl)) (n : Nat) : Prop where
  nd : (ws.map Prod.fst).Nodup
  ok : ∀ w ∈ ws, w.1.ok ∧ w.2.ok
  len : ws.length ≤ n
theorem writes_loop (S : Option M) (ds : List Int) (k n : Nat) (hn : n ≤ 10) (D f g h : Option M) (hf : noFO f = true) (hg : noFO g = true) (hh : noFO h = true) : ∃ ρ', loopM (.nm 3) l2_law (rangeL 0 n) [S, some (BX ds k), D, f, g, h, some (.imm (.tuple [])), none, none, none] = some (.ok .nx ρ') ∧ ∃ (ws : List (Pl × Vl)) (k' : Nat) (f g h : Option M), ρ' = [S, some (BX ds k'), D, f, g, h, some (.imm (.tuple (ws.map wD))), none, none, none] ∧ WOk ws n ∧ noFO f = true ∧ noFO g = true ∧ noFO h = true := by
  refine range_inv (k := 3) (mb := l2_law) (fun j ρ => ∃ (ws : List (Pl × Vl)) (k' : Nat) (f g h : Option M), ρ = [S, some (BX ds k'), D, f, g, h, some (.imm (.tuple (ws.map wD))), none, none, none] ∧ WOk ws j ∧ noFO f = true ∧ noFO g = true ∧ noFO h = true) 0 n _ ⟨[], k, f, g, h, rfl, ⟨List.nodup_nil, (fun _ h => nomatch h), Nat.le_refl _⟩, hf, hg, hh⟩ (fun j ρ hj hp => ?_)
  obtain ⟨ws, k', f, g, h, rfl, hw, hf, hg, hh⟩ := hp
  have hl := hw.len
  have hc := fun (a b c d e f' g' h' i : Option M) => comp_loop (ρ0 := [a, b, c, d, e, f', g', none, h', i]) (by simp) rfl ws [] (by simp only [List.length_nil]; omega)
  have hi := in_ws (plV ds k') ws
  have hlen : (ws.map wD).length ≤ 999999 := by rw [List.length_map]; omega
  have hp := place_ok ds k'
  unfold l2_law
  by_cases c : plV ds k' ∈ ws.map Prod.fst
  · rw [decide_eq_true c] at hi
    simpa [ place_rw, hc, hi]
    exact ⟨_, rfl, ws, _, _, _, _, rfl, ⟨hw.nd, hw.ok, by omega⟩, rfl, rfl, hh⟩
  · rw [decide_eq_false c] at hi
    have hv := value_ok ds (plK ds k')
    simpa [ place_rw, hc, hi, value_rw, hlen]
    refine ⟨_, rfl, ws ++ [(plV ds k', vlV ds (plK ds k'))], _, _, _, _, (by rw [List.map_append]; rfl), ⟨?_, fun w hw' => ?_, by rw [List.length_append]; exact Nat.succ_le_succ hl⟩, rfl, rfl, hh⟩
    · rw [List.map_append]
      refine List.nodup_append.mpr ⟨hw.nd, by simp, fun x hx y hy => ?_⟩
      have e : y = plV ds k' := by simpa using hy
      subst e
      intro z
      subst z
      exact c hx
    · rcases List.mem_append.mp hw' with z | z
      · exact hw.ok w z
      · have e : w = (plV ds k', vlV ds (plK ds k')) := by simpa using z
        subst e
        exact ⟨hp, hv⟩

theorem copy_loop (m : Mem) (hm : MOk m 12) (A B C E F G I f : Option M) (hf : noFO f = true) : ∃ ρ', loopM (.nm 4) l3_law ((mD m).map Prod.fst) [A, B, some (.fdic (mD m)), C, f, E, F, G, some (.dic []), I] = some (.ok .nx ρ') ∧ ∃ f', ρ' = [A, B, some (.fdic (mD m)), C, f', E, F, G, some (.dic (mD m)), I] ∧ noFO f' = true := by
  obtain ⟨ρ, h2, f', e, h3⟩ := for_inv (p := .nm 4) (mb := l3_law) (fun j ρ => ∃ f' : Option M, ρ = [A, B, some (.fdic (mD m)), C, f', E, F, G, some (.dic (mD (m.take j))), I] ∧ noFO f' = true) ((mD m).map Prod.fst) [A, B, some (.fdic (mD m)), C, f, E, F, G, some (.dic []), I] ⟨f, rfl, hf⟩ (fun j ρ hj hp => by
    obtain ⟨f', rfl, _⟩ := hp
    have hj' : j < m.length := by rw [List.length_map, mD_len] at hj; exact hj
    rw [at_fst hj hj']
    have h1 := key_at hm.nd hj'
    have h2 : putD (mD (m.take j)) m[j].1.D m[j].2.D = mD (m.take (j + 1)) := by rw [putD_m, copy_step hm.nd hj']
    have hl : (mD (m.take j)).length ≤ 1000000 := by rw [mD_len, List.length_take]; have := hm.len; omega
    unfold l3_law
    simpa [ kT_pl, h1, h2, hl]
    exact ⟨_, rfl, _, rfl, rfl⟩)
  rw [List.length_map, mD_len, List.take_length] at e
  exact ⟨ρ, h2, f', e, h3⟩
theorem due_step (m : Mem) (hl0 : m.length ≤ 1000) (p : Pl) (v : Vl) (A B C D E F G I : Option M) : l4_law [A, B, C, D, E, F, G, some (.imm (.tuple [p.D, v.D])), some (.dic (mD m)), I] = some (.ok .nx [A, B, C, D, E, F, G, some (.imm (.tuple [p.D, v.D])), some (.dic (mD (app1 m p v))), I]) := by
  have hq := putD_m m p v
  have hd := dropD_m m p
  have ha := atD_m m p
  have hl' : (mD m).length ≤ 1000000 := by rw [mD_len]; omega
  unfold l4_law
  cases v with
  | non =>
    simp only [Vl.D]
    cases hg : getM m p with
    | none =>
      have e2 : app1 m p .non = m := by
        show (if (getM m p).isSome = true then delP m p else m) = m
        rw [hg]
        rfl
      rw [hg] at ha
      simp only [Option.map_none] at ha
      rw [e2]
      simpa [ kT_pl, ha]
    | some w =>
      have e2 : app1 m p .non = delP m p := by
        show (if (getM m p).isSome = true then delP m p else m) = delP m p
        rw [hg]
        rfl
      rw [hg] at ha
      simp only [Option.map_some] at ha
      rw [e2]
      simpa [ kT_pl, ha, hd]
  | bl b =>
    have e2 : app1 m p (.bl b) = setP m p (.bl b) := rfl
    rw [e2]
    simp only [Vl.D] at hq ⊢
    simpa [ kT_pl, hl', hq]
  | text b =>
    have e2 : app1 m p (.text b) = setP m p (.text b) := rfl
    rw [e2]
    simp only [Vl.D] at hq ⊢
    simpa [ kT_pl, hl', hq]
  | ob b =>
    have e2 : app1 m p (.ob b) = setP m p (.ob b) := rfl
    rw [e2]
    simp only [Vl.D, Ob.D] at hq ⊢
    simpa [ kT_pl, hl', hq]
  | int b =>
    have e2 : app1 m p (.int b) = setP m p (.int b) := rfl
    rw [e2]
    simp only [Vl.D] at hq ⊢
    simpa [ kT_pl, hl', hq]
theorem due_loop (m : Mem) (hm : MOk m 12) (ws : List (Pl × Vl)) (hw : WOk ws 10) (A B C D E F G I : Option M) : ∃ ρ', loopM (.nm 7) l4_law (ws.map wD) [A, B, C, D, E, F, G, none, some (.dic (mD m)), I] = some (.ok .nx ρ') ∧ ∃ g : Option M, ρ' = [A, B, C, D, E, F, G, g, some (.dic (mD (appA m ws))), I] := by
  obtain ⟨ρ, h2, g, e⟩ := for_inv (p := .nm 7) (mb := l4_law) (fun j ρ => ∃ g : Option M, ρ = [A, B, C, D, E, F, G, g, some (.dic (mD (appA m (ws.take j)))), I]) (ws.map wD) [A, B, C, D, E, F, G, none, some (.dic (mD m)), I] ⟨none, rfl⟩ (fun j ρ hj hp => by
    obtain ⟨g, rfl⟩ := hp
    have hj' : j < ws.length := by rw [List.length_map] at hj; exact hj
    have hML := (hm.appA (ws := ws.take j) fun w hw' => hw.ok w (List.mem_of_mem_take hw')).len
    have hlen : (appA m (ws.take j)).length ≤ 1000 := by
      rw [List.length_take] at hML
      have := hw.len
      omega
    have hD : (ws.map wD)[j] = .tuple [ws[j].1.D, ws[j].2.D] := by rw [List.getElem_map]; rfl
    have h1 := due_step (appA m (ws.take j)) hlen ws[j].1 ws[j].2 A B C D E F G I
    rw [hD, appA_take hj']
    simpa [ h1]
    exact ⟨_, rfl, _, rfl⟩)
  rw [List.length_map, List.take_length] at e
  exact ⟨ρ, h2, g, e⟩
theorem turn_step (m m2 : Mem) (hm : MOk m 50) (hm2 : MOk m2 100) (ws : List (Pl × Vl)) (hw : WOk ws 10) (ha : appA m ws = m2) (A B D E F G I : Option M) : l5_law [A, B, some (.dic (mD m)), D, E, F, some (.imm (.tuple (ws.map wD))), G, some (.dic (mD m2)), I] = some (.ok .nx [A, B, some (.dic (mD m2)), D, E, F, some (.imm (.tuple (ws.map wD))), G, some (.dic (mD m2)), I]) := by
  have h1 := publish_eq m ⟨hm.nd, hm.ok, Nat.le_trans hm.len (by decide)⟩ ws hw.ok (Nat.le_succ_of_le hw.len)
  rw [ha] at h1
  have h2 := same_memory_eq m2 hm2
  unfold l5_law
  simpa [ h1, h2]
theorem law_true : ∀ ns : List Int, ns.length ≤ 63 → (∀ z ∈ ns, Builtin.Int.intBits z ≤ 1048576) → ∃ ys, m_law [.scr ns] = some (.ok (.imm (.bool true)) ys) := by
  intro ns _ hb
  obtain ⟨ds, h1⟩ := digits_eq ns hb
  have g0 : 0 ≤ dr ds 0 13 := dr_nn ds _ (by decide)
  have g1 : dr ds 0 13 < 13 := dr_lt ds _ (by decide)
  obtain ⟨ρ, h2, m, k, f, g, h, rfl, hm, hf, hg, hh⟩ := mem_loop (some (.scr ns)) ds (0 + 1) (dr ds 0 13).toNat (by omega)
  have hm12 : MOk m 12 := ⟨hm.nd, hm.ok, by have := hm.len; omega⟩
  have g2 : 0 ≤ dr ds k 11 := dr_nn ds _ (by decide)
  have g3 : dr ds k 11 < 11 := dr_lt ds _ (by decide)
  obtain ⟨ρ, h3, ws, k2, f, g, h, rfl, hw, hf, hg, hh⟩ := writes_loop (some (.scr ns)) ds (k + 1) (dr ds k 11).toNat (by omega) (some (.dic (mD m))) f g h hf hg hh
  have hw10 : WOk ws 10 := ⟨hw.nd, hw.ok, by have := hw.len; omega⟩
  obtain ⟨ρ, h4, f2, rfl, hf2⟩ := copy_loop m hm12 (some (.scr ns)) (some (BX ds k2)) f h (some (.imm (.tuple (ws.map wD)))) none none g hg
  obtain ⟨ρ, h5, pr, rfl⟩ := due_loop m hm12 ws hw10 (some (.scr ns)) (some (BX ds k2)) (some (.dic (mD m))) f f2 h (some (.imm (.tuple (ws.map wD)))) none
  have hM := hm12.appA hw10.ok
  have hM2 : MOk (appA m ws) 50 := ⟨hM.nd, hM.ok, by have := hM.len; have := hw10.len; omega⟩
  have hM3 : MOk (appA m ws) 100 := ⟨hM.nd, hM.ok, by have := hM2.len; omega⟩
  have hid : appA (appA m ws) ws = appA m ws := appA_id hM.nd (getM_appA hw.nd)
  have hx := noFO_bx ds k2
  have t1 := turn_step m (appA m ws) ⟨hm.nd, hm.ok, by have := hm12.len; omega⟩ hM3 ws hw10 rfl (some (.scr ns)) (some (BX ds k2)) f f2 h pr (some (.imm (.int 0)))
  have t2 := turn_step (appA m ws) (appA m ws) hM2 hM3 ws hw10 hid (some (.scr ns)) (some (BX ds k2)) f f2 h pr (some (.imm (.int 1)))
  have r2 : rangeL 0 2 = [.int 0, .int 1] := rfl
  have hB : M.lst [LI ds, .imm (.int 0)] = BX ds 0 := rfl
  unfold m_law b_law
  simpa [ h1, hB, draw_eq, h2, h3, h4, h5, hx, hf, hf2, hh, r2, loop_cons, t1, t2, List.all_cons, List.all_nil]
  exact ⟨_, rfl⟩

structure Df (K : PySem.W.Frag) (mg : Str → Option Value) (x : Str) (st : Stmt) (ps : List Str) where
  f : Addr
  fd : FuncData
  F : Fun K x x st f fd
  b : Binds K fd ps []
  m : mg x = some (.ref f)
structure Mf (K : PySem.W.Frag) (C : Addr) (x qual : Str) (st : Stmt) (ps : List Str) where
  f : Addr
  fd : FuncData
  F : Fun K x qual st f fd
  b : Binds K fd ps []
  mt : Meth K C x f
structure Nf (K : PySem.W.Frag) (x qual : Str) (st : Stmt) (ps : List Str) where
  f : Addr
  fd : FuncData
  F : Fun K x qual st f fd
  b : Binds K fd ps []
structure Tx (K : PySem.W.Frag) (mg : Str → Option Value) (w : World) where
  d_put_value : Df K mg "put_value" s_put_value ["memory", "place", "value"]
  d_publish : Df K mg "publish" s_publish ["memory", "writes"]
  d__law_cell : Df K mg "_law_cell" s__law_cell ["script", "k"]
  d__law_digits : Df K mg "_law_digits" s__law_digits ["script", "first", "last"]
  d__law_draw : Df K mg "_law_draw" s__law_draw ["box", "many"]
  d__law_same : Df K mg "_law_same" s__law_same ["actual", "expected"]
  d__law_number : Df K mg "_law_number" s__law_number ["box"]
  d__law_text : Df K mg "_law_text" s__law_text ["box", "most"]
  d__law_value : Df K mg "_law_value" s__law_value ["box"]
  d__law_same_memory : Df K mg "_law_same_memory" s__law_same_memory ["actual", "expected"]
  d__law_place : Df K mg "_law_place" s__law_place ["box"]
  d_law : Df K mg "law" s_law ["script"]
  z_len : mg "len" = none
  z_isinstance : mg "isinstance" = none
  z_tuple : mg "tuple" = none
  z_int : mg "int" = none
  z_bool : mg "bool" = none
  z_str : mg "str" = none
  z_dict : mg "dict" = none
  z_range : mg "range" = none
  u_NONE : Value
  c_NONE : mg "NONE" = some u_NONE
  q_NONE : KLit K u_NONE k_NONE
section
variable {K : PySem.W.Frag} {mg : Str → Option Value} {w : World}
def tb (T : Tx K mg w) : Tb := ⟨fun k =>  0, fun k =>  0, fun k => false, w, fun c c' h1 h2 => by
    simp at h1⟩
end
section
variable {P : Program} {w : World} {K : PySem.W.Frag} {mg : Str → Option Value} {base : Heap}
theorem ok_put_value (T : Tx K mg w) : FnOk P w K mg base CX0 1 T.d_put_value.f T.d_put_value.fd ["memory", "place", "value"] (spX K (tb T) 3 m_put_value) := by
  exact fn_x (tb T) [0, 1, 2] T.d_put_value.F sc_put_value rfl (by decide) (fun cdv A outer s H E hr => (qss_one (qs_if (qt_c (qc_2 (op_neU hr.units) snd_ne (nomark _) (qd_e (qe_v (pv 2))) (qd_e (qe_k (by rfl) T.c_NONE T.q_NONE))))
      (qss_one (qs_putD rfl (fun _ _ _ h1 h2 h3 => ps_asg h1 (pg_sub h2 h3 (set_e hr.units))) (qd_e (qe_v (pv 2))) (pv 0) (qe_v (pv 1))))
      (qss_one (qs_if (qt_c (qc_inD rfl (op_eIn hr.units) (by rfl) (qd_e (qe_v (pv 1))) (pv 0)))
      (qss_one (qs_delD rfl hr.units (pv 0) (qe_v (pv 1))))
      qss_nil)))))
theorem ok_publish (T : Tx K mg w) : FnOk P w K mg base CX0 2 T.d_publish.f T.d_publish.fd ["memory", "writes"] (spX K (tb T) 2 m_publish) := by
  have G_put_value := ok_put_value (P := P) (w := w) (base := base) T
  exact fn_x (tb T) [0, 1] T.d_publish.F sc_publish rfl (by decide) (fun cdv A outer s H E hr => (qss_one (qs_for (fun _ _ _ h1 h2 h3 => ps_for PassesOwn.never rfl h1 h2 h3) (qi_tup (qd_e (qe_v (pv 1)))) (qg_tp (by rfl) (qgs_cons (qg_nm (pg_name (i := 2) sc_publish.nd rfl (Or.inl rfl))) (qgs_cons (qg_nm (pg_name (i := 3) sc_publish.nd rfl (Or.inl rfl))) qgs_nil)))
      (qss_one (qs_expr (qx_call (fun _ h => pe_call G_put_value (hr.mono (by omega)) (by rfl) T.d_put_value.m T.d_put_value.F.kp T.d_put_value.b .nil pass0 h) (qr_slot (pv 0) (qr_val (qd_e (qe_v (pv 2))) (qr_val (qd_e (qe_v (pv 3))) qr_nil)))))))))
theorem ok__law_cell (T : Tx K mg w) : FnOk P w K mg base CX0 1 T.d__law_cell.f T.d__law_cell.fd ["script", "k"] (spX K (tb T) 2 m__law_cell) := by
  exact fn_x (tb T) [0, 1] T.d__law_cell.F sc__law_cell rfl (by decide) (fun cdv A outer s H E hr => (qss_cons (qs_if (qt_c (qc_2 op_ltU snd_lt (nomark _) (qd_e (qe_v (pv 1))) (qd_e (qe_lenP (qp_v (pv 0)) (by rfl) T.z_len))))
      (qss_one (qs_retD (qd_e (qe_ix (qp_v (pv 0)) (qe_v (pv 1)) (fun _ _ => rfl)))))
      qss_nil)
    (qss_one (qs_retD (qd_e qe_int)))))
theorem ok__law_digits (T : Tx K mg w) : FnOk P w K mg base CX0 2 T.d__law_digits.f T.d__law_digits.fd ["script", "first", "last"] (spX K (tb T) 3 m__law_digits) := by
  have G__law_cell := ok__law_cell (P := P) (w := w) (base := base) T
  exact fn_x (tb T) [0, 1, 2] T.d__law_digits.F sc__law_digits rfl (by decide) (fun cdv A outer s H E hr => (qss_cons (qs_set (fun _ h => ps_set (i := 3) sc__law_digits.nd rfl (Or.inl rfl) h) (qx_lst qr_nil))
    (qss_cons (qs_for (fun _ _ _ h1 h2 h3 => ps_for PassesOwn.never rfl h1 h2 h3) (qi_range2 (qd_e (qe_v (pv 1))) (qd_e (qe_v (pv 2))) (by rfl) T.z_range) (qg_nm (pg_name (i := 4) sc__law_digits.nd rfl (Or.inl rfl)))
      (qss_cons (qs_setD (fun _ h => ps_set (i := 5) sc__law_digits.nd rfl (Or.inl rfl) h) (qd_x (qx_call (fun _ h => pe_call G__law_cell (hr.mono (by omega)) (by rfl) T.d__law_cell.m T.d__law_cell.F.kp T.d__law_cell.b .nil pass0 h) (qr_slot (pv 0) (qr_val (qd_e (qe_v (pv 4))) qr_nil)))))
    (qss_cons (qs_if (qt_c (qc_2 op_ltU snd_lt (nomark _) (qd_e (qe_v (pv 5))) (qd_e qe_int)))
      (qss_one (qs_setD (fun _ h => ps_set (i := 5) sc__law_digits.nd rfl (Or.inl rfl) h) (qd_e (qe_2 snd_sub (fun _ _ h1 h2 => pe_op op_sub h1 h2) qe_int (qe_2 snd_mul (fun _ _ h1 h2 => pe_op op_mulU h1 h2) qe_int (qe_v (pv 5)))))))
      qss_nil)
    (qss_one (qs_if (qt_c (qc_2 op_ge snd_ge (nomark _) (qd_e (qe_v (pv 5))) (qd_e (qe_2 snd_pow (fun _ _ h1 h2 => pe_op op_pow h1 h2) qe_int qe_int))))
      (qss_one (qs_for (fun _ _ _ h1 h2 h3 => ps_for PassesOwn.never rfl h1 h2 h3) (qi_range1 (qd_e qe_int) (by rfl) T.z_range) (qg_nm (pg_name (i := 6) sc__law_digits.nd rfl (Or.inl rfl)))
      (qss_one (qs_if (qt_c (qc_2 op_gt snd_gt (nomark _) (qd_e (qe_v (pv 5))) (qd_e qe_int)))
      (qss_cons (qs_expr (qx_app (pv 3) (qx_d (qd_e (qe_2 snd_mod (fun _ _ h1 h2 => pe_op op_modN h1 h2) (qe_n snd_int (fun _ h => pe_callTy call_intU (by rfl) T.z_int (by decide +kernel) h) (qae_cons (qe_v (pv 5)) qae_nil)) qe_int))) (mk := fun _ h => pe_bm PySem.F.plainAttrs_list PySem.F.slot_list_append PySem.F.type_list_append mt_append (pv 3) h)))
    (qss_one (qs_setD (fun _ h => ps_set (i := 5) sc__law_digits.nd rfl (Or.inl rfl) h) (qd_e (qe_2 snd_div (fun _ _ h1 h2 => pe_op op_fdivG h1 h2) (qe_v (pv 5)) qe_int)))))
      qss_nil))))
      (qss_cons (qs_setD (fun _ h => ps_set (i := 7) sc__law_digits.nd rfl (Or.inl rfl) h) (qd_e (qe_2 snd_mod (fun _ _ h1 h2 => pe_op op_modN h1 h2) (qe_n snd_int (fun _ h => pe_callTy call_intU (by rfl) T.z_int (by decide +kernel) h) (qae_cons (qe_2 snd_add (fun _ _ h1 h2 => pe_op op_addU h1 h2) (qe_2 snd_add (fun _ _ h1 h2 => pe_op op_addU h1 h2) (qe_2 snd_mul (fun _ _ h1 h2 => pe_op op_mulU h1 h2) (qe_v (pv 5)) qe_int) (qe_2 snd_mul (fun _ _ h1 h2 => pe_op op_mulU h1 h2) (qe_v (pv 4)) qe_int)) qe_int) qae_nil)) qe_int)))
    (qss_one (qs_for (fun _ _ _ h1 h2 h3 => ps_for PassesOwn.never rfl h1 h2 h3) (qi_range1 (qd_e qe_int) (by rfl) T.z_range) (qg_nm (pg_name (i := 6) sc__law_digits.nd rfl (Or.inl rfl)))
      (qss_cons (qs_setD (fun _ h => ps_set (i := 7) sc__law_digits.nd rfl (Or.inl rfl) h) (qd_e (qe_2 snd_mod (fun _ _ h1 h2 => pe_op op_modN h1 h2) (qe_n snd_int (fun _ h => pe_callTy call_intU (by rfl) T.z_int (by decide +kernel) h) (qae_cons (qe_2 snd_add (fun _ _ h1 h2 => pe_op op_addU h1 h2) (qe_2 snd_add (fun _ _ h1 h2 => pe_op op_addU h1 h2) (qe_2 snd_mul (fun _ _ h1 h2 => pe_op op_mulU h1 h2) (qe_v (pv 7)) qe_int) (qe_2 snd_mul (fun _ _ h1 h2 => pe_op op_mulU h1 h2) qe_int (qe_v (pv 6)))) qe_int) qae_nil)) qe_int)))
    (qss_one (qs_expr (qx_app (pv 3) (qx_d (qd_e (qe_2 snd_mod (fun _ _ h1 h2 => pe_op op_modN h1 h2) (qe_n snd_int (fun _ h => pe_callTy call_intU (by rfl) T.z_int (by decide +kernel) h) (qae_cons (qe_2 snd_div (fun _ _ h1 h2 => pe_op op_fdivG h1 h2) (qe_v (pv 7)) qe_int) qae_nil)) qe_int))) (mk := fun _ h => pe_bm PySem.F.plainAttrs_list PySem.F.slot_list_append PySem.F.type_list_append mt_append (pv 3) h)))))))))))))
    (qss_one (qs_retV (pv 3))))))
theorem ok__law_draw (T : Tx K mg w) : FnOk P w K mg base CX0 1 T.d__law_draw.f T.d__law_draw.fd ["box", "many"] (spX K (tb T) 2 m__law_draw) := by
  exact fn_x (tb T) [0, 1] T.d__law_draw.F sc__law_draw rfl (by decide) (fun cdv A outer s H E hr => (qss_cons (qs_setD (fun _ h => ps_set (i := 2) sc__law_draw.nd rfl (Or.inl rfl) h) (qd_e (qe_p (qp_ix (qp_v (pv 0))))))
    (qss_cons (qs_idx (fun _ _ _ h1 h2 h3 => ps_asg h1 (pg_sub h2 h3 set_list)) (qd_e (qe_2 snd_add (fun _ _ h1 h2 => pe_op op_addU h1 h2) (qe_v (pv 2)) qe_int)) (pv 0) qe_int)
    (qss_cons (qs_if (qt_c (qc_2 op_ltU snd_lt (nomark _) (qd_e (qe_v (pv 2))) (qd_e (qe_lenP (qp_ix (qp_v (pv 0))) (by rfl) T.z_len))))
      (qss_one (qs_retD (qd_e (qe_2 snd_mod (fun _ _ h1 h2 => pe_op op_modN h1 h2) (qe_n snd_int (fun _ h => pe_callTy call_intU (by rfl) T.z_int (by decide +kernel) h) (qae_cons (qe_ix (qp_ix (qp_v (pv 0))) (qe_v (pv 2)) (fun _ _ => rfl)) qae_nil)) (qe_v (pv 1))))))
      qss_nil)
    (qss_one (qs_retD (qd_e qe_int)))))))
theorem okr__law_same (T : Tx K mg w) : ∀ n : Nat, FnOk P w K mg base CX0 (0 + (n)) T.d__law_same.f T.d__law_same.fd ["actual", "expected"] (spD K 2 (m__law_same (n)))
  | 0 => fn_none_d
  | n + 1 => by
    have G__law_same := okr__law_same T n
    exact fn_d (k := 0 + n) (tb T) T.d__law_same.F sc__law_same rfl (fun cdv A outer s H E hr => (qss_cons (qs_if (qt_truth (qx_d (qd_isi isT_tuple (qd_e (qe_v (pv 1))) (pe_bltn (v := V.ty "tuple") (by rfl) T.z_tuple (by decide +kernel) rfl) (by rfl) T.z_isinstance)))
      (qss_cons (qs_if (qw_t (qw_or (qt_not (qt_truth (qx_d (qd_isi isT_tuple (qd_e (qe_v (pv 0))) (pe_bltn (v := V.ty "tuple") (by rfl) T.z_tuple (by decide +kernel) rfl) (by rfl) T.z_isinstance)))) (qw_or1 (qt_c (qc_2 (op_neU hr.units) snd_ne (nomark _) (qd_e (qe_lenP (qp_v (pv 0)) (by rfl) T.z_len)) (qd_e (qe_lenP (qp_v (pv 1)) (by rfl) T.z_len)))))))
      (qss_one (qs_retD (qd_e qe_bl)))
      qss_nil)
    (qss_cons (qs_for (fun _ _ _ h1 h2 h3 => ps_for PassesOwn.never rfl h1 h2 h3) (qi_range1 (qd_e (qe_lenP (qp_v (pv 1)) (by rfl) T.z_len)) (by rfl) T.z_range) (qg_nm (pg_name (i := 2) sc__law_same.nd rfl (Or.inl rfl)))
      (qss_one (qs_if (qt_not (qt_truth (qx_d (qd_e (qe_call (fun _ h => pe_call G__law_same (hr.mono (by omega)) (by rfl) T.d__law_same.m T.d__law_same.F.kp T.d__law_same.b .nil pass0 h) (qae_cons (qe_ix (qp_v (pv 0)) (qe_v (pv 2)) (fun _ _ => rfl)) (qae_cons (qe_ix (qp_v (pv 1)) (qe_v (pv 2)) (fun _ _ => rfl)) qae_nil)))))))
      (qss_one (qs_retD (qd_e qe_bl)))
      qss_nil)))
    (qss_one (qs_retD (qd_e qe_bl)))))
      qss_nil)
    (qss_cons (qs_if (qt_c (qc_2 op_isN snd_is (nomark _) (qd_e (qe_v (pv 1))) (qd_e qe_non)))
      (qss_one (qs_retD (qd_c (qc_2 op_isN snd_is (nomark _) (qd_e (qe_v (pv 0))) (qd_e qe_non)))))
      qss_nil)
    (qss_cons (qs_if (qt_truth (qx_d (qd_isi isT_bool (qd_e (qe_v (pv 1))) (pe_bltn (v := V.ty "bool") (by rfl) T.z_bool (by decide +kernel) rfl) (by rfl) T.z_isinstance)))
      (qss_one (qs_retD (qd_and (qd_isi isT_bool (qd_e (qe_v (pv 0))) (pe_bltn (v := V.ty "bool") (by rfl) T.z_bool (by decide +kernel) rfl) (by rfl) T.z_isinstance) (qd_one (qd_c (qc_2 (op_eqU hr.units) snd_eq (nomark _) (qd_e (qe_v (pv 0))) (qd_e (qe_v (pv 1)))))))))
      qss_nil)
    (qss_cons (qs_if (qt_truth (qx_d (qd_isi isT_int (qd_e (qe_v (pv 1))) (pe_bltn (v := V.ty "int") (by rfl) T.z_int (by decide +kernel) rfl) (by rfl) T.z_isinstance)))
      (qss_one (qs_retD (qd_and (qd_isi isT_int (qd_e (qe_v (pv 0))) (pe_bltn (v := V.ty "int") (by rfl) T.z_int (by decide +kernel) rfl) (by rfl) T.z_isinstance) (qd_and (qd_not (qd_isi isT_bool (qd_e (qe_v (pv 0))) (pe_bltn (v := V.ty "bool") (by rfl) T.z_bool (by decide +kernel) rfl) (by rfl) T.z_isinstance)) (qd_one (qd_c (qc_2 (op_eqU hr.units) snd_eq (nomark _) (qd_e (qe_v (pv 0))) (qd_e (qe_v (pv 1))))))))))
      qss_nil)
    (qss_one (qs_retD (qd_and (qd_isi isT_str (qd_e (qe_v (pv 0))) (pe_bltn (v := V.ty "str") (by rfl) T.z_str (by decide +kernel) rfl) (by rfl) T.z_isinstance) (qd_one (qd_c (qc_2 (op_eqU hr.units) snd_eq (nomark _) (qd_e (qe_v (pv 0))) (qd_e (qe_v (pv 1))))))))))))))
theorem ok__law_same (T : Tx K mg w) (n : Nat) : FnOk P w K mg base CX0 (0 + (n)) T.d__law_same.f T.d__law_same.fd ["actual", "expected"] (spD K 2 (m__law_same (n))) := okr__law_same T n
theorem ok__law_number (T : Tx K mg w) : FnOk P w K mg base CX0 2 T.d__law_number.f T.d__law_number.fd ["box"] (spX K (tb T) 1 m__law_number) := by
  have G__law_draw := ok__law_draw (P := P) (w := w) (base := base) T
  exact fn_x (tb T) [0] T.d__law_number.F sc__law_number rfl (by decide) (fun cdv A outer s H E hr => (qss_cons (qs_setD (fun _ h => ps_set (i := 1) sc__law_number.nd rfl (Or.inl rfl) h) (qd_x (qx_call (fun _ h => pe_call G__law_draw (hr.mono (by omega)) (by rfl) T.d__law_draw.m T.d__law_draw.F.kp T.d__law_draw.b .nil pass0 h) (qr_slot (pv 0) (qr_val (qd_e qe_int) qr_nil)))))
    (qss_cons (qs_setD (fun _ h => ps_set (i := 2) sc__law_number.nd rfl (Or.inl rfl) h) (qd_x (qx_call (fun _ h => pe_call G__law_draw (hr.mono (by omega)) (by rfl) T.d__law_draw.m T.d__law_draw.F.kp T.d__law_draw.b .nil pass0 h) (qr_slot (pv 0) (qr_val (qd_e qe_int) qr_nil)))))
    (qss_cons (qs_if (qt_c (qc_2 (op_eqU hr.units) snd_eq (nomark _) (qd_e (qe_v (pv 1))) (qd_e qe_int)))
      (qss_one (qs_retD (qd_e (qe_2 snd_sub (fun _ _ h1 h2 => pe_op op_sub h1 h2) (qe_2 snd_sub (fun _ _ h1 h2 => pe_op op_sub h1 h2) (qe_2 snd_pow (fun _ _ h1 h2 => pe_op op_pow h1 h2) qe_int qe_int) qe_int) (qe_2 snd_mod (fun _ _ h1 h2 => pe_op op_modN h1 h2) (qe_v (pv 2)) qe_int)))))
      qss_nil)
    (qss_cons (qs_if (qt_c (qc_2 (op_eqU hr.units) snd_eq (nomark _) (qd_e (qe_v (pv 1))) (qd_e qe_int)))
      (qss_one (qs_retD (qd_e (qe_2 snd_sub (fun _ _ h1 h2 => pe_op op_sub h1 h2) (qe_2 snd_add (fun _ _ h1 h2 => pe_op op_addU h1 h2) (qe_2 snd_mod (fun _ _ h1 h2 => pe_op op_modN h1 h2) (qe_v (pv 2)) qe_int) qe_int) (qe_2 snd_pow (fun _ _ h1 h2 => pe_op op_pow h1 h2) qe_int qe_int)))))
      qss_nil)
    (qss_cons (qs_if (qt_c (qc_2 (op_eqU hr.units) snd_eq (nomark _) (qd_e (qe_v (pv 1))) (qd_e qe_int)))
      (qss_one (qs_retD (qd_2 snd_add (fun _ _ h1 h2 => pe_op op_addU h1 h2) (qd_2 snd_add (fun _ _ h1 h2 => pe_op op_addU h1 h2) (qd_e (qe_2 snd_mul (fun _ _ h1 h2 => pe_op op_mulU h1 h2) (qe_v (pv 2)) (qe_2 snd_pow (fun _ _ h1 h2 => pe_op op_pow h1 h2) qe_int qe_int))) (qd_2 snd_mul (fun _ _ h1 h2 => pe_op op_mulU h1 h2) (qd_x (qx_call (fun _ h => pe_call G__law_draw (hr.mono (by omega)) (by rfl) T.d__law_draw.m T.d__law_draw.F.kp T.d__law_draw.b .nil pass0 h) (qr_slot (pv 0) (qr_val (qd_e qe_int) qr_nil)))) (qd_e (qe_2 snd_pow (fun _ _ h1 h2 => pe_op op_pow h1 h2) qe_int qe_int)))) (qd_x (qx_call (fun _ h => pe_call G__law_draw (hr.mono (by omega)) (by rfl) T.d__law_draw.m T.d__law_draw.F.kp T.d__law_draw.b .nil pass0 h) (qr_slot (pv 0) (qr_val (qd_e qe_int) qr_nil)))))))
      qss_nil)
    (qss_cons (qs_if (qt_c (qc_2 (op_eqU hr.units) snd_eq (nomark _) (qd_e (qe_v (pv 1))) (qd_e qe_int)))
      (qss_one (qs_retD (qd_2 snd_sub (fun _ _ h1 h2 => pe_op op_sub h1 h2) (qd_e (qe_2 snd_sub (fun _ _ h1 h2 => pe_op op_sub h1 h2) qe_int (qe_2 snd_mul (fun _ _ h1 h2 => pe_op op_mulU h1 h2) (qe_v (pv 2)) (qe_2 snd_pow (fun _ _ h1 h2 => pe_op op_pow h1 h2) qe_int qe_int)))) (qd_x (qx_call (fun _ h => pe_call G__law_draw (hr.mono (by omega)) (by rfl) T.d__law_draw.m T.d__law_draw.F.kp T.d__law_draw.b .nil pass0 h) (qr_slot (pv 0) (qr_val (qd_e qe_int) qr_nil)))))))
      qss_nil)
    (qss_cons (qs_if (qt_c (qc_2 (op_eqU hr.units) snd_eq (nomark _) (qd_e (qe_v (pv 1))) (qd_e qe_int)))
      (qss_one (qs_retD (qd_e (qe_2 snd_sub (fun _ _ h1 h2 => pe_op op_sub h1 h2) qe_int (qe_v (pv 2))))))
      qss_nil)
    (qss_cons (qs_if (qt_c (qc_2 (op_eqU hr.units) snd_eq (nomark _) (qd_e (qe_v (pv 1))) (qd_e qe_int)))
      (qss_one (qs_retD (qd_e (qe_2 snd_mod (fun _ _ h1 h2 => pe_op op_modN h1 h2) (qe_v (pv 2)) qe_int))))
      qss_nil)
    (qss_one (qs_retD (qd_e (qe_v (pv 2))))))))))))))
theorem ok__law_text (T : Tx K mg w) : FnOk P w K mg base CX0 2 T.d__law_text.f T.d__law_text.fd ["box", "most"] (spX K (tb T) 2 m__law_text) := by
  have G__law_draw := ok__law_draw (P := P) (w := w) (base := base) T
  exact fn_x (tb T) [0, 1] T.d__law_text.F sc__law_text rfl (by decide) (fun cdv A outer s H E hr => (qss_cons (qs_setD (fun _ h => ps_set (i := 2) sc__law_text.nd rfl (Or.inl rfl) h) (qd_e qe_str))
    (qss_cons (qs_setD (fun _ h => ps_set (i := 2) sc__law_text.nd rfl (Or.inl rfl) h) (qd_e (qe_2 snd_add (fun _ _ h1 h2 => pe_op op_addU h1 h2) (qe_v (pv 2)) qe_str)))
    (qss_cons (qs_setD (fun _ h => ps_set (i := 3) sc__law_text.nd rfl (Or.inl rfl) h) (qd_e qe_str))
    (qss_cons (qs_if (qt_c (qc_2 (op_eqU hr.units) snd_eq (nomark _) (qd_x (qx_call (fun _ h => pe_call G__law_draw (hr.mono (by omega)) (by rfl) T.d__law_draw.m T.d__law_draw.F.kp T.d__law_draw.b .nil pass0 h) (qr_slot (pv 0) (qr_val (qd_e qe_int) qr_nil)))) (qd_e qe_int)))
      (qss_one (qs_setD (fun _ h => ps_set (i := 3) sc__law_text.nd rfl (Or.inl rfl) h) (qd_2 snd_mul (fun _ _ h1 h2 => pe_op op_mulU h1 h2) (qd_ixV (pv 2) (qd_x (qx_call (fun _ h => pe_call G__law_draw (hr.mono (by omega)) (by rfl) T.d__law_draw.m T.d__law_draw.F.kp T.d__law_draw.b .nil pass0 h) (qr_slot (pv 0) (qr_val (qd_e qe_int) qr_nil)))) (fun _ _ => rfl)) (qd_x (qx_call (fun _ h => pe_call G__law_draw (hr.mono (by omega)) (by rfl) T.d__law_draw.m T.d__law_draw.F.kp T.d__law_draw.b .nil pass0 h) (qr_slot (pv 0) (qr_val (qd_e (qe_2 snd_add (fun _ _ h1 h2 => pe_op op_addU h1 h2) (qe_v (pv 1)) qe_int)) qr_nil)))))))
      qss_nil)
    (qss_cons (qs_for (fun _ _ _ h1 h2 h3 => ps_for PassesOwn.never rfl h1 h2 h3) (qi_range1 (qd_x (qx_call (fun _ h => pe_call G__law_draw (hr.mono (by omega)) (by rfl) T.d__law_draw.m T.d__law_draw.F.kp T.d__law_draw.b .nil pass0 h) (qr_slot (pv 0) (qr_val (qd_e qe_int) qr_nil)))) (by rfl) T.z_range) (qg_nm (pg_name (i := 4) sc__law_text.nd rfl (Or.inl rfl)))
      (qss_one (qs_if (qt_c (qc_2 op_ltU snd_lt (nomark _) (qd_e (qe_lenP (qp_v (pv 3)) (by rfl) T.z_len)) (qd_e (qe_v (pv 1)))))
      (qss_one (qs_setD (fun _ h => ps_set (i := 3) sc__law_text.nd rfl (Or.inl rfl) h) (qd_2 snd_add (fun _ _ h1 h2 => pe_op op_addU h1 h2) (qd_e (qe_v (pv 3))) (qd_ixV (pv 2) (qd_x (qx_call (fun _ h => pe_call G__law_draw (hr.mono (by omega)) (by rfl) T.d__law_draw.m T.d__law_draw.F.kp T.d__law_draw.b .nil pass0 h) (qr_slot (pv 0) (qr_val (qd_e qe_int) qr_nil)))) (fun _ _ => rfl)))))
      qss_nil)))
    (qss_one (qs_retD (qd_e (qe_v (pv 3)))))))))))
theorem ok__law_value (T : Tx K mg w) : FnOk P w K mg base CX0 3 T.d__law_value.f T.d__law_value.fd ["box"] (spX K (tb T) 1 m__law_value) := by
  have G__law_draw := ok__law_draw (P := P) (w := w) (base := base) T
  have G__law_number := ok__law_number (P := P) (w := w) (base := base) T
  have G__law_text := ok__law_text (P := P) (w := w) (base := base) T
  exact fn_x (tb T) [0] T.d__law_value.F sc__law_value rfl (by decide) (fun cdv A outer s H E hr => (qss_cons (qs_setD (fun _ h => ps_set (i := 1) sc__law_value.nd rfl (Or.inl rfl) h) (qd_x (qx_call (fun _ h => pe_call G__law_draw (hr.mono (by omega)) (by rfl) T.d__law_draw.m T.d__law_draw.F.kp T.d__law_draw.b .nil pass0 h) (qr_slot (pv 0) (qr_val (qd_e qe_int) qr_nil)))))
    (qss_cons (qs_if (qt_c (qc_2 (op_eqU hr.units) snd_eq (nomark _) (qd_e (qe_v (pv 1))) (qd_e qe_int)))
      (qss_one (qs_retD (qd_e (qe_tup (qae_cons qe_str qae_nil)))))
      qss_nil)
    (qss_cons (qs_if (qt_c (qc_2 (op_eqU hr.units) snd_eq (nomark _) (qd_e (qe_v (pv 1))) (qd_e qe_int)))
      (qss_one (qs_retD (qd_tup (qa_cons (qd_e qe_str) (qa_cons (qd_c (qc_2 (op_eqU hr.units) snd_eq (nomark _) (qd_x (qx_call (fun _ h => pe_call G__law_draw (hr.mono (by omega)) (by rfl) T.d__law_draw.m T.d__law_draw.F.kp T.d__law_draw.b .nil pass0 h) (qr_slot (pv 0) (qr_val (qd_e qe_int) qr_nil)))) (qd_e qe_int))) qa_nil)))))
      qss_nil)
    (qss_cons (qs_if (qt_c (qc_2 (op_eqU hr.units) snd_eq (nomark _) (qd_e (qe_v (pv 1))) (qd_e qe_int)))
      (qss_one (qs_retD (qd_tup (qa_cons (qd_e qe_str) (qa_cons (qd_x (qx_call (fun _ h => pe_call G__law_text (hr.mono (by omega)) (by rfl) T.d__law_text.m T.d__law_text.F.kp T.d__law_text.b .nil pass0 h) (qr_slot (pv 0) (qr_val (qd_e qe_int) qr_nil)))) qa_nil)))))
      qss_nil)
    (qss_cons (qs_if (qt_c (qc_2 (op_eqU hr.units) snd_eq (nomark _) (qd_e (qe_v (pv 1))) (qd_e qe_int)))
      (qss_cons (qs_setD (fun _ h => ps_set (i := 2) sc__law_value.nd rfl (Or.inl rfl) h) (qd_e (qe_tup qae_nil)))
    (qss_cons (qs_for (fun _ _ _ h1 h2 h3 => ps_for PassesOwn.never rfl h1 h2 h3) (qi_range1 (qd_x (qx_call (fun _ h => pe_call G__law_draw (hr.mono (by omega)) (by rfl) T.d__law_draw.m T.d__law_draw.F.kp T.d__law_draw.b .nil pass0 h) (qr_slot (pv 0) (qr_val (qd_e qe_int) qr_nil)))) (by rfl) T.z_range) (qg_nm (pg_name (i := 3) sc__law_value.nd rfl (Or.inl rfl)))
      (qss_one (qs_setD (fun _ h => ps_set (i := 2) sc__law_value.nd rfl (Or.inl rfl) h) (qd_2 snd_add (fun _ _ h1 h2 => pe_op op_addU h1 h2) (qd_e (qe_v (pv 2))) (qd_tup (qa_cons (qd_x (qx_call (fun _ h => pe_call G__law_draw (hr.mono (by omega)) (by rfl) T.d__law_draw.m T.d__law_draw.F.kp T.d__law_draw.b .nil pass0 h) (qr_slot (pv 0) (qr_val (qd_e qe_int) qr_nil)))) qa_nil))))))
    (qss_one (qs_retD (qd_tup (qa_cons (qd_e qe_str) (qa_cons (qd_e (qe_v (pv 2))) (qa_cons (qd_x (qx_call (fun _ h => pe_call G__law_draw (hr.mono (by omega)) (by rfl) T.d__law_draw.m T.d__law_draw.F.kp T.d__law_draw.b .nil pass0 h) (qr_slot (pv 0) (qr_val (qd_e qe_int) qr_nil)))) qa_nil))))))))
      qss_nil)
    (qss_one (qs_retD (qd_tup (qa_cons (qd_e qe_str) (qa_cons (qd_x (qx_call (fun _ h => pe_call G__law_number (hr.mono (by omega)) (by rfl) T.d__law_number.m T.d__law_number.F.kp T.d__law_number.b .nil pass0 h) (qr_slot (pv 0) qr_nil))) qa_nil)))))))))))
theorem ok__law_same_memory (T : Tx K mg w) : FnOk P w K mg base CX0 10 T.d__law_same_memory.f T.d__law_same_memory.fd ["actual", "expected"] (spX K (tb T) 2 m__law_same_memory) := by
  have G__law_same := (ok__law_same (P := P) (w := w) (base := base) T 9)
  exact fn_x (tb T) [0, 1] T.d__law_same_memory.F sc__law_same_memory rfl (by decide) (fun cdv A outer s H E hr => (qss_cons (qs_if (qw_t (qw_or (qt_not (qt_truth (qx_d (qd_e (qe_isD rfl (pv 0) (pe_bltn (v := V.ty "dict") (by rfl) T.z_dict (by decide +kernel) rfl) (by rfl) T.z_isinstance))))) (qw_or1 (qt_c (qc_2 (op_neU hr.units) snd_ne (nomark _) (qd_e (qe_lenD rfl (pv 0) (by rfl) T.z_len)) (qd_e (qe_lenD rfl (pv 1) (by rfl) T.z_len)))))))
      (qss_one (qs_retD (qd_e qe_bl)))
      qss_nil)
    (qss_cons (qs_lock (i := 1) (qs_for (fun _ _ _ h1 h2 h3 => ps_for PassesOwn.never rfl h1 h2 h3) (qi_fdic rfl (pv 1)) (qg_nm (pg_name (i := 2) sc__law_same_memory.nd rfl (Or.inl rfl)))
      (qss_one (qs_if (qw_t (qw_or (qt_c (qc_inD rfl (op_eNotIn hr.units) (by rfl) (qd_e (qe_v (pv 2))) (pv 0))) (qw_or1 (qt_not (qt_truth (qx_d (qd_e (qe_call (fun _ h => pe_call G__law_same (hr.mono (by omega)) (by rfl) T.d__law_same.m T.d__law_same.F.kp T.d__law_same.b .nil pass0 h) (qae_cons (qe_ixD rfl hr.units (pv 0) (qe_v (pv 2)) (fun _ _ => rfl)) (qae_cons (qe_ixD rfl hr.units (pv 1) (qe_v (pv 2)) (fun _ _ => rfl)) qae_nil))))))))))
      (qss_one (qs_retD (qd_e qe_bl)))
      qss_nil))))
    (qss_one (qs_retD (qd_e qe_bl))))))
theorem ok__law_place (T : Tx K mg w) : FnOk P w K mg base CX0 2 T.d__law_place.f T.d__law_place.fd ["box"] (spX K (tb T) 1 m__law_place) := by
  have G__law_draw := ok__law_draw (P := P) (w := w) (base := base) T
  exact fn_x (tb T) [0] T.d__law_place.F sc__law_place rfl (by decide) (fun cdv A outer s H E hr => (qss_cons (qs_setD (fun _ h => ps_set (i := 1) sc__law_place.nd rfl (Or.inl rfl) h) (qd_e (qe_tup qae_nil)))
    (qss_cons (qs_for (fun _ _ _ h1 h2 h3 => ps_for PassesOwn.never rfl h1 h2 h3) (qi_range1 (qd_x (qx_call (fun _ h => pe_call G__law_draw (hr.mono (by omega)) (by rfl) T.d__law_draw.m T.d__law_draw.F.kp T.d__law_draw.b .nil pass0 h) (qr_slot (pv 0) (qr_val (qd_e qe_int) qr_nil)))) (by rfl) T.z_range) (qg_nm (pg_name (i := 2) sc__law_place.nd rfl (Or.inl rfl)))
      (qss_one (qs_setD (fun _ h => ps_set (i := 1) sc__law_place.nd rfl (Or.inl rfl) h) (qd_2 snd_add (fun _ _ h1 h2 => pe_op op_addU h1 h2) (qd_e (qe_v (pv 1))) (qd_tup (qa_cons (qd_x (qx_call (fun _ h => pe_call G__law_draw (hr.mono (by omega)) (by rfl) T.d__law_draw.m T.d__law_draw.F.kp T.d__law_draw.b .nil pass0 h) (qr_slot (pv 0) (qr_val (qd_e qe_int) qr_nil)))) qa_nil))))))
    (qss_one (qs_retD (qd_tup (qa_cons (qd_e (qe_v (pv 1))) (qa_cons (qd_x (qx_call (fun _ h => pe_call G__law_draw (hr.mono (by omega)) (by rfl) T.d__law_draw.m T.d__law_draw.F.kp T.d__law_draw.b .nil pass0 h) (qr_slot (pv 0) (qr_val (qd_e qe_int) qr_nil)))) (qa_cons (qd_x (qx_call (fun _ h => pe_call G__law_draw (hr.mono (by omega)) (by rfl) T.d__law_draw.m T.d__law_draw.F.kp T.d__law_draw.b .nil pass0 h) (qr_slot (pv 0) (qr_val (qd_e qe_int) qr_nil)))) qa_nil)))))))))
theorem ok_law (T : Tx K mg w) : FnOk P w K mg base CX0 11 T.d_law.f T.d_law.fd ["script"] (spX K (tb T) 1 m_law) := by
  have G__law_digits := ok__law_digits (P := P) (w := w) (base := base) T
  have G__law_draw := ok__law_draw (P := P) (w := w) (base := base) T
  have G__law_place := ok__law_place (P := P) (w := w) (base := base) T
  have G__law_value := ok__law_value (P := P) (w := w) (base := base) T
  have G_publish := ok_publish (P := P) (w := w) (base := base) T
  have G__law_same_memory := ok__law_same_memory (P := P) (w := w) (base := base) T
  exact fn_x (tb T) [0] T.d_law.F sc_law rfl (by decide) (fun cdv A outer s H E hr => (qss_cons (qs_set (fun _ h => ps_set (i := 1) sc_law.nd rfl (Or.inl rfl) h) (qx_lst (qr_own (qx_call (fun _ h => pe_call G__law_digits (hr.mono (by omega)) (by rfl) T.d__law_digits.m T.d__law_digits.F.kp T.d__law_digits.b .nil pass0 h) (qr_slot (pv 0) (qr_val (qd_e qe_int) (qr_val (qd_e qe_int) qr_nil)))) (qr_val (qd_e qe_int) qr_nil))))
    (qss_cons (qs_set (fun _ h => ps_set (i := 2) sc_law.nd rfl (Or.inl rfl) h) (qx_dnew rfl))
    (qss_cons (qs_for (fun _ _ _ h1 h2 h3 => ps_for PassesOwn.never rfl h1 h2 h3) (qi_range1 (qd_x (qx_call (fun _ h => pe_call G__law_draw (hr.mono (by omega)) (by rfl) T.d__law_draw.m T.d__law_draw.F.kp T.d__law_draw.b .nil pass0 h) (qr_slot (pv 1) (qr_val (qd_e qe_int) qr_nil)))) (by rfl) T.z_range) (qg_nm (pg_name (i := 3) sc_law.nd rfl (Or.inl rfl)))
      (qss_cons (qs_setD (fun _ h => ps_set (i := 4) sc_law.nd rfl (Or.inl rfl) h) (qd_x (qx_call (fun _ h => pe_call G__law_place (hr.mono (by omega)) (by rfl) T.d__law_place.m T.d__law_place.F.kp T.d__law_place.b .nil pass0 h) (qr_slot (pv 1) qr_nil))))
    (qss_cons (qs_setD (fun _ h => ps_set (i := 5) sc_law.nd rfl (Or.inl rfl) h) (qd_x (qx_call (fun _ h => pe_call G__law_value (hr.mono (by omega)) (by rfl) T.d__law_value.m T.d__law_value.F.kp T.d__law_value.b .nil pass0 h) (qr_slot (pv 1) qr_nil))))
    (qss_one (qs_if (qt_c (qc_2 (op_neU hr.units) snd_ne (nomark _) (qd_e (qe_p (qp_ix (qp_v (pv 5))))) (qd_e qe_str)))
      (qss_one (qs_putD rfl (fun _ _ _ h1 h2 h3 => ps_asg h1 (pg_sub h2 h3 (set_e hr.units))) (qd_e (qe_v (pv 5))) (pv 2) (qe_v (pv 4))))
      qss_nil)))))
    (qss_cons (qs_setD (fun _ h => ps_set (i := 6) sc_law.nd rfl (Or.inl rfl) h) (qd_e (qe_tup qae_nil)))
    (qss_cons (qs_for (fun _ _ _ h1 h2 h3 => ps_for PassesOwn.never rfl h1 h2 h3) (qi_range1 (qd_x (qx_call (fun _ h => pe_call G__law_draw (hr.mono (by omega)) (by rfl) T.d__law_draw.m T.d__law_draw.F.kp T.d__law_draw.b .nil pass0 h) (qr_slot (pv 1) (qr_val (qd_e qe_int) qr_nil)))) (by rfl) T.z_range) (qg_nm (pg_name (i := 3) sc_law.nd rfl (Or.inl rfl)))
      (qss_cons (qs_setD (fun _ h => ps_set (i := 4) sc_law.nd rfl (Or.inl rfl) h) (qd_x (qx_call (fun _ h => pe_call G__law_place (hr.mono (by omega)) (by rfl) T.d__law_place.m T.d__law_place.F.kp T.d__law_place.b .nil pass0 h) (qr_slot (pv 1) qr_nil))))
    (qss_one (qs_if (qt_c (qc_inN (op_notInDN (room65 hr)) (by rfl) (qd_e (qe_v (pv 4))) (qx_lc (L := 10) (S := [0, 1, 2, 3, 4, 5, 6, 8, 9]) (own := [("pair", 7)]) rfl sc_law.nd (qi_tup (qd_e (qe_v (pv 6)))) (blkOk_by (N := ["script", "box", "memory", "k", "place", "value", "writes", "pair", "due", "turn"]) (sc := defScope s_law) (by decide +kernel)) (by decide) (fun _ _ _ _ _ => (qg_nm (pg_name (i := 7) sc_law.nd rfl (Or.inl rfl)))) (fun _ _ _ _ _ => qts_nil) (fun _ _ _ _ _ => (qx_d (qd_e (qe_p (qp_ix (qp_v (pv 7))))))))))
      (qss_one (qs_setD (fun _ h => ps_set (i := 6) sc_law.nd rfl (Or.inl rfl) h) (qd_2 snd_add (fun _ _ h1 h2 => pe_op op_addU h1 h2) (qd_e (qe_v (pv 6))) (qd_tup (qa_cons (qd_tup (qa_cons (qd_e (qe_v (pv 4))) (qa_cons (qd_x (qx_call (fun _ h => pe_call G__law_value (hr.mono (by omega)) (by rfl) T.d__law_value.m T.d__law_value.F.kp T.d__law_value.b .nil pass0 h) (qr_slot (pv 1) qr_nil))) qa_nil))) qa_nil)))))
      qss_nil))))
    (qss_cons (qs_set (fun _ h => ps_set (i := 8) sc_law.nd rfl (Or.inl rfl) h) (qx_dnew rfl))
    (qss_cons (qs_lock (i := 2) (qs_for (fun _ _ _ h1 h2 h3 => ps_for PassesOwn.never rfl h1 h2 h3) (qi_fdic rfl (pv 2)) (qg_nm (pg_name (i := 4) sc_law.nd rfl (Or.inl rfl)))
      (qss_one (qs_putD rfl (fun _ _ _ h1 h2 h3 => ps_asg h1 (pg_sub h2 h3 (set_e hr.units))) (qd_e (qe_ixD rfl hr.units (pv 2) (qe_v (pv 4)) (fun _ _ => rfl))) (pv 8) (qe_v (pv 4))))))
    (qss_cons (qs_for (fun _ _ _ h1 h2 h3 => ps_for PassesOwn.never rfl h1 h2 h3) (qi_tup (qd_e (qe_v (pv 6)))) (qg_nm (pg_name (i := 7) sc_law.nd rfl (Or.inl rfl)))
      (qss_one (qs_if (qt_c (qc_2 (op_neU hr.units) snd_ne (nomark _) (qd_e (qe_p (qp_ix (qp_ix (qp_v (pv 7)))))) (qd_e qe_str)))
      (qss_one (qs_putD rfl (fun _ _ _ h1 h2 h3 => ps_asg h1 (pg_sub h2 h3 (set_e hr.units))) (qd_e (qe_p (qp_ix (qp_v (pv 7))))) (pv 8) (qe_p (qp_ix (qp_v (pv 7))))))
      (qss_one (qs_if (qt_c (qc_inD rfl (op_eIn hr.units) (by rfl) (qd_e (qe_p (qp_ix (qp_v (pv 7))))) (pv 8)))
      (qss_one (qs_expr (qx_popD rfl (pv 8) (qe_p (qp_ix (qp_v (pv 7)))) (mk' := fun _ _ h1 h2 => pe_dm PySem.F.slot_dict_pop PySem.F.type_dict_pop (mt_epop hr.units) h1 h2))))
      qss_nil)))))
    (qss_cons (qs_for (fun _ _ _ h1 h2 h3 => ps_for PassesOwn.never rfl h1 h2 h3) (qi_range1 (qd_e qe_int) (by rfl) T.z_range) (qg_nm (pg_name (i := 9) sc_law.nd rfl (Or.inl rfl)))
      (qss_cons (qs_expr (qx_call (fun _ h => pe_call G_publish (hr.mono (by omega)) (by rfl) T.d_publish.m T.d_publish.F.kp T.d_publish.b .nil pass0 h) (qr_slot (pv 2) (qr_val (qd_e (qe_v (pv 6))) qr_nil))))
    (qss_one (qs_if (qt_not (qt_truth (qx_call (fun _ h => pe_call G__law_same_memory (hr.mono (by omega)) (by rfl) T.d__law_same_memory.m T.d__law_same_memory.F.kp T.d__law_same_memory.b .nil pass0 h) (qr_slot (pv 2) (qr_slot (pv 8) qr_nil)))))
      (qss_one (qs_retD (qd_e qe_bl)))
      qss_nil))))
    (qss_one (qs_retD (qd_e qe_bl)))))))))))))
end
theorem law_ok {P : Program} {w : World} {K : PySem.W.Frag} {T : Tb} {mg : Str → Option Value} {base : Heap} {f : Addr} {fd : FuncData} {ps : List Str} {k : Nat} (F : FnOk P w K mg base CX0 k f fd ps (spX K T 1 m_law)) : FnOk P w K mg base CX0 k f fd ps (spLaw K) := law_imp law_true F



theorem all_mk {P : Program} {w : World} {K : PySem.W.Frag} {h : Heap} {mg : Str → Option Value} {fa : Addr} (X : K.In h) (G : h.Ns mainGlobals mg) (hlaw : mg "law" = some (.ref fa)) (c : SaysM hfa hfn hts hex w K) :
    ∃ fd : FuncData, (∀ (s : Shared) (v : Value), BindsTo s fd ⟨[v], []⟩ [("script", v)]) ∧ ∀ base : Heap, K.In base → base.Ns mainGlobals mg → FnOk P w K mg base CX0 11 fa fd ["script"] (spLaw K) := by
  have e := hlaw.symm.trans (He.glo_ok X G (c.fact 11 (f := .glo "law")))
  cases e
  obtain ⟨fd0, F0⟩ := c.fun_ 0 (a := ("put_value", none)) (x := "put_value") (qual := "put_value") (st := s_put_value) (f := He.ga K "put_value")
  have b0 := F0.binds (ps := ["memory", "place", "value"]) fun _ _ _ _ _ _ us hl => match us, hl with | [_, _, _], _ => rfl
  obtain ⟨fd1, F1⟩ := c.fun_ 1 (a := ("publish", none)) (x := "publish") (qual := "publish") (st := s_publish) (f := He.ga K "publish")
  have b1 := F1.binds (ps := ["memory", "writes"]) fun _ _ _ _ _ _ us hl => match us, hl with | [_, _], _ => rfl
  obtain ⟨fd2, F2⟩ := c.fun_ 2 (a := ("_law_cell", none)) (x := "_law_cell") (qual := "_law_cell") (st := s__law_cell) (f := He.ga K "_law_cell")
  have b2 := F2.binds (ps := ["script", "k"]) fun _ _ _ _ _ _ us hl => match us, hl with | [_, _], _ => rfl
  obtain ⟨fd3, F3⟩ := c.fun_ 3 (a := ("_law_digits", none)) (x := "_law_digits") (qual := "_law_digits") (st := s__law_digits) (f := He.ga K "_law_digits")
  have b3 := F3.binds (ps := ["script", "first", "last"]) fun _ _ _ _ _ _ us hl => match us, hl with | [_, _, _], _ => rfl
  obtain ⟨fd4, F4⟩ := c.fun_ 4 (a := ("_law_draw", none)) (x := "_law_draw") (qual := "_law_draw") (st := s__law_draw) (f := He.ga K "_law_draw")
  have b4 := F4.binds (ps := ["box", "many"]) fun _ _ _ _ _ _ us hl => match us, hl with | [_, _], _ => rfl
  obtain ⟨fd5, F5⟩ := c.fun_ 5 (a := ("_law_same", none)) (x := "_law_same") (qual := "_law_same") (st := s__law_same) (f := He.ga K "_law_same")
  have b5 := F5.binds (ps := ["actual", "expected"]) fun _ _ _ _ _ _ us hl => match us, hl with | [_, _], _ => rfl
  obtain ⟨fd6, F6⟩ := c.fun_ 6 (a := ("_law_number", none)) (x := "_law_number") (qual := "_law_number") (st := s__law_number) (f := He.ga K "_law_number")
  have b6 := F6.binds (ps := ["box"]) fun _ _ _ _ _ _ us hl => match us, hl with | [_], _ => rfl
  obtain ⟨fd7, F7⟩ := c.fun_ 7 (a := ("_law_text", none)) (x := "_law_text") (qual := "_law_text") (st := s__law_text) (f := He.ga K "_law_text")
  have b7 := F7.binds (ps := ["box", "most"]) fun _ _ _ _ _ _ us hl => match us, hl with | [_, _], _ => rfl
  obtain ⟨fd8, F8⟩ := c.fun_ 8 (a := ("_law_value", none)) (x := "_law_value") (qual := "_law_value") (st := s__law_value) (f := He.ga K "_law_value")
  have b8 := F8.binds (ps := ["box"]) fun _ _ _ _ _ _ us hl => match us, hl with | [_], _ => rfl
  obtain ⟨fd9, F9⟩ := c.fun_ 9 (a := ("_law_same_memory", none)) (x := "_law_same_memory") (qual := "_law_same_memory") (st := s__law_same_memory) (f := He.ga K "_law_same_memory")
  have b9 := F9.binds (ps := ["actual", "expected"]) fun _ _ _ _ _ _ us hl => match us, hl with | [_, _], _ => rfl
  obtain ⟨fd10, F10⟩ := c.fun_ 10 (a := ("_law_place", none)) (x := "_law_place") (qual := "_law_place") (st := s__law_place) (f := He.ga K "_law_place")
  have b10 := F10.binds (ps := ["box"]) fun _ _ _ _ _ _ us hl => match us, hl with | [_], _ => rfl
  obtain ⟨fd11, F11⟩ := c.fun_ 11 (a := ("law", none)) (x := "law") (qual := "law") (st := s_law) (f := He.ga K "law")
  have b11 := F11.binds (ps := ["script"]) fun _ _ _ _ _ _ us hl => match us, hl with | [_], _ => rfl
  obtain ⟨u_NONE, hu_NONE, q_NONE⟩ := con_ok X G (c.fx 0 (f := .con "NONE" k_NONE))
  obtain ⟨_, _, _, _, _, _, _, _, _, rfl, _, _⟩ := F11.ex
  let T : Tx K mg w := { d_put_value := ⟨_, _, F0, b0, He.glo_ok X G (c.fact 0 (f := .glo "put_value"))⟩, d_publish := ⟨_, _, F1, b1, He.glo_ok X G (c.fact 1 (f := .glo "publish"))⟩, d__law_cell := ⟨_, _, F2, b2, He.glo_ok X G (c.fact 2 (f := .glo "_law_cell"))⟩, d__law_digits := ⟨_, _, F3, b3, He.glo_ok X G (c.fact 3 (f := .glo "_law_digits"))⟩, d__law_draw := ⟨_, _, F4, b4, He.glo_ok X G (c.fact 4 (f := .glo "_law_draw"))⟩, d__law_same := ⟨_, _, F5, b5, He.glo_ok X G (c.fact 5 (f := .glo "_law_same"))⟩, d__law_number := ⟨_, _, F6, b6, He.glo_ok X G (c.fact 6 (f := .glo "_law_number"))⟩, d__law_text := ⟨_, _, F7, b7, He.glo_ok X G (c.fact 7 (f := .glo "_law_text"))⟩, d__law_value := ⟨_, _, F8, b8, He.glo_ok X G (c.fact 8 (f := .glo "_law_value"))⟩, d__law_same_memory := ⟨_, _, F9, b9, He.glo_ok X G (c.fact 9 (f := .glo "_law_same_memory"))⟩, d__law_place := ⟨_, _, F10, b10, He.glo_ok X G (c.fact 10 (f := .glo "_law_place"))⟩, d_law := ⟨_, _, F11, b11, He.glo_ok X G (c.fact 11 (f := .glo "law"))⟩, z_len := He.free_ok X G (c.fact 12 (f := .free "len")), z_isinstance := He.free_ok X G (c.fact 13 (f := .free "isinstance")), z_tuple := He.free_ok X G (c.fact 14 (f := .free "tuple")), z_int := He.free_ok X G (c.fact 15 (f := .free "int")), z_bool := He.free_ok X G (c.fact 16 (f := .free "bool")), z_str := He.free_ok X G (c.fact 17 (f := .free "str")), z_dict := He.free_ok X G (c.fact 18 (f := .free "dict")), z_range := He.free_ok X G (c.fact 19 (f := .free "range")), u_NONE := u_NONE, c_NONE := hu_NONE, q_NONE := q_NONE }
  exact ⟨_, fun s v => .of_eq rfl, fun base _ _ => law_ok (ok_law T)⟩
end My
open PySem PySem.W PySem.Calls PyProof.Rows
set_option maxRecDepth 100000 in
set_option maxHeartbeats 0 in
theorem PySem.Challenge.cw_foretask_k47_publishing_writes_holds : PySem.Challenge.rw_foretask_k47_publishing_writes.Holds := by
  w_on; o_law
  refine HandSHeadRun.head_any (r := OpenLaw.row PySem.Challenge.rw_foretask_k47_publishing_writes) (q := view (OpenLaw.row PySem.Challenge.rw_foretask_k47_publishing_writes).prog [15]) (H := My.hk) (ob := My.hob) (M := 40000) (loose := My.hloose) (d := HandSHeadRun.topDef (OpenLaw.row PySem.Challenge.rw_foretask_k47_publishing_writes).prog 15) (kwd := []) My.hob_eq
    (by kernel_rfl) (fun s => by kernel_rfl) My.run (by kernel_rfl) (by kernel_rfl) (by kernel_rfl) (by rfl) (by first | assumption | decide +kernel) (by decide +kernel) ⟨rfl, rfl, rfl, rfl, rfl, by decide +kernel⟩ ?hw ?hc
  case hw => w_witness2
  case hc =>
    refine My.walk_ofEB (l := PySem.Challenge.rw_foretask_k47_publishing_writes) (n := 63) (k := 11) (x := "script") (CX := L2.CX0) rfl (by decide) (by kernel_rfl) ⟨rfl, by decide, by decide⟩ ?F (fun _ _ _ _ z => z)
    intro w mg fa h Y G hmg0
    obtain ⟨K, KX, c⟩ := Y
    have hmg : mg ("law" : PySem.Str) = some (.ref fa) := by
      have e : (HandSHeadRun.topDef (OpenLaw.row PySem.Challenge.rw_foretask_k47_publishing_writes).prog 15).name = ("law" : PySem.Str) := by kernel_rfl
      rw [← e]
      exact hmg0
    obtain ⟨fd, hb, hF⟩ := My.all_mk (P := (PySem.Challenge.rw_foretask_k47_publishing_writes).prog) (w := w) KX G hmg c
    exact ⟨K, fd, My.spLaw K, KX, hb, fun H a ns hl hbits hO hS => ⟨a, ns, rfl, My.scr_of hO hS, hl, hbits, fun _ => rfl⟩, hF⟩
