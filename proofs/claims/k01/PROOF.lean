import PyProof.Rows.All
import Wide.All
import OpenK.AllK
import Wide.FinOn
import HandS.More
import PyProof.TypeEq
import PyProof.StrBlock2
import HandS.ForMost
import HandS.IsInst
import HandS.Flow
import HandS.RaiseMore
import HandS.Walk
import PySem.Challenge.RW_ripplewell_k01_values
set_option Elab.async false
set_option linter.all false
set_option maxRecDepth 100000
set_option maxHeartbeats 4000000
namespace PySem.TypeNe
open PySem Builtin PySem.TypeEq
theorem slot_type_ne : Slot "type" (cmpInfo .NotEq).2.1 "object.__ne__" :=
  .of (owner := "object") (n := "__ne__") (by rw [typeLookup_type, builtinLookup_eq_fast]; kernel_rfl) (by decide +kernel) (by decide +kernel) (by decide +kernel)
    (by first | exact .inl (by decide +kernel) | exact .inr (by decide +kernel)) (by rw [isSubtype_type]; kernel_rfl)
theorem slot_type_ne_refl : Slot "type" (cmpInfo .NotEq).2.2 "object.__ne__" :=
  .of (owner := "object") (n := "__ne__") (by rw [typeLookup_type, builtinLookup_eq_fast]; kernel_rfl) (by decide +kernel) (by decide +kernel) (by decide +kernel)
    (by first | exact .inl (by decide +kernel) | exact .inr (by decide +kernel)) (by rw [isSubtype_type]; kernel_rfl)
section
variable {prog : Program} {w : World} {A : Around} {E : Value → Shared → Prop} {s : Shared}
theorem call_eq_same {X : String} (hX : ∀ s' : Shared, s'.TypeIs (.type X) "type") {Q : Option Value → Shared → Prop} (h : Q (some (.bool true)) s) : wpAny (model prog w) A (callSpecialIfBound? (.type X) (Str.ofString "__eq__") [.type X]) Q E s :=
  wpAny_callSpecialIfBound?_slot (name := Str.ofString "__eq__") (hX s) slot_type_eq (call_gives slot_type_eq (hX s) F.entry_object_eq (F.args_object_eq_2 _ _) (object_eq_same rfl (by simp)) h)
theorem call_eq_other {X Y : String} (hX : ∀ s' : Shared, s'.TypeIs (.type X) "type") (hne : (Value.type X == Value.type Y) = false) {Q : Option Value → Shared → Prop} (h : Q (some .notImplemented) s) : wpAny (model prog w) A (callSpecialIfBound? (.type X) (Str.ofString "__eq__") [.type Y]) Q E s :=
  wpAny_callSpecialIfBound?_slot (name := Str.ofString "__eq__") (hX s) slot_type_eq (call_gives slot_type_eq (hX s) F.entry_object_eq (F.args_object_eq_2 _ _) (object_eq_other rfl hne) h)
theorem call_ne_same {X : String} (hX : ∀ s' : Shared, s'.TypeIs (.type X) "type") {Q : Value → Shared → Prop} (h : Q (.bool false) s) : wpAny (model prog w) A (call (.builtin "object.__ne__") [.type X, .type X]) Q E s := by
  refine wpAny_call_entry slot_type_ne (hX s) F.entry_object_ne ?_ (F.args_object_ne_2 _ _)
  unfold Builtin.«object.__ne__»
  repeat (first
    | with_reducible refine wpAny_cRoomFor_or (.inl rfl) ?_
    | with_reducible refine call_eq_same hX ?_
    | wp_step)
  exact ⟨_, rfl, h⟩
theorem call_ne_other {X Y : String} (hX : ∀ s' : Shared, s'.TypeIs (.type X) "type") (hne : (Value.type X == Value.type Y) = false) {Q : Value → Shared → Prop} (h : Q .notImplemented s) : wpAny (model prog w) A (call (.builtin "object.__ne__") [.type X, .type Y]) Q E s := by
  refine wpAny_call_entry slot_type_ne (hX s) F.entry_object_ne ?_ (F.args_object_ne_2 _ _)
  unfold Builtin.«object.__ne__»
  repeat (first
    | with_reducible refine wpAny_cRoomFor_or (.inl rfl) ?_
    | with_reducible refine call_eq_other hX hne ?_
    | wp_step)
  exact ⟨_, rfl, h⟩
theorem ne_type_same {X : String} {Q : Value → Shared → Prop} (hX : ∀ s' : Shared, s'.TypeIs (.type X) "type") (h : Q (.bool false) s) : wpAny (model prog w) A (compareOp .NotEq (.type X) (.type X)) Q E s := by
  show wpAny _ A (richCompare .NotEq _ _) Q E s
  exact wpAny_richCompare_same (T := "type") (hX s) (hX s) slot_type_ne (call_ne_same hX ⟨(by intro e; cases e), h⟩)
theorem ne_type_other {X Y : String} {Q : Value → Shared → Prop} (hX : ∀ s' : Shared, s'.TypeIs (.type X) "type") (hY : ∀ s' : Shared, s'.TypeIs (.type Y) "type") (hne : (Value.type X == Value.type Y) = false) (h : Q (.bool true) s) : wpAny (model prog w) A (compareOp .NotEq (.type X) (.type Y)) Q E s := by
  have hne' : (Value.type Y == Value.type X) = false := by
    rw [Bool.eq_false_iff] at hne ⊢
    intro e
    exact hne (by rw [beq_iff_eq] at e ⊢; exact e.symm)
  show wpAny _ A (richCompare .NotEq _ _) Q E s
  have h1 := slot_type_ne
  have h2 := slot_type_ne_refl
  rcases hi : cmpInfo CmpOp.NotEq with ⟨sym, f, r⟩
  rw [hi] at h1 h2
  simp only [richCompare, hi, (hX s).oneThing_none]
  try with_reducible refine wpAny_holding ?_
  refine wpAny_bind (wpAny_cRoomFor_or (.inl rfl) ?_)
  refine wpAny_bind (wpAny_typeOf (hX s) (wpAny_bind (wpAny_typeOf (hY s) ?_)))
  simp only [bne_self_eq_false, Bool.false_eq_true, if_false, pure_bind, Bool.not_false, if_true]
  refine wpAny_bind (m := tryCompare (.type X) _ (.type Y)) (wpAny_tryCompare_declines (hX s) h1 (call_ne_other hX hne ⟨rfl, ?_⟩))
  refine wpAny_bind (m := tryCompare (.type Y) _ (.type X)) (wpAny_tryCompare_declines (hY s) h2 (call_ne_other hY hne' ⟨rfl, ?_⟩))
  refine wpAny_bind (wpAny_rule (wpAny_bind (wpAny_of_eq (a := false) (by rw [isSame_plain rfl, hne]) (wpAny_pure h))))
end
end PySem.TypeNe
namespace K1
open PySem PySem.Spec PyProof.Rows L2
/-- the built-in kinds whose type is compared here -/
def BT (a : String) : Prop := ∀ s' : Shared, s'.TypeIs (.type a) "type"
theorem bt_ty {K : PySem.W.Frag} {H : Hp} {x : V} {T : String} (t : TyB K H x T) : BT T := by
  cases t
  · exact TypeEq.meta_NoneType
  · exact TypeEq.meta_bool
  · exact TypeEq.meta_int
  · exact TypeEq.meta_str
  · exact TypeEq.meta_bytes
  · exact TypeEq.meta_list
  · exact TypeEq.meta_tuple
  · exact TypeEq.meta_dict
section
variable {X : Cx}
theorem op_eqTy : OpR X (compareOp .Eq) (fun x y H Q => ∃ a b, x = .ty a ∧ y = .ty b ∧ BT a ∧ BT b ∧ Q (.bl (decide (a = b))) H) := by
  intro pins s σ H x y v u Q I rx ry h
  obtain ⟨a, b, rfl, rfl, ha, hb, q⟩ := h
  cases (show v = Value.type a from rx)
  cases (show u = Value.type b from ry)
  by_cases e : a = b
  · subst e
    exact TypeEq.eq_type_same ha ⟨.bl true, H, I, rfl, by simpa using q⟩
  · exact TypeEq.eq_type_other ha hb (beq_eq_false_iff_ne.mpr fun z => e (Value.type.inj z)) ⟨.bl false, H, I, rfl, by simpa [e] using q⟩
theorem op_neTy : OpR X (compareOp .NotEq) (fun x y H Q => ∃ a b, x = .ty a ∧ y = .ty b ∧ BT a ∧ BT b ∧ Q (.bl (!decide (a = b))) H) := by
  intro pins s σ H x y v u Q I rx ry h
  obtain ⟨a, b, rfl, rfl, ha, hb, q⟩ := h
  cases (show v = Value.type a from rx)
  cases (show u = Value.type b from ry)
  by_cases e : a = b
  · subst e
    exact TypeNe.ne_type_same ha ⟨.bl false, H, I, rfl, by simpa using q⟩
  · exact TypeNe.ne_type_other ha hb (beq_eq_false_iff_ne.mpr fun z => e (Value.type.inj z)) ⟨.bl true, H, I, rfl, by simpa [e] using q⟩
/-- x is True, x is False -/
theorem op_isB : OpR X (compareOp .Is) (fun x y H Q => ∃ b : Bool, y = .bl b ∧ (∀ z, x ≠ .byt z) ∧ (∀ z, x ≠ .flt z) ∧ Q (.bl (decide (x = .bl b))) H) := by
  intro pins s σ H x y v u Q I rx ry h
  obtain ⟨b, rfl, n1, n2, q⟩ := h
  cases (show u = Value.bool b from ry)
  by_cases e : x = .bl b
  · subst e
    cases (show v = Value.bool b from rx)
    exact wpAny_is_self rfl ⟨.bl true, H, I, rfl, by simpa using q⟩
  · have fin : EP X pins σ Q (.bool false) s := ⟨.bl false, H, I, rfl, by simpa [e] using q⟩
    cases x with
    | non => cases (show v = Value.none from rx); exact wpAny_is_other rfl (fun z => by cases z) fin
    | bl c => cases (show v = Value.bool c from rx); exact wpAny_is_other rfl (fun z => e (by cases z; rfl)) fin
    | int i => obtain ⟨t, rfl⟩ := (show ∃ t, v = Value.int i t from rx); exact wpAny_is_other rfl (fun z => by cases z) fin
    | str i => obtain ⟨t, rfl⟩ := (show ∃ t, v = Value.str i t from rx); exact wpAny_is_other rfl (fun z => by cases z) fin
    | byt i => exact absurd rfl (n1 i)
    | flt i => exact absurd rfl (n2 i)
    | ref a => cases (show v = Value.ref a from rx); exact wpAny_is_other rfl (fun z => by cases z) fin
    | ty a => cases (show v = Value.type a from rx); exact wpAny_is_other rfl (fun z => by cases z) fin
/-- text * n -/
theorem op_mulStr : OpR X (binaryOp .Mult) (fun x y H Q => ∃ (z : Str) (n : Int), x = .str z ∧ y = .int n ∧ MulOk z n ∧ Q (.str (Txt.mul z n)) H) := by
  intro pins s σ H x y v u Q I rx ry h
  obtain ⟨z, n, rfl, rfl, ok, q⟩ := h
  obtain ⟨t, rfl⟩ := (show ∃ t, v = Value.str z t from rx)
  obtain ⟨t', rfl⟩ := (show ∃ t, u = Value.int n t from ry)
  exact SB.mul ok fun t2 k => ⟨.str _, H, I.tok _, ⟨_, rfl⟩, q⟩
end
end K1

namespace CW
open PySem PySem.Spec PyProof.Rows L2 K1
/-! ### readings that compute: every rule of the layer, its reading by cases on values -/
theorem PEto {X : Cx} {e : Expr} {t t' : TE} (h : PE X e t) (w : ∀ σ H Q, t' σ H Q → t σ H Q) : PE X e t' := ⟨fun pins s σ H Q I q => h.run pins s σ H Q I (w σ H Q q)⟩
theorem PTto {X : Cx} {e : Expr} {t t' : TT} (h : PT X e t) (w : ∀ σ H Q, t' σ H Q → t σ H Q) : PT X e t' := ⟨fun pins s σ H Q I q => h.run pins s σ H Q I (w σ H Q q)⟩
theorem PWto {X : Cx} {e : Expr} {t t' : TT} (h : PW X e t) (w : ∀ σ H Q, t' σ H Q → t σ H Q) : PW X e t' := ⟨fun wh pins s σ H Q I q => h.run wh pins s σ H Q I (w σ H Q q)⟩
theorem PSto {X : Cx} {e : Stmt} {t t' : TS} (h : PS X e t) (w : ∀ D σ H, t' D σ H → t D σ H) : PS X e t' := ⟨fun pins s σ H D I q => h.run pins s σ H D I (w D σ H q)⟩
theorem ORto {X : Cx} {f : Value → Value → Sem Value} {r r' : R2} (h : OpR X f r) (w : ∀ x y H Q, r' x y H Q → r x y H Q) : OpR X f r' := fun pins s σ H x y v u Q I rx ry q => h pins s σ H x y v u Q I rx ry (w x y H Q q)
theorem CRto {X : Cx} {f : Value} {r r' : List V → Hp → VK → Prop} (h : CallR X f r) (w : ∀ xs H Q, r' xs H Q → r xs H Q) : CallR X f r' := fun pins s σ H xs us Q I rv q => h pins s σ H xs us Q I rv (w xs H Q q)

/-- a reading made monotone -/
def up (t : TE) : TE := fun σ H Q => ∃ Q' : VK, t σ H Q' ∧ ∀ v H', Q' v H' → Q v H'
theorem PEup {X : Cx} {e : Expr} {t : TE} (h : PE X e t) : PE X e (up t) := ⟨fun pins s σ H Q I ⟨Q', q, m⟩ => thn (h.run pins s σ H Q' I q) fun u s' ⟨v, H', I', r, q'⟩ => ⟨v, H', I', r, m v H' q'⟩⟩
def upT (t : TT) : TT := fun σ H Q => ∃ Q' : Bool → Hp → Prop, t σ H Q' ∧ ∀ v H', Q' v H' → Q v H'
theorem PTup {X : Cx} {e : Expr} {t : TT} (h : PT X e t) : PT X e (upT t) := ⟨fun pins s σ H Q I ⟨Q', q, m⟩ => thn (h.run pins s σ H Q' I q) fun b s' ⟨H', I', q'⟩ => ⟨H', I', m b H' q'⟩⟩
def upA (t : TA) : TA := fun σ H Q => ∃ Q' : List V → Hp → Prop, t σ H Q' ∧ ∀ v H', Q' v H' → Q v H'
theorem PAup {X : Cx} {es : List Expr} {t : TA} (h : PA X es t) : PA X es (upA t) := ⟨fun pos pins s σ H Q I ⟨Q', q, m⟩ => thn (h.run pos pins s σ H Q' I q) fun us s' ⟨vs, H', I', r, q'⟩ => ⟨vs, H', I', r, m vs H' q'⟩⟩
def upR (r : R2) : R2 := fun x y H Q => ∃ Q' : VK, r x y H Q' ∧ ∀ v H', Q' v H' → Q v H'
theorem ORup {X : Cx} {f : Value → Value → Sem Value} {r : R2} (h : OpR X f r) : OpR X f (upR r) := fun pins s σ H x y v u Q I rx ry ⟨Q', q, m⟩ => thn (h pins s σ H x y v u Q' I rx ry q) fun w s' ⟨z, H', I', rz, q'⟩ => ⟨z, H', I', rz, m z H' q'⟩
/-- a truth value that is open: whatever it is -/
def Gen (b : Bool) (Q : Bool → Prop) : Prop := ∀ c, b = c → Q c
theorem Gen.sub {b : Bool} {Q : Bool → Prop} (h : Q b) : Gen b Q := fun c e => e ▸ h
theorem Gen.to {b : Bool} {Q : Bool → Prop} (h : Gen b Q) : Q b := h b rfl
theorem Gen.cases {b : Bool} {Q : Bool → Prop} (h1 : b = true → Q true) (h2 : b = false → Q false) : Gen b Q := fun c e => by
  cases c
  · exact h2 e
  · exact h1 e
theorem Gen.dec {p : Prop} [Decidable p] {Q : Bool → Prop} (h1 : p → Q true) (h2 : ¬ p → Q false) : Gen (decide p) Q := .cases (fun e => h1 (of_decide_eq_true e)) (fun e => h2 (of_decide_eq_false e))
theorem Gen.ndec {p : Prop} [Decidable p] {Q : Bool → Prop} (h1 : p → Q false) (h2 : ¬ p → Q true) : Gen (!decide p) Q := .cases (fun e => h2 fun z => by rw [decide_eq_true z] at e; cases e) (fun e => h1 (Decidable.byContradiction fun z => by rw [decide_eq_false z] at e; cases e))
theorem Gen.yes {b : Bool} {Q : Bool → Prop} (e : b = true) (h : Q true) : Gen b Q := fun c d => by
  rw [← d, e]
  exact h
theorem Gen.no {b : Bool} {Q : Bool → Prop} (e : b = false) (h : Q false) : Gen b Q := fun c d => by
  rw [← d, e]
  exact h
/-- the value of slot i -/
def cVar (i : Nat) : TE := fun σ H Q => match σ[i]? with
  | some (some v) => Q v H
  | _ => False
section
variable {X : Cx} {a b c e : Expr} {ta tb tc te : TE} {pos : Pos}
theorem c_var (i : Nat) {x : Str} {pos : Pos} (hN : X.N[i]? = some x := by rfl) (hv : Vis X.env.scope x := by first | exact Or.inl rfl | exact Or.inr (Or.inl rfl) | exact Or.inr (Or.inr rfl)) (hd : (x == ("__debug__" : Str)) = false := by decide)
    (hcd : (x == ("__classdict__" : Str)) = false := by decide) : PE X (.Name x pos) (cVar i) := PEto (pe_var hN hv hd hcd) fun σ H Q q => by
  unfold cVar at q
  split at q
  · rename_i v e
    exact ⟨v, e, q⟩
  · exact q.elim
/-! ### operators -/
def rAdd : R2 := fun x y H Q => match x, y with
  | .int i, .int j => Q (.int (i + j)) H
  | .str i, .str j => i.length + j.length ≤ sizeLine ∧ Q (.str (i ++ j)) H
  | .ref l, .ref b => ∃ xs zs, H l = some (.lst xs) ∧ H b = some (.lst zs) ∧ xs.length + zs.length ≤ sizeLine ∧ ∀ p, H p = none → Q (.ref p) (upd H p (.lst (xs ++ zs)))
  | _, _ => False
theorem o_add : OpR X (binaryOp .Add) rAdd := ORto (OpR.or op_add (OpR.or op_add_str op_cat)) fun x y H Q q => by
  unfold rAdd at q
  split at q
  · exact .inl ⟨_, _, rfl, rfl, q⟩
  · exact .inr (.inl ⟨_, _, rfl, rfl, q⟩)
  · obtain ⟨xs, zs, h⟩ := q
    exact .inr (.inr ⟨_, _, xs, zs, rfl, rfl, h⟩)
  · exact q.elim
def rSub : R2 := fun x y H Q => match x, y with
  | .int i, .int j => Q (.int (i - j)) H
  | _, _ => False
theorem o_sub : OpR X (binaryOp .Sub) rSub := ORto op_sub fun x y H Q q => by
  unfold rSub at q
  split at q
  · exact ⟨_, _, rfl, rfl, q⟩
  · exact q.elim
def rMul : R2 := fun x y H Q => match x, y with
  | .int i, .int j => CMul i j ∧ Q (.int (i * j)) H
  | .str z, .int n => MulOk z n ∧ Q (.str (Txt.mul z n)) H
  | _, _ => False
theorem o_mul : OpR X (binaryOp .Mult) rMul := ORto (OpR.or op_mul op_mulStr) fun x y H Q q => by
  unfold rMul at q
  split at q
  · exact .inl ⟨_, _, rfl, rfl, q⟩
  · exact .inr ⟨_, _, rfl, rfl, q⟩
  · exact q.elim
def rFdiv : R2 := fun x y H Q => match x, y with
  | .int i, .int j => CDiv i j ∧ Q (.int (i / j)) H
  | _, _ => False
theorem o_fdiv : OpR X (binaryOp .FloorDiv) rFdiv := ORto op_fdiv fun x y H Q q => by
  unfold rFdiv at q
  split at q
  · exact ⟨_, _, rfl, rfl, q⟩
  · exact q.elim
def rMod : R2 := fun x y H Q => match x, y with
  | .int i, .int j => 0 < j ∧ Q (.int (i % j)) H
  | _, _ => False
theorem o_mod : OpR X (binaryOp .Mod) rMod := ORto op_mod fun x y H Q q => by
  unfold rMod at q
  split at q
  · exact ⟨_, _, rfl, rfl, q⟩
  · exact q.elim
def rPow : R2 := fun x y H Q => match x, y with
  | .int i, .int j => CPow i j ∧ Q (.int (i ^ j.toNat)) H
  | _, _ => False
theorem o_pow : OpR X (binaryOp .Pow) rPow := ORto op_pow fun x y H Q q => by
  unfold rPow at q
  split at q
  · exact ⟨_, _, rfl, rfl, q⟩
  · exact q.elim
def cBin (r : R2) (ta tb : TE) : TE := fun σ H Q => ta σ H fun x H1 => tb σ H1 fun y H2 => r x y H2 Q
theorem c_bin {op : Operator} {r : R2} (ho : OpR X (binaryOp op) r) (ha : PE X a ta) (hb : PE X b tb) : PE X (.BinOp a op b pos) (cBin r ta tb) := PEto (pe_op ho ha hb) fun _ _ _ q => q
def cUn (r : V → Hp → VK → Prop) (ta : TE) : TE := fun σ H Q => ta σ H fun x H1 => r x H1 Q
theorem URto {f : Value → Sem Value} {r r' : V → Hp → VK → Prop} (h : UnR X f r) (w : ∀ x H Q, r' x H Q → r x H Q) : UnR X f r' := fun pins s σ H x v Q I rx q => h pins s σ H x v Q I rx (w x H Q q)
def rNeg : V → Hp → VK → Prop := fun x H Q => match x with
  | .int i => Q (.int (-i)) H
  | _ => False
theorem o_neg : UnR X (unaryOp .USub) rNeg := URto un_neg fun x H Q q => by
  unfold rNeg at q
  split at q
  · exact ⟨_, rfl, q⟩
  · exact q.elim
theorem c_neg (ha : PE X a ta) : PE X (.UnaryOp .USub a pos) (cUn rNeg ta) := PEto (pe_un o_neg ha) fun _ _ _ q => q
/-! ### truth -/
def rTru (K : PySem.W.Frag) (x : V) (H : Hp) (Q : Bool → Hp → Prop) : Prop := match x with
  | .non => Q false H
  | .bl b => Q b H
  | .int i => Gen (i != 0) fun k => Q k H
  | .str y => y.length ≤ sizeLine ∧ Gen ((y.length : Int) != 0) fun k => Q k H
  | .ref p => ∃ k, TruV K (.ref p) H k ∧ Q k H
  | _ => False
theorem rTru_to {K : PySem.W.Frag} {x : V} {H : Hp} {Q : Bool → Hp → Prop} (q : rTru K x H Q) : ∃ k, TruV K x H k ∧ Q k H := by
  unfold rTru at q
  split at q
  · exact ⟨_, rfl, q⟩
  · exact ⟨_, rfl, q⟩
  · exact ⟨_, rfl, q.to⟩
  · exact ⟨_, ⟨q.1, rfl⟩, q.2.to⟩
  · exact q
  · exact q.elim
/-- a test that is its value's truth; a comparison's -/
def cTru (K : PySem.W.Frag) (ta : TE) : TT := fun σ H Q => ta σ H fun x H1 => rTru K x H1 Q
theorem t_tru {K : PySem.W.Frag} (hK : X.K = K) (ha : PE X a ta) (he : ∀ whole, isTrue a X.env whole = (do let v ← whole; standAt a.pos; holding [v] (truthy v)) := by exact fun _ => rfl) : PT X a (cTru K ta) := by
  subst hK
  exact PTto (pt_truth (PEup ha) he) fun σ H Q q => ⟨_, q, fun v H' q1 => rTru_to q1⟩
def rBl (x : V) (H : Hp) (Q : Bool → Hp → Prop) : Prop := match x with
  | .bl b => Q b H
  | _ => False
def cBl (ta : TE) : TT := fun σ H Q => ta σ H fun x H1 => rBl x H1 Q
theorem rBl_to {x : V} {H : Hp} {Q : Bool → Hp → Prop} (q : rBl x H Q) : ∃ k, x = .bl k ∧ Q k H := by
  unfold rBl at q
  split at q
  · exact ⟨_, rfl, q⟩
  · exact q.elim
/-- not x, as a value -/
def cNot (K : PySem.W.Frag) (ta : TE) : TE := fun σ H Q => ta σ H fun x H1 => rTru K x H1 fun k H2 => Q (.bl (!k)) H2
theorem c_not {K : PySem.W.Frag} (hK : X.K = K) (ha : PE X a ta) : PE X (.UnaryOp .Not a pos) (cNot K ta) := by
  subst hK
  exact PEto (pe_notT (PEup ha)) fun σ H Q q => ⟨_, q, fun v H' q1 => rTru_to q1⟩
/-! ### comparisons -/
def rEqC : R2 := fun x y H Q => match x, y with
  | .ty a, .ty b => BT a ∧ BT b ∧ Gen (decide (a = b)) fun k => Q (.bl k) H
  | .non, .non => Q (.bl true) H
  | .int i, .int j => Gen (decide (i = j)) fun k => Q (.bl k) H
  | .bl i, .bl j => Gen (decide (i = j)) fun k => Q (.bl k) H
  | .str i, .str j => Gen (decide (i = j)) fun k => Q (.bl k) H
  | .non, .int _ => Q (.bl false) H | .int _, .non => Q (.bl false) H | .non, .bl _ => Q (.bl false) H | .bl _, .non => Q (.bl false) H | .non, .str _ => Q (.bl false) H | .str _, .non => Q (.bl false) H
  | .int _, .str _ => Q (.bl false) H | .str _, .int _ => Q (.bl false) H | .bl _, .str _ => Q (.bl false) H | .str _, .bl _ => Q (.bl false) H
  | _, _ => False
theorem rEqC_to {x y : V} {H : Hp} {Q : VK} (q : rEqC x y H Q) : (∃ a b, x = .ty a ∧ y = .ty b ∧ BT a ∧ BT b ∧ Q (.bl (decide (a = b))) H) ∨ (scal x y = true ∧ Q (.bl (decide (x = y))) H) := by
  unfold rEqC at q
  split at q <;> first
    | exact .inl ⟨_, _, rfl, rfl, q.1, q.2.1, q.2.2.to⟩
    | exact .inr ⟨rfl, by simpa using q⟩
    | exact .inr ⟨rfl, by simpa using q.to⟩
    | exact q.elim
theorem o_eq : OpR X (compareOp .Eq) rEqC := ORto (OpR.or op_eqTy op_eq) fun x y H Q q => rEqC_to q
def rNeC : R2 := fun x y H Q => rEqC x y H fun z H' => match z with
  | .bl b => Q (.bl (!b)) H'
  | _ => False
theorem o_ne : OpR X (compareOp .NotEq) rNeC := ORto (OpR.or op_neTy op_ne) fun x y H Q q => rEqC_to q
def rLt : R2 := fun x y H Q => match x, y with
  | .int i, .int j => Gen (decide (i < j)) fun c => Q (.bl c) H
  | .str i, .str j => Gen (decide (i.cps.toList < j.cps.toList)) fun c => Q (.bl c) H
  | _, _ => False
theorem o_lt : OpR X (compareOp .Lt) rLt := ORto (OpR.or op_lt op_lt_str) fun x y H Q q => by
  unfold rLt at q
  split at q
  · exact .inl ⟨_, _, rfl, rfl, q.to⟩
  · exact .inr ⟨_, _, rfl, rfl, q.to⟩
  · exact q.elim
def rLe : R2 := fun x y H Q => match x, y with
  | .int i, .int j => Gen (decide (i ≤ j)) fun c => Q (.bl c) H
  | .str i, .str j => Gen (!decide (j.cps.toList < i.cps.toList)) fun c => Q (.bl c) H
  | _, _ => False
theorem o_le : OpR X (compareOp .LtE) rLe := ORto (OpR.or op_le op_le_str) fun x y H Q q => by
  unfold rLe at q
  split at q
  · exact .inl ⟨_, _, rfl, rfl, q.to⟩
  · exact .inr ⟨_, _, rfl, rfl, q.to⟩
  · exact q.elim
def rGt : R2 := fun x y H Q => match x, y with
  | .int i, .int j => Gen (decide (j < i)) fun c => Q (.bl c) H
  | .str i, .str j => Gen (decide (j.cps.toList < i.cps.toList)) fun c => Q (.bl c) H
  | _, _ => False
theorem o_gt : OpR X (compareOp .Gt) rGt := ORto (OpR.or op_gt op_gt_str) fun x y H Q q => by
  unfold rGt at q
  split at q
  · exact .inl ⟨_, _, rfl, rfl, q.to⟩
  · exact .inr ⟨_, _, rfl, rfl, q.to⟩
  · exact q.elim
def rGe : R2 := fun x y H Q => match x, y with
  | .int i, .int j => Gen (decide (j ≤ i)) fun c => Q (.bl c) H
  | _, _ => False
theorem o_ge : OpR X (compareOp .GtE) rGe := ORto op_ge fun x y H Q q => by
  unfold rGe at q
  split at q
  · exact ⟨_, _, rfl, rfl, q.to⟩
  · exact q.elim
def isNon : V → Bool
  | .non => true
  | _ => false
theorem isNon_eq (x : V) : decide (x = .non) = isNon x := by cases x <;> simp [isNon]
/-- x is None, True, False -/
def isC : V → V → Option Bool
  | x, .non => some (isNon x)
  | .bl a, .bl b => some (decide (a = b))
  | .byt _, .bl _ => none
  | .flt _, .bl _ => none
  | _, .bl _ => some false
  | _, _ => none
def rIs : R2 := fun x y H Q => match isC x y with
  | some b => Q (.bl b) H
  | none => False
theorem o_is : OpR X (compareOp .Is) rIs := ORto (OpR.or op_isN op_isB) fun x y H Q q => by
  unfold rIs at q
  split at q
  · rename_i b hb
    cases y with
    | non =>
      refine .inl ⟨rfl, ?_⟩
      rw [isNon_eq]
      cases x <;> (cases hb; exact q)
    | bl c =>
      refine .inr ⟨c, rfl, fun z e => ?_, fun z e => ?_, ?_⟩
      · subst e; cases hb
      · subst e; cases hb
      · cases x <;> first | (cases hb; exact q) | (simp only [isC, Option.some.injEq] at hb; subst hb; simpa using q) | cases hb
    | _ => cases x <;> cases hb
  · exact q.elim
def rIsNot : R2 := fun x y H Q => match y with
  | .non => Q (.bl (!isNon x)) H
  | _ => False
theorem o_isnot : OpR X (compareOp .IsNot) rIsNot := ORto op_notN fun x y H Q q => by
  unfold rIsNot at q
  split at q
  · refine ⟨rfl, ?_⟩
    rw [isNon_eq]
    exact q
  · exact q.elim
def rNotInS1 : R2 := fun x y H Q => match x, y with
  | .str u, .str z => ∃ c, u = ⟨#[c]⟩ ∧ Gen (!decide (c ∈ z.cps.toList)) fun k => Q (.bl k) H
  | _, _ => False
theorem o_notInS1 : OpR X (compareOp .NotIn) rNotInS1 := ORto op_notIn_sign fun x y H Q q => by
  unfold rNotInS1 at q
  split at q
  · obtain ⟨c, rfl, q⟩ := q
    exact ⟨c, _, rfl, rfl, q.to⟩
  · exact q.elim
theorem c_cmp {op : CmpOp} {r : R2} (ho : OpR X (compareOp op) r) (ha : PE X a ta) (hb : PE X b tb) (hm : behindInMarks op b = false := by first | exact nomark _ | rfl) : PE X (.Compare a [op] [b] pos) (cBin r ta tb) := PEto (pe_cmpR ho ha hb hm) fun _ _ _ q => q
theorem t_cmp {op : CmpOp} {r : R2} (ho : OpR X (compareOp op) r) (ha : PE X a ta) (hb : PE X b tb) (hm : behindInMarks op b = false := by first | exact nomark _ | rfl) : PT X (.Compare a [op] [b] pos) (cBl (cBin r ta tb)) :=
  PTto (pt_cmpR (ORup ho) (PEup ha) (PEup hb) hm) fun σ H Q q => ⟨_, q, fun x H1 q1 => ⟨_, q1, fun y H2 q2 => ⟨_, q2, fun z H3 q3 => rBl_to q3⟩⟩⟩
def rChn (r' : R2) (tc : TE) (σ : L2.St) (y : V) (Q : VK) : V → Hp → Prop := fun z H3 => match z with
  | .bl true => tc σ H3 fun w' H4 => r' y w' H4 Q
  | .bl false => Q (.bl false) H3
  | _ => False
def cChain (r r' : R2) (ta tb tc : TE) : TE := fun σ H Q => ta σ H fun x H1 => tb σ H1 fun y H2 => r x y H2 (rChn r' tc σ y Q)
theorem rChn_to {r' : R2} {tc : TE} {σ : L2.St} {y : V} {Q : VK} {z : V} {H3 : Hp} (q : rChn r' tc σ y Q z H3) : ∃ k, z = .bl k ∧ (if k = true then tc σ H3 fun w' H4 => r' y w' H4 Q else Q (.bl false) H3) := by
  unfold rChn at q
  split at q
  · exact ⟨true, rfl, by rw [if_pos rfl]; exact q⟩
  · exact ⟨false, rfl, by rw [if_neg (by decide)]; exact q⟩
  · exact q.elim
theorem c_chain {op op' : CmpOp} {r r' : R2} (ho : OpR X (compareOp op) r) (ho' : OpR X (compareOp op') r') (ha : PE X a ta) (hb : PE X b tb) (hc : PE X c tc)
    (hm : lastMarks [op, op'] [b, c] = false := by with_unfolding_all rfl) : PE X (.Compare a [op, op'] [b, c] pos) (cChain r r' ta tb tc) :=
  PEto (pe_chain (ORup ho) ho' (PEup ha) (PEup hb) hc hm) fun σ H Q q => ⟨_, q, fun x H1 q1 => ⟨_, q1, fun y H2 q2 => ⟨_, q2, fun z H3 q3 => rChn_to q3⟩⟩⟩
theorem t_chain {op op' : CmpOp} {r r' : R2} (ho : OpR X (compareOp op) r) (ho' : OpR X (compareOp op') r') (ha : PE X a ta) (hb : PE X b tb) (hc : PE X c tc)
    (hm : lastMarks [op, op'] [b, c] = false := by with_unfolding_all rfl) : PT X (.Compare a [op, op'] [b, c] pos) (cBl (cChain r r' ta tb tc)) := by
  refine PTto (pt_chain (ORup ho) (ORup ho') (PEup ha) (PEup hb) (PEup hc) hm) fun σ H Q q => ⟨_, q, fun x H1 q1 => ⟨_, q1, fun y H2 q2 => ⟨_, q2, fun z H3 q3 => ?_⟩⟩⟩
  obtain ⟨k, rfl, q4⟩ := rChn_to q3
  refine ⟨k, rfl, ?_⟩
  cases k with
  | false => exact ⟨false, rfl, q4⟩
  | true => exact ⟨_, q4, fun u H4 q5 => ⟨_, q5, fun u2 H5 q6 => rBl_to q6⟩⟩
/-! ### and, or, if else -/
def cCond (b : Bool) (p q : Prop) : Prop := match b with
  | true => p
  | false => q
theorem cCond_if {b : Bool} {p q : Prop} (h : cCond b p q) : if b = true then p else q := by
  cases b
  · exact h
  · exact h
def cAnd (t u : TT) : TT := fun σ H Q => t σ H fun c H1 => cCond c (u σ H1 Q) (Q false H1)
def cOr (t u : TT) : TT := fun σ H Q => t σ H fun c H1 => cCond c (Q true H1) (u σ H1 Q)
def cNotT (t : TT) : TT := fun σ H Q => t σ H fun c H1 => Q (!c) H1
variable {tA tB' : TT} {rest : List Expr}
theorem w_and1 (ha : PT X a tA) : PW X (.BoolOp .And [a] pos) tA := pw_and1 ha
theorem w_or1 (ha : PT X a tA) : PW X (.BoolOp .Or [a] pos) tA := pw_or1 ha
theorem w_and (ha : PT X a tA) (hb : PW X (.BoolOp .And (b :: rest) pos) tB') : PW X (.BoolOp .And (a :: b :: rest) pos) (cAnd tA tB') := PWto (pw_and (PTup ha) hb) fun σ H Q q => ⟨_, q, fun c H1 q1 => cCond_if q1⟩
theorem w_or (ha : PT X a tA) (hb : PW X (.BoolOp .Or (b :: rest) pos) tB') : PW X (.BoolOp .Or (a :: b :: rest) pos) (cOr tA tB') := PWto (pw_or (PTup ha) hb) fun σ H Q q => ⟨_, q, fun c H1 q1 => cCond_if q1⟩
theorem t_not (ha : PT X a tA) : PT X (.UnaryOp .Not a pos) (cNotT tA) := pt_not ha
/-- and, or as values, the left one a bool -/
def rAndV (tb : TE) (σ : L2.St) (Q : VK) (x : V) (H1 : Hp) : Prop := match x with
  | .bl true => tb σ H1 Q
  | .bl false => Q (.bl false) H1
  | _ => False
def rOrV (tb : TE) (σ : L2.St) (Q : VK) (x : V) (H1 : Hp) : Prop := match x with
  | .bl true => Q (.bl true) H1
  | .bl false => tb σ H1 Q
  | _ => False
def cAndV (ta tb : TE) : TE := fun σ H Q => ta σ H fun x H1 => rAndV tb σ Q x H1
def cOrV (ta tb : TE) : TE := fun σ H Q => ta σ H fun x H1 => rOrV tb σ Q x H1
theorem rAndV_to {tb : TE} {σ : L2.St} {Q : VK} {x : V} {H1 : Hp} (q : rAndV tb σ Q x H1) : ∃ c, x = .bl c ∧ if c = true then tb σ H1 Q else Q (.bl false) H1 := by
  unfold rAndV at q
  split at q
  · exact ⟨true, rfl, by rw [if_pos rfl]; exact q⟩
  · exact ⟨false, rfl, by rw [if_neg (by decide)]; exact q⟩
  · exact q.elim
theorem rOrV_to {tb : TE} {σ : L2.St} {Q : VK} {x : V} {H1 : Hp} (q : rOrV tb σ Q x H1) : ∃ c, x = .bl c ∧ if c = true then Q (.bl true) H1 else tb σ H1 Q := by
  unfold rOrV at q
  split at q
  · exact ⟨true, rfl, by rw [if_pos rfl]; exact q⟩
  · exact ⟨false, rfl, by rw [if_neg (by decide)]; exact q⟩
  · exact q.elim
theorem c_one {op} {t : TE} (h : PE X a t) : PE X (.BoolOp op [a] pos) t := pe_one h
theorem c_and (ha : PE X a ta) (hb : PE X (.BoolOp .And (b :: rest) pos) tb) : PE X (.BoolOp .And (a :: b :: rest) pos) (cAndV ta tb) := PEto (pe_and (PEup ha) hb) fun σ H Q q => ⟨_, q, fun x H1 q1 => rAndV_to q1⟩
theorem c_or (ha : PE X a ta) (hb : PE X (.BoolOp .Or (b :: rest) pos) tb) : PE X (.BoolOp .Or (a :: b :: rest) pos) (cOrV ta tb) := PEto (pe_or (PEup ha) hb) fun σ H Q q => ⟨_, q, fun x H1 q1 => rOrV_to q1⟩
def cIfE (t : TT) (ta tb : TE) : TE := fun σ H Q => t σ H fun c H1 => cCond c (ta σ H1 Q) (tb σ H1 Q)
theorem c_ife {c : Expr} (hc : PT X c tA) (ha : PE X a ta) (hb : PE X b tb) : PE X (.IfExp c a b pos) (cIfE tA ta tb) := PEto (pe_ifExp (PTup hc) ha hb) fun σ H Q q => ⟨_, q, fun c H1 q1 => cCond_if q1⟩
/-! ### calls of built-ins -/
def rLen (K : PySem.W.Frag) : List V → Hp → VK → Prop := fun xs H Q => match xs with
  | [.str z] => z.length ≤ sizeLine ∧ Q (.int z.length) H
  | [.ref p] => (∃ ys, (SqL K H p ys ∨ SqT K H p ys) ∧ Q (.int ys.length) H) ∨ (∃ kvs, H p = some (.dK kvs) ∧ Q (.int kvs.length) H)
  | _ => False
theorem b_len {K : PySem.W.Frag} (hK : X.K = K) : CallR X (.builtin "len") (rLen K) := hK ▸ CRto (CallR.or call_len_str (CallR.or call_len_seq call_lenD)) fun xs H Q q => by
  unfold rLen at q
  split at q
  · exact .inl ⟨_, rfl, q⟩
  · rcases q with ⟨ys, q⟩ | ⟨kvs, q⟩
    · exact .inr (.inl ⟨_, ys, rfl, q⟩)
    · exact .inr (.inr ⟨_, kvs, rfl, q⟩)
  · exact q.elim
def rAbs : List V → Hp → VK → Prop := fun xs H Q => match xs with
  | [.int i] => Q (.int (if i < 0 then -i else i)) H
  | _ => False
theorem b_abs : CallR X (.builtin "abs") rAbs := CRto call_abs fun xs H Q q => by
  unfold rAbs at q
  split at q
  · exact ⟨_, rfl, q⟩
  · exact q.elim
def rInt : List V → Hp → VK → Prop := fun xs H Q => match xs with
  | [.int i] => Q (.int i) H
  | [.bl k] => Q (.int (if k then 1 else 0)) H
  | _ => False
theorem b_int : CallR X (.type "int") rInt := CRto call_int1 fun xs H Q q => by
  unfold rInt at q
  split at q
  · exact .inl ⟨_, rfl, q⟩
  · exact .inr ⟨_, rfl, q⟩
  · exact q.elim
def rStr : List V → Hp → VK → Prop := fun xs H Q => match xs with
  | [.int i] => i.natAbs.log2 < 1920 ∧ Q (.str (toString i)) H
  | [.str x] => Q (.str x) H
  | _ => False
theorem b_str : CallR X (.type "str") rStr := CRto (CallR.or call_str_int SkE.call_str_str) fun xs H Q q => by
  unfold rStr at q
  split at q
  · exact .inl ⟨_, rfl, q⟩
  · exact .inr ⟨_, rfl, q⟩
  · exact q.elim
/-- type(x) of scalars; of lists, tuples, dicts by TyB -/
def tyn : V → Option String
  | .non => some "NoneType" | .bl _ => some "bool" | .int _ => some "int" | .str _ => some "str"
  | _ => none
theorem tyn_TyB {K : PySem.W.Frag} {H : Hp} {x : V} {T : String} (h : tyn x = some T) : TyB K H x T := by
  cases x <;> simp [tyn] at h <;> subst h
  · exact .non
  · exact .bl _
  · exact .int _
  · exact .str _
def rType (K : PySem.W.Frag) : List V → Hp → VK → Prop := fun xs H Q => match xs with
  | [.ref a] => ∃ T, TyB K H (.ref a) T ∧ Q (.ty T) H
  | [x] => (match tyn x with
    | some T => Q (.ty T) H
    | none => False)
  | _ => False
theorem b_type {K : PySem.W.Frag} (hK : X.K = K) : CallR X (.type "type") (rType K) := hK ▸ CRto call_type1 fun xs H Q q => by
  unfold rType at q
  split at q
  · obtain ⟨T, t, q⟩ := q
    exact ⟨_, T, rfl, t, q⟩
  · split at q
    · rename_i T hT
      exact ⟨_, T, rfl, tyn_TyB hT, q⟩
    · exact q.elim
  · exact q.elim
def isB : V → Option Bool
  | .bl _ => some true | .non => some false | .int _ => some false | .str _ => some false
  | _ => none
def isS : V → Option Bool
  | .bl _ => some false | .non => some false | .int _ => some false | .str _ => some true
  | _ => none
def isI : V → Option Bool
  | .bl _ => some true | .non => some false | .int _ => some true | .str _ => some false
  | _ => none
def rIsK (T : String) (f : V → Option Bool) : List V → Hp → VK → Prop := fun xs H Q => match xs with
  | [x, .ty U] => U = T ∧ (match f x with
    | some b => Q (.bl b) H
    | none => False)
  | _ => False
theorem b_isB : CallR X (.builtin "isinstance") (rIsK "bool" isB) := CRto call_isi fun xs H Q q => by
  unfold rIsK at q
  split at q
  · rename_i x U
    obtain ⟨rfl, q⟩ := q
    cases x with
    | non => exact ⟨_, _, .type "NoneType", _, false, rfl, .ty _, .base .non, kit_ty (by decide +kernel), q⟩
    | bl b => exact ⟨_, _, .type "bool", _, true, rfl, .ty _, .base (.bl b), kit_ty (by decide +kernel), q⟩
    | int b => exact ⟨_, _, .type "int", _, false, rfl, .ty _, .base (.int b), kit_ty (by decide +kernel), q⟩
    | str b => exact ⟨_, _, .type "str", _, false, rfl, .ty _, .base (.str b), kit_ty (by decide +kernel), q⟩
    | _ => exact q.elim
  · exact q.elim
theorem b_isS : CallR X (.builtin "isinstance") (rIsK "str" isS) := CRto call_isi fun xs H Q q => by
  unfold rIsK at q
  split at q
  · rename_i x U
    obtain ⟨rfl, q⟩ := q
    cases x with
    | non => exact ⟨_, _, .type "NoneType", _, false, rfl, .ty _, .base .non, kit_ty (by decide +kernel), q⟩
    | bl b => exact ⟨_, _, .type "bool", _, false, rfl, .ty _, .base (.bl b), kit_ty (by decide +kernel), q⟩
    | int b => exact ⟨_, _, .type "int", _, false, rfl, .ty _, .base (.int b), kit_ty (by decide +kernel), q⟩
    | str b => exact ⟨_, _, .type "str", _, true, rfl, .ty _, .base (.str b), kit_ty (by decide +kernel), q⟩
    | _ => exact q.elim
  · exact q.elim
theorem b_isI : CallR X (.builtin "isinstance") (rIsK "int" isI) := CRto call_isi fun xs H Q q => by
  unfold rIsK at q
  split at q
  · rename_i x U
    obtain ⟨rfl, q⟩ := q
    cases x with
    | non => exact ⟨_, _, .type "NoneType", _, false, rfl, .ty _, .base .non, kit_ty (by decide +kernel), q⟩
    | bl b => exact ⟨_, _, .type "bool", _, true, rfl, .ty _, .base (.bl b), kit_ty (by decide +kernel), q⟩
    | int b => exact ⟨_, _, .type "int", _, true, rfl, .ty _, .base (.int b), kit_ty (by decide +kernel), q⟩
    | str b => exact ⟨_, _, .type "str", _, false, rfl, .ty _, .base (.str b), kit_ty (by decide +kernel), q⟩
    | _ => exact q.elim
  · exact q.elim
def cArgs (r : List V → Hp → VK → Prop) (t : TA) : TE := fun σ H Q => t σ H fun vs H1 => r vs H1 Q
variable {es : List Expr} {t : TA} {id T : String} {x : Str} {r : List V → Hp → VK → Prop} {p : Pos}
theorem c_bi (hc : CallR X (.builtin id) r) (hm : X.mg x = none) (hv : bootBuiltins x = some (.builtin id)) (ha : PA X (e :: es) t) (hg : Gl X x := by rfl) (hn : x ≠ "__name__" := by decide) (hdb : (x == ("__debug__" : Str)) = false := by decide)
    (he : starEach (e :: es) X.env = (false, eval e X.env) :: starEach es X.env := by rfl) (hpl : (backTo pos (starEach es X.env)).any (·.1) = false := by rfl) : PE X (.Call (.Name x p) (e :: es) [] pos) (cArgs r t) := pe_callB hc hg hm hv ha hn hdb he hpl
theorem c_ty (hc : CallR X (.type T) r) (hm : X.mg x = none) (hv : bootBuiltins x = some (.type T)) (ha : PA X (e :: es) t) (hg : Gl X x := by rfl) (hn : x ≠ "__name__" := by decide) (hdb : (x == ("__debug__" : Str)) = false := by decide)
    (he : starEach (e :: es) X.env = (false, eval e X.env) :: starEach es X.env := by rfl) (hpl : (backTo pos (starEach es X.env)).any (·.1) = false := by rfl) : PE X (.Call (.Name x p) (e :: es) [] pos) (cArgs r t) := pe_callTy hc hg hm hv ha hn hdb he hpl
/-- a built-in type as a value -/
theorem c_tyv (hm : X.mg x = none) (hv : bootBuiltins x = some (.type T)) (hg : Gl X x := by rfl) (hn : x ≠ "__name__" := by decide) (hd : (x == ("__debug__" : Str)) = false := by decide) : PE X (.Name x p) (tC (.ty T)) := pe_bltn (v := .ty T) hg hm hv rfl hn hd
/-- a module's int -/
theorem c_int {i : Int} {u : Tok} (hm : X.mg x = some (.int i u)) (hg : Gl X x := by rfl) (hd : (x == ("__debug__" : Str)) = false := by decide) : PE X (.Name x p) (tC (.int i)) := pe_glob hg hm ⟨_, rfl⟩ hd
end
/-- isinstance(e, T), T a built-in type -/
def rIs1 (f : V → Option Bool) (x : V) (H : Hp) (Q : VK) : Prop := match f x with
  | some b => Q (.bl b) H
  | none => False
def cIs1 (f : V → Option Bool) (te : TE) : TE := fun σ H Q => te σ H fun x H1 => rIs1 f x H1 Q
section
variable {X : Cx} {e : Expr} {te : TE} {p p2 pos : Pos} {T : String} {x : Str} {f : V → Option Bool}
theorem c_isi (hc : CallR X (.builtin "isinstance") (rIsK T f)) (hm : X.mg "isinstance" = none) (hT : X.mg x = none) (hv : bootBuiltins x = some (.type T)) (he : PE X e (up te)) (hg : Gl X "isinstance" := by rfl) (hg2 : Gl X x := by rfl) (hn : x ≠ "__name__" := by decide) (hd : (x == ("__debug__" : Str)) = false := by decide)
    (h1 : starEach [e, .Name x p2] X.env = (false, eval e X.env) :: starEach [.Name x p2] X.env := by rfl) (h2 : starEach [.Name x p2] X.env = (false, eval (.Name x p2) X.env) :: starEach [] X.env := by rfl) (hpl : (backTo pos (starEach [.Name x p2] X.env)).any (·.1) = false := by rfl) :
    PE X (.Call (.Name "isinstance" p) [e, .Name x p2] [] pos) (cIs1 f te) := by
  refine PEto (c_bi hc hm (by decide +kernel) (pa_cons he (pa_cons (c_tyv hT hv hg2 hn hd) pa_nil h2) h1) hg (by decide) (by decide) h1 hpl) fun σ H Q q => ?_
  exact ⟨_, q, fun v H' q1 => ⟨rfl, q1⟩⟩
end
/-! ### own defs -/
/-- the def x of the text, by its promise -/
def Has (P : Program) (w : World) (K : PySem.W.Frag) (mg : Str → Option Value) (base : Heap) (k : Nat) (x : Str) (ps : List Str) (sp : Sp) : Prop :=
  ∃ (f : Addr) (fd : FuncData), FnOk P w K mg base CX0 k f fd ps sp ∧ mg x = some (.ref f) ∧ PySem.W.keepIn K (.ref f) = true ∧ Binds K fd ps []
def cCall (sp : Sp) (t : TA) : TE := fun σ H Q => t σ H fun vs H1 => sp vs H1 Q E0
section
variable {X : Cx} {e : Expr} {es : List Expr} {t : TA} {x : Str} {p pos : Pos} {k : Nat} {ps : List Str} {sp : Sp}
theorem c_call (h : Has X.prog X.w X.K X.mg X.base k x ps sp) (hr : Room k X.A) (ha : PA X (e :: es) t) (hg : Gl X x := by rfl) (hdb : (x == ("__debug__" : Str)) = false := by decide) (he : starEach (e :: es) X.env = (false, eval e X.env) :: starEach es X.env := by rfl)
    (hpl : (backTo pos (starEach es X.env)).any (·.1) = false := by rfl) : PE X (.Call (.Name x p) (e :: es) [] pos) (cCall sp t) := by
  obtain ⟨f, fd, F, hm, hk, hb⟩ := h
  refine PEto (pe_call (E := E0) F hr hg hm hk hb .nil pass0 ha hdb he hpl) fun σ H Q q => ?_
  have e1 : tCall sp [] E0 t σ H Q = t σ H (fun vs H1 => sp (vs ++ []) H1 Q E0) := rfl
  rw [e1]
  simp only [List.append_nil]
  exact q
end
section
variable {X : Cx} {a b c e : Expr} {ta tb tc te : TE} {pos : Pos}
/-! ### subscripts -/
def rIxC (K : PySem.W.Frag) : R2 := fun x y H Q => match x, y with
  | .ref p, .int i => ∃ xs v, (SqL K H p xs ∨ SqT K H p xs) ∧ atI xs i = some v ∧ Q v H
  | .str z, .int i => ∃ c, z.length ≤ sizeLine ∧ atI z.cps.toList i = some c ∧ Q (.str ⟨#[c]⟩) H
  | _, _ => False
theorem c_ix {K : PySem.W.Frag} (hK : X.K = K) (ha : PE X a ta) (hb : PE X b tb) (hs : PlainIx b := by exact fun _ _ => rfl) : PE X (.Subscript a b pos) (cBin (rIxC K) ta tb) := by
  subst hK
  refine PEto (pe_ix ix_seq (PEup ha) (PEup hb) hs) fun σ H Q q => ?_
  refine ⟨_, q, fun x H1 q1 => ⟨_, q1, fun y H2 q2 => ?_⟩⟩
  unfold rIxC at q2
  split at q2
  · obtain ⟨xs, v, h, h1, q⟩ := q2
    rcases h with h | h
    · exact .inl ⟨_, xs, _, v, rfl, rfl, h, h1, q⟩
    · exact .inr (.inl ⟨_, xs, _, v, rfl, rfl, h, h1, q⟩)
  · obtain ⟨c, h, h1, q⟩ := q2
    exact .inr (.inr ⟨_, _, c, rfl, rfl, h, h1, q⟩)
  · exact q2.elim
/-! ### displays -/
theorem c_lst {es : List Expr} {t : TA} (h : PA X es t) : PE X (.List es pos) (tLst t) := pe_lst h
theorem c_tup {es : List Expr} {t : TA} {x1} (h : PA X es t) : PE X (.Tuple es x1 pos) (tTup t) := pe_tup h
/-! ### comprehensions of one clause -/
theorem wipe_one {σ : L2.St} {j : Nat} {x : V} : wipe ((wipe σ [j]).set j (some x)) [j] = wipe σ [j] := by
  show (((σ.set j none).set j (some x)).set j none) = σ.set j none
  rw [List.set_set, List.set_set]
/-- the source a list -/
def cLcL (K : PySem.W.Frag) (tl : TE) (j : Nat) (tt : TT) (te : TE) : TE := fun σ H Q => tl σ H fun x H1 => match x with
  | .ref a => ∃ xs, SqL K H1 a xs ∧ ∀ D, H1 D = none → ∃ Pv : Nat → Hp → Prop, Pv 0 (upd H1 D (.lst [])) ∧ (∀ i H, i ≤ xs.length → Pv i H → SqL K H a xs) ∧
      (∀ i x H, xs[i]? = some x → Pv i H → tt ((σ.set j none).set j (some x)) H fun b H3 => cCond b (te ((σ.set j none).set j (some x)) H3 fun y H4 => ∃ acc, H4 D = some (.lst acc) ∧ acc.length < sizeLine ∧ Pv (i + 1) (upd H4 D (.lst (acc ++ [y])))) (Pv (i + 1) H3)) ∧
      (∀ H, Pv xs.length H → Q (.ref D) H)
  | _ => False
/-- the source a text -/
def cLcS (tl : TE) (j : Nat) (tt : TT) (te : TE) : TE := fun σ H Q => tl σ H fun x H1 => match x with
  | .str z => ∀ D, H1 D = none → ∃ Pv : Nat → Hp → Prop, Pv 0 (upd H1 D (.lst [])) ∧
      (∀ i c H, z.cps[i]? = some c → Pv i H → tt ((σ.set j none).set j (some (.str ⟨#[c]⟩))) H fun b H3 => cCond b (te ((σ.set j none).set j (some (.str ⟨#[c]⟩))) H3 fun y H4 => ∃ acc, H4 D = some (.lst acc) ∧ acc.length < sizeLine ∧ Pv (i + 1) (upd H4 D (.lst (acc ++ [y])))) (Pv (i + 1) H3)) ∧
      (∀ H, Pv z.cps.size H → Q (.ref D) H)
  | _ => False
/-- the source range(n) -/
def cLcR (tl : TA) (j : Nat) (tt : TT) (te : TE) : TE := fun σ H Q => tl σ H fun vs H1 => match vs with
  | [.int n] => (-(2 ^ 62) ≤ n ∧ n < 2 ^ 62) ∧ ∀ D, H1 D = none → ∃ Pv : Nat → Hp → Prop, Pv 0 (upd H1 D (.lst [])) ∧
      (∀ (i : Nat) H, i < n.toNat → Pv i H → tt ((σ.set j none).set j (some (.int (i : Int)))) H fun b H3 => cCond b (te ((σ.set j none).set j (some (.int (i : Int)))) H3 fun y H4 => ∃ acc, H4 D = some (.lst acc) ∧ acc.length < sizeLine ∧ Pv (i + 1) (upd H4 D (.lst (acc ++ [y])))) (Pv (i + 1) H3)) ∧
      (∀ H, Pv n.toNat H → Q (.ref D) H)
  | _ => False
variable {elt iter : Expr} {ifs : List Expr} {scope : Scope} {v : Str} {j : Nat} {tt : TT} {vp : Pos}
theorem PTsup {X : Cx} {ifs : List Expr} {t : TT} (h : PTs X ifs t) : PTs X ifs (upT t) := ⟨fun pins s σ H Q I ⟨Q', q, m⟩ => thn (h.run pins s σ H Q' I q) fun b s' ⟨H', I', q'⟩ => ⟨H', I', m b H' q'⟩⟩
theorem lcTurn {tt : TT} {te : TE} {σ : L2.St} {H : Hp} {D : Addr} {Nx : Hp → Prop} (h : tt σ H fun b H3 => cCond b (te σ H3 fun y H4 => ∃ acc, H4 D = some (.lst acc) ∧ acc.length < sizeLine ∧ Nx (upd H4 D (.lst (acc ++ [y])))) (Nx H3)) :
    upT tt σ H fun b H3 => if b = true then te σ H3 fun y H4 => ∃ acc, H4 D = some (.lst acc) ∧ acc.length < sizeLine ∧ Nx (upd H4 D (.lst (acc ++ [y]))) else Nx H3 := ⟨_, h, fun b H' q => cCond_if q⟩
theorem c_lcL {K : PySem.W.Frag} (hK : X.K = K) (hl : PE X iter ta) (hN : X.N.Nodup) (hj : X.N[j]? = some v) (ok : blkC X.N X.env.scope scope [(v, j)] = true)
    (hv : ∀ (s : Shared) (H : Hp) (C : Addr) (cl : List (Str × Addr)) (fp : List Addr), PG (X.blk s H scope (compEnvC scope cl C X.env) fp) (.Name v vp) (gName j))
    (ht : ∀ (s : Shared) (H : Hp) (C : Addr) (cl : List (Str × Addr)) (fp : List Addr), PTs (X.blk s H scope (compEnvC scope cl C X.env) fp) ifs tt)
    (he : ∀ (s : Shared) (H : Hp) (C : Addr) (cl : List (Str × Addr)) (fp : List Addr), PE (X.blk s H scope (compEnvC scope cl C X.env) fp) elt te) (hc : X.calm = true := by rfl) (hs : ∀ x, foldedSetIterable iter X.env x = pure x := by intro _; rfl) :
    PE X (.ListComp elt [⟨.Name v vp, iter, ifs, 0⟩] scope pos) (cLcL K ta j tt te) := by
  subst hK
  refine PEto (pe_lc (own := [(v, j)]) (g := gName j) hc hN (pi_list (PEup hl)) (blkOk_by ok) hv (fun s H C cl fp => PTsup (ht s H C cl fp)) he hs) fun σ H Q q => ?_
  refine ⟨_, q, fun x H1 q1 => ?_⟩
  split at q1
  · obtain ⟨xs, hx, q1⟩ := q1
    refine ⟨_, rfl, ⟨xs, hx⟩, fun D hD => ?_⟩
    obtain ⟨Pv, h0, h1, h2, h3⟩ := q1 D hD
    refine lc_list (xs := xs) Pv h0 h1 (fun i x H hx p => ⟨wipe_one, lcTurn (h2 i x H hx p)⟩) h3
  · exact q1.elim
theorem c_lcS (hl : PE X iter ta) (hN : X.N.Nodup) (hj : X.N[j]? = some v) (ok : blkC X.N X.env.scope scope [(v, j)] = true)
    (hv : ∀ (s : Shared) (H : Hp) (C : Addr) (cl : List (Str × Addr)) (fp : List Addr), PG (X.blk s H scope (compEnvC scope cl C X.env) fp) (.Name v vp) (gName j))
    (ht : ∀ (s : Shared) (H : Hp) (C : Addr) (cl : List (Str × Addr)) (fp : List Addr), PTs (X.blk s H scope (compEnvC scope cl C X.env) fp) ifs tt)
    (he : ∀ (s : Shared) (H : Hp) (C : Addr) (cl : List (Str × Addr)) (fp : List Addr), PE (X.blk s H scope (compEnvC scope cl C X.env) fp) elt te) (hc : X.calm = true := by rfl) (hs : ∀ x, foldedSetIterable iter X.env x = pure x := by intro _; rfl) :
    PE X (.ListComp elt [⟨.Name v vp, iter, ifs, 0⟩] scope pos) (cLcS ta j tt te) := by
  refine PEto (pe_lc (own := [(v, j)]) (g := gName j) hc hN (pi_str (PEup hl)) (blkOk_by ok) hv (fun s H C cl fp => PTsup (ht s H C cl fp)) he hs) fun σ H Q q => ?_
  refine ⟨_, q, fun x H1 q1 => ?_⟩
  split at q1
  · refine ⟨_, rfl, fun D hD => ?_⟩
    obtain ⟨Pv, h0, h2, h3⟩ := q1 D hD
    refine lc_it walk_str Pv h0 (fun _ _ _ _ => trivial) (fun i x H H' hi p y => ?_) h3
    obtain ⟨rfl, c, hc, rfl⟩ := y
    exact ⟨wipe_one, lcTurn (h2 i c _ hc p)⟩
  · exact q1.elim
theorem c_lcR {ea : Expr} {tA : TA} {rp cp : Pos} (hl : PA X [ea] tA) (hm : X.mg "range" = none) (hN : X.N.Nodup) (hj : X.N[j]? = some v) (ok : blkC X.N X.env.scope scope [(v, j)] = true)
    (hv : ∀ (s : Shared) (H : Hp) (C : Addr) (cl : List (Str × Addr)) (fp : List Addr), PG (X.blk s H scope (compEnvC scope cl C X.env) fp) (.Name v vp) (gName j))
    (ht : ∀ (s : Shared) (H : Hp) (C : Addr) (cl : List (Str × Addr)) (fp : List Addr), PTs (X.blk s H scope (compEnvC scope cl C X.env) fp) ifs tt)
    (he : ∀ (s : Shared) (H : Hp) (C : Addr) (cl : List (Str × Addr)) (fp : List Addr), PE (X.blk s H scope (compEnvC scope cl C X.env) fp) elt te) (hg : Gl X "range" := by rfl) (hr : starEach [ea] X.env = [(false, eval ea X.env)] := by rfl) (hc : X.calm = true := by rfl)
    (hs : ∀ x, foldedSetIterable (.Call (.Name "range" rp) [ea] [] cp) X.env x = pure x := by intro _; rfl) :
    PE X (.ListComp elt [⟨.Name v vp, .Call (.Name "range" rp) [ea] [] cp, ifs, 0⟩] scope pos) (cLcR tA j tt te) := by
  refine PEto (pe_lc (own := [(v, j)]) (g := gName j) hc hN (pi_range1 hg hm (PAup hl) hr) (blkOk_by ok) hv (fun s H C cl fp => PTsup (ht s H C cl fp)) he hs) fun σ H Q q => ?_
  refine ⟨_, q, fun x H1 q1 => ?_⟩
  split at q1
  · rename_i n
    obtain ⟨⟨b1, b2⟩, q1⟩ := q1
    refine ⟨n, rfl, b1, b2, fun D hD => ?_⟩
    obtain ⟨Pv, h0, h2, h3⟩ := q1 D hD
    refine lc_range (n := n.toNat) Pv h0 (fun i H hi p => ⟨wipe_one, ?_⟩) h3
    have e : (0 : Int) + (i : Int) = (i : Int) := by omega
    rw [e]
    exact lcTurn (h2 i _ hi p)
  · exact q1.elim
/-! ### statements -/
def cIfS (c : TT) (t u : TS) : TS := fun D σ H => c σ H fun b H1 => cCond b (t D σ H1) (u D σ H1)
variable {t u tb' : TS} {st : Stmt} {rest body : List Stmt}
theorem s_if {c : Expr} {a b : List Stmt} {tc : TT} (hc : PT X c tc) (ha : PSs X a t) (hb : PSs X b u) : PS X (.If c a b pos) (cIfS tc t u) := PSto (ps_if (PTup hc) ha hb) fun D σ H q => ⟨_, q, fun c H1 q1 => cCond_if q1⟩
def cSet (te : TE) (i : Nat) : TS := fun D σ H => te σ H fun x H1 => D.nx (σ.set i (some x)) H1
theorem s_set (i : Nat) {x : Str} {e : Expr} {te : TE} {pos' : Pos} (hN : X.N.Nodup) (he : PE X e te) (hi : X.N[i]? = some x := by rfl) (hx : Loc X.env.scope x := by first | exact Or.inl rfl | exact Or.inr rfl) (hs : swapsWith e (some (.Name x pos')) pos.line X.env = pure false := by rfl)
    (hf : X.fn x = true ∨ X.env.scope.names.lookup x = some .local := by first | exact .inl rfl | exact .inr rfl | assumption) : PS X (.Assign [.Name x pos'] e pos) (cSet te i) := PSto (ps_set hN hi hx he hs hf) fun _ _ _ q => q
theorem s_ret (he : PE X e te) : PS X (.Return (some e) pos) (tRet te) := ps_ret he
theorem s_drop (he : PE X e te) (hs : swapsWith e none pos.line X.env = pure false := by rfl) : PS X (.Expr e pos) (tDrop te) := ps_expr he hs
/-- o[i] = e of a list -/
def rSet (o i x : V) (H : Hp) (Q : Hp → Prop) : Prop := match o, i with
  | .ref p, .int k => ∃ xs j, H p = some (.lst xs) ∧ ixN xs.length k = some j ∧ Q (upd H p (.lst (xs.set j x)))
  | _, _ => False
def cSetI (te to ti : TE) : TS := fun D σ H => te σ H fun x H1 => to σ H1 fun o H2 => ti σ H2 fun i H3 => rSet o i x H3 fun H4 => D.nx σ H4
theorem PGto {tg : Expr} {g g' : TG} (h : PG X tg g) (w : ∀ v σ H Q, g' v σ H Q → g v σ H Q) : PG X tg g' := ⟨fun pins s σ H v u Q I r q => h.run pins s σ H v u Q I r (w v σ H Q q)⟩
theorem s_setI {o i : Expr} {to ti : TE} {p : Pos} (he : PE X e te) (ho : PE X o to) (hi : PE X i ti)
    (ha : ∀ v, assign (.Subscript o i p) X.env v = (do
      let ov ← holding [v] (eval o X.env)
      let iv ← holding [v, ov] (eval i X.env)
      standAt p
      holding [v, ov, iv] (setItem ov iv v)
      release [v, ov, iv] []) := by intro _; rfl) (hs : swapsWithSole [.Subscript o i p] e pos.line X.env = pure false := by rfl) (hw : swappedStores [.Subscript o i p] e X.env = pure none := by rfl)
    (h1 : (assignEach [.Subscript o i p] X.env).map (·.2) = [assign (.Subscript o i p) X.env] := by rfl) : PS X (.Assign [.Subscript o i p] e pos) (cSetI te to ti) := by
  refine PSto (ps_asg (PEup he) (pg_sub (PEup ho) (PEup hi) set_list ha) hs hw h1) fun D σ H q => ?_
  refine ⟨_, q, fun x H1 q1 => ⟨_, q1, fun o H2 q2 => ⟨_, q2, fun i H3 q3 => ?_⟩⟩⟩
  unfold rSet at q3
  split at q3
  · obtain ⟨xs, j, h, h1, q⟩ := q3
    exact ⟨_, xs, _, j, rfl, rfl, h, h1, q⟩
  · exact q3.elim
/-- xs.append(e) -/
def rApp (l x : V) (H : Hp) (Q : Hp → Prop) : Prop := match l with
  | .ref p => ∃ xs, H p = some (.lst xs) ∧ xs.length < sizeLine ∧ Q (upd H p (.lst (xs ++ [x])))
  | _ => False
end
/-! ### loops -/
/-- the end of a turn -/
def turnD (D : Ends) (N : L2.St → Hp → Prop) : Ends := { D with nx := N, ct := N, bk := D.nx }
def cForL (K : PySem.W.Frag) (tl : TE) (j : Nat) (tb : TS) : TS := fun D σ H => tl σ H fun x H1 => match x with
  | .ref a => ∃ xs, SqL K H1 a xs ∧ ∃ Pv : Nat → L2.St → Hp → Prop, Pv 0 σ H1 ∧ (∀ i σ H, i ≤ xs.length → Pv i σ H → SqL K H a xs) ∧
      (∀ i x σ H, xs[i]? = some x → Pv i σ H → tb (turnD D (Pv (i + 1))) (σ.set j (some x)) H) ∧ (∀ σ H, Pv xs.length σ H → D.nx σ H)
  | _ => False
def cForS (tl : TE) (j : Nat) (tb : TS) : TS := fun D σ H => tl σ H fun x H1 => match x with
  | .str z => ∃ Pv : Nat → L2.St → Hp → Prop, Pv 0 σ H1 ∧
      (∀ i c σ H, z.cps[i]? = some c → Pv i σ H → tb (turnD D (Pv (i + 1))) (σ.set j (some (.str ⟨#[c]⟩))) H) ∧ (∀ σ H, Pv z.cps.size σ H → D.nx σ H)
  | _ => False
def cForR1 (tl : TA) (j : Nat) (tb : TS) : TS := fun D σ H => tl σ H fun vs H1 => match vs with
  | [.int n] => (-(2 ^ 62) ≤ n ∧ n < 2 ^ 62) ∧ ∃ Pv : Nat → L2.St → Hp → Prop, Pv 0 σ H1 ∧
      (∀ (i : Nat) σ H, i < n.toNat → Pv i σ H → tb (turnD D (Pv (i + 1))) (σ.set j (some (.int (i : Int)))) H) ∧ (∀ σ H, Pv n.toNat σ H → D.nx σ H)
  | _ => False
def cForR2 (tl : TA) (j : Nat) (tb : TS) : TS := fun D σ H => tl σ H fun vs H1 => match vs with
  | [.int lo, .int n] => (-(2 ^ 62) ≤ lo ∧ lo < 2 ^ 62 ∧ -(2 ^ 62) ≤ n ∧ n < 2 ^ 62) ∧ ∃ Pv : Nat → L2.St → Hp → Prop, Pv 0 σ H1 ∧
      (∀ (i : Nat) σ H, i < (n - lo).toNat → Pv i σ H → tb (turnD D (Pv (i + 1))) (σ.set j (some (.int (lo + (i : Int))))) H) ∧ (∀ σ H, Pv (n - lo).toNat σ H → D.nx σ H)
  | _ => False
section
variable {X : Cx} {pos : Pos} {iter : Expr} {v : Str} {vp : Pos} {j : Nat} {body : List Stmt} {tb : TS} {tl : TE} {tA : TA}
theorem s_forL {K : PySem.W.Frag} (hK : X.K = K) (j : Nat) (hl : PE X iter tl) (hN : X.N.Nodup) (hb : PSs X body tb) (hp : PassesOwn (model X.prog X.w) X.A X.env X.xe := by exact PassesOwn.never) (hc : X.calm = true := by rfl) (hj : X.N[j]? = some v := by rfl) (hx : Loc X.env.scope v := by first | exact Or.inl rfl | exact Or.inr rfl)
    (hf : X.fn v = true ∨ X.env.scope.names.lookup v = some .local := by first | exact .inl rfl | exact .inr rfl | assumption) (hs : ∀ x, foldedSetIterable iter X.env x = pure x := by intro _; rfl) : PS X (.For (.Name v vp) iter body [] pos) (cForL K tl j tb) := by
  subst hK
  refine PSto (ps_for hp hc (pi_list (PEup hl)) (pg_name (i := j) hN hj hx hf) hb hs) fun D σ H q => ?_
  refine ⟨_, q, fun x H1 q1 => ?_⟩
  split at q1
  · obtain ⟨xs, hx, Pv, h0, h1, h2, h3⟩ := q1
    exact ⟨_, rfl, ⟨xs, hx⟩, for_list (xs := xs) Pv h0 h1 (fun i x σ H hx p => h2 i x σ H hx p) h3⟩
  · exact q1.elim
theorem s_forS (j : Nat) (hl : PE X iter tl) (hN : X.N.Nodup) (hb : PSs X body tb) (hp : PassesOwn (model X.prog X.w) X.A X.env X.xe := by exact PassesOwn.never) (hc : X.calm = true := by rfl) (hj : X.N[j]? = some v := by rfl) (hx : Loc X.env.scope v := by first | exact Or.inl rfl | exact Or.inr rfl)
    (hf : X.fn v = true ∨ X.env.scope.names.lookup v = some .local := by first | exact .inl rfl | exact .inr rfl | assumption) (hs : ∀ x, foldedSetIterable iter X.env x = pure x := by intro _; rfl) : PS X (.For (.Name v vp) iter body [] pos) (cForS tl j tb) := by
  refine PSto (ps_for hp hc (pi_str (PEup hl)) (pg_name (i := j) hN hj hx hf) hb hs) fun D σ H q => ?_
  refine ⟨_, q, fun x H1 q1 => ?_⟩
  split at q1
  · obtain ⟨Pv, h0, h2, h3⟩ := q1
    refine ⟨_, rfl, for_it walk_str Pv h0 (fun _ _ _ _ _ => trivial) (fun i x σ H H' hi p y => ?_) h3⟩
    obtain ⟨rfl, c, hc, rfl⟩ := y
    exact h2 i c σ _ hc p
  · exact q1.elim
theorem s_forR1 (j : Nat) {ea : Expr} {rp cp : Pos} (hl : PA X [ea] tA) (hm : X.mg "range" = none) (hN : X.N.Nodup) (hb : PSs X body tb) (hp : PassesOwn (model X.prog X.w) X.A X.env X.xe := by exact PassesOwn.never) (hc : X.calm = true := by rfl) (hj : X.N[j]? = some v := by rfl)
    (hx : Loc X.env.scope v := by first | exact Or.inl rfl | exact Or.inr rfl) (hf : X.fn v = true ∨ X.env.scope.names.lookup v = some .local := by first | exact .inl rfl | exact .inr rfl | assumption) (hg : Gl X "range" := by rfl) (hr : starEach [ea] X.env = [(false, eval ea X.env)] := by rfl)
    (hs : ∀ x, foldedSetIterable (.Call (.Name "range" rp) [ea] [] cp) X.env x = pure x := by intro _; rfl) : PS X (.For (.Name v vp) (.Call (.Name "range" rp) [ea] [] cp) body [] pos) (cForR1 tA j tb) := by
  refine PSto (ps_for hp hc (pi_range1 hg hm (PAup hl) hr) (pg_name (i := j) hN hj hx hf) hb hs) fun D σ H q => ?_
  refine ⟨_, q, fun x H1 q1 => ?_⟩
  split at q1
  · rename_i n
    obtain ⟨⟨b1, b2⟩, Pv, h0, h2, h3⟩ := q1
    refine ⟨n, rfl, b1, b2, for_range (n := n.toNat) Pv h0 (fun i σ H hi p => ?_) h3⟩
    have e : (0 : Int) + (i : Int) = (i : Int) := by omega
    rw [e]
    exact h2 i σ H hi p
  · exact q1.elim
theorem s_forR2 (j : Nat) {ea eb : Expr} {rp cp : Pos} (hl : PA X [ea, eb] tA) (hm : X.mg "range" = none) (hN : X.N.Nodup) (hb : PSs X body tb) (hp : PassesOwn (model X.prog X.w) X.A X.env X.xe := by exact PassesOwn.never) (hc : X.calm = true := by rfl) (hj : X.N[j]? = some v := by rfl)
    (hx : Loc X.env.scope v := by first | exact Or.inl rfl | exact Or.inr rfl) (hf : X.fn v = true ∨ X.env.scope.names.lookup v = some .local := by first | exact .inl rfl | exact .inr rfl | assumption) (hg : Gl X "range" := by rfl)
    (hr : starEach [ea, eb] X.env = [(false, eval ea X.env), (false, eval eb X.env)] := by rfl) (hr2 : starEach [eb] X.env = [(false, eval eb X.env)] := by rfl)
    (hs : ∀ x, foldedSetIterable (.Call (.Name "range" rp) [ea, eb] [] cp) X.env x = pure x := by intro _; rfl) : PS X (.For (.Name v vp) (.Call (.Name "range" rp) [ea, eb] [] cp) body [] pos) (cForR2 tA j tb) := by
  refine PSto (ps_for hp hc (pi_range2 hg hm (PAup hl) hr hr2) (pg_name (i := j) hN hj hx hf) hb hs) fun D σ H q => ?_
  refine ⟨_, q, fun x H1 q1 => ?_⟩
  split at q1
  · rename_i lo n
    obtain ⟨b, Pv, h0, h2, h3⟩ := q1
    exact ⟨lo, n, rfl, b, for_range (lo := lo) (n := (n - lo).toNat) Pv h0 (fun i σ H hi p => h2 i σ H hi p) h3⟩
  · exact q1.elim
/-- xs.append(e), a statement -/
def cApp (to te : TE) : TS := fun D σ H => to σ H fun l H1 => match l with
  | .ref p => ∃ xs, H1 p = some (.lst xs) ∧ te σ H1 fun x H2 => ∃ ys, H2 p = some (.lst ys) ∧ ys.length < sizeLine ∧ D.nx σ (upd H2 p (.lst (ys ++ [x])))
  | _ => False
theorem s_app {o e : Expr} {to te : TE} {apos cpos : Pos} (ho : PE X o to) (he : PE X e te) (hbase : attributeBase o "append" X.env (eval o X.env) = eval o X.env := by rfl)
    (hfew : ((backTo cpos (starEach (e :: []) X.env)).all (fun x => !x.1) && (backToKw cpos (keywordEach [] X.env)).all (fun x => x.1.isSome)
      && decide ((e :: []).length + ([] : List Keyword).length + (if ([] : List Keyword).isEmpty then 0 else 1) < 30)) = true := by rfl)
    (hline : (apos.endLine == cpos.line) = true := by rfl) (hs : starEach (e :: []) X.env = (false, eval e X.env) :: starEach [] X.env := by rfl) (hplain : (backTo cpos (starEach [] X.env)).any (·.1) = false := by rfl)
    (hsw : swapsWith (.Call (.Attribute o "append" apos) [e] [] cpos) none pos.line X.env = pure false := by rfl) : PS X (.Expr (.Call (.Attribute o "append" apos) [e] [] cpos) pos) (cApp to te) := by
  refine PSto (ps_expr (pe_bm PySem.F.plainAttrs_list PySem.F.slot_list_append PySem.F.type_list_append mt_append (PEup ho) (pa_cons (PEup he) pa_nil hs) hbase hfew hline hs hplain) hsw) fun D σ H q => ?_
  refine ⟨_, q, fun x H1 q1 => ?_⟩
  split at q1
  · rename_i p
    obtain ⟨xs, h, q1⟩ := q1
    refine ⟨.inl ⟨rfl, _, SqL.of h⟩, ⟨_, q1, fun y H2 q2 => ?_⟩⟩
    obtain ⟨ys, h2, hz, q2⟩ := q2
    exact ⟨p, ys, y, rfl, rfl, h2, hz, q2⟩
  · exact q1.elim
end
end CW

namespace K1
open PySem PySem.Spec PyProof.Rows L2 CW
def topS (i : Nat) : Stmt := PySem.Challenge.pw_ripplewell_k01_values.main.body.getD i (.Pass ⟨0, 0, 0, 0⟩)
theorem boot_len : bootBuiltins "len" = some (.builtin "len") := by decide +kernel
theorem boot_abs : bootBuiltins "abs" = some (.builtin "abs") := by decide +kernel
theorem boot_all : bootBuiltins "all" = some (.builtin "all") := by decide +kernel
theorem boot_isinstance : bootBuiltins "isinstance" = some (.builtin "isinstance") := by decide +kernel
theorem boot_int : bootBuiltins "int" = some (.type "int") := by decide +kernel
theorem boot_str : bootBuiltins "str" = some (.type "str") := by decide +kernel
theorem boot_bool : bootBuiltins "bool" = some (.type "bool") := by decide +kernel
theorem boot_type : bootBuiltins "type" = some (.type "type") := by decide +kernel
/-- what the module's names hold -/
structure Gs (mg : Str → Option Value) (u1 u2 u3 : Tok) : Prop where
  n_len : mg "len" = none
  n_abs : mg "abs" = none
  n_all : mg "all" = none
  n_isinstance : mg "isinstance" = none
  n_int : mg "int" = none
  n_str : mg "str" = none
  n_bool : mg "bool" = none
  n_type : mg "type" = none
  n_range : mg "range" = none
  c_GREATEST_NUMBER : mg "GREATEST_NUMBER" = some (.int 999 u1)
  c_LONGEST_TEXT : mg "LONGEST_TEXT" = some (.int 40 u2)
  c_LONGEST_KEY : mg "LONGEST_KEY" = some (.int 8 u3)
/-- things that are asked -/
inductive Th (K : PySem.W.Frag) (H : Hp) : V → Prop where
  | non : Th K H .non
  | bl (b : Bool) : Th K H (.bl b)
  | int (i : Int) : Th K H (.int i)
  | str (x : Str) (h : x.length ≤ 100) : Th K H (.str x)
  | lst {a : Addr} {xs : List V} (h : SqL K H a xs) : Th K H (.ref a)
  | tup {a : Addr} {xs : List V} (h : SqT K H a xs) : Th K H (.ref a)
  | dK {a : Addr} {kvs : List (Key × V)} (h : H a = some (.dK kvs)) : Th K H (.ref a)
/-- values -/
inductive Gv : V → Prop where
  | non : Gv .non
  | bl (b : Bool) : Gv (.bl b)
  | int (i : Int) (h0 : 0 ≤ i) (h1 : i ≤ 999) : Gv (.int i)
  | str (x : Str) (h : x.length ≤ 40) : Gv (.str x)
theorem Gv.th {K : PySem.W.Frag} {H : Hp} {v : V} (g : Gv v) : Th K H v := by
  cases g with
  | non => exact .non
  | bl b => exact .bl b
  | int i h0 h1 => exact .int i
  | str x h => exact .str x (by omega)
def isVal : V → Bool
  | .non => true
  | .bl _ => true
  | .int i => decide (0 ≤ i) && decide (i ≤ 999)
  | .str x => decide ((x.length : Int) ≤ 40)
  | _ => false
theorem isVal_gv {v : V} (g : Gv v) : isVal v = true := by
  cases g with
  | non => rfl
  | bl b => rfl
  | int i h0 h1 => simp [isVal, h0, h1]
  | str x h => simp only [isVal, decide_eq_true_eq]; omega
def lt (c : Nat) : Bool := decide (97 ≤ c) && decide (c ≤ 122)
def isKeyS (x : Str) : Bool := (decide (1 ≤ (x.length : Int)) && decide ((x.length : Int) ≤ 8)) && x.cps.toList.all lt
def isKey : V → Bool
  | .str x => isKeyS x
  | _ => false
def eqv : V → V → Bool
  | .non, .non => true
  | .int i, .int j => decide (i = j)
  | .bl i, .bl j => decide (i = j)
  | .str i, .str j => decide (i = j)
  | _, _ => false
def txt : V → Str
  | .non => "none"
  | .bl false => "false"
  | .bl true => "true"
  | .int i => (toString i : String)
  | .str x => x
  | _ => ""
def emp : V → Bool
  | .non => true
  | .bl b => !b
  | .int i => !(i != 0)
  | .str x => !((x.length : Int) != 0)
  | _ => false
def isb : V → Bool
  | .bl _ => true
  | _ => false
theorem log_small {i : Int} (h0 : 0 ≤ i) (h1 : i ≤ 999) : i.natAbs.log2 < 1920 := by
  have h2 : i.natAbs ≤ 999 := by omega
  have h3 : i.natAbs.log2 ≤ i.natAbs := Nat.log2_le_self _
  omega
theorem same_upd {H : Hp} {p : Addr} {o : HO} (h : H p = none) : Same H (upd H p o) := fun b x e => by
  rw [upd_ne (ne_of_none e h)]
  exact e
theorem same_upd2 {H H' : Hp} {p : Addr} {o : HO} (s : Same H H') (h : H p = none) : Same H (upd H' p o) := fun b x e => by
  rw [upd_ne (ne_of_none e h)]
  exact s b x e
section
variable {P : Program} {w : World} {K : PySem.W.Frag} {mg : Str → Option Value} {base : Heap} {u1 u2 u3 : Tok}
/-! ### is_value -/
abbrev s_is_value : Stmt := topS 4
theorem sc_is_value : FnScope ["thing"] ["thing"] (defScope s_is_value) := ⟨rfl, rfl, rfl, by decide +kernel, rfl, by decide +kernel, by decide +kernel⟩
def sp_is_value (K : PySem.W.Frag) : Sp := fun vs H Q _ => match vs with
  | [v] => Th K H v ∧ Q (.bl (isVal v)) H
  | _ => False
theorem ok_is_value {f : Addr} {fd : FuncData} (F : Fun K "is_value" "is_value" s_is_value f fd) (G : Gs mg u1 u2 u3) : FnOk P w K mg base CX0 1 f fd ["thing"] (sp_is_value K) := by
  refine F.ok sc_is_value (fun vs H Q E h => ?_) (fun cdv A outer s H vs Q E hr h => ?_)
  · unfold sp_is_value at h
    split at h
    · rfl
    · exact h.elim
  · unfold sp_is_value at h
    split at h
    case h_2 => exact h.elim
    case h_1 v =>
      obtain ⟨hv, k⟩ := h
      refine ⟨_, (pss_cons (s_if (PW.pt (w_or (t_cmp o_is (c_var 0) pe_non) (w_or (t_cmp o_is (c_var 0) pe_bl) (w_or1 (t_cmp o_is (c_var 0) pe_bl))))) (pss_one (s_ret pe_bl)) pss_nil)
    (pss_cons (s_if (t_cmp o_eq (c_ty (b_type (K := K) rfl) G.n_type boot_type (pa_cons (c_var 0) pa_nil)) (c_tyv G.n_int boot_int)) (pss_one (s_ret (c_chain o_le o_le pe_int (c_var 0) (c_int G.c_GREATEST_NUMBER)))) pss_nil)
    (pss_one (s_ret (c_and (c_cmp o_eq (c_ty (b_type (K := K) rfl) G.n_type boot_type (pa_cons (c_var 0) pa_nil)) (c_tyv G.n_str boot_str)) (c_one (c_cmp o_le (c_bi (b_len (K := K) rfl) G.n_len boot_len (pa_cons (c_var 0) pa_nil)) (c_int G.c_LONGEST_TEXT)))))))), ?_⟩
      cases hv with
      | non => exact k
      | bl b => cases b <;> exact k
      | int i =>
        refine ⟨TypeEq.meta_int, TypeEq.meta_int, Gen.yes (by decide) ?_⟩
        refine Gen.dec (fun h => ?_) (fun h => ?_)
        · refine Gen.sub ?_
          have e : isVal (.int i) = decide (i ≤ 999) := by simp [isVal, h]
          rw [e] at k
          exact k
        · have e : isVal (.int i) = false := by simp [isVal, h]
          rw [e] at k
          exact k
      | str x h =>
        refine ⟨TypeEq.meta_str, TypeEq.meta_int, Gen.no (by decide) ?_⟩
        refine ⟨TypeEq.meta_str, TypeEq.meta_str, Gen.yes (by decide) ?_⟩
        exact ⟨Nat.le_trans h (by decide), Gen.sub k⟩
      | lst h =>
        refine ⟨_, .lst h, TypeEq.meta_list, TypeEq.meta_int, Gen.no (by decide) ?_⟩
        exact ⟨_, .lst h, TypeEq.meta_list, TypeEq.meta_str, Gen.no (by decide) k⟩
      | tup h =>
        refine ⟨_, .tup h, TypeEq.meta_tuple, TypeEq.meta_int, Gen.no (by decide) ?_⟩
        exact ⟨_, .tup h, TypeEq.meta_tuple, TypeEq.meta_str, Gen.no (by decide) k⟩
      | dK h =>
        refine ⟨_, .dK h, TypeEq.meta_dict, TypeEq.meta_int, Gen.no (by decide) ?_⟩
        exact ⟨_, .dK h, TypeEq.meta_dict, TypeEq.meta_str, Gen.no (by decide) k⟩
/-! ### is_key -/
abbrev s_is_key : Stmt := topS 5
theorem sc_is_key : FnScope ["thing", "letter"] ["thing"] (defScope s_is_key) := ⟨rfl, rfl, rfl, by decide +kernel, rfl, by decide +kernel, by decide +kernel⟩
def sp_is_key (K : PySem.W.Frag) : Sp := fun vs H Q _ => match vs with
  | [v] => Th K H v ∧ ∀ H', Same H H' → Q (.bl (isKey v)) H'
  | _ => False
theorem lt_lo {c : Nat} : ((⟨#[c]⟩ : Str).cps.toList < ("a" : Str).cps.toList) ↔ c < 97 := by
  show [c] < [97] ↔ c < 97
  rw [List.cons_lt_cons_iff]
  simp
theorem lt_hi {c : Nat} : (("z" : Str).cps.toList < (⟨#[c]⟩ : Str).cps.toList) ↔ 122 < c := by
  show [122] < [c] ↔ 122 < c
  rw [List.cons_lt_cons_iff]
  simp
theorem ok_is_key {f : Addr} {fd : FuncData} (F : Fun K "is_key" "is_key" s_is_key f fd) (G : Gs mg u1 u2 u3) : FnOk P w K mg base CX0 1 f fd ["thing"] (sp_is_key K) := by
  refine F.ok sc_is_key (fun vs H Q E h => ?_) (fun cdv A outer s H vs Q E hr h => ?_)
  · unfold sp_is_key at h
    split at h
    · rfl
    · exact h.elim
  · unfold sp_is_key at h
    split at h
    case h_2 => exact h.elim
    case h_1 v =>
      obtain ⟨hv, k⟩ := h
      refine ⟨_, (pss_cons (s_if (PW.pt (w_or (t_cmp o_ne (c_ty (b_type (K := K) rfl) G.n_type boot_type (pa_cons (c_var 0) pa_nil)) (c_tyv G.n_str boot_str)) (w_or1 (t_not (t_chain o_le o_le pe_int (c_bi (b_len (K := K) rfl) G.n_len boot_len (pa_cons (c_var 0) pa_nil)) (c_int G.c_LONGEST_KEY)))))) (pss_one (s_ret pe_bl)) pss_nil)
    (pss_one (s_ret (c_bi (cr_all rfl) G.n_all boot_all (pa_cons (c_lcS (c_var 0) sc_is_key.nd rfl (by show blkC ["thing", "letter"] (defScope s_is_key) _ [("letter", 1)] = true; decide +kernel) (fun _ _ _ _ _ => pg_name (i := 1) sc_is_key.nd rfl (Or.inl rfl)) (fun _ _ _ _ _ => pts_nil) (fun _ _ _ _ _ => (c_chain o_le o_le pe_str (c_var 1) pe_str))) pa_nil))))), ?_⟩
      cases hv with
      | non => exact ⟨TypeEq.meta_NoneType, TypeEq.meta_str, Gen.no (by decide) (k H (Same.refl H))⟩
      | bl b => exact ⟨TypeEq.meta_bool, TypeEq.meta_str, Gen.no (by decide) (k H (Same.refl H))⟩
      | int i => exact ⟨TypeEq.meta_int, TypeEq.meta_str, Gen.no (by decide) (k H (Same.refl H))⟩
      | lst h => exact ⟨_, .lst h, TypeEq.meta_list, TypeEq.meta_str, Gen.no (by decide) (k H (Same.refl H))⟩
      | tup h => exact ⟨_, .tup h, TypeEq.meta_tuple, TypeEq.meta_str, Gen.no (by decide) (k H (Same.refl H))⟩
      | dK h => exact ⟨_, .dK h, TypeEq.meta_dict, TypeEq.meta_str, Gen.no (by decide) (k H (Same.refl H))⟩
      | str x h =>
        refine ⟨TypeEq.meta_str, TypeEq.meta_str, Gen.yes (by decide) ?_⟩
        refine ⟨Nat.le_trans h (by decide), Gen.dec (fun h1 => Gen.dec (fun h2 => ?_) (fun h2 => ?_)) (fun h1 => ?_)⟩
        · -- the letters
          intro D hD
          refine ⟨fun i H' => Same H H' ∧ H' D = some (.lst ((x.cps.toList.take i).map fun c => V.bl (lt c))), ⟨same_upd hD, upd_same⟩, fun i c H' hc p => ?_, fun H' p => ?_⟩
          · obtain ⟨s1, e1⟩ := p
            have hc' : x.cps.toList[i]? = some c := by rw [Array.getElem?_toList]; exact hc
            have el : (x.cps.toList.take (i + 1)).map (fun c => V.bl (lt c)) = (x.cps.toList.take i).map (fun c => V.bl (lt c)) ++ [V.bl (lt c)] := by
              rw [List.take_add_one, hc', List.map_append]
              rfl
            have ln : ((x.cps.toList.take i).map fun c => V.bl (lt c)).length < sizeLine := by
              rw [List.length_map, List.length_take]
              have : x.cps.toList.length = x.length := by simp [Str.length]
              exact Nat.lt_of_le_of_lt (Nat.min_le_right _ _) (small1000 (by omega))
            refine Gen.ndec (fun h3 => ?_) (fun h3 => Gen.ndec (fun h4 => ?_) (fun h4 => ?_))
            · have e : lt c = false := by
                have := lt_lo.mp h3
                simp only [lt, Bool.and_eq_false_iff, decide_eq_false_iff_not]; omega
              refine ⟨_, e1, ln, same_upd2 s1 hD, ?_⟩
              rw [upd_same, el, e]
            · have e : lt c = false := by
                have := lt_hi.mp h4
                simp only [lt, Bool.and_eq_false_iff, decide_eq_false_iff_not]; omega
              refine ⟨_, e1, ln, same_upd2 s1 hD, ?_⟩
              rw [upd_same, el, e]
            · have e : lt c = true := by
                have h5 : ¬ c < 97 := fun z => h3 (lt_lo.mpr z)
                have h6 : ¬ 122 < c := fun z => h4 (lt_hi.mpr z)
                simp only [lt, Bool.and_eq_true, decide_eq_true_eq]; omega
              refine ⟨_, e1, ln, same_upd2 s1 hD, ?_⟩
              rw [upd_same, el, e]
          · obtain ⟨s1, e1⟩ := p
            have e2 : x.cps.toList.take x.cps.size = x.cps.toList := List.take_of_length_le (by simp)
            rw [e2] at e1
            refine ⟨D, x.cps.toList.map lt, rfl, SqL.of (by rw [e1, List.map_map]; rfl), ?_⟩
            have e3 : isKey (.str x) = (x.cps.toList.map lt).all id := by
              show isKeyS x = _
              unfold isKeyS
              rw [decide_eq_true h1, decide_eq_true h2, List.all_map]
              rfl
            have k1 := k H' s1
            rw [e3] at k1
            exact k1
        · have e3 : isKey (.str x) = false := by
            show isKeyS x = _
            unfold isKeyS
            rw [decide_eq_false h2]
            simp
          have k1 := k H (Same.refl H)
          rw [e3] at k1
          exact k1
        · have e3 : isKey (.str x) = false := by
            show isKeyS x = _
            unfold isKeyS
            rw [decide_eq_false h1]
            simp
          have k1 := k H (Same.refl H)
          rw [e3] at k1
          exact k1
/-! ### equal -/
abbrev s_equal : Stmt := topS 6
theorem sc_equal : FnScope ["one", "two"] ["one", "two"] (defScope s_equal) := ⟨rfl, rfl, rfl, by decide +kernel, rfl, by decide +kernel, by decide +kernel⟩
def sp_equal : Sp := fun vs H Q _ => match vs with
  | [a, b] => Gv a ∧ Gv b ∧ Q (.bl (eqv a b)) H
  | _ => False
theorem ok_equal {f : Addr} {fd : FuncData} (F : Fun K "equal" "equal" s_equal f fd) (G : Gs mg u1 u2 u3) : FnOk P w K mg base CX0 1 f fd ["one", "two"] sp_equal := by
  refine F.ok sc_equal (fun vs H Q E h => ?_) (fun cdv A outer s H vs Q E hr h => ?_)
  · unfold sp_equal at h
    split at h
    · rfl
    · exact h.elim
  · unfold sp_equal at h
    split at h
    case h_2 => exact h.elim
    case h_1 a b =>
      obtain ⟨ha, hb, k⟩ := h
      refine ⟨_, (pss_one (s_ret (c_and (c_cmp o_eq (c_isi b_isB G.n_isinstance G.n_bool boot_bool (PEup (c_var 0))) (c_isi b_isB G.n_isinstance G.n_bool boot_bool (PEup (c_var 1)))) (c_one (c_cmp o_eq (c_var 0) (c_var 1)))))), ?_⟩
      cases ha <;> cases hb <;> first
        | exact Gen.no rfl k
        | exact Gen.yes rfl k
        | exact Gen.yes rfl (by refine Gen.sub ?_; exact k)
/-! ### text_of -/
abbrev s_text_of : Stmt := topS 7
theorem sc_text_of : FnScope ["value"] ["value"] (defScope s_text_of) := ⟨rfl, rfl, rfl, by decide +kernel, rfl, by decide +kernel, by decide +kernel⟩
def sp_text_of : Sp := fun vs H Q _ => match vs with
  | [a] => Gv a ∧ Q (.str (txt a)) H
  | _ => False
theorem ok_text_of {f : Addr} {fd : FuncData} (F : Fun K "text_of" "text_of" s_text_of f fd) (G : Gs mg u1 u2 u3) : FnOk P w K mg base CX0 1 f fd ["value"] sp_text_of := by
  refine F.ok sc_text_of (fun vs H Q E h => ?_) (fun cdv A outer s H vs Q E hr h => ?_)
  · unfold sp_text_of at h
    split at h
    · rfl
    · exact h.elim
  · unfold sp_text_of at h
    split at h
    case h_2 => exact h.elim
    case h_1 a =>
      obtain ⟨ha, k⟩ := h
      refine ⟨_, (pss_cons (s_if (t_cmp o_is (c_var 0) pe_non) (pss_one (s_ret pe_str)) pss_nil)
    (pss_cons (s_if (t_cmp o_is (c_var 0) pe_bl) (pss_one (s_ret pe_str)) pss_nil)
    (pss_cons (s_if (t_cmp o_is (c_var 0) pe_bl) (pss_one (s_ret pe_str)) pss_nil)
    (pss_one (s_ret (c_ty b_str G.n_str boot_str (pa_cons (c_var 0) pa_nil))))))), ?_⟩
      cases ha with
      | non => exact k
      | bl b => cases b <;> exact k
      | int i h0 h1 => exact ⟨log_small h0 h1, k⟩
      | str x h => exact k
/-! ### is_empty -/
abbrev s_is_empty : Stmt := topS 8
theorem sc_is_empty : FnScope ["value"] ["value"] (defScope s_is_empty) := ⟨rfl, rfl, rfl, by decide +kernel, rfl, by decide +kernel, by decide +kernel⟩
def sp_is_empty : Sp := fun vs H Q _ => match vs with
  | [a] => Gv a ∧ Q (.bl (emp a)) H
  | _ => False
theorem ok_is_empty {f : Addr} {fd : FuncData} (F : Fun K "is_empty" "is_empty" s_is_empty f fd) (G : Gs mg u1 u2 u3) : FnOk P w K mg base CX0 1 f fd ["value"] sp_is_empty := by
  refine F.ok sc_is_empty (fun vs H Q E h => ?_) (fun cdv A outer s H vs Q E hr h => ?_)
  · unfold sp_is_empty at h
    split at h
    · rfl
    · exact h.elim
  · unfold sp_is_empty at h
    split at h
    case h_2 => exact h.elim
    case h_1 a =>
      obtain ⟨ha, k⟩ := h
      refine ⟨_, (pss_one (s_ret (c_not (K := K) rfl (c_var 0)))), ?_⟩
      cases ha with
      | non => exact k
      | bl b => exact k
      | int i h0 h1 => exact Gen.sub k
      | str x h => exact ⟨Nat.le_trans h (by decide), Gen.sub k⟩
/-! ### _law_cell -/
abbrev s__law_cell : Stmt := topS 10
theorem sc__law_cell : FnScope ["script", "k"] ["script", "k"] (defScope s__law_cell) := ⟨rfl, rfl, rfl, by decide +kernel, rfl, by decide +kernel, by decide +kernel⟩
def sp__law_cell (K : PySem.W.Frag) : Sp := fun vs H Q _ => match vs with
  | [.ref a, .int k] => ∃ ns : List Int, SqL K H a (ns.map V.int) ∧ 0 ≤ k ∧ Q (.int (ns.getD k.toNat 0)) H
  | _ => False
theorem ok__law_cell {f : Addr} {fd : FuncData} (F : Fun K "_law_cell" "_law_cell" s__law_cell f fd) (G : Gs mg u1 u2 u3) : FnOk P w K mg base CX0 1 f fd ["script", "k"] (sp__law_cell K) := by
  refine F.ok sc__law_cell (fun vs H Q E h => ?_) (fun cdv A outer s H vs Q E hr h => ?_)
  · unfold sp__law_cell at h
    split at h
    · rfl
    · exact h.elim
  · unfold sp__law_cell at h
    split at h
    case h_2 => exact h.elim
    case h_1 a i =>
      obtain ⟨ns, hs, h0, k⟩ := h
      refine ⟨_, (pss_cons (s_if (t_cmp o_lt (c_var 1) (c_bi (b_len (K := K) rfl) G.n_len boot_len (pa_cons (c_var 0) pa_nil))) (pss_one (s_ret (c_ix (K := K) rfl (c_var 0) (c_var 1)))) pss_nil)
    (pss_one (s_ret pe_int))), ?_⟩
      refine .inl ⟨_, .inl hs, Gen.dec (fun h1 => ?_) (fun h1 => ?_)⟩
      · rw [List.length_map] at h1
        have h2 : i.toNat < ns.length := by omega
        have e : ns.getD i.toNat 0 = ns[i.toNat] := by
          rw [List.getD_eq_getElem?_getD, List.getElem?_eq_getElem h2]
          rfl
        rw [e] at k
        refine ⟨_, .int ns[i.toNat], .inl hs, ?_, k⟩
        have e2 : i = (i.toNat : Int) := by omega
        have e3 : atI (ns.map V.int) (i.toNat : Int) = some (.int ns[i.toNat]) := atI_nat (by rw [List.getElem?_map, List.getElem?_eq_getElem h2]; rfl)
        rw [← e2] at e3
        exact e3
      · rw [List.length_map] at h1
        have e : ns.getD i.toNat 0 = 0 := by
          rw [List.getD_eq_getElem?_getD, List.getElem?_eq_none (by omega)]
          rfl
        rw [e] at k
        exact k
/-! ### _law_is_bool -/
abbrev s__law_is_bool : Stmt := topS 14
theorem sc__law_is_bool : FnScope ["v"] ["v"] (defScope s__law_is_bool) := ⟨rfl, rfl, rfl, by decide +kernel, rfl, by decide +kernel, by decide +kernel⟩
def sp__law_is_bool : Sp := fun vs H Q _ => match vs with
  | [a] => Gv a ∧ Q (.bl (isb a)) H
  | _ => False
theorem ok__law_is_bool {f : Addr} {fd : FuncData} (F : Fun K "_law_is_bool" "_law_is_bool" s__law_is_bool f fd) (G : Gs mg u1 u2 u3) : FnOk P w K mg base CX0 1 f fd ["v"] sp__law_is_bool := by
  refine F.ok sc__law_is_bool (fun vs H Q E h => ?_) (fun cdv A outer s H vs Q E hr h => ?_)
  · unfold sp__law_is_bool at h
    split at h
    · rfl
    · exact h.elim
  · unfold sp__law_is_bool at h
    split at h
    case h_2 => exact h.elim
    case h_1 a =>
      obtain ⟨ha, k⟩ := h
      refine ⟨_, (pss_one (s_ret (c_or (c_cmp o_is (c_var 0) pe_bl) (c_one (c_cmp o_is (c_var 0) pe_bl))))), ?_⟩
      cases ha with
      | bl b => cases b <;> exact k
      | _ => exact k
/-! ### _law_is -/
abbrev s__law_is : Stmt := topS 20
theorem sc__law_is : FnScope ["told", "due"] ["told", "due"] (defScope s__law_is) := ⟨rfl, rfl, rfl, by decide +kernel, rfl, by decide +kernel, by decide +kernel⟩
def sp__law_is : Sp := fun vs H Q _ => match vs with
  | [.bl a, .bl b] => And True (Q (.bl (decide (a = b))) H)
  | _ => False
theorem ok__law_is {f : Addr} {fd : FuncData} (F : Fun K "_law_is" "_law_is" s__law_is f fd) (G : Gs mg u1 u2 u3) : FnOk P w K mg base CX0 1 f fd ["told", "due"] sp__law_is := by
  refine F.ok sc__law_is (fun vs H Q E h => ?_) (fun cdv A outer s H vs Q E hr h => ?_)
  · unfold sp__law_is at h
    split at h
    · rfl
    · exact h.elim
  · unfold sp__law_is at h
    split at h
    case h_2 => exact h.elim
    case h_1 a b =>
      obtain ⟨_, k⟩ := h
      refine ⟨_, (pss_one (s_ret (c_and (c_isi b_isB G.n_isinstance G.n_bool boot_bool (PEup (c_var 0))) (c_one (c_cmp o_eq (c_var 0) (c_var 1)))))), ?_⟩
      exact Gen.sub k
/-! ### _law_equal -/
abbrev s__law_equal : Stmt := topS 16
theorem sc__law_equal : FnScope ["a", "b"] ["a", "b"] (defScope s__law_equal) := ⟨rfl, rfl, rfl, by decide +kernel, rfl, by decide +kernel, by decide +kernel⟩
def sp__law_equal : Sp := fun vs H Q _ => match vs with
  | [a, b] => Gv a ∧ Gv b ∧ Q (.bl (eqv a b)) H
  | _ => False
theorem ok__law_equal {f : Addr} {fd : FuncData} (F : Fun K "_law_equal" "_law_equal" s__law_equal f fd) (G : Gs mg u1 u2 u3) (C__law_is_bool : Has P w K mg base 1 "_law_is_bool" ["v"] sp__law_is_bool) : FnOk P w K mg base CX0 2 f fd ["a", "b"] sp__law_equal := by
  refine F.ok sc__law_equal (fun vs H Q E h => ?_) (fun cdv A outer s H vs Q E hr h => ?_)
  · unfold sp__law_equal at h
    split at h
    · rfl
    · exact h.elim
  · unfold sp__law_equal at h
    split at h
    case h_2 => exact h.elim
    case h_1 a b =>
      obtain ⟨ha, hb, k⟩ := h
      refine ⟨_, (pss_cons (s_if (PW.pt (w_or (t_cmp o_is (c_var 0) pe_non) (w_or1 (t_cmp o_is (c_var 1) pe_non)))) (pss_one (s_ret (c_and (c_cmp o_is (c_var 0) pe_non) (c_one (c_cmp o_is (c_var 1) pe_non))))) pss_nil)
    (pss_cons (s_if (PW.pt (w_or (t_tru (K := K) rfl (c_isi b_isS G.n_isinstance G.n_str boot_str (PEup (c_var 0)))) (w_or1 (t_tru (K := K) rfl (c_isi b_isS G.n_isinstance G.n_str boot_str (PEup (c_var 1))))))) (pss_one (s_ret (c_and (c_isi b_isS G.n_isinstance G.n_str boot_str (PEup (c_var 0))) (c_and (c_isi b_isS G.n_isinstance G.n_str boot_str (PEup (c_var 1))) (c_one (c_cmp o_eq (c_var 0) (c_var 1))))))) pss_nil)
    (pss_one (s_ret (c_and (c_cmp o_eq (c_call C__law_is_bool (hr.mono (by decide)) (pa_cons (c_var 0) pa_nil)) (c_call C__law_is_bool (hr.mono (by decide)) (pa_cons (c_var 1) pa_nil))) (c_one (c_cmp o_eq (c_var 0) (c_var 1)))))))), ?_⟩
      have ga := ha
      have gb := hb
      cases ha <;> cases hb <;> first
        | exact k
        | exact Gen.sub k
        | (refine ⟨ga, gb, ?_⟩; first | exact Gen.no rfl k | exact Gen.yes rfl k | exact Gen.yes rfl (by refine Gen.sub ?_; exact k))
/-! ### _law_text -/
abbrev s__law_text : Stmt := topS 17
theorem sc__law_text : FnScope ["v"] ["v"] (defScope s__law_text) := ⟨rfl, rfl, rfl, by decide +kernel, rfl, by decide +kernel, by decide +kernel⟩
def sp__law_text : Sp := fun vs H Q _ => match vs with
  | [a] => Gv a ∧ ∀ H', Same H H' → Q (.str (txt a)) H'
  | _ => False
theorem ok__law_text {f : Addr} {fd : FuncData} (F : Fun K "_law_text" "_law_text" s__law_text f fd) (G : Gs mg u1 u2 u3) (C__law_is_bool : Has P w K mg base 1 "_law_is_bool" ["v"] sp__law_is_bool) : FnOk P w K mg base CX0 2 f fd ["v"] sp__law_text := by
  refine F.ok sc__law_text (fun vs H Q E h => ?_) (fun cdv A outer s H vs Q E hr h => ?_)
  · unfold sp__law_text at h
    split at h
    · rfl
    · exact h.elim
  · unfold sp__law_text at h
    split at h
    case h_2 => exact h.elim
    case h_1 a =>
      obtain ⟨ha, k⟩ := h
      refine ⟨_, (pss_cons (s_if (t_cmp o_is (c_var 0) pe_non) (pss_one (s_ret pe_str)) pss_nil)
    (pss_cons (s_if (t_tru (K := K) rfl (c_call C__law_is_bool (hr.mono (by decide)) (pa_cons (c_var 0) pa_nil))) (pss_one (s_ret (c_ix (K := K) rfl (c_lst (pa_cons pe_str (pa_cons pe_str pa_nil))) (c_ty b_int G.n_int boot_int (pa_cons (c_var 0) pa_nil))))) pss_nil)
    (pss_one (s_ret (c_ty b_str G.n_str boot_str (pa_cons (c_var 0) pa_nil)))))), ?_⟩
      cases ha with
      | non => exact k H (Same.refl H)
      | bl b =>
        refine ⟨.bl b, by decide, fun p hp => ?_⟩
        cases b
        · exact ⟨_, _, .inl (SqL.of upd_same), rfl, k _ (same_upd hp)⟩
        · exact ⟨_, _, .inl (SqL.of upd_same), rfl, k _ (same_upd hp)⟩
      | int i h0 h1 => exact ⟨.int i h0 h1, log_small h0 h1, k H (Same.refl H)⟩
      | str x h => exact ⟨.str x h, k H (Same.refl H)⟩
/-! ### _law_key -/
abbrev s__law_key : Stmt := topS 19
theorem sc__law_key : FnScope ["v", "sign"] ["v"] (defScope s__law_key) := ⟨rfl, rfl, rfl, by decide +kernel, rfl, by decide +kernel, by decide +kernel⟩
def sp__law_key : Sp := fun vs H Q _ => match vs with
  | [a] => Gv a ∧ Q (.bl (isKey a)) H
  | _ => False
theorem abc_mem {c : Nat} : decide (c ∈ ("abcdefghijklmnopqrstuvwxyz" : Str).cps.toList) = lt c := by
  have e : ("abcdefghijklmnopqrstuvwxyz" : Str).cps.toList = [97, 98, 99, 100, 101, 102, 103, 104, 105, 106, 107, 108, 109, 110, 111, 112, 113, 114, 115, 116, 117, 118, 119, 120, 121, 122] := by decide +kernel
  rw [e]
  unfold lt
  rw [Bool.eq_iff_iff]
  simp only [decide_eq_true_eq, Bool.and_eq_true, List.mem_cons, List.not_mem_nil, or_false]
  omega
theorem ok__law_key {f : Addr} {fd : FuncData} (F : Fun K "_law_key" "_law_key" s__law_key f fd) (G : Gs mg u1 u2 u3) : FnOk P w K mg base CX0 1 f fd ["v"] sp__law_key := by
  refine F.ok sc__law_key (fun vs H Q E h => ?_) (fun cdv A outer s H vs Q E hr h => ?_)
  · unfold sp__law_key at h
    split at h
    · rfl
    · exact h.elim
  · unfold sp__law_key at h
    split at h
    case h_2 => exact h.elim
    case h_1 a =>
      obtain ⟨ha, k⟩ := h
      refine ⟨_, (pss_cons (s_if (PW.pt (w_or (t_not (t_tru (K := K) rfl (c_isi b_isS G.n_isinstance G.n_str boot_str (PEup (c_var 0))))) (w_or (t_cmp o_lt (c_bi (b_len (K := K) rfl) G.n_len boot_len (pa_cons (c_var 0) pa_nil)) pe_int) (w_or1 (t_cmp o_gt (c_bi (b_len (K := K) rfl) G.n_len boot_len (pa_cons (c_var 0) pa_nil)) pe_int))))) (pss_one (s_ret pe_bl)) pss_nil)
    (pss_cons (s_forS 1 (c_var 0) sc__law_key.nd (pss_one (s_if (t_cmp o_notInS1 (c_var 1) pe_str) (pss_one (s_ret pe_bl)) pss_nil)))
    (pss_one (s_ret pe_bl)))), ?_⟩
      cases ha with
      | non => exact k
      | bl b => exact k
      | int i h0 h1 => exact k
      | str x h =>
        have e0 : isKey (.str x) = isKeyS x := rfl
        rw [e0] at k
        refine ⟨Nat.le_trans h (by decide), Gen.dec (fun h1 => ?_) (fun h1 => ⟨Nat.le_trans h (by decide), Gen.dec (fun h2 => ?_) (fun h2 => ?_)⟩)⟩
        · have e3 : isKeyS x = false := by
            unfold isKeyS
            rw [decide_eq_false (show ¬ (1 : Int) ≤ x.length by omega)]
            rfl
          rw [e3] at k
          exact k
        · have e3 : isKeyS x = false := by
            unfold isKeyS
            rw [decide_eq_false (show ¬ (x.length : Int) ≤ 8 by omega)]
            simp
          rw [e3] at k
          exact k
        · have e3 : isKeyS x = x.cps.toList.all lt := by
            unfold isKeyS
            rw [decide_eq_true (show (1 : Int) ≤ x.length by omega), decide_eq_true (show (x.length : Int) ≤ 8 by omega)]
            rfl
          rw [e3] at k
          refine ⟨fun i σ H' => ∃ y, σ = [some (.str x), y] ∧ H' = H ∧ (x.cps.toList.take i).all lt = true, ⟨none, rfl, rfl, rfl⟩, fun i c σ H' hc p => ?_, fun σ H' p => ?_⟩
          · obtain ⟨y, rfl, rfl, p⟩ := p
            have hc' : x.cps.toList[i]? = some c := by rw [Array.getElem?_toList]; exact hc
            refine ⟨c, rfl, Gen.cases (fun h3 => ?_) (fun h3 => ?_)⟩
            · rw [abc_mem] at h3
              have e4 : x.cps.toList.all lt = false := by
                rw [List.all_eq_false]
                refine ⟨c, List.mem_of_getElem? hc', ?_⟩
                simpa using h3
              rw [e4] at k
              exact k
            · rw [abc_mem] at h3
              refine ⟨_, rfl, rfl, ?_⟩
              rw [List.take_add_one, hc', List.all_append, p]
              simpa using h3
          · obtain ⟨y, rfl, rfl, p⟩ := p
            have e2 : x.cps.toList.take x.cps.size = x.cps.toList := List.take_of_length_le (by simp)
            rw [e2] at p
            rw [p] at k
            exact k
/-! ### _law_empty -/
abbrev s__law_empty : Stmt := topS 18
theorem sc__law_empty : FnScope ["v", "x"] ["v"] (defScope s__law_empty) := ⟨rfl, rfl, rfl, by decide +kernel, rfl, by decide +kernel, by decide +kernel⟩
def sp__law_empty : Sp := fun vs H Q _ => match vs with
  | [a] => Gv a ∧ ∀ H', Same H H' → Q (.bl (emp a)) H'
  | _ => False
def empties : List V := [.non, .bl false, .int 0, .str ""]
theorem empties_gv {x : V} (h : x ∈ empties) : Gv x := by
  simp only [empties, List.mem_cons, List.not_mem_nil, or_false] at h
  rcases h with rfl | rfl | rfl | rfl
  · exact .non
  · exact .bl _
  · exact .int 0 (by omega) (by omega)
  · exact .str _ (by decide)
theorem emp_eq {a : V} (g : Gv a) : decide ((0 : Int) < ((empties.filter (eqv a)).length : Int)) = emp a := by
  cases g with
  | non => rfl
  | bl b => cases b <;> rfl
  | int i h0 h1 =>
    show decide ((0 : Int) < ((List.filter (eqv (.int i)) [.non, .bl false, .int 0, .str ""]).length : Int)) = !(i != 0)
    by_cases e : i = 0
    · subst e
      rfl
    · have e1 : List.filter (eqv (.int i)) [.non, .bl false, .int 0, .str ""] = [] := by
        simp [List.filter, eqv, e]
      rw [e1]
      simp [e]
  | str x h =>
    show decide ((0 : Int) < ((List.filter (eqv (.str x)) [.non, .bl false, .int 0, .str ""]).length : Int)) = !((x.length : Int) != 0)
    by_cases e : x = ""
    · subst e
      rfl
    · have e1 : List.filter (eqv (.str x)) [.non, .bl false, .int 0, .str ""] = [] := by
        simp [List.filter, eqv, e]
      have e2 : x.length ≠ 0 := fun z => e (by
        obtain ⟨c⟩ := x
        have z' : c.size = 0 := z
        have z2 : c = #[] := Array.eq_empty_of_size_eq_zero z'
        subst z2
        rfl)
      rw [e1]
      have e3 : ((x.length : Int) != 0) = true := by simpa using e2
      rw [e3]
      rfl
theorem ok__law_empty {f : Addr} {fd : FuncData} (F : Fun K "_law_empty" "_law_empty" s__law_empty f fd) (G : Gs mg u1 u2 u3) (C__law_equal : Has P w K mg base 2 "_law_equal" ["a", "b"] sp__law_equal) : FnOk P w K mg base CX0 3 f fd ["v"] sp__law_empty := by
  refine F.ok sc__law_empty (fun vs H Q E h => ?_) (fun cdv A outer s H vs Q E hr h => ?_)
  · unfold sp__law_empty at h
    split at h
    · rfl
    · exact h.elim
  · unfold sp__law_empty at h
    split at h
    case h_2 => exact h.elim
    case h_1 a =>
      obtain ⟨ha, k⟩ := h
      refine ⟨_, (pss_one (s_ret (c_cmp o_gt (c_bi (b_len (K := K) rfl) G.n_len boot_len (pa_cons (c_lcL (K := K) rfl (c_lst (pa_cons pe_non (pa_cons pe_bl (pa_cons pe_int (pa_cons pe_str pa_nil))))) sc__law_empty.nd rfl (by show blkC ["v", "x"] (defScope s__law_empty) _ [("x", 1)] = true; decide +kernel) (fun _ _ _ _ _ => pg_name (i := 1) sc__law_empty.nd rfl (Or.inl rfl)) (fun _ _ _ _ _ => pts_one (t_tru (K := K) rfl (c_call C__law_equal (hr.mono (by decide)) (pa_cons (c_var 0) (pa_cons (c_var 1) pa_nil))))) (fun _ _ _ _ _ => (c_var 1))) pa_nil)) pe_int))), ?_⟩
      refine ⟨by decide, fun L hL => ?_⟩
      refine ⟨empties, SqL.of upd_same, fun D hD => ?_⟩
      have nLD : L ≠ D := fun e => by
        rw [← e, upd_same] at hD
        cases hD
      have hD0 : H D = Option.none := by
        rw [upd_ne nLD.symm] at hD
        exact hD
      refine ⟨fun i H' => Same H H' ∧ H' L = some (.lst empties) ∧ H' D = some (.lst ((empties.take i).filter (eqv a))), ⟨same_upd2 (same_upd hL) hD0, ?_, upd_same⟩, fun i H' _ p => SqL.of p.2.1, fun i x H' hx p => ?_, fun H' p => ?_⟩
      · rw [upd_ne nLD, upd_same]
        rfl
      · obtain ⟨s1, e1, e2⟩ := p
        have hm : x ∈ empties := List.mem_of_getElem? hx
        have ln : ((empties.take i).filter (eqv a)).length < sizeLine := Nat.lt_of_le_of_lt (Nat.le_trans (List.length_filter_le _ _) (by rw [List.length_take]; exact Nat.min_le_right _ _)) (by decide)
        refine ⟨ha, empties_gv hm, ?_⟩
        cases he : eqv a x
        · refine ⟨s1, e1, ?_⟩
          rw [e2, List.take_add_one, hx, List.filter_append]
          simp [he]
        · refine ⟨_, e2, ln, same_upd2 s1 hD0, ?_, ?_⟩
          · rw [upd_ne nLD]
            exact e1
          · rw [upd_same, List.take_add_one, hx, List.filter_append]
            simp [he]
      · obtain ⟨s1, e1, e2⟩ := p
        have e3 : empties.take empties.length = empties := List.take_length
        rw [e3] at e2
        refine .inl ⟨_, .inl (SqL.of e2), Gen.sub ?_⟩
        rw [emp_eq ha]
        exact k H' s1
/-! ### _law_row -/
abbrev s__law_row : Stmt := topS 11
theorem sc__law_row : FnScope ["script", "first", "last", "row", "k", "cell", "turn"] ["script", "first", "last"] (defScope s__law_row) := ⟨rfl, rfl, rfl, by decide +kernel, rfl, by decide +kernel, by decide +kernel⟩
def sp__law_row (K : PySem.W.Frag) : Sp := fun vs H Q _ => match vs with
  | [.ref a, .int lo, .int hi] => ∃ ns : List Int, SqL K H a (ns.map V.int) ∧ 0 ≤ lo ∧ lo ≤ 10 ∧ (0 ≤ hi ∧ hi ≤ 10) ∧ ∀ (r : Addr) (row : List Int) (H' : Hp), Same H H' → H r = none → H' r = some (.lst (row.map V.int)) → Q (.ref r) H'
  | _ => False
theorem len_lt {row : List Int} {n : Nat} (h : row.length ≤ n) (hn : n ≤ 1000) : (row.map V.int).length < sizeLine := by
  rw [List.length_map]
  exact small1000 (Nat.le_trans h hn)
theorem map_snoc (row : List Int) (x : Int) : row.map V.int ++ [V.int x] = (row ++ [x]).map V.int := by
  rw [List.map_append]
  rfl
theorem ok__law_row {f : Addr} {fd : FuncData} (F : Fun K "_law_row" "_law_row" s__law_row f fd) (G : Gs mg u1 u2 u3) (C__law_cell : Has P w K mg base 1 "_law_cell" ["script", "k"] (sp__law_cell K)) : FnOk P w K mg base CX0 2 f fd ["script", "first", "last"] (sp__law_row K) := by
  refine F.ok sc__law_row (fun vs H Q E h => ?_) (fun cdv A outer s H vs Q E hr h => ?_)
  · unfold sp__law_row at h
    split at h
    · rfl
    · exact h.elim
  · unfold sp__law_row at h
    split at h
    case h_2 => exact h.elim
    case h_1 a lo hi =>
      obtain ⟨ns, hs, l0, l1, l2, k⟩ := h
      refine ⟨_, (pss_cons (s_set 3 sc__law_row.nd (c_lst pa_nil))
    (pss_cons (s_forR2 4 (pa_cons (c_var 1) (pa_cons (c_var 2) pa_nil)) G.n_range sc__law_row.nd (pss_cons (s_set 5 sc__law_row.nd (c_call C__law_cell (hr.mono (by decide)) (pa_cons (c_var 0) (pa_cons (c_var 4) pa_nil))))
    (pss_cons (s_set 5 sc__law_row.nd (c_bin o_add (c_bi b_abs G.n_abs boot_abs (pa_cons (c_bin o_mul pe_int (c_var 5)) pa_nil)) (c_ty b_int G.n_int boot_int (pa_cons (c_cmp o_lt (c_var 5) pe_int) pa_nil))))
    (pss_one (s_if (t_cmp o_gt (c_var 5) (c_bin o_pow pe_int pe_int)) (pss_one (s_forR1 6 (pa_cons pe_int pa_nil) G.n_range sc__law_row.nd (pss_one (s_if (t_cmp o_gt (c_var 5) pe_int) (pss_cons (s_app (c_var 3) (c_bin o_mod (c_ty b_int G.n_int boot_int (pa_cons (c_var 5) pa_nil)) pe_int))
    (pss_one (s_set 5 sc__law_row.nd (c_bin o_fdiv (c_var 5) pe_int)))) pss_nil)))) (pss_one (s_forR1 6 (pa_cons pe_int pa_nil) G.n_range sc__law_row.nd (pss_cons (s_set 5 sc__law_row.nd (c_bin o_mod (c_ty b_int G.n_int boot_int (pa_cons (c_bin o_add (c_bin o_add (c_bin o_mul (c_var 5) pe_int) (c_bin o_mul pe_int (c_bin o_add (c_var 4) (c_var 6)))) pe_int) pa_nil)) pe_int))
    (pss_one (s_app (c_var 3) (c_bin o_mod (c_ty b_int G.n_int boot_int (pa_cons (c_bin o_fdiv (c_var 5) pe_int) pa_nil)) pe_int)))))))))))
    (pss_one (s_ret (c_var 3))))), ?_⟩
      refine ⟨by decide, fun r hr => ?_⟩
      have sr : Same H (upd H r (.lst [])) := same_upd hr
      refine ⟨by omega, fun i σ H' => ∃ (row : List Int) (vk vc vt : Option V), σ = [some (.ref a), some (.int lo), some (.int hi), some (.ref r), vk, vc, vt] ∧ Same H H' ∧ H' r = some (.lst (row.map V.int)) ∧ row.length ≤ 60 * i,
        ⟨[], none, none, none, rfl, sr, upd_same, Nat.le_refl _⟩, fun i σ H1 hi1 p => ?_, fun σ H1 p => ?_⟩
      · obtain ⟨row, vk, vc, vt, rfl, s1, e1, g1⟩ := p
        have ii : i < 10 := by omega
        -- cell = _law_cell(script, k)
        refine ⟨ns, s1.seq hs, by omega, ?_⟩
        generalize ns.getD (lo + (i : Int)).toNat 0 = c
        -- cell = abs(2 * cell) + int(cell < 0)
        refine ⟨.inl (by decide), ?_⟩
        refine Gen.sub ?_
        generalize hc : (if 2 * c < 0 then -(2 * c) else 2 * c) + (if decide (c < 0) = true then 1 else 0) = c1
        -- if cell > 10 ** 18
        refine ⟨⟨by decide, by decide, by decide⟩, Gen.dec (fun _ => ?_) (fun _ => ?_)⟩
        · refine ⟨by decide, fun j σ H' => ∃ (row : List Int) (c2 : Int) (vt : Option V), σ = [some (.ref a), some (.int lo), some (.int hi), some (.ref r), some (.int (lo + (i : Int))), some (.int c2), vt] ∧ Same H H' ∧ H' r = some (.lst (row.map V.int)) ∧ row.length ≤ 60 * i + j,
            ⟨row, c1, vt, by rw [← hc]; rfl, s1, e1, by omega⟩, fun j σ H2 hj p => ?_, fun σ H2 p => ?_⟩
          · obtain ⟨row2, c2, vt2, rfl, s2, e2, g2⟩ := p
            have jj : j < 60 := by omega
            refine Gen.dec (fun _ => ?_) (fun _ => ?_)
            · refine ⟨_, e2, by decide, _, e2, len_lt g2 (by omega), ⟨by decide, by decide⟩, ?_⟩
              refine ⟨row2 ++ [c2 % 840], c2 / 840, _, rfl, same_upd2 s2 hr, ?_, ?_⟩
              · rw [upd_same, map_snoc]
              · rw [List.length_append, List.length_singleton]
                omega
            · exact ⟨_, _, _, rfl, s2, e2, by omega⟩
          · obtain ⟨row2, c2, vt2, rfl, s2, e2, g2⟩ := p
            have : (60 : Int).toNat = 60 := rfl
            exact ⟨row2, _, _, _, rfl, s2, e2, by rw [this] at g2; omega⟩
        · refine ⟨by decide, fun j σ H' => ∃ (row : List Int) (c2 : Int) (vt : Option V), σ = [some (.ref a), some (.int lo), some (.int hi), some (.ref r), some (.int (lo + (i : Int))), some (.int c2), vt] ∧ Same H H' ∧ H' r = some (.lst (row.map V.int)) ∧ row.length ≤ 60 * i + j,
            ⟨row, c1, vt, by rw [← hc]; rfl, s1, e1, by omega⟩, fun j σ H2 hj p => ?_, fun σ H2 p => ?_⟩
          · obtain ⟨row2, c2, vt2, rfl, s2, e2, g2⟩ := p
            have jj : j < 10 := by omega
            refine ⟨.inr (by decide), .inl (by decide), by decide, _, e2, ⟨by decide, by decide⟩, by decide, _, e2, len_lt g2 (by omega), ?_⟩
            refine ⟨row2 ++ [(c2 * 69069 + 104729 * (lo + (i : Int) + (j : Int)) + 1) % 4294967291 / 5003 % 840], _, _, rfl, same_upd2 s2 hr, ?_, ?_⟩
            · rw [upd_same, map_snoc]
            · rw [List.length_append, List.length_singleton]
              omega
          · obtain ⟨row2, c2, vt2, rfl, s2, e2, g2⟩ := p
            have : (10 : Int).toNat = 10 := rfl
            exact ⟨row2, _, _, _, rfl, s2, e2, by rw [this] at g2; omega⟩
      · obtain ⟨row, vk, vc, vt, rfl, s1, e1, g1⟩ := p
        exact k r row H1 s1 hr e1
/-! ### _law_draw -/
abbrev s__law_draw : Stmt := topS 12
theorem sc__law_draw : FnScope ["box", "many", "at"] ["box", "many"] (defScope s__law_draw) := ⟨rfl, rfl, rfl, by decide +kernel, rfl, by decide +kernel, by decide +kernel⟩
/-- the box at b: its row at r, its place -/
def BoxAt (H : Hp) (b r : Addr) (at' : Int) (row : List Int) : Prop := H b = some (.lst [.ref r, .int at']) ∧ H r = some (.lst (row.map V.int)) ∧ 0 ≤ at' ∧ r ≠ b
def sp__law_draw (K : PySem.W.Frag) : Sp := fun vs H Q _ => match vs with
  | [.ref b, .int m] => ∃ (r : Addr) (at' : Int) (row : List Int), BoxAt H b r at' row ∧ 0 < m ∧ ∀ d : Int, 0 ≤ d → d < m → Q (.int d) (upd H b (.lst [.ref r, .int (at' + 1)]))
  | _ => False
theorem ok__law_draw {f : Addr} {fd : FuncData} (F : Fun K "_law_draw" "_law_draw" s__law_draw f fd) (G : Gs mg u1 u2 u3) : FnOk P w K mg base CX0 1 f fd ["box", "many"] (sp__law_draw K) := by
  refine F.ok sc__law_draw (fun vs H Q E h => ?_) (fun cdv A outer s H vs Q E hr h => ?_)
  · unfold sp__law_draw at h
    split at h
    · rfl
    · exact h.elim
  · unfold sp__law_draw at h
    split at h
    case h_2 => exact h.elim
    case h_1 b m =>
      obtain ⟨r, at', row, ⟨e1, e2, h0, hn⟩, hm, k⟩ := h
      refine ⟨_, (pss_cons (s_set 2 sc__law_draw.nd (c_ix (K := K) rfl (c_var 0) pe_int))
    (pss_cons (s_setI (c_bin o_add (c_var 2) pe_int) (c_var 0) pe_int)
    (pss_cons (s_if (t_cmp o_lt (c_var 2) (c_bi (b_len (K := K) rfl) G.n_len boot_len (pa_cons (c_ix (K := K) rfl (c_var 0) pe_int) pa_nil))) (pss_one (s_ret (c_bin o_mod (c_ty b_int G.n_int boot_int (pa_cons (c_ix (K := K) rfl (c_ix (K := K) rfl (c_var 0) pe_int) (c_var 2)) pa_nil)) (c_var 1)))) pss_nil)
    (pss_one (s_ret (c_bin o_mod (c_ty b_int G.n_int boot_int (pa_cons (c_bin o_add (c_bin o_mul (c_var 2) pe_int) pe_int) pa_nil)) (c_var 1))))))), ?_⟩
      -- at = box[1]; box[1] = at + 1
      refine ⟨_, .int at', .inl (SqL.of e1), rfl, ?_⟩
      refine ⟨_, 1, e1, rfl, ?_⟩
      have e3 : (upd H b (.lst [.ref r, .int (at' + 1)])) r = some (.lst (row.map V.int)) := by
        rw [upd_ne hn]
        exact e2
      -- if at < len(box[0])
      refine ⟨_, .ref r, .inl (SqL.of upd_same), rfl, .inl ⟨_, .inl (SqL.of e3), Gen.dec (fun h1 => ?_) (fun h1 => ?_)⟩⟩
      · rw [List.length_map] at h1
        have h2 : at'.toNat < row.length := by omega
        refine ⟨_, .ref r, .inl (SqL.of upd_same), rfl, ?_⟩
        refine ⟨_, .int row[at'.toNat], .inl (SqL.of e3), ?_, hm, ?_⟩
        · have ea : at' = (at'.toNat : Int) := by omega
          have e4 : atI (row.map V.int) (at'.toNat : Int) = some (.int row[at'.toNat]) := atI_nat (by rw [List.getElem?_map, List.getElem?_eq_getElem h2]; rfl)
          rw [← ea] at e4
          exact e4
        · exact k _ (Int.emod_nonneg _ (by omega)) (Int.emod_lt_of_pos _ hm)
      · exact ⟨.inr (by decide), hm, k _ (Int.emod_nonneg _ (by omega)) (Int.emod_lt_of_pos _ hm)⟩
/-! ### _law_value -/
abbrev s__law_value : Stmt := topS 13
theorem sc__law_value : FnScope ["box"] ["box"] (defScope s__law_value) := ⟨rfl, rfl, rfl, by decide +kernel, rfl, by decide +kernel, by decide +kernel⟩
/-- all but b stands -/
def But (b : Addr) (H H' : Hp) : Prop := ∀ c o, c ≠ b → H c = some o → H' c = some o
theorem But.trans {b : Addr} {H H1 H2 : Hp} (s : But b H H1) (t : But b H1 H2) : But b H H2 := fun c o n e => t c o n (s c o n e)
def sp__law_value (K : PySem.W.Frag) : Sp := fun vs H Q _ => match vs with
  | [.ref b] => ∃ (r : Addr) (at' : Int) (row : List Int), BoxAt H b r at' row ∧ ∀ (v : V) (H' : Hp), Gv v → But b H H' → BoxAt H' b r (at' + 1) row → Q v H'
  | _ => False
theorem mul_x : Txt.mul "x" 39 = "xxxxxxxxxxxxxxxxxxxxxxxxxxxxxxxxxxxxxxx" := by decide +kernel
theorem mul_y : Txt.mul "y" 40 = "yyyyyyyyyyyyyyyyyyyyyyyyyyyyyyyyyyyyyyyy" := by decide +kernel
def menu : List V := [.non, .bl false, .bl true, .int 0, .int 1, .int 2, .int 3, .int 7, .int 999, .str "", .str "a", .str "b", .str "ab", .str "1", .str (Txt.mul "x" 39), .str (Txt.mul "y" 40)]
theorem menu_gv {x : V} (h : x ∈ menu) : Gv x := by
  simp only [menu, List.mem_cons, List.not_mem_nil, or_false] at h
  rcases h with rfl | rfl | rfl | rfl | rfl | rfl | rfl | rfl | rfl | rfl | rfl | rfl | rfl | rfl | rfl | rfl
  all_goals first
    | exact .non
    | exact .bl _
    | exact .int _ (by omega) (by omega)
    | exact .str _ (by decide)
    | exact .str _ (by rw [mul_x]; decide)
    | exact .str _ (by rw [mul_y]; decide)
theorem small_mul {z : Str} {n : Int} (h1 : z.length = 1) (h2 : 0 ≤ n) (h3 : n ≤ 100) : MulOk z n := by
  refine ⟨?_, fun a b => ?_, fun a b => ?_⟩
  · have e1 : ¬ n < -(2 ^ 63 : Int) := by omega
    have e2 : ¬ n ≥ 2 ^ 63 := by omega
    rw [decide_eq_false e1, decide_eq_false e2]
    rfl
  · rw [h1]
    have : (1 : Int) ≤ (2 ^ 63 - 1) / n := by
      rw [Int.le_ediv_iff_mul_le (by omega)]
      omega
    omega
  · rw [h1]
    have h4 : 1 * n.toNat ≤ 1000 := by omega
    have h5 := small1000 h4
    show decide (1 * n.toNat > sizeLine) = false
    exact decide_eq_false (by omega)
theorem ok__law_value {f : Addr} {fd : FuncData} (F : Fun K "_law_value" "_law_value" s__law_value f fd) (G : Gs mg u1 u2 u3) (C__law_draw : Has P w K mg base 1 "_law_draw" ["box", "many"] (sp__law_draw K)) : FnOk P w K mg base CX0 2 f fd ["box"] (sp__law_value K) := by
  refine F.ok sc__law_value (fun vs H Q E h => ?_) (fun cdv A outer s H vs Q E hr h => ?_)
  · unfold sp__law_value at h
    split at h
    · rfl
    · exact h.elim
  · unfold sp__law_value at h
    split at h
    case h_2 => exact h.elim
    case h_1 b =>
      obtain ⟨r, at', row, ⟨e1, e2, h0, hn⟩, k⟩ := h
      refine ⟨_, (pss_one (s_ret (c_ix (K := K) rfl (c_lst (pa_cons pe_non (pa_cons pe_bl (pa_cons pe_bl (pa_cons pe_int (pa_cons pe_int (pa_cons pe_int (pa_cons pe_int (pa_cons pe_int (pa_cons pe_int (pa_cons pe_str (pa_cons pe_str (pa_cons pe_str (pa_cons pe_str (pa_cons pe_str (pa_cons (c_bin o_mul pe_str pe_int) (pa_cons (c_bin o_mul pe_str pe_int) pa_nil))))))))))))))))) (c_call C__law_draw (hr.mono (by decide)) (pa_cons (c_var 0) (pa_cons pe_int pa_nil)))))), ?_⟩
      refine ⟨small_mul (by decide) (by decide) (by decide), small_mul (by decide) (by decide) (by decide), by decide, fun p hp => ?_⟩
      have npb : b ≠ p := ne_of_none e1 hp
      have npr : r ≠ p := ne_of_none e2 hp
      refine ⟨r, at', row, ⟨by rw [upd_ne npb]; exact e1, by rw [upd_ne npr]; exact e2, h0, hn⟩, by decide, fun d d0 d1 => ?_⟩
      have h2 : d.toNat < menu.length := by
        have : menu.length = 16 := rfl
        omega
      have e5 : (upd (upd H p (.lst menu)) b (.lst [.ref r, .int (at' + 1)])) p = some (.lst menu) := by
        rw [upd_ne npb.symm, upd_same]
      refine ⟨menu, menu[d.toNat], .inl (SqL.of e5), ?_, k _ _ (menu_gv (List.getElem_mem h2)) ?_ ⟨upd_same, ?_, by omega, hn⟩⟩
      · have ea : d = (d.toNat : Int) := by omega
        have e4 : atI menu (d.toNat : Int) = some menu[d.toNat] := atI_nat (List.getElem?_eq_getElem h2)
        rw [← ea] at e4
        exact e4
      · intro c o nc ec
        rw [upd_ne nc, upd_ne (ne_of_none ec hp)]
        exact ec
      · rw [upd_ne hn, upd_ne npr]
        exact e2
/-! ### law -/
abbrev s_law : Stmt := topS 21
theorem sc_law : FnScope ["script", "box", "values", "k", "v", "other", "cell", "thing", "text"] ["script"] (defScope s_law) := ⟨rfl, rfl, rfl, by decide +kernel, rfl, by decide +kernel, by decide +kernel⟩
theorem foldl_size (c : Array Nat) : ∀ (n : Nat) (a : Array Nat), ((List.replicate n c).foldl (· ++ ·) a).size = a.size + n * c.size
  | 0, a => by simp
  | n + 1, a => by
    rw [List.replicate_succ, List.foldl_cons, foldl_size c n, Array.size_append, Nat.succ_mul]
    omega
theorem mul_len {z : Str} {n : Int} (h1 : z.length = 1) : (Txt.mul z n).length = n.toNat := by
  unfold Txt.mul
  by_cases h : n < 1
  · rw [if_pos h]
    have : n.toNat = 0 := by omega
    rw [this]
    rfl
  · rw [if_neg h]
    by_cases h2 : (n == 1 || z.length == 0) = true
    · rw [if_pos h2, h1]
      rw [h1] at h2
      have : n = 1 := by simpa using h2
      subst this
      rfl
    · rw [if_neg h2]
      show ((List.replicate n.toNat z.cps).foldl (· ++ ·) #[]).size = n.toNat
      rw [foldl_size]
      have : z.cps.size = 1 := h1
      rw [this]
      simp
theorem Th.same {H H' : Hp} {v : V} (t : Th K H v) (s : Same H H') : Th K H' v := by
  cases t with
  | non => exact .non
  | bl b => exact .bl b
  | int i => exact .int i
  | str x h => exact .str x h
  | lst h => exact .lst (s.seq h)
  | tup h =>
    rcases h with (h | ⟨o, h⟩) | h
    · exact .tup (.inl (.inl (s _ _ h)))
    · exact .tup (.inl (.inr ⟨o, s _ _ h⟩))
    · exact .tup (.inr h)
  | dK h => exact .dK (s _ _ h)
def sp_law (K : PySem.W.Frag) : Sp := fun vs H Q _ => match vs with
  | [.ref a] => ∃ ns : List Int, SqL K H a (ns.map V.int) ∧ ∀ H', Q (.bl true) H'
  | _ => False
def texts : List V := [.str "abcdefgh", .str "abcdefghi", .str "A", .str "a1", .str "z", .str "", .str "a b", .str "_"]
theorem texts_gv {x : V} (h : x ∈ texts) : Gv x := by
  simp only [texts, List.mem_cons, List.not_mem_nil, or_false] at h
  rcases h with rfl | rfl | rfl | rfl | rfl | rfl | rfl | rfl
  all_goals exact .str _ (by decide)
theorem self_eq {b : Bool} : decide (b = b) = true := decide_eq_true rfl
theorem ok_law {f : Addr} {fd : FuncData} (F : Fun K "law" "law" s_law f fd) (G : Gs mg u1 u2 u3) (C_is_value : Has P w K mg base 1 "is_value" ["thing"] (sp_is_value K)) (C_is_key : Has P w K mg base 1 "is_key" ["thing"] (sp_is_key K)) (C_equal : Has P w K mg base 1 "equal" ["one", "two"] sp_equal) (C_text_of : Has P w K mg base 1 "text_of" ["value"] sp_text_of) (C_is_empty : Has P w K mg base 1 "is_empty" ["value"] sp_is_empty) (C__law_cell : Has P w K mg base 1 "_law_cell" ["script", "k"] (sp__law_cell K)) (C__law_row : Has P w K mg base 2 "_law_row" ["script", "first", "last"] (sp__law_row K)) (C__law_draw : Has P w K mg base 1 "_law_draw" ["box", "many"] (sp__law_draw K)) (C__law_value : Has P w K mg base 2 "_law_value" ["box"] (sp__law_value K)) (C__law_equal : Has P w K mg base 2 "_law_equal" ["a", "b"] sp__law_equal) (C__law_text : Has P w K mg base 2 "_law_text" ["v"] sp__law_text) (C__law_empty : Has P w K mg base 3 "_law_empty" ["v"] sp__law_empty) (C__law_key : Has P w K mg base 1 "_law_key" ["v"] sp__law_key) (C__law_is : Has P w K mg base 1 "_law_is" ["told", "due"] sp__law_is) : FnOk P w K mg base CX0 4 f fd ["script"] (sp_law K) := by
  refine F.ok sc_law (fun vs H Q E h => ?_) (fun cdv A outer s H vs Q E hr h => ?_)
  · unfold sp_law at h
    split at h
    · rfl
    · exact h.elim
  · unfold sp_law at h
    split at h
    case h_2 => exact h.elim
    case h_1 a =>
      obtain ⟨ns, hs, k⟩ := h
      refine ⟨_, (pss_cons (s_set 1 sc_law.nd (c_lst (pa_cons (c_call C__law_row (hr.mono (by decide)) (pa_cons (c_var 0) (pa_cons pe_int (pa_cons pe_int pa_nil)))) (pa_cons pe_int pa_nil))))
    (pss_cons (s_set 2 sc_law.nd (c_bin o_add (c_lcR (pa_cons pe_int pa_nil) G.n_range sc_law.nd rfl (by show blkC ["script", "box", "values", "k", "v", "other", "cell", "thing", "text"] (defScope s_law) _ [("k", 3)] = true; decide +kernel) (fun _ _ _ _ _ => pg_name (i := 3) sc_law.nd rfl (Or.inl rfl)) (fun _ _ _ _ _ => pts_nil) (fun _ _ _ _ _ => (c_call C__law_value (hr.mono (by decide)) (pa_cons (c_var 1) pa_nil)))) (c_lst (pa_cons (c_bin o_mod (c_ty b_int G.n_int boot_int (pa_cons (c_bi b_abs G.n_abs boot_abs (pa_cons (c_call C__law_cell (hr.mono (by decide)) (pa_cons (c_var 0) (pa_cons pe_int pa_nil))) pa_nil)) pa_nil)) pe_int) (pa_cons (c_bin o_mul pe_str (c_call C__law_draw (hr.mono (by decide)) (pa_cons (c_var 1) (pa_cons pe_int pa_nil)))) pa_nil)))))
    (pss_cons (s_forL (K := K) rfl 4 (c_var 2) sc_law.nd (pss_cons (s_if (PW.pt (w_or (t_not (t_tru (K := K) rfl (c_call C__law_is (hr.mono (by decide)) (pa_cons (c_call C_is_value (hr.mono (by decide)) (pa_cons (c_var 4) pa_nil)) (pa_cons pe_bl pa_nil))))) (w_or1 (t_not (t_tru (K := K) rfl (c_call C__law_is (hr.mono (by decide)) (pa_cons (c_call C_is_key (hr.mono (by decide)) (pa_cons (c_var 4) pa_nil)) (pa_cons (c_call C__law_key (hr.mono (by decide)) (pa_cons (c_var 4) pa_nil)) pa_nil)))))))) (pss_one (s_ret pe_bl)) pss_nil)
    (pss_cons (s_if (PW.pt (w_or (t_not (t_tru (K := K) rfl (c_call C__law_is (hr.mono (by decide)) (pa_cons (c_call C_is_empty (hr.mono (by decide)) (pa_cons (c_var 4) pa_nil)) (pa_cons (c_call C__law_empty (hr.mono (by decide)) (pa_cons (c_var 4) pa_nil)) pa_nil))))) (w_or1 (t_cmp o_ne (c_call C_text_of (hr.mono (by decide)) (pa_cons (c_var 4) pa_nil)) (c_call C__law_text (hr.mono (by decide)) (pa_cons (c_var 4) pa_nil)))))) (pss_one (s_ret pe_bl)) pss_nil)
    (pss_one (s_forL (K := K) rfl 5 (c_var 2) sc_law.nd (pss_one (s_if (t_not (t_tru (K := K) rfl (c_call C__law_is (hr.mono (by decide)) (pa_cons (c_call C_equal (hr.mono (by decide)) (pa_cons (c_var 4) (pa_cons (c_var 5) pa_nil))) (pa_cons (c_call C__law_equal (hr.mono (by decide)) (pa_cons (c_var 4) (pa_cons (c_var 5) pa_nil))) pa_nil))))) (pss_one (s_ret pe_bl)) pss_nil)))))))
    (pss_cons (s_set 6 sc_law.nd (c_call C__law_cell (hr.mono (by decide)) (pa_cons (c_var 0) (pa_cons pe_int pa_nil))))
    (pss_cons (s_forL (K := K) rfl 7 (c_lst (pa_cons (c_bin o_add pe_int (c_bi b_abs G.n_abs boot_abs (pa_cons (c_var 6) pa_nil))) (pa_cons (c_bin o_sub (c_neg pe_int) (c_bi b_abs G.n_abs boot_abs (pa_cons (c_var 6) pa_nil))) (pa_cons (c_bin o_mul pe_str (c_bin o_add pe_int (c_call C__law_draw (hr.mono (by decide)) (pa_cons (c_var 1) (pa_cons pe_int pa_nil))))) (pa_cons (c_tup pa_nil) (pa_cons (c_lst pa_nil) (pa_cons pe_dnewK (pa_cons (c_tup (pa_cons pe_str (pa_cons pe_int pa_nil))) (pa_cons (c_lst (pa_cons pe_non pa_nil)) (pa_cons (c_tup (pa_cons pe_str pa_nil)) pa_nil)))))))))) sc_law.nd (pss_one (s_if (PW.pt (w_or (t_not (t_tru (K := K) rfl (c_call C__law_is (hr.mono (by decide)) (pa_cons (c_call C_is_value (hr.mono (by decide)) (pa_cons (c_var 7) pa_nil)) (pa_cons pe_bl pa_nil))))) (w_or1 (t_not (t_tru (K := K) rfl (c_call C__law_is (hr.mono (by decide)) (pa_cons (c_call C_is_key (hr.mono (by decide)) (pa_cons (c_var 7) pa_nil)) (pa_cons pe_bl pa_nil)))))))) (pss_one (s_ret pe_bl)) pss_nil)))
    (pss_cons (s_forL (K := K) rfl 8 (c_lst (pa_cons pe_str (pa_cons pe_str (pa_cons pe_str (pa_cons pe_str (pa_cons pe_str (pa_cons pe_str (pa_cons pe_str (pa_cons pe_str pa_nil))))))))) sc_law.nd (pss_one (s_if (t_not (t_tru (K := K) rfl (c_call C__law_is (hr.mono (by decide)) (pa_cons (c_call C_is_key (hr.mono (by decide)) (pa_cons (c_var 8) pa_nil)) (pa_cons (c_call C__law_key (hr.mono (by decide)) (pa_cons (c_var 8) pa_nil)) pa_nil))))) (pss_one (s_ret pe_bl)) pss_nil)))
    (pss_one (s_ret pe_bl)))))))), ?_⟩
      -- box = [_law_row(script, 1, 6), 0]
      refine ⟨ns, hs, by decide, by decide, ⟨by decide, by decide⟩, fun r row H1 s1 nr er => ?_⟩
      refine ⟨by show 2 ≤ sizeLine; decide, fun b nb => ?_⟩
      have nrb : r ≠ b := ne_of_none er nb
      have s2 : Same H (upd H1 b (.lst [.ref r, .int 0])) := s1.trans (same_upd nb)
      have hb0 : H b = Option.none := s1.free nb
      have B2 : BoxAt (upd H1 b (.lst [.ref r, .int 0])) b r 0 row := ⟨upd_same, by rw [upd_ne nrb]; exact er, by decide, nrb⟩
      generalize upd H1 b (.lst [.ref r, .int 0]) = H2 at s2 B2
      -- the eight values
      refine ⟨⟨by decide, by decide⟩, fun D nD => ?_⟩
      have nDb : D ≠ b := (ne_of_none B2.1 nD).symm
      have nDr : D ≠ r := (ne_of_none B2.2.1 nD).symm
      have hD0 : H D = Option.none := s2.free nD
      refine ⟨fun i H' => ∃ vals : List V, Same H H' ∧ BoxAt H' b r (i : Int) row ∧ H' D = some (.lst vals) ∧ vals.length = i ∧ ∀ v ∈ vals, Gv v,
        ⟨[], s2.trans (same_upd nD), ⟨by rw [upd_ne nDb.symm]; exact B2.1, by rw [upd_ne nDr.symm]; exact B2.2.1, by decide, nrb⟩, upd_same, rfl, fun v h => by cases h⟩, fun i H3 hi p => ?_, fun H3 p => ?_⟩
      · obtain ⟨vals, s3, B3, e3, l3, g3⟩ := p
        have hi8 : i < 8 := hi
        refine ⟨r, (i : Int), row, B3, fun v H4 gv k4 B4 => ?_⟩
        have e4 : H4 D = some (.lst vals) := k4 D _ nDb e3
        have s4 : Same H H4 := fun c o e => k4 c o (ne_of_none e hb0) (s3 c o e)
        refine ⟨vals, e4, small1000 (by omega), vals ++ [v], same_upd2 s4 hD0, ⟨by rw [upd_ne nDb.symm]; exact B4.1, by rw [upd_ne nDr.symm]; exact B4.2.1, B4.2.2.1, nrb⟩, upd_same, by rw [List.length_append, l3]; rfl, fun x hx => ?_⟩
        rcases List.mem_append.mp hx with hx | hx
        · exact g3 x hx
        · rw [List.mem_singleton] at hx
          rw [hx]
          exact gv
      · obtain ⟨vals, s3, B3, e3, l3, g3⟩ := p
        have l8 : vals.length = 8 := l3
        clear l3
        -- [int(abs(_law_cell(script, 0))) % 1000, 'z' * _law_draw(box, 41)]
        refine ⟨ns, s3.seq hs, by decide, by decide, ?_⟩
        generalize ns.getD (0 : Int).toNat 0 = c
        refine ⟨r, _, row, B3, by decide, fun d d0 d1 => ⟨small_mul (by decide) d0 (by omega), ?_⟩⟩
        have s4 : Same H (upd H3 b (.lst [.ref r, .int (((8 : Int).toNat : Int) + 1)])) := same_upd2 s3 hb0
        have e4 : (upd H3 b (.lst [.ref r, .int (((8 : Int).toNat : Int) + 1)])) D = some (.lst vals) := by
          rw [upd_ne nDb]
          exact e3
        have B4 : BoxAt (upd H3 b (.lst [.ref r, .int (((8 : Int).toNat : Int) + 1)])) b r (((8 : Int).toNat : Int) + 1) row := ⟨upd_same, by rw [upd_ne nrb]; exact B3.2.1, by decide, nrb⟩
        generalize upd H3 b (.lst [.ref r, .int (((8 : Int).toNat : Int) + 1)]) = H4 at s4 e4 B4
        refine ⟨by show 2 ≤ sizeLine; decide, fun M nM => ?_⟩
        have nDM : D ≠ M := ne_of_none e4 nM
        have g5 : ∀ v ∈ vals ++ [V.int ((if c < 0 then -c else c) % 1000), V.str (Txt.mul "z" d)], Gv v := fun x hx => by
          rcases List.mem_append.mp hx with hx | hx
          · exact g3 x hx
          · simp only [List.mem_cons, List.not_mem_nil, or_false] at hx
            rcases hx with rfl | rfl
            · exact .int _ (Int.emod_nonneg _ (by omega)) (by have := Int.emod_lt_of_pos (if c < 0 then -c else c) (show (0 : Int) < 1000 by omega); omega)
            · exact .str _ (by rw [mul_len (by decide)]; omega)
        refine ⟨vals, _, by rw [upd_ne nDM]; exact e4, upd_same, by rw [l8]; show 8 + 2 ≤ sizeLine; decide, fun L nL => ?_⟩
        have s5 : Same H4 (upd (upd H4 M (.lst [V.int ((if c < 0 then -c else c) % 1000), V.str (Txt.mul "z" d)])) L (.lst (vals ++ [V.int ((if c < 0 then -c else c) % 1000), V.str (Txt.mul "z" d)]))) := (same_upd nM).trans (same_upd nL)
        have e5 : (upd (upd H4 M (.lst [V.int ((if c < 0 then -c else c) % 1000), V.str (Txt.mul "z" d)])) L (.lst (vals ++ [V.int ((if c < 0 then -c else c) % 1000), V.str (Txt.mul "z" d)]))) L = some (.lst (vals ++ [V.int ((if c < 0 then -c else c) % 1000), V.str (Txt.mul "z" d)])) := upd_same
        generalize (upd (upd H4 M (.lst [V.int ((if c < 0 then -c else c) % 1000), V.str (Txt.mul "z" d)])) L (.lst (vals ++ [V.int ((if c < 0 then -c else c) % 1000), V.str (Txt.mul "z" d)]))) = H5 at s5 e5
        generalize vals ++ [V.int ((if c < 0 then -c else c) % 1000), V.str (Txt.mul "z" d)] = vs at e5 g5
        have sH5 : Same H H5 := s4.trans s5
        have B5 : BoxAt H5 b r (((8 : Int).toNat : Int) + 1) row := ⟨s5 _ _ B4.1, s5 _ _ B4.2.1, B4.2.2.1, nrb⟩
        -- for v in values
        refine ⟨vs, SqL.of e5, fun i σ H' => ∃ y3 y4 y5, σ = [some (.ref a), some (.ref b), some (.ref L), y3, y4, y5, none, none, none] ∧ Same H5 H', ⟨_, _, _, rfl, Same.refl _⟩, fun i σ H' _ p => ?_, fun i v σ H6 hv p => ?_, fun σ H6 p => ?_⟩
        · obtain ⟨_, _, _, _, s6⟩ := p
          exact s6.seq (SqL.of e5)
        · obtain ⟨y3, y4, y5, rfl, s6⟩ := p
          have gv : Gv v := g5 v (List.mem_of_getElem? hv)
          -- is_value(v)
          refine ⟨gv.th, ?_⟩
          rw [isVal_gv gv]
          refine ⟨trivial, ?_⟩
          -- is_key(v), _law_key(v)
          refine ⟨gv.th, fun H7 s7 => ⟨gv, trivial, ?_⟩⟩
          rw [self_eq]
          -- is_empty(v), _law_empty(v)
          refine ⟨gv, gv, fun H8 s8 => ⟨trivial, ?_⟩⟩
          rw [self_eq]
          refine ⟨gv, gv, fun H9 s9 => Gen.yes (decide_eq_true rfl) ?_⟩
          have s79 : Same H5 H9 := s6.trans (s7.trans (s8.trans s9))
          -- for other in values
          refine ⟨vs, s79.seq (SqL.of e5), fun i σ H' => ∃ y3 y5, σ = [some (.ref a), some (.ref b), some (.ref L), y3, some v, y5, none, none, none] ∧ Same H5 H', ⟨_, _, rfl, s79⟩, fun i σ H' _ p => ?_, fun i o σ H' ho p => ?_, fun σ H' p => ?_⟩
          · obtain ⟨_, _, _, s⟩ := p
            exact s.seq (SqL.of e5)
          · obtain ⟨z3, z5, rfl, s⟩ := p
            have go : Gv o := g5 o (List.mem_of_getElem? ho)
            refine ⟨gv, go, gv, go, trivial, ?_⟩
            rw [self_eq]
            exact ⟨_, _, rfl, s⟩
          · obtain ⟨z3, z5, rfl, s⟩ := p
            exact ⟨_, _, _, rfl, s⟩
        · obtain ⟨y3, y4, y5, rfl, s6⟩ := p
          -- cell = _law_cell(script, 0)
          refine ⟨ns, (sH5.trans s6).seq hs, by decide, ?_⟩
          generalize ns.getD (0 : Int).toNat 0 = c
          have B6 : BoxAt H6 b r (((8 : Int).toNat : Int) + 1) row := ⟨s6 _ _ B5.1, s6 _ _ B5.2.1, B5.2.2.1, nrb⟩
          -- the nine things
          refine ⟨r, _, row, B6, by decide, fun d d0 d1 => ⟨small_mul (by decide) (by omega) (by omega), ?_⟩⟩
          have sH7 : Same H (upd H6 b (.lst [.ref r, .int (((8 : Int).toNat : Int) + 1 + 1)])) := same_upd2 (sH5.trans s6) hb0
          generalize upd H6 b (.lst [.ref r, .int (((8 : Int).toNat : Int) + 1 + 1)]) = H7 at sH7
          refine ⟨by decide, fun p1 n1 => ⟨by decide, fun p2 n2 => fun p3 n3 => ⟨by show 2 ≤ sizeLine; decide, fun p4 n4 => ⟨by decide, fun p5 n5 => ⟨by decide, fun p6 n6 => ⟨by show 9 ≤ sizeLine; decide, fun p7 n7 => ?_⟩⟩⟩⟩⟩⟩
          have t1 : Th K (upd H7 p1 (.tup [])) (.ref p1) := .tup (.inl (.inl upd_same))
          have t2 : Th K (upd (upd H7 p1 (.tup [])) p2 (.lst [])) (.ref p2) := .lst (.inl (.inl upd_same))
          have t3 : Th K (upd (upd (upd H7 p1 (.tup [])) p2 (.lst [])) p3 (.dK [])) (.ref p3) := .dK upd_same
          have q1 := same_upd (o := .tup []) n1
          have q2 := same_upd (o := .lst []) n2
          have q3 := same_upd (o := .dK []) n3
          generalize upd (upd (upd H7 p1 (.tup [])) p2 (.lst [])) p3 (.dK []) = H8 at *
          generalize upd (upd H7 p1 (.tup [])) p2 (.lst []) = H9 at *
          generalize upd H7 p1 (.tup []) = H10 at *
          have t4 : Th K (upd H8 p4 (.tup [.str "value", .int 1])) (.ref p4) := .tup (.inl (.inl upd_same))
          have q4 := same_upd (o := .tup [.str "value", .int 1]) n4
          generalize upd H8 p4 (.tup [.str "value", .int 1]) = H11 at *
          have t5 : Th K (upd H11 p5 (.lst [.non])) (.ref p5) := .lst (.inl (.inl upd_same))
          have q5 := same_upd (o := .lst [.non]) n5
          generalize upd H11 p5 (.lst [.non]) = H12 at *
          have t6 : Th K (upd H12 p6 (.tup [.str "a"])) (.ref p6) := .tup (.inl (.inl upd_same))
          have q6 := same_upd (o := .tup [.str "a"]) n6
          generalize upd H12 p6 (.tup [.str "a"]) = H13 at *
          generalize hT : [V.int (1000 + if c < 0 then -c else c), V.int (-1 - if c < 0 then -c else c), V.str (Txt.mul "x" (41 + d)), V.ref p1, V.ref p2, V.ref p3, V.ref p4, V.ref p5, V.ref p6] = things at *
          have q7 := same_upd (o := .lst things) n7
          have e7 : (upd H13 p7 (.lst things)) p7 = some (.lst things) := upd_same
          generalize upd H13 p7 (.lst things) = H14 at *
          have hx : ∀ x ∈ things, Th K H14 x ∧ isVal x = false ∧ isKey x = false := fun x hx => by
            rw [← hT] at hx
            simp only [List.mem_cons, List.not_mem_nil, or_false] at hx
            rcases hx with rfl | rfl | rfl | rfl | rfl | rfl | rfl | rfl | rfl
            · refine ⟨.int _, ?_, rfl⟩
              show (decide (0 ≤ 1000 + if c < 0 then -c else c) && decide ((1000 + if c < 0 then -c else c) ≤ 999)) = false
              have : ¬ (1000 + if c < 0 then -c else c) ≤ 999 := by split <;> omega
              rw [decide_eq_false this, Bool.and_false]
            · refine ⟨.int _, ?_, rfl⟩
              show (decide (0 ≤ -1 - if c < 0 then -c else c) && _) = false
              have : ¬ 0 ≤ (-1 - if c < 0 then -c else c) := by split <;> omega
              rw [decide_eq_false this, Bool.false_and]
            · have hl : (Txt.mul "x" (41 + d)).length = (41 + d).toNat := mul_len (by decide)
              refine ⟨.str _ (by rw [hl]; omega), ?_, ?_⟩
              · show decide (((Txt.mul "x" (41 + d)).length : Int) ≤ 40) = false
                exact decide_eq_false (by rw [hl]; omega)
              · show isKeyS _ = false
                unfold isKeyS
                rw [hl, decide_eq_false (show ¬ (((41 + d).toNat : Nat) : Int) ≤ 8 by omega), Bool.and_false, Bool.false_and]
            · exact ⟨(((((t1.same q2).same q3).same q4).same q5).same q6).same q7, rfl, rfl⟩
            · exact ⟨((((t2.same q3).same q4).same q5).same q6).same q7, rfl, rfl⟩
            · exact ⟨(((t3.same q4).same q5).same q6).same q7, rfl, rfl⟩
            · exact ⟨((t4.same q5).same q6).same q7, rfl, rfl⟩
            · exact ⟨(t5.same q6).same q7, rfl, rfl⟩
            · exact ⟨t6.same q7, rfl, rfl⟩
          refine ⟨things, SqL.of e7, fun i σ H' => ∃ y7, σ = [some (.ref a), some (.ref b), some (.ref L), y3, y4, y5, some (.int c), y7, none] ∧ Same H14 H', ⟨_, rfl, Same.refl _⟩, fun i σ H' _ p => ?_, fun i x σ H' ix p => ?_, fun σ H' p => ?_⟩
          · obtain ⟨_, _, s⟩ := p
            exact s.seq (SqL.of e7)
          · obtain ⟨y7, rfl, s⟩ := p
            obtain ⟨tx, ev, ek⟩ := hx x (List.mem_of_getElem? ix)
            refine ⟨tx.same s, ?_⟩
            rw [ev]
            refine ⟨trivial, tx.same s, fun H15 s15 => ?_⟩
            rw [ek]
            exact ⟨trivial, _, rfl, s.trans s15⟩
          · obtain ⟨y7, rfl, s⟩ := p
            -- the eight texts
            refine ⟨by decide, fun p8 n8 => ?_⟩
            refine ⟨_, SqL.of upd_same, fun i σ H'' => ∃ y8, σ = [some (.ref a), some (.ref b), some (.ref L), y3, y4, y5, some (.int c), y7, y8] ∧ H'' p8 = some (.lst texts), ⟨_, rfl, upd_same⟩, fun i σ H' _ p => ?_, fun i x σ H' ix p => ?_, fun σ H' p => ?_⟩
            · obtain ⟨_, _, e⟩ := p
              exact SqL.of e
            · obtain ⟨y8, rfl, e⟩ := p
              have gx : Gv x := texts_gv (List.mem_of_getElem? ix)
              refine ⟨gx.th, fun H15 s15 => ⟨gx, trivial, ?_⟩⟩
              rw [self_eq]
              exact ⟨_, rfl, s15 _ _ e⟩
            · obtain ⟨y8, rfl, e⟩ := p
              exact k H'
end
/-! ### what the top has written, the head -/
theorem all_mk {l : PySem.W.OpenLaw} {w : World} {K : PySem.W.Frag} {h : Heap} {mg : Str → Option Value} {fa f0 f1 f2 f3 f4 f5 f6 f7 f8 f9 f10 f11 f12 f13 f14 f15 : Addr} (X : K.In h) (G : h.Ns mainGlobals mg) (hfa : mg "law" = some (.ref fa))
    {od0 an0 od1 an1 od2 an2 od3 an3 od4 an4 od5 an5 od6 an6 od7 an7 od8 an8 od9 an9 od10 an10 od11 an11 od12 an12 od13 an13 od14 an14 od15 an15 : Option Addr} {sl0 sl1 sl2 sl3 sl4 sl5 sl6 sl7 sl8 sl9 sl10 sl11 sl12 sl13 sl14 sl15 : Array (Option Value)} {oc0 kV0 dc0 pm0 cd0 ct0 oc1 kV1 dc1 pm1 cd1 ct1 oc2 kV2 dc2 pm2 cd2 ct2 oc3 kV3 dc3 pm3 cd3 ct3 oc4 kV4 dc4 pm4 cd4 ct4 oc5 kV5 dc5 pm5 cd5 ct5 oc6 kV6 dc6 pm6 cd6 ct6 oc7 kV7 dc7 pm7 cd7 ct7 oc8 kV8 dc8 pm8 cd8 ct8 oc9 kV9 dc9 pm9 cd9 ct9 oc10 kV10 dc10 pm10 cd10 ct10 oc11 kV11 dc11 pm11 cd11 ct11 oc12 kV12 dc12 pm12 cd12 ct12 oc13 kV13 dc13 pm13 cd13 ct13 oc14 kV14 dc14 pm14 cd14 ct14 oc15 kV15 dc15 pm15 cd15 ct15 : Value} {u1 u2 u3 : Tok}
    (a0 : PySem.W.nsIn K mainGlobals "is_value" = some (some (.ref f0))) (l0 : K.lookup f0 = some ⟨oc0, od0, .func (PySem.W.fnOf "is_value" "is_value" (defArgs s_is_value) (defBody s_is_value) (defScope s_is_value) .none kV0 dc0 pm0 an0 cd0 ct0), sl0⟩) (c0 : PySem.W.codeIn K cd0 "is_value" = true) (k0 : PySem.W.keepIn K (.ref f0) = true)
    (a1 : PySem.W.nsIn K mainGlobals "is_key" = some (some (.ref f1))) (l1 : K.lookup f1 = some ⟨oc1, od1, .func (PySem.W.fnOf "is_key" "is_key" (defArgs s_is_key) (defBody s_is_key) (defScope s_is_key) .none kV1 dc1 pm1 an1 cd1 ct1), sl1⟩) (c1 : PySem.W.codeIn K cd1 "is_key" = true) (k1 : PySem.W.keepIn K (.ref f1) = true)
    (a2 : PySem.W.nsIn K mainGlobals "equal" = some (some (.ref f2))) (l2 : K.lookup f2 = some ⟨oc2, od2, .func (PySem.W.fnOf "equal" "equal" (defArgs s_equal) (defBody s_equal) (defScope s_equal) .none kV2 dc2 pm2 an2 cd2 ct2), sl2⟩) (c2 : PySem.W.codeIn K cd2 "equal" = true) (k2 : PySem.W.keepIn K (.ref f2) = true)
    (a3 : PySem.W.nsIn K mainGlobals "text_of" = some (some (.ref f3))) (l3 : K.lookup f3 = some ⟨oc3, od3, .func (PySem.W.fnOf "text_of" "text_of" (defArgs s_text_of) (defBody s_text_of) (defScope s_text_of) .none kV3 dc3 pm3 an3 cd3 ct3), sl3⟩) (c3 : PySem.W.codeIn K cd3 "text_of" = true) (k3 : PySem.W.keepIn K (.ref f3) = true)
    (a4 : PySem.W.nsIn K mainGlobals "is_empty" = some (some (.ref f4))) (l4 : K.lookup f4 = some ⟨oc4, od4, .func (PySem.W.fnOf "is_empty" "is_empty" (defArgs s_is_empty) (defBody s_is_empty) (defScope s_is_empty) .none kV4 dc4 pm4 an4 cd4 ct4), sl4⟩) (c4 : PySem.W.codeIn K cd4 "is_empty" = true) (k4 : PySem.W.keepIn K (.ref f4) = true)
    (a5 : PySem.W.nsIn K mainGlobals "_law_cell" = some (some (.ref f5))) (l5 : K.lookup f5 = some ⟨oc5, od5, .func (PySem.W.fnOf "_law_cell" "_law_cell" (defArgs s__law_cell) (defBody s__law_cell) (defScope s__law_cell) .none kV5 dc5 pm5 an5 cd5 ct5), sl5⟩) (c5 : PySem.W.codeIn K cd5 "_law_cell" = true) (k5 : PySem.W.keepIn K (.ref f5) = true)
    (a6 : PySem.W.nsIn K mainGlobals "_law_row" = some (some (.ref f6))) (l6 : K.lookup f6 = some ⟨oc6, od6, .func (PySem.W.fnOf "_law_row" "_law_row" (defArgs s__law_row) (defBody s__law_row) (defScope s__law_row) .none kV6 dc6 pm6 an6 cd6 ct6), sl6⟩) (c6 : PySem.W.codeIn K cd6 "_law_row" = true) (k6 : PySem.W.keepIn K (.ref f6) = true)
    (a7 : PySem.W.nsIn K mainGlobals "_law_draw" = some (some (.ref f7))) (l7 : K.lookup f7 = some ⟨oc7, od7, .func (PySem.W.fnOf "_law_draw" "_law_draw" (defArgs s__law_draw) (defBody s__law_draw) (defScope s__law_draw) .none kV7 dc7 pm7 an7 cd7 ct7), sl7⟩) (c7 : PySem.W.codeIn K cd7 "_law_draw" = true) (k7 : PySem.W.keepIn K (.ref f7) = true)
    (a8 : PySem.W.nsIn K mainGlobals "_law_value" = some (some (.ref f8))) (l8 : K.lookup f8 = some ⟨oc8, od8, .func (PySem.W.fnOf "_law_value" "_law_value" (defArgs s__law_value) (defBody s__law_value) (defScope s__law_value) .none kV8 dc8 pm8 an8 cd8 ct8), sl8⟩) (c8 : PySem.W.codeIn K cd8 "_law_value" = true) (k8 : PySem.W.keepIn K (.ref f8) = true)
    (a9 : PySem.W.nsIn K mainGlobals "_law_is_bool" = some (some (.ref f9))) (l9 : K.lookup f9 = some ⟨oc9, od9, .func (PySem.W.fnOf "_law_is_bool" "_law_is_bool" (defArgs s__law_is_bool) (defBody s__law_is_bool) (defScope s__law_is_bool) .none kV9 dc9 pm9 an9 cd9 ct9), sl9⟩) (c9 : PySem.W.codeIn K cd9 "_law_is_bool" = true) (k9 : PySem.W.keepIn K (.ref f9) = true)
    (a10 : PySem.W.nsIn K mainGlobals "_law_equal" = some (some (.ref f10))) (l10 : K.lookup f10 = some ⟨oc10, od10, .func (PySem.W.fnOf "_law_equal" "_law_equal" (defArgs s__law_equal) (defBody s__law_equal) (defScope s__law_equal) .none kV10 dc10 pm10 an10 cd10 ct10), sl10⟩) (c10 : PySem.W.codeIn K cd10 "_law_equal" = true) (k10 : PySem.W.keepIn K (.ref f10) = true)
    (a11 : PySem.W.nsIn K mainGlobals "_law_text" = some (some (.ref f11))) (l11 : K.lookup f11 = some ⟨oc11, od11, .func (PySem.W.fnOf "_law_text" "_law_text" (defArgs s__law_text) (defBody s__law_text) (defScope s__law_text) .none kV11 dc11 pm11 an11 cd11 ct11), sl11⟩) (c11 : PySem.W.codeIn K cd11 "_law_text" = true) (k11 : PySem.W.keepIn K (.ref f11) = true)
    (a12 : PySem.W.nsIn K mainGlobals "_law_empty" = some (some (.ref f12))) (l12 : K.lookup f12 = some ⟨oc12, od12, .func (PySem.W.fnOf "_law_empty" "_law_empty" (defArgs s__law_empty) (defBody s__law_empty) (defScope s__law_empty) .none kV12 dc12 pm12 an12 cd12 ct12), sl12⟩) (c12 : PySem.W.codeIn K cd12 "_law_empty" = true) (k12 : PySem.W.keepIn K (.ref f12) = true)
    (a13 : PySem.W.nsIn K mainGlobals "_law_key" = some (some (.ref f13))) (l13 : K.lookup f13 = some ⟨oc13, od13, .func (PySem.W.fnOf "_law_key" "_law_key" (defArgs s__law_key) (defBody s__law_key) (defScope s__law_key) .none kV13 dc13 pm13 an13 cd13 ct13), sl13⟩) (c13 : PySem.W.codeIn K cd13 "_law_key" = true) (k13 : PySem.W.keepIn K (.ref f13) = true)
    (a14 : PySem.W.nsIn K mainGlobals "_law_is" = some (some (.ref f14))) (l14 : K.lookup f14 = some ⟨oc14, od14, .func (PySem.W.fnOf "_law_is" "_law_is" (defArgs s__law_is) (defBody s__law_is) (defScope s__law_is) .none kV14 dc14 pm14 an14 cd14 ct14), sl14⟩) (c14 : PySem.W.codeIn K cd14 "_law_is" = true) (k14 : PySem.W.keepIn K (.ref f14) = true)
    (a15 : PySem.W.nsIn K mainGlobals "law" = some (some (.ref f15))) (l15 : K.lookup f15 = some ⟨oc15, od15, .func (PySem.W.fnOf "law" "law" (defArgs s_law) (defBody s_law) (defScope s_law) .none kV15 dc15 pm15 an15 cd15 ct15), sl15⟩) (c15 : PySem.W.codeIn K cd15 "law" = true) (k15 : PySem.W.keepIn K (.ref f15) = true)
    (g1 : PySem.W.nsIn K mainGlobals "GREATEST_NUMBER" = some (some (.int 999 u1)))
    (g2 : PySem.W.nsIn K mainGlobals "LONGEST_TEXT" = some (some (.int 40 u2)))
    (g3 : PySem.W.nsIn K mainGlobals "LONGEST_KEY" = some (some (.int 8 u3)))
    (z_len : PySem.W.nsIn K mainGlobals "len" = some none) (z_abs : PySem.W.nsIn K mainGlobals "abs" = some none) (z_all : PySem.W.nsIn K mainGlobals "all" = some none) (z_isinstance : PySem.W.nsIn K mainGlobals "isinstance" = some none) (z_int : PySem.W.nsIn K mainGlobals "int" = some none) (z_str : PySem.W.nsIn K mainGlobals "str" = some none) (z_bool : PySem.W.nsIn K mainGlobals "bool" = some none) (z_type : PySem.W.nsIn K mainGlobals "type" = some none) (z_range : PySem.W.nsIn K mainGlobals "range" = some none) :
    ∃ fd : FuncData, (∀ (s : Shared) (v : Value), BindsTo s fd ⟨[v], []⟩ [("script", v)]) ∧ ∀ base : Heap, K.In base → base.Ns mainGlobals mg → FnOk l.prog w K mg base CX0 4 fa fd ["script"] (sp_law K) := by
  have e := hfa.symm.trans (PySem.W.mg_of X G a15)
  cases e
  have GG : Gs mg u1 u2 u3 := ⟨PySem.W.mg_none_of X G z_len, PySem.W.mg_none_of X G z_abs, PySem.W.mg_none_of X G z_all, PySem.W.mg_none_of X G z_isinstance, PySem.W.mg_none_of X G z_int, PySem.W.mg_none_of X G z_str, PySem.W.mg_none_of X G z_bool, PySem.W.mg_none_of X G z_type, PySem.W.mg_none_of X G z_range, PySem.W.mg_of X G g1, PySem.W.mg_of X G g2, PySem.W.mg_of X G g3⟩
  have F0 := fun_mk (st := s_is_value) l0 c0 k0
  have b0 := F0.binds (ps := ["thing"]) fun _ _ _ _ _ _ us hl => match us, hl with | [_], _ => rfl
  have F1 := fun_mk (st := s_is_key) l1 c1 k1
  have b1 := F1.binds (ps := ["thing"]) fun _ _ _ _ _ _ us hl => match us, hl with | [_], _ => rfl
  have F2 := fun_mk (st := s_equal) l2 c2 k2
  have b2 := F2.binds (ps := ["one", "two"]) fun _ _ _ _ _ _ us hl => match us, hl with | [_, _], _ => rfl
  have F3 := fun_mk (st := s_text_of) l3 c3 k3
  have b3 := F3.binds (ps := ["value"]) fun _ _ _ _ _ _ us hl => match us, hl with | [_], _ => rfl
  have F4 := fun_mk (st := s_is_empty) l4 c4 k4
  have b4 := F4.binds (ps := ["value"]) fun _ _ _ _ _ _ us hl => match us, hl with | [_], _ => rfl
  have F5 := fun_mk (st := s__law_cell) l5 c5 k5
  have b5 := F5.binds (ps := ["script", "k"]) fun _ _ _ _ _ _ us hl => match us, hl with | [_, _], _ => rfl
  have F6 := fun_mk (st := s__law_row) l6 c6 k6
  have b6 := F6.binds (ps := ["script", "first", "last"]) fun _ _ _ _ _ _ us hl => match us, hl with | [_, _, _], _ => rfl
  have F7 := fun_mk (st := s__law_draw) l7 c7 k7
  have b7 := F7.binds (ps := ["box", "many"]) fun _ _ _ _ _ _ us hl => match us, hl with | [_, _], _ => rfl
  have F8 := fun_mk (st := s__law_value) l8 c8 k8
  have b8 := F8.binds (ps := ["box"]) fun _ _ _ _ _ _ us hl => match us, hl with | [_], _ => rfl
  have F9 := fun_mk (st := s__law_is_bool) l9 c9 k9
  have b9 := F9.binds (ps := ["v"]) fun _ _ _ _ _ _ us hl => match us, hl with | [_], _ => rfl
  have F10 := fun_mk (st := s__law_equal) l10 c10 k10
  have b10 := F10.binds (ps := ["a", "b"]) fun _ _ _ _ _ _ us hl => match us, hl with | [_, _], _ => rfl
  have F11 := fun_mk (st := s__law_text) l11 c11 k11
  have b11 := F11.binds (ps := ["v"]) fun _ _ _ _ _ _ us hl => match us, hl with | [_], _ => rfl
  have F12 := fun_mk (st := s__law_empty) l12 c12 k12
  have b12 := F12.binds (ps := ["v"]) fun _ _ _ _ _ _ us hl => match us, hl with | [_], _ => rfl
  have F13 := fun_mk (st := s__law_key) l13 c13 k13
  have b13 := F13.binds (ps := ["v"]) fun _ _ _ _ _ _ us hl => match us, hl with | [_], _ => rfl
  have F14 := fun_mk (st := s__law_is) l14 c14 k14
  have b14 := F14.binds (ps := ["told", "due"]) fun _ _ _ _ _ _ us hl => match us, hl with | [_, _], _ => rfl
  have F15 := fun_mk (st := s_law) l15 c15 k15
  refine ⟨PySem.W.fnOf "law" "law" (defArgs s_law) (defBody s_law) (defScope s_law) .none kV15 dc15 pm15 an15 cd15 ct15, fun s v => .of_eq rfl, fun base _ _ => ?_⟩
  have H0 : Has l.prog w K mg base 1 "is_value" ["thing"] _ := ⟨f0, _, ok_is_value F0 GG , PySem.W.mg_of X G a0, k0, b0⟩
  have H1 : Has l.prog w K mg base 1 "is_key" ["thing"] _ := ⟨f1, _, ok_is_key F1 GG , PySem.W.mg_of X G a1, k1, b1⟩
  have H2 : Has l.prog w K mg base 1 "equal" ["one", "two"] _ := ⟨f2, _, ok_equal F2 GG , PySem.W.mg_of X G a2, k2, b2⟩
  have H3 : Has l.prog w K mg base 1 "text_of" ["value"] _ := ⟨f3, _, ok_text_of F3 GG , PySem.W.mg_of X G a3, k3, b3⟩
  have H4 : Has l.prog w K mg base 1 "is_empty" ["value"] _ := ⟨f4, _, ok_is_empty F4 GG , PySem.W.mg_of X G a4, k4, b4⟩
  have H5 : Has l.prog w K mg base 1 "_law_cell" ["script", "k"] _ := ⟨f5, _, ok__law_cell F5 GG , PySem.W.mg_of X G a5, k5, b5⟩
  have H6 : Has l.prog w K mg base 2 "_law_row" ["script", "first", "last"] _ := ⟨f6, _, ok__law_row F6 GG H5, PySem.W.mg_of X G a6, k6, b6⟩
  have H7 : Has l.prog w K mg base 1 "_law_draw" ["box", "many"] _ := ⟨f7, _, ok__law_draw F7 GG , PySem.W.mg_of X G a7, k7, b7⟩
  have H8 : Has l.prog w K mg base 2 "_law_value" ["box"] _ := ⟨f8, _, ok__law_value F8 GG H7, PySem.W.mg_of X G a8, k8, b8⟩
  have H9 : Has l.prog w K mg base 1 "_law_is_bool" ["v"] _ := ⟨f9, _, ok__law_is_bool F9 GG , PySem.W.mg_of X G a9, k9, b9⟩
  have H10 : Has l.prog w K mg base 2 "_law_equal" ["a", "b"] _ := ⟨f10, _, ok__law_equal F10 GG H9, PySem.W.mg_of X G a10, k10, b10⟩
  have H11 : Has l.prog w K mg base 2 "_law_text" ["v"] _ := ⟨f11, _, ok__law_text F11 GG H9, PySem.W.mg_of X G a11, k11, b11⟩
  have H12 : Has l.prog w K mg base 3 "_law_empty" ["v"] _ := ⟨f12, _, ok__law_empty F12 GG H10, PySem.W.mg_of X G a12, k12, b12⟩
  have H13 : Has l.prog w K mg base 1 "_law_key" ["v"] _ := ⟨f13, _, ok__law_key F13 GG , PySem.W.mg_of X G a13, k13, b13⟩
  have H14 : Has l.prog w K mg base 1 "_law_is" ["told", "due"] _ := ⟨f14, _, ok__law_is F14 GG , PySem.W.mg_of X G a14, k14, b14⟩
  exact ok_law F15 GG H0 H1 H2 H3 H4 H5 H6 H7 H8 H10 H11 H12 H13 H14
end K1

open PySem PySem.W PyProof.Rows in
set_option maxRecDepth 100000 in
set_option maxHeartbeats 0 in
theorem PySem.Challenge.cw_ripplewell_k01_values_holds : PySem.Challenge.rw_ripplewell_k01_values.Holds := by
  w_on; o_law; k_head; (case hw => w_witness2)
  k_fill
  refine L2.walk_of (l := PySem.Challenge.rw_ripplewell_k01_values) (n := 63) (k := 4) (x := "script") (CX := fun _ => L2.CX0) (sp := fun w => K1.sp_law _) rfl (by decide) rfl ⟨rfl, by decide, by decide⟩ (fun w h Y => PySem.W.kIn_of Y) ?F (fun _ _ a ns hl _ hS => ⟨ns, hS, fun _ => rfl⟩) (fun _ _ _ _ _ h => h)
  case F =>
    intro w mg fa h KX G hmg
    refine' K1.all_mk KX G hmg ?a0 ?l0 ?c0 ?k0 ?a1 ?l1 ?c1 ?k1 ?a2 ?l2 ?c2 ?k2 ?a3 ?l3 ?c3 ?k3 ?a4 ?l4 ?c4 ?k4 ?a5 ?l5 ?c5 ?k5 ?a6 ?l6 ?c6 ?k6 ?a7 ?l7 ?c7 ?k7 ?a8 ?l8 ?c8 ?k8 ?a9 ?l9 ?c9 ?k9 ?a10 ?l10 ?c10 ?k10 ?a11 ?l11 ?c11 ?k11 ?a12 ?l12 ?c12 ?k12 ?a13 ?l13 ?c13 ?k13 ?a14 ?l14 ?c14 ?k14 ?a15 ?l15 ?c15 ?k15 ?g1 ?g2 ?g3 ?z_len ?z_abs ?z_all ?z_isinstance ?z_int ?z_str ?z_bool ?z_type ?z_range
    (case a0 => k_is)
    (case l0 => k_is)
    (case c0 => k_is)
    (case k0 => k_is)
    (case a1 => k_is)
    (case l1 => k_is)
    (case c1 => k_is)
    (case k1 => k_is)
    (case a2 => k_is)
    (case l2 => k_is)
    (case c2 => k_is)
    (case k2 => k_is)
    (case a3 => k_is)
    (case l3 => k_is)
    (case c3 => k_is)
    (case k3 => k_is)
    (case a4 => k_is)
    (case l4 => k_is)
    (case c4 => k_is)
    (case k4 => k_is)
    (case a5 => k_is)
    (case l5 => k_is)
    (case c5 => k_is)
    (case k5 => k_is)
    (case a6 => k_is)
    (case l6 => k_is)
    (case c6 => k_is)
    (case k6 => k_is)
    (case a7 => k_is)
    (case l7 => k_is)
    (case c7 => k_is)
    (case k7 => k_is)
    (case a8 => k_is)
    (case l8 => k_is)
    (case c8 => k_is)
    (case k8 => k_is)
    (case a9 => k_is)
    (case l9 => k_is)
    (case c9 => k_is)
    (case k9 => k_is)
    (case a10 => k_is)
    (case l10 => k_is)
    (case c10 => k_is)
    (case k10 => k_is)
    (case a11 => k_is)
    (case l11 => k_is)
    (case c11 => k_is)
    (case k11 => k_is)
    (case a12 => k_is)
    (case l12 => k_is)
    (case c12 => k_is)
    (case k12 => k_is)
    (case a13 => k_is)
    (case l13 => k_is)
    (case c13 => k_is)
    (case k13 => k_is)
    (case a14 => k_is)
    (case l14 => k_is)
    (case c14 => k_is)
    (case k14 => k_is)
    (case a15 => k_is)
    (case l15 => k_is)
    (case c15 => k_is)
    (case k15 => k_is)
    (case g1 => k_is)
    (case g2 => k_is)
    (case g3 => k_is)
    (case z_len => k_is)
    (case z_abs => k_is)
    (case z_all => k_is)
    (case z_isinstance => k_is)
    (case z_int => k_is)
    (case z_str => k_is)
    (case z_bool => k_is)
    (case z_type => k_is)
    (case z_range => k_is)
