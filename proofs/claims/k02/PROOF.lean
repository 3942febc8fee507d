import PyProof.Rows.All
import Wide.All
import OpenK.AllK
import Wide.FinOn
import HandS.More
import PyProof.TypeEq
import PyProof.StrBlock2
import HandS.ForMost
import HandS.IsInst
import HandS.Flow
import HandS.RaiseMore
import HandS.Walk
import PySem.Challenge.RW_ripplewell_k02_equal_readings
set_option Elab.async false
set_option linter.all false
set_option maxRecDepth 100000
set_option maxHeartbeats 4000000
namespace PySem.TypeNe
open PySem Builtin PySem.TypeEq
theorem slot_type_ne : Slot "type" (cmpInfo .NotEq).2.1 "object.__ne__" :=
  .of (owner := "object") (n := "__ne__") (by rw [typeLookup_type, builtinLookup_eq_fast]; kernel_rfl) (by decide +kernel) (by decide +kernel) (by decide +kernel)
    (by first | exact .inl (by decide +kernel) | exact .inr (by decide +kernel)) (by rw [isSubtype_type]; kernel_rfl)
theorem slot_type_ne_refl : Slot "type" (cmpInfo .NotEq).2.2 "object.__ne__" :=
  .of (owner := "object") (n := "__ne__") (by rw [typeLookup_type, builtinLookup_eq_fast]; kernel_rfl) (by decide +kernel) (by decide +kernel) (by decide +kernel)
    (by first | exact .inl (by decide +kernel) | exact .inr (by decide +kernel)) (by rw [isSubtype_type]; kernel_rfl)
section
variable {prog : Program} {w : World} {A : Around} {E : Value → Shared → Prop} {s : Shared}
theorem call_eq_same {X : String} (hX : ∀ s' : Shared, s'.TypeIs (.type X) "type") {Q : Option Value → Shared → Prop} (h : Q (some (.bool true)) s) : wpAny (model prog w) A (callSpecialIfBound? (.type X) (Str.ofString "__eq__") [.type X]) Q E s :=
  wpAny_callSpecialIfBound?_slot (name := Str.ofString "__eq__") (hX s) slot_type_eq (call_gives slot_type_eq (hX s) F.entry_object_eq (F.args_object_eq_2 _ _) (object_eq_same rfl (by simp)) h)
theorem call_eq_other {X Y : String} (hX : ∀ s' : Shared, s'.TypeIs (.type X) "type") (hne : (Value.type X == Value.type Y) = false) {Q : Option Value → Shared → Prop} (h : Q (some .notImplemented) s) : wpAny (model prog w) A (callSpecialIfBound? (.type X) (Str.ofString "__eq__") [.type Y]) Q E s :=
  wpAny_callSpecialIfBound?_slot (name := Str.ofString "__eq__") (hX s) slot_type_eq (call_gives slot_type_eq (hX s) F.entry_object_eq (F.args_object_eq_2 _ _) (object_eq_other rfl hne) h)
theorem call_ne_same {X : String} (hX : ∀ s' : Shared, s'.TypeIs (.type X) "type") {Q : Value → Shared → Prop} (h : Q (.bool false) s) : wpAny (model prog w) A (call (.builtin "object.__ne__") [.type X, .type X]) Q E s := by
  refine wpAny_call_entry slot_type_ne (hX s) F.entry_object_ne ?_ (F.args_object_ne_2 _ _)
  unfold Builtin.«object.__ne__»
  repeat (first
    | with_reducible refine wpAny_cRoomFor_or (.inl rfl) ?_
    | with_reducible refine call_eq_same hX ?_
    | wp_step)
  exact ⟨_, rfl, h⟩
theorem call_ne_other {X Y : String} (hX : ∀ s' : Shared, s'.TypeIs (.type X) "type") (hne : (Value.type X == Value.type Y) = false) {Q : Value → Shared → Prop} (h : Q .notImplemented s) : wpAny (model prog w) A (call (.builtin "object.__ne__") [.type X, .type Y]) Q E s := by
  refine wpAny_call_entry slot_type_ne (hX s) F.entry_object_ne ?_ (F.args_object_ne_2 _ _)
  unfold Builtin.«object.__ne__»
  repeat (first
    | with_reducible refine wpAny_cRoomFor_or (.inl rfl) ?_
    | with_reducible refine call_eq_other hX hne ?_
    | wp_step)
  exact ⟨_, rfl, h⟩
theorem ne_type_same {X : String} {Q : Value → Shared → Prop} (hX : ∀ s' : Shared, s'.TypeIs (.type X) "type") (h : Q (.bool false) s) : wpAny (model prog w) A (compareOp .NotEq (.type X) (.type X)) Q E s := by
  show wpAny _ A (richCompare .NotEq _ _) Q E s
  exact wpAny_richCompare_same (T := "type") (hX s) (hX s) slot_type_ne (call_ne_same hX ⟨(by intro e; cases e), h⟩)
theorem ne_type_other {X Y : String} {Q : Value → Shared → Prop} (hX : ∀ s' : Shared, s'.TypeIs (.type X) "type") (hY : ∀ s' : Shared, s'.TypeIs (.type Y) "type") (hne : (Value.type X == Value.type Y) = false) (h : Q (.bool true) s) : wpAny (model prog w) A (compareOp .NotEq (.type X) (.type Y)) Q E s := by
  have hne' : (Value.type Y == Value.type X) = false := by
    rw [Bool.eq_false_iff] at hne ⊢
    intro e
    exact hne (by rw [beq_iff_eq] at e ⊢; exact e.symm)
  show wpAny _ A (richCompare .NotEq _ _) Q E s
  have h1 := slot_type_ne
  have h2 := slot_type_ne_refl
  rcases hi : cmpInfo CmpOp.NotEq with ⟨sym, f, r⟩
  rw [hi] at h1 h2
  simp only [richCompare, hi, (hX s).oneThing_none]
  try with_reducible refine wpAny_holding ?_
  refine wpAny_bind (wpAny_cRoomFor_or (.inl rfl) ?_)
  refine wpAny_bind (wpAny_typeOf (hX s) (wpAny_bind (wpAny_typeOf (hY s) ?_)))
  simp only [bne_self_eq_false, Bool.false_eq_true, if_false, pure_bind, Bool.not_false, if_true]
  refine wpAny_bind (m := tryCompare (.type X) _ (.type Y)) (wpAny_tryCompare_declines (hX s) h1 (call_ne_other hX hne ⟨rfl, ?_⟩))
  refine wpAny_bind (m := tryCompare (.type Y) _ (.type X)) (wpAny_tryCompare_declines (hY s) h2 (call_ne_other hY hne' ⟨rfl, ?_⟩))
  refine wpAny_bind (wpAny_rule (wpAny_bind (wpAny_of_eq (a := false) (by rw [isSame_plain rfl, hne]) (wpAny_pure h))))
end
end PySem.TypeNe
namespace K1
open PySem PySem.Spec PyProof.Rows L2
/-- the built-in kinds whose type is compared here -/
def BT (a : String) : Prop := ∀ s' : Shared, s'.TypeIs (.type a) "type"
theorem bt_ty {K : PySem.W.Frag} {H : Hp} {x : V} {T : String} (t : TyB K H x T) : BT T := by
  cases t
  · exact TypeEq.meta_NoneType
  · exact TypeEq.meta_bool
  · exact TypeEq.meta_int
  · exact TypeEq.meta_str
  · exact TypeEq.meta_bytes
  · exact TypeEq.meta_list
  · exact TypeEq.meta_tuple
  · exact TypeEq.meta_dict
section
variable {X : Cx}
theorem op_eqTy : OpR X (compareOp .Eq) (fun x y H Q => ∃ a b, x = .ty a ∧ y = .ty b ∧ BT a ∧ BT b ∧ Q (.bl (decide (a = b))) H) := by
  intro pins s σ H x y v u Q I rx ry h
  obtain ⟨a, b, rfl, rfl, ha, hb, q⟩ := h
  cases (show v = Value.type a from rx)
  cases (show u = Value.type b from ry)
  by_cases e : a = b
  · subst e
    exact TypeEq.eq_type_same ha ⟨.bl true, H, I, rfl, by simpa using q⟩
  · exact TypeEq.eq_type_other ha hb (beq_eq_false_iff_ne.mpr fun z => e (Value.type.inj z)) ⟨.bl false, H, I, rfl, by simpa [e] using q⟩
theorem op_neTy : OpR X (compareOp .NotEq) (fun x y H Q => ∃ a b, x = .ty a ∧ y = .ty b ∧ BT a ∧ BT b ∧ Q (.bl (!decide (a = b))) H) := by
  intro pins s σ H x y v u Q I rx ry h
  obtain ⟨a, b, rfl, rfl, ha, hb, q⟩ := h
  cases (show v = Value.type a from rx)
  cases (show u = Value.type b from ry)
  by_cases e : a = b
  · subst e
    exact TypeNe.ne_type_same ha ⟨.bl false, H, I, rfl, by simpa using q⟩
  · exact TypeNe.ne_type_other ha hb (beq_eq_false_iff_ne.mpr fun z => e (Value.type.inj z)) ⟨.bl true, H, I, rfl, by simpa [e] using q⟩
/-- x is True, x is False -/
theorem op_isB : OpR X (compareOp .Is) (fun x y H Q => ∃ b : Bool, y = .bl b ∧ (∀ z, x ≠ .byt z) ∧ (∀ z, x ≠ .flt z) ∧ Q (.bl (decide (x = .bl b))) H) := by
  intro pins s σ H x y v u Q I rx ry h
  obtain ⟨b, rfl, n1, n2, q⟩ := h
  cases (show u = Value.bool b from ry)
  by_cases e : x = .bl b
  · subst e
    cases (show v = Value.bool b from rx)
    exact wpAny_is_self rfl ⟨.bl true, H, I, rfl, by simpa using q⟩
  · have fin : EP X pins σ Q (.bool false) s := ⟨.bl false, H, I, rfl, by simpa [e] using q⟩
    cases x with
    | non => cases (show v = Value.none from rx); exact wpAny_is_other rfl (fun z => by cases z) fin
    | bl c => cases (show v = Value.bool c from rx); exact wpAny_is_other rfl (fun z => e (by cases z; rfl)) fin
    | int i => obtain ⟨t, rfl⟩ := (show ∃ t, v = Value.int i t from rx); exact wpAny_is_other rfl (fun z => by cases z) fin
    | str i => obtain ⟨t, rfl⟩ := (show ∃ t, v = Value.str i t from rx); exact wpAny_is_other rfl (fun z => by cases z) fin
    | byt i => exact absurd rfl (n1 i)
    | flt i => exact absurd rfl (n2 i)
    | ref a => cases (show v = Value.ref a from rx); exact wpAny_is_other rfl (fun z => by cases z) fin
    | ty a => cases (show v = Value.type a from rx); exact wpAny_is_other rfl (fun z => by cases z) fin
/-- text * n -/
theorem op_mulStr : OpR X (binaryOp .Mult) (fun x y H Q => ∃ (z : Str) (n : Int), x = .str z ∧ y = .int n ∧ MulOk z n ∧ Q (.str (Txt.mul z n)) H) := by
  intro pins s σ H x y v u Q I rx ry h
  obtain ⟨z, n, rfl, rfl, ok, q⟩ := h
  obtain ⟨t, rfl⟩ := (show ∃ t, v = Value.str z t from rx)
  obtain ⟨t', rfl⟩ := (show ∃ t, u = Value.int n t from ry)
  exact SB.mul ok fun t2 k => ⟨.str _, H, I.tok _, ⟨_, rfl⟩, q⟩
end
end K1

namespace CW
open PySem PySem.Spec PyProof.Rows L2 K1
/-! ### readings that compute: every rule of the layer, its reading by cases on values -/
theorem PEto {X : Cx} {e : Expr} {t t' : TE} (h : PE X e t) (w : ∀ σ H Q, t' σ H Q → t σ H Q) : PE X e t' := ⟨fun pins s σ H Q I q => h.run pins s σ H Q I (w σ H Q q)⟩
theorem PTto {X : Cx} {e : Expr} {t t' : TT} (h : PT X e t) (w : ∀ σ H Q, t' σ H Q → t σ H Q) : PT X e t' := ⟨fun pins s σ H Q I q => h.run pins s σ H Q I (w σ H Q q)⟩
theorem PWto {X : Cx} {e : Expr} {t t' : TT} (h : PW X e t) (w : ∀ σ H Q, t' σ H Q → t σ H Q) : PW X e t' := ⟨fun wh pins s σ H Q I q => h.run wh pins s σ H Q I (w σ H Q q)⟩
theorem PSto {X : Cx} {e : Stmt} {t t' : TS} (h : PS X e t) (w : ∀ D σ H, t' D σ H → t D σ H) : PS X e t' := ⟨fun pins s σ H D I q => h.run pins s σ H D I (w D σ H q)⟩
theorem ORto {X : Cx} {f : Value → Value → Sem Value} {r r' : R2} (h : OpR X f r) (w : ∀ x y H Q, r' x y H Q → r x y H Q) : OpR X f r' := fun pins s σ H x y v u Q I rx ry q => h pins s σ H x y v u Q I rx ry (w x y H Q q)
theorem CRto {X : Cx} {f : Value} {r r' : List V → Hp → VK → Prop} (h : CallR X f r) (w : ∀ xs H Q, r' xs H Q → r xs H Q) : CallR X f r' := fun pins s σ H xs us Q I rv q => h pins s σ H xs us Q I rv (w xs H Q q)

/-- a reading made monotone -/
def up (t : TE) : TE := fun σ H Q => ∃ Q' : VK, t σ H Q' ∧ ∀ v H', Q' v H' → Q v H'
theorem PEup {X : Cx} {e : Expr} {t : TE} (h : PE X e t) : PE X e (up t) := ⟨fun pins s σ H Q I ⟨Q', q, m⟩ => thn (h.run pins s σ H Q' I q) fun u s' ⟨v, H', I', r, q'⟩ => ⟨v, H', I', r, m v H' q'⟩⟩
def upT (t : TT) : TT := fun σ H Q => ∃ Q' : Bool → Hp → Prop, t σ H Q' ∧ ∀ v H', Q' v H' → Q v H'
theorem PTup {X : Cx} {e : Expr} {t : TT} (h : PT X e t) : PT X e (upT t) := ⟨fun pins s σ H Q I ⟨Q', q, m⟩ => thn (h.run pins s σ H Q' I q) fun b s' ⟨H', I', q'⟩ => ⟨H', I', m b H' q'⟩⟩
def upA (t : TA) : TA := fun σ H Q => ∃ Q' : List V → Hp → Prop, t σ H Q' ∧ ∀ v H', Q' v H' → Q v H'
theorem PAup {X : Cx} {es : List Expr} {t : TA} (h : PA X es t) : PA X es (upA t) := ⟨fun pos pins s σ H Q I ⟨Q', q, m⟩ => thn (h.run pos pins s σ H Q' I q) fun us s' ⟨vs, H', I', r, q'⟩ => ⟨vs, H', I', r, m vs H' q'⟩⟩
def upR (r : R2) : R2 := fun x y H Q => ∃ Q' : VK, r x y H Q' ∧ ∀ v H', Q' v H' → Q v H'
theorem ORup {X : Cx} {f : Value → Value → Sem Value} {r : R2} (h : OpR X f r) : OpR X f (upR r) := fun pins s σ H x y v u Q I rx ry ⟨Q', q, m⟩ => thn (h pins s σ H x y v u Q' I rx ry q) fun w s' ⟨z, H', I', rz, q'⟩ => ⟨z, H', I', rz, m z H' q'⟩
/-- a truth value that is open: whatever it is -/
def Gen (b : Bool) (Q : Bool → Prop) : Prop := ∀ c, b = c → Q c
theorem Gen.sub {b : Bool} {Q : Bool → Prop} (h : Q b) : Gen b Q := fun c e => e ▸ h
theorem Gen.to {b : Bool} {Q : Bool → Prop} (h : Gen b Q) : Q b := h b rfl
theorem Gen.cases {b : Bool} {Q : Bool → Prop} (h1 : b = true → Q true) (h2 : b = false → Q false) : Gen b Q := fun c e => by
  cases c
  · exact h2 e
  · exact h1 e
theorem Gen.dec {p : Prop} [Decidable p] {Q : Bool → Prop} (h1 : p → Q true) (h2 : ¬ p → Q false) : Gen (decide p) Q := .cases (fun e => h1 (of_decide_eq_true e)) (fun e => h2 (of_decide_eq_false e))
theorem Gen.ndec {p : Prop} [Decidable p] {Q : Bool → Prop} (h1 : p → Q false) (h2 : ¬ p → Q true) : Gen (!decide p) Q := .cases (fun e => h2 fun z => by rw [decide_eq_true z] at e; cases e) (fun e => h1 (Decidable.byContradiction fun z => by rw [decide_eq_false z] at e; cases e))
theorem Gen.yes {b : Bool} {Q : Bool → Prop} (e : b = true) (h : Q true) : Gen b Q := fun c d => by
  rw [← d, e]
  exact h
theorem Gen.no {b : Bool} {Q : Bool → Prop} (e : b = false) (h : Q false) : Gen b Q := fun c d => by
  rw [← d, e]
  exact h
/-- the value of slot i -/
def cVar (i : Nat) : TE := fun σ H Q => match σ[i]? with
  | some (some v) => Q v H
  | _ => False
section
variable {X : Cx} {a b c e : Expr} {ta tb tc te : TE} {pos : Pos}
theorem c_var (i : Nat) {x : Str} {pos : Pos} (hN : X.N[i]? = some x := by rfl) (hv : Vis X.env.scope x := by first | exact Or.inl rfl | exact Or.inr (Or.inl rfl) | exact Or.inr (Or.inr rfl)) (hd : (x == ("__debug__" : Str)) = false := by decide)
    (hcd : (x == ("__classdict__" : Str)) = false := by decide) : PE X (.Name x pos) (cVar i) := PEto (pe_var hN hv hd hcd) fun σ H Q q => by
  unfold cVar at q
  split at q
  · rename_i v e
    exact ⟨v, e, q⟩
  · exact q.elim
/-! ### operators -/
def rAdd : R2 := fun x y H Q => match x, y with
  | .int i, .int j => Q (.int (i + j)) H
  | .str i, .str j => i.length + j.length ≤ sizeLine ∧ Q (.str (i ++ j)) H
  | .ref l, .ref b => ∃ xs zs, H l = some (.lst xs) ∧ H b = some (.lst zs) ∧ xs.length + zs.length ≤ sizeLine ∧ ∀ p, H p = none → Q (.ref p) (upd H p (.lst (xs ++ zs)))
  | _, _ => False
theorem o_add : OpR X (binaryOp .Add) rAdd := ORto (OpR.or op_add (OpR.or op_add_str op_cat)) fun x y H Q q => by
  unfold rAdd at q
  split at q
  · exact .inl ⟨_, _, rfl, rfl, q⟩
  · exact .inr (.inl ⟨_, _, rfl, rfl, q⟩)
  · obtain ⟨xs, zs, h⟩ := q
    exact .inr (.inr ⟨_, _, xs, zs, rfl, rfl, h⟩)
  · exact q.elim
def rSub : R2 := fun x y H Q => match x, y with
  | .int i, .int j => Q (.int (i - j)) H
  | _, _ => False
theorem o_sub : OpR X (binaryOp .Sub) rSub := ORto op_sub fun x y H Q q => by
  unfold rSub at q
  split at q
  · exact ⟨_, _, rfl, rfl, q⟩
  · exact q.elim
def rMul : R2 := fun x y H Q => match x, y with
  | .int i, .int j => CMul i j ∧ Q (.int (i * j)) H
  | .str z, .int n => MulOk z n ∧ Q (.str (Txt.mul z n)) H
  | _, _ => False
theorem o_mul : OpR X (binaryOp .Mult) rMul := ORto (OpR.or op_mul op_mulStr) fun x y H Q q => by
  unfold rMul at q
  split at q
  · exact .inl ⟨_, _, rfl, rfl, q⟩
  · exact .inr ⟨_, _, rfl, rfl, q⟩
  · exact q.elim
def rFdiv : R2 := fun x y H Q => match x, y with
  | .int i, .int j => CDiv i j ∧ Q (.int (i / j)) H
  | _, _ => False
theorem o_fdiv : OpR X (binaryOp .FloorDiv) rFdiv := ORto op_fdiv fun x y H Q q => by
  unfold rFdiv at q
  split at q
  · exact ⟨_, _, rfl, rfl, q⟩
  · exact q.elim
def rMod : R2 := fun x y H Q => match x, y with
  | .int i, .int j => 0 < j ∧ Q (.int (i % j)) H
  | _, _ => False
theorem o_mod : OpR X (binaryOp .Mod) rMod := ORto op_mod fun x y H Q q => by
  unfold rMod at q
  split at q
  · exact ⟨_, _, rfl, rfl, q⟩
  · exact q.elim
def rPow : R2 := fun x y H Q => match x, y with
  | .int i, .int j => CPow i j ∧ Q (.int (i ^ j.toNat)) H
  | _, _ => False
theorem o_pow : OpR X (binaryOp .Pow) rPow := ORto op_pow fun x y H Q q => by
  unfold rPow at q
  split at q
  · exact ⟨_, _, rfl, rfl, q⟩
  · exact q.elim
def cBin (r : R2) (ta tb : TE) : TE := fun σ H Q => ta σ H fun x H1 => tb σ H1 fun y H2 => r x y H2 Q
theorem c_bin {op : Operator} {r : R2} (ho : OpR X (binaryOp op) r) (ha : PE X a ta) (hb : PE X b tb) : PE X (.BinOp a op b pos) (cBin r ta tb) := PEto (pe_op ho ha hb) fun _ _ _ q => q
def cUn (r : V → Hp → VK → Prop) (ta : TE) : TE := fun σ H Q => ta σ H fun x H1 => r x H1 Q
theorem URto {f : Value → Sem Value} {r r' : V → Hp → VK → Prop} (h : UnR X f r) (w : ∀ x H Q, r' x H Q → r x H Q) : UnR X f r' := fun pins s σ H x v Q I rx q => h pins s σ H x v Q I rx (w x H Q q)
def rNeg : V → Hp → VK → Prop := fun x H Q => match x with
  | .int i => Q (.int (-i)) H
  | _ => False
theorem o_neg : UnR X (unaryOp .USub) rNeg := URto un_neg fun x H Q q => by
  unfold rNeg at q
  split at q
  · exact ⟨_, rfl, q⟩
  · exact q.elim
theorem c_neg (ha : PE X a ta) : PE X (.UnaryOp .USub a pos) (cUn rNeg ta) := PEto (pe_un o_neg ha) fun _ _ _ q => q
/-! ### truth -/
def rTru (K : PySem.W.Frag) (x : V) (H : Hp) (Q : Bool → Hp → Prop) : Prop := match x with
  | .non => Q false H
  | .bl b => Q b H
  | .int i => Gen (i != 0) fun k => Q k H
  | .str y => y.length ≤ sizeLine ∧ Gen ((y.length : Int) != 0) fun k => Q k H
  | .ref p => ∃ k, TruV K (.ref p) H k ∧ Q k H
  | _ => False
theorem rTru_to {K : PySem.W.Frag} {x : V} {H : Hp} {Q : Bool → Hp → Prop} (q : rTru K x H Q) : ∃ k, TruV K x H k ∧ Q k H := by
  unfold rTru at q
  split at q
  · exact ⟨_, rfl, q⟩
  · exact ⟨_, rfl, q⟩
  · exact ⟨_, rfl, q.to⟩
  · exact ⟨_, ⟨q.1, rfl⟩, q.2.to⟩
  · exact q
  · exact q.elim
/-- a test that is its value's truth; a comparison's -/
def cTru (K : PySem.W.Frag) (ta : TE) : TT := fun σ H Q => ta σ H fun x H1 => rTru K x H1 Q
theorem t_tru {K : PySem.W.Frag} (hK : X.K = K) (ha : PE X a ta) (he : ∀ whole, isTrue a X.env whole = (do let v ← whole; standAt a.pos; holding [v] (truthy v)) := by exact fun _ => rfl) : PT X a (cTru K ta) := by
  subst hK
  exact PTto (pt_truth (PEup ha) he) fun σ H Q q => ⟨_, q, fun v H' q1 => rTru_to q1⟩
def rBl (x : V) (H : Hp) (Q : Bool → Hp → Prop) : Prop := match x with
  | .bl b => Q b H
  | _ => False
def cBl (ta : TE) : TT := fun σ H Q => ta σ H fun x H1 => rBl x H1 Q
theorem rBl_to {x : V} {H : Hp} {Q : Bool → Hp → Prop} (q : rBl x H Q) : ∃ k, x = .bl k ∧ Q k H := by
  unfold rBl at q
  split at q
  · exact ⟨_, rfl, q⟩
  · exact q.elim
/-- not x, as a value -/
def cNot (K : PySem.W.Frag) (ta : TE) : TE := fun σ H Q => ta σ H fun x H1 => rTru K x H1 fun k H2 => Q (.bl (!k)) H2
theorem c_not {K : PySem.W.Frag} (hK : X.K = K) (ha : PE X a ta) : PE X (.UnaryOp .Not a pos) (cNot K ta) := by
  subst hK
  exact PEto (pe_notT (PEup ha)) fun σ H Q q => ⟨_, q, fun v H' q1 => rTru_to q1⟩
/-! ### comparisons -/
def rEqC : R2 := fun x y H Q => match x, y with
  | .ty a, .ty b => BT a ∧ BT b ∧ Gen (decide (a = b)) fun k => Q (.bl k) H
  | .non, .non => Q (.bl true) H
  | .int i, .int j => Gen (decide (i = j)) fun k => Q (.bl k) H
  | .bl i, .bl j => Gen (decide (i = j)) fun k => Q (.bl k) H
  | .str i, .str j => Gen (decide (i = j)) fun k => Q (.bl k) H
  | .non, .int _ => Q (.bl false) H | .int _, .non => Q (.bl false) H | .non, .bl _ => Q (.bl false) H | .bl _, .non => Q (.bl false) H | .non, .str _ => Q (.bl false) H | .str _, .non => Q (.bl false) H
  | .int _, .str _ => Q (.bl false) H | .str _, .int _ => Q (.bl false) H | .bl _, .str _ => Q (.bl false) H | .str _, .bl _ => Q (.bl false) H
  | _, _ => False
theorem rEqC_to {x y : V} {H : Hp} {Q : VK} (q : rEqC x y H Q) : (∃ a b, x = .ty a ∧ y = .ty b ∧ BT a ∧ BT b ∧ Q (.bl (decide (a = b))) H) ∨ (scal x y = true ∧ Q (.bl (decide (x = y))) H) := by
  unfold rEqC at q
  split at q <;> first
    | exact .inl ⟨_, _, rfl, rfl, q.1, q.2.1, q.2.2.to⟩
    | exact .inr ⟨rfl, by simpa using q⟩
    | exact .inr ⟨rfl, by simpa using q.to⟩
    | exact q.elim
theorem o_eq : OpR X (compareOp .Eq) rEqC := ORto (OpR.or op_eqTy op_eq) fun x y H Q q => rEqC_to q
def rNeC : R2 := fun x y H Q => rEqC x y H fun z H' => match z with
  | .bl b => Q (.bl (!b)) H'
  | _ => False
theorem o_ne : OpR X (compareOp .NotEq) rNeC := ORto (OpR.or op_neTy op_ne) fun x y H Q q => rEqC_to q
def rLt : R2 := fun x y H Q => match x, y with
  | .int i, .int j => Gen (decide (i < j)) fun c => Q (.bl c) H
  | .str i, .str j => Gen (decide (i.cps.toList < j.cps.toList)) fun c => Q (.bl c) H
  | _, _ => False
theorem o_lt : OpR X (compareOp .Lt) rLt := ORto (OpR.or op_lt op_lt_str) fun x y H Q q => by
  unfold rLt at q
  split at q
  · exact .inl ⟨_, _, rfl, rfl, q.to⟩
  · exact .inr ⟨_, _, rfl, rfl, q.to⟩
  · exact q.elim
def rLe : R2 := fun x y H Q => match x, y with
  | .int i, .int j => Gen (decide (i ≤ j)) fun c => Q (.bl c) H
  | .str i, .str j => Gen (!decide (j.cps.toList < i.cps.toList)) fun c => Q (.bl c) H
  | _, _ => False
theorem o_le : OpR X (compareOp .LtE) rLe := ORto (OpR.or op_le op_le_str) fun x y H Q q => by
  unfold rLe at q
  split at q
  · exact .inl ⟨_, _, rfl, rfl, q.to⟩
  · exact .inr ⟨_, _, rfl, rfl, q.to⟩
  · exact q.elim
def rGt : R2 := fun x y H Q => match x, y with
  | .int i, .int j => Gen (decide (j < i)) fun c => Q (.bl c) H
  | .str i, .str j => Gen (decide (j.cps.toList < i.cps.toList)) fun c => Q (.bl c) H
  | _, _ => False
theorem o_gt : OpR X (compareOp .Gt) rGt := ORto (OpR.or op_gt op_gt_str) fun x y H Q q => by
  unfold rGt at q
  split at q
  · exact .inl ⟨_, _, rfl, rfl, q.to⟩
  · exact .inr ⟨_, _, rfl, rfl, q.to⟩
  · exact q.elim
def rGe : R2 := fun x y H Q => match x, y with
  | .int i, .int j => Gen (decide (j ≤ i)) fun c => Q (.bl c) H
  | _, _ => False
theorem o_ge : OpR X (compareOp .GtE) rGe := ORto op_ge fun x y H Q q => by
  unfold rGe at q
  split at q
  · exact ⟨_, _, rfl, rfl, q.to⟩
  · exact q.elim
def isNon : V → Bool
  | .non => true
  | _ => false
theorem isNon_eq (x : V) : decide (x = .non) = isNon x := by cases x <;> simp [isNon]
/-- x is None, True, False -/
def isC : V → V → Option Bool
  | x, .non => some (isNon x)
  | .bl a, .bl b => some (decide (a = b))
  | .byt _, .bl _ => none
  | .flt _, .bl _ => none
  | _, .bl _ => some false
  | _, _ => none
def rIs : R2 := fun x y H Q => match isC x y with
  | some b => Q (.bl b) H
  | none => False
theorem o_is : OpR X (compareOp .Is) rIs := ORto (OpR.or op_isN op_isB) fun x y H Q q => by
  unfold rIs at q
  split at q
  · rename_i b hb
    cases y with
    | non =>
      refine .inl ⟨rfl, ?_⟩
      rw [isNon_eq]
      cases x <;> (cases hb; exact q)
    | bl c =>
      refine .inr ⟨c, rfl, fun z e => ?_, fun z e => ?_, ?_⟩
      · subst e; cases hb
      · subst e; cases hb
      · cases x <;> first | (cases hb; exact q) | (simp only [isC, Option.some.injEq] at hb; subst hb; simpa using q) | cases hb
    | _ => cases x <;> cases hb
  · exact q.elim
def rIsNot : R2 := fun x y H Q => match y with
  | .non => Q (.bl (!isNon x)) H
  | _ => False
theorem o_isnot : OpR X (compareOp .IsNot) rIsNot := ORto op_notN fun x y H Q q => by
  unfold rIsNot at q
  split at q
  · refine ⟨rfl, ?_⟩
    rw [isNon_eq]
    exact q
  · exact q.elim
def rNotInS1 : R2 := fun x y H Q => match x, y with
  | .str u, .str z => ∃ c, u = ⟨#[c]⟩ ∧ Gen (!decide (c ∈ z.cps.toList)) fun k => Q (.bl k) H
  | _, _ => False
theorem o_notInS1 : OpR X (compareOp .NotIn) rNotInS1 := ORto op_notIn_sign fun x y H Q q => by
  unfold rNotInS1 at q
  split at q
  · obtain ⟨c, rfl, q⟩ := q
    exact ⟨c, _, rfl, rfl, q.to⟩
  · exact q.elim
theorem c_cmp {op : CmpOp} {r : R2} (ho : OpR X (compareOp op) r) (ha : PE X a ta) (hb : PE X b tb) (hm : behindInMarks op b = false := by first | exact nomark _ | rfl) : PE X (.Compare a [op] [b] pos) (cBin r ta tb) := PEto (pe_cmpR ho ha hb hm) fun _ _ _ q => q
theorem t_cmp {op : CmpOp} {r : R2} (ho : OpR X (compareOp op) r) (ha : PE X a ta) (hb : PE X b tb) (hm : behindInMarks op b = false := by first | exact nomark _ | rfl) : PT X (.Compare a [op] [b] pos) (cBl (cBin r ta tb)) :=
  PTto (pt_cmpR (ORup ho) (PEup ha) (PEup hb) hm) fun σ H Q q => ⟨_, q, fun x H1 q1 => ⟨_, q1, fun y H2 q2 => ⟨_, q2, fun z H3 q3 => rBl_to q3⟩⟩⟩
def rChn (r' : R2) (tc : TE) (σ : L2.St) (y : V) (Q : VK) : V → Hp → Prop := fun z H3 => match z with
  | .bl true => tc σ H3 fun w' H4 => r' y w' H4 Q
  | .bl false => Q (.bl false) H3
  | _ => False
def cChain (r r' : R2) (ta tb tc : TE) : TE := fun σ H Q => ta σ H fun x H1 => tb σ H1 fun y H2 => r x y H2 (rChn r' tc σ y Q)
theorem rChn_to {r' : R2} {tc : TE} {σ : L2.St} {y : V} {Q : VK} {z : V} {H3 : Hp} (q : rChn r' tc σ y Q z H3) : ∃ k, z = .bl k ∧ (if k = true then tc σ H3 fun w' H4 => r' y w' H4 Q else Q (.bl false) H3) := by
  unfold rChn at q
  split at q
  · exact ⟨true, rfl, by rw [if_pos rfl]; exact q⟩
  · exact ⟨false, rfl, by rw [if_neg (by decide)]; exact q⟩
  · exact q.elim
theorem c_chain {op op' : CmpOp} {r r' : R2} (ho : OpR X (compareOp op) r) (ho' : OpR X (compareOp op') r') (ha : PE X a ta) (hb : PE X b tb) (hc : PE X c tc)
    (hm : lastMarks [op, op'] [b, c] = false := by with_unfolding_all rfl) : PE X (.Compare a [op, op'] [b, c] pos) (cChain r r' ta tb tc) :=
  PEto (pe_chain (ORup ho) ho' (PEup ha) (PEup hb) hc hm) fun σ H Q q => ⟨_, q, fun x H1 q1 => ⟨_, q1, fun y H2 q2 => ⟨_, q2, fun z H3 q3 => rChn_to q3⟩⟩⟩
theorem t_chain {op op' : CmpOp} {r r' : R2} (ho : OpR X (compareOp op) r) (ho' : OpR X (compareOp op') r') (ha : PE X a ta) (hb : PE X b tb) (hc : PE X c tc)
    (hm : lastMarks [op, op'] [b, c] = false := by with_unfolding_all rfl) : PT X (.Compare a [op, op'] [b, c] pos) (cBl (cChain r r' ta tb tc)) := by
  refine PTto (pt_chain (ORup ho) (ORup ho') (PEup ha) (PEup hb) (PEup hc) hm) fun σ H Q q => ⟨_, q, fun x H1 q1 => ⟨_, q1, fun y H2 q2 => ⟨_, q2, fun z H3 q3 => ?_⟩⟩⟩
  obtain ⟨k, rfl, q4⟩ := rChn_to q3
  refine ⟨k, rfl, ?_⟩
  cases k with
  | false => exact ⟨false, rfl, q4⟩
  | true => exact ⟨_, q4, fun u H4 q5 => ⟨_, q5, fun u2 H5 q6 => rBl_to q6⟩⟩
/-! ### and, or, if else -/
def cCond (b : Bool) (p q : Prop) : Prop := match b with
  | true => p
  | false => q
theorem cCond_if {b : Bool} {p q : Prop} (h : cCond b p q) : if b = true then p else q := by
  cases b
  · exact h
  · exact h
def cAnd (t u : TT) : TT := fun σ H Q => t σ H fun c H1 => cCond c (u σ H1 Q) (Q false H1)
def cOr (t u : TT) : TT := fun σ H Q => t σ H fun c H1 => cCond c (Q true H1) (u σ H1 Q)
def cNotT (t : TT) : TT := fun σ H Q => t σ H fun c H1 => Q (!c) H1
variable {tA tB' : TT} {rest : List Expr}
theorem w_and1 (ha : PT X a tA) : PW X (.BoolOp .And [a] pos) tA := pw_and1 ha
theorem w_or1 (ha : PT X a tA) : PW X (.BoolOp .Or [a] pos) tA := pw_or1 ha
theorem w_and (ha : PT X a tA) (hb : PW X (.BoolOp .And (b :: rest) pos) tB') : PW X (.BoolOp .And (a :: b :: rest) pos) (cAnd tA tB') := PWto (pw_and (PTup ha) hb) fun σ H Q q => ⟨_, q, fun c H1 q1 => cCond_if q1⟩
theorem w_or (ha : PT X a tA) (hb : PW X (.BoolOp .Or (b :: rest) pos) tB') : PW X (.BoolOp .Or (a :: b :: rest) pos) (cOr tA tB') := PWto (pw_or (PTup ha) hb) fun σ H Q q => ⟨_, q, fun c H1 q1 => cCond_if q1⟩
theorem t_not (ha : PT X a tA) : PT X (.UnaryOp .Not a pos) (cNotT tA) := pt_not ha
/-- and, or as values, the left one a bool -/
def rAndV (tb : TE) (σ : L2.St) (Q : VK) (x : V) (H1 : Hp) : Prop := match x with
  | .bl true => tb σ H1 Q
  | .bl false => Q (.bl false) H1
  | _ => False
def rOrV (tb : TE) (σ : L2.St) (Q : VK) (x : V) (H1 : Hp) : Prop := match x with
  | .bl true => Q (.bl true) H1
  | .bl false => tb σ H1 Q
  | _ => False
def cAndV (ta tb : TE) : TE := fun σ H Q => ta σ H fun x H1 => rAndV tb σ Q x H1
def cOrV (ta tb : TE) : TE := fun σ H Q => ta σ H fun x H1 => rOrV tb σ Q x H1
theorem rAndV_to {tb : TE} {σ : L2.St} {Q : VK} {x : V} {H1 : Hp} (q : rAndV tb σ Q x H1) : ∃ c, x = .bl c ∧ if c = true then tb σ H1 Q else Q (.bl false) H1 := by
  unfold rAndV at q
  split at q
  · exact ⟨true, rfl, by rw [if_pos rfl]; exact q⟩
  · exact ⟨false, rfl, by rw [if_neg (by decide)]; exact q⟩
  · exact q.elim
theorem rOrV_to {tb : TE} {σ : L2.St} {Q : VK} {x : V} {H1 : Hp} (q : rOrV tb σ Q x H1) : ∃ c, x = .bl c ∧ if c = true then Q (.bl true) H1 else tb σ H1 Q := by
  unfold rOrV at q
  split at q
  · exact ⟨true, rfl, by rw [if_pos rfl]; exact q⟩
  · exact ⟨false, rfl, by rw [if_neg (by decide)]; exact q⟩
  · exact q.elim
theorem c_one {op} {t : TE} (h : PE X a t) : PE X (.BoolOp op [a] pos) t := pe_one h
theorem c_and (ha : PE X a ta) (hb : PE X (.BoolOp .And (b :: rest) pos) tb) : PE X (.BoolOp .And (a :: b :: rest) pos) (cAndV ta tb) := PEto (pe_and (PEup ha) hb) fun σ H Q q => ⟨_, q, fun x H1 q1 => rAndV_to q1⟩
theorem c_or (ha : PE X a ta) (hb : PE X (.BoolOp .Or (b :: rest) pos) tb) : PE X (.BoolOp .Or (a :: b :: rest) pos) (cOrV ta tb) := PEto (pe_or (PEup ha) hb) fun σ H Q q => ⟨_, q, fun x H1 q1 => rOrV_to q1⟩
def cIfE (t : TT) (ta tb : TE) : TE := fun σ H Q => t σ H fun c H1 => cCond c (ta σ H1 Q) (tb σ H1 Q)
theorem c_ife {c : Expr} (hc : PT X c tA) (ha : PE X a ta) (hb : PE X b tb) : PE X (.IfExp c a b pos) (cIfE tA ta tb) := PEto (pe_ifExp (PTup hc) ha hb) fun σ H Q q => ⟨_, q, fun c H1 q1 => cCond_if q1⟩
/-! ### calls of built-ins -/
def rLen (K : PySem.W.Frag) : List V → Hp → VK → Prop := fun xs H Q => match xs with
  | [.str z] => z.length ≤ sizeLine ∧ Q (.int z.length) H
  | [.ref p] => (∃ ys, (SqL K H p ys ∨ SqT K H p ys) ∧ Q (.int ys.length) H) ∨ (∃ kvs, H p = some (.dK kvs) ∧ Q (.int kvs.length) H)
  | _ => False
theorem b_len {K : PySem.W.Frag} (hK : X.K = K) : CallR X (.builtin "len") (rLen K) := hK ▸ CRto (CallR.or call_len_str (CallR.or call_len_seq call_lenD)) fun xs H Q q => by
  unfold rLen at q
  split at q
  · exact .inl ⟨_, rfl, q⟩
  · rcases q with ⟨ys, q⟩ | ⟨kvs, q⟩
    · exact .inr (.inl ⟨_, ys, rfl, q⟩)
    · exact .inr (.inr ⟨_, kvs, rfl, q⟩)
  · exact q.elim
def rAbs : List V → Hp → VK → Prop := fun xs H Q => match xs with
  | [.int i] => Q (.int (if i < 0 then -i else i)) H
  | _ => False
theorem b_abs : CallR X (.builtin "abs") rAbs := CRto call_abs fun xs H Q q => by
  unfold rAbs at q
  split at q
  · exact ⟨_, rfl, q⟩
  · exact q.elim
def rInt : List V → Hp → VK → Prop := fun xs H Q => match xs with
  | [.int i] => Q (.int i) H
  | [.bl k] => Q (.int (if k then 1 else 0)) H
  | _ => False
theorem b_int : CallR X (.type "int") rInt := CRto call_int1 fun xs H Q q => by
  unfold rInt at q
  split at q
  · exact .inl ⟨_, rfl, q⟩
  · exact .inr ⟨_, rfl, q⟩
  · exact q.elim
def rStr : List V → Hp → VK → Prop := fun xs H Q => match xs with
  | [.int i] => i.natAbs.log2 < 1920 ∧ Q (.str (toString i)) H
  | [.str x] => Q (.str x) H
  | _ => False
theorem b_str : CallR X (.type "str") rStr := CRto (CallR.or call_str_int SkE.call_str_str) fun xs H Q q => by
  unfold rStr at q
  split at q
  · exact .inl ⟨_, rfl, q⟩
  · exact .inr ⟨_, rfl, q⟩
  · exact q.elim
/-- type(x) of scalars; of lists, tuples, dicts by TyB -/
def tyn : V → Option String
  | .non => some "NoneType" | .bl _ => some "bool" | .int _ => some "int" | .str _ => some "str"
  | _ => none
theorem tyn_TyB {K : PySem.W.Frag} {H : Hp} {x : V} {T : String} (h : tyn x = some T) : TyB K H x T := by
  cases x <;> simp [tyn] at h <;> subst h
  · exact .non
  · exact .bl _
  · exact .int _
  · exact .str _
def rType (K : PySem.W.Frag) : List V → Hp → VK → Prop := fun xs H Q => match xs with
  | [.ref a] => ∃ T, TyB K H (.ref a) T ∧ Q (.ty T) H
  | [x] => (match tyn x with
    | some T => Q (.ty T) H
    | none => False)
  | _ => False
theorem b_type {K : PySem.W.Frag} (hK : X.K = K) : CallR X (.type "type") (rType K) := hK ▸ CRto call_type1 fun xs H Q q => by
  unfold rType at q
  split at q
  · obtain ⟨T, t, q⟩ := q
    exact ⟨_, T, rfl, t, q⟩
  · split at q
    · rename_i T hT
      exact ⟨_, T, rfl, tyn_TyB hT, q⟩
    · exact q.elim
  · exact q.elim
def isB : V → Option Bool
  | .bl _ => some true | .non => some false | .int _ => some false | .str _ => some false
  | _ => none
def isS : V → Option Bool
  | .bl _ => some false | .non => some false | .int _ => some false | .str _ => some true
  | _ => none
def isI : V → Option Bool
  | .bl _ => some true | .non => some false | .int _ => some true | .str _ => some false
  | _ => none
/-- what isinstance(x, T) answers: scalars by f, objects by what they are -/
def rIs1 (K : PySem.W.Frag) (T : String) (f : V → Option Bool) (x : V) (H : Hp) (Q : VK) : Prop := match x with
  | .ref a => ∃ U b, TyX K H (.ref a) (.type U) ∧ kitB U T = some b ∧ Q (.bl b) H
  | x => match f x with
    | some b => Q (.bl b) H
    | none => False
def rIsK (K : PySem.W.Frag) (T : String) (f : V → Option Bool) : List V → Hp → VK → Prop := fun xs H Q => match xs with
  | [x, .ty U] => U = T ∧ rIs1 K T f x H Q
  | _ => False
def isN : V → Option Bool
  | .bl _ => some false | .non => some false | .int _ => some false | .str _ => some false
  | _ => none
/-- f tells of the scalars what kitB tells -/
structure KitF (T : String) (f : V → Option Bool) : Prop where
  non : ∀ b, f .non = some b → kitB "NoneType" T = some b
  bl : ∀ x b, f (.bl x) = some b → kitB "bool" T = some b
  int : ∀ x b, f (.int x) = some b → kitB "int" T = some b
  str : ∀ x b, f (.str x) = some b → kitB "str" T = some b
  byt : ∀ x, f (.byt x) = none
  flt : ∀ x, f (.flt x) = none
  ty : ∀ x, f (.ty x) = none
theorem b_isK {K : PySem.W.Frag} {T : String} {f : V → Option Bool} (kf : KitF T f) (hK : X.K = K) : CallR X (.builtin "isinstance") (rIsK K T f) := by
  subst hK
  refine CRto call_isi fun xs H Q q => ?_
  unfold rIsK at q
  split at q
  · rename_i x U
    obtain ⟨rfl, q⟩ := q
    unfold rIs1 at q
    split at q
    · obtain ⟨U', b, t, kb, q⟩ := q
      exact ⟨_, _, _, _, b, rfl, .ty _, t, kit_ty kb, q⟩
    · split at q
      · rename_i b hb
        cases x with
        | non => exact ⟨_, _, .type "NoneType", _, b, rfl, .ty _, .base .non, kit_ty (kf.non b hb), q⟩
        | bl y => exact ⟨_, _, .type "bool", _, b, rfl, .ty _, .base (.bl y), kit_ty (kf.bl y b hb), q⟩
        | int y => exact ⟨_, _, .type "int", _, b, rfl, .ty _, .base (.int y), kit_ty (kf.int y b hb), q⟩
        | str y => exact ⟨_, _, .type "str", _, b, rfl, .ty _, .base (.str y), kit_ty (kf.str y b hb), q⟩
        | byt y => rw [kf.byt] at hb; cases hb
        | flt y => rw [kf.flt] at hb; cases hb
        | ty y => rw [kf.ty] at hb; cases hb
        | ref a => rename_i hn; exact absurd rfl (hn a)
      · exact q.elim
  · exact q.elim
theorem kf_bool : KitF "bool" isB := ⟨fun b e => by cases e; decide +kernel, fun _ b e => by cases e; decide +kernel, fun _ b e => by cases e; decide +kernel, fun _ b e => by cases e; decide +kernel, fun _ => rfl, fun _ => rfl, fun _ => rfl⟩
theorem kf_str : KitF "str" isS := ⟨fun b e => by cases e; decide +kernel, fun _ b e => by cases e; decide +kernel, fun _ b e => by cases e; decide +kernel, fun _ b e => by cases e; decide +kernel, fun _ => rfl, fun _ => rfl, fun _ => rfl⟩
theorem kf_int : KitF "int" isI := ⟨fun b e => by cases e; decide +kernel, fun _ b e => by cases e; decide +kernel, fun _ b e => by cases e; decide +kernel, fun _ b e => by cases e; decide +kernel, fun _ => rfl, fun _ => rfl, fun _ => rfl⟩
theorem kf_list : KitF "list" isN := ⟨fun b e => by cases e; decide +kernel, fun _ b e => by cases e; decide +kernel, fun _ b e => by cases e; decide +kernel, fun _ b e => by cases e; decide +kernel, fun _ => rfl, fun _ => rfl, fun _ => rfl⟩
theorem kf_tuple : KitF "tuple" isN := ⟨fun b e => by cases e; decide +kernel, fun _ b e => by cases e; decide +kernel, fun _ b e => by cases e; decide +kernel, fun _ b e => by cases e; decide +kernel, fun _ => rfl, fun _ => rfl, fun _ => rfl⟩
theorem kf_dict : KitF "dict" isN := ⟨fun b e => by cases e; decide +kernel, fun _ b e => by cases e; decide +kernel, fun _ b e => by cases e; decide +kernel, fun _ b e => by cases e; decide +kernel, fun _ => rfl, fun _ => rfl, fun _ => rfl⟩
theorem kb_tt : kitB "tuple" "tuple" = some true := by decide +kernel
theorem kb_tl : kitB "tuple" "list" = some false := by decide +kernel
theorem kb_ll : kitB "list" "list" = some true := by decide +kernel
theorem kb_lt : kitB "list" "tuple" = some false := by decide +kernel
theorem kb_td : kitB "tuple" "dict" = some false := by decide +kernel
theorem kb_ld : kitB "list" "dict" = some false := by decide +kernel
theorem kb_dd : kitB "dict" "dict" = some true := by decide +kernel
theorem kb_dt : kitB "dict" "tuple" = some false := by decide +kernel
theorem kb_dl : kitB "dict" "list" = some false := by decide +kernel
theorem kb_ts : kitB "tuple" "str" = some false := by decide +kernel
theorem kb_ls : kitB "list" "str" = some false := by decide +kernel
theorem kb_ds : kitB "dict" "str" = some false := by decide +kernel
theorem kb_tb : kitB "tuple" "bool" = some false := by decide +kernel
theorem kb_lb : kitB "list" "bool" = some false := by decide +kernel
theorem kb_ti : kitB "tuple" "int" = some false := by decide +kernel
theorem kb_li : kitB "list" "int" = some false := by decide +kernel
theorem tyx_l {K : PySem.W.Frag} {H : Hp} {a : Addr} {xs : List V} (h : SqL K H a xs) : TyX K H (.ref a) (.type "list") := by
  rcases h with (h | ⟨o, h⟩) | ⟨o, its, n, h, c, _⟩
  · exact .base (.lst h)
  · exact .base (.frz h)
  · exact .kList h c
theorem tyx_t {K : PySem.W.Frag} {H : Hp} {a : Addr} {xs : List V} (h : SqT K H a xs) : TyX K H (.ref a) (.type "tuple") := by
  rcases h with (h | ⟨o, h⟩) | ⟨o, its, n, h, c, _⟩
  · exact .base (.tup h)
  · exact .fTuple h
  · exact .kTuple h c
def cArgs (r : List V → Hp → VK → Prop) (t : TA) : TE := fun σ H Q => t σ H fun vs H1 => r vs H1 Q
variable {es : List Expr} {t : TA} {id T : String} {x : Str} {r : List V → Hp → VK → Prop} {p : Pos}
theorem c_bi (hc : CallR X (.builtin id) r) (hm : X.mg x = none) (hv : bootBuiltins x = some (.builtin id)) (ha : PA X (e :: es) t) (hg : Gl X x := by rfl) (hn : x ≠ "__name__" := by decide) (hdb : (x == ("__debug__" : Str)) = false := by decide)
    (he : starEach (e :: es) X.env = (false, eval e X.env) :: starEach es X.env := by rfl) (hpl : (backTo pos (starEach es X.env)).any (·.1) = false := by rfl) : PE X (.Call (.Name x p) (e :: es) [] pos) (cArgs r t) := pe_callB hc hg hm hv ha hn hdb he hpl
theorem c_ty (hc : CallR X (.type T) r) (hm : X.mg x = none) (hv : bootBuiltins x = some (.type T)) (ha : PA X (e :: es) t) (hg : Gl X x := by rfl) (hn : x ≠ "__name__" := by decide) (hdb : (x == ("__debug__" : Str)) = false := by decide)
    (he : starEach (e :: es) X.env = (false, eval e X.env) :: starEach es X.env := by rfl) (hpl : (backTo pos (starEach es X.env)).any (·.1) = false := by rfl) : PE X (.Call (.Name x p) (e :: es) [] pos) (cArgs r t) := pe_callTy hc hg hm hv ha hn hdb he hpl
/-- a built-in type as a value -/
theorem c_tyv (hm : X.mg x = none) (hv : bootBuiltins x = some (.type T)) (hg : Gl X x := by rfl) (hn : x ≠ "__name__" := by decide) (hd : (x == ("__debug__" : Str)) = false := by decide) : PE X (.Name x p) (tC (.ty T)) := pe_bltn (v := .ty T) hg hm hv rfl hn hd
/-- a module's int -/
theorem c_int {i : Int} {u : Tok} (hm : X.mg x = some (.int i u)) (hg : Gl X x := by rfl) (hd : (x == ("__debug__" : Str)) = false := by decide) : PE X (.Name x p) (tC (.int i)) := pe_glob hg hm ⟨_, rfl⟩ hd
end
/-- isinstance(e, T), T a built-in type -/
def cIs1 (K : PySem.W.Frag) (T : String) (f : V → Option Bool) (te : TE) : TE := fun σ H Q => te σ H fun x H1 => rIs1 K T f x H1 Q
section
variable {X : Cx} {e : Expr} {te : TE} {p p2 pos : Pos} {T : String} {x : Str} {f : V → Option Bool}
theorem c_isi {K : PySem.W.Frag} (hK : X.K = K) (kf : KitF T f) (hm : X.mg "isinstance" = none) (hT : X.mg x = none) (hv : bootBuiltins x = some (.type T)) (he : PE X e te) (hg : Gl X "isinstance" := by rfl) (hg2 : Gl X x := by rfl) (hn : x ≠ "__name__" := by decide) (hd : (x == ("__debug__" : Str)) = false := by decide)
    (h1 : starEach [e, .Name x p2] X.env = (false, eval e X.env) :: starEach [.Name x p2] X.env := by rfl) (h2 : starEach [.Name x p2] X.env = (false, eval (.Name x p2) X.env) :: starEach [] X.env := by rfl) (hpl : (backTo pos (starEach [.Name x p2] X.env)).any (·.1) = false := by rfl) :
    PE X (.Call (.Name "isinstance" p) [e, .Name x p2] [] pos) (cIs1 K T f te) := by
  refine PEto (c_bi (b_isK kf hK) hm (by decide +kernel) (pa_cons (PEup he) (pa_cons (c_tyv hT hv hg2 hn hd) pa_nil h2) h1) hg (by decide) (by decide) h1 hpl) fun σ H Q q => ?_
  exact ⟨_, q, fun v H' q1 => ⟨rfl, q1⟩⟩
end
/-! ### own defs -/
/-- the def x of the text, by its promise -/
def Has (P : Program) (w : World) (K : PySem.W.Frag) (mg : Str → Option Value) (base : Heap) (k : Nat) (x : Str) (ps : List Str) (sp : Sp) : Prop :=
  ∃ (f : Addr) (fd : FuncData), FnOk P w K mg base CX0 k f fd ps sp ∧ mg x = some (.ref f) ∧ PySem.W.keepIn K (.ref f) = true ∧ Binds K fd ps []
def cCall (sp : Sp) (t : TA) : TE := fun σ H Q => t σ H fun vs H1 => sp vs H1 Q E0
section
variable {X : Cx} {e : Expr} {es : List Expr} {t : TA} {x : Str} {p pos : Pos} {k : Nat} {ps : List Str} {sp : Sp}
theorem c_call (h : Has X.prog X.w X.K X.mg X.base k x ps sp) (hr : Room k X.A) (ha : PA X (e :: es) t) (hg : Gl X x := by rfl) (hdb : (x == ("__debug__" : Str)) = false := by decide) (he : starEach (e :: es) X.env = (false, eval e X.env) :: starEach es X.env := by rfl)
    (hpl : (backTo pos (starEach es X.env)).any (·.1) = false := by rfl) : PE X (.Call (.Name x p) (e :: es) [] pos) (cCall sp t) := by
  obtain ⟨f, fd, F, hm, hk, hb⟩ := h
  refine PEto (pe_call (E := E0) F hr hg hm hk hb .nil pass0 ha hdb he hpl) fun σ H Q q => ?_
  have e1 : tCall sp [] E0 t σ H Q = t σ H (fun vs H1 => sp (vs ++ []) H1 Q E0) := rfl
  rw [e1]
  simp only [List.append_nil]
  exact q
end
section
variable {X : Cx} {a b c e : Expr} {ta tb tc te : TE} {pos : Pos}
/-! ### subscripts -/
def rIxC (K : PySem.W.Frag) : R2 := fun x y H Q => match x, y with
  | .ref p, .int i => ∃ xs v, (SqL K H p xs ∨ SqT K H p xs) ∧ atI xs i = some v ∧ Q v H
  | .str z, .int i => ∃ c, z.length ≤ sizeLine ∧ atI z.cps.toList i = some c ∧ Q (.str ⟨#[c]⟩) H
  | _, _ => False
theorem c_ix {K : PySem.W.Frag} (hK : X.K = K) (ha : PE X a ta) (hb : PE X b tb) (hs : PlainIx b := by exact fun _ _ => rfl) : PE X (.Subscript a b pos) (cBin (rIxC K) ta tb) := by
  subst hK
  refine PEto (pe_ix ix_seq (PEup ha) (PEup hb) hs) fun σ H Q q => ?_
  refine ⟨_, q, fun x H1 q1 => ⟨_, q1, fun y H2 q2 => ?_⟩⟩
  unfold rIxC at q2
  split at q2
  · obtain ⟨xs, v, h, h1, q⟩ := q2
    rcases h with h | h
    · exact .inl ⟨_, xs, _, v, rfl, rfl, h, h1, q⟩
    · exact .inr (.inl ⟨_, xs, _, v, rfl, rfl, h, h1, q⟩)
  · obtain ⟨c, h, h1, q⟩ := q2
    exact .inr (.inr ⟨_, _, c, rfl, rfl, h, h1, q⟩)
  · exact q2.elim
/-! ### displays -/
theorem c_lst {es : List Expr} {t : TA} (h : PA X es t) : PE X (.List es pos) (tLst t) := pe_lst h
theorem c_tup {es : List Expr} {t : TA} {x1} (h : PA X es t) : PE X (.Tuple es x1 pos) (tTup t) := pe_tup h
/-! ### comprehensions of one clause -/
theorem wipe_one {σ : L2.St} {j : Nat} {x : V} : wipe ((wipe σ [j]).set j (some x)) [j] = wipe σ [j] := by
  show (((σ.set j none).set j (some x)).set j none) = σ.set j none
  rw [List.set_set, List.set_set]
/-- the source a list -/
def cLcL (K : PySem.W.Frag) (tl : TE) (j : Nat) (tt : TT) (te : TE) : TE := fun σ H Q => tl σ H fun x H1 => match x with
  | .ref a => ∃ xs, SqL K H1 a xs ∧ ∀ D, H1 D = none → ∃ Pv : Nat → Hp → Prop, Pv 0 (upd H1 D (.lst [])) ∧ (∀ i H, i ≤ xs.length → Pv i H → SqL K H a xs) ∧
      (∀ i x H, xs[i]? = some x → Pv i H → tt ((σ.set j none).set j (some x)) H fun b H3 => cCond b (te ((σ.set j none).set j (some x)) H3 fun y H4 => ∃ acc, H4 D = some (.lst acc) ∧ acc.length < sizeLine ∧ Pv (i + 1) (upd H4 D (.lst (acc ++ [y])))) (Pv (i + 1) H3)) ∧
      (∀ H, Pv xs.length H → Q (.ref D) H)
  | _ => False
/-- the source a text -/
def cLcS (tl : TE) (j : Nat) (tt : TT) (te : TE) : TE := fun σ H Q => tl σ H fun x H1 => match x with
  | .str z => ∀ D, H1 D = none → ∃ Pv : Nat → Hp → Prop, Pv 0 (upd H1 D (.lst [])) ∧
      (∀ i c H, z.cps[i]? = some c → Pv i H → tt ((σ.set j none).set j (some (.str ⟨#[c]⟩))) H fun b H3 => cCond b (te ((σ.set j none).set j (some (.str ⟨#[c]⟩))) H3 fun y H4 => ∃ acc, H4 D = some (.lst acc) ∧ acc.length < sizeLine ∧ Pv (i + 1) (upd H4 D (.lst (acc ++ [y])))) (Pv (i + 1) H3)) ∧
      (∀ H, Pv z.cps.size H → Q (.ref D) H)
  | _ => False
/-- the source range(n) -/
def cLcR (tl : TA) (j : Nat) (tt : TT) (te : TE) : TE := fun σ H Q => tl σ H fun vs H1 => match vs with
  | [.int n] => (-(2 ^ 62) ≤ n ∧ n < 2 ^ 62) ∧ ∀ D, H1 D = none → ∃ Pv : Nat → Hp → Prop, Pv 0 (upd H1 D (.lst [])) ∧
      (∀ (i : Nat) H, i < n.toNat → Pv i H → tt ((σ.set j none).set j (some (.int (i : Int)))) H fun b H3 => cCond b (te ((σ.set j none).set j (some (.int (i : Int)))) H3 fun y H4 => ∃ acc, H4 D = some (.lst acc) ∧ acc.length < sizeLine ∧ Pv (i + 1) (upd H4 D (.lst (acc ++ [y])))) (Pv (i + 1) H3)) ∧
      (∀ H, Pv n.toNat H → Q (.ref D) H)
  | _ => False
variable {elt iter : Expr} {ifs : List Expr} {scope : Scope} {v : Str} {j : Nat} {tt : TT} {vp : Pos}
theorem PTsup {X : Cx} {ifs : List Expr} {t : TT} (h : PTs X ifs t) : PTs X ifs (upT t) := ⟨fun pins s σ H Q I ⟨Q', q, m⟩ => thn (h.run pins s σ H Q' I q) fun b s' ⟨H', I', q'⟩ => ⟨H', I', m b H' q'⟩⟩
theorem lcTurn {tt : TT} {te : TE} {σ : L2.St} {H : Hp} {D : Addr} {Nx : Hp → Prop} (h : tt σ H fun b H3 => cCond b (te σ H3 fun y H4 => ∃ acc, H4 D = some (.lst acc) ∧ acc.length < sizeLine ∧ Nx (upd H4 D (.lst (acc ++ [y])))) (Nx H3)) :
    upT tt σ H fun b H3 => if b = true then te σ H3 fun y H4 => ∃ acc, H4 D = some (.lst acc) ∧ acc.length < sizeLine ∧ Nx (upd H4 D (.lst (acc ++ [y]))) else Nx H3 := ⟨_, h, fun b H' q => cCond_if q⟩
theorem lcL_to {K : PySem.W.Frag} {σ : L2.St} {H : Hp} {Q : VK} (q : cLcL K ta j tt te σ H Q) : tLc (iList K (up ta)) (gName j) (upT tt) te ([(v, j)].map (·.2)) σ H Q := by
  refine ⟨_, q, fun x H1 q1 => ?_⟩
  split at q1
  · obtain ⟨xs, hx, q1⟩ := q1
    refine ⟨_, rfl, ⟨xs, hx⟩, fun D hD => ?_⟩
    obtain ⟨Pv, h0, h1, h2, h3⟩ := q1 D hD
    refine lc_list (xs := xs) Pv h0 h1 (fun i x H hx p => ⟨wipe_one, lcTurn (h2 i x H hx p)⟩) h3
  · exact q1.elim
theorem lcS_to {σ : L2.St} {H : Hp} {Q : VK} (q : cLcS ta j tt te σ H Q) : tLc (iStr (up ta)) (gName j) (upT tt) te ([(v, j)].map (·.2)) σ H Q := by
  refine ⟨_, q, fun x H1 q1 => ?_⟩
  split at q1
  · refine ⟨_, rfl, fun D hD => ?_⟩
    obtain ⟨Pv, h0, h2, h3⟩ := q1 D hD
    refine lc_it walk_str Pv h0 (fun _ _ _ _ => trivial) (fun i x H H' hi p y => ?_) h3
    obtain ⟨rfl, c, hc, rfl⟩ := y
    exact ⟨wipe_one, lcTurn (h2 i c _ hc p)⟩
  · exact q1.elim
theorem lcR_to {tA : TA} {σ : L2.St} {H : Hp} {Q : VK} (q : cLcR tA j tt te σ H Q) : tLc (iRng1 (upA tA)) (gName j) (upT tt) te ([(v, j)].map (·.2)) σ H Q := by
  refine ⟨_, q, fun x H1 q1 => ?_⟩
  split at q1
  · rename_i n
    obtain ⟨⟨b1, b2⟩, q1⟩ := q1
    refine ⟨n, rfl, b1, b2, fun D hD => ?_⟩
    obtain ⟨Pv, h0, h2, h3⟩ := q1 D hD
    refine lc_range (n := n.toNat) Pv h0 (fun i H hi p => ⟨wipe_one, ?_⟩) h3
    have e : (0 : Int) + (i : Int) = (i : Int) := by omega
    rw [e]
    exact lcTurn (h2 i _ hi p)
  · exact q1.elim
theorem c_lcL {K : PySem.W.Frag} (hK : X.K = K) (hl : PE X iter ta) (hN : X.N.Nodup) (hj : X.N[j]? = some v) (ok : blkC X.N X.env.scope scope [(v, j)] = true)
    (hv : ∀ (s : Shared) (H : Hp) (C : Addr) (cl : List (Str × Addr)) (fp : List Addr), PG (X.blk s H scope (compEnvC scope cl C X.env) fp) (.Name v vp) (gName j))
    (ht : ∀ (s : Shared) (H : Hp) (C : Addr) (cl : List (Str × Addr)) (fp : List Addr), PTs (X.blk s H scope (compEnvC scope cl C X.env) fp) ifs tt)
    (he : ∀ (s : Shared) (H : Hp) (C : Addr) (cl : List (Str × Addr)) (fp : List Addr), PE (X.blk s H scope (compEnvC scope cl C X.env) fp) elt te) (hc : X.calm = true := by rfl) (hs : ∀ x, foldedSetIterable (iter) X.env x = pure x := by intro _; rfl) :
    PE X (.ListComp elt [⟨.Name v vp, iter, ifs, 0⟩] scope pos) (cLcL K ta j tt te) := by
  subst hK
  exact PEto (pe_lc (own := [(v, j)]) (g := gName j) hc hN (pi_list (PEup hl)) (blkOk_by ok) hv (fun s H C cl fp => PTsup (ht s H C cl fp)) he hs) fun σ H Q q => lcL_to q
theorem s_lcL (i : Nat) {y : Str} {py spos : Pos} {K : PySem.W.Frag} (hK : X.K = K) (hl : PE X iter ta) (hN : X.N.Nodup) (hj : X.N[j]? = some v) (ok : blkC X.N X.env.scope scope [(v, j)] = true)
    (hv : ∀ (s : Shared) (H : Hp) (C : Addr) (cl : List (Str × Addr)) (fp : List Addr), PG (X.blk s H scope (compEnvC scope cl C X.env) fp) (.Name v vp) (gName j))
    (ht : ∀ (s : Shared) (H : Hp) (C : Addr) (cl : List (Str × Addr)) (fp : List Addr), PTs (X.blk s H scope (compEnvC scope cl C X.env) fp) ifs tt)
    (he : ∀ (s : Shared) (H : Hp) (C : Addr) (cl : List (Str × Addr)) (fp : List Addr), PE (X.blk s H scope (compEnvC scope cl C X.env) fp) elt te) (hsw : swapsWith (.ListComp elt [⟨.Name v vp, iter, ifs, 0⟩] scope pos) (some (.Name y py)) spos.line X.env = pure true) (hy : X.N[i]? = some y := by rfl) (hyl : X.env.scope.names.lookup y = some .local := by rfl) (hc : X.calm = true := by rfl)
    (hs : ∀ x, foldedSetIterable (iter) X.env x = pure x := by intro _; rfl) : PS X (.Assign [.Name y py] (.ListComp elt [⟨.Name v vp, iter, ifs, 0⟩] scope pos) spos) (fun D σ H => (cLcL K ta j tt te) σ H fun x H1 => D.nx (σ.set i (some x)) H1) := by
  subst hK
  exact PSto (ps_setLc (i := i) (own := [(v, j)]) (g := gName j) hc hN hy hyl hsw (pi_list (PEup hl)) (blkOk_by ok) hv (fun s H C cl fp => PTsup (ht s H C cl fp)) he hs) fun D σ H q => lcL_to q
theorem c_lcS (hl : PE X iter ta) (hN : X.N.Nodup) (hj : X.N[j]? = some v) (ok : blkC X.N X.env.scope scope [(v, j)] = true)
    (hv : ∀ (s : Shared) (H : Hp) (C : Addr) (cl : List (Str × Addr)) (fp : List Addr), PG (X.blk s H scope (compEnvC scope cl C X.env) fp) (.Name v vp) (gName j))
    (ht : ∀ (s : Shared) (H : Hp) (C : Addr) (cl : List (Str × Addr)) (fp : List Addr), PTs (X.blk s H scope (compEnvC scope cl C X.env) fp) ifs tt)
    (he : ∀ (s : Shared) (H : Hp) (C : Addr) (cl : List (Str × Addr)) (fp : List Addr), PE (X.blk s H scope (compEnvC scope cl C X.env) fp) elt te) (hc : X.calm = true := by rfl) (hs : ∀ x, foldedSetIterable (iter) X.env x = pure x := by intro _; rfl) :
    PE X (.ListComp elt [⟨.Name v vp, iter, ifs, 0⟩] scope pos) (cLcS ta j tt te) := by
  exact PEto (pe_lc (own := [(v, j)]) (g := gName j) hc hN (pi_str (PEup hl)) (blkOk_by ok) hv (fun s H C cl fp => PTsup (ht s H C cl fp)) he hs) fun σ H Q q => lcS_to q
theorem s_lcS (i : Nat) {y : Str} {py spos : Pos} (hl : PE X iter ta) (hN : X.N.Nodup) (hj : X.N[j]? = some v) (ok : blkC X.N X.env.scope scope [(v, j)] = true)
    (hv : ∀ (s : Shared) (H : Hp) (C : Addr) (cl : List (Str × Addr)) (fp : List Addr), PG (X.blk s H scope (compEnvC scope cl C X.env) fp) (.Name v vp) (gName j))
    (ht : ∀ (s : Shared) (H : Hp) (C : Addr) (cl : List (Str × Addr)) (fp : List Addr), PTs (X.blk s H scope (compEnvC scope cl C X.env) fp) ifs tt)
    (he : ∀ (s : Shared) (H : Hp) (C : Addr) (cl : List (Str × Addr)) (fp : List Addr), PE (X.blk s H scope (compEnvC scope cl C X.env) fp) elt te) (hsw : swapsWith (.ListComp elt [⟨.Name v vp, iter, ifs, 0⟩] scope pos) (some (.Name y py)) spos.line X.env = pure true) (hy : X.N[i]? = some y := by rfl) (hyl : X.env.scope.names.lookup y = some .local := by rfl) (hc : X.calm = true := by rfl)
    (hs : ∀ x, foldedSetIterable (iter) X.env x = pure x := by intro _; rfl) : PS X (.Assign [.Name y py] (.ListComp elt [⟨.Name v vp, iter, ifs, 0⟩] scope pos) spos) (fun D σ H => (cLcS ta j tt te) σ H fun x H1 => D.nx (σ.set i (some x)) H1) := by
  exact PSto (ps_setLc (i := i) (own := [(v, j)]) (g := gName j) hc hN hy hyl hsw (pi_str (PEup hl)) (blkOk_by ok) hv (fun s H C cl fp => PTsup (ht s H C cl fp)) he hs) fun D σ H q => lcS_to q
theorem c_lcR {ea : Expr} {tA : TA} {rp cp : Pos} (hl : PA X [ea] tA) (hm : X.mg "range" = none) (hN : X.N.Nodup) (hj : X.N[j]? = some v) (ok : blkC X.N X.env.scope scope [(v, j)] = true)
    (hv : ∀ (s : Shared) (H : Hp) (C : Addr) (cl : List (Str × Addr)) (fp : List Addr), PG (X.blk s H scope (compEnvC scope cl C X.env) fp) (.Name v vp) (gName j))
    (ht : ∀ (s : Shared) (H : Hp) (C : Addr) (cl : List (Str × Addr)) (fp : List Addr), PTs (X.blk s H scope (compEnvC scope cl C X.env) fp) ifs tt)
    (he : ∀ (s : Shared) (H : Hp) (C : Addr) (cl : List (Str × Addr)) (fp : List Addr), PE (X.blk s H scope (compEnvC scope cl C X.env) fp) elt te) (hg : Gl X "range" := by rfl) (hr : starEach [ea] X.env = [(false, eval ea X.env)] := by rfl) (hc : X.calm = true := by rfl) (hs : ∀ x, foldedSetIterable (.Call (.Name "range" rp) [ea] [] cp) X.env x = pure x := by intro _; rfl) :
    PE X (.ListComp elt [⟨.Name v vp, .Call (.Name "range" rp) [ea] [] cp, ifs, 0⟩] scope pos) (cLcR tA j tt te) := by
  exact PEto (pe_lc (own := [(v, j)]) (g := gName j) hc hN (pi_range1 hg hm (PAup hl) hr) (blkOk_by ok) hv (fun s H C cl fp => PTsup (ht s H C cl fp)) he hs) fun σ H Q q => lcR_to q
theorem s_lcR (i : Nat) {y : Str} {py spos : Pos} {ea : Expr} {tA : TA} {rp cp : Pos} (hl : PA X [ea] tA) (hm : X.mg "range" = none) (hN : X.N.Nodup) (hj : X.N[j]? = some v) (ok : blkC X.N X.env.scope scope [(v, j)] = true)
    (hv : ∀ (s : Shared) (H : Hp) (C : Addr) (cl : List (Str × Addr)) (fp : List Addr), PG (X.blk s H scope (compEnvC scope cl C X.env) fp) (.Name v vp) (gName j))
    (ht : ∀ (s : Shared) (H : Hp) (C : Addr) (cl : List (Str × Addr)) (fp : List Addr), PTs (X.blk s H scope (compEnvC scope cl C X.env) fp) ifs tt)
    (he : ∀ (s : Shared) (H : Hp) (C : Addr) (cl : List (Str × Addr)) (fp : List Addr), PE (X.blk s H scope (compEnvC scope cl C X.env) fp) elt te) (hsw : swapsWith (.ListComp elt [⟨.Name v vp, .Call (.Name "range" rp) [ea] [] cp, ifs, 0⟩] scope pos) (some (.Name y py)) spos.line X.env = pure true) (hy : X.N[i]? = some y := by rfl) (hyl : X.env.scope.names.lookup y = some .local := by rfl) (hg : Gl X "range" := by rfl) (hr : starEach [ea] X.env = [(false, eval ea X.env)] := by rfl) (hc : X.calm = true := by rfl)
    (hs : ∀ x, foldedSetIterable (.Call (.Name "range" rp) [ea] [] cp) X.env x = pure x := by intro _; rfl) : PS X (.Assign [.Name y py] (.ListComp elt [⟨.Name v vp, .Call (.Name "range" rp) [ea] [] cp, ifs, 0⟩] scope pos) spos) (fun D σ H => (cLcR tA j tt te) σ H fun x H1 => D.nx (σ.set i (some x)) H1) := by
  exact PSto (ps_setLc (i := i) (own := [(v, j)]) (g := gName j) hc hN hy hyl hsw (pi_range1 hg hm (PAup hl) hr) (blkOk_by ok) hv (fun s H C cl fp => PTsup (ht s H C cl fp)) he hs) fun D σ H q => lcR_to q
/-! ### statements -/
def cIfS (c : TT) (t u : TS) : TS := fun D σ H => c σ H fun b H1 => cCond b (t D σ H1) (u D σ H1)
variable {t u tb' : TS} {st : Stmt} {rest body : List Stmt}
theorem s_if {c : Expr} {a b : List Stmt} {tc : TT} (hc : PT X c tc) (ha : PSs X a t) (hb : PSs X b u) : PS X (.If c a b pos) (cIfS tc t u) := PSto (ps_if (PTup hc) ha hb) fun D σ H q => ⟨_, q, fun c H1 q1 => cCond_if q1⟩
def cSet (te : TE) (i : Nat) : TS := fun D σ H => te σ H fun x H1 => D.nx (σ.set i (some x)) H1
theorem s_set (i : Nat) {x : Str} {e : Expr} {te : TE} {pos' : Pos} (hN : X.N.Nodup) (he : PE X e te) (hi : X.N[i]? = some x := by rfl) (hx : Loc X.env.scope x := by first | exact Or.inl rfl | exact Or.inr rfl) (hs : swapsWith e (some (.Name x pos')) pos.line X.env = pure false := by rfl)
    (hf : X.fn x = true ∨ X.env.scope.names.lookup x = some .local := by first | exact .inl rfl | exact .inr rfl | assumption) : PS X (.Assign [.Name x pos'] e pos) (cSet te i) := PSto (ps_set hN hi hx he hs hf) fun _ _ _ q => q
theorem s_ret (he : PE X e te) : PS X (.Return (some e) pos) (tRet te) := ps_ret he
theorem s_drop (he : PE X e te) (hs : swapsWith e none pos.line X.env = pure false := by rfl) : PS X (.Expr e pos) (tDrop te) := ps_expr he hs
/-- o[i] = e of a list -/
def rSet (o i x : V) (H : Hp) (Q : Hp → Prop) : Prop := match o, i with
  | .ref p, .int k => ∃ xs j, H p = some (.lst xs) ∧ ixN xs.length k = some j ∧ Q (upd H p (.lst (xs.set j x)))
  | _, _ => False
def cSetI (te to ti : TE) : TS := fun D σ H => te σ H fun x H1 => to σ H1 fun o H2 => ti σ H2 fun i H3 => rSet o i x H3 fun H4 => D.nx σ H4
theorem PGto {tg : Expr} {g g' : TG} (h : PG X tg g) (w : ∀ v σ H Q, g' v σ H Q → g v σ H Q) : PG X tg g' := ⟨fun pins s σ H v u Q I r q => h.run pins s σ H v u Q I r (w v σ H Q q)⟩
theorem s_setI {o i : Expr} {to ti : TE} {p : Pos} (he : PE X e te) (ho : PE X o to) (hi : PE X i ti)
    (ha : ∀ v, assign (.Subscript o i p) X.env v = (do
      let ov ← holding [v] (eval o X.env)
      let iv ← holding [v, ov] (eval i X.env)
      standAt p
      holding [v, ov, iv] (setItem ov iv v)
      release [v, ov, iv] []) := by intro _; rfl) (hs : swapsWithSole [.Subscript o i p] e pos.line X.env = pure false := by rfl) (hw : swappedStores [.Subscript o i p] e X.env = pure none := by rfl)
    (h1 : (assignEach [.Subscript o i p] X.env).map (·.2) = [assign (.Subscript o i p) X.env] := by rfl) : PS X (.Assign [.Subscript o i p] e pos) (cSetI te to ti) := by
  refine PSto (ps_asg (PEup he) (pg_sub (PEup ho) (PEup hi) set_list ha) hs hw h1) fun D σ H q => ?_
  refine ⟨_, q, fun x H1 q1 => ⟨_, q1, fun o H2 q2 => ⟨_, q2, fun i H3 q3 => ?_⟩⟩⟩
  unfold rSet at q3
  split at q3
  · obtain ⟨xs, j, h, h1, q⟩ := q3
    exact ⟨_, xs, _, j, rfl, rfl, h, h1, q⟩
  · exact q3.elim
/-- xs.append(e) -/
def rApp (l x : V) (H : Hp) (Q : Hp → Prop) : Prop := match l with
  | .ref p => ∃ xs, H p = some (.lst xs) ∧ xs.length < sizeLine ∧ Q (upd H p (.lst (xs ++ [x])))
  | _ => False
end
/-! ### loops -/
/-- the end of a turn -/
def turnD (D : Ends) (N : L2.St → Hp → Prop) : Ends := { D with nx := N, ct := N, bk := D.nx }
def cForL (K : PySem.W.Frag) (tl : TE) (j : Nat) (tb : TS) : TS := fun D σ H => tl σ H fun x H1 => match x with
  | .ref a => ∃ xs, SqL K H1 a xs ∧ ∃ Pv : Nat → L2.St → Hp → Prop, Pv 0 σ H1 ∧ (∀ i σ H, i ≤ xs.length → Pv i σ H → SqL K H a xs) ∧
      (∀ i x σ H, xs[i]? = some x → Pv i σ H → tb (turnD D (Pv (i + 1))) (σ.set j (some x)) H) ∧ (∀ σ H, Pv xs.length σ H → D.nx σ H)
  | _ => False
def cForS (tl : TE) (j : Nat) (tb : TS) : TS := fun D σ H => tl σ H fun x H1 => match x with
  | .str z => ∃ Pv : Nat → L2.St → Hp → Prop, Pv 0 σ H1 ∧
      (∀ i c σ H, z.cps[i]? = some c → Pv i σ H → tb (turnD D (Pv (i + 1))) (σ.set j (some (.str ⟨#[c]⟩))) H) ∧ (∀ σ H, Pv z.cps.size σ H → D.nx σ H)
  | _ => False
def cForR1 (tl : TA) (j : Nat) (tb : TS) : TS := fun D σ H => tl σ H fun vs H1 => match vs with
  | [.int n] => (-(2 ^ 62) ≤ n ∧ n < 2 ^ 62) ∧ ∃ Pv : Nat → L2.St → Hp → Prop, Pv 0 σ H1 ∧
      (∀ (i : Nat) σ H, i < n.toNat → Pv i σ H → tb (turnD D (Pv (i + 1))) (σ.set j (some (.int (i : Int)))) H) ∧ (∀ σ H, Pv n.toNat σ H → D.nx σ H)
  | _ => False
def cForR2 (tl : TA) (j : Nat) (tb : TS) : TS := fun D σ H => tl σ H fun vs H1 => match vs with
  | [.int lo, .int n] => (-(2 ^ 62) ≤ lo ∧ lo < 2 ^ 62 ∧ -(2 ^ 62) ≤ n ∧ n < 2 ^ 62) ∧ ∃ Pv : Nat → L2.St → Hp → Prop, Pv 0 σ H1 ∧
      (∀ (i : Nat) σ H, i < (n - lo).toNat → Pv i σ H → tb (turnD D (Pv (i + 1))) (σ.set j (some (.int (lo + (i : Int))))) H) ∧ (∀ σ H, Pv (n - lo).toNat σ H → D.nx σ H)
  | _ => False
section
variable {X : Cx} {pos : Pos} {iter : Expr} {v : Str} {vp : Pos} {j : Nat} {body : List Stmt} {tb : TS} {tl : TE} {tA : TA}
theorem s_forL {K : PySem.W.Frag} (hK : X.K = K) (j : Nat) (hl : PE X iter tl) (hN : X.N.Nodup) (hb : PSs X body tb) (hp : PassesOwn (model X.prog X.w) X.A X.env X.xe := by exact PassesOwn.never) (hc : X.calm = true := by rfl) (hj : X.N[j]? = some v := by rfl) (hx : Loc X.env.scope v := by first | exact Or.inl rfl | exact Or.inr rfl)
    (hf : X.fn v = true ∨ X.env.scope.names.lookup v = some .local := by first | exact .inl rfl | exact .inr rfl | assumption) (hs : ∀ x, foldedSetIterable iter X.env x = pure x := by intro _; rfl) : PS X (.For (.Name v vp) iter body [] pos) (cForL K tl j tb) := by
  subst hK
  refine PSto (ps_for hp hc (pi_list (PEup hl)) (pg_name (i := j) hN hj hx hf) hb hs) fun D σ H q => ?_
  refine ⟨_, q, fun x H1 q1 => ?_⟩
  split at q1
  · obtain ⟨xs, hx, Pv, h0, h1, h2, h3⟩ := q1
    exact ⟨_, rfl, ⟨xs, hx⟩, for_list (xs := xs) Pv h0 h1 (fun i x σ H hx p => h2 i x σ H hx p) h3⟩
  · exact q1.elim
theorem s_forS (j : Nat) (hl : PE X iter tl) (hN : X.N.Nodup) (hb : PSs X body tb) (hp : PassesOwn (model X.prog X.w) X.A X.env X.xe := by exact PassesOwn.never) (hc : X.calm = true := by rfl) (hj : X.N[j]? = some v := by rfl) (hx : Loc X.env.scope v := by first | exact Or.inl rfl | exact Or.inr rfl)
    (hf : X.fn v = true ∨ X.env.scope.names.lookup v = some .local := by first | exact .inl rfl | exact .inr rfl | assumption) (hs : ∀ x, foldedSetIterable iter X.env x = pure x := by intro _; rfl) : PS X (.For (.Name v vp) iter body [] pos) (cForS tl j tb) := by
  refine PSto (ps_for hp hc (pi_str (PEup hl)) (pg_name (i := j) hN hj hx hf) hb hs) fun D σ H q => ?_
  refine ⟨_, q, fun x H1 q1 => ?_⟩
  split at q1
  · obtain ⟨Pv, h0, h2, h3⟩ := q1
    refine ⟨_, rfl, for_it walk_str Pv h0 (fun _ _ _ _ _ => trivial) (fun i x σ H H' hi p y => ?_) h3⟩
    obtain ⟨rfl, c, hc, rfl⟩ := y
    exact h2 i c σ _ hc p
  · exact q1.elim
theorem s_forR1 (j : Nat) {ea : Expr} {rp cp : Pos} (hl : PA X [ea] tA) (hm : X.mg "range" = none) (hN : X.N.Nodup) (hb : PSs X body tb) (hp : PassesOwn (model X.prog X.w) X.A X.env X.xe := by exact PassesOwn.never) (hc : X.calm = true := by rfl) (hj : X.N[j]? = some v := by rfl)
    (hx : Loc X.env.scope v := by first | exact Or.inl rfl | exact Or.inr rfl) (hf : X.fn v = true ∨ X.env.scope.names.lookup v = some .local := by first | exact .inl rfl | exact .inr rfl | assumption) (hg : Gl X "range" := by rfl) (hr : starEach [ea] X.env = [(false, eval ea X.env)] := by rfl)
    (hs : ∀ x, foldedSetIterable (.Call (.Name "range" rp) [ea] [] cp) X.env x = pure x := by intro _; rfl) : PS X (.For (.Name v vp) (.Call (.Name "range" rp) [ea] [] cp) body [] pos) (cForR1 tA j tb) := by
  refine PSto (ps_for hp hc (pi_range1 hg hm (PAup hl) hr) (pg_name (i := j) hN hj hx hf) hb hs) fun D σ H q => ?_
  refine ⟨_, q, fun x H1 q1 => ?_⟩
  split at q1
  · rename_i n
    obtain ⟨⟨b1, b2⟩, Pv, h0, h2, h3⟩ := q1
    refine ⟨n, rfl, b1, b2, for_range (n := n.toNat) Pv h0 (fun i σ H hi p => ?_) h3⟩
    have e : (0 : Int) + (i : Int) = (i : Int) := by omega
    rw [e]
    exact h2 i σ H hi p
  · exact q1.elim
theorem s_forR2 (j : Nat) {ea eb : Expr} {rp cp : Pos} (hl : PA X [ea, eb] tA) (hm : X.mg "range" = none) (hN : X.N.Nodup) (hb : PSs X body tb) (hp : PassesOwn (model X.prog X.w) X.A X.env X.xe := by exact PassesOwn.never) (hc : X.calm = true := by rfl) (hj : X.N[j]? = some v := by rfl)
    (hx : Loc X.env.scope v := by first | exact Or.inl rfl | exact Or.inr rfl) (hf : X.fn v = true ∨ X.env.scope.names.lookup v = some .local := by first | exact .inl rfl | exact .inr rfl | assumption) (hg : Gl X "range" := by rfl)
    (hr : starEach [ea, eb] X.env = [(false, eval ea X.env), (false, eval eb X.env)] := by rfl) (hr2 : starEach [eb] X.env = [(false, eval eb X.env)] := by rfl)
    (hs : ∀ x, foldedSetIterable (.Call (.Name "range" rp) [ea, eb] [] cp) X.env x = pure x := by intro _; rfl) : PS X (.For (.Name v vp) (.Call (.Name "range" rp) [ea, eb] [] cp) body [] pos) (cForR2 tA j tb) := by
  refine PSto (ps_for hp hc (pi_range2 hg hm (PAup hl) hr hr2) (pg_name (i := j) hN hj hx hf) hb hs) fun D σ H q => ?_
  refine ⟨_, q, fun x H1 q1 => ?_⟩
  split at q1
  · rename_i lo n
    obtain ⟨b, Pv, h0, h2, h3⟩ := q1
    exact ⟨lo, n, rfl, b, for_range (lo := lo) (n := (n - lo).toNat) Pv h0 (fun i σ H hi p => h2 i σ H hi p) h3⟩
  · exact q1.elim
/-- xs.append(e), a statement -/
def cApp (to te : TE) : TS := fun D σ H => to σ H fun l H1 => match l with
  | .ref p => ∃ xs, H1 p = some (.lst xs) ∧ te σ H1 fun x H2 => ∃ ys, H2 p = some (.lst ys) ∧ ys.length < sizeLine ∧ D.nx σ (upd H2 p (.lst (ys ++ [x])))
  | _ => False
theorem s_app {o e : Expr} {to te : TE} {apos cpos : Pos} (ho : PE X o to) (he : PE X e te) (hbase : attributeBase o "append" X.env (eval o X.env) = eval o X.env := by rfl)
    (hfew : ((backTo cpos (starEach (e :: []) X.env)).all (fun x => !x.1) && (backToKw cpos (keywordEach [] X.env)).all (fun x => x.1.isSome)
      && decide ((e :: []).length + ([] : List Keyword).length + (if ([] : List Keyword).isEmpty then 0 else 1) < 30)) = true := by rfl)
    (hline : (apos.endLine == cpos.line) = true := by rfl) (hs : starEach (e :: []) X.env = (false, eval e X.env) :: starEach [] X.env := by rfl) (hplain : (backTo cpos (starEach [] X.env)).any (·.1) = false := by rfl)
    (hsw : swapsWith (.Call (.Attribute o "append" apos) [e] [] cpos) none pos.line X.env = pure false := by rfl) : PS X (.Expr (.Call (.Attribute o "append" apos) [e] [] cpos) pos) (cApp to te) := by
  refine PSto (ps_expr (pe_bm PySem.F.plainAttrs_list PySem.F.slot_list_append PySem.F.type_list_append mt_append (PEup ho) (pa_cons (PEup he) pa_nil hs) hbase hfew hline hs hplain) hsw) fun D σ H q => ?_
  refine ⟨_, q, fun x H1 q1 => ?_⟩
  split at q1
  · rename_i p
    obtain ⟨xs, h, q1⟩ := q1
    refine ⟨.inl ⟨rfl, _, SqL.of h⟩, ⟨_, q1, fun y H2 q2 => ?_⟩⟩
    obtain ⟨ys, h2, hz, q2⟩ := q2
    exact ⟨p, ys, y, rfl, rfl, h2, hz, q2⟩
  · exact q1.elim
end
/-! ### == of data -/
def rEqDK (K : PySem.W.Frag) : R2 := fun x y H Q => ∃ d e, Dp K H x d ∧ Dp K H y e ∧ SeqAt.shaped d = true ∧ SeqAt.shaped e = true ∧ Gen (PyData.eqv d e) fun k => Q (.bl k) H
theorem o_eqD {X : Cx} {K : PySem.W.Frag} (hK : X.K = K) (hu : X.A.units + 64 < cLine) : OpR X (compareOp .Eq) (rEqDK K) := hK ▸ ORto (op_eqD hu) fun x y H Q q => by
  obtain ⟨d, e, h1, h2, h3, h4, q⟩ := q
  exact ⟨d, e, h1, h2, h3, h4, q.to⟩
end CW

/-! Mirrors and facts that many laws share: values, scalars, heaps, data. -/
namespace VM
open PySem PySem.Spec PyProof.Rows L2 CW K1
/-- scalars -/
inductive Sc : V → Prop where
  | non : Sc .non
  | bl (b : Bool) : Sc (.bl b)
  | int (i : Int) : Sc (.int i)
  | str (x : Str) : Sc (.str x)
/-- values -/
inductive Gv : V → Prop where
  | non : Gv .non
  | bl (b : Bool) : Gv (.bl b)
  | int (i : Int) (h0 : 0 ≤ i) (h1 : i ≤ 999) : Gv (.int i)
  | str (x : Str) (h : x.length ≤ 40) : Gv (.str x)
theorem Gv.sc {v : V} (g : Gv v) : Sc v := by
  cases g
  · exact .non
  · exact .bl _
  · exact .int _
  · exact .str _
def eqv : V → V → Bool
  | .non, .non => true
  | .int i, .int j => decide (i = j)
  | .bl i, .bl j => decide (i = j)
  | .str i, .str j => decide (i = j)
  | _, _ => false
theorem eqv_self {v : V} (s : Sc v) : eqv v v = true := by cases s <;> simp [eqv]
theorem eqv_iff {a b : V} (sa : Sc a) (sb : Sc b) : eqv a b = true ↔ a = b := by
  cases sa <;> cases sb <;> simp [eqv]
def txt : V → Str
  | .non => "none"
  | .bl false => "false"
  | .bl true => "true"
  | .int i => (toString i : String)
  | .str x => x
  | _ => ""
def emp : V → Bool
  | .non => true
  | .bl b => !b
  | .int i => !(i != 0)
  | .str x => !((x.length : Int) != 0)
  | _ => false
def isb : V → Bool
  | .bl _ => true
  | _ => false
theorem log_small {i : Int} (h0 : 0 ≤ i) (h1 : i ≤ 999) : i.natAbs.log2 < 1920 := by
  have h2 : i.natAbs ≤ 999 := by omega
  have h3 : i.natAbs.log2 ≤ i.natAbs := Nat.log2_le_self _
  omega
theorem same_upd {H : Hp} {p : Addr} {o : HO} (h : H p = none) : Same H (upd H p o) := fun b x e => by
  rw [upd_ne (ne_of_none e h)]
  exact e
theorem same_upd2 {H H' : Hp} {p : Addr} {o : HO} (s : Same H H') (h : H p = none) : Same H (upd H' p o) := fun b x e => by
  rw [upd_ne (ne_of_none e h)]
  exact s b x e
theorem Same.seqT {K : PySem.W.Frag} {H H' : Hp} {a : Addr} {xs : List V} (e : Same H H') (h : SqT K H a xs) : SqT K H' a xs := by
  rcases h with (h | ⟨o, h⟩) | h
  · exact .inl (.inl (e _ _ h))
  · exact .inl (.inr ⟨o, e _ _ h⟩)
  · exact .inr h
theorem len_lt {row : List Int} {n : Nat} (h : row.length ≤ n) (hn : n ≤ 5000) : (row.map V.int).length < sizeLine := by
  rw [List.length_map]
  exact Nat.lt_of_le_of_lt (Nat.le_trans h hn) (by decide)
theorem map_snoc (row : List Int) (x : Int) : row.map V.int ++ [V.int x] = (row ++ [x]).map V.int := by
  rw [List.map_append]
  rfl
theorem self_eq {b : Bool} : decide (b = b) = true := decide_eq_true rfl
theorem foldl_size (c : Array Nat) : ∀ (n : Nat) (a : Array Nat), ((List.replicate n c).foldl (· ++ ·) a).size = a.size + n * c.size
  | 0, a => by simp
  | n + 1, a => by
    rw [List.replicate_succ, List.foldl_cons, foldl_size c n, Array.size_append, Nat.succ_mul]
    omega
theorem mul_len {z : Str} {n : Int} (h1 : z.length = 1) : (Txt.mul z n).length = n.toNat := by
  unfold Txt.mul
  by_cases h : n < 1
  · rw [if_pos h]
    have : n.toNat = 0 := by omega
    rw [this]
    rfl
  · rw [if_neg h]
    by_cases h2 : (n == 1 || z.length == 0) = true
    · rw [if_pos h2, h1]
      rw [h1] at h2
      have : n = 1 := by simpa using h2
      subst this
      rfl
    · rw [if_neg h2]
      show ((List.replicate n.toNat z.cps).foldl (· ++ ·) #[]).size = n.toNat
      rw [foldl_size]
      have : z.cps.size = 1 := h1
      rw [this]
      simp
theorem small_mul {z : Str} {n : Int} (h1 : z.length = 1) (h2 : 0 ≤ n) (h3 : n ≤ 100) : MulOk z n := by
  refine ⟨?_, fun a b => ?_, fun a b => ?_⟩
  · have e1 : ¬ n < -(2 ^ 63 : Int) := by omega
    have e2 : ¬ n ≥ 2 ^ 63 := by omega
    rw [decide_eq_false e1, decide_eq_false e2]
    rfl
  · rw [h1]
    have : (1 : Int) ≤ (2 ^ 63 - 1) / n := by
      rw [Int.le_ediv_iff_mul_le (by omega)]
      omega
    omega
  · rw [h1]
    have h4 : 1 * n.toNat ≤ 1000 := by omega
    have h5 := small1000 h4
    show decide (1 * n.toNat > sizeLine) = false
    exact decide_eq_false (by omega)
/-- the box at b: its row at r, its place -/
def BoxAt (H : Hp) (b r : Addr) (at' : Int) (row : List Int) : Prop := H b = some (.lst [.ref r, .int at']) ∧ H r = some (.lst (row.map V.int)) ∧ 0 ≤ at' ∧ r ≠ b
/-- all but b stands -/
def But (b : Addr) (H H' : Hp) : Prop := ∀ c o, c ≠ b → H c = some o → H' c = some o
theorem But.refl (b : Addr) (H : Hp) : But b H H := fun _ _ _ e => e
theorem But.trans {b : Addr} {H H1 H2 : Hp} (s : But b H H1) (t : But b H1 H2) : But b H H2 := fun c o n e => t c o n (s c o n e)
theorem But.of {b : Addr} {H H' : Hp} (s : Same H H') : But b H H' := fun c o _ e => s c o e
theorem But.upd {b : Addr} {H : Hp} {o : HO} : But b H (upd H b o) := fun c x n e => by
  rw [upd_ne n]
  exact e
theorem But.seq {K : PySem.W.Frag} {b : Addr} {H H' : Hp} {a : Addr} {xs : List V} (e : But b H H') (n : a ≠ b) (h : SqL K H a xs) : SqL K H' a xs := by
  rcases h with (h | ⟨o, h⟩) | h
  · exact .inl (.inl (e _ _ n h))
  · exact .inl (.inr ⟨o, e _ _ n h⟩)
  · exact .inr h
theorem But.seqT {K : PySem.W.Frag} {b : Addr} {H H' : Hp} {a : Addr} {xs : List V} (e : But b H H') (n : a ≠ b) (h : SqT K H a xs) : SqT K H' a xs := by
  rcases h with (h | ⟨o, h⟩) | h
  · exact .inl (.inl (e _ _ n h))
  · exact .inl (.inr ⟨o, e _ _ n h⟩)
  · exact .inr h
def BoxR (H : Hp) (b r : Addr) (row : List Int) : Prop := ∃ at', BoxAt H b r at' row
theorem BoxAt.but {b r : Addr} {at' : Int} {row : List Int} {H : Hp} (B : BoxAt H b r at' row) {p : Addr} {o : HO} (hp : H p = none) : BoxAt (upd H p o) b r at' row := ⟨by rw [upd_ne (ne_of_none B.1 hp)]; exact B.1, by rw [upd_ne (ne_of_none B.2.1 hp)]; exact B.2.1, B.2.2.1, B.2.2.2⟩
theorem BoxAt.next {b r : Addr} {at' : Int} {row : List Int} {H : Hp} (B : BoxAt H b r at' row) : BoxAt (upd H b (.lst [.ref r, .int (at' + 1)])) b r (at' + 1) row := ⟨upd_same, by rw [upd_ne B.2.2.2]; exact B.2.1, by have := B.2.2.1; omega, B.2.2.2⟩
theorem at_nat {α : Type} {xs : List α} {i : Int} {v : α} (h0 : 0 ≤ i) (h : xs[i.toNat]? = some v) : atI xs i = some v := by
  have e : i = (i.toNat : Int) := by omega
  rw [e]
  exact atI_nat h
/-! ### data: scalars, tuples and lists of such -/
inductive Da where
  | v (x : V)
  | tup (xs : List Da)
  | lst (xs : List Da)
mutual
def sameD : Da → Da → Bool
  | .v a, .v b => eqv a b
  | .tup xs, .tup ys => sameL xs ys
  | .lst xs, .lst ys => sameL xs ys
  | _, _ => false
def sameL : List Da → List Da → Bool
  | [], [] => true
  | x :: xs, y :: ys => sameD x y && sameL xs ys
  | _, _ => false
end
/-- d stands at x, at most n deep -/
def DaAt (K : PySem.W.Frag) (H : Hp) : Nat → V → Da → Prop
  | 0, _, _ => False
  | n + 1, x, .v y => x = y ∧ Sc y
  | n + 1, x, .tup ds => ds.length ≤ 100000 ∧ ∃ a xs, x = .ref a ∧ SqT K H a xs ∧ Paired (DaAt K H n) xs ds
  | n + 1, x, .lst ds => ds.length ≤ 100000 ∧ ∃ a xs, x = .ref a ∧ SqL K H a xs ∧ Paired (DaAt K H n) xs ds
theorem paired_mono {α β : Type} {R S : α → β → Prop} (m : ∀ a b, R a b → S a b) : ∀ {xs : List α} {ys : List β}, Paired R xs ys → Paired S xs ys
  | _, _, .nil => .nil
  | _, _, .cons h t => .cons (m _ _ h) (paired_mono m t)
theorem pget {α β : Type} {R : α → β → Prop} : ∀ {xs : List α} {ys : List β} {i : Nat} {x : α}, Paired R xs ys → xs[i]? = some x → ∃ y, ys[i]? = some y ∧ R x y
  | _, _, _, _, .nil, e => by simp at e
  | _, _, 0, _, .cons h _, e => by
    simp only [List.getElem?_cons_zero, Option.some.injEq] at e
    subst e
    exact ⟨_, rfl, h⟩
  | _, _, i + 1, _, .cons _ t, e => pget (i := i) t (by simpa using e)
theorem pget2 {α β : Type} {R : α → β → Prop} {xs : List α} {ys : List β} {i : Nat} (p : Paired R xs ys) (h : i < ys.length) : ∃ x, xs[i]? = some x ∧ R x ys[i] := by
  have hl := Paired.length p
  have h1 : i < xs.length := by omega
  obtain ⟨y, e, r⟩ := pget p (List.getElem?_eq_getElem h1)
  rw [List.getElem?_eq_getElem h] at e
  cases e
  exact ⟨_, List.getElem?_eq_getElem h1, r⟩
/-- what carries lists and tuples carries data -/
theorem DaAt.carry {K : PySem.W.Frag} {H H' : Hp} (ml : ∀ a xs, SqL K H a xs → SqL K H' a xs) (mt : ∀ a xs, SqT K H a xs → SqT K H' a xs) : ∀ {n : Nat} {x : V} {d : Da}, DaAt K H n x d → DaAt K H' n x d
  | n + 1, _, .v _, h => h
  | n + 1, _, .tup _, ⟨z, a, xs, e, s, p⟩ => ⟨z, a, xs, e, mt _ _ s, paired_mono (fun _ _ h => DaAt.carry ml mt h) p⟩
  | n + 1, _, .lst _, ⟨z, a, xs, e, s, p⟩ => ⟨z, a, xs, e, ml _ _ s, paired_mono (fun _ _ h => DaAt.carry ml mt h) p⟩
theorem DaAt.same {K : PySem.W.Frag} {H H' : Hp} {n : Nat} {x : V} {d : Da} (s : Same H H') (h : DaAt K H n x d) : DaAt K H' n x d := DaAt.carry (fun _ _ => s.seq) (fun _ _ => Same.seqT s) h
theorem DaAt.up {K : PySem.W.Frag} {H : Hp} : ∀ {n : Nat} {x : V} {d : Da}, DaAt K H n x d → DaAt K H (n + 1) x d
  | n + 1, _, .v _, h => h
  | n + 1, _, .tup _, ⟨z, a, xs, e, s, p⟩ => ⟨z, a, xs, e, s, paired_mono (fun _ _ h => DaAt.up h) p⟩
  | n + 1, _, .lst _, ⟨z, a, xs, e, s, p⟩ => ⟨z, a, xs, e, s, paired_mono (fun _ _ h => DaAt.up h) p⟩
theorem sameL_take : ∀ {xs ys : List Da} {i : Nat} {x y : Da}, xs[i]? = some x → ys[i]? = some y → sameL (xs.take (i + 1)) (ys.take (i + 1)) = (sameL (xs.take i) (ys.take i) && sameD x y)
  | [], _, _, _, _, h, _ => by simp at h
  | _ :: _, [], _, _, _, _, h => by simp at h
  | a :: xs, b :: ys, 0, x, y, h1, h2 => by
    simp only [List.getElem?_cons_zero, Option.some.injEq] at h1 h2
    subst h1 h2
    simp [sameL]
  | a :: xs, b :: ys, i + 1, x, y, h1, h2 => by
    have ih := sameL_take (xs := xs) (ys := ys) (i := i) (x := x) (y := y) (by simpa using h1) (by simpa using h2)
    rw [List.take_succ_cons, List.take_succ_cons, List.take_succ_cons, List.take_succ_cons]
    simp only [sameL]
    rw [ih, Bool.and_assoc]
theorem sameL_len : ∀ {xs ys : List Da}, sameL xs ys = true → xs.length = ys.length
  | [], [], _ => rfl
  | [], _ :: _, h => by simp [sameL] at h
  | _ :: _, [], h => by simp [sameL] at h
  | a :: xs, b :: ys, h => by
    simp only [sameL, Bool.and_eq_true] at h
    rw [List.length_cons, List.length_cons, sameL_len h.2]
theorem sameL_false {xs ys : List Da} {i : Nat} {x y : Da} (h1 : xs[i]? = some x) (h2 : ys[i]? = some y) (h : sameD x y = false) : sameL xs ys = false := by
  induction i generalizing xs ys with
  | zero =>
    cases xs with
    | nil => simp at h1
    | cons a xs =>
      cases ys with
      | nil => simp at h2
      | cons b ys =>
        simp only [List.getElem?_cons_zero, Option.some.injEq] at h1 h2
        subst h1 h2
        simp [sameL, h]
  | succ i ih =>
    cases xs with
    | nil => simp at h1
    | cons a xs =>
      cases ys with
      | nil => simp at h2
      | cons b ys =>
        have := ih (xs := xs) (ys := ys) (by simpa using h1) (by simpa using h2)
        simp [sameL, this]
/-- all tuples stand -/
def TK (H H' : Hp) : Prop := ∀ a xs, H a = some (.tup xs) → H' a = some (.tup xs)
theorem TK.refl (H : Hp) : TK H H := fun _ _ e => e
theorem TK.trans {H H1 H2 : Hp} (s : TK H H1) (t : TK H1 H2) : TK H H2 := fun a xs e => t a xs (s a xs e)
theorem TK.of {H H' : Hp} (s : Same H H') : TK H H' := fun a xs e => s a _ e
theorem TK.but {b : Addr} {H H' : Hp} {xs : List V} (h : H b = some (.lst xs)) (s : But b H H') : TK H H' := fun a ys e => s a _ (fun q => by
  subst q
  rw [h] at e
  cases e) e
theorem TK.updL {p : Addr} {H : Hp} {xs : List V} {o : HO} (h : H p = some (.lst xs)) : TK H (upd H p o) := TK.but h But.upd
/-- tracked data without lists -/
def DtH (H : Hp) : Nat → V → Da → Prop
  | 0, _, _ => False
  | n + 1, x, .v y => x = y ∧ Sc y
  | n + 1, x, .tup ds => ds.length ≤ 100000 ∧ ∃ a xs, x = .ref a ∧ H a = some (.tup xs) ∧ Paired (DtH H n) xs ds
  | _ + 1, _, .lst _ => False
theorem DtH.keep {H H' : Hp} (s : TK H H') : ∀ {n : Nat} {x : V} {d : Da}, DtH H n x d → DtH H' n x d
  | n + 1, _, .v _, h => h
  | n + 1, _, .tup _, ⟨z, a, xs, e, h, p⟩ => ⟨z, a, xs, e, s _ _ h, paired_mono (fun _ _ h => DtH.keep s h) p⟩
theorem DtH.at {K : PySem.W.Frag} {H : Hp} : ∀ {n : Nat} {x : V} {d : Da}, DtH H n x d → DaAt K H n x d
  | n + 1, _, .v _, h => h
  | n + 1, _, .tup _, ⟨z, a, xs, e, h, p⟩ => ⟨z, a, xs, e, SqT.of h, paired_mono (fun _ _ h => DtH.at h) p⟩
theorem paired_map {α β γ : Type} {R : α → β → Prop} {f : γ → α} {g : γ → β} : ∀ {xs : List γ}, (∀ x ∈ xs, R (f x) (g x)) → Paired R (xs.map f) (xs.map g)
  | [], _ => .nil
  | x :: xs, h => .cons (h x (List.mem_cons_self ..)) (paired_map fun y hy => h y (List.mem_cons_of_mem _ hy))
theorem paired_snoc {α β : Type} {R : α → β → Prop} {xs : List α} {ys : List β} {x : α} {y : β} (p : Paired R xs ys) (h : R x y) : Paired R (xs ++ [x]) (ys ++ [y]) := by
  induction p with
  | nil => exact .cons h .nil
  | cons h1 _ ih => exact .cons h1 ih
theorem DtH.sc {H : Hp} {n : Nat} {v : V} (s : Sc v) : DtH H (n + 1) v (.v v) := ⟨rfl, s⟩
theorem is_sc {K : PySem.W.Frag} {T : String} {y : V} {H : Hp} {Q : VK} (s : Sc y) (q : Q (.bl false) H) : rIs1 K T isN y H Q := by
  cases s <;> exact q
end VM

namespace K2
open PySem PySem.Spec PyProof.Rows L2 CW K1
open VM
def topS (i : Nat) : Stmt := PySem.Challenge.pw_ripplewell_k02_equal_readings.main.body.getD i (.Pass ⟨0, 0, 0, 0⟩)
theorem boot_len : bootBuiltins "len" = some (.builtin "len") := by decide +kernel
theorem boot_abs : bootBuiltins "abs" = some (.builtin "abs") := by decide +kernel
theorem boot_isinstance : bootBuiltins "isinstance" = some (.builtin "isinstance") := by decide +kernel
theorem boot_int : bootBuiltins "int" = some (.type "int") := by decide +kernel
theorem boot_str : bootBuiltins "str" = some (.type "str") := by decide +kernel
theorem boot_bool : bootBuiltins "bool" = some (.type "bool") := by decide +kernel
theorem boot_type : bootBuiltins "type" = some (.type "type") := by decide +kernel
theorem boot_range : bootBuiltins "range" = some (.type "range") := by decide +kernel
theorem boot_list : bootBuiltins "list" = some (.type "list") := by decide +kernel
theorem boot_tuple : bootBuiltins "tuple" = some (.type "tuple") := by decide +kernel
structure Gs (mg : Str → Option Value) : Prop where
  n_len : mg "len" = none
  n_abs : mg "abs" = none
  n_isinstance : mg "isinstance" = none
  n_int : mg "int" = none
  n_str : mg "str" = none
  n_bool : mg "bool" = none
  n_type : mg "type" = none
  n_range : mg "range" = none
  n_list : mg "list" = none
  n_tuple : mg "tuple" = none
section
variable {P : Program} {w : World} {K : PySem.W.Frag} {mg : Str → Option Value} {base : Heap}
/-! ### _law_cell -/
abbrev s__law_cell : Stmt := topS 5
theorem sc__law_cell : FnScope ["script", "k"] ["script", "k"] (defScope s__law_cell) := ⟨rfl, rfl, rfl, by decide +kernel, rfl, by decide +kernel, by decide +kernel⟩
def sp__law_cell (K : PySem.W.Frag) : Sp := fun vs H Q _ => match vs with
  | [.ref a, .int k] => ∃ ns : List Int, SqL K H a (ns.map V.int) ∧ 0 ≤ k ∧ Q (.int (ns.getD k.toNat 0)) H
  | _ => False
theorem ok__law_cell {f : Addr} {fd : FuncData} (F : Fun K "_law_cell" "_law_cell" s__law_cell f fd) (G : Gs mg) : FnOk P w K mg base CX0 1 f fd ["script", "k"] (sp__law_cell K) := by
  refine F.ok sc__law_cell (fun vs H Q E h => ?_) (fun cdv A outer s H vs Q E hr h => ?_)
  · unfold sp__law_cell at h
    split at h
    · rfl
    · exact h.elim
  · unfold sp__law_cell at h
    split at h
    case h_2 => exact h.elim
    case h_1 a i =>
      obtain ⟨ns, hs, h0, k⟩ := h
      refine ⟨_, (pss_cons (s_if (t_cmp o_lt (c_var 1) (c_bi (b_len (K := K) rfl) G.n_len boot_len (pa_cons (c_var 0) pa_nil))) (pss_one (s_ret (c_ix (K := K) rfl (c_var 0) (c_var 1)))) pss_nil)
    (pss_one (s_ret pe_int))), ?_⟩
      refine .inl ⟨_, .inl hs, Gen.dec (fun h1 => ?_) (fun h1 => ?_)⟩
      · rw [List.length_map] at h1
        have h2 : i.toNat < ns.length := by omega
        have e : ns.getD i.toNat 0 = ns[i.toNat] := by
          rw [List.getD_eq_getElem?_getD, List.getElem?_eq_getElem h2]
          rfl
        rw [e] at k
        exact ⟨_, .int ns[i.toNat], .inl hs, at_nat h0 (by rw [List.getElem?_map, List.getElem?_eq_getElem h2]; rfl), k⟩
      · rw [List.length_map] at h1
        have e : ns.getD i.toNat 0 = 0 := by
          rw [List.getD_eq_getElem?_getD, List.getElem?_eq_none (by omega)]
          rfl
        rw [e] at k
        exact k
/-! ### _law_row -/
abbrev s__law_row : Stmt := topS 6
theorem sc__law_row : FnScope ["script", "first", "last", "row", "k", "cell", "turn"] ["script", "first", "last"] (defScope s__law_row) := ⟨rfl, rfl, rfl, by decide +kernel, rfl, by decide +kernel, by decide +kernel⟩
def sp__law_row (K : PySem.W.Frag) : Sp := fun vs H Q _ => match vs with
  | [.ref a, .int lo, .int hi] => ∃ ns : List Int, SqL K H a (ns.map V.int) ∧ 0 ≤ lo ∧ lo ≤ 63 ∧ (0 ≤ hi ∧ hi ≤ 63) ∧ ∀ (r : Addr) (row : List Int) (H' : Hp), Same H H' → H r = none → H' r = some (.lst (row.map V.int)) → Q (.ref r) H'
  | _ => False
theorem ok__law_row {f : Addr} {fd : FuncData} (F : Fun K "_law_row" "_law_row" s__law_row f fd) (G : Gs mg) (C__law_cell : Has P w K mg base 1 "_law_cell" ["script", "k"] (sp__law_cell K)) : FnOk P w K mg base CX0 2 f fd ["script", "first", "last"] (sp__law_row K) := by
  refine F.ok sc__law_row (fun vs H Q E h => ?_) (fun cdv A outer s H vs Q E hr h => ?_)
  · unfold sp__law_row at h
    split at h
    · rfl
    · exact h.elim
  · unfold sp__law_row at h
    split at h
    case h_2 => exact h.elim
    case h_1 a lo hi =>
      obtain ⟨ns, hs, l0, l1, l2, k⟩ := h
      refine ⟨_, (pss_cons (s_set 3 sc__law_row.nd (c_lst pa_nil))
    (pss_cons (s_forR2 4 (pa_cons (c_var 1) (pa_cons (c_var 2) pa_nil)) G.n_range sc__law_row.nd (pss_cons (s_set 5 sc__law_row.nd (c_call C__law_cell (hr.mono (by omega)) (pa_cons (c_var 0) (pa_cons (c_var 4) pa_nil))))
    (pss_cons (s_set 5 sc__law_row.nd (c_bin o_add (c_bi b_abs G.n_abs boot_abs (pa_cons (c_bin o_mul pe_int (c_var 5)) pa_nil)) (c_ty b_int G.n_int boot_int (pa_cons (c_cmp o_lt (c_var 5) pe_int) pa_nil))))
    (pss_one (s_if (t_cmp o_gt (c_var 5) (c_bin o_pow pe_int pe_int)) (pss_one (s_forR1 6 (pa_cons pe_int pa_nil) G.n_range sc__law_row.nd (pss_one (s_if (t_cmp o_gt (c_var 5) pe_int) (pss_cons (s_app (c_var 3) (c_bin o_mod (c_ty b_int G.n_int boot_int (pa_cons (c_var 5) pa_nil)) pe_int))
    (pss_one (s_set 5 sc__law_row.nd (c_bin o_fdiv (c_var 5) pe_int)))) pss_nil)))) (pss_one (s_forR1 6 (pa_cons pe_int pa_nil) G.n_range sc__law_row.nd (pss_cons (s_set 5 sc__law_row.nd (c_bin o_mod (c_ty b_int G.n_int boot_int (pa_cons (c_bin o_add (c_bin o_add (c_bin o_mul (c_var 5) pe_int) (c_bin o_mul pe_int (c_bin o_add (c_var 4) (c_var 6)))) pe_int) pa_nil)) pe_int))
    (pss_one (s_app (c_var 3) (c_bin o_mod (c_ty b_int G.n_int boot_int (pa_cons (c_bin o_fdiv (c_var 5) pe_int) pa_nil)) pe_int)))))))))))
    (pss_one (s_ret (c_var 3))))), ?_⟩
      refine ⟨by decide, fun r hr => ?_⟩
      have sr : Same H (upd H r (.lst [])) := same_upd hr
      refine ⟨by omega, fun i σ H' => ∃ (row : List Int) (vk vc vt : Option V), σ = [some (.ref a), some (.int lo), some (.int hi), some (.ref r), vk, vc, vt] ∧ Same H H' ∧ H' r = some (.lst (row.map V.int)) ∧ row.length ≤ 60 * i,
        ⟨[], none, none, none, rfl, sr, upd_same, Nat.le_refl _⟩, fun i σ H1 hi1 p => ?_, fun σ H1 p => ?_⟩
      · obtain ⟨row, vk, vc, vt, rfl, s1, e1, g1⟩ := p
        have ii : i < 63 := by omega
        refine ⟨ns, s1.seq hs, by omega, ?_⟩
        generalize ns.getD (lo + (i : Int)).toNat 0 = c
        refine ⟨.inl (by decide), ?_⟩
        refine Gen.sub ?_
        generalize hc : (if 2 * c < 0 then -(2 * c) else 2 * c) + (if decide (c < 0) = true then 1 else 0) = c1
        refine ⟨⟨by decide, by decide, by decide⟩, Gen.dec (fun _ => ?_) (fun _ => ?_)⟩
        · refine ⟨by decide, fun j σ H' => ∃ (row : List Int) (c2 : Int) (vt : Option V), σ = [some (.ref a), some (.int lo), some (.int hi), some (.ref r), some (.int (lo + (i : Int))), some (.int c2), vt] ∧ Same H H' ∧ H' r = some (.lst (row.map V.int)) ∧ row.length ≤ 60 * i + j,
            ⟨row, c1, vt, by rw [← hc]; rfl, s1, e1, by omega⟩, fun j σ H2 hj p => ?_, fun σ H2 p => ?_⟩
          · obtain ⟨row2, c2, vt2, rfl, s2, e2, g2⟩ := p
            have jj : j < 60 := by omega
            refine Gen.dec (fun _ => ?_) (fun _ => ?_)
            · refine ⟨_, e2, by decide, _, e2, len_lt g2 (by omega), ⟨by decide, by decide⟩, ?_⟩
              refine ⟨row2 ++ [c2 % 840], c2 / 840, _, rfl, same_upd2 s2 hr, ?_, ?_⟩
              · rw [upd_same, map_snoc]
              · rw [List.length_append, List.length_singleton]
                omega
            · exact ⟨_, _, _, rfl, s2, e2, by omega⟩
          · obtain ⟨row2, c2, vt2, rfl, s2, e2, g2⟩ := p
            have : (60 : Int).toNat = 60 := rfl
            exact ⟨row2, _, _, _, rfl, s2, e2, by rw [this] at g2; omega⟩
        · refine ⟨by decide, fun j σ H' => ∃ (row : List Int) (c2 : Int) (vt : Option V), σ = [some (.ref a), some (.int lo), some (.int hi), some (.ref r), some (.int (lo + (i : Int))), some (.int c2), vt] ∧ Same H H' ∧ H' r = some (.lst (row.map V.int)) ∧ row.length ≤ 60 * i + j,
            ⟨row, c1, vt, by rw [← hc]; rfl, s1, e1, by omega⟩, fun j σ H2 hj p => ?_, fun σ H2 p => ?_⟩
          · obtain ⟨row2, c2, vt2, rfl, s2, e2, g2⟩ := p
            have jj : j < 10 := by omega
            refine ⟨.inr (by decide), .inl (by decide), by decide, _, e2, ⟨by decide, by decide⟩, by decide, _, e2, len_lt g2 (by omega), ?_⟩
            refine ⟨row2 ++ [(c2 * 69069 + 104729 * (lo + (i : Int) + (j : Int)) + 1) % 4294967291 / 5003 % 840], _, _, rfl, same_upd2 s2 hr, ?_, ?_⟩
            · rw [upd_same, map_snoc]
            · rw [List.length_append, List.length_singleton]
              omega
          · obtain ⟨row2, c2, vt2, rfl, s2, e2, g2⟩ := p
            have : (10 : Int).toNat = 10 := rfl
            exact ⟨row2, _, _, _, rfl, s2, e2, by rw [this] at g2; omega⟩
      · obtain ⟨row, vk, vc, vt, rfl, s1, e1, g1⟩ := p
        exact k r row H1 s1 hr e1
/-! ### _law_draw -/
abbrev s__law_draw : Stmt := topS 7
theorem sc__law_draw : FnScope ["box", "many", "at"] ["box", "many"] (defScope s__law_draw) := ⟨rfl, rfl, rfl, by decide +kernel, rfl, by decide +kernel, by decide +kernel⟩
def sp__law_draw (K : PySem.W.Frag) : Sp := fun vs H Q _ => match vs with
  | [.ref b, .int m] => ∃ (r : Addr) (at' : Int) (row : List Int), BoxAt H b r at' row ∧ 0 < m ∧ ∀ d : Int, 0 ≤ d → d < m → Q (.int d) (upd H b (.lst [.ref r, .int (at' + 1)]))
  | _ => False
theorem ok__law_draw {f : Addr} {fd : FuncData} (F : Fun K "_law_draw" "_law_draw" s__law_draw f fd) (G : Gs mg) : FnOk P w K mg base CX0 1 f fd ["box", "many"] (sp__law_draw K) := by
  refine F.ok sc__law_draw (fun vs H Q E h => ?_) (fun cdv A outer s H vs Q E hr h => ?_)
  · unfold sp__law_draw at h
    split at h
    · rfl
    · exact h.elim
  · unfold sp__law_draw at h
    split at h
    case h_2 => exact h.elim
    case h_1 b m =>
      obtain ⟨r, at', row, ⟨e1, e2, h0, hn⟩, hm, k⟩ := h
      refine ⟨_, (pss_cons (s_set 2 sc__law_draw.nd (c_ix (K := K) rfl (c_var 0) pe_int))
    (pss_cons (s_setI (c_bin o_add (c_var 2) pe_int) (c_var 0) pe_int)
    (pss_cons (s_if (t_cmp o_lt (c_var 2) (c_bi (b_len (K := K) rfl) G.n_len boot_len (pa_cons (c_ix (K := K) rfl (c_var 0) pe_int) pa_nil))) (pss_one (s_ret (c_bin o_mod (c_ty b_int G.n_int boot_int (pa_cons (c_ix (K := K) rfl (c_ix (K := K) rfl (c_var 0) pe_int) (c_var 2)) pa_nil)) (c_var 1)))) pss_nil)
    (pss_one (s_ret (c_bin o_mod (c_ty b_int G.n_int boot_int (pa_cons (c_bin o_add (c_bin o_mul (c_var 2) pe_int) pe_int) pa_nil)) (c_var 1))))))), ?_⟩
      refine ⟨_, .int at', .inl (SqL.of e1), rfl, ?_⟩
      refine ⟨_, 1, e1, rfl, ?_⟩
      have e3 : (upd H b (.lst [.ref r, .int (at' + 1)])) r = some (.lst (row.map V.int)) := by
        rw [upd_ne hn]
        exact e2
      refine ⟨_, .ref r, .inl (SqL.of upd_same), rfl, .inl ⟨_, .inl (SqL.of e3), Gen.dec (fun h1 => ?_) (fun h1 => ?_)⟩⟩
      · rw [List.length_map] at h1
        have h2 : at'.toNat < row.length := by omega
        refine ⟨_, .ref r, .inl (SqL.of upd_same), rfl, ?_⟩
        refine ⟨_, .int row[at'.toNat], .inl (SqL.of e3), at_nat h0 (by rw [List.getElem?_map, List.getElem?_eq_getElem h2]; rfl), hm, ?_⟩
        exact k _ (Int.emod_nonneg _ (by omega)) (Int.emod_lt_of_pos _ hm)
      · exact ⟨.inr (by decide), hm, k _ (Int.emod_nonneg _ (by omega)) (Int.emod_lt_of_pos _ hm)⟩
/-! ### _law_value -/
abbrev s__law_value : Stmt := topS 8
theorem sc__law_value : FnScope ["box"] ["box"] (defScope s__law_value) := ⟨rfl, rfl, rfl, by decide +kernel, rfl, by decide +kernel, by decide +kernel⟩
def sp__law_value (K : PySem.W.Frag) : Sp := fun vs H Q _ => match vs with
  | [.ref b] => ∃ (r : Addr) (at' : Int) (row : List Int), BoxAt H b r at' row ∧ ∀ (v : V) (H' : Hp), Gv v → But b H H' → BoxAt H' b r (at' + 1) row → Q v H'
  | _ => False
theorem mul_x : Txt.mul "x" 39 = "xxxxxxxxxxxxxxxxxxxxxxxxxxxxxxxxxxxxxxx" := by decide +kernel
theorem mul_y : Txt.mul "y" 40 = "yyyyyyyyyyyyyyyyyyyyyyyyyyyyyyyyyyyyyyyy" := by decide +kernel
def menu : List V := [.non, .bl false, .bl true, .int 0, .int 1, .int 2, .int 3, .int 7, .int 999, .str "", .str "a", .str "b", .str "ab", .str "1", .str (Txt.mul "x" 39), .str (Txt.mul "y" 40)]
theorem menu_gv {x : V} (h : x ∈ menu) : Gv x := by
  simp only [menu, List.mem_cons, List.not_mem_nil, or_false] at h
  rcases h with rfl | rfl | rfl | rfl | rfl | rfl | rfl | rfl | rfl | rfl | rfl | rfl | rfl | rfl | rfl | rfl
  all_goals first
    | exact .non
    | exact .bl _
    | exact .int _ (by omega) (by omega)
    | exact .str _ (by decide)
    | exact .str _ (by rw [mul_x]; decide)
    | exact .str _ (by rw [mul_y]; decide)
theorem ok__law_value {f : Addr} {fd : FuncData} (F : Fun K "_law_value" "_law_value" s__law_value f fd) (G : Gs mg) (C__law_draw : Has P w K mg base 1 "_law_draw" ["box", "many"] (sp__law_draw K)) : FnOk P w K mg base CX0 2 f fd ["box"] (sp__law_value K) := by
  refine F.ok sc__law_value (fun vs H Q E h => ?_) (fun cdv A outer s H vs Q E hr h => ?_)
  · unfold sp__law_value at h
    split at h
    · rfl
    · exact h.elim
  · unfold sp__law_value at h
    split at h
    case h_2 => exact h.elim
    case h_1 b =>
      obtain ⟨r, at', row, ⟨e1, e2, h0, hn⟩, k⟩ := h
      refine ⟨_, (pss_one (s_ret (c_ix (K := K) rfl (c_lst (pa_cons pe_non (pa_cons pe_bl (pa_cons pe_bl (pa_cons pe_int (pa_cons pe_int (pa_cons pe_int (pa_cons pe_int (pa_cons pe_int (pa_cons pe_int (pa_cons pe_str (pa_cons pe_str (pa_cons pe_str (pa_cons pe_str (pa_cons pe_str (pa_cons (c_bin o_mul pe_str pe_int) (pa_cons (c_bin o_mul pe_str pe_int) pa_nil))))))))))))))))) (c_call C__law_draw (hr.mono (by omega)) (pa_cons (c_var 0) (pa_cons pe_int pa_nil)))))), ?_⟩
      refine ⟨small_mul (by decide) (by decide) (by decide), small_mul (by decide) (by decide) (by decide), by decide, fun p hp => ?_⟩
      have npb : b ≠ p := ne_of_none e1 hp
      have npr : r ≠ p := ne_of_none e2 hp
      refine ⟨r, at', row, ⟨by rw [upd_ne npb]; exact e1, by rw [upd_ne npr]; exact e2, h0, hn⟩, by decide, fun d d0 d1 => ?_⟩
      have h2 : d.toNat < menu.length := by
        have : menu.length = 16 := rfl
        omega
      have e5 : (upd (upd H p (.lst menu)) b (.lst [.ref r, .int (at' + 1)])) p = some (.lst menu) := by
        rw [upd_ne npb.symm, upd_same]
      refine ⟨menu, menu[d.toNat], .inl (SqL.of e5), at_nat d0 (List.getElem?_eq_getElem h2), k _ _ (menu_gv (List.getElem_mem h2)) ?_ ⟨upd_same, ?_, by omega, hn⟩⟩
      · intro c o nc ec
        rw [upd_ne nc, upd_ne (ne_of_none ec hp)]
        exact ec
      · rw [upd_ne hn, upd_ne npr]
        exact e2
/-! ### _law_is_bool -/
abbrev s__law_is_bool : Stmt := topS 9
theorem sc__law_is_bool : FnScope ["v"] ["v"] (defScope s__law_is_bool) := ⟨rfl, rfl, rfl, by decide +kernel, rfl, by decide +kernel, by decide +kernel⟩
def sp__law_is_bool : Sp := fun vs H Q _ => match vs with
  | [a] => Sc a ∧ Q (.bl (isb a)) H
  | _ => False
theorem ok__law_is_bool {f : Addr} {fd : FuncData} (F : Fun K "_law_is_bool" "_law_is_bool" s__law_is_bool f fd) (G : Gs mg) : FnOk P w K mg base CX0 1 f fd ["v"] sp__law_is_bool := by
  refine F.ok sc__law_is_bool (fun vs H Q E h => ?_) (fun cdv A outer s H vs Q E hr h => ?_)
  · unfold sp__law_is_bool at h
    split at h
    · rfl
    · exact h.elim
  · unfold sp__law_is_bool at h
    split at h
    case h_2 => exact h.elim
    case h_1 a =>
      obtain ⟨ha, k⟩ := h
      refine ⟨_, (pss_one (s_ret (c_or (c_cmp o_is (c_var 0) pe_bl) (c_one (c_cmp o_is (c_var 0) pe_bl))))), ?_⟩
      cases ha with
      | bl b => cases b <;> exact k
      | _ => exact k
/-! ### _law_equal -/
abbrev s__law_equal : Stmt := topS 11
theorem sc__law_equal : FnScope ["a", "b"] ["a", "b"] (defScope s__law_equal) := ⟨rfl, rfl, rfl, by decide +kernel, rfl, by decide +kernel, by decide +kernel⟩
def sp__law_equal : Sp := fun vs H Q _ => match vs with
  | [a, b] => Sc a ∧ Sc b ∧ Q (.bl (eqv a b)) H
  | _ => False
theorem ok__law_equal {f : Addr} {fd : FuncData} (F : Fun K "_law_equal" "_law_equal" s__law_equal f fd) (G : Gs mg) (C__law_is_bool : Has P w K mg base 1 "_law_is_bool" ["v"] sp__law_is_bool) : FnOk P w K mg base CX0 2 f fd ["a", "b"] sp__law_equal := by
  refine F.ok sc__law_equal (fun vs H Q E h => ?_) (fun cdv A outer s H vs Q E hr h => ?_)
  · unfold sp__law_equal at h
    split at h
    · rfl
    · exact h.elim
  · unfold sp__law_equal at h
    split at h
    case h_2 => exact h.elim
    case h_1 a b =>
      obtain ⟨ha, hb, k⟩ := h
      refine ⟨_, (pss_cons (s_if (PW.pt (w_or (t_cmp o_is (c_var 0) pe_non) (w_or1 (t_cmp o_is (c_var 1) pe_non)))) (pss_one (s_ret (c_and (c_cmp o_is (c_var 0) pe_non) (c_one (c_cmp o_is (c_var 1) pe_non))))) pss_nil)
    (pss_cons (s_if (PW.pt (w_or (t_tru (K := K) rfl (c_isi (K := K) rfl kf_str G.n_isinstance G.n_str boot_str (c_var 0))) (w_or1 (t_tru (K := K) rfl (c_isi (K := K) rfl kf_str G.n_isinstance G.n_str boot_str (c_var 1)))))) (pss_one (s_ret (c_and (c_isi (K := K) rfl kf_str G.n_isinstance G.n_str boot_str (c_var 0)) (c_and (c_isi (K := K) rfl kf_str G.n_isinstance G.n_str boot_str (c_var 1)) (c_one (c_cmp o_eq (c_var 0) (c_var 1))))))) pss_nil)
    (pss_one (s_ret (c_and (c_cmp o_eq (c_call C__law_is_bool (hr.mono (by omega)) (pa_cons (c_var 0) pa_nil)) (c_call C__law_is_bool (hr.mono (by omega)) (pa_cons (c_var 1) pa_nil))) (c_one (c_cmp o_eq (c_var 0) (c_var 1)))))))), ?_⟩
      have ga := ha
      have gb := hb
      cases ha <;> cases hb <;> first
        | exact k
        | exact Gen.sub k
        | (refine ⟨ga, gb, ?_⟩; first | exact Gen.no rfl k | exact Gen.yes rfl k | exact Gen.yes rfl (by refine Gen.sub ?_; exact k))
/-! ### _law_same -/
abbrev s__law_same : Stmt := topS 14
theorem sc__law_same : FnScope ["told", "due", "k"] ["told", "due"] (defScope s__law_same) := ⟨rfl, rfl, rfl, by decide +kernel, rfl, by decide +kernel, by decide +kernel⟩
def sp__law_same (K : PySem.W.Frag) (n : Nat) : Sp := fun vs H Q _ => match vs with
  | [x, y] => ∃ d e, DaAt K H n x d ∧ DaAt K H n y e ∧ Q (.bl (sameD d e)) H
  | _ => False
theorem ok__law_same {f : Addr} {fd : FuncData} (F : Fun K "_law_same" "_law_same" s__law_same f fd) (G : Gs mg) (mf : mg "_law_same" = some (.ref f)) (bf : Binds K fd ["told", "due"] []) (C__law_equal : Has P w K mg base 2 "_law_equal" ["a", "b"] sp__law_equal) :
    ∀ n : Nat, FnOk P w K mg base CX0 (n + 2) f fd ["told", "due"] (sp__law_same K n) := by
  intro n
  induction n with
  | zero =>
    refine ⟨fun vs H Q E h => ?_, fun A outer s H args us vs Q E hr he hb hv h => ?_⟩
    · unfold sp__law_same at h
      split at h
      · rfl
      · exact h.elim
    · unfold sp__law_same at h
      split at h
      · obtain ⟨_, _, h, _⟩ := h
        exact h.elim
      · exact h.elim
  | succ n ih =>
    have C__law_same : Has P w K mg base (n + 2) "_law_same" ["told", "due"] (sp__law_same K n) := ⟨f, fd, ih, mf, F.kp, bf⟩
    refine F.ok sc__law_same (fun vs H Q E h => ?_) (fun cdv A outer s H vs Q E hr h => ?_)
    · unfold sp__law_same at h
      split at h
      · rfl
      · exact h.elim
    · unfold sp__law_same at h
      split at h
      case h_2 => exact h.elim
      case h_1 x y =>
        obtain ⟨d, e, hd, he, k⟩ := h
        refine ⟨_, (pss_cons (s_if (PW.pt (w_or (t_tru (K := K) rfl (c_isi (K := K) rfl kf_tuple G.n_isinstance G.n_tuple boot_tuple (c_var 1))) (w_or1 (t_tru (K := K) rfl (c_isi (K := K) rfl kf_list G.n_isinstance G.n_list boot_list (c_var 1)))))) (pss_cons (s_if (PW.pt (w_or (t_cmp o_ne (c_isi (K := K) rfl kf_tuple G.n_isinstance G.n_tuple boot_tuple (c_var 1)) (c_isi (K := K) rfl kf_tuple G.n_isinstance G.n_tuple boot_tuple (c_var 0))) (w_or1 (t_cmp o_ne (c_isi (K := K) rfl kf_list G.n_isinstance G.n_list boot_list (c_var 1)) (c_isi (K := K) rfl kf_list G.n_isinstance G.n_list boot_list (c_var 0)))))) (pss_one (s_ret pe_bl)) pss_nil)
    (pss_cons (s_if (t_cmp o_ne (c_bi (b_len (K := K) rfl) G.n_len boot_len (pa_cons (c_var 0) pa_nil)) (c_bi (b_len (K := K) rfl) G.n_len boot_len (pa_cons (c_var 1) pa_nil))) (pss_one (s_ret pe_bl)) pss_nil)
    (pss_cons (s_forR1 2 (pa_cons (c_bi (b_len (K := K) rfl) G.n_len boot_len (pa_cons (c_var 1) pa_nil)) pa_nil) G.n_range sc__law_same.nd (pss_one (s_if (t_not (t_tru (K := K) rfl (c_call C__law_same (hr.mono (by omega)) (pa_cons (c_ix (K := K) rfl (c_var 0) (c_var 2)) (pa_cons (c_ix (K := K) rfl (c_var 1) (c_var 2)) pa_nil))))) (pss_one (s_ret pe_bl)) pss_nil)))
    (pss_one (s_ret pe_bl))))) pss_nil)
    (pss_cons (s_if (PW.pt (w_or (t_tru (K := K) rfl (c_isi (K := K) rfl kf_tuple G.n_isinstance G.n_tuple boot_tuple (c_var 0))) (w_or1 (t_tru (K := K) rfl (c_isi (K := K) rfl kf_list G.n_isinstance G.n_list boot_list (c_var 0)))))) (pss_one (s_ret pe_bl)) pss_nil)
    (pss_one (s_ret (c_call C__law_equal (hr.mono (by omega)) (pa_cons (c_var 0) (pa_cons (c_var 1) pa_nil))))))), ?_⟩
        -- the items, one by one
        have loop : ∀ {a b : Addr} {xs ys : List V} {ds es : List Da}, x = .ref a → y = .ref b → (SqL K H a xs ∨ SqT K H a xs) → (SqL K H b ys ∨ SqT K H b ys) → Paired (DaAt K H n) xs ds → Paired (DaAt K H n) ys es → es.length ≤ 100000 →
            Q (.bl (sameL ds es)) H → cIfS (cBl (cBin rNeC (cArgs (CW.rLen K) (tCons (cVar 0) tNil)) (cArgs (CW.rLen K) (tCons (cVar 1) tNil)))) (tRet (tC (.bl false))) tNext
              { nx := tSeq (cForR1 (tCons (cArgs (CW.rLen K) (tCons (cVar 1) tNil)) tNil) 2 (cIfS (cNotT (cTru K (cCall (sp__law_same K n) (tCons (cBin (rIxC K) (cVar 0) (cVar 2)) (tCons (cBin (rIxC K) (cVar 1) (cVar 2)) tNil))))) (tRet (tC (.bl false))) tNext))
                  (tRet (tC (.bl true))) { nx := fun _ H' => Q .non H', rt := Q }, rt := Q } [some x, some y, none] H := by
          intro a b xs ys ds es ex ey hx hy px py hz k
          subst ex ey
          have lx := Paired.length px
          have ly := Paired.length py
          refine .inl ⟨xs, hx, .inl ⟨ys, hy, Gen.dec (fun hl => ?_) (fun hl => ?_)⟩⟩
          · have el : ds.length = es.length := by omega
            refine .inl ⟨ys, hy, by omega, fun i σ H' => ∃ yk, σ = [some (.ref a), some (.ref b), yk] ∧ H' = H ∧ sameL (ds.take i) (es.take i) = true, ⟨none, rfl, rfl, rfl⟩, fun i σ H' hi p => ?_, fun σ H' p => ?_⟩
            · obtain ⟨yk, rfl, rfl, p⟩ := p
              have hi2 : i < es.length := by omega
              have hi1 : i < ds.length := by omega
              obtain ⟨vy, ey, ry⟩ := pget2 py hi2
              obtain ⟨vx, ex, rx⟩ := pget2 px hi1
              refine ⟨xs, vx, hx, at_nat (by omega) (by simpa using ex), ys, vy, hy, at_nat (by omega) (by simpa using ey), ds[i], es[i], rx, ry, ?_⟩
              have e1 : ds[i]? = some ds[i] := List.getElem?_eq_getElem hi1
              have e2 : es[i]? = some es[i] := List.getElem?_eq_getElem hi2
              cases hs : sameD ds[i] es[i]
              · rw [sameL_false e1 e2 hs] at k
                exact k
              · refine ⟨_, rfl, rfl, ?_⟩
                rw [sameL_take e1 e2, p, hs]
                rfl
            · obtain ⟨yk, rfl, rfl, p⟩ := p
              have e0 : ((ys.length : Nat) : Int).toNat = ys.length := by omega
              rw [e0, List.take_of_length_le (by omega), List.take_of_length_le (by omega)] at p
              rw [p] at k
              exact k
          · have e0 : sameL ds es = false := by
              cases h : sameL ds es
              · rfl
              · have := sameL_len h
                omega
            rw [e0] at k
            exact k
        cases e with
        | v y' =>
          obtain ⟨rfl, sy⟩ := he
          cases d with
          | v x' =>
            obtain ⟨rfl, sx⟩ := hd
            have gx := sx
            have gy := sy
            cases sx <;> cases sy <;> exact ⟨gx, gy, k⟩
          | tup ds =>
            obtain ⟨_, a, xs, rfl, hx, px⟩ := hd
            cases sy <;> exact ⟨_, _, tyx_t hx, kb_tt, k⟩
          | lst ds =>
            obtain ⟨_, a, xs, rfl, hx, px⟩ := hd
            cases sy <;> exact ⟨_, _, tyx_l hx, kb_lt, _, _, tyx_l hx, kb_ll, k⟩
        | tup es =>
          obtain ⟨hz, b, ys, rfl, hy, py⟩ := he
          refine ⟨_, _, tyx_t hy, kb_tt, _, _, tyx_t hy, kb_tt, ?_⟩
          cases d with
          | v x' =>
            obtain ⟨rfl, sx⟩ := hd
            cases sx <;> exact Gen.no rfl k
          | tup ds =>
            obtain ⟨_, a, xs, rfl, hx, px⟩ := hd
            refine ⟨_, _, tyx_t hx, kb_tt, Gen.yes rfl ⟨_, _, tyx_t hy, kb_tl, _, _, tyx_t hx, kb_tl, Gen.yes rfl ?_⟩⟩
            exact loop rfl rfl (.inr hx) (.inr hy) px py hz k
          | lst ds =>
            obtain ⟨_, a, xs, rfl, hx, px⟩ := hd
            exact ⟨_, _, tyx_l hx, kb_lt, Gen.no rfl k⟩
        | lst es =>
          obtain ⟨hz, b, ys, rfl, hy, py⟩ := he
          refine ⟨_, _, tyx_l hy, kb_lt, _, _, tyx_l hy, kb_ll, _, _, tyx_l hy, kb_lt, ?_⟩
          cases d with
          | v x' =>
            obtain ⟨rfl, sx⟩ := hd
            cases sx <;> exact Gen.yes rfl ⟨_, _, tyx_l hy, kb_ll, Gen.no rfl k⟩
          | tup ds =>
            obtain ⟨_, a, xs, rfl, hx, px⟩ := hd
            exact ⟨_, _, tyx_t hx, kb_tt, Gen.no rfl k⟩
          | lst ds =>
            obtain ⟨_, a, xs, rfl, hx, px⟩ := hd
            refine ⟨_, _, tyx_l hx, kb_lt, Gen.yes rfl ⟨_, _, tyx_l hy, kb_ll, _, _, tyx_l hx, kb_ll, Gen.yes rfl ?_⟩⟩
            exact loop rfl rfl (.inl hx) (.inl hy) px py hz k
/-! ### readings -/
def keyMenu : List (List Str) := [[], ["a"], ["ab"], ["a", "b"], ["b", "a"], ["b", "a", "ab"]]
def errMenu : List Str := ["disposed", "a", "1", "none", "", "made later"]
theorem keyMenu_len {ks : List Str} (h : ks ∈ keyMenu) : ks.length ≤ 3 := by
  simp only [keyMenu, List.mem_cons, List.not_mem_nil, or_false] at h
  rcases h with rfl | rfl | rfl | rfl | rfl | rfl <;> decide
inductive IsRd : Da → Prop where
  | val (v : V) (g : Gv v) : IsRd (.tup [.v (.str "value"), .v v])
  | absent : IsRd (.tup [.v (.str "absent")])
  | keys (ks : List Str) (h : ks ∈ keyMenu) : IsRd (.tup [.v (.str "keys"), .tup (ks.map fun k => .v (.str k))])
  | err (m : Str) (h : m ∈ errMenu) : IsRd (.tup [.v (.str "error"), .v (.str m)])
abbrev s__law_drawn : Stmt := topS 15
theorem sc__law_drawn : FnScope ["box", "kind"] ["box"] (defScope s__law_drawn) := ⟨rfl, rfl, rfl, by decide +kernel, rfl, by decide +kernel, by decide +kernel⟩
def sp__law_drawn (K : PySem.W.Frag) : Sp := fun vs H Q _ => match vs with
  | [.ref b] => ∃ r row, BoxR H b r row ∧ ∀ (x : V) (d : Da) (H' : Hp), IsRd d → DtH H' 3 x d → But b H H' → BoxR H' b r row → Q x H'
  | _ => False
theorem ok__law_drawn {f : Addr} {fd : FuncData} (F : Fun K "_law_drawn" "_law_drawn" s__law_drawn f fd) (G : Gs mg) (C__law_draw : Has P w K mg base 1 "_law_draw" ["box", "many"] (sp__law_draw K)) (C__law_value : Has P w K mg base 2 "_law_value" ["box"] (sp__law_value K)) : FnOk P w K mg base CX0 3 f fd ["box"] (sp__law_drawn K) := by
  refine F.ok sc__law_drawn (fun vs H Q E h => ?_) (fun cdv A outer s H vs Q E hr h => ?_)
  · unfold sp__law_drawn at h
    split at h
    · rfl
    · exact h.elim
  · unfold sp__law_drawn at h
    split at h
    case h_2 => exact h.elim
    case h_1 b =>
      obtain ⟨r, row, ⟨at', B⟩, k⟩ := h
      refine ⟨_, (pss_cons (s_set 1 sc__law_drawn.nd (c_call C__law_draw (hr.mono (by omega)) (pa_cons (c_var 0) (pa_cons pe_int pa_nil))))
    (pss_cons (s_if (t_cmp o_lt (c_var 1) pe_int) (pss_one (s_ret (c_tup (pa_cons pe_str (pa_cons (c_call C__law_value (hr.mono (by omega)) (pa_cons (c_var 0) pa_nil)) pa_nil))))) pss_nil)
    (pss_cons (s_if (t_cmp o_eq (c_var 1) pe_int) (pss_one (s_ret (c_tup (pa_cons pe_str pa_nil)))) pss_nil)
    (pss_cons (s_if (t_cmp o_eq (c_var 1) pe_int) (pss_one (s_ret (c_tup (pa_cons pe_str (pa_cons (c_ix (K := K) rfl (c_lst (pa_cons (c_tup pa_nil) (pa_cons (c_tup (pa_cons pe_str pa_nil)) (pa_cons (c_tup (pa_cons pe_str pa_nil)) (pa_cons (c_tup (pa_cons pe_str (pa_cons pe_str pa_nil))) (pa_cons (c_tup (pa_cons pe_str (pa_cons pe_str pa_nil))) (pa_cons (c_tup (pa_cons pe_str (pa_cons pe_str (pa_cons pe_str pa_nil)))) pa_nil))))))) (c_call C__law_draw (hr.mono (by omega)) (pa_cons (c_var 0) (pa_cons pe_int pa_nil)))) pa_nil))))) pss_nil)
    (pss_one (s_ret (c_tup (pa_cons pe_str (pa_cons (c_ix (K := K) rfl (c_lst (pa_cons pe_str (pa_cons pe_str (pa_cons pe_str (pa_cons pe_str (pa_cons pe_str (pa_cons pe_str pa_nil))))))) (c_call C__law_draw (hr.mono (by omega)) (pa_cons (c_var 0) (pa_cons pe_int pa_nil)))) pa_nil))))))))), ?_⟩
      -- kind = _law_draw(box, 6)
      refine ⟨r, at', row, B, by decide, fun kind k0 k1 => ?_⟩
      have B1 := B.next
      have b1 : But b H (upd H b (.lst [.ref r, .int (at' + 1)])) := But.upd
      generalize upd H b (.lst [.ref r, .int (at' + 1)]) = H1 at B1 b1
      refine Gen.dec (fun h3 => ?_) (fun h3 => Gen.dec (fun h3 => ?_) (fun h3 => Gen.dec (fun h4 => ?_) (fun h4 => ?_)))
      · -- ("value", _law_value(box))
        refine ⟨r, _, row, B1, fun v H2 gv b2 B2 => ⟨by show 2 ≤ sizeLine; decide, fun p hp => ?_⟩⟩
        exact k _ _ _ (.val v gv) ⟨by show 2 ≤ 100000; decide, p, _, rfl, upd_same, .cons (DtH.sc (.str _)) (.cons (DtH.sc gv.sc) .nil)⟩ (b1.trans (b2.trans (But.of (same_upd hp)))) ⟨_, B2.but hp⟩
      · -- ("absent",)
        refine ⟨by show 1 ≤ sizeLine; decide, fun p hp => ?_⟩
        exact k _ _ _ .absent ⟨by decide, p, _, rfl, upd_same, .cons (DtH.sc (.str _)) .nil⟩ (b1.trans (But.of (same_upd hp))) ⟨_, B1.but hp⟩
      · -- ("keys", [..][_law_draw(box, 6)])
        refine ⟨by show 0 ≤ sizeLine; decide, fun p1 n1 => ⟨by show 1 ≤ sizeLine; decide, fun p2 n2 => ⟨by show 1 ≤ sizeLine; decide, fun p3 n3 => ⟨by show 2 ≤ sizeLine; decide, fun p4 n4 => ⟨by show 2 ≤ sizeLine; decide, fun p5 n5 => ⟨by show 3 ≤ sizeLine; decide, fun p6 n6 => ⟨by show 6 ≤ sizeLine; decide, fun p7 n7 => ?_⟩⟩⟩⟩⟩⟩⟩
        have q2 := same_upd (o := .tup [.str "a"]) n2
        have q3 := same_upd (o := .tup [.str "ab"]) n3
        have q4 := same_upd (o := .tup [.str "a", .str "b"]) n4
        have q5 := same_upd (o := .tup [.str "b", .str "a"]) n5
        have q6 := same_upd (o := .tup [.str "b", .str "a", .str "ab"]) n6
        have q7 := same_upd (o := .lst [.ref p1, .ref p2, .ref p3, .ref p4, .ref p5, .ref p6]) n7
        have t1 := (q2.trans (q3.trans (q4.trans (q5.trans (q6.trans q7))))) p1 _ upd_same
        have t2 := (q3.trans (q4.trans (q5.trans (q6.trans q7)))) p2 _ upd_same
        have t3 := (q4.trans (q5.trans (q6.trans q7))) p3 _ upd_same
        have t4 := (q5.trans (q6.trans q7)) p4 _ upd_same
        have t5 := (q6.trans q7) p5 _ upd_same
        have t6 := q7 p6 _ upd_same
        have sa := (same_upd (o := .tup []) n1).trans (q2.trans (q3.trans (q4.trans (q5.trans (q6.trans q7)))))
        have B2 := ((((((B1.but (o := .tup []) n1).but (o := .tup [.str "a"]) n2).but (o := .tup [.str "ab"]) n3).but (o := .tup [.str "a", .str "b"]) n4).but (o := .tup [.str "b", .str "a"]) n5).but (o := .tup [.str "b", .str "a", .str "ab"]) n6).but (o := .lst [.ref p1, .ref p2, .ref p3, .ref p4, .ref p5, .ref p6]) n7
        have e7 : (upd (upd (upd (upd (upd (upd (upd H1 p1 (.tup [])) p2 (.tup [.str "a"])) p3 (.tup [.str "ab"])) p4 (.tup [.str "a", .str "b"])) p5 (.tup [.str "b", .str "a"])) p6 (.tup [.str "b", .str "a", .str "ab"])) p7 (.lst [.ref p1, .ref p2, .ref p3, .ref p4, .ref p5, .ref p6])) p7 = some (.lst [.ref p1, .ref p2, .ref p3, .ref p4, .ref p5, .ref p6]) := upd_same
        generalize upd (upd (upd (upd (upd (upd (upd H1 p1 (.tup [])) p2 (.tup [.str "a"])) p3 (.tup [.str "ab"])) p4 (.tup [.str "a", .str "b"])) p5 (.tup [.str "b", .str "a"])) p6 (.tup [.str "b", .str "a", .str "ab"])) p7 (.lst [.ref p1, .ref p2, .ref p3, .ref p4, .ref p5, .ref p6]) = H2 at t1 t2 t3 t4 t5 t6 sa B2 e7
        refine ⟨r, _, row, B2, by decide, fun d d0 d1 => ?_⟩
        have tk : TK H2 (upd H2 b (.lst [.ref r, .int (at' + 1 + 1)])) := TK.updL B2.1
        have e8 : (upd H2 b (.lst [.ref r, .int (at' + 1 + 1)])) p7 = some (.lst [.ref p1, .ref p2, .ref p3, .ref p4, .ref p5, .ref p6]) := by
          have n : p7 ≠ b := fun q => by
            subst q
            have := B2.1
            rw [e7] at this
            cases this
          rw [upd_ne n]
          exact e7
        have B3 := B2.next
        have b3 : But b H2 (upd H2 b (.lst [.ref r, .int (at' + 1 + 1)])) := But.upd
        generalize upd H2 b (.lst [.ref r, .int (at' + 1 + 1)]) = H3 at tk e8 B3 b3
        have fin : ∀ (q : Addr) (ks : List Str), H2 q = some (.tup (ks.map V.str)) → ks ∈ keyMenu → ∀ p, H3 p = none → Q (.ref p) (upd H3 p (.tup [.str "keys", .ref q])) := fun q ks hq hl p hp => by
          refine k _ _ _ (.keys ks hl) ⟨by show 2 ≤ 100000; decide, p, _, rfl, upd_same, .cons (DtH.sc (.str _)) (.cons ⟨by rw [List.length_map]; have := keyMenu_len hl; omega, q, _, rfl, same_upd hp _ _ (tk _ _ hq), ?_⟩ .nil)⟩ (b1.trans ((But.of sa).trans (b3.trans (But.of (same_upd hp))))) ⟨_, B3.but hp⟩
          exact paired_map fun x _ => DtH.sc (.str x)
        have cs : d = 0 ∨ d = 1 ∨ d = 2 ∨ d = 3 ∨ d = 4 ∨ d = 5 := by omega
        rcases cs with rfl | rfl | rfl | rfl | rfl | rfl
        · exact ⟨_, _, .inl (SqL.of e8), rfl, by show 2 ≤ sizeLine; decide, fin p1 [] t1 (by simp [keyMenu])⟩
        · exact ⟨_, _, .inl (SqL.of e8), rfl, by show 2 ≤ sizeLine; decide, fin p2 ["a"] t2 (by simp [keyMenu])⟩
        · exact ⟨_, _, .inl (SqL.of e8), rfl, by show 2 ≤ sizeLine; decide, fin p3 ["ab"] t3 (by simp [keyMenu])⟩
        · exact ⟨_, _, .inl (SqL.of e8), rfl, by show 2 ≤ sizeLine; decide, fin p4 ["a", "b"] t4 (by simp [keyMenu])⟩
        · exact ⟨_, _, .inl (SqL.of e8), rfl, by show 2 ≤ sizeLine; decide, fin p5 ["b", "a"] t5 (by simp [keyMenu])⟩
        · exact ⟨_, _, .inl (SqL.of e8), rfl, by show 2 ≤ sizeLine; decide, fin p6 ["b", "a", "ab"] t6 (by simp [keyMenu])⟩
      · -- ("error", [..][_law_draw(box, 6)])
        refine ⟨by show 6 ≤ sizeLine; decide, fun p1 n1 => ?_⟩
        have B2 := B1.but (o := .lst (errMenu.map V.str)) n1
        have q1 := same_upd (o := .lst (errMenu.map V.str)) n1
        have e1 : (upd H1 p1 (.lst (errMenu.map V.str))) p1 = some (.lst (errMenu.map V.str)) := upd_same
        have nb : p1 ≠ b := (ne_of_none B1.1 n1).symm
        refine ⟨r, _, row, B2, by decide, fun d d0 d1 => ?_⟩
        have e2 : (upd (upd H1 p1 (.lst (errMenu.map V.str))) b (.lst [.ref r, .int (at' + 1 + 1)])) p1 = some (.lst (errMenu.map V.str)) := by
          rw [upd_ne nb]
          exact e1
        have hd : d.toNat < errMenu.length := by
          have : errMenu.length = 6 := rfl
          omega
        refine ⟨_, .str errMenu[d.toNat], .inl (SqL.of e2), at_nat d0 (by rw [List.getElem?_map, List.getElem?_eq_getElem hd]; rfl), by show 2 ≤ sizeLine; decide, fun p hp => ?_⟩
        exact k _ _ _ (.err _ (List.getElem_mem hd)) ⟨by show 2 ≤ 100000; decide, p, _, rfl, upd_same, .cons (DtH.sc (.str _)) (.cons (DtH.sc (.str _)) .nil)⟩ (b1.trans ((But.of q1).trans (But.upd.trans (But.of (same_upd hp))))) ⟨_, B2.next.but hp⟩
/-! ### the program -/
abbrev s_equal : Stmt := topS 1
theorem sc_equal : FnScope ["one", "two"] ["one", "two"] (defScope s_equal) := ⟨rfl, rfl, rfl, by decide +kernel, rfl, by decide +kernel, by decide +kernel⟩
def sp_equal : Sp := fun vs H Q _ => match vs with
  | [a, b] => Gv a ∧ Gv b ∧ Q (.bl (eqv a b)) H
  | _ => False
theorem ok_equal {f : Addr} {fd : FuncData} (F : Fun K "equal" "equal" s_equal f fd) (G : Gs mg) : FnOk P w K mg base CX0 1 f fd ["one", "two"] sp_equal := by
  refine F.ok sc_equal (fun vs H Q E h => ?_) (fun cdv A outer s H vs Q E hr h => ?_)
  · unfold sp_equal at h
    split at h
    · rfl
    · exact h.elim
  · unfold sp_equal at h
    split at h
    case h_2 => exact h.elim
    case h_1 a b =>
      obtain ⟨ha, hb, k⟩ := h
      refine ⟨_, (pss_one (s_ret (c_and (c_cmp o_eq (c_isi (K := K) rfl kf_bool G.n_isinstance G.n_bool boot_bool (c_var 0)) (c_isi (K := K) rfl kf_bool G.n_isinstance G.n_bool boot_bool (c_var 1))) (c_one (c_cmp o_eq (c_var 0) (c_var 1)))))), ?_⟩
      cases ha <;> cases hb <;> first
        | exact Gen.no rfl k
        | exact Gen.yes rfl k
        | exact Gen.yes rfl (by refine Gen.sub ?_; exact k)
/-- the program's own promise -/
def sp_same (K : PySem.W.Frag) : Sp := fun vs H Q _ => match vs with
  | [x, y] => ∃ d e, DtH H 3 x d ∧ DtH H 3 y e ∧ IsRd d ∧ IsRd e ∧ ∀ H', Same H H' → Q (.bl (sameD d e)) H'
  | _ => False
/-- where a reading stands -/
inductive Rd (H : Hp) : V → Da → Prop where
  | val (a : Addr) (v : V) (g : Gv v) (h : H a = some (.tup [.str "value", v])) : Rd H (.ref a) (.tup [.v (.str "value"), .v v])
  | absent (a : Addr) (h : H a = some (.tup [.str "absent"])) : Rd H (.ref a) (.tup [.v (.str "absent")])
  | keys (a b : Addr) (ks : List Str) (m : ks ∈ keyMenu) (h : H a = some (.tup [.str "keys", .ref b])) (hb : H b = some (.tup (ks.map V.str))) : Rd H (.ref a) (.tup [.v (.str "keys"), .tup (ks.map fun k => .v (.str k))])
  | err (a : Addr) (m : Str) (i : m ∈ errMenu) (h : H a = some (.tup [.str "error", .str m])) : Rd H (.ref a) (.tup [.v (.str "error"), .v (.str m)])
theorem strs_of {H : Hp} {n : Nat} : ∀ {ks : List Str} {xs : List V}, Paired (DtH H (n + 1)) xs (ks.map fun k => Da.v (.str k)) → xs = ks.map V.str
  | [], _, .nil => rfl
  | _ :: _, _, .cons h t => by
    obtain ⟨rfl, _⟩ := h
    rw [strs_of t]
    rfl
theorem rd_of {H : Hp} {x : V} {d : Da} (h : DtH H 3 x d) (r : IsRd d) : Rd H x d := by
  cases r with
  | val v g =>
    obtain ⟨_, a, xs, rfl, e, p⟩ := h
    cases p with | cons h1 p =>
    cases p with | cons h2 p =>
    cases p
    obtain ⟨rfl, _⟩ := h1
    obtain ⟨rfl, _⟩ := h2
    exact .val a _ g e
  | absent =>
    obtain ⟨_, a, xs, rfl, e, p⟩ := h
    cases p with | cons h1 p =>
    cases p
    obtain ⟨rfl, _⟩ := h1
    exact .absent a e
  | keys ks m =>
    obtain ⟨_, a, xs, rfl, e, p⟩ := h
    cases p with | cons h1 p =>
    cases p with | cons h2 p =>
    cases p
    obtain ⟨rfl, _⟩ := h1
    obtain ⟨_, b, ys, rfl, e2, p2⟩ := h2
    exact .keys a b ks m e (strs_of p2 ▸ e2)
  | err m i =>
    obtain ⟨_, a, xs, rfl, e, p⟩ := h
    cases p with | cons h1 p =>
    cases p with | cons h2 p =>
    cases p
    obtain ⟨rfl, _⟩ := h1
    obtain ⟨rfl, _⟩ := h2
    exact .err a m i e
theorem dp_strs {K : PySem.W.Frag} {H : Hp} : ∀ ks : List Str, DpAll K H (ks.map V.str) (ks.map PyData.str)
  | [] => .nil
  | k :: ks => .cons (.str k) (dp_strs ks)
theorem eqv_strs : ∀ ks ls : List Str, PyData.eqvAll (ks.map PyData.str) (ls.map PyData.str) = sameL (ks.map fun k => Da.v (.str k)) (ls.map fun k => Da.v (.str k))
  | [], [] => rfl
  | [], _ :: _ => rfl
  | _ :: _, [] => rfl
  | k :: ks, l :: ls => by
    show (PyData.eqv (.str k) (.str l) && PyData.eqvAll (ks.map PyData.str) (ls.map PyData.str)) = (sameD (.v (.str k)) (.v (.str l)) && sameL _ _)
    rw [eqv_strs ks ls]
    have e : PyData.eqv (.str k) (.str l) = sameD (.v (.str k)) (.v (.str l)) := by
      show (k == l) = decide (k = l)
      by_cases h : k = l
      · subst h
        simp
      · simp [h]
    rw [e]
theorem eqv_str (k l : Str) : PyData.eqv (.str k) (.str l) = sameD (.v (.str k)) (.v (.str l)) := by
  show (k == l) = decide (k = l)
  by_cases h : k = l
  · subst h
    simp
  · simp [h]
theorem sh_keys : ∀ ks ∈ keyMenu, SeqAt.shaped (.tuple [.str "keys", .tuple (ks.map PyData.str)]) = true := by
  intro ks h
  simp only [keyMenu, List.mem_cons, List.not_mem_nil, or_false] at h
  rcases h with rfl | rfl | rfl | rfl | rfl | rfl <;> decide +kernel
theorem sh_err : ∀ m ∈ errMenu, SeqAt.shaped (.tuple [.str "error", .str m]) = true := by
  intro ks h
  simp only [errMenu, List.mem_cons, List.not_mem_nil, or_false] at h
  rcases h with rfl | rfl | rfl | rfl | rfl | rfl <;> decide +kernel
abbrev s_same : Stmt := topS 3
theorem sc_same : FnScope ["one", "two"] ["one", "two"] (defScope s_same) := ⟨rfl, rfl, rfl, by decide +kernel, rfl, by decide +kernel, by decide +kernel⟩
theorem ok_same {f : Addr} {fd : FuncData} (F : Fun K "same" "same" s_same f fd) (G : Gs mg) (C_equal : Has P w K mg base 1 "equal" ["one", "two"] sp_equal) : FnOk P w K mg base CX0 9 f fd ["one", "two"] (sp_same K) := by
  refine F.ok sc_same (fun vs H Q E h => ?_) (fun cdv A outer s H vs Q E hr h => ?_)
  · unfold sp_same at h
    split at h
    · rfl
    · exact h.elim
  · unfold sp_same at h
    split at h
    case h_2 => exact h.elim
    case h_1 x y =>
      obtain ⟨d, e, hd, he, rd, re, k⟩ := h
      refine ⟨_, (pss_cons (s_if (t_cmp o_ne (c_ix (K := K) rfl (c_var 0) pe_int) (c_ix (K := K) rfl (c_var 1) pe_int)) (pss_one (s_ret pe_bl)) pss_nil)
    (pss_cons (s_if (t_cmp o_eq (c_ix (K := K) rfl (c_var 0) pe_int) pe_str) (pss_one (s_ret (c_call C_equal (hr.mono (by omega)) (pa_cons (c_ix (K := K) rfl (c_var 0) pe_int) (pa_cons (c_ix (K := K) rfl (c_var 1) pe_int) pa_nil))))) pss_nil)
    (pss_one (s_ret (c_cmp (o_eqD (K := K) rfl hr.units) (c_var 0) (c_var 1)))))), ?_⟩
      have k0 := k H (Same.refl H)
      clear k
      have gd := rd_of hd rd
      have ge := rd_of he re
      clear hd he rd re
      have T : ∀ {a : Addr} {xs : List V}, H a = some (.tup xs) → SqT K H a xs := fun h => SqT.of h
      cases gd with
      | val a v g h =>
        cases ge with
        | val b u g' h' => exact ⟨_, _, .inr (T h), rfl, _, _, .inr (T h'), rfl, Gen.yes rfl ⟨_, _, .inr (T h), rfl, Gen.yes rfl ⟨_, _, .inr (T h), rfl, _, _, .inr (T h'), rfl, g, g', by simpa [sameD, sameL, eqv] using k0⟩⟩⟩
        | absent b h' => exact ⟨_, _, .inr (T h), rfl, _, _, .inr (T h'), rfl, Gen.no rfl k0⟩
        | keys b c ks m h' hb => exact ⟨_, _, .inr (T h), rfl, _, _, .inr (T h'), rfl, Gen.no rfl k0⟩
        | err b m i h' => exact ⟨_, _, .inr (T h), rfl, _, _, .inr (T h'), rfl, Gen.no rfl k0⟩
      | absent a h =>
        cases ge with
        | val b u g' h' => exact ⟨_, _, .inr (T h), rfl, _, _, .inr (T h'), rfl, Gen.no rfl k0⟩
        | absent b h' =>
          refine ⟨_, _, .inr (T h), rfl, _, _, .inr (T h'), rfl, Gen.yes rfl ⟨_, _, .inr (T h), rfl, Gen.no rfl ?_⟩⟩
          exact ⟨.tuple [.str "absent"], .tuple [.str "absent"], .tup (T h) (.cons (.str _) .nil), .tup (T h') (.cons (.str _) .nil), by decide +kernel, by decide +kernel, Gen.yes (by decide +kernel) k0⟩
        | keys b c ks m h' hb => exact ⟨_, _, .inr (T h), rfl, _, _, .inr (T h'), rfl, Gen.no rfl k0⟩
        | err b m i h' => exact ⟨_, _, .inr (T h), rfl, _, _, .inr (T h'), rfl, Gen.no rfl k0⟩
      | keys a c ks m h hc =>
        cases ge with
        | val b u g' h' => exact ⟨_, _, .inr (T h), rfl, _, _, .inr (T h'), rfl, Gen.no rfl k0⟩
        | absent b h' => exact ⟨_, _, .inr (T h), rfl, _, _, .inr (T h'), rfl, Gen.no rfl k0⟩
        | keys b c' ls m' h' hc' =>
          refine ⟨_, _, .inr (T h), rfl, _, _, .inr (T h'), rfl, Gen.yes rfl ⟨_, _, .inr (T h), rfl, Gen.no rfl ?_⟩⟩
          refine ⟨.tuple [.str "keys", .tuple (ks.map PyData.str)], .tuple [.str "keys", .tuple (ls.map PyData.str)], .tup (T h) (.cons (.str _) (.cons (.tup (T hc) (dp_strs ks)) .nil)), .tup (T h') (.cons (.str _) (.cons (.tup (T hc') (dp_strs ls)) .nil)), sh_keys ks m, sh_keys ls m', Gen.sub ?_⟩
          have e1 : PyData.eqv (.tuple [.str "keys", .tuple (ks.map PyData.str)]) (.tuple [.str "keys", .tuple (ls.map PyData.str)]) = sameD (.tup [.v (.str "keys"), .tup (ks.map fun k => .v (.str k))]) (.tup [.v (.str "keys"), .tup (ls.map fun k => .v (.str k))]) := by
            simp only [PyData.eqv, PyData.eqvAll, sameD, sameL, eqv_strs]
            simp [eqv]
          rw [e1]
          exact k0
        | err b m i h' => exact ⟨_, _, .inr (T h), rfl, _, _, .inr (T h'), rfl, Gen.no rfl k0⟩
      | err a n j h =>
        cases ge with
        | val b u g' h' => exact ⟨_, _, .inr (T h), rfl, _, _, .inr (T h'), rfl, Gen.no rfl k0⟩
        | absent b h' => exact ⟨_, _, .inr (T h), rfl, _, _, .inr (T h'), rfl, Gen.no rfl k0⟩
        | keys b c ks m h' hb => exact ⟨_, _, .inr (T h), rfl, _, _, .inr (T h'), rfl, Gen.no rfl k0⟩
        | err b m i h' =>
          refine ⟨_, _, .inr (T h), rfl, _, _, .inr (T h'), rfl, Gen.yes rfl ⟨_, _, .inr (T h), rfl, Gen.no rfl ?_⟩⟩
          refine ⟨.tuple [.str "error", .str n], .tuple [.str "error", .str m], .tup (T h) (.cons (.str _) (.cons (.str _) .nil)), .tup (T h') (.cons (.str _) (.cons (.str _) .nil)), sh_err n j, sh_err m i, Gen.sub ?_⟩
          have e1 : PyData.eqv (.tuple [.str "error", .str n]) (.tuple [.str "error", .str m]) = sameD (.tup [.v (.str "error"), .v (.str n)]) (.tup [.v (.str "error"), .v (.str m)]) := by
            simp only [PyData.eqv, PyData.eqvAll, sameD, sameL, eqv]
            by_cases e : n = m
            · subst e
              simp
            · simp [e]
          rw [e1]
          exact k0
/-! ### law -/
abbrev s_law : Stmt := topS 16
theorem sc_law : FnScope ["script", "box", "readings", "k", "one", "two", "told"] ["script"] (defScope s_law) := ⟨rfl, rfl, rfl, by decide +kernel, rfl, by decide +kernel, by decide +kernel⟩
def sp_law (K : PySem.W.Frag) : Sp := fun vs H Q _ => match vs with
  | [.ref a] => ∃ ns : List Int, SqL K H a (ns.map V.int) ∧ ∀ H', Q (.bl true) H'
  | _ => False
theorem ok_law {f : Addr} {fd : FuncData} (F : Fun K "law" "law" s_law f fd) (G : Gs mg) (C__law_row : Has P w K mg base 2 "_law_row" ["script", "first", "last"] (sp__law_row K)) (C__law_drawn : Has P w K mg base 3 "_law_drawn" ["box"] (sp__law_drawn K)) (C_same : Has P w K mg base 9 "same" ["one", "two"] (sp_same K)) (C__law_same : Has P w K mg base 5 "_law_same" ["told", "due"] (sp__law_same K 3)) : FnOk P w K mg base CX0 10 f fd ["script"] (sp_law K) := by
  refine F.ok sc_law (fun vs H Q E h => ?_) (fun cdv A outer s H vs Q E hr h => ?_)
  · unfold sp_law at h
    split at h
    · rfl
    · exact h.elim
  · unfold sp_law at h
    split at h
    case h_2 => exact h.elim
    case h_1 a =>
      obtain ⟨ns, hs, k⟩ := h
      refine ⟨_, (pss_cons (s_set 1 sc_law.nd (c_lst (pa_cons (c_call C__law_row (hr.mono (by omega)) (pa_cons (c_var 0) (pa_cons pe_int (pa_cons pe_int pa_nil)))) (pa_cons pe_int pa_nil))))
    (pss_cons (s_lcR 2 (pa_cons pe_int pa_nil) G.n_range sc_law.nd rfl (by show blkC ["script", "box", "readings", "k", "one", "two", "told"] (defScope s_law) _ [("k", 3)] = true; decide +kernel) (fun _ _ _ _ _ => pg_name (i := 3) sc_law.nd rfl (Or.inl rfl)) (fun _ _ _ _ _ => pts_nil) (fun _ _ _ _ _ => (c_call C__law_drawn (hr.mono (by omega)) (pa_cons (c_var 1) pa_nil))) (sw_true rfl rfl rfl (by decide +kernel)))
    (pss_cons (s_forL (K := K) rfl 4 (c_var 2) sc_law.nd (pss_one (s_forL (K := K) rfl 5 (c_var 2) sc_law.nd (pss_cons (s_set 6 sc_law.nd (c_call C_same (hr.mono (by omega)) (pa_cons (c_var 4) (pa_cons (c_var 5) pa_nil))))
    (pss_one (s_if (PW.pt (w_or (t_not (t_tru (K := K) rfl (c_isi (K := K) rfl kf_bool G.n_isinstance G.n_bool boot_bool (c_var 6)))) (w_or1 (t_cmp o_ne (c_var 6) (c_call C__law_same (hr.mono (by omega)) (pa_cons (c_var 4) (pa_cons (c_var 5) pa_nil))))))) (pss_one (s_ret pe_bl)) pss_nil))))))
    (pss_one (s_ret pe_bl))))), ?_⟩
      -- box = [_law_row(script, 0, 4), 0]
      refine ⟨ns, hs, by decide, by decide, ⟨by decide, by decide⟩, fun r row H1 s1 nr er => ?_⟩
      refine ⟨by show 2 ≤ sizeLine; decide, fun b nb => ?_⟩
      have nrb : r ≠ b := ne_of_none er nb
      have B2 : BoxR (upd H1 b (.lst [.ref r, .int 0])) b r row := ⟨0, upd_same, by rw [upd_ne nrb]; exact er, by decide, nrb⟩
      generalize upd H1 b (.lst [.ref r, .int 0]) = H2 at B2
      -- the twelve readings
      refine ⟨⟨by decide, by decide⟩, fun D nD => ?_⟩
      obtain ⟨a2, B2⟩ := B2
      have nDb : D ≠ b := (ne_of_none B2.1 nD).symm
      have nDr : r ≠ D := ne_of_none B2.2.1 nD
      refine ⟨fun i H' => ∃ (vals : List V) (ds : List Da), BoxR H' b r row ∧ H' D = some (.lst vals) ∧ vals.length = i ∧ Paired (fun x d => DtH H' 3 x d ∧ IsRd d) vals ds, ⟨[], [], ⟨a2, B2.but nD⟩, upd_same, rfl, .nil⟩, fun i H3 hi p => ?_, fun H3 p => ?_⟩
      · obtain ⟨vals, ds, ⟨a3, B3⟩, e3, l3, p3⟩ := p
        have hi8 : i < 12 := hi
        refine ⟨r, row, ⟨a3, B3⟩, fun x d H4 rd dx b4 ⟨a4, B4⟩ => ?_⟩
        have e4 : H4 D = some (.lst vals) := b4 D _ nDb e3
        have tk : TK H4 (upd H4 D (.lst (vals ++ [x]))) := TK.updL e4
        refine ⟨vals, e4, small1000 (by omega), vals ++ [x], ds ++ [d], ⟨a4, ?_⟩, upd_same, by rw [List.length_append, l3]; rfl, paired_snoc (paired_mono (fun _ _ h => ⟨h.1.keep ((TK.but B3.1 b4).trans tk), h.2⟩) p3) ⟨dx.keep tk, rd⟩⟩
        exact ⟨by rw [upd_ne nDb.symm]; exact B4.1, by rw [upd_ne nDr]; exact B4.2.1, B4.2.2.1, B4.2.2.2⟩
      · obtain ⟨vals, ds, _, e3, l3, p3⟩ := p
        -- for one in readings: for two in readings
        refine ⟨vals, SqL.of e3, fun i σ H' => ∃ y3 y4 y5 y6, σ = [some (.ref a), some (.ref b), some (.ref D), y3, y4, y5, y6] ∧ Same H3 H', ⟨_, _, _, _, rfl, Same.refl _⟩, fun i σ H' _ p => ?_, fun i x σ H' hx p => ?_, fun σ H' p => ?_⟩
        · obtain ⟨_, _, _, _, _, s⟩ := p
          exact s.seq (SqL.of e3)
        · obtain ⟨y3, y4, y5, y6, rfl, s⟩ := p
          obtain ⟨d, _, dx, rd⟩ := pget p3 hx
          refine ⟨vals, s.seq (SqL.of e3), fun i σ H' => ∃ y3 y5 y6, σ = [some (.ref a), some (.ref b), some (.ref D), y3, some x, y5, y6] ∧ Same H3 H', ⟨_, _, _, rfl, s⟩, fun i σ H' _ p => ?_, fun i y σ H' hy p => ?_, fun σ H' p => ?_⟩
          · obtain ⟨_, _, _, _, s⟩ := p
            exact s.seq (SqL.of e3)
          · obtain ⟨z3, z5, z6, rfl, s⟩ := p
            obtain ⟨e, _, dy, re⟩ := pget p3 hy
            refine ⟨d, e, dx.keep (TK.of s), dy.keep (TK.of s), rd, re, fun H5 s5 => ?_⟩
            have s6 := s.trans s5
            refine ⟨d, e, (dx.keep (TK.of s6)).at, (dy.keep (TK.of s6)).at, Gen.yes (decide_eq_true rfl) ?_⟩
            exact ⟨_, _, _, rfl, s6⟩
          · obtain ⟨z3, z5, z6, rfl, s⟩ := p
            exact ⟨_, _, _, _, rfl, s⟩
        · exact k H'
end
/-! ### what the top has written, the head -/
theorem all_mk {l : PySem.W.OpenLaw} {w : World} {K : PySem.W.Frag} {h : Heap} {mg : Str → Option Value} {fa f0 f1 f2 f3 f4 f5 f6 f7 f8 f9 f10 : Addr} (X : K.In h) (G : h.Ns mainGlobals mg) (hfa : mg "law" = some (.ref fa))
    {od0 an0 od1 an1 od2 an2 od3 an3 od4 an4 od5 an5 od6 an6 od7 an7 od8 an8 od9 an9 od10 an10 : Option Addr} {sl0 sl1 sl2 sl3 sl4 sl5 sl6 sl7 sl8 sl9 sl10 : Array (Option Value)} {oc0 kV0 dc0 pm0 cd0 ct0 oc1 kV1 dc1 pm1 cd1 ct1 oc2 kV2 dc2 pm2 cd2 ct2 oc3 kV3 dc3 pm3 cd3 ct3 oc4 kV4 dc4 pm4 cd4 ct4 oc5 kV5 dc5 pm5 cd5 ct5 oc6 kV6 dc6 pm6 cd6 ct6 oc7 kV7 dc7 pm7 cd7 ct7 oc8 kV8 dc8 pm8 cd8 ct8 oc9 kV9 dc9 pm9 cd9 ct9 oc10 kV10 dc10 pm10 cd10 ct10 : Value}
    (a0 : PySem.W.nsIn K mainGlobals "_law_cell" = some (some (.ref f0))) (l0 : K.lookup f0 = some ⟨oc0, od0, .func (PySem.W.fnOf "_law_cell" "_law_cell" (defArgs s__law_cell) (defBody s__law_cell) (defScope s__law_cell) .none kV0 dc0 pm0 an0 cd0 ct0), sl0⟩) (c0 : PySem.W.codeIn K cd0 "_law_cell" = true) (k0 : PySem.W.keepIn K (.ref f0) = true)
    (a1 : PySem.W.nsIn K mainGlobals "_law_row" = some (some (.ref f1))) (l1 : K.lookup f1 = some ⟨oc1, od1, .func (PySem.W.fnOf "_law_row" "_law_row" (defArgs s__law_row) (defBody s__law_row) (defScope s__law_row) .none kV1 dc1 pm1 an1 cd1 ct1), sl1⟩) (c1 : PySem.W.codeIn K cd1 "_law_row" = true) (k1 : PySem.W.keepIn K (.ref f1) = true)
    (a2 : PySem.W.nsIn K mainGlobals "_law_draw" = some (some (.ref f2))) (l2 : K.lookup f2 = some ⟨oc2, od2, .func (PySem.W.fnOf "_law_draw" "_law_draw" (defArgs s__law_draw) (defBody s__law_draw) (defScope s__law_draw) .none kV2 dc2 pm2 an2 cd2 ct2), sl2⟩) (c2 : PySem.W.codeIn K cd2 "_law_draw" = true) (k2 : PySem.W.keepIn K (.ref f2) = true)
    (a3 : PySem.W.nsIn K mainGlobals "_law_value" = some (some (.ref f3))) (l3 : K.lookup f3 = some ⟨oc3, od3, .func (PySem.W.fnOf "_law_value" "_law_value" (defArgs s__law_value) (defBody s__law_value) (defScope s__law_value) .none kV3 dc3 pm3 an3 cd3 ct3), sl3⟩) (c3 : PySem.W.codeIn K cd3 "_law_value" = true) (k3 : PySem.W.keepIn K (.ref f3) = true)
    (a4 : PySem.W.nsIn K mainGlobals "_law_is_bool" = some (some (.ref f4))) (l4 : K.lookup f4 = some ⟨oc4, od4, .func (PySem.W.fnOf "_law_is_bool" "_law_is_bool" (defArgs s__law_is_bool) (defBody s__law_is_bool) (defScope s__law_is_bool) .none kV4 dc4 pm4 an4 cd4 ct4), sl4⟩) (c4 : PySem.W.codeIn K cd4 "_law_is_bool" = true) (k4 : PySem.W.keepIn K (.ref f4) = true)
    (a5 : PySem.W.nsIn K mainGlobals "_law_equal" = some (some (.ref f5))) (l5 : K.lookup f5 = some ⟨oc5, od5, .func (PySem.W.fnOf "_law_equal" "_law_equal" (defArgs s__law_equal) (defBody s__law_equal) (defScope s__law_equal) .none kV5 dc5 pm5 an5 cd5 ct5), sl5⟩) (c5 : PySem.W.codeIn K cd5 "_law_equal" = true) (k5 : PySem.W.keepIn K (.ref f5) = true)
    (a6 : PySem.W.nsIn K mainGlobals "_law_same" = some (some (.ref f6))) (l6 : K.lookup f6 = some ⟨oc6, od6, .func (PySem.W.fnOf "_law_same" "_law_same" (defArgs s__law_same) (defBody s__law_same) (defScope s__law_same) .none kV6 dc6 pm6 an6 cd6 ct6), sl6⟩) (c6 : PySem.W.codeIn K cd6 "_law_same" = true) (k6 : PySem.W.keepIn K (.ref f6) = true)
    (a7 : PySem.W.nsIn K mainGlobals "_law_drawn" = some (some (.ref f7))) (l7 : K.lookup f7 = some ⟨oc7, od7, .func (PySem.W.fnOf "_law_drawn" "_law_drawn" (defArgs s__law_drawn) (defBody s__law_drawn) (defScope s__law_drawn) .none kV7 dc7 pm7 an7 cd7 ct7), sl7⟩) (c7 : PySem.W.codeIn K cd7 "_law_drawn" = true) (k7 : PySem.W.keepIn K (.ref f7) = true)
    (a8 : PySem.W.nsIn K mainGlobals "equal" = some (some (.ref f8))) (l8 : K.lookup f8 = some ⟨oc8, od8, .func (PySem.W.fnOf "equal" "equal" (defArgs s_equal) (defBody s_equal) (defScope s_equal) .none kV8 dc8 pm8 an8 cd8 ct8), sl8⟩) (c8 : PySem.W.codeIn K cd8 "equal" = true) (k8 : PySem.W.keepIn K (.ref f8) = true)
    (a9 : PySem.W.nsIn K mainGlobals "same" = some (some (.ref f9))) (l9 : K.lookup f9 = some ⟨oc9, od9, .func (PySem.W.fnOf "same" "same" (defArgs s_same) (defBody s_same) (defScope s_same) .none kV9 dc9 pm9 an9 cd9 ct9), sl9⟩) (c9 : PySem.W.codeIn K cd9 "same" = true) (k9 : PySem.W.keepIn K (.ref f9) = true)
    (a10 : PySem.W.nsIn K mainGlobals "law" = some (some (.ref f10))) (l10 : K.lookup f10 = some ⟨oc10, od10, .func (PySem.W.fnOf "law" "law" (defArgs s_law) (defBody s_law) (defScope s_law) .none kV10 dc10 pm10 an10 cd10 ct10), sl10⟩) (c10 : PySem.W.codeIn K cd10 "law" = true) (k10 : PySem.W.keepIn K (.ref f10) = true)
    (z_len : PySem.W.nsIn K mainGlobals "len" = some none) (z_abs : PySem.W.nsIn K mainGlobals "abs" = some none) (z_isinstance : PySem.W.nsIn K mainGlobals "isinstance" = some none) (z_int : PySem.W.nsIn K mainGlobals "int" = some none) (z_str : PySem.W.nsIn K mainGlobals "str" = some none) (z_bool : PySem.W.nsIn K mainGlobals "bool" = some none) (z_type : PySem.W.nsIn K mainGlobals "type" = some none) (z_range : PySem.W.nsIn K mainGlobals "range" = some none) (z_list : PySem.W.nsIn K mainGlobals "list" = some none) (z_tuple : PySem.W.nsIn K mainGlobals "tuple" = some none) :
    ∃ fd : FuncData, (∀ (s : Shared) (v : Value), BindsTo s fd ⟨[v], []⟩ [("script", v)]) ∧ ∀ base : Heap, K.In base → base.Ns mainGlobals mg → FnOk l.prog w K mg base CX0 10 fa fd ["script"] (sp_law K) := by
  have e := hfa.symm.trans (PySem.W.mg_of X G a10)
  cases e
  have GG : Gs mg  := ⟨PySem.W.mg_none_of X G z_len, PySem.W.mg_none_of X G z_abs, PySem.W.mg_none_of X G z_isinstance, PySem.W.mg_none_of X G z_int, PySem.W.mg_none_of X G z_str, PySem.W.mg_none_of X G z_bool, PySem.W.mg_none_of X G z_type, PySem.W.mg_none_of X G z_range, PySem.W.mg_none_of X G z_list, PySem.W.mg_none_of X G z_tuple⟩
  have F0 := fun_mk (st := s__law_cell) l0 c0 k0
  have b0 := F0.binds (ps := ["script", "k"]) fun _ _ _ _ _ _ us hl => match us, hl with | [_, _], _ => rfl
  have F1 := fun_mk (st := s__law_row) l1 c1 k1
  have b1 := F1.binds (ps := ["script", "first", "last"]) fun _ _ _ _ _ _ us hl => match us, hl with | [_, _, _], _ => rfl
  have F2 := fun_mk (st := s__law_draw) l2 c2 k2
  have b2 := F2.binds (ps := ["box", "many"]) fun _ _ _ _ _ _ us hl => match us, hl with | [_, _], _ => rfl
  have F3 := fun_mk (st := s__law_value) l3 c3 k3
  have b3 := F3.binds (ps := ["box"]) fun _ _ _ _ _ _ us hl => match us, hl with | [_], _ => rfl
  have F4 := fun_mk (st := s__law_is_bool) l4 c4 k4
  have b4 := F4.binds (ps := ["v"]) fun _ _ _ _ _ _ us hl => match us, hl with | [_], _ => rfl
  have F5 := fun_mk (st := s__law_equal) l5 c5 k5
  have b5 := F5.binds (ps := ["a", "b"]) fun _ _ _ _ _ _ us hl => match us, hl with | [_, _], _ => rfl
  have F6 := fun_mk (st := s__law_same) l6 c6 k6
  have b6 := F6.binds (ps := ["told", "due"]) fun _ _ _ _ _ _ us hl => match us, hl with | [_, _], _ => rfl
  have F7 := fun_mk (st := s__law_drawn) l7 c7 k7
  have b7 := F7.binds (ps := ["box"]) fun _ _ _ _ _ _ us hl => match us, hl with | [_], _ => rfl
  have F8 := fun_mk (st := s_equal) l8 c8 k8
  have b8 := F8.binds (ps := ["one", "two"]) fun _ _ _ _ _ _ us hl => match us, hl with | [_, _], _ => rfl
  have F9 := fun_mk (st := s_same) l9 c9 k9
  have b9 := F9.binds (ps := ["one", "two"]) fun _ _ _ _ _ _ us hl => match us, hl with | [_, _], _ => rfl
  have F10 := fun_mk (st := s_law) l10 c10 k10
  refine ⟨PySem.W.fnOf "law" "law" (defArgs s_law) (defBody s_law) (defScope s_law) .none kV10 dc10 pm10 an10 cd10 ct10, fun s v => .of_eq rfl, fun base _ _ => ?_⟩
  have H0 : Has l.prog w K mg base 1 "_law_cell" ["script", "k"] _ := ⟨f0, _, ok__law_cell F0 GG , PySem.W.mg_of X G a0, k0, b0⟩
  have H1 : Has l.prog w K mg base 2 "_law_row" ["script", "first", "last"] _ := ⟨f1, _, ok__law_row F1 GG H0, PySem.W.mg_of X G a1, k1, b1⟩
  have H2 : Has l.prog w K mg base 1 "_law_draw" ["box", "many"] _ := ⟨f2, _, ok__law_draw F2 GG , PySem.W.mg_of X G a2, k2, b2⟩
  have H3 : Has l.prog w K mg base 2 "_law_value" ["box"] _ := ⟨f3, _, ok__law_value F3 GG H2, PySem.W.mg_of X G a3, k3, b3⟩
  have H4 : Has l.prog w K mg base 1 "_law_is_bool" ["v"] _ := ⟨f4, _, ok__law_is_bool F4 GG , PySem.W.mg_of X G a4, k4, b4⟩
  have H5 : Has l.prog w K mg base 2 "_law_equal" ["a", "b"] _ := ⟨f5, _, ok__law_equal F5 GG H4, PySem.W.mg_of X G a5, k5, b5⟩
  have H6 : Has l.prog w K mg base 5 "_law_same" ["told", "due"] _ := ⟨f6, _, ok__law_same F6 GG (PySem.W.mg_of X G a6) b6 H5 3, PySem.W.mg_of X G a6, k6, b6⟩
  have H7 : Has l.prog w K mg base 3 "_law_drawn" ["box"] _ := ⟨f7, _, ok__law_drawn F7 GG H2 H3, PySem.W.mg_of X G a7, k7, b7⟩
  have H8 : Has l.prog w K mg base 1 "equal" ["one", "two"] _ := ⟨f8, _, ok_equal F8 GG , PySem.W.mg_of X G a8, k8, b8⟩
  have H9 : Has l.prog w K mg base 9 "same" ["one", "two"] _ := ⟨f9, _, ok_same F9 GG H8, PySem.W.mg_of X G a9, k9, b9⟩
  exact ok_law F10 GG H1 H7 H9 H6
end K2

open PySem PySem.W PyProof.Rows in
set_option maxRecDepth 100000 in
set_option maxHeartbeats 0 in
theorem PySem.Challenge.cw_ripplewell_k02_equal_readings_holds : PySem.Challenge.rw_ripplewell_k02_equal_readings.Holds := by
  w_on; o_law; k_head; (case hw => w_witness2)
  k_fill
  refine L2.walk_of (l := PySem.Challenge.rw_ripplewell_k02_equal_readings) (n := 63) (k := 10) (x := "script") (CX := fun _ => L2.CX0) (sp := fun w => K2.sp_law _) rfl (by decide) rfl ⟨rfl, by decide, by decide⟩ (fun w h Y => PySem.W.kIn_of Y) ?F (fun _ _ a ns hl _ hS => ⟨ns, hS, fun _ => rfl⟩) (fun _ _ _ _ _ h => h)
  case F =>
    intro w mg fa h KX G hmg
    refine' K2.all_mk KX G hmg ?a0 ?l0 ?c0 ?k0 ?a1 ?l1 ?c1 ?k1 ?a2 ?l2 ?c2 ?k2 ?a3 ?l3 ?c3 ?k3 ?a4 ?l4 ?c4 ?k4 ?a5 ?l5 ?c5 ?k5 ?a6 ?l6 ?c6 ?k6 ?a7 ?l7 ?c7 ?k7 ?a8 ?l8 ?c8 ?k8 ?a9 ?l9 ?c9 ?k9 ?a10 ?l10 ?c10 ?k10 ?z_len ?z_abs ?z_isinstance ?z_int ?z_str ?z_bool ?z_type ?z_range ?z_list ?z_tuple
    (case a0 => k_is)
    (case l0 => k_is)
    (case c0 => k_is)
    (case k0 => k_is)
    (case a1 => k_is)
    (case l1 => k_is)
    (case c1 => k_is)
    (case k1 => k_is)
    (case a2 => k_is)
    (case l2 => k_is)
    (case c2 => k_is)
    (case k2 => k_is)
    (case a3 => k_is)
    (case l3 => k_is)
    (case c3 => k_is)
    (case k3 => k_is)
    (case a4 => k_is)
    (case l4 => k_is)
    (case c4 => k_is)
    (case k4 => k_is)
    (case a5 => k_is)
    (case l5 => k_is)
    (case c5 => k_is)
    (case k5 => k_is)
    (case a6 => k_is)
    (case l6 => k_is)
    (case c6 => k_is)
    (case k6 => k_is)
    (case a7 => k_is)
    (case l7 => k_is)
    (case c7 => k_is)
    (case k7 => k_is)
    (case a8 => k_is)
    (case l8 => k_is)
    (case c8 => k_is)
    (case k8 => k_is)
    (case a9 => k_is)
    (case l9 => k_is)
    (case c9 => k_is)
    (case k9 => k_is)
    (case a10 => k_is)
    (case l10 => k_is)
    (case c10 => k_is)
    (case k10 => k_is)
    (case z_len => k_is)
    (case z_abs => k_is)
    (case z_isinstance => k_is)
    (case z_int => k_is)
    (case z_str => k_is)
    (case z_bool => k_is)
    (case z_type => k_is)
    (case z_range => k_is)
    (case z_list => k_is)
    (case z_tuple => k_is)
