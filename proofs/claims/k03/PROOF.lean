import PyProof.Rows.All
import Wide.All
import OpenK.AllK
import Wide.FinOn
import HandS.More
import PyProof.TypeEq
import PyProof.StrBlock2
import HandS.ForMost
import HandS.IsInst
import HandS.Flow
import HandS.RaiseMore
import HandS.Walk
import HandS.SetKeys
import HandS.Zip
import HandS.TupAny
import HandS.Conv
import HandS.Style
import HandS.WrittenGet
import HandS.HeadHook3
import PySem.Challenge.RW_ripplewell_k03_programs
set_option Elab.async false
set_option linter.all false
set_option maxRecDepth 100000
set_option maxHeartbeats 4000000
namespace PySem.TypeNe
open PySem Builtin PySem.TypeEq
theorem slot_type_ne : Slot "type" (cmpInfo .NotEq).2.1 "object.__ne__" :=
  .of (owner := "object") (n := "__ne__") (by rw [typeLookup_type, builtinLookup_eq_fast]; kernel_rfl) (by decide +kernel) (by decide +kernel) (by decide +kernel)
    (by first | exact .inl (by decide +kernel) | exact .inr (by decide +kernel)) (by rw [isSubtype_type]; kernel_rfl)
theorem slot_type_ne_refl : Slot "type" (cmpInfo .NotEq).2.2 "object.__ne__" :=
  .of (owner := "object") (n := "__ne__") (by rw [typeLookup_type, builtinLookup_eq_fast]; kernel_rfl) (by decide +kernel) (by decide +kernel) (by decide +kernel)
    (by first | exact .inl (by decide +kernel) | exact .inr (by decide +kernel)) (by rw [isSubtype_type]; kernel_rfl)
section
variable {prog : Program} {w : World} {A : Around} {E : Value → Shared → Prop} {s : Shared}
theorem call_eq_same {X : String} (hX : ∀ s' : Shared, s'.TypeIs (.type X) "type") {Q : Option Value → Shared → Prop} (h : Q (some (.bool true)) s) : wpAny (model prog w) A (callSpecialIfBound? (.type X) (Str.ofString "__eq__") [.type X]) Q E s :=
  wpAny_callSpecialIfBound?_slot (name := Str.ofString "__eq__") (hX s) slot_type_eq (call_gives slot_type_eq (hX s) F.entry_object_eq (F.args_object_eq_2 _ _) (object_eq_same rfl (by simp)) h)
theorem call_eq_other {X Y : String} (hX : ∀ s' : Shared, s'.TypeIs (.type X) "type") (hne : (Value.type X == Value.type Y) = false) {Q : Option Value → Shared → Prop} (h : Q (some .notImplemented) s) : wpAny (model prog w) A (callSpecialIfBound? (.type X) (Str.ofString "__eq__") [.type Y]) Q E s :=
  wpAny_callSpecialIfBound?_slot (name := Str.ofString "__eq__") (hX s) slot_type_eq (call_gives slot_type_eq (hX s) F.entry_object_eq (F.args_object_eq_2 _ _) (object_eq_other rfl hne) h)
theorem call_ne_same {X : String} (hX : ∀ s' : Shared, s'.TypeIs (.type X) "type") {Q : Value → Shared → Prop} (h : Q (.bool false) s) : wpAny (model prog w) A (call (.builtin "object.__ne__") [.type X, .type X]) Q E s := by
  refine wpAny_call_entry slot_type_ne (hX s) F.entry_object_ne ?_ (F.args_object_ne_2 _ _)
  unfold Builtin.«object.__ne__»
  repeat (first
    | with_reducible refine wpAny_cRoomFor_or (.inl rfl) ?_
    | with_reducible refine call_eq_same hX ?_
    | wp_step)
  exact ⟨_, rfl, h⟩
theorem call_ne_other {X Y : String} (hX : ∀ s' : Shared, s'.TypeIs (.type X) "type") (hne : (Value.type X == Value.type Y) = false) {Q : Value → Shared → Prop} (h : Q .notImplemented s) : wpAny (model prog w) A (call (.builtin "object.__ne__") [.type X, .type Y]) Q E s := by
  refine wpAny_call_entry slot_type_ne (hX s) F.entry_object_ne ?_ (F.args_object_ne_2 _ _)
  unfold Builtin.«object.__ne__»
  repeat (first
    | with_reducible refine wpAny_cRoomFor_or (.inl rfl) ?_
    | with_reducible refine call_eq_other hX hne ?_
    | wp_step)
  exact ⟨_, rfl, h⟩
theorem ne_type_same {X : String} {Q : Value → Shared → Prop} (hX : ∀ s' : Shared, s'.TypeIs (.type X) "type") (h : Q (.bool false) s) : wpAny (model prog w) A (compareOp .NotEq (.type X) (.type X)) Q E s := by
  show wpAny _ A (richCompare .NotEq _ _) Q E s
  exact wpAny_richCompare_same (T := "type") (hX s) (hX s) slot_type_ne (call_ne_same hX ⟨(by intro e; cases e), h⟩)
theorem ne_type_other {X Y : String} {Q : Value → Shared → Prop} (hX : ∀ s' : Shared, s'.TypeIs (.type X) "type") (hY : ∀ s' : Shared, s'.TypeIs (.type Y) "type") (hne : (Value.type X == Value.type Y) = false) (h : Q (.bool true) s) : wpAny (model prog w) A (compareOp .NotEq (.type X) (.type Y)) Q E s := by
  have hne' : (Value.type Y == Value.type X) = false := by
    rw [Bool.eq_false_iff] at hne ⊢
    intro e
    exact hne (by rw [beq_iff_eq] at e ⊢; exact e.symm)
  show wpAny _ A (richCompare .NotEq _ _) Q E s
  have h1 := slot_type_ne
  have h2 := slot_type_ne_refl
  rcases hi : cmpInfo CmpOp.NotEq with ⟨sym, f, r⟩
  rw [hi] at h1 h2
  simp only [richCompare, hi, (hX s).oneThing_none]
  try with_reducible refine wpAny_holding ?_
  refine wpAny_bind (wpAny_cRoomFor_or (.inl rfl) ?_)
  refine wpAny_bind (wpAny_typeOf (hX s) (wpAny_bind (wpAny_typeOf (hY s) ?_)))
  simp only [bne_self_eq_false, Bool.false_eq_true, if_false, pure_bind, Bool.not_false, if_true]
  refine wpAny_bind (m := tryCompare (.type X) _ (.type Y)) (wpAny_tryCompare_declines (hX s) h1 (call_ne_other hX hne ⟨rfl, ?_⟩))
  refine wpAny_bind (m := tryCompare (.type Y) _ (.type X)) (wpAny_tryCompare_declines (hY s) h2 (call_ne_other hY hne' ⟨rfl, ?_⟩))
  refine wpAny_bind (wpAny_rule (wpAny_bind (wpAny_of_eq (a := false) (by rw [isSame_plain rfl, hne]) (wpAny_pure h))))
end
end PySem.TypeNe
namespace K1
open PySem PySem.Spec PyProof.Rows L2
/-- the built-in kinds whose type is compared here -/
def BT (a : String) : Prop := ∀ s' : Shared, s'.TypeIs (.type a) "type"
theorem bt_ty {K : PySem.W.Frag} {H : Hp} {x : V} {T : String} (t : TyB K H x T) : BT T := by
  cases t
  · exact TypeEq.meta_NoneType
  · exact TypeEq.meta_bool
  · exact TypeEq.meta_int
  · exact TypeEq.meta_str
  · exact TypeEq.meta_bytes
  · exact TypeEq.meta_list
  · exact TypeEq.meta_tuple
  · exact TypeEq.meta_dict
section
variable {X : Cx}
theorem op_eqTy : OpR X (compareOp .Eq) (fun x y H Q => ∃ a b, x = .ty a ∧ y = .ty b ∧ BT a ∧ BT b ∧ Q (.bl (decide (a = b))) H) := by
  intro pins s σ H x y v u Q I rx ry h
  obtain ⟨a, b, rfl, rfl, ha, hb, q⟩ := h
  cases (show v = Value.type a from rx)
  cases (show u = Value.type b from ry)
  by_cases e : a = b
  · subst e
    exact TypeEq.eq_type_same ha ⟨.bl true, H, I, rfl, by simpa using q⟩
  · exact TypeEq.eq_type_other ha hb (beq_eq_false_iff_ne.mpr fun z => e (Value.type.inj z)) ⟨.bl false, H, I, rfl, by simpa [e] using q⟩
theorem op_neTy : OpR X (compareOp .NotEq) (fun x y H Q => ∃ a b, x = .ty a ∧ y = .ty b ∧ BT a ∧ BT b ∧ Q (.bl (!decide (a = b))) H) := by
  intro pins s σ H x y v u Q I rx ry h
  obtain ⟨a, b, rfl, rfl, ha, hb, q⟩ := h
  cases (show v = Value.type a from rx)
  cases (show u = Value.type b from ry)
  by_cases e : a = b
  · subst e
    exact TypeNe.ne_type_same ha ⟨.bl false, H, I, rfl, by simpa using q⟩
  · exact TypeNe.ne_type_other ha hb (beq_eq_false_iff_ne.mpr fun z => e (Value.type.inj z)) ⟨.bl true, H, I, rfl, by simpa [e] using q⟩
/-- x is True, x is False -/
theorem op_isB : OpR X (compareOp .Is) (fun x y H Q => ∃ b : Bool, y = .bl b ∧ (∀ z, x ≠ .byt z) ∧ (∀ z, x ≠ .flt z) ∧ Q (.bl (decide (x = .bl b))) H) := by
  intro pins s σ H x y v u Q I rx ry h
  obtain ⟨b, rfl, n1, n2, q⟩ := h
  cases (show u = Value.bool b from ry)
  by_cases e : x = .bl b
  · subst e
    cases (show v = Value.bool b from rx)
    exact wpAny_is_self rfl ⟨.bl true, H, I, rfl, by simpa using q⟩
  · have fin : EP X pins σ Q (.bool false) s := ⟨.bl false, H, I, rfl, by simpa [e] using q⟩
    cases x with
    | non => cases (show v = Value.none from rx); exact wpAny_is_other rfl (fun z => by cases z) fin
    | bl c => cases (show v = Value.bool c from rx); exact wpAny_is_other rfl (fun z => e (by cases z; rfl)) fin
    | int i => obtain ⟨t, rfl⟩ := (show ∃ t, v = Value.int i t from rx); exact wpAny_is_other rfl (fun z => by cases z) fin
    | str i => obtain ⟨t, rfl⟩ := (show ∃ t, v = Value.str i t from rx); exact wpAny_is_other rfl (fun z => by cases z) fin
    | byt i => exact absurd rfl (n1 i)
    | flt i => exact absurd rfl (n2 i)
    | ref a => cases (show v = Value.ref a from rx); exact wpAny_is_other rfl (fun z => by cases z) fin
    | ty a => cases (show v = Value.type a from rx); exact wpAny_is_other rfl (fun z => by cases z) fin
/-- text * n -/
theorem op_mulStr : OpR X (binaryOp .Mult) (fun x y H Q => ∃ (z : Str) (n : Int), x = .str z ∧ y = .int n ∧ MulOk z n ∧ Q (.str (Txt.mul z n)) H) := by
  intro pins s σ H x y v u Q I rx ry h
  obtain ⟨z, n, rfl, rfl, ok, q⟩ := h
  obtain ⟨t, rfl⟩ := (show ∃ t, v = Value.str z t from rx)
  obtain ⟨t', rfl⟩ := (show ∃ t, u = Value.int n t from ry)
  exact SB.mul ok fun t2 k => ⟨.str _, H, I.tok _, ⟨_, rfl⟩, q⟩
end
end K1

namespace CW
open PySem PySem.Spec PyProof.Rows L2 K1
/-! ### readings that compute: every rule of the layer, its reading by cases on values -/
theorem PEto {X : Cx} {e : Expr} {t t' : TE} (h : PE X e t) (w : ∀ σ H Q, t' σ H Q → t σ H Q) : PE X e t' := ⟨fun pins s σ H Q I q => h.run pins s σ H Q I (w σ H Q q)⟩
theorem PTto {X : Cx} {e : Expr} {t t' : TT} (h : PT X e t) (w : ∀ σ H Q, t' σ H Q → t σ H Q) : PT X e t' := ⟨fun pins s σ H Q I q => h.run pins s σ H Q I (w σ H Q q)⟩
theorem PWto {X : Cx} {e : Expr} {t t' : TT} (h : PW X e t) (w : ∀ σ H Q, t' σ H Q → t σ H Q) : PW X e t' := ⟨fun wh pins s σ H Q I q => h.run wh pins s σ H Q I (w σ H Q q)⟩
theorem PSto {X : Cx} {e : Stmt} {t t' : TS} (h : PS X e t) (w : ∀ D σ H, t' D σ H → t D σ H) : PS X e t' := ⟨fun pins s σ H D I q => h.run pins s σ H D I (w D σ H q)⟩
theorem ORto {X : Cx} {f : Value → Value → Sem Value} {r r' : R2} (h : OpR X f r) (w : ∀ x y H Q, r' x y H Q → r x y H Q) : OpR X f r' := fun pins s σ H x y v u Q I rx ry q => h pins s σ H x y v u Q I rx ry (w x y H Q q)
theorem CRto {X : Cx} {f : Value} {r r' : List V → Hp → VK → Prop} (h : CallR X f r) (w : ∀ xs H Q, r' xs H Q → r xs H Q) : CallR X f r' := fun pins s σ H xs us Q I rv q => h pins s σ H xs us Q I rv (w xs H Q q)

/-- a reading made monotone -/
def up (t : TE) : TE := fun σ H Q => ∃ Q' : VK, t σ H Q' ∧ ∀ v H', Q' v H' → Q v H'
theorem PEup {X : Cx} {e : Expr} {t : TE} (h : PE X e t) : PE X e (up t) := ⟨fun pins s σ H Q I ⟨Q', q, m⟩ => thn (h.run pins s σ H Q' I q) fun u s' ⟨v, H', I', r, q'⟩ => ⟨v, H', I', r, m v H' q'⟩⟩
def upT (t : TT) : TT := fun σ H Q => ∃ Q' : Bool → Hp → Prop, t σ H Q' ∧ ∀ v H', Q' v H' → Q v H'
theorem PTup {X : Cx} {e : Expr} {t : TT} (h : PT X e t) : PT X e (upT t) := ⟨fun pins s σ H Q I ⟨Q', q, m⟩ => thn (h.run pins s σ H Q' I q) fun b s' ⟨H', I', q'⟩ => ⟨H', I', m b H' q'⟩⟩
def upA (t : TA) : TA := fun σ H Q => ∃ Q' : List V → Hp → Prop, t σ H Q' ∧ ∀ v H', Q' v H' → Q v H'
theorem PAup {X : Cx} {es : List Expr} {t : TA} (h : PA X es t) : PA X es (upA t) := ⟨fun pos pins s σ H Q I ⟨Q', q, m⟩ => thn (h.run pos pins s σ H Q' I q) fun us s' ⟨vs, H', I', r, q'⟩ => ⟨vs, H', I', r, m vs H' q'⟩⟩
def upR (r : R2) : R2 := fun x y H Q => ∃ Q' : VK, r x y H Q' ∧ ∀ v H', Q' v H' → Q v H'
theorem ORup {X : Cx} {f : Value → Value → Sem Value} {r : R2} (h : OpR X f r) : OpR X f (upR r) := fun pins s σ H x y v u Q I rx ry ⟨Q', q, m⟩ => thn (h pins s σ H x y v u Q' I rx ry q) fun w s' ⟨z, H', I', rz, q'⟩ => ⟨z, H', I', rz, m z H' q'⟩
/-- a truth value that is open: whatever it is -/
def Gen (b : Bool) (Q : Bool → Prop) : Prop := ∀ c, b = c → Q c
theorem Gen.sub {b : Bool} {Q : Bool → Prop} (h : Q b) : Gen b Q := fun c e => e ▸ h
theorem Gen.to {b : Bool} {Q : Bool → Prop} (h : Gen b Q) : Q b := h b rfl
theorem Gen.cases {b : Bool} {Q : Bool → Prop} (h1 : b = true → Q true) (h2 : b = false → Q false) : Gen b Q := fun c e => by
  cases c
  · exact h2 e
  · exact h1 e
theorem Gen.dec {p : Prop} [Decidable p] {Q : Bool → Prop} (h1 : p → Q true) (h2 : ¬ p → Q false) : Gen (decide p) Q := .cases (fun e => h1 (of_decide_eq_true e)) (fun e => h2 (of_decide_eq_false e))
theorem Gen.ndec {p : Prop} [Decidable p] {Q : Bool → Prop} (h1 : p → Q false) (h2 : ¬ p → Q true) : Gen (!decide p) Q := .cases (fun e => h2 fun z => by rw [decide_eq_true z] at e; cases e) (fun e => h1 (Decidable.byContradiction fun z => by rw [decide_eq_false z] at e; cases e))
theorem Gen.yes {b : Bool} {Q : Bool → Prop} (e : b = true) (h : Q true) : Gen b Q := fun c d => by
  rw [← d, e]
  exact h
theorem Gen.no {b : Bool} {Q : Bool → Prop} (e : b = false) (h : Q false) : Gen b Q := fun c d => by
  rw [← d, e]
  exact h
/-- the value of slot i -/
def cVar (i : Nat) : TE := fun σ H Q => match σ[i]? with
  | some (some v) => Q v H
  | _ => False
section
variable {X : Cx} {a b c e : Expr} {ta tb tc te : TE} {pos : Pos}
theorem c_var (i : Nat) {x : Str} {pos : Pos} (hN : X.N[i]? = some x := by rfl) (hv : Vis X.env.scope x := by first | exact Or.inl rfl | exact Or.inr (Or.inl rfl) | exact Or.inr (Or.inr rfl)) (hd : (x == ("__debug__" : Str)) = false := by decide)
    (hcd : (x == ("__classdict__" : Str)) = false := by decide) : PE X (.Name x pos) (cVar i) := PEto (pe_var hN hv hd hcd) fun σ H Q q => by
  unfold cVar at q
  split at q
  · rename_i v e
    exact ⟨v, e, q⟩
  · exact q.elim
/-! ### operators -/
def rAdd : R2 := fun x y H Q => match x, y with
  | .int i, .int j => Q (.int (i + j)) H
  | .str i, .str j => i.length + j.length ≤ sizeLine ∧ Q (.str (i ++ j)) H
  | .ref l, .ref b => ∃ xs zs, H l = some (.lst xs) ∧ H b = some (.lst zs) ∧ xs.length + zs.length ≤ sizeLine ∧ ∀ p, H p = none → Q (.ref p) (upd H p (.lst (xs ++ zs)))
  | _, _ => False
theorem o_add : OpR X (binaryOp .Add) rAdd := ORto (OpR.or op_add (OpR.or op_add_str op_cat)) fun x y H Q q => by
  unfold rAdd at q
  split at q
  · exact .inl ⟨_, _, rfl, rfl, q⟩
  · exact .inr (.inl ⟨_, _, rfl, rfl, q⟩)
  · obtain ⟨xs, zs, h⟩ := q
    exact .inr (.inr ⟨_, _, xs, zs, rfl, rfl, h⟩)
  · exact q.elim
def rSub : R2 := fun x y H Q => match x, y with
  | .int i, .int j => Q (.int (i - j)) H
  | _, _ => False
theorem o_sub : OpR X (binaryOp .Sub) rSub := ORto op_sub fun x y H Q q => by
  unfold rSub at q
  split at q
  · exact ⟨_, _, rfl, rfl, q⟩
  · exact q.elim
def rMul : R2 := fun x y H Q => match x, y with
  | .int i, .int j => CMul i j ∧ Q (.int (i * j)) H
  | .str z, .int n => MulOk z n ∧ Q (.str (Txt.mul z n)) H
  | _, _ => False
theorem o_mul : OpR X (binaryOp .Mult) rMul := ORto (OpR.or op_mul op_mulStr) fun x y H Q q => by
  unfold rMul at q
  split at q
  · exact .inl ⟨_, _, rfl, rfl, q⟩
  · exact .inr ⟨_, _, rfl, rfl, q⟩
  · exact q.elim
def rFdiv : R2 := fun x y H Q => match x, y with
  | .int i, .int j => CDiv i j ∧ Q (.int (i / j)) H
  | _, _ => False
theorem o_fdiv : OpR X (binaryOp .FloorDiv) rFdiv := ORto op_fdiv fun x y H Q q => by
  unfold rFdiv at q
  split at q
  · exact ⟨_, _, rfl, rfl, q⟩
  · exact q.elim
def rMod : R2 := fun x y H Q => match x, y with
  | .int i, .int j => 0 < j ∧ Q (.int (i % j)) H
  | _, _ => False
theorem o_mod : OpR X (binaryOp .Mod) rMod := ORto op_mod fun x y H Q q => by
  unfold rMod at q
  split at q
  · exact ⟨_, _, rfl, rfl, q⟩
  · exact q.elim
def rPow : R2 := fun x y H Q => match x, y with
  | .int i, .int j => CPow i j ∧ Q (.int (i ^ j.toNat)) H
  | _, _ => False
theorem o_pow : OpR X (binaryOp .Pow) rPow := ORto op_pow fun x y H Q q => by
  unfold rPow at q
  split at q
  · exact ⟨_, _, rfl, rfl, q⟩
  · exact q.elim
def cBin (r : R2) (ta tb : TE) : TE := fun σ H Q => ta σ H fun x H1 => tb σ H1 fun y H2 => r x y H2 Q
theorem c_bin {op : Operator} {r : R2} (ho : OpR X (binaryOp op) r) (ha : PE X a ta) (hb : PE X b tb) : PE X (.BinOp a op b pos) (cBin r ta tb) := PEto (pe_op ho ha hb) fun _ _ _ q => q
def cUn (r : V → Hp → VK → Prop) (ta : TE) : TE := fun σ H Q => ta σ H fun x H1 => r x H1 Q
theorem URto {f : Value → Sem Value} {r r' : V → Hp → VK → Prop} (h : UnR X f r) (w : ∀ x H Q, r' x H Q → r x H Q) : UnR X f r' := fun pins s σ H x v Q I rx q => h pins s σ H x v Q I rx (w x H Q q)
def rNeg : V → Hp → VK → Prop := fun x H Q => match x with
  | .int i => Q (.int (-i)) H
  | _ => False
theorem o_neg : UnR X (unaryOp .USub) rNeg := URto un_neg fun x H Q q => by
  unfold rNeg at q
  split at q
  · exact ⟨_, rfl, q⟩
  · exact q.elim
theorem c_neg (ha : PE X a ta) : PE X (.UnaryOp .USub a pos) (cUn rNeg ta) := PEto (pe_un o_neg ha) fun _ _ _ q => q
/-! ### truth -/
def rTru (K : PySem.W.Frag) (x : V) (H : Hp) (Q : Bool → Hp → Prop) : Prop := match x with
  | .non => Q false H
  | .bl b => Q b H
  | .int i => Gen (i != 0) fun k => Q k H
  | .str y => y.length ≤ sizeLine ∧ Gen ((y.length : Int) != 0) fun k => Q k H
  | .ref p => ∃ k, TruV K (.ref p) H k ∧ Q k H
  | _ => False
theorem rTru_to {K : PySem.W.Frag} {x : V} {H : Hp} {Q : Bool → Hp → Prop} (q : rTru K x H Q) : ∃ k, TruV K x H k ∧ Q k H := by
  unfold rTru at q
  split at q
  · exact ⟨_, rfl, q⟩
  · exact ⟨_, rfl, q⟩
  · exact ⟨_, rfl, q.to⟩
  · exact ⟨_, ⟨q.1, rfl⟩, q.2.to⟩
  · exact q
  · exact q.elim
/-- a test that is its value's truth; a comparison's -/
def cTru (K : PySem.W.Frag) (ta : TE) : TT := fun σ H Q => ta σ H fun x H1 => rTru K x H1 Q
theorem t_tru {K : PySem.W.Frag} (hK : X.K = K) (ha : PE X a ta) (he : ∀ whole, isTrue a X.env whole = (do let v ← whole; standAt a.pos; holding [v] (truthy v)) := by exact fun _ => rfl) : PT X a (cTru K ta) := by
  subst hK
  exact PTto (pt_truth (PEup ha) he) fun σ H Q q => ⟨_, q, fun v H' q1 => rTru_to q1⟩
def rBl (x : V) (H : Hp) (Q : Bool → Hp → Prop) : Prop := match x with
  | .bl b => Q b H
  | _ => False
def cBl (ta : TE) : TT := fun σ H Q => ta σ H fun x H1 => rBl x H1 Q
theorem rBl_to {x : V} {H : Hp} {Q : Bool → Hp → Prop} (q : rBl x H Q) : ∃ k, x = .bl k ∧ Q k H := by
  unfold rBl at q
  split at q
  · exact ⟨_, rfl, q⟩
  · exact q.elim
/-- not x, as a value -/
def cNot (K : PySem.W.Frag) (ta : TE) : TE := fun σ H Q => ta σ H fun x H1 => rTru K x H1 fun k H2 => Q (.bl (!k)) H2
theorem c_not {K : PySem.W.Frag} (hK : X.K = K) (ha : PE X a ta) : PE X (.UnaryOp .Not a pos) (cNot K ta) := by
  subst hK
  exact PEto (pe_notT (PEup ha)) fun σ H Q q => ⟨_, q, fun v H' q1 => rTru_to q1⟩
/-! ### comparisons -/
def rEqC : R2 := fun x y H Q => match x, y with
  | .ty a, .ty b => BT a ∧ BT b ∧ Gen (decide (a = b)) fun k => Q (.bl k) H
  | .non, .non => Q (.bl true) H
  | .int i, .int j => Gen (decide (i = j)) fun k => Q (.bl k) H
  | .bl i, .bl j => Gen (decide (i = j)) fun k => Q (.bl k) H
  | .str i, .str j => Gen (decide (i = j)) fun k => Q (.bl k) H
  | .non, .int _ => Q (.bl false) H | .int _, .non => Q (.bl false) H | .non, .bl _ => Q (.bl false) H | .bl _, .non => Q (.bl false) H | .non, .str _ => Q (.bl false) H | .str _, .non => Q (.bl false) H
  | .int _, .str _ => Q (.bl false) H | .str _, .int _ => Q (.bl false) H | .bl _, .str _ => Q (.bl false) H | .str _, .bl _ => Q (.bl false) H
  | _, _ => False
theorem rEqC_to {x y : V} {H : Hp} {Q : VK} (q : rEqC x y H Q) : (∃ a b, x = .ty a ∧ y = .ty b ∧ BT a ∧ BT b ∧ Q (.bl (decide (a = b))) H) ∨ (scal x y = true ∧ Q (.bl (decide (x = y))) H) := by
  unfold rEqC at q
  split at q <;> first
    | exact .inl ⟨_, _, rfl, rfl, q.1, q.2.1, q.2.2.to⟩
    | exact .inr ⟨rfl, by simpa using q⟩
    | exact .inr ⟨rfl, by simpa using q.to⟩
    | exact q.elim
theorem o_eq : OpR X (compareOp .Eq) rEqC := ORto (OpR.or op_eqTy op_eq) fun x y H Q q => rEqC_to q
def rNeC : R2 := fun x y H Q => rEqC x y H fun z H' => match z with
  | .bl b => Q (.bl (!b)) H'
  | _ => False
theorem o_ne : OpR X (compareOp .NotEq) rNeC := ORto (OpR.or op_neTy op_ne) fun x y H Q q => rEqC_to q
def rLt : R2 := fun x y H Q => match x, y with
  | .int i, .int j => Gen (decide (i < j)) fun c => Q (.bl c) H
  | .str i, .str j => Gen (decide (i.cps.toList < j.cps.toList)) fun c => Q (.bl c) H
  | _, _ => False
theorem o_lt : OpR X (compareOp .Lt) rLt := ORto (OpR.or op_lt op_lt_str) fun x y H Q q => by
  unfold rLt at q
  split at q
  · exact .inl ⟨_, _, rfl, rfl, q.to⟩
  · exact .inr ⟨_, _, rfl, rfl, q.to⟩
  · exact q.elim
def rLe : R2 := fun x y H Q => match x, y with
  | .int i, .int j => Gen (decide (i ≤ j)) fun c => Q (.bl c) H
  | .str i, .str j => Gen (!decide (j.cps.toList < i.cps.toList)) fun c => Q (.bl c) H
  | _, _ => False
theorem o_le : OpR X (compareOp .LtE) rLe := ORto (OpR.or op_le op_le_str) fun x y H Q q => by
  unfold rLe at q
  split at q
  · exact .inl ⟨_, _, rfl, rfl, q.to⟩
  · exact .inr ⟨_, _, rfl, rfl, q.to⟩
  · exact q.elim
def rGt : R2 := fun x y H Q => match x, y with
  | .int i, .int j => Gen (decide (j < i)) fun c => Q (.bl c) H
  | .str i, .str j => Gen (decide (j.cps.toList < i.cps.toList)) fun c => Q (.bl c) H
  | _, _ => False
theorem o_gt : OpR X (compareOp .Gt) rGt := ORto (OpR.or op_gt op_gt_str) fun x y H Q q => by
  unfold rGt at q
  split at q
  · exact .inl ⟨_, _, rfl, rfl, q.to⟩
  · exact .inr ⟨_, _, rfl, rfl, q.to⟩
  · exact q.elim
def rGe : R2 := fun x y H Q => match x, y with
  | .int i, .int j => Gen (decide (j ≤ i)) fun c => Q (.bl c) H
  | _, _ => False
theorem o_ge : OpR X (compareOp .GtE) rGe := ORto op_ge fun x y H Q q => by
  unfold rGe at q
  split at q
  · exact ⟨_, _, rfl, rfl, q.to⟩
  · exact q.elim
def isNon : V → Bool
  | .non => true
  | _ => false
theorem isNon_eq (x : V) : decide (x = .non) = isNon x := by cases x <;> simp [isNon]
/-- x is None, True, False -/
def isC : V → V → Option Bool
  | x, .non => some (isNon x)
  | .bl a, .bl b => some (decide (a = b))
  | .byt _, .bl _ => none
  | .flt _, .bl _ => none
  | _, .bl _ => some false
  | _, _ => none
def rIs : R2 := fun x y H Q => match isC x y with
  | some b => Q (.bl b) H
  | none => False
theorem o_is : OpR X (compareOp .Is) rIs := ORto (OpR.or op_isN op_isB) fun x y H Q q => by
  unfold rIs at q
  split at q
  · rename_i b hb
    cases y with
    | non =>
      refine .inl ⟨rfl, ?_⟩
      rw [isNon_eq]
      cases x <;> (cases hb; exact q)
    | bl c =>
      refine .inr ⟨c, rfl, fun z e => ?_, fun z e => ?_, ?_⟩
      · subst e; cases hb
      · subst e; cases hb
      · cases x <;> first | (cases hb; exact q) | (simp only [isC, Option.some.injEq] at hb; subst hb; simpa using q) | cases hb
    | _ => cases x <;> cases hb
  · exact q.elim
def rIsNot : R2 := fun x y H Q => match y with
  | .non => Q (.bl (!isNon x)) H
  | _ => False
theorem o_isnot : OpR X (compareOp .IsNot) rIsNot := ORto op_notN fun x y H Q q => by
  unfold rIsNot at q
  split at q
  · refine ⟨rfl, ?_⟩
    rw [isNon_eq]
    exact q
  · exact q.elim
def rNotInS1 : R2 := fun x y H Q => match x, y with
  | .str u, .str z => ∃ c, u = ⟨#[c]⟩ ∧ Gen (!decide (c ∈ z.cps.toList)) fun k => Q (.bl k) H
  | _, _ => False
theorem o_notInS1 : OpR X (compareOp .NotIn) rNotInS1 := ORto op_notIn_sign fun x y H Q q => by
  unfold rNotInS1 at q
  split at q
  · obtain ⟨c, rfl, q⟩ := q
    exact ⟨c, _, rfl, rfl, q.to⟩
  · exact q.elim
theorem c_cmp {op : CmpOp} {r : R2} (ho : OpR X (compareOp op) r) (ha : PE X a ta) (hb : PE X b tb) (hm : behindInMarks op b = false := by first | exact nomark _ | rfl) : PE X (.Compare a [op] [b] pos) (cBin r ta tb) := PEto (pe_cmpR ho ha hb hm) fun _ _ _ q => q
theorem t_cmp {op : CmpOp} {r : R2} (ho : OpR X (compareOp op) r) (ha : PE X a ta) (hb : PE X b tb) (hm : behindInMarks op b = false := by first | exact nomark _ | rfl) : PT X (.Compare a [op] [b] pos) (cBl (cBin r ta tb)) :=
  PTto (pt_cmpR (ORup ho) (PEup ha) (PEup hb) hm) fun σ H Q q => ⟨_, q, fun x H1 q1 => ⟨_, q1, fun y H2 q2 => ⟨_, q2, fun z H3 q3 => rBl_to q3⟩⟩⟩
def rChn (r' : R2) (tc : TE) (σ : L2.St) (y : V) (Q : VK) : V → Hp → Prop := fun z H3 => match z with
  | .bl true => tc σ H3 fun w' H4 => r' y w' H4 Q
  | .bl false => Q (.bl false) H3
  | _ => False
def cChain (r r' : R2) (ta tb tc : TE) : TE := fun σ H Q => ta σ H fun x H1 => tb σ H1 fun y H2 => r x y H2 (rChn r' tc σ y Q)
theorem rChn_to {r' : R2} {tc : TE} {σ : L2.St} {y : V} {Q : VK} {z : V} {H3 : Hp} (q : rChn r' tc σ y Q z H3) : ∃ k, z = .bl k ∧ (if k = true then tc σ H3 fun w' H4 => r' y w' H4 Q else Q (.bl false) H3) := by
  unfold rChn at q
  split at q
  · exact ⟨true, rfl, by rw [if_pos rfl]; exact q⟩
  · exact ⟨false, rfl, by rw [if_neg (by decide)]; exact q⟩
  · exact q.elim
theorem c_chain {op op' : CmpOp} {r r' : R2} (ho : OpR X (compareOp op) r) (ho' : OpR X (compareOp op') r') (ha : PE X a ta) (hb : PE X b tb) (hc : PE X c tc)
    (hm : lastMarks [op, op'] [b, c] = false := by with_unfolding_all rfl) : PE X (.Compare a [op, op'] [b, c] pos) (cChain r r' ta tb tc) :=
  PEto (pe_chain (ORup ho) ho' (PEup ha) (PEup hb) hc hm) fun σ H Q q => ⟨_, q, fun x H1 q1 => ⟨_, q1, fun y H2 q2 => ⟨_, q2, fun z H3 q3 => rChn_to q3⟩⟩⟩
theorem t_chain {op op' : CmpOp} {r r' : R2} (ho : OpR X (compareOp op) r) (ho' : OpR X (compareOp op') r') (ha : PE X a ta) (hb : PE X b tb) (hc : PE X c tc)
    (hm : lastMarks [op, op'] [b, c] = false := by with_unfolding_all rfl) : PT X (.Compare a [op, op'] [b, c] pos) (cBl (cChain r r' ta tb tc)) := by
  refine PTto (pt_chain (ORup ho) (ORup ho') (PEup ha) (PEup hb) (PEup hc) hm) fun σ H Q q => ⟨_, q, fun x H1 q1 => ⟨_, q1, fun y H2 q2 => ⟨_, q2, fun z H3 q3 => ?_⟩⟩⟩
  obtain ⟨k, rfl, q4⟩ := rChn_to q3
  refine ⟨k, rfl, ?_⟩
  cases k with
  | false => exact ⟨false, rfl, q4⟩
  | true => exact ⟨_, q4, fun u H4 q5 => ⟨_, q5, fun u2 H5 q6 => rBl_to q6⟩⟩
/-! ### and, or, if else -/
def cCond (b : Bool) (p q : Prop) : Prop := match b with
  | true => p
  | false => q
theorem cCond_if {b : Bool} {p q : Prop} (h : cCond b p q) : if b = true then p else q := by
  cases b
  · exact h
  · exact h
def cAnd (t u : TT) : TT := fun σ H Q => t σ H fun c H1 => cCond c (u σ H1 Q) (Q false H1)
def cOr (t u : TT) : TT := fun σ H Q => t σ H fun c H1 => cCond c (Q true H1) (u σ H1 Q)
def cNotT (t : TT) : TT := fun σ H Q => t σ H fun c H1 => Q (!c) H1
variable {tA tB' : TT} {rest : List Expr}
theorem w_and1 (ha : PT X a tA) : PW X (.BoolOp .And [a] pos) tA := pw_and1 ha
theorem w_or1 (ha : PT X a tA) : PW X (.BoolOp .Or [a] pos) tA := pw_or1 ha
theorem w_and (ha : PT X a tA) (hb : PW X (.BoolOp .And (b :: rest) pos) tB') : PW X (.BoolOp .And (a :: b :: rest) pos) (cAnd tA tB') := PWto (pw_and (PTup ha) hb) fun σ H Q q => ⟨_, q, fun c H1 q1 => cCond_if q1⟩
theorem w_or (ha : PT X a tA) (hb : PW X (.BoolOp .Or (b :: rest) pos) tB') : PW X (.BoolOp .Or (a :: b :: rest) pos) (cOr tA tB') := PWto (pw_or (PTup ha) hb) fun σ H Q q => ⟨_, q, fun c H1 q1 => cCond_if q1⟩
theorem t_not (ha : PT X a tA) : PT X (.UnaryOp .Not a pos) (cNotT tA) := pt_not ha
/-- and, or as values, the left one a bool -/
def rAndV (tb : TE) (σ : L2.St) (Q : VK) (x : V) (H1 : Hp) : Prop := match x with
  | .bl true => tb σ H1 Q
  | .bl false => Q (.bl false) H1
  | _ => False
def rOrV (tb : TE) (σ : L2.St) (Q : VK) (x : V) (H1 : Hp) : Prop := match x with
  | .bl true => Q (.bl true) H1
  | .bl false => tb σ H1 Q
  | _ => False
def cAndV (ta tb : TE) : TE := fun σ H Q => ta σ H fun x H1 => rAndV tb σ Q x H1
def cOrV (ta tb : TE) : TE := fun σ H Q => ta σ H fun x H1 => rOrV tb σ Q x H1
theorem rAndV_to {tb : TE} {σ : L2.St} {Q : VK} {x : V} {H1 : Hp} (q : rAndV tb σ Q x H1) : ∃ c, x = .bl c ∧ if c = true then tb σ H1 Q else Q (.bl false) H1 := by
  unfold rAndV at q
  split at q
  · exact ⟨true, rfl, by rw [if_pos rfl]; exact q⟩
  · exact ⟨false, rfl, by rw [if_neg (by decide)]; exact q⟩
  · exact q.elim
theorem rOrV_to {tb : TE} {σ : L2.St} {Q : VK} {x : V} {H1 : Hp} (q : rOrV tb σ Q x H1) : ∃ c, x = .bl c ∧ if c = true then Q (.bl true) H1 else tb σ H1 Q := by
  unfold rOrV at q
  split at q
  · exact ⟨true, rfl, by rw [if_pos rfl]; exact q⟩
  · exact ⟨false, rfl, by rw [if_neg (by decide)]; exact q⟩
  · exact q.elim
theorem c_one {op} {t : TE} (h : PE X a t) : PE X (.BoolOp op [a] pos) t := pe_one h
theorem c_and (ha : PE X a ta) (hb : PE X (.BoolOp .And (b :: rest) pos) tb) : PE X (.BoolOp .And (a :: b :: rest) pos) (cAndV ta tb) := PEto (pe_and (PEup ha) hb) fun σ H Q q => ⟨_, q, fun x H1 q1 => rAndV_to q1⟩
theorem c_or (ha : PE X a ta) (hb : PE X (.BoolOp .Or (b :: rest) pos) tb) : PE X (.BoolOp .Or (a :: b :: rest) pos) (cOrV ta tb) := PEto (pe_or (PEup ha) hb) fun σ H Q q => ⟨_, q, fun x H1 q1 => rOrV_to q1⟩
def cIfE (t : TT) (ta tb : TE) : TE := fun σ H Q => t σ H fun c H1 => cCond c (ta σ H1 Q) (tb σ H1 Q)
theorem c_ife {c : Expr} (hc : PT X c tA) (ha : PE X a ta) (hb : PE X b tb) : PE X (.IfExp c a b pos) (cIfE tA ta tb) := PEto (pe_ifExp (PTup hc) ha hb) fun σ H Q q => ⟨_, q, fun c H1 q1 => cCond_if q1⟩
/-! ### calls of built-ins -/
def rLen (K : PySem.W.Frag) : List V → Hp → VK → Prop := fun xs H Q => match xs with
  | [.str z] => z.length ≤ sizeLine ∧ Q (.int z.length) H
  | [.ref p] => (∃ ys, (SqL K H p ys ∨ SqT K H p ys) ∧ Q (.int ys.length) H) ∨ (∃ kvs, H p = some (.dK kvs) ∧ Q (.int kvs.length) H)
  | _ => False
theorem b_len {K : PySem.W.Frag} (hK : X.K = K) : CallR X (.builtin "len") (rLen K) := hK ▸ CRto (CallR.or call_len_str (CallR.or call_len_seq call_lenD)) fun xs H Q q => by
  unfold rLen at q
  split at q
  · exact .inl ⟨_, rfl, q⟩
  · rcases q with ⟨ys, q⟩ | ⟨kvs, q⟩
    · exact .inr (.inl ⟨_, ys, rfl, q⟩)
    · exact .inr (.inr ⟨_, kvs, rfl, q⟩)
  · exact q.elim
def rAbs : List V → Hp → VK → Prop := fun xs H Q => match xs with
  | [.int i] => Q (.int (if i < 0 then -i else i)) H
  | _ => False
theorem b_abs : CallR X (.builtin "abs") rAbs := CRto call_abs fun xs H Q q => by
  unfold rAbs at q
  split at q
  · exact ⟨_, rfl, q⟩
  · exact q.elim
def rInt : List V → Hp → VK → Prop := fun xs H Q => match xs with
  | [.int i] => Q (.int i) H
  | [.bl k] => Q (.int (if k then 1 else 0)) H
  | _ => False
theorem b_int : CallR X (.type "int") rInt := CRto call_int1 fun xs H Q q => by
  unfold rInt at q
  split at q
  · exact .inl ⟨_, rfl, q⟩
  · exact .inr ⟨_, rfl, q⟩
  · exact q.elim
def rStr : List V → Hp → VK → Prop := fun xs H Q => match xs with
  | [.int i] => i.natAbs.log2 < 1920 ∧ Q (.str (toString i)) H
  | [.str x] => Q (.str x) H
  | _ => False
theorem b_str : CallR X (.type "str") rStr := CRto (CallR.or call_str_int SkE.call_str_str) fun xs H Q q => by
  unfold rStr at q
  split at q
  · exact .inl ⟨_, rfl, q⟩
  · exact .inr ⟨_, rfl, q⟩
  · exact q.elim
/-- type(x) of scalars; of lists, tuples, dicts by TyB -/
def tyn : V → Option String
  | .non => some "NoneType" | .bl _ => some "bool" | .int _ => some "int" | .str _ => some "str"
  | _ => none
theorem tyn_TyB {K : PySem.W.Frag} {H : Hp} {x : V} {T : String} (h : tyn x = some T) : TyB K H x T := by
  cases x <;> simp [tyn] at h <;> subst h
  · exact .non
  · exact .bl _
  · exact .int _
  · exact .str _
def rType (K : PySem.W.Frag) : List V → Hp → VK → Prop := fun xs H Q => match xs with
  | [.ref a] => ∃ T, TyB K H (.ref a) T ∧ Q (.ty T) H
  | [x] => (match tyn x with
    | some T => Q (.ty T) H
    | none => False)
  | _ => False
theorem b_type {K : PySem.W.Frag} (hK : X.K = K) : CallR X (.type "type") (rType K) := hK ▸ CRto call_type1 fun xs H Q q => by
  unfold rType at q
  split at q
  · obtain ⟨T, t, q⟩ := q
    exact ⟨_, T, rfl, t, q⟩
  · split at q
    · rename_i T hT
      exact ⟨_, T, rfl, tyn_TyB hT, q⟩
    · exact q.elim
  · exact q.elim
def isB : V → Option Bool
  | .bl _ => some true | .non => some false | .int _ => some false | .str _ => some false
  | _ => none
def isS : V → Option Bool
  | .bl _ => some false | .non => some false | .int _ => some false | .str _ => some true
  | _ => none
def isI : V → Option Bool
  | .bl _ => some true | .non => some false | .int _ => some true | .str _ => some false
  | _ => none
/-- what isinstance(x, T) answers: scalars by f, objects by what they are -/
def rIs1 (K : PySem.W.Frag) (T : String) (f : V → Option Bool) (x : V) (H : Hp) (Q : VK) : Prop := match x with
  | .ref a => ∃ U b, TyX K H (.ref a) (.type U) ∧ kitB U T = some b ∧ Q (.bl b) H
  | x => match f x with
    | some b => Q (.bl b) H
    | none => False
def rIsK (K : PySem.W.Frag) (T : String) (f : V → Option Bool) : List V → Hp → VK → Prop := fun xs H Q => match xs with
  | [x, .ty U] => U = T ∧ rIs1 K T f x H Q
  | _ => False
def isN : V → Option Bool
  | .bl _ => some false | .non => some false | .int _ => some false | .str _ => some false
  | _ => none
/-- f tells of the scalars what kitB tells -/
structure KitF (T : String) (f : V → Option Bool) : Prop where
  non : ∀ b, f .non = some b → kitB "NoneType" T = some b
  bl : ∀ x b, f (.bl x) = some b → kitB "bool" T = some b
  int : ∀ x b, f (.int x) = some b → kitB "int" T = some b
  str : ∀ x b, f (.str x) = some b → kitB "str" T = some b
  byt : ∀ x, f (.byt x) = none
  flt : ∀ x, f (.flt x) = none
  ty : ∀ x, f (.ty x) = none
theorem b_isK {K : PySem.W.Frag} {T : String} {f : V → Option Bool} (kf : KitF T f) (hK : X.K = K) : CallR X (.builtin "isinstance") (rIsK K T f) := by
  subst hK
  refine CRto call_isi fun xs H Q q => ?_
  unfold rIsK at q
  split at q
  · rename_i x U
    obtain ⟨rfl, q⟩ := q
    unfold rIs1 at q
    split at q
    · obtain ⟨U', b, t, kb, q⟩ := q
      exact ⟨_, _, _, _, b, rfl, .ty _, t, kit_ty kb, q⟩
    · split at q
      · rename_i b hb
        cases x with
        | non => exact ⟨_, _, .type "NoneType", _, b, rfl, .ty _, .base .non, kit_ty (kf.non b hb), q⟩
        | bl y => exact ⟨_, _, .type "bool", _, b, rfl, .ty _, .base (.bl y), kit_ty (kf.bl y b hb), q⟩
        | int y => exact ⟨_, _, .type "int", _, b, rfl, .ty _, .base (.int y), kit_ty (kf.int y b hb), q⟩
        | str y => exact ⟨_, _, .type "str", _, b, rfl, .ty _, .base (.str y), kit_ty (kf.str y b hb), q⟩
        | byt y => rw [kf.byt] at hb; cases hb
        | flt y => rw [kf.flt] at hb; cases hb
        | ty y => rw [kf.ty] at hb; cases hb
        | ref a => rename_i hn; exact absurd rfl (hn a)
      · exact q.elim
  · exact q.elim
theorem kf_bool : KitF "bool" isB := ⟨fun b e => by cases e; decide +kernel, fun _ b e => by cases e; decide +kernel, fun _ b e => by cases e; decide +kernel, fun _ b e => by cases e; decide +kernel, fun _ => rfl, fun _ => rfl, fun _ => rfl⟩
theorem kf_str : KitF "str" isS := ⟨fun b e => by cases e; decide +kernel, fun _ b e => by cases e; decide +kernel, fun _ b e => by cases e; decide +kernel, fun _ b e => by cases e; decide +kernel, fun _ => rfl, fun _ => rfl, fun _ => rfl⟩
theorem kf_int : KitF "int" isI := ⟨fun b e => by cases e; decide +kernel, fun _ b e => by cases e; decide +kernel, fun _ b e => by cases e; decide +kernel, fun _ b e => by cases e; decide +kernel, fun _ => rfl, fun _ => rfl, fun _ => rfl⟩
theorem kf_list : KitF "list" isN := ⟨fun b e => by cases e; decide +kernel, fun _ b e => by cases e; decide +kernel, fun _ b e => by cases e; decide +kernel, fun _ b e => by cases e; decide +kernel, fun _ => rfl, fun _ => rfl, fun _ => rfl⟩
theorem kf_tuple : KitF "tuple" isN := ⟨fun b e => by cases e; decide +kernel, fun _ b e => by cases e; decide +kernel, fun _ b e => by cases e; decide +kernel, fun _ b e => by cases e; decide +kernel, fun _ => rfl, fun _ => rfl, fun _ => rfl⟩
theorem kf_dict : KitF "dict" isN := ⟨fun b e => by cases e; decide +kernel, fun _ b e => by cases e; decide +kernel, fun _ b e => by cases e; decide +kernel, fun _ b e => by cases e; decide +kernel, fun _ => rfl, fun _ => rfl, fun _ => rfl⟩
theorem kb_tt : kitB "tuple" "tuple" = some true := by decide +kernel
theorem kb_tl : kitB "tuple" "list" = some false := by decide +kernel
theorem kb_ll : kitB "list" "list" = some true := by decide +kernel
theorem kb_lt : kitB "list" "tuple" = some false := by decide +kernel
theorem kb_td : kitB "tuple" "dict" = some false := by decide +kernel
theorem kb_ld : kitB "list" "dict" = some false := by decide +kernel
theorem kb_dd : kitB "dict" "dict" = some true := by decide +kernel
theorem kb_dt : kitB "dict" "tuple" = some false := by decide +kernel
theorem kb_dl : kitB "dict" "list" = some false := by decide +kernel
theorem kb_ts : kitB "tuple" "str" = some false := by decide +kernel
theorem kb_ls : kitB "list" "str" = some false := by decide +kernel
theorem kb_ds : kitB "dict" "str" = some false := by decide +kernel
theorem kb_tb : kitB "tuple" "bool" = some false := by decide +kernel
theorem kb_lb : kitB "list" "bool" = some false := by decide +kernel
theorem kb_ti : kitB "tuple" "int" = some false := by decide +kernel
theorem kb_li : kitB "list" "int" = some false := by decide +kernel
theorem tyx_l {K : PySem.W.Frag} {H : Hp} {a : Addr} {xs : List V} (h : SqL K H a xs) : TyX K H (.ref a) (.type "list") := by
  rcases h with (h | ⟨o, h⟩) | ⟨o, its, n, h, c, _⟩
  · exact .base (.lst h)
  · exact .base (.frz h)
  · exact .kList h c
theorem tyx_t {K : PySem.W.Frag} {H : Hp} {a : Addr} {xs : List V} (h : SqT K H a xs) : TyX K H (.ref a) (.type "tuple") := by
  rcases h with (h | ⟨o, h⟩) | ⟨o, its, n, h, c, _⟩
  · exact .base (.tup h)
  · exact .fTuple h
  · exact .kTuple h c
def cArgs (r : List V → Hp → VK → Prop) (t : TA) : TE := fun σ H Q => t σ H fun vs H1 => r vs H1 Q
variable {es : List Expr} {t : TA} {id T : String} {x : Str} {r : List V → Hp → VK → Prop} {p : Pos}
theorem c_bi (hc : CallR X (.builtin id) r) (hm : X.mg x = none) (hv : bootBuiltins x = some (.builtin id)) (ha : PA X (e :: es) t) (hg : Gl X x := by rfl) (hn : x ≠ "__name__" := by decide) (hdb : (x == ("__debug__" : Str)) = false := by decide)
    (he : starEach (e :: es) X.env = (false, eval e X.env) :: starEach es X.env := by rfl) (hpl : (backTo pos (starEach es X.env)).any (·.1) = false := by rfl) : PE X (.Call (.Name x p) (e :: es) [] pos) (cArgs r t) := pe_callB hc hg hm hv ha hn hdb he hpl
theorem c_ty (hc : CallR X (.type T) r) (hm : X.mg x = none) (hv : bootBuiltins x = some (.type T)) (ha : PA X (e :: es) t) (hg : Gl X x := by rfl) (hn : x ≠ "__name__" := by decide) (hdb : (x == ("__debug__" : Str)) = false := by decide)
    (he : starEach (e :: es) X.env = (false, eval e X.env) :: starEach es X.env := by rfl) (hpl : (backTo pos (starEach es X.env)).any (·.1) = false := by rfl) : PE X (.Call (.Name x p) (e :: es) [] pos) (cArgs r t) := pe_callTy hc hg hm hv ha hn hdb he hpl
/-- a built-in type as a value -/
theorem c_tyv (hm : X.mg x = none) (hv : bootBuiltins x = some (.type T)) (hg : Gl X x := by rfl) (hn : x ≠ "__name__" := by decide) (hd : (x == ("__debug__" : Str)) = false := by decide) : PE X (.Name x p) (tC (.ty T)) := pe_bltn (v := .ty T) hg hm hv rfl hn hd
/-- a module's int -/
theorem c_int {i : Int} {u : Tok} (hm : X.mg x = some (.int i u)) (hg : Gl X x := by rfl) (hd : (x == ("__debug__" : Str)) = false := by decide) : PE X (.Name x p) (tC (.int i)) := pe_glob hg hm ⟨_, rfl⟩ hd
end
/-- isinstance(e, T), T a built-in type -/
def cIs1 (K : PySem.W.Frag) (T : String) (f : V → Option Bool) (te : TE) : TE := fun σ H Q => te σ H fun x H1 => rIs1 K T f x H1 Q
section
variable {X : Cx} {e : Expr} {te : TE} {p p2 pos : Pos} {T : String} {x : Str} {f : V → Option Bool}
theorem c_isi {K : PySem.W.Frag} (hK : X.K = K) (kf : KitF T f) (hm : X.mg "isinstance" = none) (hT : X.mg x = none) (hv : bootBuiltins x = some (.type T)) (he : PE X e te) (hg : Gl X "isinstance" := by rfl) (hg2 : Gl X x := by rfl) (hn : x ≠ "__name__" := by decide) (hd : (x == ("__debug__" : Str)) = false := by decide)
    (h1 : starEach [e, .Name x p2] X.env = (false, eval e X.env) :: starEach [.Name x p2] X.env := by rfl) (h2 : starEach [.Name x p2] X.env = (false, eval (.Name x p2) X.env) :: starEach [] X.env := by rfl) (hpl : (backTo pos (starEach [.Name x p2] X.env)).any (·.1) = false := by rfl) :
    PE X (.Call (.Name "isinstance" p) [e, .Name x p2] [] pos) (cIs1 K T f te) := by
  refine PEto (c_bi (b_isK kf hK) hm (by decide +kernel) (pa_cons (PEup he) (pa_cons (c_tyv hT hv hg2 hn hd) pa_nil h2) h1) hg (by decide) (by decide) h1 hpl) fun σ H Q q => ?_
  exact ⟨_, q, fun v H' q1 => ⟨rfl, q1⟩⟩
end
/-! ### own defs -/
/-- the def x of the text, by its promise -/
def Has (P : Program) (w : World) (K : PySem.W.Frag) (mg : Str → Option Value) (base : Heap) (k : Nat) (x : Str) (ps : List Str) (sp : Sp) : Prop :=
  ∃ (f : Addr) (fd : FuncData), FnOk P w K mg base CX0 k f fd ps sp ∧ mg x = some (.ref f) ∧ PySem.W.keepIn K (.ref f) = true ∧ Binds K fd ps []
def cCall (sp : Sp) (t : TA) : TE := fun σ H Q => t σ H fun vs H1 => sp vs H1 Q E0
section
variable {X : Cx} {e : Expr} {es : List Expr} {t : TA} {x : Str} {p pos : Pos} {k : Nat} {ps : List Str} {sp : Sp}
theorem c_call (h : Has X.prog X.w X.K X.mg X.base k x ps sp) (hr : Room k X.A) (ha : PA X (e :: es) t) (hg : Gl X x := by rfl) (hdb : (x == ("__debug__" : Str)) = false := by decide) (he : starEach (e :: es) X.env = (false, eval e X.env) :: starEach es X.env := by rfl)
    (hpl : (backTo pos (starEach es X.env)).any (·.1) = false := by rfl) : PE X (.Call (.Name x p) (e :: es) [] pos) (cCall sp t) := by
  obtain ⟨f, fd, F, hm, hk, hb⟩ := h
  refine PEto (pe_call (E := E0) F hr hg hm hk hb .nil pass0 ha hdb he hpl) fun σ H Q q => ?_
  have e1 : tCall sp [] E0 t σ H Q = t σ H (fun vs H1 => sp (vs ++ []) H1 Q E0) := rfl
  rw [e1]
  simp only [List.append_nil]
  exact q
end
section
variable {X : Cx} {a b c e : Expr} {ta tb tc te : TE} {pos : Pos}
/-! ### subscripts -/
def rIxC (K : PySem.W.Frag) : R2 := fun x y H Q => match x, y with
  | .ref p, .int i => ∃ xs v, (SqL K H p xs ∨ SqT K H p xs) ∧ atI xs i = some v ∧ Q v H
  | .str z, .int i => ∃ c, z.length ≤ sizeLine ∧ atI z.cps.toList i = some c ∧ Q (.str ⟨#[c]⟩) H
  | _, _ => False
theorem c_ix {K : PySem.W.Frag} (hK : X.K = K) (ha : PE X a ta) (hb : PE X b tb) (hs : PlainIx b := by exact fun _ _ => rfl) : PE X (.Subscript a b pos) (cBin (rIxC K) ta tb) := by
  subst hK
  refine PEto (pe_ix ix_seq (PEup ha) (PEup hb) hs) fun σ H Q q => ?_
  refine ⟨_, q, fun x H1 q1 => ⟨_, q1, fun y H2 q2 => ?_⟩⟩
  unfold rIxC at q2
  split at q2
  · obtain ⟨xs, v, h, h1, q⟩ := q2
    rcases h with h | h
    · exact .inl ⟨_, xs, _, v, rfl, rfl, h, h1, q⟩
    · exact .inr (.inl ⟨_, xs, _, v, rfl, rfl, h, h1, q⟩)
  · obtain ⟨c, h, h1, q⟩ := q2
    exact .inr (.inr ⟨_, _, c, rfl, rfl, h, h1, q⟩)
  · exact q2.elim
/-! ### displays -/
theorem c_lst {es : List Expr} {t : TA} (h : PA X es t) : PE X (.List es pos) (tLst t) := pe_lst h
theorem c_tup {es : List Expr} {t : TA} {x1} (h : PA X es t) : PE X (.Tuple es x1 pos) (tTup t) := pe_tup h
/-! ### comprehensions of one clause -/
theorem wipe_one {σ : L2.St} {j : Nat} {x : V} : wipe ((wipe σ [j]).set j (some x)) [j] = wipe σ [j] := by
  show (((σ.set j none).set j (some x)).set j none) = σ.set j none
  rw [List.set_set, List.set_set]
/-- the source a list -/
def cLcL (K : PySem.W.Frag) (tl : TE) (j : Nat) (tt : TT) (te : TE) : TE := fun σ H Q => tl σ H fun x H1 => match x with
  | .ref a => ∃ xs, SqL K H1 a xs ∧ ∀ D, H1 D = none → ∃ Pv : Nat → Hp → Prop, Pv 0 (upd H1 D (.lst [])) ∧ (∀ i H, i ≤ xs.length → Pv i H → SqL K H a xs) ∧
      (∀ i x H, xs[i]? = some x → Pv i H → tt ((σ.set j none).set j (some x)) H fun b H3 => cCond b (te ((σ.set j none).set j (some x)) H3 fun y H4 => ∃ acc, H4 D = some (.lst acc) ∧ acc.length < sizeLine ∧ Pv (i + 1) (upd H4 D (.lst (acc ++ [y])))) (Pv (i + 1) H3)) ∧
      (∀ H, Pv xs.length H → Q (.ref D) H)
  | _ => False
/-- the source a text -/
def cLcS (tl : TE) (j : Nat) (tt : TT) (te : TE) : TE := fun σ H Q => tl σ H fun x H1 => match x with
  | .str z => ∀ D, H1 D = none → ∃ Pv : Nat → Hp → Prop, Pv 0 (upd H1 D (.lst [])) ∧
      (∀ i c H, z.cps[i]? = some c → Pv i H → tt ((σ.set j none).set j (some (.str ⟨#[c]⟩))) H fun b H3 => cCond b (te ((σ.set j none).set j (some (.str ⟨#[c]⟩))) H3 fun y H4 => ∃ acc, H4 D = some (.lst acc) ∧ acc.length < sizeLine ∧ Pv (i + 1) (upd H4 D (.lst (acc ++ [y])))) (Pv (i + 1) H3)) ∧
      (∀ H, Pv z.cps.size H → Q (.ref D) H)
  | _ => False
/-- the source range(n) -/
def cLcR (tl : TA) (j : Nat) (tt : TT) (te : TE) : TE := fun σ H Q => tl σ H fun vs H1 => match vs with
  | [.int n] => (-(2 ^ 62) ≤ n ∧ n < 2 ^ 62) ∧ ∀ D, H1 D = none → ∃ Pv : Nat → Hp → Prop, Pv 0 (upd H1 D (.lst [])) ∧
      (∀ (i : Nat) H, i < n.toNat → Pv i H → tt ((σ.set j none).set j (some (.int (i : Int)))) H fun b H3 => cCond b (te ((σ.set j none).set j (some (.int (i : Int)))) H3 fun y H4 => ∃ acc, H4 D = some (.lst acc) ∧ acc.length < sizeLine ∧ Pv (i + 1) (upd H4 D (.lst (acc ++ [y])))) (Pv (i + 1) H3)) ∧
      (∀ H, Pv n.toNat H → Q (.ref D) H)
  | _ => False
variable {elt iter : Expr} {ifs : List Expr} {scope : Scope} {v : Str} {j : Nat} {tt : TT} {vp : Pos}
theorem PTsup {X : Cx} {ifs : List Expr} {t : TT} (h : PTs X ifs t) : PTs X ifs (upT t) := ⟨fun pins s σ H Q I ⟨Q', q, m⟩ => thn (h.run pins s σ H Q' I q) fun b s' ⟨H', I', q'⟩ => ⟨H', I', m b H' q'⟩⟩
theorem lcTurn {tt : TT} {te : TE} {σ : L2.St} {H : Hp} {D : Addr} {Nx : Hp → Prop} (h : tt σ H fun b H3 => cCond b (te σ H3 fun y H4 => ∃ acc, H4 D = some (.lst acc) ∧ acc.length < sizeLine ∧ Nx (upd H4 D (.lst (acc ++ [y])))) (Nx H3)) :
    upT tt σ H fun b H3 => if b = true then te σ H3 fun y H4 => ∃ acc, H4 D = some (.lst acc) ∧ acc.length < sizeLine ∧ Nx (upd H4 D (.lst (acc ++ [y]))) else Nx H3 := ⟨_, h, fun b H' q => cCond_if q⟩
theorem lcL_to {K : PySem.W.Frag} {σ : L2.St} {H : Hp} {Q : VK} (q : cLcL K ta j tt te σ H Q) : tLc (iList K (up ta)) (gName j) (upT tt) te ([(v, j)].map (·.2)) σ H Q := by
  refine ⟨_, q, fun x H1 q1 => ?_⟩
  split at q1
  · obtain ⟨xs, hx, q1⟩ := q1
    refine ⟨_, rfl, ⟨xs, hx⟩, fun D hD => ?_⟩
    obtain ⟨Pv, h0, h1, h2, h3⟩ := q1 D hD
    refine lc_list (xs := xs) Pv h0 h1 (fun i x H hx p => ⟨wipe_one, lcTurn (h2 i x H hx p)⟩) h3
  · exact q1.elim
theorem lcS_to {σ : L2.St} {H : Hp} {Q : VK} (q : cLcS ta j tt te σ H Q) : tLc (iStr (up ta)) (gName j) (upT tt) te ([(v, j)].map (·.2)) σ H Q := by
  refine ⟨_, q, fun x H1 q1 => ?_⟩
  split at q1
  · refine ⟨_, rfl, fun D hD => ?_⟩
    obtain ⟨Pv, h0, h2, h3⟩ := q1 D hD
    refine lc_it walk_str Pv h0 (fun _ _ _ _ => trivial) (fun i x H H' hi p y => ?_) h3
    obtain ⟨rfl, c, hc, rfl⟩ := y
    exact ⟨wipe_one, lcTurn (h2 i c _ hc p)⟩
  · exact q1.elim
theorem lcR_to {tA : TA} {σ : L2.St} {H : Hp} {Q : VK} (q : cLcR tA j tt te σ H Q) : tLc (iRng1 (upA tA)) (gName j) (upT tt) te ([(v, j)].map (·.2)) σ H Q := by
  refine ⟨_, q, fun x H1 q1 => ?_⟩
  split at q1
  · rename_i n
    obtain ⟨⟨b1, b2⟩, q1⟩ := q1
    refine ⟨n, rfl, b1, b2, fun D hD => ?_⟩
    obtain ⟨Pv, h0, h2, h3⟩ := q1 D hD
    refine lc_range (n := n.toNat) Pv h0 (fun i H hi p => ⟨wipe_one, ?_⟩) h3
    have e : (0 : Int) + (i : Int) = (i : Int) := by omega
    rw [e]
    exact lcTurn (h2 i _ hi p)
  · exact q1.elim
theorem c_lcL {K : PySem.W.Frag} (hK : X.K = K) (hl : PE X iter ta) (hN : X.N.Nodup) (hj : X.N[j]? = some v) (ok : blkC X.N X.env.scope scope [(v, j)] = true)
    (hv : ∀ (s : Shared) (H : Hp) (C : Addr) (cl : List (Str × Addr)) (fp : List Addr), PG (X.blk s H scope (compEnvC scope cl C X.env) fp) (.Name v vp) (gName j))
    (ht : ∀ (s : Shared) (H : Hp) (C : Addr) (cl : List (Str × Addr)) (fp : List Addr), PTs (X.blk s H scope (compEnvC scope cl C X.env) fp) ifs tt)
    (he : ∀ (s : Shared) (H : Hp) (C : Addr) (cl : List (Str × Addr)) (fp : List Addr), PE (X.blk s H scope (compEnvC scope cl C X.env) fp) elt te) (hc : X.calm = true := by rfl) (hs : ∀ x, foldedSetIterable (iter) X.env x = pure x := by intro _; rfl) :
    PE X (.ListComp elt [⟨.Name v vp, iter, ifs, 0⟩] scope pos) (cLcL K ta j tt te) := by
  subst hK
  exact PEto (pe_lc (own := [(v, j)]) (g := gName j) hc hN (pi_list (PEup hl)) (blkOk_by ok) hv (fun s H C cl fp => PTsup (ht s H C cl fp)) he hs) fun σ H Q q => lcL_to q
theorem s_lcL (i : Nat) {y : Str} {py spos : Pos} {K : PySem.W.Frag} (hK : X.K = K) (hl : PE X iter ta) (hN : X.N.Nodup) (hj : X.N[j]? = some v) (ok : blkC X.N X.env.scope scope [(v, j)] = true)
    (hv : ∀ (s : Shared) (H : Hp) (C : Addr) (cl : List (Str × Addr)) (fp : List Addr), PG (X.blk s H scope (compEnvC scope cl C X.env) fp) (.Name v vp) (gName j))
    (ht : ∀ (s : Shared) (H : Hp) (C : Addr) (cl : List (Str × Addr)) (fp : List Addr), PTs (X.blk s H scope (compEnvC scope cl C X.env) fp) ifs tt)
    (he : ∀ (s : Shared) (H : Hp) (C : Addr) (cl : List (Str × Addr)) (fp : List Addr), PE (X.blk s H scope (compEnvC scope cl C X.env) fp) elt te) (hsw : swapsWith (.ListComp elt [⟨.Name v vp, iter, ifs, 0⟩] scope pos) (some (.Name y py)) spos.line X.env = pure true) (hy : X.N[i]? = some y := by rfl) (hyl : X.env.scope.names.lookup y = some .local := by rfl) (hc : X.calm = true := by rfl)
    (hs : ∀ x, foldedSetIterable (iter) X.env x = pure x := by intro _; rfl) : PS X (.Assign [.Name y py] (.ListComp elt [⟨.Name v vp, iter, ifs, 0⟩] scope pos) spos) (fun D σ H => (cLcL K ta j tt te) σ H fun x H1 => D.nx (σ.set i (some x)) H1) := by
  subst hK
  exact PSto (ps_setLc (i := i) (own := [(v, j)]) (g := gName j) hc hN hy hyl hsw (pi_list (PEup hl)) (blkOk_by ok) hv (fun s H C cl fp => PTsup (ht s H C cl fp)) he hs) fun D σ H q => lcL_to q
theorem c_lcS (hl : PE X iter ta) (hN : X.N.Nodup) (hj : X.N[j]? = some v) (ok : blkC X.N X.env.scope scope [(v, j)] = true)
    (hv : ∀ (s : Shared) (H : Hp) (C : Addr) (cl : List (Str × Addr)) (fp : List Addr), PG (X.blk s H scope (compEnvC scope cl C X.env) fp) (.Name v vp) (gName j))
    (ht : ∀ (s : Shared) (H : Hp) (C : Addr) (cl : List (Str × Addr)) (fp : List Addr), PTs (X.blk s H scope (compEnvC scope cl C X.env) fp) ifs tt)
    (he : ∀ (s : Shared) (H : Hp) (C : Addr) (cl : List (Str × Addr)) (fp : List Addr), PE (X.blk s H scope (compEnvC scope cl C X.env) fp) elt te) (hc : X.calm = true := by rfl) (hs : ∀ x, foldedSetIterable (iter) X.env x = pure x := by intro _; rfl) :
    PE X (.ListComp elt [⟨.Name v vp, iter, ifs, 0⟩] scope pos) (cLcS ta j tt te) := by
  exact PEto (pe_lc (own := [(v, j)]) (g := gName j) hc hN (pi_str (PEup hl)) (blkOk_by ok) hv (fun s H C cl fp => PTsup (ht s H C cl fp)) he hs) fun σ H Q q => lcS_to q
theorem s_lcS (i : Nat) {y : Str} {py spos : Pos} (hl : PE X iter ta) (hN : X.N.Nodup) (hj : X.N[j]? = some v) (ok : blkC X.N X.env.scope scope [(v, j)] = true)
    (hv : ∀ (s : Shared) (H : Hp) (C : Addr) (cl : List (Str × Addr)) (fp : List Addr), PG (X.blk s H scope (compEnvC scope cl C X.env) fp) (.Name v vp) (gName j))
    (ht : ∀ (s : Shared) (H : Hp) (C : Addr) (cl : List (Str × Addr)) (fp : List Addr), PTs (X.blk s H scope (compEnvC scope cl C X.env) fp) ifs tt)
    (he : ∀ (s : Shared) (H : Hp) (C : Addr) (cl : List (Str × Addr)) (fp : List Addr), PE (X.blk s H scope (compEnvC scope cl C X.env) fp) elt te) (hsw : swapsWith (.ListComp elt [⟨.Name v vp, iter, ifs, 0⟩] scope pos) (some (.Name y py)) spos.line X.env = pure true) (hy : X.N[i]? = some y := by rfl) (hyl : X.env.scope.names.lookup y = some .local := by rfl) (hc : X.calm = true := by rfl)
    (hs : ∀ x, foldedSetIterable (iter) X.env x = pure x := by intro _; rfl) : PS X (.Assign [.Name y py] (.ListComp elt [⟨.Name v vp, iter, ifs, 0⟩] scope pos) spos) (fun D σ H => (cLcS ta j tt te) σ H fun x H1 => D.nx (σ.set i (some x)) H1) := by
  exact PSto (ps_setLc (i := i) (own := [(v, j)]) (g := gName j) hc hN hy hyl hsw (pi_str (PEup hl)) (blkOk_by ok) hv (fun s H C cl fp => PTsup (ht s H C cl fp)) he hs) fun D σ H q => lcS_to q
theorem c_lcR {ea : Expr} {tA : TA} {rp cp : Pos} (hl : PA X [ea] tA) (hm : X.mg "range" = none) (hN : X.N.Nodup) (hj : X.N[j]? = some v) (ok : blkC X.N X.env.scope scope [(v, j)] = true)
    (hv : ∀ (s : Shared) (H : Hp) (C : Addr) (cl : List (Str × Addr)) (fp : List Addr), PG (X.blk s H scope (compEnvC scope cl C X.env) fp) (.Name v vp) (gName j))
    (ht : ∀ (s : Shared) (H : Hp) (C : Addr) (cl : List (Str × Addr)) (fp : List Addr), PTs (X.blk s H scope (compEnvC scope cl C X.env) fp) ifs tt)
    (he : ∀ (s : Shared) (H : Hp) (C : Addr) (cl : List (Str × Addr)) (fp : List Addr), PE (X.blk s H scope (compEnvC scope cl C X.env) fp) elt te) (hg : Gl X "range" := by rfl) (hr : starEach [ea] X.env = [(false, eval ea X.env)] := by rfl) (hc : X.calm = true := by rfl) (hs : ∀ x, foldedSetIterable (.Call (.Name "range" rp) [ea] [] cp) X.env x = pure x := by intro _; rfl) :
    PE X (.ListComp elt [⟨.Name v vp, .Call (.Name "range" rp) [ea] [] cp, ifs, 0⟩] scope pos) (cLcR tA j tt te) := by
  exact PEto (pe_lc (own := [(v, j)]) (g := gName j) hc hN (pi_range1 hg hm (PAup hl) hr) (blkOk_by ok) hv (fun s H C cl fp => PTsup (ht s H C cl fp)) he hs) fun σ H Q q => lcR_to q
theorem s_lcR (i : Nat) {y : Str} {py spos : Pos} {ea : Expr} {tA : TA} {rp cp : Pos} (hl : PA X [ea] tA) (hm : X.mg "range" = none) (hN : X.N.Nodup) (hj : X.N[j]? = some v) (ok : blkC X.N X.env.scope scope [(v, j)] = true)
    (hv : ∀ (s : Shared) (H : Hp) (C : Addr) (cl : List (Str × Addr)) (fp : List Addr), PG (X.blk s H scope (compEnvC scope cl C X.env) fp) (.Name v vp) (gName j))
    (ht : ∀ (s : Shared) (H : Hp) (C : Addr) (cl : List (Str × Addr)) (fp : List Addr), PTs (X.blk s H scope (compEnvC scope cl C X.env) fp) ifs tt)
    (he : ∀ (s : Shared) (H : Hp) (C : Addr) (cl : List (Str × Addr)) (fp : List Addr), PE (X.blk s H scope (compEnvC scope cl C X.env) fp) elt te) (hsw : swapsWith (.ListComp elt [⟨.Name v vp, .Call (.Name "range" rp) [ea] [] cp, ifs, 0⟩] scope pos) (some (.Name y py)) spos.line X.env = pure true) (hy : X.N[i]? = some y := by rfl) (hyl : X.env.scope.names.lookup y = some .local := by rfl) (hg : Gl X "range" := by rfl) (hr : starEach [ea] X.env = [(false, eval ea X.env)] := by rfl) (hc : X.calm = true := by rfl)
    (hs : ∀ x, foldedSetIterable (.Call (.Name "range" rp) [ea] [] cp) X.env x = pure x := by intro _; rfl) : PS X (.Assign [.Name y py] (.ListComp elt [⟨.Name v vp, .Call (.Name "range" rp) [ea] [] cp, ifs, 0⟩] scope pos) spos) (fun D σ H => (cLcR tA j tt te) σ H fun x H1 => D.nx (σ.set i (some x)) H1) := by
  exact PSto (ps_setLc (i := i) (own := [(v, j)]) (g := gName j) hc hN hy hyl hsw (pi_range1 hg hm (PAup hl) hr) (blkOk_by ok) hv (fun s H C cl fp => PTsup (ht s H C cl fp)) he hs) fun D σ H q => lcR_to q
/-! ### statements -/
def cIfS (c : TT) (t u : TS) : TS := fun D σ H => c σ H fun b H1 => cCond b (t D σ H1) (u D σ H1)
variable {t u tb' : TS} {st : Stmt} {rest body : List Stmt}
theorem s_if {c : Expr} {a b : List Stmt} {tc : TT} (hc : PT X c tc) (ha : PSs X a t) (hb : PSs X b u) : PS X (.If c a b pos) (cIfS tc t u) := PSto (ps_if (PTup hc) ha hb) fun D σ H q => ⟨_, q, fun c H1 q1 => cCond_if q1⟩
def cSet (te : TE) (i : Nat) : TS := fun D σ H => te σ H fun x H1 => D.nx (σ.set i (some x)) H1
theorem s_set (i : Nat) {x : Str} {e : Expr} {te : TE} {pos' : Pos} (hN : X.N.Nodup) (he : PE X e te) (hi : X.N[i]? = some x := by rfl) (hx : Loc X.env.scope x := by first | exact Or.inl rfl | exact Or.inr rfl) (hs : swapsWith e (some (.Name x pos')) pos.line X.env = pure false := by rfl)
    (hf : X.fn x = true ∨ X.env.scope.names.lookup x = some .local := by first | exact .inl rfl | exact .inr rfl | assumption) : PS X (.Assign [.Name x pos'] e pos) (cSet te i) := PSto (ps_set hN hi hx he hs hf) fun _ _ _ q => q
theorem s_ret (he : PE X e te) : PS X (.Return (some e) pos) (tRet te) := ps_ret he
theorem s_drop (he : PE X e te) (hs : swapsWith e none pos.line X.env = pure false := by rfl) : PS X (.Expr e pos) (tDrop te) := ps_expr he hs
/-- o[i] = e of a list -/
def rSet (o i x : V) (H : Hp) (Q : Hp → Prop) : Prop := match o, i with
  | .ref p, .int k => ∃ xs j, H p = some (.lst xs) ∧ ixN xs.length k = some j ∧ Q (upd H p (.lst (xs.set j x)))
  | _, _ => False
def cSetI (te to ti : TE) : TS := fun D σ H => te σ H fun x H1 => to σ H1 fun o H2 => ti σ H2 fun i H3 => rSet o i x H3 fun H4 => D.nx σ H4
theorem PGto {tg : Expr} {g g' : TG} (h : PG X tg g) (w : ∀ v σ H Q, g' v σ H Q → g v σ H Q) : PG X tg g' := ⟨fun pins s σ H v u Q I r q => h.run pins s σ H v u Q I r (w v σ H Q q)⟩
theorem s_setI {o i : Expr} {to ti : TE} {p : Pos} (he : PE X e te) (ho : PE X o to) (hi : PE X i ti)
    (ha : ∀ v, assign (.Subscript o i p) X.env v = (do
      let ov ← holding [v] (eval o X.env)
      let iv ← holding [v, ov] (eval i X.env)
      standAt p
      holding [v, ov, iv] (setItem ov iv v)
      release [v, ov, iv] []) := by intro _; rfl) (hs : swapsWithSole [.Subscript o i p] e pos.line X.env = pure false := by rfl) (hw : swappedStores [.Subscript o i p] e X.env = pure none := by rfl)
    (h1 : (assignEach [.Subscript o i p] X.env).map (·.2) = [assign (.Subscript o i p) X.env] := by rfl) : PS X (.Assign [.Subscript o i p] e pos) (cSetI te to ti) := by
  refine PSto (ps_asg (PEup he) (pg_sub (PEup ho) (PEup hi) set_list ha) hs hw h1) fun D σ H q => ?_
  refine ⟨_, q, fun x H1 q1 => ⟨_, q1, fun o H2 q2 => ⟨_, q2, fun i H3 q3 => ?_⟩⟩⟩
  unfold rSet at q3
  split at q3
  · obtain ⟨xs, j, h, h1, q⟩ := q3
    exact ⟨_, xs, _, j, rfl, rfl, h, h1, q⟩
  · exact q3.elim
/-- xs.append(e) -/
def rApp (l x : V) (H : Hp) (Q : Hp → Prop) : Prop := match l with
  | .ref p => ∃ xs, H p = some (.lst xs) ∧ xs.length < sizeLine ∧ Q (upd H p (.lst (xs ++ [x])))
  | _ => False
end
/-! ### loops -/
/-- the end of a turn -/
def turnD (D : Ends) (N : L2.St → Hp → Prop) : Ends := { D with nx := N, ct := N, bk := D.nx }
def cForL (K : PySem.W.Frag) (tl : TE) (j : Nat) (tb : TS) : TS := fun D σ H => tl σ H fun x H1 => match x with
  | .ref a => ∃ xs, SqL K H1 a xs ∧ ∃ Pv : Nat → L2.St → Hp → Prop, Pv 0 σ H1 ∧ (∀ i σ H, i ≤ xs.length → Pv i σ H → SqL K H a xs) ∧
      (∀ i x σ H, xs[i]? = some x → Pv i σ H → tb (turnD D (Pv (i + 1))) (σ.set j (some x)) H) ∧ (∀ σ H, Pv xs.length σ H → D.nx σ H)
  | _ => False
def cForS (tl : TE) (j : Nat) (tb : TS) : TS := fun D σ H => tl σ H fun x H1 => match x with
  | .str z => ∃ Pv : Nat → L2.St → Hp → Prop, Pv 0 σ H1 ∧
      (∀ i c σ H, z.cps[i]? = some c → Pv i σ H → tb (turnD D (Pv (i + 1))) (σ.set j (some (.str ⟨#[c]⟩))) H) ∧ (∀ σ H, Pv z.cps.size σ H → D.nx σ H)
  | _ => False
def cForR1 (tl : TA) (j : Nat) (tb : TS) : TS := fun D σ H => tl σ H fun vs H1 => match vs with
  | [.int n] => (-(2 ^ 62) ≤ n ∧ n < 2 ^ 62) ∧ ∃ Pv : Nat → L2.St → Hp → Prop, Pv 0 σ H1 ∧
      (∀ (i : Nat) σ H, i < n.toNat → Pv i σ H → tb (turnD D (Pv (i + 1))) (σ.set j (some (.int (i : Int)))) H) ∧ (∀ σ H, Pv n.toNat σ H → D.nx σ H)
  | _ => False
def cForR2 (tl : TA) (j : Nat) (tb : TS) : TS := fun D σ H => tl σ H fun vs H1 => match vs with
  | [.int lo, .int n] => (-(2 ^ 62) ≤ lo ∧ lo < 2 ^ 62 ∧ -(2 ^ 62) ≤ n ∧ n < 2 ^ 62) ∧ ∃ Pv : Nat → L2.St → Hp → Prop, Pv 0 σ H1 ∧
      (∀ (i : Nat) σ H, i < (n - lo).toNat → Pv i σ H → tb (turnD D (Pv (i + 1))) (σ.set j (some (.int (lo + (i : Int))))) H) ∧ (∀ σ H, Pv (n - lo).toNat σ H → D.nx σ H)
  | _ => False
section
variable {X : Cx} {pos : Pos} {iter : Expr} {v : Str} {vp : Pos} {j : Nat} {body : List Stmt} {tb : TS} {tl : TE} {tA : TA}
theorem s_forL {K : PySem.W.Frag} (hK : X.K = K) (j : Nat) (hl : PE X iter tl) (hN : X.N.Nodup) (hb : PSs X body tb) (hp : PassesOwn (model X.prog X.w) X.A X.env X.xe := by exact PassesOwn.never) (hc : X.calm = true := by rfl) (hj : X.N[j]? = some v := by rfl) (hx : Loc X.env.scope v := by first | exact Or.inl rfl | exact Or.inr rfl)
    (hf : X.fn v = true ∨ X.env.scope.names.lookup v = some .local := by first | exact .inl rfl | exact .inr rfl | assumption) (hs : ∀ x, foldedSetIterable iter X.env x = pure x := by intro _; rfl) : PS X (.For (.Name v vp) iter body [] pos) (cForL K tl j tb) := by
  subst hK
  refine PSto (ps_for hp hc (pi_list (PEup hl)) (pg_name (i := j) hN hj hx hf) hb hs) fun D σ H q => ?_
  refine ⟨_, q, fun x H1 q1 => ?_⟩
  split at q1
  · obtain ⟨xs, hx, Pv, h0, h1, h2, h3⟩ := q1
    exact ⟨_, rfl, ⟨xs, hx⟩, for_list (xs := xs) Pv h0 h1 (fun i x σ H hx p => h2 i x σ H hx p) h3⟩
  · exact q1.elim
theorem s_forS (j : Nat) (hl : PE X iter tl) (hN : X.N.Nodup) (hb : PSs X body tb) (hp : PassesOwn (model X.prog X.w) X.A X.env X.xe := by exact PassesOwn.never) (hc : X.calm = true := by rfl) (hj : X.N[j]? = some v := by rfl) (hx : Loc X.env.scope v := by first | exact Or.inl rfl | exact Or.inr rfl)
    (hf : X.fn v = true ∨ X.env.scope.names.lookup v = some .local := by first | exact .inl rfl | exact .inr rfl | assumption) (hs : ∀ x, foldedSetIterable iter X.env x = pure x := by intro _; rfl) : PS X (.For (.Name v vp) iter body [] pos) (cForS tl j tb) := by
  refine PSto (ps_for hp hc (pi_str (PEup hl)) (pg_name (i := j) hN hj hx hf) hb hs) fun D σ H q => ?_
  refine ⟨_, q, fun x H1 q1 => ?_⟩
  split at q1
  · obtain ⟨Pv, h0, h2, h3⟩ := q1
    refine ⟨_, rfl, for_it walk_str Pv h0 (fun _ _ _ _ _ => trivial) (fun i x σ H H' hi p y => ?_) h3⟩
    obtain ⟨rfl, c, hc, rfl⟩ := y
    exact h2 i c σ _ hc p
  · exact q1.elim
theorem s_forR1 (j : Nat) {ea : Expr} {rp cp : Pos} (hl : PA X [ea] tA) (hm : X.mg "range" = none) (hN : X.N.Nodup) (hb : PSs X body tb) (hp : PassesOwn (model X.prog X.w) X.A X.env X.xe := by exact PassesOwn.never) (hc : X.calm = true := by rfl) (hj : X.N[j]? = some v := by rfl)
    (hx : Loc X.env.scope v := by first | exact Or.inl rfl | exact Or.inr rfl) (hf : X.fn v = true ∨ X.env.scope.names.lookup v = some .local := by first | exact .inl rfl | exact .inr rfl | assumption) (hg : Gl X "range" := by rfl) (hr : starEach [ea] X.env = [(false, eval ea X.env)] := by rfl)
    (hs : ∀ x, foldedSetIterable (.Call (.Name "range" rp) [ea] [] cp) X.env x = pure x := by intro _; rfl) : PS X (.For (.Name v vp) (.Call (.Name "range" rp) [ea] [] cp) body [] pos) (cForR1 tA j tb) := by
  refine PSto (ps_for hp hc (pi_range1 hg hm (PAup hl) hr) (pg_name (i := j) hN hj hx hf) hb hs) fun D σ H q => ?_
  refine ⟨_, q, fun x H1 q1 => ?_⟩
  split at q1
  · rename_i n
    obtain ⟨⟨b1, b2⟩, Pv, h0, h2, h3⟩ := q1
    refine ⟨n, rfl, b1, b2, for_range (n := n.toNat) Pv h0 (fun i σ H hi p => ?_) h3⟩
    have e : (0 : Int) + (i : Int) = (i : Int) := by omega
    rw [e]
    exact h2 i σ H hi p
  · exact q1.elim
theorem s_forR2 (j : Nat) {ea eb : Expr} {rp cp : Pos} (hl : PA X [ea, eb] tA) (hm : X.mg "range" = none) (hN : X.N.Nodup) (hb : PSs X body tb) (hp : PassesOwn (model X.prog X.w) X.A X.env X.xe := by exact PassesOwn.never) (hc : X.calm = true := by rfl) (hj : X.N[j]? = some v := by rfl)
    (hx : Loc X.env.scope v := by first | exact Or.inl rfl | exact Or.inr rfl) (hf : X.fn v = true ∨ X.env.scope.names.lookup v = some .local := by first | exact .inl rfl | exact .inr rfl | assumption) (hg : Gl X "range" := by rfl)
    (hr : starEach [ea, eb] X.env = [(false, eval ea X.env), (false, eval eb X.env)] := by rfl) (hr2 : starEach [eb] X.env = [(false, eval eb X.env)] := by rfl)
    (hs : ∀ x, foldedSetIterable (.Call (.Name "range" rp) [ea, eb] [] cp) X.env x = pure x := by intro _; rfl) : PS X (.For (.Name v vp) (.Call (.Name "range" rp) [ea, eb] [] cp) body [] pos) (cForR2 tA j tb) := by
  refine PSto (ps_for hp hc (pi_range2 hg hm (PAup hl) hr hr2) (pg_name (i := j) hN hj hx hf) hb hs) fun D σ H q => ?_
  refine ⟨_, q, fun x H1 q1 => ?_⟩
  split at q1
  · rename_i lo n
    obtain ⟨b, Pv, h0, h2, h3⟩ := q1
    exact ⟨lo, n, rfl, b, for_range (lo := lo) (n := (n - lo).toNat) Pv h0 (fun i σ H hi p => h2 i σ H hi p) h3⟩
  · exact q1.elim
/-- xs.append(e), a statement -/
def cApp (to te : TE) : TS := fun D σ H => to σ H fun l H1 => match l with
  | .ref p => ∃ xs, H1 p = some (.lst xs) ∧ te σ H1 fun x H2 => ∃ ys, H2 p = some (.lst ys) ∧ ys.length < sizeLine ∧ D.nx σ (upd H2 p (.lst (ys ++ [x])))
  | _ => False
theorem s_app {o e : Expr} {to te : TE} {apos cpos : Pos} (ho : PE X o to) (he : PE X e te) (hbase : attributeBase o "append" X.env (eval o X.env) = eval o X.env := by rfl)
    (hfew : ((backTo cpos (starEach (e :: []) X.env)).all (fun x => !x.1) && (backToKw cpos (keywordEach [] X.env)).all (fun x => x.1.isSome)
      && decide ((e :: []).length + ([] : List Keyword).length + (if ([] : List Keyword).isEmpty then 0 else 1) < 30)) = true := by rfl)
    (hline : (apos.endLine == cpos.line) = true := by rfl) (hs : starEach (e :: []) X.env = (false, eval e X.env) :: starEach [] X.env := by rfl) (hplain : (backTo cpos (starEach [] X.env)).any (·.1) = false := by rfl)
    (hsw : swapsWith (.Call (.Attribute o "append" apos) [e] [] cpos) none pos.line X.env = pure false := by rfl) : PS X (.Expr (.Call (.Attribute o "append" apos) [e] [] cpos) pos) (cApp to te) := by
  refine PSto (ps_expr (pe_bm PySem.F.plainAttrs_list PySem.F.slot_list_append PySem.F.type_list_append mt_append (PEup ho) (pa_cons (PEup he) pa_nil hs) hbase hfew hline hs hplain) hsw) fun D σ H q => ?_
  refine ⟨_, q, fun x H1 q1 => ?_⟩
  split at q1
  · rename_i p
    obtain ⟨xs, h, q1⟩ := q1
    refine ⟨.inl ⟨rfl, _, SqL.of h⟩, ⟨_, q1, fun y H2 q2 => ?_⟩⟩
    obtain ⟨ys, h2, hz, q2⟩ := q2
    exact ⟨p, ys, y, rfl, rfl, h2, hz, q2⟩
  · exact q1.elim
end
/-! ### == of data -/
def rEqDK (K : PySem.W.Frag) : R2 := fun x y H Q => ∃ d e, Dp K H x d ∧ Dp K H y e ∧ SeqAt.shaped d = true ∧ SeqAt.shaped e = true ∧ Gen (PyData.eqv d e) fun k => Q (.bl k) H
theorem o_eqD {X : Cx} {K : PySem.W.Frag} (hK : X.K = K) (hu : X.A.units + 64 < cLine) : OpR X (compareOp .Eq) (rEqDK K) := hK ▸ ORto (op_eqD hu) fun x y H Q q => by
  obtain ⟨d, e, h1, h2, h3, h4, q⟩ := q
  exact ⟨d, e, h1, h2, h3, h4, q.to⟩
end CW

/-! Mirrors and facts that many laws share: values, scalars, heaps, data. -/
namespace VM
open PySem PySem.Spec PyProof.Rows L2 CW K1
/-- scalars -/
inductive Sc : V → Prop where
  | non : Sc .non
  | bl (b : Bool) : Sc (.bl b)
  | int (i : Int) : Sc (.int i)
  | str (x : Str) : Sc (.str x)
/-- values -/
inductive Gv : V → Prop where
  | non : Gv .non
  | bl (b : Bool) : Gv (.bl b)
  | int (i : Int) (h0 : 0 ≤ i) (h1 : i ≤ 999) : Gv (.int i)
  | str (x : Str) (h : x.length ≤ 40) : Gv (.str x)
theorem Gv.sc {v : V} (g : Gv v) : Sc v := by
  cases g
  · exact .non
  · exact .bl _
  · exact .int _
  · exact .str _
def eqv : V → V → Bool
  | .non, .non => true
  | .int i, .int j => decide (i = j)
  | .bl i, .bl j => decide (i = j)
  | .str i, .str j => decide (i = j)
  | _, _ => false
theorem eqv_self {v : V} (s : Sc v) : eqv v v = true := by cases s <;> simp [eqv]
theorem eqv_iff {a b : V} (sa : Sc a) (sb : Sc b) : eqv a b = true ↔ a = b := by
  cases sa <;> cases sb <;> simp [eqv]
def txt : V → Str
  | .non => "none"
  | .bl false => "false"
  | .bl true => "true"
  | .int i => (toString i : String)
  | .str x => x
  | _ => ""
def emp : V → Bool
  | .non => true
  | .bl b => !b
  | .int i => !(i != 0)
  | .str x => !((x.length : Int) != 0)
  | _ => false
def isb : V → Bool
  | .bl _ => true
  | _ => false
theorem log_small {i : Int} (h0 : 0 ≤ i) (h1 : i ≤ 999) : i.natAbs.log2 < 1920 := by
  have h2 : i.natAbs ≤ 999 := by omega
  have h3 : i.natAbs.log2 ≤ i.natAbs := Nat.log2_le_self _
  omega
theorem same_upd {H : Hp} {p : Addr} {o : HO} (h : H p = none) : Same H (upd H p o) := fun b x e => by
  rw [upd_ne (ne_of_none e h)]
  exact e
theorem same_upd2 {H H' : Hp} {p : Addr} {o : HO} (s : Same H H') (h : H p = none) : Same H (upd H' p o) := fun b x e => by
  rw [upd_ne (ne_of_none e h)]
  exact s b x e
theorem Same.seqT {K : PySem.W.Frag} {H H' : Hp} {a : Addr} {xs : List V} (e : Same H H') (h : SqT K H a xs) : SqT K H' a xs := by
  rcases h with (h | ⟨o, h⟩) | h
  · exact .inl (.inl (e _ _ h))
  · exact .inl (.inr ⟨o, e _ _ h⟩)
  · exact .inr h
theorem len_lt {row : List Int} {n : Nat} (h : row.length ≤ n) (hn : n ≤ 5000) : (row.map V.int).length < sizeLine := by
  rw [List.length_map]
  exact Nat.lt_of_le_of_lt (Nat.le_trans h hn) (by decide)
theorem map_snoc (row : List Int) (x : Int) : row.map V.int ++ [V.int x] = (row ++ [x]).map V.int := by
  rw [List.map_append]
  rfl
theorem self_eq {b : Bool} : decide (b = b) = true := decide_eq_true rfl
theorem foldl_size (c : Array Nat) : ∀ (n : Nat) (a : Array Nat), ((List.replicate n c).foldl (· ++ ·) a).size = a.size + n * c.size
  | 0, a => by simp
  | n + 1, a => by
    rw [List.replicate_succ, List.foldl_cons, foldl_size c n, Array.size_append, Nat.succ_mul]
    omega
theorem mul_len {z : Str} {n : Int} (h1 : z.length = 1) : (Txt.mul z n).length = n.toNat := by
  unfold Txt.mul
  by_cases h : n < 1
  · rw [if_pos h]
    have : n.toNat = 0 := by omega
    rw [this]
    rfl
  · rw [if_neg h]
    by_cases h2 : (n == 1 || z.length == 0) = true
    · rw [if_pos h2, h1]
      rw [h1] at h2
      have : n = 1 := by simpa using h2
      subst this
      rfl
    · rw [if_neg h2]
      show ((List.replicate n.toNat z.cps).foldl (· ++ ·) #[]).size = n.toNat
      rw [foldl_size]
      have : z.cps.size = 1 := h1
      rw [this]
      simp
theorem small_mul {z : Str} {n : Int} (h1 : z.length = 1) (h2 : 0 ≤ n) (h3 : n ≤ 100) : MulOk z n := by
  refine ⟨?_, fun a b => ?_, fun a b => ?_⟩
  · have e1 : ¬ n < -(2 ^ 63 : Int) := by omega
    have e2 : ¬ n ≥ 2 ^ 63 := by omega
    rw [decide_eq_false e1, decide_eq_false e2]
    rfl
  · rw [h1]
    have : (1 : Int) ≤ (2 ^ 63 - 1) / n := by
      rw [Int.le_ediv_iff_mul_le (by omega)]
      omega
    omega
  · rw [h1]
    have h4 : 1 * n.toNat ≤ 1000 := by omega
    have h5 := small1000 h4
    show decide (1 * n.toNat > sizeLine) = false
    exact decide_eq_false (by omega)
/-- the box at b: its row at r, its place -/
def BoxAt (H : Hp) (b r : Addr) (at' : Int) (row : List Int) : Prop := H b = some (.lst [.ref r, .int at']) ∧ H r = some (.lst (row.map V.int)) ∧ 0 ≤ at' ∧ r ≠ b
/-- all but b stands -/
def But (b : Addr) (H H' : Hp) : Prop := ∀ c o, c ≠ b → H c = some o → H' c = some o
theorem But.refl (b : Addr) (H : Hp) : But b H H := fun _ _ _ e => e
theorem But.trans {b : Addr} {H H1 H2 : Hp} (s : But b H H1) (t : But b H1 H2) : But b H H2 := fun c o n e => t c o n (s c o n e)
theorem But.of {b : Addr} {H H' : Hp} (s : Same H H') : But b H H' := fun c o _ e => s c o e
theorem But.upd {b : Addr} {H : Hp} {o : HO} : But b H (upd H b o) := fun c x n e => by
  rw [upd_ne n]
  exact e
theorem But.seq {K : PySem.W.Frag} {b : Addr} {H H' : Hp} {a : Addr} {xs : List V} (e : But b H H') (n : a ≠ b) (h : SqL K H a xs) : SqL K H' a xs := by
  rcases h with (h | ⟨o, h⟩) | h
  · exact .inl (.inl (e _ _ n h))
  · exact .inl (.inr ⟨o, e _ _ n h⟩)
  · exact .inr h
theorem But.seqT {K : PySem.W.Frag} {b : Addr} {H H' : Hp} {a : Addr} {xs : List V} (e : But b H H') (n : a ≠ b) (h : SqT K H a xs) : SqT K H' a xs := by
  rcases h with (h | ⟨o, h⟩) | h
  · exact .inl (.inl (e _ _ n h))
  · exact .inl (.inr ⟨o, e _ _ n h⟩)
  · exact .inr h
def BoxR (H : Hp) (b r : Addr) (row : List Int) : Prop := ∃ at', BoxAt H b r at' row
theorem BoxAt.but {b r : Addr} {at' : Int} {row : List Int} {H : Hp} (B : BoxAt H b r at' row) {p : Addr} {o : HO} (hp : H p = none) : BoxAt (upd H p o) b r at' row := ⟨by rw [upd_ne (ne_of_none B.1 hp)]; exact B.1, by rw [upd_ne (ne_of_none B.2.1 hp)]; exact B.2.1, B.2.2.1, B.2.2.2⟩
theorem BoxAt.next {b r : Addr} {at' : Int} {row : List Int} {H : Hp} (B : BoxAt H b r at' row) : BoxAt (upd H b (.lst [.ref r, .int (at' + 1)])) b r (at' + 1) row := ⟨upd_same, by rw [upd_ne B.2.2.2]; exact B.2.1, by have := B.2.2.1; omega, B.2.2.2⟩
theorem at_nat {α : Type} {xs : List α} {i : Int} {v : α} (h0 : 0 ≤ i) (h : xs[i.toNat]? = some v) : atI xs i = some v := by
  have e : i = (i.toNat : Int) := by omega
  rw [e]
  exact atI_nat h
/-! ### data: scalars, tuples and lists of such -/
inductive Da where
  | v (x : V)
  | tup (xs : List Da)
  | lst (xs : List Da)
mutual
def sameD : Da → Da → Bool
  | .v a, .v b => eqv a b
  | .tup xs, .tup ys => sameL xs ys
  | .lst xs, .lst ys => sameL xs ys
  | _, _ => false
def sameL : List Da → List Da → Bool
  | [], [] => true
  | x :: xs, y :: ys => sameD x y && sameL xs ys
  | _, _ => false
end
/-- d stands at x, at most n deep -/
def DaAt (K : PySem.W.Frag) (H : Hp) : Nat → V → Da → Prop
  | 0, _, _ => False
  | n + 1, x, .v y => x = y ∧ Sc y
  | n + 1, x, .tup ds => ds.length ≤ 100000 ∧ ∃ a xs, x = .ref a ∧ SqT K H a xs ∧ Paired (DaAt K H n) xs ds
  | n + 1, x, .lst ds => ds.length ≤ 100000 ∧ ∃ a xs, x = .ref a ∧ SqL K H a xs ∧ Paired (DaAt K H n) xs ds
theorem paired_mono {α β : Type} {R S : α → β → Prop} (m : ∀ a b, R a b → S a b) : ∀ {xs : List α} {ys : List β}, Paired R xs ys → Paired S xs ys
  | _, _, .nil => .nil
  | _, _, .cons h t => .cons (m _ _ h) (paired_mono m t)
theorem pget {α β : Type} {R : α → β → Prop} : ∀ {xs : List α} {ys : List β} {i : Nat} {x : α}, Paired R xs ys → xs[i]? = some x → ∃ y, ys[i]? = some y ∧ R x y
  | _, _, _, _, .nil, e => by simp at e
  | _, _, 0, _, .cons h _, e => by
    simp only [List.getElem?_cons_zero, Option.some.injEq] at e
    subst e
    exact ⟨_, rfl, h⟩
  | _, _, i + 1, _, .cons _ t, e => pget (i := i) t (by simpa using e)
theorem pget2 {α β : Type} {R : α → β → Prop} {xs : List α} {ys : List β} {i : Nat} (p : Paired R xs ys) (h : i < ys.length) : ∃ x, xs[i]? = some x ∧ R x ys[i] := by
  have hl := Paired.length p
  have h1 : i < xs.length := by omega
  obtain ⟨y, e, r⟩ := pget p (List.getElem?_eq_getElem h1)
  rw [List.getElem?_eq_getElem h] at e
  cases e
  exact ⟨_, List.getElem?_eq_getElem h1, r⟩
/-- what carries lists and tuples carries data -/
theorem DaAt.carry {K : PySem.W.Frag} {H H' : Hp} (ml : ∀ a xs, SqL K H a xs → SqL K H' a xs) (mt : ∀ a xs, SqT K H a xs → SqT K H' a xs) : ∀ {n : Nat} {x : V} {d : Da}, DaAt K H n x d → DaAt K H' n x d
  | n + 1, _, .v _, h => h
  | n + 1, _, .tup _, ⟨z, a, xs, e, s, p⟩ => ⟨z, a, xs, e, mt _ _ s, paired_mono (fun _ _ h => DaAt.carry ml mt h) p⟩
  | n + 1, _, .lst _, ⟨z, a, xs, e, s, p⟩ => ⟨z, a, xs, e, ml _ _ s, paired_mono (fun _ _ h => DaAt.carry ml mt h) p⟩
theorem DaAt.same {K : PySem.W.Frag} {H H' : Hp} {n : Nat} {x : V} {d : Da} (s : Same H H') (h : DaAt K H n x d) : DaAt K H' n x d := DaAt.carry (fun _ _ => s.seq) (fun _ _ => Same.seqT s) h
theorem DaAt.up {K : PySem.W.Frag} {H : Hp} : ∀ {n : Nat} {x : V} {d : Da}, DaAt K H n x d → DaAt K H (n + 1) x d
  | n + 1, _, .v _, h => h
  | n + 1, _, .tup _, ⟨z, a, xs, e, s, p⟩ => ⟨z, a, xs, e, s, paired_mono (fun _ _ h => DaAt.up h) p⟩
  | n + 1, _, .lst _, ⟨z, a, xs, e, s, p⟩ => ⟨z, a, xs, e, s, paired_mono (fun _ _ h => DaAt.up h) p⟩
theorem sameL_take : ∀ {xs ys : List Da} {i : Nat} {x y : Da}, xs[i]? = some x → ys[i]? = some y → sameL (xs.take (i + 1)) (ys.take (i + 1)) = (sameL (xs.take i) (ys.take i) && sameD x y)
  | [], _, _, _, _, h, _ => by simp at h
  | _ :: _, [], _, _, _, _, h => by simp at h
  | a :: xs, b :: ys, 0, x, y, h1, h2 => by
    simp only [List.getElem?_cons_zero, Option.some.injEq] at h1 h2
    subst h1 h2
    simp [sameL]
  | a :: xs, b :: ys, i + 1, x, y, h1, h2 => by
    have ih := sameL_take (xs := xs) (ys := ys) (i := i) (x := x) (y := y) (by simpa using h1) (by simpa using h2)
    rw [List.take_succ_cons, List.take_succ_cons, List.take_succ_cons, List.take_succ_cons]
    simp only [sameL]
    rw [ih, Bool.and_assoc]
theorem sameL_len : ∀ {xs ys : List Da}, sameL xs ys = true → xs.length = ys.length
  | [], [], _ => rfl
  | [], _ :: _, h => by simp [sameL] at h
  | _ :: _, [], h => by simp [sameL] at h
  | a :: xs, b :: ys, h => by
    simp only [sameL, Bool.and_eq_true] at h
    rw [List.length_cons, List.length_cons, sameL_len h.2]
theorem sameL_false {xs ys : List Da} {i : Nat} {x y : Da} (h1 : xs[i]? = some x) (h2 : ys[i]? = some y) (h : sameD x y = false) : sameL xs ys = false := by
  induction i generalizing xs ys with
  | zero =>
    cases xs with
    | nil => simp at h1
    | cons a xs =>
      cases ys with
      | nil => simp at h2
      | cons b ys =>
        simp only [List.getElem?_cons_zero, Option.some.injEq] at h1 h2
        subst h1 h2
        simp [sameL, h]
  | succ i ih =>
    cases xs with
    | nil => simp at h1
    | cons a xs =>
      cases ys with
      | nil => simp at h2
      | cons b ys =>
        have := ih (xs := xs) (ys := ys) (by simpa using h1) (by simpa using h2)
        simp [sameL, this]
/-- all tuples stand -/
def TK (H H' : Hp) : Prop := ∀ a xs, H a = some (.tup xs) → H' a = some (.tup xs)
theorem TK.refl (H : Hp) : TK H H := fun _ _ e => e
theorem TK.trans {H H1 H2 : Hp} (s : TK H H1) (t : TK H1 H2) : TK H H2 := fun a xs e => t a xs (s a xs e)
theorem TK.of {H H' : Hp} (s : Same H H') : TK H H' := fun a xs e => s a _ e
theorem TK.but {b : Addr} {H H' : Hp} {xs : List V} (h : H b = some (.lst xs)) (s : But b H H') : TK H H' := fun a ys e => s a _ (fun q => by
  subst q
  rw [h] at e
  cases e) e
theorem TK.updL {p : Addr} {H : Hp} {xs : List V} {o : HO} (h : H p = some (.lst xs)) : TK H (upd H p o) := TK.but h But.upd
/-- tracked data without lists -/
def DtH (H : Hp) : Nat → V → Da → Prop
  | 0, _, _ => False
  | n + 1, x, .v y => x = y ∧ Sc y
  | n + 1, x, .tup ds => ds.length ≤ 100000 ∧ ∃ a xs, x = .ref a ∧ H a = some (.tup xs) ∧ Paired (DtH H n) xs ds
  | _ + 1, _, .lst _ => False
theorem DtH.keep {H H' : Hp} (s : TK H H') : ∀ {n : Nat} {x : V} {d : Da}, DtH H n x d → DtH H' n x d
  | n + 1, _, .v _, h => h
  | n + 1, _, .tup _, ⟨z, a, xs, e, h, p⟩ => ⟨z, a, xs, e, s _ _ h, paired_mono (fun _ _ h => DtH.keep s h) p⟩
theorem DtH.at {K : PySem.W.Frag} {H : Hp} : ∀ {n : Nat} {x : V} {d : Da}, DtH H n x d → DaAt K H n x d
  | n + 1, _, .v _, h => h
  | n + 1, _, .tup _, ⟨z, a, xs, e, h, p⟩ => ⟨z, a, xs, e, SqT.of h, paired_mono (fun _ _ h => DtH.at h) p⟩
theorem paired_map {α β γ : Type} {R : α → β → Prop} {f : γ → α} {g : γ → β} : ∀ {xs : List γ}, (∀ x ∈ xs, R (f x) (g x)) → Paired R (xs.map f) (xs.map g)
  | [], _ => .nil
  | x :: xs, h => .cons (h x (List.mem_cons_self ..)) (paired_map fun y hy => h y (List.mem_cons_of_mem _ hy))
theorem paired_snoc {α β : Type} {R : α → β → Prop} {xs : List α} {ys : List β} {x : α} {y : β} (p : Paired R xs ys) (h : R x y) : Paired R (xs ++ [x]) (ys ++ [y]) := by
  induction p with
  | nil => exact .cons h .nil
  | cons h1 _ ih => exact .cons h1 ih
theorem DtH.sc {H : Hp} {n : Nat} {v : V} (s : Sc v) : DtH H (n + 1) v (.v v) := ⟨rfl, s⟩
theorem is_sc {K : PySem.W.Frag} {T : String} {y : V} {H : Hp} {Q : VK} (s : Sc y) (q : Q (.bl false) H) : rIs1 K T isN y H Q := by
  cases s <;> exact q
end VM

/-! Further rules whose readings compute: x += e, slices, zip, dicts, sets, in. -/
namespace CW
open PySem PySem.Spec PyProof.Rows L2 K1
section
variable {X : Cx} {pos : Pos} {e a b : Expr} {te ta tb td ty : TE}
/-! ### x += e, ints -/
def cAug (i : Nat) (te : TE) : TS := fun D σ H => match σ[i]? with
  | some (some (.int a)) => te σ H fun y H1 => match y with
    | .int b => D.nx (σ.set i (some (.int (a + b)))) H1
    | _ => False
  | _ => False
theorem s_aug (i : Nat) {x : Str} {pos' : Pos} (hN : X.N.Nodup) (he : PE X e te) (hi : X.N[i]? = some x := by rfl) (hx : Loc X.env.scope x := by first | exact Or.inl rfl | exact Or.inr rfl) (hf : X.fn x = true ∨ X.env.scope.names.lookup x = some .local := by first | exact .inl rfl | exact .inr rfl | assumption) :
    PS X (.AugAssign (.Name x pos') .Add e pos) (cAug i te) := PSto (ps_aug hN hi hx (PEup he) ip_add hf) fun D σ H q => by
  unfold cAug at q
  split at q
  · rename_i k hk
    refine ⟨_, hk, _, q, fun y H1 q1 => ?_⟩
    split at q1
    · exact ⟨_, _, rfl, rfl, q1⟩
    · exact q1.elim
  · exact q.elim
/-! ### slices -/
def cPart (t : TE) : TO := fun σ H Q => t σ H fun x H1 => match x with
  | .int i => Q (some i) H1
  | _ => False
theorem o_none : PO X none tNoPart := po_none
theorem o_some (h : PE X e te) : PO X (some e) (cPart te) := ⟨fun pins s σ H Q I q => (po_some (PEup h)).run pins s σ H Q I ⟨_, q, fun x H1 q1 => by
  split at q1
  · exact ⟨_, rfl, q1⟩
  · exact q1.elim⟩⟩
def upO (t : TO) : TO := fun σ H Q => ∃ Q' : Option Int → Hp → Prop, t σ H Q' ∧ ∀ v H', Q' v H' → Q v H'
theorem POup {o : Option Expr} {t : TO} (h : PO X o t) : PO X o (upO t) := ⟨fun pins s σ H Q I ⟨Q', q, m⟩ => thn (h.run pins s σ H Q' I q) fun u s' ⟨v, H', I', r, q'⟩ => ⟨v, H', I', r, m v H' q'⟩⟩
def rSlC (K : PySem.W.Frag) : V → Option Int → Option Int → Hp → VK → Prop := fun x lo hi H Q => match x with
  | .ref a => (∃ xs, SqT K H a xs ∧ (HT.sIx xs.length 0 lo = 0 ∧ HT.sIx xs.length xs.length hi = xs.length → Q (.ref a) H) ∧ (¬ (HT.sIx xs.length 0 lo = 0 ∧ HT.sIx xs.length xs.length hi = xs.length) → ∀ p, H p = none → Q (.ref p) (upd H p (.tup (cutV xs lo hi))))) ∨
      (∃ xs, SqL K H a xs ∧ ∀ p, H p = none → Q (.ref p) (upd H p (.lst (cutV xs lo hi))))
  | .str z => z.length ≤ sizeLine ∧ Q (.str (cutS z lo hi)) H
  | _ => False
theorem sl_all {K : PySem.W.Frag} (hK : X.K = K) : SlR X (rSlC K) := by
  subst hK
  intro pins s σ H x v vl vu lo hi sl Q I rx hs pl pu h
  unfold rSlC at h
  split at h
  · rcases h with ⟨xs, h, q⟩ | ⟨xs, h, q⟩
    · exact sl_tupA pins s σ H _ v vl vu lo hi sl Q I rx hs pl pu ⟨_, xs, rfl, h, q⟩
    · exact sl_list pins s σ H _ v vl vu lo hi sl Q I rx hs pl pu ⟨_, xs, rfl, h, q⟩
  · exact sl_str pins s σ H _ v vl vu lo hi sl Q I rx hs pl pu ⟨_, rfl, h⟩
  · exact h.elim
def cSl (K : PySem.W.Frag) (te : TE) (tl th : TO) : TE := fun σ H Q => te σ H fun x H1 => tl σ H1 fun l H2 => th σ H2 fun u H3 => rSlC K x l u H3 Q
theorem c_sl {K : PySem.W.Frag} (hK : X.K = K) {lo hi : Option Expr} {tl th : TO} {p2 : Pos} (he : PE X e te) (hl : PO X lo tl) (hu : PO X hi th) : PE X (.Subscript e (.Slice lo hi none p2) pos) (cSl K te tl th) := pe_slice (sl_all hK) he hl hu
/-! ### in, not in: lists and tuples of flat items -/
def rInC (K : PySem.W.Frag) (neg : Bool) : R2 := fun x y H Q => match y with
  | .ref p => ∃ xs, (SqL K H p xs ∨ SqT K H p xs) ∧ flatV x = true ∧ xs.all flatV = true ∧ Gen (if neg then !inV x xs else inV x xs) fun k => Q (.bl k) H
  | _ => False
theorem rInC_to {K : PySem.W.Frag} {neg : Bool} {x y : V} {H : Hp} {Q : VK} (q : rInC K neg x y H Q) : rIn K neg x y H Q := by
  unfold rInC at q
  split at q
  · obtain ⟨xs, h1, h2, h3, q⟩ := q
    exact ⟨_, xs, rfl, h1, h2, h3, q.to⟩
  · exact q.elim
theorem o_inSeq {K : PySem.W.Frag} (hK : X.K = K) : OpR X (compareOp .In) (rInC K false) := hK ▸ ORto op_in_seq fun x y H Q q => rInC_to q
theorem o_notInSeq {K : PySem.W.Frag} (hK : X.K = K) : OpR X (compareOp .NotIn) (rInC K true) := hK ▸ ORto op_notIn_seq fun x y H Q q => rInC_to q
/-- x is not True, False, None -/
def rIsNotC : R2 := fun x y H Q => match isC x y with
  | some b => Q (.bl (!b)) H
  | none => False
/-! ### + of tuples, list * int -/
def rAddT (K : PySem.W.Frag) : R2 := fun x y H Q => match x, y with
  | .ref a, .ref b => ∃ xs ys, SqT K H a xs ∧ SqT K H b ys ∧ xs.length + ys.length ≤ sizeLine ∧
      (xs = [] → Q (.ref b) H) ∧ (xs ≠ [] → ys = [] → Q (.ref a) H) ∧ (xs ≠ [] → ys ≠ [] → ∀ p, H p = none → Q (.ref p) (upd H p (.tup (xs ++ ys))))
  | _, _ => False
theorem o_addT {K : PySem.W.Frag} (hK : X.K = K) : OpR X (binaryOp .Add) (rAddT K) := hK ▸ ORto op_catA fun x y H Q q => by
  unfold rAddT at q
  split at q
  · obtain ⟨xs, ys, q⟩ := q
    exact ⟨_, _, xs, ys, rfl, rfl, q⟩
  · exact q.elim
def rMulL : R2 := fun x y H Q => match x, y with
  | .ref l, .int k => ∃ xs, H l = some (.lst xs) ∧ -(2 ^ 63) ≤ k ∧ k < 2 ^ 63 ∧ xs.length * k.toNat ≤ sizeLine ∧ ∀ p, H p = none → Q (.ref p) (upd H p (.lst (List.replicate k.toNat xs).flatten))
  | _, _ => False
theorem o_mulL : OpR X (binaryOp .Mult) rMulL := ORto op_rep fun x y H Q q => by
  unfold rMulL at q
  split at q
  · obtain ⟨xs, q⟩ := q
    exact ⟨_, _, xs, rfl, rfl, q⟩
  · exact q.elim
/-! ### dicts of the heap, keys texts or ints -/
def keyOf : V → Option Key
  | .int i => some (.inl i)
  | .str x => some (.inr x)
  | _ => none
theorem keyOf_kV {y : V} {k : Key} (h : keyOf y = some k) : y = kV k := by
  cases y <;> simp [keyOf] at h <;> subst h <;> rfl
/-- d[k] -/
def cDGet (td ty : TE) : TE := fun σ H Q => td σ H fun x H1 => ty σ H1 fun y H2 => match x, keyOf y with
  | .ref a, some k => ∃ kvs v, Rd H2 a (.dK kvs) ∧ valV kvs k = some v ∧ Q v H2
  | _, _ => False
theorem c_dget (hu : X.A.units + 1 < cLine) (ha : PE X a td) (hb : PE X b ty) (hs : NoSl b := by exact fun _ _ => rfl) : PE X (.Subscript a b pos) (cDGet td ty) := PEto (pe_dget hu (PEup ha) (PEup hb) hs) fun σ H Q q => by
  refine ⟨_, q, fun x H1 q1 => ⟨_, q1, fun y H2 q2 => ?_⟩⟩
  split at q2
  · rename_i p k hk
    obtain ⟨kvs, v, h, h1, q2⟩ := q2
    exact ⟨p, v, rfl, .inl ⟨kvs, k, h, keyOf_kV hk, h1.symm⟩, q2⟩
  · exact q2.elim
/-- k in d, k not in d -/
def cDIn (neg : Bool) (ty td : TE) : TE := fun σ H Q => ty σ H fun y H1 => td σ H1 fun x H2 => match x, keyOf y with
  | .ref a, some k => ∃ kvs, Rd H2 a (.dK kvs) ∧ Gen (if neg then !(valV kvs k).isSome else (valV kvs k).isSome) fun c => Q (.bl c) H2
  | _, _ => False
theorem PCup {X : Cx} {op : CmpOp} {a b : Expr} {t : TE} (h : PC X op a b t) : PC X op a b t := h
theorem c_din (hu : X.A.units + 1 < cLine) (ha : PE X a ty) (hb : PE X b td) (hm : behindInMarks .In b = false := by rfl) : PE X (.Compare a [.In] [b] pos) (cDIn false ty td) := PEto (pe_cmp (pc_din hu (PEup ha) (PEup hb)) hm) fun σ H Q q => by
  refine ⟨_, q, fun x H1 q1 => ⟨_, q1, fun y H2 q2 => ?_⟩⟩
  split at q2
  · rename_i p k hk
    obtain ⟨kvs, h, q2⟩ := q2
    exact ⟨p, _, rfl, .inl ⟨kvs, k, h, keyOf_kV hk, rfl⟩, q2.to⟩
  · exact q2.elim
theorem c_dnin (hu : X.A.units + 1 < cLine) (ha : PE X a ty) (hb : PE X b td) (hm : behindInMarks .NotIn b = false := by rfl) : PE X (.Compare a [.NotIn] [b] pos) (cDIn true ty td) := PEto (pe_cmp (pc_dnotin hu (PEup ha) (PEup hb)) hm) fun σ H Q q => by
  refine ⟨_, q, fun x H1 q1 => ⟨_, q1, fun y H2 q2 => ?_⟩⟩
  split at q2
  · rename_i p k hk
    obtain ⟨kvs, h, q2⟩ := q2
    exact ⟨p, _, rfl, .inl ⟨kvs, k, h, keyOf_kV hk, rfl⟩, q2.to⟩
  · exact q2.elim
theorem t_din (hu : X.A.units + 1 < cLine) (ha : PE X a ty) (hb : PE X b td) (hm : behindInMarks .In b = false := by rfl) : PT X (.Compare a [.In] [b] pos) (cBl (cDIn false ty td)) := PTto (pt_cmp (pc_din hu (PEup ha) (PEup hb)) hm) fun σ H Q q => by
  refine ⟨_, q, fun x H1 q1 => ⟨_, q1, fun y H2 q2 => ?_⟩⟩
  split at q2
  · rename_i p k hk
    obtain ⟨kvs, h, q2⟩ := q2
    exact ⟨p, _, rfl, .inl ⟨kvs, k, h, keyOf_kV hk, rfl⟩, rBl_to q2.to⟩
  · exact q2.elim
theorem t_dnin (hu : X.A.units + 1 < cLine) (ha : PE X a ty) (hb : PE X b td) (hm : behindInMarks .NotIn b = false := by rfl) : PT X (.Compare a [.NotIn] [b] pos) (cBl (cDIn true ty td)) := PTto (pt_cmp (pc_dnotin hu (PEup ha) (PEup hb)) hm) fun σ H Q q => by
  refine ⟨_, q, fun x H1 q1 => ⟨_, q1, fun y H2 q2 => ?_⟩⟩
  split at q2
  · rename_i p k hk
    obtain ⟨kvs, h, q2⟩ := q2
    exact ⟨p, _, rfl, .inl ⟨kvs, k, h, keyOf_kV hk, rfl⟩, rBl_to q2.to⟩
  · exact q2.elim
/-! ### a dict of the module, keys texts -/
theorem KDct.kd {K : PySem.W.Frag} {w : World} {d : Addr} {x : Str} {v : V} (h : KDct K w d x v) (low : (d == sysModules) = false) : ∃ es n, KDict K w d es n := by
  obtain ⟨es, n, u, h1, h2, _⟩ := h
  exact ⟨es, n, h1, h2, low⟩
/-- d.get(k) -/
def rGetK (K : PySem.W.Frag) (w : World) (d : Addr) (y : V) (H : Hp) (Q : VK) : Prop := match y with
  | .str z => (∃ v, KDct K w d z v ∧ Q v H) ∨ (KMiss K w d z ∧ Q .non H)
  | _ => False
def cGetK (K : PySem.W.Frag) (w : World) (td ty : TE) : TE := fun σ H Q => td σ H fun x H1 => match x with
  | .ref d => (∃ es n, KDict K w d es n) ∧ ty σ H1 fun y H2 => rGetK K w d y H2 Q
  | _ => False
theorem c_getK {K : PySem.W.Frag} {w : World} {o : Expr} {apos cpos : Pos} (hK : X.K = K) (hw : X.w = w) (ho : PE X o td) (he : PE X e ty) (hbase : attributeBase o "get" X.env (eval o X.env) = eval o X.env := by rfl)
    (hfew : ((backTo cpos (starEach [e] X.env)).all (fun x => !x.1) && (backToKw cpos (keywordEach [] X.env)).all (fun x => x.1.isSome)
      && decide (([e] : List Expr).length + ([] : List Keyword).length + (if ([] : List Keyword).isEmpty then 0 else 1) < 30)) = true := by rfl)
    (hline : (apos.endLine == cpos.line) = true := by rfl) (htr : backTo cpos (starEach [e] X.env) = [(false, eval e X.env)] := by rfl) : PE X (.Call (.Attribute o "get" apos) [e] [] cpos) (cGetK K w td ty) := by
  subst hK hw
  refine ⟨fun pins s σ H Q I h => ?_⟩
  refine wpAny_Call_method hbase hfew hline PySem.F.plainAttrs_dict PySem.F.slot_dict_get PySem.F.type_dict_get (thn (ho.run pins s σ H _ I h) fun u s1 ⟨x, H1, I1, rx, q1⟩ => ?_)
  dsimp only at q1
  split at q1
  · rename_i d
    obtain ⟨⟨es, n, D⟩, q1⟩ := q1
    obtain rfl : u = Value.ref d := rx
    refine ⟨kd_type D I1, fun b q => ?_, ?_⟩
    · cases q
      exact ⟨_, I1.kIn _ _ D.at_, rfl⟩
    · rw [htr]
      refine Calls.callWith_builtin rfl (Calls.evalArgs_plain (Calls.spliced_cons (thn (he.run pins s1 σ H1 _ I1 q1) fun iv s2 ⟨y, H2, I2, ry, q2⟩ => Calls.spliced_nil ?_)))
      unfold rGetK at q2
      dsimp only at q2
      split at q2
      · rename_i z
        obtain ⟨t, rfl⟩ := ry
        have mp := PySem.W.mapOf_K (prog := X.prog) (w := X.w) I2.kIn D.at_ D.lit
        refine call_meetsIn PySem.F.slot_dict_get mp.typeIs PySem.F.entry_dict_get (PySem.F.args_dict_get_2 _ _) (meets_dict_get (strKind X.prog X.w) d (PySem.strKind_is X.prog X.w z t) D.low) ⟨_, mp, ?_⟩
        rcases q2 with ⟨v, hv, q2⟩ | ⟨hm, q2⟩
        · obtain ⟨es', n', u, h1, h2, h3, h4⟩ := hv
          rw [PySem.W.find_K D.at_ h3]
          exact ⟨v, H2, I2.tok _, h4, q2⟩
        · obtain ⟨es', n', h1, h2, _, h3⟩ := hm
          rw [PySem.W.find_K D.at_ h3]
          exact ⟨.non, H2, I2.tok _, rfl, q2⟩
      · exact q2.elim
  · exact q1.elim
/-- d[k] of such a dict -/
def cIxKd (K : PySem.W.Frag) (w : World) (td ty : TE) : TE := fun σ H Q => td σ H fun x H1 => ty σ H1 fun y H2 => match x, y with
  | .ref d, .str z => ∃ v, KDct K w d z v ∧ Q v H2
  | _, _ => False
theorem c_ixKd {K : PySem.W.Frag} {w : World} (hK : X.K = K) (hw : X.w = w) (ha : PE X a td) (hb : PE X b ty) (hs : PlainIx b := by exact fun _ _ => rfl) : PE X (.Subscript a b pos) (cIxKd K w td ty) := by
  subst hK hw
  refine PEto (pe_ix ix_kdict (PEup ha) (PEup hb) hs) fun σ H Q q => ⟨_, q, fun x H1 q1 => ⟨_, q1, fun y H2 q2 => ?_⟩⟩
  split at q2
  · obtain ⟨v, h, q2⟩ := q2
    exact ⟨_, _, v, rfl, rfl, h, q2⟩
  · exact q2.elim
/-- a module's object -/
theorem c_obj {d : Addr} {x : Str} {p : Pos} (hm : X.mg x = some (.ref d)) (hg : Gl X x := by rfl) (hd : (x == ("__debug__" : Str)) = false := by decide) : PE X (.Name x p) (tC (.ref d)) := pe_glob hg hm rfl hd
/-! ### sets of keys -/
theorem c_set0 {P : Program} {w : World} {x : Str} {p : Pos} (hP : X.prog = P) (hw : X.w = w) (hm : X.mg x = none) (hv : bootBuiltins x = some (.type "set")) (hg : Gl X x := by rfl) (hn : x ≠ "__name__" := by decide) (hdb : (x == ("__debug__" : Str)) = false := by decide) :
    PE X (.Call (.Name x p) [] [] pos) (fun _ H Q => ∀ p, H p = none → Q (.ref p) (upd H p (SetK P w p (fun _ => false) 0))) := by
  subst hP hw
  exact PEto (pe_callTy0 cr_set0K hg hm hv hn hdb) fun σ H Q q => ⟨rfl, q⟩
/-- s.add(k), a statement -/
def cSAdd (P : Program) (w : World) (to te : TE) : TS := fun D σ H => to σ H fun x H1 => match x with
  | .ref a => (∃ S n, H1 a = some (SetK P w a S n)) ∧ te σ H1 fun y H2 => ∃ S n k, keyOf y = some k ∧ H2 a = some (SetK P w a S n) ∧ n + 1 < scanBound ∧ D.nx σ (upd H2 a (SetK P w a (fun j => S j || decide (j = k)) (if S k = true then n else n + 1)))
  | _ => False
theorem s_sadd {P : Program} {w : World} {o : Expr} {to : TE} {apos cpos : Pos} (hP : X.prog = P) (hw : X.w = w) (ho : PE X o to) (he : PE X e te) (hbase : attributeBase o "add" X.env (eval o X.env) = eval o X.env := by rfl)
    (hfew : ((backTo cpos (starEach (e :: []) X.env)).all (fun x => !x.1) && (backToKw cpos (keywordEach [] X.env)).all (fun x => x.1.isSome)
      && decide ((e :: []).length + ([] : List Keyword).length + (if ([] : List Keyword).isEmpty then 0 else 1) < 30)) = true := by rfl)
    (hline : (apos.endLine == cpos.line) = true := by rfl) (hs : starEach (e :: []) X.env = (false, eval e X.env) :: starEach [] X.env := by rfl) (hplain : (backTo cpos (starEach [] X.env)).any (·.1) = false := by rfl)
    (hsw : swapsWith (.Call (.Attribute o "add" apos) [e] [] cpos) none pos.line X.env = pure false := by rfl) : PS X (.Expr (.Call (.Attribute o "add" apos) [e] [] cpos) pos) (cSAdd P w to te) := by
  subst hP hw
  refine PSto (ps_expr (pe_saddK (PEup ho) (pa_cons (PEup he) pa_nil hs) hbase hfew hline hs hplain) hsw) fun D σ H q => ?_
  refine ⟨_, q, fun x H1 q1 => ?_⟩
  split at q1
  · rename_i p
    obtain ⟨⟨S, n, h⟩, q1⟩ := q1
    refine ⟨⟨_, S, n, rfl, h⟩, _, q1, fun y H2 q2 => ?_⟩
    obtain ⟨S, n, k, hk, h2, hn, q2⟩ := q2
    exact ⟨p, k, S, n, rfl, by rw [keyOf_kV hk], h2, hn, q2⟩
  · exact q1.elim
/-- len(s) -/
def rLenSet (P : Program) (w : World) : List V → Hp → VK → Prop := fun xs H Q => match xs with
  | [.ref p] => ∃ S n, H p = some (SetK P w p S n) ∧ Q (.int n) H
  | _ => False
theorem b_lenSet {P : Program} {w : World} (hP : X.prog = P) (hw : X.w = w) : CallR X (.builtin "len") (rLenSet P w) := by
  subst hP hw
  intro pins s σ H xs us Q I r q
  unfold rLenSet at q
  split at q
  · rename_i p
    obtain ⟨S, n, h, q⟩ := q
    obtain ⟨u, rfl, rx⟩ := vals1 r
    cases rx
    obtain ⟨o, es, ep, t, ho, hex, hd, _, _, hb, hf, hn⟩ := setK_get I h
    refine call_len_set ho hex hd hf ?_ ⟨.int n, H, I.tok _, ⟨_, by rw [hn]⟩, q⟩
    have : (scanBound : Nat) ≤ 2 ^ 62 := by decide
    omega
  · exact q.elim
end
/-! ### targets of two names -/
def gPair (K : PySem.W.Frag) (i j : Nat) : TG := fun v σ H Q => match v with
  | .ref a => ∃ x y, SqT K H a [x, y] ∧ Q ((σ.set i (some x)).set j (some y)) H
  | _ => False
theorem PGto2 {X : Cx} {tg : Expr} {g g' : TG} (h : PG X tg g) (w : ∀ v σ H Q, g' v σ H Q → g v σ H Q) : PG X tg g' := PGto h w
theorem g_pair {X : Cx} {K : PySem.W.Frag} (hK : X.K = K) (i j : Nat) {x y : Str} {p1 p2 p3 : Pos} {k : Nat} (hN : X.N.Nodup) (hc : X.calm = true) (hi : X.N[i]? = some x) (hj : X.N[j]? = some y) (hx : Loc X.env.scope x) (hy : Loc X.env.scope y)
    (hfx : X.fn x = true ∨ X.env.scope.names.lookup x = some .local) (hfy : X.fn y = true ∨ X.env.scope.names.lookup y = some .local) :
    PG X (.Tuple [.Name x p1, .Name y p2] k p3) (gPair K i j) := by
  subst hK
  refine PGto (pg_tup (n := 2) hc (pgs_cons (pg_name hN hi hx hfx) (pgs_cons (pg_name hN hj hy hfy) pgs_nil))) fun v σ H Q q => ?_
  unfold gPair at q
  split at q
  · obtain ⟨a, b, h, q⟩ := q
    exact ⟨_, _, rfl, h, rfl, _, _, rfl, _, _, rfl, rfl, q⟩
  · exact q.elim
/-! ### zip of two tuples -/
theorem walk_zipT {K : PySem.W.Frag} {a b : Addr} {xs ys : List V} {n : Nat} (hn : n = min xs.length ys.length) : Walk (RZ.ItzT K a b) n (fun H => SqT K H a xs ∧ SqT K H b ys) (YPair (fun i => xs[i]?) (fun i => ys[i]?)) := by
  subst hn
  refine ⟨fun i _ hi q => ?_, fun _ q => ⟨xs, ys, q.1, q.2, by omega⟩, fun i H v H' _ q y => ?_⟩
  · have h1 : i < xs.length := by omega
    have h2 : i < ys.length := by omega
    exact ⟨xs, ys, xs[i], ys[i], q.1, q.2, by simp [h1], by simp [h2]⟩
  · obtain ⟨T, x, z, h1, h2, h3, h4, h5⟩ := y
    exact ⟨T, x, z, h1, h2, h3, h4 xs q.1, h5 ys q.2⟩
/-- for x, y in zip(a, b) -/
def cForZ (K : PySem.W.Frag) (tA : TA) (i j : Nat) (tb : TS) : TS := fun D σ H => tA σ H fun vs H1 => match vs with
  | [.ref a, .ref b] => ∃ xs ys, SqT K H1 a xs ∧ SqT K H1 b ys ∧ ∃ Pv : Nat → L2.St → Hp → Prop, Pv 0 σ H1 ∧ (∀ n σ H, Pv n σ H → SqT K H a xs ∧ SqT K H b ys) ∧
      (∀ n x y T σ H, xs[n]? = some x → ys[n]? = some y → Pv n σ H → H T = none → tb (turnD D (Pv (n + 1))) ((σ.set i (some x)).set j (some y)) (upd H T (.tup [x, y]))) ∧ (∀ σ H, Pv (min xs.length ys.length) σ H → D.nx σ H)
  | _ => False
theorem s_forZ {X : Cx} {K : PySem.W.Frag} (hK : X.K = K) (i j : Nat) {x y : Str} {p1 p2 p3 zp cp pos : Pos} {k : Nat} {ea eb : Expr} {tA : TA} {body : List Stmt} {tb : TS} (hl : PA X [ea, eb] tA) (hm : X.mg "zip" = none) (hN : X.N.Nodup) (hb : PSs X body tb)
    (hp : PassesOwn (model X.prog X.w) X.A X.env X.xe := by exact PassesOwn.never) (hc : X.calm = true := by rfl) (hi : X.N[i]? = some x := by rfl) (hj : X.N[j]? = some y := by rfl) (hx : Loc X.env.scope x := by first | exact Or.inl rfl | exact Or.inr rfl) (hy : Loc X.env.scope y := by first | exact Or.inl rfl | exact Or.inr rfl)
    (hfx : X.fn x = true ∨ X.env.scope.names.lookup x = some .local := by first | exact .inl rfl | exact .inr rfl | assumption) (hfy : X.fn y = true ∨ X.env.scope.names.lookup y = some .local := by first | exact .inl rfl | exact .inr rfl | assumption)
    (hg : Gl X "zip" := by rfl) (hs1 : starEach [ea, eb] X.env = (false, eval ea X.env) :: starEach [eb] X.env := by rfl) (hpl : (backTo cp (starEach [eb] X.env)).any (·.1) = false := by rfl)
    (hs : ∀ x, foldedSetIterable (.Call (.Name "zip" zp) [ea, eb] [] cp) X.env x = pure x := by intro _; rfl) :
    PS X (.For (.Tuple [.Name x p1, .Name y p2] k p3) (.Call (.Name "zip" zp) [ea, eb] [] cp) body [] pos) (cForZ K tA i j tb) := by
  subst hK
  refine PSto (ps_for hp hc (RZ.pi_zipA hg hm (PAup hl) hs1 hpl) (g_pair rfl i j hN hc hi hj hx hy hfx hfy) hb hs) fun D σ H q => ?_
  refine ⟨_, q, fun vs H1 q1 => ?_⟩
  split at q1
  · rename_i a b
    obtain ⟨xs, ys, h1, h2, Pv, p0, pk, ps, pd⟩ := q1
    refine ⟨a, b, xs, ys, rfl, .inr ⟨h1, h2, for_it (walk_zipT rfl) Pv p0 (fun i σ H _ p => pk i σ H p) (fun n v σ H H' hn p yp => ?_) pd⟩⟩
    obtain ⟨T, u, v', rfl, hT, rfl, e1, e2⟩ := yp
    exact ⟨u, v', SqT.of upd_same, ps n u v' T σ H e1 e2 p hT⟩
  · exact q1.elim
/-- [.. for x, y in zip(a, b)] -/
def cLcZ (K : PySem.W.Frag) (tA : TA) (i j : Nat) (te : TE) : TE := fun σ H Q => tA σ H fun vs H1 => match vs with
  | [.ref a, .ref b] => ∃ xs ys, SqT K H1 a xs ∧ SqT K H1 b ys ∧ ∀ D, H1 D = none → ∃ Pv : Nat → Hp → Prop, Pv 0 (upd H1 D (.lst [])) ∧ (∀ n H, Pv n H → SqT K H a xs ∧ SqT K H b ys) ∧
      (∀ n x y T H, xs[n]? = some x → ys[n]? = some y → Pv n H → H T = none → te ((((σ.set j none).set i none).set i (some x)).set j (some y)) (upd H T (.tup [x, y])) fun z H4 => ∃ acc, H4 D = some (.lst acc) ∧ acc.length < sizeLine ∧ Pv (n + 1) (upd H4 D (.lst (acc ++ [z])))) ∧
      (∀ H, Pv (min xs.length ys.length) H → Q (.ref D) H)
  | _ => False
theorem wipe_two {σ : L2.St} {i j : Nat} {x y : V} (h : i ≠ j) : wipe (((wipe σ [i, j]).set i (some x)).set j (some y)) [i, j] = wipe σ [i, j] := by
  show (((((σ.set j none).set i none).set i (some x)).set j (some y)).set j none).set i none = (σ.set j none).set i none
  rw [List.set_set, List.set_set, List.set_comm _ _ h, List.set_set, List.set_comm _ _ h.symm, List.set_comm _ _ h.symm, List.set_set]
theorem yes_if {p q : Prop} (h : p) : if true = true then p else q := by
  rw [if_pos rfl]
  exact h
theorem c_lcZ {X : Cx} {K : PySem.W.Frag} (hK : X.K = K) (i j : Nat) {x y : Str} {p1 p2 p3 zp cp pos : Pos} {k : Nat} {elt ea eb : Expr} {scope : Scope} {tA : TA} {te : TE} (hl : PA X [ea, eb] tA) (hm : X.mg "zip" = none) (hN : X.N.Nodup) (ok : blkC X.N X.env.scope scope [(x, i), (y, j)] = true)
    (hv : ∀ (s : Shared) (H : Hp) (C : Addr) (cl : List (Str × Addr)) (fp : List Addr), PG (X.blk s H scope (compEnvC scope cl C X.env) fp) (.Tuple [.Name x p1, .Name y p2] k p3) (gPair K i j))
    (he : ∀ (s : Shared) (H : Hp) (C : Addr) (cl : List (Str × Addr)) (fp : List Addr), PE (X.blk s H scope (compEnvC scope cl C X.env) fp) elt te) (hij : i ≠ j := by decide) (hc : X.calm = true := by rfl)
    (hg : Gl X "zip" := by rfl) (hs1 : starEach [ea, eb] X.env = (false, eval ea X.env) :: starEach [eb] X.env := by rfl) (hpl : (backTo cp (starEach [eb] X.env)).any (·.1) = false := by rfl)
    (hs : ∀ x, foldedSetIterable (.Call (.Name "zip" zp) [ea, eb] [] cp) X.env x = pure x := by intro _; rfl) :
    PE X (.ListComp elt [⟨.Tuple [.Name x p1, .Name y p2] k p3, .Call (.Name "zip" zp) [ea, eb] [] cp, [], 0⟩] scope pos) (cLcZ K tA i j te) := by
  subst hK
  refine PEto (pe_lc (own := [(x, i), (y, j)]) (g := gPair X.K i j) hc hN (RZ.pi_zipA hg hm (PAup hl) hs1 hpl) (blkOk_by ok) hv (fun s H C cl fp => pts_nil) he hs) fun σ H Q q => ?_
  refine ⟨_, q, fun vs H1 q1 => ?_⟩
  split at q1
  · rename_i a b
    obtain ⟨xs, ys, h1, h2, q1⟩ := q1
    refine ⟨a, b, xs, ys, rfl, .inr ⟨h1, h2, fun D hD => ?_⟩⟩
    obtain ⟨Pv, p0, pk, ps, pd⟩ := q1 D hD
    refine lc_it (walk_zipT rfl) Pv p0 (fun i H _ p => pk i H p) (fun n v H H' hn p yp => ?_) pd
    obtain ⟨T, u, v', rfl, hT, rfl, e1, e2⟩ := yp
    refine ⟨u, v', SqT.of upd_same, wipe_two hij, ?_⟩
    exact ps n u v' T H e1 e2 p hT
  · exact q1.elim
/-- [.. for x, y in l], l a list of pairs -/
def cLcP (K : PySem.W.Frag) (tl : TE) (i j : Nat) (te : TE) : TE := fun σ H Q => tl σ H fun x H1 => match x with
  | .ref a => ∃ xs, SqL K H1 a xs ∧ ∀ D, H1 D = none → ∃ Pv : Nat → Hp → Prop, Pv 0 (upd H1 D (.lst [])) ∧ (∀ n H, n ≤ xs.length → Pv n H → SqL K H a xs) ∧
      (∀ n z H, xs[n]? = some z → Pv n H → ∃ p u v, z = .ref p ∧ SqT K H p [u, v] ∧ te ((((σ.set j none).set i none).set i (some u)).set j (some v)) H fun z H4 => ∃ acc, H4 D = some (.lst acc) ∧ acc.length < sizeLine ∧ Pv (n + 1) (upd H4 D (.lst (acc ++ [z])))) ∧
      (∀ H, Pv xs.length H → Q (.ref D) H)
  | _ => False
theorem c_lcP {X : Cx} {K : PySem.W.Frag} (hK : X.K = K) (i j : Nat) {x y : Str} {p1 p2 p3 pos : Pos} {k : Nat} {elt iter : Expr} {scope : Scope} {tl te : TE} (hl : PE X iter tl) (hN : X.N.Nodup) (ok : blkC X.N X.env.scope scope [(x, i), (y, j)] = true)
    (hv : ∀ (s : Shared) (H : Hp) (C : Addr) (cl : List (Str × Addr)) (fp : List Addr), PG (X.blk s H scope (compEnvC scope cl C X.env) fp) (.Tuple [.Name x p1, .Name y p2] k p3) (gPair K i j))
    (he : ∀ (s : Shared) (H : Hp) (C : Addr) (cl : List (Str × Addr)) (fp : List Addr), PE (X.blk s H scope (compEnvC scope cl C X.env) fp) elt te) (hij : i ≠ j := by decide) (hc : X.calm = true := by rfl)
    (hs : ∀ x, foldedSetIterable iter X.env x = pure x := by intro _; rfl) :
    PE X (.ListComp elt [⟨.Tuple [.Name x p1, .Name y p2] k p3, iter, [], 0⟩] scope pos) (cLcP K tl i j te) := by
  subst hK
  refine PEto (pe_lc (own := [(x, i), (y, j)]) (g := gPair X.K i j) hc hN (pi_list (PEup hl)) (blkOk_by ok) hv (fun s H C cl fp => pts_nil) he hs) fun σ H Q q => ?_
  refine ⟨_, q, fun vs H1 q1 => ?_⟩
  split at q1
  · rename_i a
    obtain ⟨xs, h1, q1⟩ := q1
    refine ⟨a, rfl, ⟨xs, h1⟩, fun D hD => ?_⟩
    obtain ⟨Pv, p0, pk, ps, pd⟩ := q1 D hD
    refine lc_list (xs := xs) Pv p0 pk (fun n z H hz p => ?_) pd
    obtain ⟨t, u, v, rfl, ht, q⟩ := ps n z H hz p
    refine ⟨u, v, ht, wipe_two hij, ?_⟩
    exact q
  · exact q1.elim
/-! ### calls without arguments -/
section
variable {X : Cx} {x : Str} {p pos : Pos} {k : Nat} {ps : List Str} {sp : Sp}
theorem c_call0 (h : Has X.prog X.w X.K X.mg X.base k x ps sp) (hr : Room k X.A) (hg : Gl X x := by rfl) (hdb : (x == ("__debug__" : Str)) = false := by decide) : PE X (.Call (.Name x p) [] [] pos) (cCall sp tNil) := by
  obtain ⟨f, fd, F, hm, hk, hb⟩ := h
  exact PEto (pe_call0 (E := E0) F hr hg hm hk hb .nil pass0 hdb) fun σ H Q q => q
end
/-! ### list(d), is not -/
def rListDC : List V → Hp → VK → Prop := fun xs H Q => match xs with
  | [.ref p] => ∃ kvs, H p = some (.dK kvs) ∧ ∀ q, H q = none → Q (.ref q) (upd H q (.lst (kvs.map fun kv => kV kv.1)))
  | _ => False
theorem b_listD {X : Cx} (hc : X.calm = true) : CallR X (.type "list") rListDC := CRto (call_list_dK hc) fun xs H Q q => by
  unfold rListDC at q
  split at q
  · obtain ⟨kvs, h, q⟩ := q
    exact ⟨_, kvs, rfl, h, q⟩
  · exact q.elim
/-- list(l) of a list or tuple -/
def rListOf (K : PySem.W.Frag) : List V → Hp → VK → Prop := fun xs H Q => match xs with
  | [.ref p] => ∃ ys, (SqL K H p ys ∨ SqT K H p ys) ∧ ∀ q, H q = none → Q (.ref q) (upd H q (.lst ys))
  | _ => False
theorem b_listOf {X : Cx} {K : PySem.W.Frag} (hK : X.K = K) : CallR X (.type "list") (rListOf K) := hK ▸ CRto call_list_of fun xs H Q q => by
  unfold rListOf at q
  split at q
  · obtain ⟨kvs, h, q⟩ := q
    exact ⟨_, kvs, rfl, h, q⟩
  · exact q.elim
def rNotBC : R2 := fun x y H Q => match x, y with
  | .bl a, .bl b => Q (.bl (!decide (a = b))) H
  | _, _ => False
theorem o_isnotB {X : Cx} : OpR X (compareOp .IsNot) rNotBC := ORto op_notBl fun x y H Q q => by
  unfold rNotBC at q
  split at q
  · exact ⟨_, _, rfl, rfl, q⟩
  · exact q.elim
theorem _root_.L2.Room.units1 {k : Nat} {A : Around} (r : Room k A) : A.units + 1 < cLine := by have := r.un; omega
/-! ### tables of the module: texts to tuples of texts -/
def strOf : Value → Option Str
  | .str x _ => some x
  | _ => none
def strsOf : List Value → Option (List Str)
  | [] => some []
  | .str x _ :: r => (strsOf r).map (x :: ·)
  | _ :: _ => none
def tupIn (K : PySem.W.Frag) : Value → Option (List Str)
  | .ref a => match K.lookup a with
    | some ⟨.type "tuple", none, .seq its _, _⟩ => if its.size ≤ 100 then strsOf its.toList else none
    | _ => none
  | _ => none
def rowsOf (K : PySem.W.Frag) : List DictEntry → Option (List (Str × List Str))
  | [] => some []
  | e :: r => match strOf e.key, tupIn K e.val, rowsOf K r with
    | some x, some t, some l => some ((x, t) :: l)
    | _, _, _ => none
def tabIn (K : PySem.W.Frag) (d : Addr) : Option (List (Str × List Str)) := match K.lookup d with
  | some ⟨.type "dict", none, .dict es _, _⟩ => rowsOf K es.toList
  | _ => none
/-- a tuple of texts in K -/
def KTup (K : PySem.W.Frag) (t : Addr) (xs : List Str) : Prop := ∃ o its n, K.lookup t = some o ∧ o.cls = .type "tuple" ∧ o.data = .seq its n ∧ its.size ≤ sizeLine ∧ Vals (xs.map V.str) its.toList
theorem KTup.seqT {K : PySem.W.Frag} {t : Addr} {xs : List Str} (h : KTup K t xs) (H : Hp) : SqT K H t (xs.map V.str) := .inr h
theorem strsOf_vals : ∀ {us : List Value} {xs : List Str}, strsOf us = some xs → Vals (xs.map V.str) us
  | [], xs, h => by
    simp [strsOf] at h
    subst h
    exact .nil
  | u :: r, xs, h => by
    cases u <;> simp [strsOf] at h
    rename_i x t
    obtain ⟨l, h1, rfl⟩ := h
    exact .cons ⟨t, rfl⟩ (strsOf_vals h1)
theorem tupIn_kt {K : PySem.W.Frag} {v : Value} {xs : List Str} (h : tupIn K v = some xs) : ∃ t, v = .ref t ∧ KTup K t xs := by
  unfold tupIn at h
  split at h
  · rename_i a
    split at h
    · rename_i its n sl hl
      split at h
      · rename_i hs
        exact ⟨a, rfl, _, its, n, hl, rfl, rfl, Nat.le_trans hs (by decide), strsOf_vals h⟩
      · cases h
    · cases h
  · cases h
/-- what is at z in the rows -/
def rowAt (l : List (Str × List Str)) (z : Str) : Option (List Str) := (l.find? fun p => decide (p.1 = z)).map (·.2)
theorem isStr_iff {v : Value} {x z : Str} (h : strOf v = some x) : v.isStr z = decide (x = z) := by
  cases v <;> simp [strOf] at h
  subst h
  rename_i x t
  show (x == z) = decide (x = z)
  by_cases e : x = z
  · subst e
    simp
  · simp [e]
theorem rows_find {K : PySem.W.Frag} {z : Str} : ∀ {es : List DictEntry} {l : List (Str × List Str)}, rowsOf K es = some l →
    (match rowAt l z with
    | some xs => ∃ e, es.find? (·.key.isStr z) = some e ∧ tupIn K e.val = some xs
    | none => es.find? (·.key.isStr z) = none) ∧ es.any (·.refKey) = false
  | [], l, h => by
    simp [rowsOf] at h
    subst h
    exact ⟨rfl, rfl⟩
  | e :: r, l, h => by
    unfold rowsOf at h
    split at h
    · rename_i x t l' h1 h2 h3
      cases h
      obtain ⟨i1, i2⟩ := rows_find (z := z) h3
      have hk := isStr_iff (z := z) h1
      refine ⟨?_, ?_⟩
      · by_cases ez : x = z
        · have e1 : rowAt ((x, t) :: l') z = some t := by simp [rowAt, ez]
          rw [e1]
          refine ⟨e, ?_, h2⟩
          rw [List.find?_cons, hk, decide_eq_true ez]
        · have e1 : rowAt ((x, t) :: l') z = rowAt l' z := by simp [rowAt, ez]
          rw [e1, List.find?_cons, hk, decide_eq_false ez]
          exact i1
      · rw [List.any_cons, i2]
        have : e.refKey = false := by
          unfold DictEntry.refKey
          cases hx : e.key <;> simp [strOf, hx] at h1 ⊢
        rw [this]
        rfl
    · cases h
/-- the dict d of the module has f's rows -/
def Tab (K : PySem.W.Frag) (w : World) (d : Addr) (f : Str → Option (List Str)) : Prop :=
  (∃ es n, KDict K w d es n) ∧ ∀ z, match f z with
    | some xs => ∃ t, KDct K w d z (.ref t) ∧ KTup K t xs
    | none => KMiss K w d z
theorem tab_of {K : PySem.W.Frag} {w : World} {d : Addr} {ks : List Str} {l : List (Str × List Str)} (h : He.dicW K d = some (He.keysIn w.params ks)) (t : tabIn K d = some l) : Tab K w d (rowAt l) := by
  obtain ⟨es, n, D⟩ := He.dicW_ok h
  refine ⟨⟨es, n, D⟩, fun z => ?_⟩
  unfold tabIn at t
  rw [D.at_] at t
  obtain ⟨r1, r2⟩ := rows_find (z := z) t
  have en : PySem.W.nsIn K d z = (match es.toList.find? (·.key.isStr z) with
      | some e => some (some e.val)
      | none => if es.toList.any (·.refKey) then none else some none) := by
    unfold PySem.W.nsIn
    rw [D.at_]
    rfl
  split
  · rename_i xs hx
    rw [hx] at r1
    obtain ⟨e, e1, e2⟩ := r1
    obtain ⟨a, ea, ka⟩ := tupIn_kt e2
    rw [e1] at en
    exact ⟨a, ⟨es, n, _, D.at_, D.lit, en, by rw [ea]; rfl⟩, ka⟩
  · rename_i hx
    rw [hx] at r1
    rw [r1, r2] at en
    exact ⟨es, n, D.at_, D.lit, D.low, en⟩
end CW

/-! Things, keys, trees of data that is made step by step. -/
namespace VM
open PySem PySem.Spec PyProof.Rows L2 CW K1
/-- things that are asked -/
inductive Th (K : PySem.W.Frag) (H : Hp) : V → Prop where
  | non : Th K H .non
  | bl (b : Bool) : Th K H (.bl b)
  | int (i : Int) : Th K H (.int i)
  | str (x : Str) (h : x.length ≤ 100) : Th K H (.str x)
  | lst {a : Addr} {xs : List V} (h : SqL K H a xs) : Th K H (.ref a)
  | tup {a : Addr} {xs : List V} (h : SqT K H a xs) : Th K H (.ref a)
  | dK {a : Addr} {kvs : List (Key × V)} (h : H a = some (.dK kvs)) : Th K H (.ref a)
theorem Gv.th {K : PySem.W.Frag} {H : Hp} {v : V} (g : Gv v) : Th K H v := by
  cases g with
  | non => exact .non
  | bl b => exact .bl b
  | int i h0 h1 => exact .int i
  | str x h => exact .str x (by omega)
theorem Th.same {K : PySem.W.Frag} {H H' : Hp} {v : V} (t : Th K H v) (s : Same H H') : Th K H' v := by
  cases t with
  | non => exact .non
  | bl b => exact .bl b
  | int i => exact .int i
  | str x h => exact .str x h
  | lst h => exact .lst (s.seq h)
  | tup h => exact .tup (Same.seqT s h)
  | dK h => exact .dK (s _ _ h)
def isVal : V → Bool
  | .non => true
  | .bl _ => true
  | .int i => decide (0 ≤ i) && decide (i ≤ 999)
  | .str x => decide ((x.length : Int) ≤ 40)
  | _ => false
theorem isVal_gv {v : V} (g : Gv v) : isVal v = true := by
  cases g with
  | non => rfl
  | bl b => rfl
  | int i h0 h1 => simp [isVal, h0, h1]
  | str x h => simp only [isVal, decide_eq_true_eq]; omega
def lt (c : Nat) : Bool := decide (97 ≤ c) && decide (c ≤ 122)
def isKeyS (x : Str) : Bool := (decide (1 ≤ (x.length : Int)) && decide ((x.length : Int) ≤ 8)) && x.cps.toList.all lt
def isKey : V → Bool
  | .str x => isKeyS x
  | _ => false
theorem lt_lo {c : Nat} : ((⟨#[c]⟩ : Str).cps.toList < ("a" : Str).cps.toList) ↔ c < 97 := by
  show [c] < [97] ↔ c < 97
  rw [List.cons_lt_cons_iff]
  simp
theorem lt_hi {c : Nat} : (("z" : Str).cps.toList < (⟨#[c]⟩ : Str).cps.toList) ↔ 122 < c := by
  show [122] < [c] ↔ 122 < c
  rw [List.cons_lt_cons_iff]
  simp
theorem abc_mem {c : Nat} : decide (c ∈ ("abcdefghijklmnopqrstuvwxyz" : Str).cps.toList) = lt c := by
  have e : ("abcdefghijklmnopqrstuvwxyz" : Str).cps.toList = [97, 98, 99, 100, 101, 102, 103, 104, 105, 106, 107, 108, 109, 110, 111, 112, 113, 114, 115, 116, 117, 118, 119, 120, 121, 122] := by decide +kernel
  rw [e]
  unfold lt
  rw [Bool.eq_iff_iff]
  simp only [decide_eq_true_eq, Bool.and_eq_true, List.mem_cons, List.not_mem_nil, or_false]
  omega
/-- scalars of bounded length -/
inductive Sb : V → Prop where
  | non : Sb .non
  | bl (b : Bool) : Sb (.bl b)
  | int (i : Int) : Sb (.int i)
  | str (x : Str) (h : x.length ≤ 100) : Sb (.str x)
theorem Gv.sb {v : V} (g : Gv v) : Sb v := by
  cases g with
  | non => exact .non
  | bl b => exact .bl b
  | int i h0 h1 => exact .int i
  | str x h => exact .str x (by omega)
/-- the tree d stands at x, its lists within A -/
def Tr (H : Hp) (A : Addr → Prop) : Nat → V → Da → Prop
  | 0, _, _ => False
  | n + 1, x, .v y => x = y ∧ Sb y
  | n + 1, x, .tup ds => ds.length ≤ 100000 ∧ ∃ a xs, x = .ref a ∧ H a = some (.tup xs) ∧ Paired (Tr H A n) xs ds
  | n + 1, x, .lst ds => ds.length ≤ 100000 ∧ ∃ a xs, x = .ref a ∧ A a ∧ H a = some (.lst xs) ∧ Paired (Tr H A n) xs ds
theorem Tr.keep {H H' : Hp} {A A' : Addr → Prop} (t : TK H H') (l : ∀ a xs, A a → H a = some (.lst xs) → H' a = some (.lst xs)) (m : ∀ a, A a → A' a) : ∀ {n : Nat} {x : V} {d : Da}, Tr H A n x d → Tr H' A' n x d
  | n + 1, _, .v _, h => h
  | n + 1, _, .tup _, ⟨z, a, xs, e, h, p⟩ => ⟨z, a, xs, e, t _ _ h, paired_mono (fun _ _ h => Tr.keep t l m h) p⟩
  | n + 1, _, .lst _, ⟨z, a, xs, e, ha, h, p⟩ => ⟨z, a, xs, e, m _ ha, l _ _ ha h, paired_mono (fun _ _ h => Tr.keep t l m h) p⟩
theorem Tr.same {H H' : Hp} {A : Addr → Prop} (s : Same H H') {n : Nat} {x : V} {d : Da} (h : Tr H A n x d) : Tr H' A n x d := Tr.keep (TK.of s) (fun a xs _ e => s a _ e) (fun _ h => h) h
theorem Tr.but {b : Addr} {H H' : Hp} {A A' : Addr → Prop} {ys : List V} (hb : H b = some (.lst ys)) (s : But b H H') (nb : ∀ a, A a → a ≠ b) (m : ∀ a, A a → A' a) {n : Nat} {x : V} {d : Da} (h : Tr H A n x d) : Tr H' A' n x d :=
  Tr.keep (TK.but hb s) (fun a xs ha e => s a _ (nb a ha) e) m h
theorem Tr.wide {H : Hp} {A A' : Addr → Prop} (m : ∀ a, A a → A' a) {n : Nat} {x : V} {d : Da} (h : Tr H A n x d) : Tr H A' n x d := Tr.keep (TK.refl H) (fun _ _ _ e => e) m h
theorem Tr.up1 {H : Hp} {A : Addr → Prop} : ∀ {n : Nat} {x : V} {d : Da}, Tr H A n x d → Tr H A (n + 1) x d
  | n + 1, _, .v _, h => h
  | n + 1, _, .tup _, ⟨z, a, xs, e, s, p⟩ => ⟨z, a, xs, e, s, paired_mono (fun _ _ h => Tr.up1 h) p⟩
  | n + 1, _, .lst _, ⟨z, a, xs, e, s, h, p⟩ => ⟨z, a, xs, e, s, h, paired_mono (fun _ _ h => Tr.up1 h) p⟩
theorem Tr.up {H : Hp} {A : Addr → Prop} {n m : Nat} {x : V} {d : Da} (h : Tr H A n x d) (hm : n ≤ m) : Tr H A m x d := by
  induction hm with
  | refl => exact h
  | step _ ih => exact ih.up1
theorem Tr.th {K : PySem.W.Frag} {H : Hp} {A : Addr → Prop} {n : Nat} {x : V} {d : Da} (h : Tr H A n x d) : Th K H x := by
  cases n with
  | zero => exact h.elim
  | succ n =>
    cases d with
    | v y =>
      obtain ⟨rfl, s⟩ := h
      cases s with
      | non => exact .non
      | bl b => exact .bl b
      | int i => exact .int i
      | str x h => exact .str x h
    | tup ds =>
      obtain ⟨_, a, xs, rfl, h, _⟩ := h
      exact .tup (SqT.of h)
    | lst ds =>
      obtain ⟨_, a, xs, rfl, _, h, _⟩ := h
      exact .lst (SqL.of h)
def valD : Da → Bool
  | .v y => isVal y
  | _ => false
def keyD : Da → Bool
  | .v y => isKey y
  | _ => false
theorem Tr.val {H : Hp} {A : Addr → Prop} {n : Nat} {x : V} {d : Da} (h : Tr H A n x d) : isVal x = valD d := by
  cases n with
  | zero => exact h.elim
  | succ n =>
    cases d with
    | v y =>
      obtain ⟨rfl, s⟩ := h
      rfl
    | tup ds =>
      obtain ⟨_, a, xs, rfl, _⟩ := h
      rfl
    | lst ds =>
      obtain ⟨_, a, xs, rfl, _⟩ := h
      rfl
theorem Tr.key {H : Hp} {A : Addr → Prop} {n : Nat} {x : V} {d : Da} (h : Tr H A n x d) : isKey x = keyD d := by
  cases n with
  | zero => exact h.elim
  | succ n =>
    cases d with
    | v y =>
      obtain ⟨rfl, s⟩ := h
      rfl
    | tup ds =>
      obtain ⟨_, a, xs, rfl, _⟩ := h
      rfl
    | lst ds =>
      obtain ⟨_, a, xs, rfl, _⟩ := h
      rfl
end VM

/-! A dict display of 18 to 32 written pairs: seventeen stored one by one, the rest merged. -/
namespace CW
open PySem PySem.Spec PyProof.Rows L2 K1
open Sem (wp)
section
variable {prog : Program} {w : World} {κ : Type} [DecidableEq κ] {knd : KeyKind prog w κ} {A : Around} {E : Value → Shared → Prop} {s : Shared}
/-- what dictPut does to a dict of pairs -/
theorem put_pairs {d : Addr} {kvs : List (κ × Value)} {k : κ} {key v : Value} {Q : Unit → Shared → Prop} (hkey : knd.is k key = true) (hm : s.heap.DictOf knd d kvs) (hsz : kvs.length ≤ sizeLine)
    (hQ : ∀ h', h'.DictOf knd d (stored kvs k v) → Heap.SameBut d s.heap h' → Q () { s with heap := h' }) : wpAny (model prog w) A (dictPut d (knd.hash k) key v) Q E s := by
  obtain ⟨o, es, ep, ho, hc, hd, hk, hp, hn⟩ := hm
  have hl := hp.length
  have hes : es.size ≤ sizeLine := by
    have : es.toList.length = es.size := Array.length_toList
    omega
  have hidx : (es.findIdx? fun e => knd.is k e.key) = kvs.findIdx? fun kv => decide (kv.1 = k) := by
    rw [← hp.findIdx k]
    obtain ⟨l⟩ := es
    simp
  refine wpAny_bind (wpAny_dictFind_of hkey ho hd hk ?_)
  cases hi : es.findIdx? fun e => knd.is k e.key with
  | some i =>
    have there := any_of_findIdx_some (hidx ▸ hi)
    have hli : (es.toList.findIdx? fun e => knd.is k e.key) = some i := by
      rw [← hi]
      obtain ⟨l⟩ := es
      simp
    refine wpAny_updateDict ho hd (hQ _ ⟨_, _, ep, Heap.get?_update_self _ ho (Obj.isFreed_of_dict (Obj.data_mapDict hd _)), hc.mapDict _, Obj.data_mapDict hd _, hk.modify _ _, ?_, ?_⟩ (Heap.SameBut.update ..))
    all_goals rw [stored, if_pos there]
    · have := hp.modify hn hli v
      obtain ⟨l⟩ := es
      simpa using this
    · rw [keys_map_store]
      exact hn
  | none =>
    have away := not_mem_of_findIdx_none (hidx ▸ hi)
    have none' : ¬ (kvs.any fun kv => decide (kv.1 = k)) = true := fun z => by
      obtain ⟨kv, hkv, e⟩ := List.any_eq_true.mp z
      exact away (List.mem_map.mpr ⟨kv, hkv, of_decide_eq_true e⟩)
    refine wpAny_updateDictKeys (hz := hes) ho hd (hQ _ ⟨_, _, ep + 1, Heap.get?_update_self _ ho (Obj.isFreed_of_dict (Obj.data_mapDictKeys hd _)), hc.mapDictKeys _, Obj.data_mapDictKeys hd _, hk.push hkey _, ?_, ?_⟩ (Heap.SameBut.update ..))
    all_goals rw [stored, if_neg none']
    · have := hp.append hkey (knd.hash k) v
      obtain ⟨l⟩ := es
      simpa using this
    · rw [List.map_append, List.nodup_append]
      exact ⟨hn, by simp, fun a ha b hb e => by simp at hb; subst hb e; exact away ha⟩
/-- one entry of a dict of pairs -/
theorem pairs_at {es : List DictEntry} {kvs : List (κ × Value)} (h : Pairs knd es kvs) : ∀ {i : Nat} {k : κ} {v : Value}, kvs[i]? = some (k, v) → ∃ e, es[i]? = some e ∧ knd.is k e.key = true ∧ e.val = v := by
  induction h with
  | nil => intro i k v e; simp at e
  | @cons e es kv kvs h1 h2 _ ih =>
    intro i k v he
    cases i with
    | zero =>
      simp only [List.getElem?_cons_zero, Option.some.injEq] at he
      subst he
      exact ⟨_, rfl, h1, h2⟩
    | succ i => exact ih (by simpa using he)
theorem dict_at {h : Heap} {a : Addr} {kvs : List (κ × Value)} {i : Nat} {k : κ} {v : Value} (hm : h.DictOf knd a kvs) (e : kvs[i]? = some (k, v)) : ∃ o es ep x, h.get? a = some o ∧ o.data = .dict es ep ∧ es[i]? = some x ∧ knd.is k x.key = true ∧ x.hash = knd.hash k ∧ x.val = v := by
  obtain ⟨o, es, ep, ho, hc, hd, hk, hp, hn⟩ := hm
  obtain ⟨x, h1, h2, h3⟩ := pairs_at hp e
  have hx : x ∈ es := by
    have := List.mem_of_getElem? h1
    simpa using this
  obtain ⟨k', hk', hh⟩ := hk x hx
  have : k' = k := knd.inj _ _ _ hk' h2
  subst this
  refine ⟨o, es, ep, x, ho, hd, ?_, h2, hh, h3⟩
  rw [← Array.getElem?_toList]
  exact h1
end
section
variable {X : Cx} {pins : List (Addr × Obj)} {σ : L2.St} {H : Hp}
/-- the entries of b from i on, put into d one by one -/
theorem merge_loop {d b : Addr} {more : List (Key × V)} {ep : Nat} (ne : d ≠ b) {E : Value → Shared → Prop} {Q : PUnit → Shared → Prop} (f : Nat → PUnit → Sem (ForInStep PUnit))
    (hf : ∀ (i : Nat) (o : Obj) (es : Array DictEntry) (x : DictEntry) (s : Shared) (Q : ForInStep PUnit → Shared → Prop), s.heap.get? b = some o → o.data = .dict es ep → es[i]? = some x →
      wpAny (model X.prog X.w) X.A (dictPut d x.hash x.key x.val) (fun _ s' => s'.heap.get? b = some o ∧ Q (.yield PUnit.unit) s') E s → wpAny (model X.prog X.w) X.A (f i PUnit.unit) Q E s) :
    ∀ (m i : Nat) (kvs : List (Key × V)) (s : Shared), i + m = more.length → kvs.length + m ≤ 1000 → Inv X pins σ (upd H d (.dK kvs)) s → H b = some (.dK more) → (∃ o es, s.heap.get? b = some o ∧ o.data = .dict es ep) →
      (∀ s', Inv X pins σ (upd H d (.dK (mergeK kvs (more.drop i)))) s' → Q PUnit.unit s') → wpAny (model X.prog X.w) X.A (forIn (List.range' i m) PUnit.unit f) Q E s := by
  intro m
  induction m with
  | zero =>
    intro i kvs s hi _ I hb hep h
    rw [show List.range' i 0 = [] from rfl, List.forIn_nil]
    refine wpAny_pure (h s ?_)
    rw [List.drop_of_length_le (by omega)]
    exact I
  | succ m ih =>
    intro i kvs s hi fit I hb hep h
    rw [List.range'_succ, List.forIn_cons]
    have il : i < more.length := by omega
    have hb' : (upd H d (.dK kvs)) b = some (.dK more) := by
      rw [upd_ne ne.symm]
      exact hb
    obtain ⟨zb, lb, vsb, relb, ddb⟩ := dk_of I.hok hb'
    obtain ⟨zd, ld, vsd, reld, ddd⟩ := dk_of I.hok (upd_same (H := H) (a := d) (o := .dK kvs))
    obtain ⟨k, y⟩ : Key × V := more[i]
    have hm : ∃ k y, more[i]? = some (k, y) := ⟨more[i].1, more[i].2, List.getElem?_eq_getElem il⟩
    obtain ⟨k, y, hm⟩ := hm
    obtain ⟨q, hq1, hq2, ry⟩ : ∃ q, vsb[i]? = some q ∧ k = q.1 ∧ RelV y q.2 := by
      obtain ⟨q, h1, h2⟩ := VM.pget relb hm
      exact ⟨q, h1, h2⟩
    obtain ⟨k', u⟩ := q
    cases hq2
    obtain ⟨o, es, ep', x, ho, hdat, hx, hkey, hh, hval⟩ := dict_at ddb hq1
    obtain ⟨o2, es2, ho2, hdat2⟩ := hep
    have : o2 = o := by
      rw [ho] at ho2
      exact (Option.some.inj ho2).symm
    subst this
    rw [hdat] at hdat2
    cases hdat2
    have lv : vsd.length = kvs.length := (KV.length reld).symm
    refine wpAny_bind (hf i o2 es x s _ ho hdat hx ?_)
    rw [hh, hval]
    refine put_pairs hkey ddd (by rw [lv]; exact Nat.le_of_lt (small1000 (by omega))) fun h' dd' hs => ?_
    have rel' : KV (putK kvs k' y) (stored vsd k' u) := reld.put k' ry
    have z' : (putK kvs k' y).length ≤ sizeLine := Nat.le_trans (length_putK kvs k' y) (Nat.le_of_lt (small1000 (by omega)))
    have hb2 : h'.get? b = some o2 := (hs.2 b ne.symm).trans ho
    have he : ∃ q, h'.get? d = some q := by
      obtain ⟨o3, _, _, h3, _⟩ := dd'
      exact ⟨o3, h3⟩
    have I' := d_write (t' := s.toks) I (by rw [upd_same]; trivial) hs he (dk_new (H' := upd (upd H d (.dK kvs)) d (.dK (putK kvs k' y))) z' ld rel' dd')
    rw [upd_upd] at I'
    refine ⟨hb2, ?_⟩
    refine ih (i + 1) (putK kvs k' y) _ (by omega) (by have := length_putK kvs k' y; omega) I' hb ⟨o2, _, hb2, hdat⟩ fun s' I2 => h s' ?_
    have ed : more.drop i = (k', y) :: more.drop (i + 1) := by
      rw [List.drop_eq_getElem_cons il]
      have := List.getElem?_eq_some_iff.mp hm
      rw [this.2]
    rw [ed]
    exact I2
theorem merge_ok {d b : Addr} {kvs more : List (Key × V)} {s : Shared} {E : Value → Shared → Prop} {Q : Unit → Shared → Prop} (I : Inv X pins σ H s) (hd : H d = some (.dK kvs)) (hb : H b = some (.dK more)) (ne : d ≠ b) (h0 : kvs ≠ []) (fit : kvs.length + more.length ≤ 1000)
    (h : ∀ s', Inv X pins σ (upd H d (.dK (mergeK kvs more))) s' → Q () s') : wpAny (model X.prog X.w) X.A (mergeMapping d (.ref b) false) Q E s := by
  obtain ⟨zb, lb, vsb, relb, ddb⟩ := dk_of I.hok hb
  obtain ⟨zd, ld, vsd, reld, ddd⟩ := dk_of I.hok hd
  obtain ⟨ob, eb, epb, hob, hcb, hdb, _, hpb, _⟩ := id ddb
  obtain ⟨od, ed, epd, hod, hcd, hdd, _, hpd, _⟩ := id ddd
  have lb2 : eb.size = more.length := by
    rw [KV.length relb, ← hpb.length]
    exact Array.length_toList.symm
  have ld2 : ed.size = kvs.length := by
    rw [KV.length reld, ← hpd.length]
    exact Array.length_toList.symm
  have Ik : Inv X pins σ (upd H d (.dK kvs)) s := by
    have : upd H d (.dK kvs) = H := by
      funext c
      by_cases e : c = d
      · subst e
        rw [upd_same, hd]
      · rw [upd_ne e]
    rw [this]
    exact I
  unfold mergeMapping
  refine wpAny_bind (wpAny_isInstance ddb.typeIs PySem.F.sub_dict_dict ?_)
  dsimp only
  rw [if_pos rfl]
  refine wpAny_bind (wpAny_specialOf ddb.typeIs PySem.F.slot_dict_iter.lookup ?_)
  refine wpAny_bind (wpAny_pure ?_)
  rw [show ((some (Value.builtin "dict.__iter__") : Option Value) == some (.builtin "dict.__iter__")) = true by decide +kernel]
  dsimp only
  rw [if_neg (by rw [lb]; exact Bool.false_ne_true)]
  refine wpAny_bind (wpAny_dictEntries hod hdd ?_)
  rw [if_neg (by
    have : ed.size ≠ 0 := by
      rw [ld2]
      exact fun z => h0 (List.length_eq_zero_iff.mp z)
    simpa [Array.isEmpty] using this)]
  refine wpAny_bind (wpAny_dictEntries hob hdb (wpAny_bind (wpAny_dictEpoch hob hdb ?_)))
  rw [lb2, List.range_eq_range']
  refine wpAny_bind (merge_loop ne _ (fun i o es x s Q ho hdat hx hp => ?_) more.length 0 kvs s (by omega) fit Ik hb ⟨ob, eb, hob, hdb⟩ fun s' I' => wpAny_pure (h s' I'))
  refine wpAny_bind (wpAny_dictEntries ho hdat ?_)
  rw [hx]
  refine wpAny_bind (wpAny_holding ?_)
  rw [if_neg Bool.false_ne_true]
  refine wpAny_mono hp (fun _ s' hq => ?_) fun _ _ e => e
  refine wpAny_bind (wpAny_dictEpoch hq.1 hdat ?_)
  rw [if_neg (by simp)]
  exact wpAny_pure hq.2
/-- a pair of constants -/
def CPair (X : Cx) (pins : List (Addr × Obj)) (σ : L2.St) (p : Sem Value × Sem Value) (kv : Key × V) : Prop :=
  (∀ s H E (Q : Value → Shared → Prop), Inv X pins σ H s → (∀ u s', RelV (kV kv.1) u → Inv X pins σ H s' → Q u s') → wpAny (model X.prog X.w) X.A p.1 Q E s) ∧
  (∀ s H E (Q : Value → Shared → Prop), Inv X pins σ H s → (∀ u s', RelV kv.2 u → Inv X pins σ H s' → Q u s') → wpAny (model X.prog X.w) X.A p.2 Q E s)
theorem store_one {d : Addr} {acc : List (Key × V)} {k : Key} {y : V} {u r : Value} {s : Shared} {E : Value → Shared → Prop} {Q : Unit → Shared → Prop} (I : Inv X pins σ (upd H d (.dK acc)) s) (rk : RelV (kV k) u) (ry : RelV y r) (fit : acc.length < 1000)
    (h : ∀ s', Inv X pins σ (upd H d (.dK (putK acc k y))) s' → Q () s') : wpAny (model X.prog X.w) X.A (dictSet d u r) Q E s := by
  obtain ⟨zd, ld, vsd, reld, ddd⟩ := dk_of I.hok (upd_same (H := H) (a := d) (o := .dK acc))
  have lv : vsd.length = acc.length := (KV.length reld).symm
  refine wpAny_dictSet_pairs (knd := mixKind X.prog X.w) (hsz := by rw [lv]; exact Nat.le_of_lt (small1000 (by omega))) (kV_is rk) ddd fun h' dd' hs => ?_
  have he : ∃ q, h'.get? d = some q := by
    obtain ⟨o3, _, _, h3, _⟩ := dd'
    exact ⟨o3, h3⟩
  have I' := d_write (t' := s.toks + 1) I (by rw [upd_same]; trivial) hs he (dk_new (H' := upd (upd H d (.dK acc)) d (.dK (putK acc k y))) (Nat.le_trans (length_putK acc k y) (Nat.le_of_lt (small1000 (by omega)))) ld (reld.put k ry) dd')
  rw [upd_upd] at I'
  exact h _ I'
theorem store_loop {d : Addr} {E : Value → Shared → Prop} {Q : PUnit → Shared → Prop} (f : Sem Value × Sem Value → PUnit → Sem (ForInStep PUnit))
    (hf : ∀ (p : Sem Value × Sem Value) (s : Shared) (Q : ForInStep PUnit → Shared → Prop), wpAny (model X.prog X.w) X.A p.1 (fun u s1 => wpAny (model X.prog X.w) X.A p.2 (fun r s2 => wpAny (model X.prog X.w) X.A (dictSet d u r) (fun _ s' => Q (.yield PUnit.unit) s') E s2) E s1) E s →
      wpAny (model X.prog X.w) X.A (f p PUnit.unit) Q E s) :
    ∀ (ps : List (Sem Value × Sem Value)) (kvs acc : List (Key × V)) (s : Shared), Paired (CPair X pins σ) ps kvs → acc.length + kvs.length ≤ 1000 → Inv X pins σ (upd H d (.dK acc)) s →
      (∀ s', Inv X pins σ (upd H d (.dK (mergeK acc kvs))) s' → Q PUnit.unit s') → wpAny (model X.prog X.w) X.A (forIn ps PUnit.unit f) Q E s
  | _, _, acc, s, .nil, _, I, h => by
    rw [List.forIn_nil]
    exact wpAny_pure (h s I)
  | p :: ps, kv :: kvs, acc, s, .cons hp hr, fit, I, h => by
    rw [List.forIn_cons]
    rw [List.length_cons] at fit
    refine wpAny_bind (hf p s _ (hp.1 s _ _ _ I fun u s1 r1 I1 => hp.2 s1 _ _ _ I1 fun r s2 r2 I2 => store_one I2 r1 r2 (by omega) fun s3 I3 => ?_))
    have := length_putK acc kv.1 kv.2
    exact store_loop f hf ps kvs (putK acc kv.1 kv.2) s3 hr (by omega) I3 h
theorem sub_long {ps : List (Sem Value × Sem Value)} {kvs : List (Key × V)} {s : Shared} {E : Value → Shared → Prop} {Q : Addr → Shared → Prop} (hl : 15 < ps.length) (hp : Paired (CPair X pins σ) ps kvs) (fit : kvs.length ≤ 1000) (I : Inv X pins σ H s)
    (h : ∀ d s', H d = none → Inv X pins σ (upd H d (.dK (mergeK [] kvs))) s' → Q d s') : wpAny (model X.prog X.w) X.A (subDict ps) Q E s := by
  have hn := I.hok.fresh (Nat.le_refl s.heap.objs.size)
  have I1 := I.laid (a := s.heap.objs.size) (o := .dK []) (h' := s.heap.push { cls := .type "dict", data := .dict #[] }) (t' := s.toks) (fun _ _ q => Heap.get?_push_of_some _ q) (Nat.le_refl _) (dk_empty s.heap I.big)
  unfold subDict
  refine wpAny_bind (wpAny_alloc ?_)
  refine wpAny_bind (wpAny_holding ?_)
  rw [if_neg (by omega)]
  refine wpAny_bind (wpAny_rule ?_)
  refine wpAny_bind (store_loop _ (fun p s Q hq => ?_) ps kvs [] _ hp (by simpa using fit) I1 fun s' I' => wpAny_pure (wpAny_pure (h _ s' hn I')))
  refine wpAny_bind (wpAny_mono hq (fun u s1 h1 => ?_) fun _ _ e => e)
  refine wpAny_bind (wpAny_holding (wpAny_mono h1 (fun r s2 h2 => ?_) fun _ _ e => e))
  exact wpAny_bind (wpAny_holding (wpAny_mono h2 (fun _ s3 h3 => wpAny_pure h3) fun _ _ e => e))
theorem pairs_short : ∀ (ps : List (Sem Value × Sem Value)) (kvs : List (Key × V)) (s : Shared) (H : Hp) (E : Value → Shared → Prop) (Q : List (Value × Value) → Shared → Prop), Paired (CPair X pins σ) ps kvs → Inv X pins σ H s →
    (∀ vs s', VV (kvs.map fun kv => (kV kv.1, kv.2)) vs → Inv X pins σ H s' → Q vs s') → wpAny (model X.prog X.w) X.A (evalPairs ps) Q E s
  | _, _, s, H, E, Q, .nil, I, h => evalPairs_nil (h [] s .nil I)
  | p :: ps, kv :: kvs, s, H, E, Q, .cons hp hr, I, h =>
    evalPairs_cons (hp.1 s H _ _ I fun u s1 r1 I1 => hp.2 s1 H _ _ I1 fun r s2 r2 I2 => pairs_short ps kvs s2 H _ _ hr I2 fun vs s3 r3 I3 => h _ s3 (.cons ⟨r1, r2⟩ r3) I3)
theorem sub_short {ps : List (Sem Value × Sem Value)} {kvs : List (Key × V)} {s : Shared} {E : Value → Shared → Prop} {Q : Addr → Shared → Prop} (hl : ps.length ≤ 15) (hp : Paired (CPair X pins σ) ps kvs) (I : Inv X pins σ H s)
    (h : ∀ d s', H d = none → Inv X pins σ (upd H d (.dK (mergeK [] kvs))) s' → Q d s') : wpAny (model X.prog X.w) X.A (subDict ps) Q E s := by
  have hn := I.hok.fresh (Nat.le_refl s.heap.objs.size)
  have I1 := I.laid (a := s.heap.objs.size) (o := .dK []) (h' := s.heap.push { cls := .type "dict", data := .dict #[] }) (t' := s.toks) (fun _ _ q => Heap.get?_push_of_some _ q) (Nat.le_refl _) (dk_empty s.heap I.big)
  have hlen := Paired.length hp
  refine wpAny_subDict (knd := mixKind X.prog X.w) hl (pairs_short ps kvs _ _ _ _ hp I1 fun vs s2 rel I2 => ?_)
  obtain ⟨rs, c, rk⟩ := carries_of (P := X.prog) (w := X.w) rel
  obtain ⟨z, hd, vs0, r0, dd⟩ := dk_of I2.hok upd_same
  cases r0
  refine ⟨rs, c, dd, fun h' dd' hs => ?_⟩
  have hz : (mergeK [] kvs).length ≤ sizeLine := by
    have h1 := length_mergeK kvs []
    rw [List.length_nil] at h1
    exact Nat.le_of_lt (small1000 (by omega))
  have he : ∃ q, h'.get? s.heap.objs.size = some q := let ⟨q, _, _, hq, _⟩ := dd'; ⟨q, hq⟩
  have I3 := d_write (t' := s2.toks + vs.length) I2 (by rw [upd_same]; trivial) hs he (dk_new (H' := upd (upd H s.heap.objs.size (.dK [])) s.heap.objs.size (.dK (mergeK [] kvs))) hz hd (rk.merge .nil) dd')
  rw [upd_upd] at I3
  exact h _ _ hn I3
end
end CW

namespace CW
open PySem PySem.Spec PyProof.Rows L2 K1
open Sem (wp)
abbrev PT2 := Sem Value × Sem Value
theorem gather (f : (Option (Sem Value) × Sem Value) → (Option Addr × List PT2) → Sem (ForInStep (Option Addr × List PT2)))
    (hf : ∀ (p : PT2) (m : Option Addr) (run : List PT2), run.length + 1 < 17 → f (some p.1, p.2) (m, run) = pure (.yield (m, run ++ [p]))) (m : Option Addr) (tl : List (Option (Sem Value) × Sem Value)) :
    ∀ (items run : List PT2), run.length + items.length < 17 → forIn (items.map (fun p => (some p.1, p.2)) ++ tl) (m, run) f = forIn tl (m, run ++ items) f
  | [], run, _ => by simp
  | p :: rest, run, h => by
    have h' : run.length + (rest.length + 1) < 17 := by simpa using h
    rw [List.map_cons, List.cons_append, List.forIn_cons, hf p m run (by omega), pure_bind]
    have := gather f hf m tl rest (run ++ [p]) (by simp; omega)
    simpa using this
theorem display_long (p1 : List PT2) (p : PT2) (p2 : List PT2) (h1 : p1.length = 16) (h2 : p2 ≠ []) (h3 : p2.length < 17) :
    dictDisplay ((p1 ++ p :: p2).map fun p => (some p.1, p.2)) = (do
      let d ← subDict (p1 ++ [p])
      let b ← holding [.ref d] (subDict p2)
      (holding [.ref d, .ref b] (mergeMapping d (.ref b) false)).onRaise fun x => do let _ ← holding [.ref d, x] (runValue (.builtin "proto.let_go" {}))
      pure (.ref d)) := by
  unfold dictDisplay
  dsimp only
  rw [List.map_append]
  have hf : ∀ (p : PT2) (m : Option Addr) (run : List PT2), run.length + 1 < 17 → ((run ++ [(p.1, p.2)]).length == 17) = false := fun p m run h => by simp; omega
  rw [gather _ (fun p m run h => by simp only [hf p m run h, Bool.false_eq_true, if_false]) none _ p1 [] (by simp [h1])]
  rw [List.map_cons, List.forIn_cons]
  have e17 : ((p1 ++ [(p.1, p.2)]).length == 17) = true := by simp [h1]
  have hne : (p1 ++ [(p.1, p.2)]).isEmpty = false := by simp
  simp only [List.nil_append, e17, if_true, hne, Bool.false_eq_true, if_false, bind_assoc, pure_bind]
  refine congrArg (subDict (p1 ++ [p]) >>= ·) (funext fun d => ?_)
  rw [← List.append_nil (List.map _ p2)]
  rw [gather _ (fun p m run h => by simp only [hf p m run h, Bool.false_eq_true, if_false]) (some d) [] p2 [] (by simpa using h3)]
  rw [List.forIn_nil, pure_bind]
  have hp : p2.isEmpty = false := by simpa using h2
  simp only [List.nil_append, hp, Bool.false_eq_true, if_false, bind_assoc, pure_bind]
section
variable {X : Cx} {pins : List (Addr × Obj)} {σ : L2.St} {H : Hp}
theorem pairs_split {p1 p2 : List PT2} {p : PT2} {kvs : List (Key × V)} (h : Paired (CPair X pins σ) (p1 ++ p :: p2) kvs) : ∃ k1 k2, kvs = k1 ++ k2 ∧ k1.length = p1.length + 1 ∧ Paired (CPair X pins σ) (p1 ++ [p]) k1 ∧ Paired (CPair X pins σ) p2 k2 := by
  induction p1 generalizing kvs with
  | nil =>
    cases h with
    | @cons _ b _ r h1 h2 => exact ⟨[b], r, rfl, rfl, .cons h1 .nil, h2⟩
  | cons q p1 ih =>
    cases h with
    | @cons _ b _ r h1 h2 =>
      obtain ⟨k1, k2, rfl, l, a, c⟩ := ih h2
      exact ⟨b :: k1, k2, rfl, by simp [l], .cons h1 a, c⟩
theorem mergeK_append (a b c : List (Key × V)) : mergeK a (b ++ c) = mergeK (mergeK a b) c := List.foldl_append
theorem put_nonempty (kvs : List (Key × V)) (k : Key) (v : V) : putK kvs k v ≠ [] := by
  unfold putK
  split
  · rename_i h
    intro e
    rw [List.map_eq_nil_iff] at e
    subst e
    simp at h
  · simp
theorem merge_nonempty (kvs more : List (Key × V)) (h : kvs ≠ [] ∨ more ≠ []) : mergeK kvs more ≠ [] := by
  induction more generalizing kvs with
  | nil => exact h.resolve_right (fun z => z rfl)
  | cons q r ih => exact ih _ (.inl (put_nonempty kvs q.1 q.2))
theorem merge_new : ∀ (more kvs : List (Key × V)), ((kvs ++ more).map (·.1)).Nodup → mergeK kvs more = kvs ++ more
  | [], kvs, _ => by rw [List.append_nil]; rfl
  | q :: r, kvs, h => by
    show mergeK (putK kvs q.1 q.2) r = _
    have hq : valV kvs q.1 = none := by
      cases hv : valV kvs q.1 with
      | none => rfl
      | some v =>
        exfalso
        obtain ⟨x, hx, _⟩ := Option.map_eq_some_iff.mp hv
        have m1 := List.mem_of_find?_eq_some hx
        have m2 := of_decide_eq_true (List.find?_some (p := fun kv : Key × V => decide (kv.1 = q.1)) hx)
        rw [List.map_append, List.nodup_append] at h
        exact h.2.2 x.1 (List.mem_map.mpr ⟨x, m1, rfl⟩) q.1 (by simp) m2
    rw [putK_new _ hq, merge_new r (kvs ++ [(q.1, q.2)]) (by simpa using h)]
    simp
theorem upd_swap {a b : Addr} {x y : HO} (n : a ≠ b) : upd (upd H a x) b y = upd (upd H b y) a x := by
  funext c
  by_cases e1 : c = a
  · subst e1
    rw [upd_ne n, upd_same, upd_same]
  · by_cases e2 : c = b
    · subst e2
      rw [upd_same, upd_ne e1, upd_same]
    · rw [upd_ne e2, upd_ne e1, upd_ne e1, upd_ne e2]
/-- a display of 18 to 32 constants -/
theorem dlit_ok {keys : List (Option Expr)} {values : List Expr} {pos : Pos} {kvs : List (Key × V)} {s : Shared} {E : Value → Shared → Prop} {Q : Value → Shared → Prop} (hall : keys.all (·.isSome) = true) (hl : keys.length = values.length) (h1 : 17 < keys.length) (h2 : keys.length ≤ 32)
    (hp : Paired (CPair X pins σ) (pairTrees keys values X.env pos) kvs) (nd : (kvs.map (·.1)).Nodup) (I : Inv X pins σ H s)
    (h : ∀ d b s' more, H d = none → H b = none → d ≠ b → Inv X pins σ (upd (upd H b more) d (.dK kvs)) s' → Q (.ref d) s') : wpAny (model X.prog X.w) X.A (eval (.Dict keys values pos) X.env) Q E s := by
  have hn := pairTrees_length keys values X.env pos hall hl
  rw [arm_eval_Dict, zip_pairTrees keys values X.env pos hall hl]
  refine wpAny_bind (wpAny_standAt ?_)
  generalize pairTrees keys values X.env pos = ps at hp hn
  have hd : ps.drop 16 ≠ [] := fun z => by
    have := congrArg List.length z
    rw [List.length_drop, List.length_nil] at this
    omega
  obtain ⟨p, p2, e⟩ := List.exists_cons_of_ne_nil hd
  have es : ps = ps.take 16 ++ p :: p2 := by rw [← e, List.take_append_drop]
  have l1 : (ps.take 16).length = 16 := by rw [List.length_take]; omega
  have l2 : p2.length + 17 = ps.length := by
    have := congrArg List.length es
    rw [List.length_append, l1, List.length_cons] at this
    omega
  rw [es] at hp ⊢
  obtain ⟨k1, k2, rfl, lk, hp1, hp2⟩ := pairs_split hp
  rw [display_long _ _ _ l1 (by intro z; rw [z] at l2; simp at l2; omega) (by omega)]
  have lk2 := Paired.length hp2
  have ll1 := Paired.length hp1
  have ne1 : k1 ≠ [] := fun z => by rw [z] at lk; simp at lk
  refine wpAny_bind (sub_long (by rw [List.length_append, l1]; simp) hp1 (by omega) I fun d s1 hd I1 => ?_)
  refine wpAny_bind (wpAny_holding (sub_short (by omega) hp2 I1 fun b s2 hb I2 => ?_))
  have ndb : d ≠ b := fun z => by
    subst z
    rw [upd_same] at hb
    cases hb
  have hHb : H b = none := by
    rw [upd_ne ndb.symm] at hb
    exact hb
  have hd2 : (upd (upd H d (.dK (mergeK [] k1))) b (.dK (mergeK [] k2))) d = some (.dK (mergeK [] k1)) := by rw [upd_ne ndb, upd_same]
  have f1 := length_mergeK k1 []
  have f2 := length_mergeK k2 []
  simp only [List.length_nil] at f1 f2
  refine wpAny_bind (wpAny_onRaise (wpAny_holding (merge_ok I2 hd2 upd_same ndb (merge_nonempty _ _ (.inr ne1)) (by omega) fun s3 I3 => ?_)))
  refine wpAny_pure (h d b s3 (.dK (mergeK [] k2)) hd hHb ndb ?_)
  have nd' := nd
  rw [List.map_append, List.nodup_append] at nd'
  have e1 : mergeK [] k1 = k1 := merge_new k1 [] nd'.1
  have e2 : mergeK [] k2 = k2 := merge_new k2 [] nd'.2.1
  rw [e1, e2, merge_new k2 k1 nd, upd_swap ndb, upd_upd] at I3
  rw [e2]
  exact I3
end
/-- written texts -/
def strEs : List Expr → Option (List Str)
  | [] => some []
  | .Constant (.str x) _ _ :: r => (strEs r).map (x :: ·)
  | _ :: _ => none
def keyEs : List (Option Expr) → Option (List Str)
  | [] => some []
  | some (.Constant (.str x) _ _) :: r => (keyEs r).map (x :: ·)
  | _ :: _ => none
theorem keyEs_cons {k : Option Expr} {keys : List (Option Expr)} {ks : List Str} (h : keyEs (k :: keys) = some ks) : ∃ x j p ks', k = some (.Constant (.str x) j p) ∧ keyEs keys = some ks' ∧ ks = x :: ks' := by
  unfold keyEs at h
  split at h
  · rename_i heq
    cases heq
  · rename_i x j p r heq
    cases heq
    obtain ⟨l, h1, rfl⟩ := Option.map_eq_some_iff.mp h
    exact ⟨x, j, p, l, rfl, h1, rfl⟩
  · cases h
theorem strEs_cons {v : Expr} {values : List Expr} {vs : List Str} (h : strEs (v :: values) = some vs) : ∃ x j p vs', v = .Constant (.str x) j p ∧ strEs values = some vs' ∧ vs = x :: vs' := by
  unfold strEs at h
  split at h
  · rename_i heq
    cases heq
  · rename_i x j p r heq
    cases heq
    obtain ⟨l, h1, rfl⟩ := Option.map_eq_some_iff.mp h
    exact ⟨x, j, p, l, rfl, h1, rfl⟩
  · cases h
theorem cpairs {X : Cx} {pins : List (Addr × Obj)} {σ : L2.St} {pos : Pos} : ∀ {keys : List (Option Expr)} {values : List Expr} {ks vs : List Str}, keyEs keys = some ks → strEs values = some vs → ks.length = vs.length →
    Paired (CPair X pins σ) (pairTrees keys values X.env pos) (List.zipWith (fun k v => ((.inr k : Key), V.str v)) ks vs)
  | [], values, ks, vs, h1, h2, hl => by
    have : ks = [] := by
      have h3 : some [] = some ks := h1
      exact (Option.some.inj h3).symm
    subst this
    cases values <;> exact .nil
  | k :: keys, [], ks, vs, h1, h2, hl => by
    have : vs = [] := by
      have h3 : some [] = some vs := h2
      exact (Option.some.inj h3).symm
    subst this
    obtain ⟨x, j, p, ks', rfl, hk, rfl⟩ := keyEs_cons h1
    simp at hl
  | k :: keys, v :: values, ks, vs, h1, h2, hl => by
    obtain ⟨x, j, p, ks', rfl, hk, rfl⟩ := keyEs_cons h1
    obtain ⟨y, j2, p2, vs', rfl, hv, rfl⟩ := strEs_cons h2
    refine .cons ⟨fun s H E Q I h => ?_, fun s H E Q I h => ?_⟩ (cpairs hk hv (by simpa using hl))
    · exact Calls.Constant_str (env := X.env) (k := j) (pos := p) (h _ _ ⟨_, rfl⟩ (I.tok _))
    · exact wpAny_bind (Calls.Constant_str (env := X.env) (k := j2) (pos := p2) (wpAny_bind (wpAny_standAt (wpAny_pure (h _ _ ⟨_, rfl⟩ (I.tok _))))))
/-- {"k": "v", ..}, 18 to 32 written texts -/
def cDLit (ks vs : List Str) : TE := fun _ H Q => ∀ d b more, H d = none → H b = none → d ≠ b → Q (.ref d) (upd (upd H b more) d (.dK (List.zipWith (fun k v => ((.inr k : Key), V.str v)) ks vs)))
theorem c_dlit {X : Cx} {keys : List (Option Expr)} {values : List Expr} {pos : Pos} {ks vs : List Str} (h1 : keyEs keys = some ks := by rfl) (h2 : strEs values = some vs := by rfl) (h3 : (ks.length == vs.length && (17 < ks.length && (ks.length ≤ 32 && decide ks.Nodup))) = true := by decide +kernel)
    (h4 : (keys.all (·.isSome) && (keys.length == values.length && (decide (17 < keys.length) && decide (keys.length ≤ 32)))) = true := by decide +kernel) : PE X (.Dict keys values pos) (cDLit ks vs) := by
  simp only [Bool.and_eq_true, beq_iff_eq, decide_eq_true_eq] at h3 h4
  refine ⟨fun pins s σ H Q I q => dlit_ok h4.1 h4.2.1 h4.2.2.1 h4.2.2.2 (cpairs h1 h2 h3.1) ?_ I fun d b s' more hd hb hn I' => ⟨V.ref d, _, I', rfl, q d b more hd hb hn⟩⟩
  have e : ∀ (ks vs : List Str), ks.length = vs.length → (List.zipWith (fun k v => ((.inr k : Key), V.str v)) ks vs).map (·.1) = ks.map Sum.inr := by
    intro ks
    induction ks with
    | nil => intro vs _; rfl
    | cons k ks ih =>
      intro vs hl
      cases vs with
      | nil => simp at hl
      | cons v vs =>
        show _ :: _ = _ :: _
        rw [ih vs (by simpa using hl)]
  rw [e ks vs h3.1]
  have inj : ∀ (ks : List Str), ks.Nodup → (ks.map (Sum.inr : Str → Key)).Nodup := fun ks hn => by
    induction hn with
    | nil => exact .nil
    | @cons a l h _ ih =>
      rw [List.map_cons, List.nodup_cons]
      refine ⟨fun hm => ?_, ih⟩
      obtain ⟨z, hz, ez⟩ := List.mem_map.mp hm
      cases ez
      exact h _ hz rfl
  exact inj ks h3.2.2.2
end CW

/-! law_k03: what is a program, over trees of data. -/
namespace K3
open PySem PySem.Spec PyProof.Rows L2 CW VM K1
/-- the rows of EXPRESSIONS, of STATEMENTS -/
abbrev eRows : List (Str × List Str) := [("value", ["value"]), ("var", ["name"]), ("read", ["name"]), ("peek", ["name"]), ("state", ["name"]), ("get", ["name", "expression"]), ("has", ["name", "expression"]), ("size", ["name"]), ("use", ["name"]), ("add", ["expression", "expression"]), ("join", ["expression", "expression"]), ("equal", ["expression", "expression"]), ("less", ["expression", "expression"]), ("not", ["expression"])]
abbrev sRows : List (Str × List Str) := [("let", ["name", "expression"]), ("if", ["expression", "block", "block"]), ("each", ["name", "name", "block"]), ("try", ["block", "name", "block"]), ("raise", ["expression"]), ("return", ["expression"]), ("emit", ["expression"]), ("write", ["name", "expression"]), ("put", ["name", "expression", "expression"]), ("remove", ["name", "expression"]), ("reset", ["name"]), ("dispose", ["name"]), ("cleanup", ["expression"]), ("signal", ["name", "expression"]), ("store", ["name", "pairs"]), ("scope", ["name"]), ("boundary", ["name"]), ("computed", ["name", "block"]), ("effect", ["name", "block"]), ("resource", ["name", "block"]), ("keyed", ["name", "name", "name", "block"]), ("atomic", ["block", "name", "block"])]

mutual
def expr (dp : Int) : Da → Bool
  | .tup ds => exprT dp ds
  | _ => false
def exprT (dp : Int) : List Da → Bool
  | .v (.str w) :: ps => match rowAt eRows w with
    | some ks => decide (ps.length = ks.length) && (decide (dp ≤ 5) && exprP dp ks ps)
    | none => false
  | _ => false
def exprP (dp : Int) : List Str → List Da → Bool
  | k :: ks, p :: ps => (if k = "name" then keyD p else if k = "value" then valD p else expr (dp + 1) p) && exprP dp ks ps
  | _, _ => true
end
/-- the key of a pair -/
def pairKey : Da → Option Str
  | .tup [.v (.str k), _] => if isKeyS k then some k else none
  | _ => none
def keyedD : Da → Bool
  | .lst ds => decide (ds.length ≤ 8) && (ds.all (fun d => (pairKey d).isSome) && decide ((ds.filterMap pairKey).Nodup))
  | _ => false
def pairEx : Da → Bool
  | .tup [_, e] => expr 1 e
  | _ => false
def pairsD : Da → Bool
  | .lst ds => keyedD (.lst ds) && ds.all pairEx
  | _ => false
def part (k : Str) (d : Da) (dp : Int) : Bool := if k = "name" then keyD d else if k = "value" then valD d else if k = "pairs" then pairsD d else expr dp d
def oadd : Option Int → Option Int → Option Int
  | some a, some b => some (a + b)
  | _, _ => none
theorem oadd_some {a b : Option Int} {s : Int} (h : oadd a b = some s) : ∃ x y, a = some x ∧ b = some y ∧ s = x + y := by
  cases a <;> cases b <;> simp [oadd] at h
  exact ⟨_, _, rfl, rfl, h.symm⟩
theorem oadd_assoc (a b c : Option Int) : oadd (oadd a b) c = oadd a (oadd b c) := by
  cases a <;> cases b <;> cases c <;> simp [oadd, Int.add_assoc]
theorem oadd_zero (a : Option Int) : oadd (some 0) a = a := by cases a <;> simp [oadd]
theorem oadd_zero' (a : Option Int) : oadd a (some 0) = a := by cases a <;> simp [oadd]

mutual
def szB (dp : Int) : Da → Option Int
  | .lst ds => if ds.isEmpty = true then some 0 else if 5 < dp then none else szBs dp ds
  | _ => none
def szBs (dp : Int) : List Da → Option Int
  | [] => some 0
  | d :: ds => oadd (szS dp d) (szBs dp ds)
def szS (dp : Int) : Da → Option Int
  | .tup ds => szT dp ds
  | _ => none
def szT (dp : Int) : List Da → Option Int
  | .v (.str w) :: ps => match rowAt sRows w with
    | some ks => if ps.length = ks.length then oadd (some 1) (szP dp ks ps) else none
    | none => none
  | _ => none
def szP (dp : Int) : List Str → List Da → Option Int
  | k :: ks, p :: ps => oadd (if k = "block" then szB (dp + 1) p else if part k p 1 then some 0 else none) (szP dp ks ps)
  | _, _ => some 0
end
def one (dp : Int) (k : Str) (p : Da) : Option Int := if k = "block" then szB (dp + 1) p else if part k p 1 then some 0 else none
theorem szP_cons (dp : Int) (k : Str) (ks : List Str) (p : Da) (ps : List Da) : szP dp (k :: ks) (p :: ps) = oadd (one dp k p) (szP dp ks ps) := by
  conv => lhs; unfold szP
  rfl
theorem szBs_cons (dp : Int) (d : Da) (ds : List Da) : szBs dp (d :: ds) = oadd (szS dp d) (szBs dp ds) := by
  conv => lhs; unfold szBs
theorem szBs_nil (dp : Int) : szBs dp [] = some 0 := by unfold szBs; rfl
theorem szP_nil (dp : Int) (ps : List Da) : szP dp [] ps = some 0 := by unfold szP; rfl
mutual
theorem szB_pos : ∀ (d : Da) (dp s : Int), szB dp d = some s → 0 ≤ s
  | .v _, dp, s, h => by simp [szB] at h
  | .tup _, dp, s, h => by simp [szB] at h
  | .lst ds, dp, s, h => by
    unfold szB at h
    split at h
    · cases h; exact Int.le_refl _
    · split at h
      · cases h
      · exact szBs_pos ds dp s h
theorem szBs_pos : ∀ (ds : List Da) (dp s : Int), szBs dp ds = some s → 0 ≤ s
  | [], dp, s, h => by simp [szBs] at h; omega
  | d :: ds, dp, s, h => by
    rw [szBs_cons] at h
    obtain ⟨x, y, h1, h2, rfl⟩ := oadd_some h
    have := szS_pos d dp x h1
    have := szBs_pos ds dp y h2
    omega
theorem szS_pos : ∀ (d : Da) (dp s : Int), szS dp d = some s → 0 ≤ s
  | .v _, dp, s, h => by simp [szS] at h
  | .lst _, dp, s, h => by simp [szS] at h
  | .tup ds, dp, s, h => by
    unfold szS at h
    exact szT_pos ds dp s h
theorem szT_pos : ∀ (ds : List Da) (dp s : Int), szT dp ds = some s → 0 ≤ s
  | [], dp, s, h => by simp [szT] at h
  | d :: ps, dp, s, h => by
    unfold szT at h
    split at h
    · rename_i w ps' heq
      cases heq
      split at h
      · split at h
        · obtain ⟨x, y, h1, h2, rfl⟩ := oadd_some h
          cases h1
          have := szP_pos _ ps dp y h2
          omega
        · cases h
      · cases h
    · cases h
theorem szP_pos : ∀ (ks : List Str) (ps : List Da) (dp s : Int), szP dp ks ps = some s → 0 ≤ s
  | [], ps, dp, s, h => by rw [szP_nil] at h; cases h; exact Int.le_refl _
  | k :: ks, [], dp, s, h => by simp [szP] at h; omega
  | k :: ks, p :: ps, dp, s, h => by
    rw [szP_cons] at h
    obtain ⟨x, y, h1, h2, rfl⟩ := oadd_some h
    have := szP_pos ks ps dp y h2
    unfold one at h1
    split at h1
    · have := szB_pos p (dp + 1) x h1
      omega
    · split at h1
      · cases h1
        omega
      · cases h1
end
theorem szBs_snoc (dp : Int) (d : Da) : ∀ ds : List Da, szBs dp (ds ++ [d]) = oadd (szBs dp ds) (szS dp d)
  | [] => by
    show szBs dp [d] = _
    rw [szBs_cons, szBs_nil, oadd_zero, oadd_zero']
  | e :: ds => by
    show szBs dp (e :: (ds ++ [d])) = _
    rw [szBs_cons, szBs_cons, szBs_snoc dp d ds, oadd_assoc]
theorem szBs_take {dp : Int} {ds : List Da} {i : Nat} {d : Da} (h : ds[i]? = some d) : szBs dp (ds.take (i + 1)) = oadd (szBs dp (ds.take i)) (szS dp d) := by
  rw [List.take_add_one, h]
  exact szBs_snoc dp d _
theorem szBs_app (dp : Int) (es : List Da) : ∀ ds : List Da, szBs dp (ds ++ es) = oadd (szBs dp ds) (szBs dp es)
  | [] => by
    show szBs dp es = _
    rw [szBs_nil, oadd_zero]
  | e :: ds => by
    show szBs dp (e :: (ds ++ es)) = _
    rw [szBs_cons, szBs_cons, szBs_app dp es ds, oadd_assoc]
theorem szBs_le {dp : Int} {ds : List Da} {j : Nat} {s : Int} (h : szBs dp ds = some s) : ∃ t, szBs dp (ds.take j) = some t ∧ t ≤ s := by
  have e := szBs_app dp (ds.drop j) (ds.take j)
  rw [List.take_append_drop, h] at e
  obtain ⟨x, y, h1, h2, h3⟩ := oadd_some e.symm
  have := szBs_pos _ _ _ h2
  exact ⟨x, h1, by omega⟩
theorem szP_snoc (dp : Int) (k : Str) (p : Da) : ∀ (ks : List Str) (ps : List Da), ks.length = ps.length → szP dp (ks ++ [k]) (ps ++ [p]) = oadd (szP dp ks ps) (one dp k p)
  | [], [], _ => by
    show szP dp [k] [p] = _
    rw [szP_cons, szP_nil, oadd_zero, oadd_zero']
  | [], _ :: _, h => by simp at h
  | _ :: _, [], h => by simp at h
  | k' :: ks, p' :: ps, h => by
    show szP dp (k' :: (ks ++ [k])) (p' :: (ps ++ [p])) = _
    rw [szP_cons, szP_cons, szP_snoc dp k p ks ps (by simpa using h), oadd_assoc]
theorem szP_take {dp : Int} {ks : List Str} {ps : List Da} {i : Nat} {k : Str} {p : Da} (hl : ks.length = ps.length) (h1 : ks[i]? = some k) (h2 : ps[i]? = some p) : szP dp (ks.take (i + 1)) (ps.take (i + 1)) = oadd (szP dp (ks.take i) (ps.take i)) (one dp k p) := by
  rw [List.take_add_one, List.take_add_one, h1, h2]
  exact szP_snoc dp k p _ _ (by rw [List.length_take, List.length_take, hl])
theorem szP_app (dp : Int) (ks' : List Str) (ps' : List Da) : ∀ (ks : List Str) (ps : List Da), ks.length = ps.length → szP dp (ks ++ ks') (ps ++ ps') = oadd (szP dp ks ps) (szP dp ks' ps')
  | [], [], _ => by
    show szP dp ks' ps' = _
    rw [szP_nil, oadd_zero]
  | [], _ :: _, h => by simp at h
  | _ :: _, [], h => by simp at h
  | k' :: ks, p' :: ps, h => by
    show szP dp (k' :: (ks ++ ks')) (p' :: (ps ++ ps')) = _
    rw [szP_cons, szP_cons, szP_app dp ks' ps' ks ps (by simpa using h), oadd_assoc]
theorem szP_le {dp : Int} {ks : List Str} {ps : List Da} {j : Nat} {s : Int} (hl : ks.length = ps.length) (h : szP dp ks ps = some s) : ∃ t, szP dp (ks.take j) (ps.take j) = some t ∧ t ≤ s := by
  have e := szP_app dp (ks.drop j) (ps.drop j) (ks.take j) (ps.take j) (by rw [List.length_take, List.length_take, hl])
  rw [List.take_append_drop, List.take_append_drop, h] at e
  obtain ⟨x, y, h1, h2, h3⟩ := oadd_some e.symm
  have := szP_pos _ _ _ _ h2
  exact ⟨x, h1, by omega⟩
/-- a program -/
def okD (d : Da) : Bool := match szB 1 d with
  | some s => decide (s ≤ 200)
  | none => false
theorem eRow_kinds {w : Str} {ks : List Str} (h : rowAt eRows w = some ks) : ks.length ≤ 3 ∧ ∀ k ∈ ks, k = "name" ∨ k = "value" ∨ k = "expression" := by
  obtain ⟨p, hp, rfl⟩ := Option.map_eq_some_iff.mp h
  have := List.mem_of_find?_eq_some hp
  have e : ∀ p ∈ eRows, p.2.length ≤ 3 ∧ ∀ k ∈ p.2, k = "name" ∨ k = "value" ∨ k = "expression" := by decide +kernel
  exact e p this
theorem sRow_kinds {w : Str} {ks : List Str} (h : rowAt sRows w = some ks) : ks.length ≤ 4 ∧ ∀ k ∈ ks, k = "name" ∨ k = "pairs" ∨ k = "expression" ∨ k = "block" := by
  obtain ⟨p, hp, rfl⟩ := Option.map_eq_some_iff.mp h
  have := List.mem_of_find?_eq_some hp
  have e : ∀ p ∈ sRows, p.2.length ≤ 4 ∧ ∀ k ∈ p.2, k = "name" ∨ k = "pairs" ∨ k = "expression" ∨ k = "block" := by decide +kernel
  exact e p this
theorem exprP_all {dp : Int} : ∀ {ks : List Str} {ps : List Da}, (∀ k ∈ ks, k = "name" ∨ k = "value" ∨ k = "expression") → exprP dp ks ps = (List.zipWith (fun k p => part k p (dp + 1)) ks ps).all id
  | [], ps, _ => by unfold exprP; rfl
  | k :: ks, [], _ => by unfold exprP; rfl
  | k :: ks, p :: ps, h => by
    have ih := exprP_all (dp := dp) (ks := ks) (ps := ps) (fun k hk => h k (List.mem_cons_of_mem _ hk))
    have e : (if k = "name" then keyD p else if k = "value" then valD p else expr (dp + 1) p) = part k p (dp + 1) := by
      unfold part
      rcases h k (List.mem_cons_self ..) with rfl | rfl | rfl <;> rfl
    conv => lhs; unfold exprP
    rw [e, ih]
    rfl
end K3

namespace K3
open PySem PySem.Spec PyProof.Rows L2 CW K1
open VM
def topS (i : Nat) : Stmt := PySem.Challenge.pw_ripplewell_k03_programs.main.body.getD i (.Pass ⟨0, 0, 0, 0⟩)
theorem boot_len : bootBuiltins "len" = some (.builtin "len") := by decide +kernel
theorem boot_abs : bootBuiltins "abs" = some (.builtin "abs") := by decide +kernel
theorem boot_all : bootBuiltins "all" = some (.builtin "all") := by decide +kernel
theorem boot_isinstance : bootBuiltins "isinstance" = some (.builtin "isinstance") := by decide +kernel
theorem boot_int : bootBuiltins "int" = some (.type "int") := by decide +kernel
theorem boot_str : bootBuiltins "str" = some (.type "str") := by decide +kernel
theorem boot_bool : bootBuiltins "bool" = some (.type "bool") := by decide +kernel
theorem boot_type : bootBuiltins "type" = some (.type "type") := by decide +kernel
theorem boot_range : bootBuiltins "range" = some (.type "range") := by decide +kernel
theorem boot_list : bootBuiltins "list" = some (.type "list") := by decide +kernel
theorem boot_tuple : bootBuiltins "tuple" = some (.type "tuple") := by decide +kernel
theorem boot_zip : bootBuiltins "zip" = some (.type "zip") := by decide +kernel
theorem boot_set : bootBuiltins "set" = some (.type "set") := by decide +kernel
structure Gs (mg : Str → Option Value) (u1 u2 u3 u4 u5 u6 : Tok) (dE dS : Addr) (K : PySem.W.Frag) (w : World) : Prop where
  n_len : mg "len" = none
  n_abs : mg "abs" = none
  n_all : mg "all" = none
  n_isinstance : mg "isinstance" = none
  n_int : mg "int" = none
  n_str : mg "str" = none
  n_bool : mg "bool" = none
  n_type : mg "type" = none
  n_range : mg "range" = none
  n_list : mg "list" = none
  n_tuple : mg "tuple" = none
  n_zip : mg "zip" = none
  n_set : mg "set" = none
  c_GREATEST_NUMBER : mg "GREATEST_NUMBER" = some (.int 999 u1)
  c_LONGEST_TEXT : mg "LONGEST_TEXT" = some (.int 40 u2)
  c_LONGEST_KEY : mg "LONGEST_KEY" = some (.int 8 u3)
  c_MOST_STATEMENTS : mg "MOST_STATEMENTS" = some (.int 200 u4)
  c_MOST_PAIRS : mg "MOST_PAIRS" = some (.int 8 u5)
  c_DEEPEST : mg "DEEPEST" = some (.int 5 u6)
  o_EXPRESSIONS : mg "EXPRESSIONS" = some (.ref dE)
  o_STATEMENTS : mg "STATEMENTS" = some (.ref dS)
  t_E : Tab K w dE (rowAt eRows)
  t_S : Tab K w dS (rowAt sRows)
section
variable {P : Program} {w : World} {K : PySem.W.Frag} {mg : Str → Option Value} {base : Heap} {u1 u2 u3 u4 u5 u6 : Tok} {dE dS : Addr}
/-! ### is_value -/
abbrev s_is_value : Stmt := topS 4
theorem sc_is_value : FnScope ["thing"] ["thing"] (defScope s_is_value) := ⟨rfl, rfl, rfl, by decide +kernel, rfl, by decide +kernel, by decide +kernel⟩
def sp_is_value (K : PySem.W.Frag) : Sp := fun vs H Q _ => match vs with
  | [v] => Th K H v ∧ Q (.bl (isVal v)) H
  | _ => False
theorem ok_is_value {f : Addr} {fd : FuncData} (F : Fun K "is_value" "is_value" s_is_value f fd) (G : Gs mg u1 u2 u3 u4 u5 u6 dE dS K w) : FnOk P w K mg base CX0 1 f fd ["thing"] (sp_is_value K) := by
  refine F.ok sc_is_value (fun vs H Q E h => ?_) (fun cdv A outer s H vs Q E hr h => ?_)
  · unfold sp_is_value at h
    split at h
    · rfl
    · exact h.elim
  · unfold sp_is_value at h
    split at h
    case h_2 => exact h.elim
    case h_1 v =>
      obtain ⟨hv, k⟩ := h
      refine ⟨_, (pss_cons (s_if (PW.pt (w_or (t_cmp o_is (c_var 0) pe_non) (w_or (t_cmp o_is (c_var 0) pe_bl) (w_or1 (t_cmp o_is (c_var 0) pe_bl))))) (pss_one (s_ret pe_bl)) pss_nil)
    (pss_cons (s_if (t_cmp o_eq (c_ty (b_type (K := K) rfl) G.n_type boot_type (pa_cons (c_var 0) pa_nil)) (c_tyv G.n_int boot_int)) (pss_one (s_ret (c_chain o_le o_le pe_int (c_var 0) (c_int G.c_GREATEST_NUMBER)))) pss_nil)
    (pss_one (s_ret (c_and (c_cmp o_eq (c_ty (b_type (K := K) rfl) G.n_type boot_type (pa_cons (c_var 0) pa_nil)) (c_tyv G.n_str boot_str)) (c_one (c_cmp o_le (c_bi (b_len (K := K) rfl) G.n_len boot_len (pa_cons (c_var 0) pa_nil)) (c_int G.c_LONGEST_TEXT)))))))), ?_⟩
      cases hv with
      | non => exact k
      | bl b => cases b <;> exact k
      | int i =>
        refine ⟨TypeEq.meta_int, TypeEq.meta_int, Gen.yes (by decide) ?_⟩
        refine Gen.dec (fun h => ?_) (fun h => ?_)
        · refine Gen.sub ?_
          have e : isVal (.int i) = decide (i ≤ 999) := by simp [isVal, h]
          rw [e] at k
          exact k
        · have e : isVal (.int i) = false := by simp [isVal, h]
          rw [e] at k
          exact k
      | str x h =>
        refine ⟨TypeEq.meta_str, TypeEq.meta_int, Gen.no (by decide) ?_⟩
        refine ⟨TypeEq.meta_str, TypeEq.meta_str, Gen.yes (by decide) ?_⟩
        exact ⟨Nat.le_trans h (by decide), Gen.sub k⟩
      | lst h =>
        refine ⟨_, .lst h, TypeEq.meta_list, TypeEq.meta_int, Gen.no (by decide) ?_⟩
        exact ⟨_, .lst h, TypeEq.meta_list, TypeEq.meta_str, Gen.no (by decide) k⟩
      | tup h =>
        refine ⟨_, .tup h, TypeEq.meta_tuple, TypeEq.meta_int, Gen.no (by decide) ?_⟩
        exact ⟨_, .tup h, TypeEq.meta_tuple, TypeEq.meta_str, Gen.no (by decide) k⟩
      | dK h =>
        refine ⟨_, .dK h, TypeEq.meta_dict, TypeEq.meta_int, Gen.no (by decide) ?_⟩
        exact ⟨_, .dK h, TypeEq.meta_dict, TypeEq.meta_str, Gen.no (by decide) k⟩
/-! ### is_key -/
abbrev s_is_key : Stmt := topS 5
theorem sc_is_key : FnScope ["thing", "letter"] ["thing"] (defScope s_is_key) := ⟨rfl, rfl, rfl, by decide +kernel, rfl, by decide +kernel, by decide +kernel⟩
def sp_is_key (K : PySem.W.Frag) : Sp := fun vs H Q _ => match vs with
  | [v] => Th K H v ∧ ∀ H', Same H H' → Q (.bl (isKey v)) H'
  | _ => False
theorem ok_is_key {f : Addr} {fd : FuncData} (F : Fun K "is_key" "is_key" s_is_key f fd) (G : Gs mg u1 u2 u3 u4 u5 u6 dE dS K w) : FnOk P w K mg base CX0 1 f fd ["thing"] (sp_is_key K) := by
  refine F.ok sc_is_key (fun vs H Q E h => ?_) (fun cdv A outer s H vs Q E hr h => ?_)
  · unfold sp_is_key at h
    split at h
    · rfl
    · exact h.elim
  · unfold sp_is_key at h
    split at h
    case h_2 => exact h.elim
    case h_1 v =>
      obtain ⟨hv, k⟩ := h
      refine ⟨_, (pss_cons (s_if (PW.pt (w_or (t_cmp o_ne (c_ty (b_type (K := K) rfl) G.n_type boot_type (pa_cons (c_var 0) pa_nil)) (c_tyv G.n_str boot_str)) (w_or1 (t_not (t_chain o_le o_le pe_int (c_bi (b_len (K := K) rfl) G.n_len boot_len (pa_cons (c_var 0) pa_nil)) (c_int G.c_LONGEST_KEY)))))) (pss_one (s_ret pe_bl)) pss_nil)
    (pss_one (s_ret (c_bi (cr_all rfl) G.n_all boot_all (pa_cons (c_lcS (c_var 0) sc_is_key.nd rfl (by show blkC ["thing", "letter"] (defScope s_is_key) _ [("letter", 1)] = true; decide +kernel) (fun _ _ _ _ _ => pg_name (i := 1) sc_is_key.nd rfl (Or.inl rfl)) (fun _ _ _ _ _ => pts_nil) (fun _ _ _ _ _ => (c_chain o_le o_le pe_str (c_var 1) pe_str))) pa_nil))))), ?_⟩
      cases hv with
      | non => exact ⟨TypeEq.meta_NoneType, TypeEq.meta_str, Gen.no (by decide) (k H (Same.refl H))⟩
      | bl b => exact ⟨TypeEq.meta_bool, TypeEq.meta_str, Gen.no (by decide) (k H (Same.refl H))⟩
      | int i => exact ⟨TypeEq.meta_int, TypeEq.meta_str, Gen.no (by decide) (k H (Same.refl H))⟩
      | lst h => exact ⟨_, .lst h, TypeEq.meta_list, TypeEq.meta_str, Gen.no (by decide) (k H (Same.refl H))⟩
      | tup h => exact ⟨_, .tup h, TypeEq.meta_tuple, TypeEq.meta_str, Gen.no (by decide) (k H (Same.refl H))⟩
      | dK h => exact ⟨_, .dK h, TypeEq.meta_dict, TypeEq.meta_str, Gen.no (by decide) (k H (Same.refl H))⟩
      | str x h =>
        refine ⟨TypeEq.meta_str, TypeEq.meta_str, Gen.yes (by decide) ?_⟩
        refine ⟨Nat.le_trans h (by decide), Gen.dec (fun h1 => Gen.dec (fun h2 => ?_) (fun h2 => ?_)) (fun h1 => ?_)⟩
        · -- the letters
          intro D hD
          refine ⟨fun i H' => Same H H' ∧ H' D = some (.lst ((x.cps.toList.take i).map fun c => V.bl (lt c))), ⟨same_upd hD, upd_same⟩, fun i c H' hc p => ?_, fun H' p => ?_⟩
          · obtain ⟨s1, e1⟩ := p
            have hc' : x.cps.toList[i]? = some c := by rw [Array.getElem?_toList]; exact hc
            have el : (x.cps.toList.take (i + 1)).map (fun c => V.bl (lt c)) = (x.cps.toList.take i).map (fun c => V.bl (lt c)) ++ [V.bl (lt c)] := by
              rw [List.take_add_one, hc', List.map_append]
              rfl
            have ln : ((x.cps.toList.take i).map fun c => V.bl (lt c)).length < sizeLine := by
              rw [List.length_map, List.length_take]
              have : x.cps.toList.length = x.length := by simp [Str.length]
              exact Nat.lt_of_le_of_lt (Nat.min_le_right _ _) (small1000 (by omega))
            refine Gen.ndec (fun h3 => ?_) (fun h3 => Gen.ndec (fun h4 => ?_) (fun h4 => ?_))
            · have e : lt c = false := by
                have := lt_lo.mp h3
                simp only [lt, Bool.and_eq_false_iff, decide_eq_false_iff_not]; omega
              refine ⟨_, e1, ln, same_upd2 s1 hD, ?_⟩
              rw [upd_same, el, e]
            · have e : lt c = false := by
                have := lt_hi.mp h4
                simp only [lt, Bool.and_eq_false_iff, decide_eq_false_iff_not]; omega
              refine ⟨_, e1, ln, same_upd2 s1 hD, ?_⟩
              rw [upd_same, el, e]
            · have e : lt c = true := by
                have h5 : ¬ c < 97 := fun z => h3 (lt_lo.mpr z)
                have h6 : ¬ 122 < c := fun z => h4 (lt_hi.mpr z)
                simp only [lt, Bool.and_eq_true, decide_eq_true_eq]; omega
              refine ⟨_, e1, ln, same_upd2 s1 hD, ?_⟩
              rw [upd_same, el, e]
          · obtain ⟨s1, e1⟩ := p
            have e2 : x.cps.toList.take x.cps.size = x.cps.toList := List.take_of_length_le (by simp)
            rw [e2] at e1
            refine ⟨D, x.cps.toList.map lt, rfl, SqL.of (by rw [e1, List.map_map]; rfl), ?_⟩
            have e3 : isKey (.str x) = (x.cps.toList.map lt).all id := by
              show isKeyS x = _
              unfold isKeyS
              rw [decide_eq_true h1, decide_eq_true h2, List.all_map]
              rfl
            have k1 := k H' s1
            rw [e3] at k1
            exact k1
        · have e3 : isKey (.str x) = false := by
            show isKeyS x = _
            unfold isKeyS
            rw [decide_eq_false h2]
            simp
          have k1 := k H (Same.refl H)
          rw [e3] at k1
          exact k1
        · have e3 : isKey (.str x) = false := by
            show isKeyS x = _
            unfold isKeyS
            rw [decide_eq_false h1]
            simp
          have k1 := k H (Same.refl H)
          rw [e3] at k1
          exact k1
/-! ### has_word -/
/-- a tuple that begins with a text -/
def wordD : Da → Bool
  | .tup (.v (.str _) :: _) => true
  | _ => false
abbrev s_has_word : Stmt := topS 15
theorem sc_has_word : FnScope ["thing"] ["thing"] (defScope s_has_word) := ⟨rfl, rfl, rfl, by decide +kernel, rfl, by decide +kernel, by decide +kernel⟩
def sp_has_word (K : PySem.W.Frag) : Sp := fun vs H Q _ => match vs with
  | [x] => ∃ n A d, Tr H A n x d ∧ Q (.bl (wordD d)) H
  | _ => False
theorem ok_has_word {f : Addr} {fd : FuncData} (F : Fun K "has_word" "has_word" s_has_word f fd) (G : Gs mg u1 u2 u3 u4 u5 u6 dE dS K w) : FnOk P w K mg base CX0 1 f fd ["thing"] (sp_has_word K) := by
  refine F.ok sc_has_word (fun vs H Q E h => ?_) (fun cdv A outer s H vs Q E hr h => ?_)
  · unfold sp_has_word at h
    split at h
    · rfl
    · exact h.elim
  · unfold sp_has_word at h
    split at h
    case h_2 => exact h.elim
    case h_1 x =>
      obtain ⟨n, A, d, hd, k⟩ := h
      refine ⟨_, (pss_one (s_ret (c_and (c_cmp o_eq (c_ty (b_type (K := K) rfl) G.n_type boot_type (pa_cons (c_var 0) pa_nil)) (c_tyv G.n_tuple boot_tuple)) (c_and (c_cmp o_gt (c_bi (b_len (K := K) rfl) G.n_len boot_len (pa_cons (c_var 0) pa_nil)) pe_int) (c_one (c_cmp o_eq (c_ty (b_type (K := K) rfl) G.n_type boot_type (pa_cons (c_ix (K := K) rfl (c_var 0) pe_int) pa_nil)) (c_tyv G.n_str boot_str))))))), ?_⟩
      cases n with
      | zero => exact hd.elim
      | succ n =>
        cases d with
        | v y =>
          obtain ⟨rfl, s⟩ := hd
          cases s with
          | non => exact ⟨TypeEq.meta_NoneType, TypeEq.meta_tuple, Gen.no (by decide) k⟩
          | bl b => exact ⟨TypeEq.meta_bool, TypeEq.meta_tuple, Gen.no (by decide) k⟩
          | int i => exact ⟨TypeEq.meta_int, TypeEq.meta_tuple, Gen.no (by decide) k⟩
          | str x h => exact ⟨TypeEq.meta_str, TypeEq.meta_tuple, Gen.no (by decide) k⟩
        | lst ds =>
          obtain ⟨_, a, xs, rfl, _, h, _⟩ := hd
          exact ⟨_, .lst (SqL.of h), TypeEq.meta_list, TypeEq.meta_tuple, Gen.no (by decide) k⟩
        | tup ds =>
          obtain ⟨_, a, xs, rfl, h, p⟩ := hd
          refine ⟨_, .tup (SqT.of h), TypeEq.meta_tuple, TypeEq.meta_tuple, Gen.yes (by decide) (.inl ⟨xs, .inr (SqT.of h), ?_⟩)⟩
          cases p with
          | nil => exact Gen.no (by decide) k
          | @cons x1 d1 xs1 ds1 h1 p1 =>
            refine Gen.yes (by simp only [List.length_cons, decide_eq_true_eq]; omega) ⟨_, _, .inr (SqT.of h), atI_nat (j := 0) rfl, ?_⟩
            cases n with
            | zero => exact h1.elim
            | succ n =>
              cases d1 with
              | v y =>
                obtain ⟨rfl, s⟩ := h1
                cases s with
                | non => exact ⟨TypeEq.meta_NoneType, TypeEq.meta_str, Gen.no (by decide) k⟩
                | bl b => exact ⟨TypeEq.meta_bool, TypeEq.meta_str, Gen.no (by decide) k⟩
                | int i => exact ⟨TypeEq.meta_int, TypeEq.meta_str, Gen.no (by decide) k⟩
                | str x h => exact ⟨TypeEq.meta_str, TypeEq.meta_str, Gen.yes (by decide) k⟩
              | lst ds =>
                obtain ⟨_, a, xs, rfl, _, h, _⟩ := h1
                exact ⟨_, .lst (SqL.of h), TypeEq.meta_list, TypeEq.meta_str, Gen.no (by decide) k⟩
              | tup ds =>
                obtain ⟨_, a, xs, rfl, h, _⟩ := h1
                exact ⟨_, .tup (SqT.of h), TypeEq.meta_tuple, TypeEq.meta_str, Gen.no (by decide) k⟩
end
end K3

namespace K3
open PySem PySem.Spec PyProof.Rows L2 CW K1
open VM
section
variable {P : Program} {w : World} {K : PySem.W.Frag} {mg : Str → Option Value} {base : Heap} {u1 u2 u3 u4 u5 u6 : Tok} {dE dS : Addr}
/-! ### are_keyed_pairs -/
abbrev s_are_keyed_pairs : Stmt := topS 19
theorem sc_are_keyed_pairs : FnScope ["thing", "seen", "pair"] ["thing"] (defScope s_are_keyed_pairs) := ⟨rfl, rfl, rfl, by decide +kernel, rfl, by decide +kernel, by decide +kernel⟩
def sp_are_keyed_pairs : Sp := fun vs H Q _ => match vs with
  | [x] => ∃ n A d, Tr H A n x d ∧ ∀ H', Same H H' → Q (.bl (keyedD d)) H'
  | _ => False
theorem keyedD_lst (ds : List Da) : keyedD (.lst ds) = (decide (ds.length ≤ 8) && (ds.all (fun d => (pairKey d).isSome) && decide ((ds.filterMap pairKey).Nodup))) := rfl
theorem cnt_step {ks : List Str} {k : Str} {n : Nat} (h1 : n ≤ ks.length) (h2 : n = ks.length ↔ ks.Nodup) : (if decide (k ∈ ks) = true then n else n + 1) ≤ (ks ++ [k]).length ∧ ((if decide (k ∈ ks) = true then n else n + 1) = (ks ++ [k]).length ↔ (ks ++ [k]).Nodup) := by
  have e : (ks ++ [k]).Nodup ↔ ks.Nodup ∧ k ∉ ks := by
    rw [List.nodup_append]
    constructor
    · rintro ⟨a, _, c⟩
      exact ⟨a, fun m => c k m k (by simp) rfl⟩
    · rintro ⟨a, c⟩
      exact ⟨a, by simp, fun x hx y hy e => by simp at hy; subst hy e; exact c hx⟩
  rw [e, List.length_append, List.length_singleton]
  by_cases m : k ∈ ks
  · rw [if_pos (decide_eq_true m)]
    exact ⟨by omega, ⟨fun q => by omega, fun q => absurd m q.2⟩⟩
  · rw [if_neg (by simpa using m)]
    refine ⟨by omega, ⟨fun q => ⟨h2.mp (by omega), m⟩, fun q => by have := h2.mpr q.1; omega⟩⟩
theorem ok_are_keyed_pairs {f : Addr} {fd : FuncData} (F : Fun K "are_keyed_pairs" "are_keyed_pairs" s_are_keyed_pairs f fd) (G : Gs mg u1 u2 u3 u4 u5 u6 dE dS K w) (C_is_key : Has P w K mg base 1 "is_key" ["thing"] (sp_is_key K)) : FnOk P w K mg base CX0 3 f fd ["thing"] sp_are_keyed_pairs := by
  refine F.ok sc_are_keyed_pairs (fun vs H Q E h => ?_) (fun cdv A outer s H vs Q E hr h => ?_)
  · unfold sp_are_keyed_pairs at h
    split at h
    · rfl
    · exact h.elim
  · unfold sp_are_keyed_pairs at h
    split at h
    case h_2 => exact h.elim
    case h_1 x =>
      obtain ⟨n, A, d, hd, k⟩ := h
      refine ⟨_, (pss_cons (s_if (PW.pt (w_or (t_cmp o_ne (c_ty (b_type (K := K) rfl) G.n_type boot_type (pa_cons (c_var 0) pa_nil)) (c_tyv G.n_list boot_list)) (w_or1 (t_cmp o_gt (c_bi (b_len (K := K) rfl) G.n_len boot_len (pa_cons (c_var 0) pa_nil)) (c_int G.c_MOST_PAIRS))))) (pss_one (s_ret pe_bl)) pss_nil)
    (pss_cons (s_set 1 sc_are_keyed_pairs.nd (c_set0 (P := P) (w := w) rfl rfl G.n_set boot_set))
    (pss_cons (s_forL (K := K) rfl 2 (c_var 0) sc_are_keyed_pairs.nd (pss_cons (s_if (PW.pt (w_or (t_cmp o_ne (c_ty (b_type (K := K) rfl) G.n_type boot_type (pa_cons (c_var 2) pa_nil)) (c_tyv G.n_tuple boot_tuple)) (w_or (t_cmp o_ne (c_bi (b_len (K := K) rfl) G.n_len boot_len (pa_cons (c_var 2) pa_nil)) pe_int) (w_or1 (t_not (t_tru (K := K) rfl (c_call C_is_key (hr.mono (by omega)) (pa_cons (c_ix (K := K) rfl (c_var 2) pe_int) pa_nil)))))))) (pss_one (s_ret pe_bl)) pss_nil)
    (pss_one (s_sadd (P := P) (w := w) rfl rfl (c_var 1) (c_ix (K := K) rfl (c_var 2) pe_int)))))
    (pss_one (s_ret (c_cmp o_eq (c_bi (b_lenSet (P := P) (w := w) rfl rfl) G.n_len boot_len (pa_cons (c_var 1) pa_nil)) (c_bi (b_len (K := K) rfl) G.n_len boot_len (pa_cons (c_var 0) pa_nil)))))))), ?_⟩
      have k0 := k H (Same.refl H)
      cases n with
      | zero => exact hd.elim
      | succ n =>
        cases d with
        | v y =>
          obtain ⟨rfl, s⟩ := hd
          cases s with
          | non => exact ⟨TypeEq.meta_NoneType, TypeEq.meta_list, Gen.no (by decide) k0⟩
          | bl b => exact ⟨TypeEq.meta_bool, TypeEq.meta_list, Gen.no (by decide) k0⟩
          | int i => exact ⟨TypeEq.meta_int, TypeEq.meta_list, Gen.no (by decide) k0⟩
          | str x h => exact ⟨TypeEq.meta_str, TypeEq.meta_list, Gen.no (by decide) k0⟩
        | tup ds =>
          obtain ⟨_, a, xs, rfl, h, _⟩ := hd
          exact ⟨_, .tup (SqT.of h), TypeEq.meta_tuple, TypeEq.meta_list, Gen.no (by decide) k0⟩
        | lst ds =>
          obtain ⟨_, a, xs, rfl, _, h, p⟩ := hd
          have hlen := Paired.length p
          refine ⟨_, .lst (SqL.of h), TypeEq.meta_list, TypeEq.meta_list, Gen.yes (by decide) (.inl ⟨xs, .inl (SqL.of h), Gen.dec (fun h8 => ?_) (fun h8 => ?_)⟩)⟩
          · have e : keyedD (.lst ds) = false := by
              rw [keyedD_lst]
              rw [decide_eq_false (by omega)]
              rfl
            rw [e] at k0
            exact k0
          · have l8 : ds.length ≤ 8 := by omega
            intro q hq
            have sq : Same H (upd H q (SetK P w q (fun _ => false) 0)) := same_upd hq
            refine ⟨xs, SqL.of (sq _ _ h), fun i σ H' => ∃ (y2 : Option V) (S : Key → Bool) (m : Nat), σ = [some (.ref a), some (.ref q), y2] ∧ Same H H' ∧ H' q = some (SetK P w q S m) ∧ (ds.take i).all (fun d => (pairKey d).isSome) = true ∧
              ((ds.take i).filterMap pairKey).length = i ∧ (∀ j : Str, S (.inr j) = decide (j ∈ (ds.take i).filterMap pairKey)) ∧ m ≤ i ∧ (m = i ↔ ((ds.take i).filterMap pairKey).Nodup), ⟨none, _, 0, rfl, sq, upd_same, rfl, rfl, fun j => rfl, Nat.le_refl _, by simp⟩, fun i σ H' _ p => ?_, fun i x σ H' hx p' => ?_, fun σ H' p' => ?_⟩
            · obtain ⟨_, _, _, _, s, _⟩ := p
              exact SqL.of (s _ _ h)
            · obtain ⟨y2, S, m, rfl, s, eq, al, ln, sm, ml, mi⟩ := p'
              obtain ⟨d, ed, td⟩ := pget p hx
              have td' := Tr.same s td
              have bad : pairKey d = none → keyedD (.lst ds) = false := fun hb => by
                rw [keyedD_lst]
                have : ds.all (fun d => (pairKey d).isSome) = false := by
                  rw [List.all_eq_false]
                  exact ⟨d, List.mem_of_getElem? ed, by simp [hb]⟩
                rw [this]
                simp
              have kb := fun hb => by
                have := k H' s
                rw [bad hb] at this
                exact this
              cases n with
              | zero => exact td.elim
              | succ n =>
                cases d with
                | v y =>
                  obtain ⟨rfl, sb⟩ := td
                  cases sb with
                  | non => exact ⟨TypeEq.meta_NoneType, TypeEq.meta_tuple, Gen.no (by decide) (kb rfl)⟩
                  | bl b => exact ⟨TypeEq.meta_bool, TypeEq.meta_tuple, Gen.no (by decide) (kb rfl)⟩
                  | int i => exact ⟨TypeEq.meta_int, TypeEq.meta_tuple, Gen.no (by decide) (kb rfl)⟩
                  | str x h => exact ⟨TypeEq.meta_str, TypeEq.meta_tuple, Gen.no (by decide) (kb rfl)⟩
                | lst es =>
                  obtain ⟨_, a2, xs2, rfl, _, h2, _⟩ := td'
                  exact ⟨_, .lst (SqL.of h2), TypeEq.meta_list, TypeEq.meta_tuple, Gen.no (by decide) (kb rfl)⟩
                | tup es =>
                  obtain ⟨_, a2, xs2, rfl, h2, p2⟩ := td'
                  refine ⟨_, .tup (SqT.of h2), TypeEq.meta_tuple, TypeEq.meta_tuple, Gen.yes (by decide) (.inl ⟨xs2, .inr (SqT.of h2), ?_⟩)⟩
                  cases p2 with
                  | nil => exact Gen.no (by decide) (kb rfl)
                  | @cons x1 d1 xs3 ds3 q1 p3 =>
                    cases p3 with
                    | nil =>
                      refine Gen.no rfl (kb ?_)
                      unfold pairKey
                      split
                      · rename_i heq
                        cases heq
                      · rfl
                    | @cons x2 d2 xs4 ds4 q2 p4 =>
                      cases p4 with
                      | @cons x3 d3 xs5 ds5 q3 p5 =>
                        refine Gen.no (by simp only [List.length_cons, decide_eq_false_iff_not]; omega) (kb ?_)
                        unfold pairKey
                        split
                        · rename_i heq
                          cases heq
                        · rfl
                      | nil =>
                        refine Gen.yes rfl ⟨_, x1, .inr (SqT.of h2), atI_nat (j := 0) rfl, q1.th, fun H2 s2 => ?_⟩
                        have ek := q1.key
                        have s3 := s.trans s2
                        have epk : ∀ y : Str, d1 = .v (.str y) → pairKey (.tup [d1, d2]) = if isKeyS y then some y else none := fun y e => by
                          subst e
                          rfl
                        cases hk : isKey x1 with
                        | false =>
                          have : pairKey (.tup [d1, d2]) = none := by
                            cases d1 with
                            | v y =>
                              cases y <;> try rfl
                              rw [epk _ rfl]
                              rw [hk] at ek
                              have e5 : isKeyS _ = false := ek.symm
                              rw [e5]
                              rfl
                            | _ => rfl
                          have := k H2 s3
                          rw [bad ‹_›] at this
                          exact this
                        | true =>
                          obtain ⟨y, rfl⟩ : ∃ y, x1 = .str y := by
                            cases x1 <;> simp [isKey] at hk
                            exact ⟨_, rfl⟩
                          have ed1 : d1 = .v (.str y) := by
                            cases n with
                            | zero => exact q1.elim
                            | succ n =>
                              cases d1 with
                              | v z =>
                                obtain ⟨e, _⟩ := q1
                                rw [e]
                              | tup _ => obtain ⟨_, _, _, e, _⟩ := q1; cases e
                              | lst _ => obtain ⟨_, _, _, e, _⟩ := q1; cases e
                          have e5 : pairKey (.tup [d1, d2]) = some y := by
                            rw [epk y ed1, if_pos (show isKeyS y = true from hk)]
                          have eq2 := s2 _ _ eq
                          have ef : (ds.take (i + 1)).filterMap pairKey = (ds.take i).filterMap pairKey ++ [y] := by
                            rw [List.take_add_one, ed, List.filterMap_append]
                            simp [e5]
                          refine ⟨⟨_, _, eq2⟩, _, _, .inr (SqT.of (s2 _ _ h2)), atI_nat (j := 0) rfl, S, m, .inr y, rfl, eq2, Nat.lt_of_le_of_lt (show m + 1 ≤ 9 by have := (List.getElem?_eq_some_iff.mp ed).1; omega) (by decide), ?_⟩
                          have cs := cnt_step (k := y) (n := m) (ks := (ds.take i).filterMap pairKey) (by rw [ln]; exact ml) (by rw [ln]; exact mi)
                          rw [← ef] at cs
                          have ln' : ((ds.take (i + 1)).filterMap pairKey).length = i + 1 := by
                            rw [ef, List.length_append, ln]
                            rfl
                          refine ⟨_, _, _, rfl, fun c o ec => ?_, upd_same, ?_, ln', fun j => ?_, ?_, ?_⟩
                          · rw [upd_ne (ne_of_none ec hq)]
                            exact s3 c o ec
                          · rw [List.take_add_one, ed, List.all_append, al]
                            simp [e5]
                          · show (S (.inr j) || decide ((.inr j : Key) = .inr y)) = _
                            rw [sm j, ef]
                            by_cases e1 : j ∈ (ds.take i).filterMap pairKey
                            · simp [e1]
                            · by_cases e2 : j = y
                              · subst e2
                                simp
                              · have e3 : ¬ ((.inr j : Key) = .inr y) := fun z => e2 (Sum.inr.inj z)
                                simp [e1, e2, e3]
                          · have := cs.1
                            rw [ln'] at this
                            rw [sm y]
                            exact this
                          · have := cs.2
                            rw [ln'] at this
                            rw [sm y]
                            exact this
            · obtain ⟨y2, S, m, rfl, s, eq, al, ln, sm, ml, mi⟩ := p'
              have et : ds.take xs.length = ds := List.take_of_length_le (by omega)
              rw [et] at al ln sm mi
              refine ⟨S, m, eq, .inl ⟨xs, .inl (SqL.of (s _ _ h)), Gen.sub ?_⟩⟩
              have := k H' s
              have e : keyedD (.lst ds) = decide ((m : Int) = (xs.length : Int)) := by
                rw [keyedD_lst]
                rw [decide_eq_true l8, al]
                show decide _ = decide _
                by_cases z : m = xs.length
                · rw [decide_eq_true (mi.mp z), decide_eq_true (by omega)]
                · rw [decide_eq_false (fun q => z (mi.mpr q)), decide_eq_false (by omega)]
              rw [e] at this
              exact this
end
end K3

namespace K3
open PySem PySem.Spec PyProof.Rows L2 CW K1
open VM
section
variable {P : Program} {w : World} {K : PySem.W.Frag} {mg : Str → Option Value} {base : Heap} {u1 u2 u3 u4 u5 u6 : Tok} {dE dS : Addr}
/-! ### is_part, is_expression, are_pairs -/
abbrev s_is_part : Stmt := topS 16
theorem sc_is_part : FnScope ["kind", "thing", "depth"] ["kind", "thing", "depth"] (defScope s_is_part) := ⟨rfl, rfl, rfl, by decide +kernel, rfl, by decide +kernel, by decide +kernel⟩
abbrev s_is_expression : Stmt := topS 17
theorem sc_is_expression : FnScope ["thing", "depth", "form", "kind", "part"] ["thing", "depth"] (defScope s_is_expression) := ⟨rfl, rfl, rfl, by decide +kernel, rfl, by decide +kernel, by decide +kernel⟩
abbrev s_are_pairs : Stmt := topS 18
theorem sc_are_pairs : FnScope ["thing", "key", "part"] ["thing"] (defScope s_are_pairs) := ⟨rfl, rfl, rfl, by decide +kernel, rfl, by decide +kernel, by decide +kernel⟩
def sp_is_part (n : Nat) : Sp := fun vs H Q _ => match vs with
  | [.str k, x, .int dp] => ∃ A d, Tr H A n x d ∧ ∀ H', Same H H' → Q (.bl (part k d dp)) H'
  | _ => False
def sp_is_expression (n : Nat) : Sp := fun vs H Q _ => match vs with
  | [x, .int dp] => ∃ A d, Tr H A n x d ∧ ∀ H', Same H H' → Q (.bl (expr dp d)) H'
  | _ => False
def sp_are_pairs (n : Nat) : Sp := fun vs H Q _ => match vs with
  | [x] => ∃ A d, Tr H A n x d ∧ ∀ H', Same H H' → Q (.bl (pairsD d)) H'
  | _ => False
theorem cut1 (x : V) (xs : List V) : cutV (x :: xs) (some 1) none = xs := by
  show ((x :: xs).drop (min 1 (xs.length + 1))).take ((xs.length + 1) - min 1 (xs.length + 1)) = xs
  have : min 1 (xs.length + 1) = 1 := by omega
  rw [this]
  simp
theorem not_whole (x : V) (xs : List V) : ¬ (HT.sIx (x :: xs).length 0 (some 1) = 0 ∧ HT.sIx (x :: xs).length (x :: xs).length none = (x :: xs).length) := by
  intro h
  have h1 : min 1 (xs.length + 1) = 0 := h.1
  omega
theorem word_row {d : Da} (h : wordD d = true) : ∃ w ps, d = .tup (.v (.str w) :: ps) := by
  cases d with
  | v _ => cases h
  | lst _ => cases h
  | tup ds =>
    cases ds with
    | nil => cases h
    | cons d ds =>
      cases d with
      | v y => cases y <;> first | exact ⟨_, _, rfl⟩ | cases h
      | tup _ => cases h
      | lst _ => cases h
theorem word_no {d : Da} {dp : Int} (h : wordD d = false) : expr dp d = false := by
  cases d with
  | v _ => rfl
  | lst _ => rfl
  | tup ds =>
    cases ds with
    | nil => rfl
    | cons d ds =>
      cases d with
      | v y => cases y <;> first | rfl | cases h
      | tup _ => rfl
      | lst _ => rfl
theorem tr_word {H : Hp} {A : Addr → Prop} {n : Nat} {x : V} {w : Str} {ps : List Da} (h : Tr H A n x (.tup (.v (.str w) :: ps))) : ∃ m a xs, n = m + 2 ∧ x = .ref a ∧ H a = some (.tup (.str w :: xs)) ∧ Paired (Tr H A (m + 1)) xs ps ∧ w.length ≤ 100 ∧ ps.length < 100000 := by
  cases n with
  | zero => exact h.elim
  | succ n =>
    obtain ⟨z, a, xs, rfl, e, p⟩ := h
    cases p with
    | @cons x1 d1 xs1 ds1 h1 p1 =>
      cases n with
      | zero => exact h1.elim
      | succ n =>
        obtain ⟨rfl, s⟩ := h1
        cases s with
        | str _ l => exact ⟨n, a, xs1, rfl, rfl, e, p1, l, by simp only [List.length_cons] at z; omega⟩
theorem ok_exprs {fp fe fa : Addr} {dp de da : FuncData} (Fp : Fun K "is_part" "is_part" s_is_part fp dp) (Fe : Fun K "is_expression" "is_expression" s_is_expression fe de) (Fa : Fun K "are_pairs" "are_pairs" s_are_pairs fa da) (G : Gs mg u1 u2 u3 u4 u5 u6 dE dS K w)
    (mp : mg "is_part" = some (.ref fp)) (me : mg "is_expression" = some (.ref fe)) (ma : mg "are_pairs" = some (.ref fa)) (bp : Binds K dp ["kind", "thing", "depth"] []) (be : Binds K de ["thing", "depth"] []) (ba : Binds K da ["thing"] [])
    (C_is_key : Has P w K mg base 1 "is_key" ["thing"] (sp_is_key K)) (C_is_value : Has P w K mg base 1 "is_value" ["thing"] (sp_is_value K)) (C_has_word : Has P w K mg base 1 "has_word" ["thing"] (sp_has_word K)) (C_are_keyed_pairs : Has P w K mg base 3 "are_keyed_pairs" ["thing"] sp_are_keyed_pairs) : ∀ n : Nat, FnOk P w K mg base CX0 (3 * n + 5) fp dp ["kind", "thing", "depth"] (sp_is_part n) ∧ FnOk P w K mg base CX0 (3 * n + 4) fe de ["thing", "depth"] (sp_is_expression n) ∧ FnOk P w K mg base CX0 (3 * n + 4) fa da ["thing"] (sp_are_pairs n) := by
  -- is_part, by the two others
  have part_of : ∀ n, FnOk P w K mg base CX0 (3 * n + 4) fe de ["thing", "depth"] (sp_is_expression n) → FnOk P w K mg base CX0 (3 * n + 4) fa da ["thing"] (sp_are_pairs n) → FnOk P w K mg base CX0 (3 * n + 5) fp dp ["kind", "thing", "depth"] (sp_is_part n) := by
    intro n He Ha
    have C_is_expression : Has P w K mg base (3 * n + 4) "is_expression" ["thing", "depth"] (sp_is_expression n) := ⟨fe, _, He, me, Fe.kp, be⟩
    have C_are_pairs : Has P w K mg base (3 * n + 4) "are_pairs" ["thing"] (sp_are_pairs n) := ⟨fa, _, Ha, ma, Fa.kp, ba⟩
    refine Fp.ok sc_is_part (fun vs H Q E h => ?_) (fun cdv A outer s H vs Q E hr h => ?_)
    · unfold sp_is_part at h
      split at h
      · rfl
      · exact h.elim
    · unfold sp_is_part at h
      split at h
      case h_2 => exact h.elim
      case h_1 kd x dep =>
        obtain ⟨A, d, hd, k⟩ := h
        refine ⟨_, (pss_cons (s_if (t_cmp o_eq (c_var 0) pe_str) (pss_one (s_ret (c_call C_is_key (hr.mono (by omega)) (pa_cons (c_var 1) pa_nil)))) pss_nil)
    (pss_cons (s_if (t_cmp o_eq (c_var 0) pe_str) (pss_one (s_ret (c_call C_is_value (hr.mono (by omega)) (pa_cons (c_var 1) pa_nil)))) pss_nil)
    (pss_cons (s_if (t_cmp o_eq (c_var 0) pe_str) (pss_one (s_ret (c_call C_are_pairs (hr.mono (by omega)) (pa_cons (c_var 1) pa_nil)))) pss_nil)
    (pss_one (s_ret (c_call C_is_expression (hr.mono (by omega)) (pa_cons (c_var 1) (pa_cons (c_var 2) pa_nil)))))))), ?_⟩
        refine Gen.dec (fun h1 => ⟨hd.th, fun H' s' => ?_⟩) (fun h1 => Gen.dec (fun h2 => ⟨hd.th, ?_⟩) (fun h2 => Gen.dec (fun h3 => ⟨A, d, hd, fun H' s' => ?_⟩) (fun h3 => ⟨A, d, hd, fun H' s' => ?_⟩)))
        · have := k H' s'
          unfold part at this
          rw [if_pos h1, ← hd.key] at this
          exact this
        · have := k H (Same.refl H)
          unfold part at this
          rw [if_neg h1, if_pos h2, ← hd.val] at this
          exact this
        · have := k H' s'
          unfold part at this
          rw [if_neg h1, if_neg h2, if_pos h3] at this
          exact this
        · have := k H' s'
          unfold part at this
          rw [if_neg h1, if_neg h2, if_neg h3] at this
          exact this
  intro n
  induction n using Nat.strongRecOn with
  | _ n ih =>
    have goE : FnOk P w K mg base CX0 (3 * n + 4) fe de ["thing", "depth"] (sp_is_expression n) := by
      cases n with
      | zero =>
        refine ⟨fun vs H Q E h => ?_, fun A outer s H args us vs Q E hr he hb hv h => ?_⟩
        · unfold sp_is_expression at h
          split at h
          · rfl
          · exact h.elim
        · unfold sp_is_expression at h
          split at h
          · obtain ⟨_, _, h, _⟩ := h
            exact h.elim
          · exact h.elim
      | succ n =>
        have C_is_part : Has P w K mg base (3 * n + 5) "is_part" ["kind", "thing", "depth"] (sp_is_part n) := ⟨fp, _, (ih n (Nat.lt_succ_self n)).1, mp, Fp.kp, bp⟩
        refine Fe.ok sc_is_expression (fun vs H Q E h => ?_) (fun cdv A outer s H vs Q E hr h => ?_)
        · unfold sp_is_expression at h
          split at h
          · rfl
          · exact h.elim
        · unfold sp_is_expression at h
          split at h
          case h_2 => exact h.elim
          case h_1 x dep =>
            obtain ⟨A, d, hd, k⟩ := h
            refine ⟨_, (pss_cons (s_set 2 sc_is_expression.nd (c_ife (t_tru (K := K) rfl (c_call C_has_word (hr.mono (by omega)) (pa_cons (c_var 0) pa_nil))) (c_getK (K := K) (w := w) rfl rfl (c_obj G.o_EXPRESSIONS) (c_ix (K := K) rfl (c_var 0) pe_int)) pe_non))
    (pss_cons (s_if (PW.pt (w_or (t_cmp o_is (c_var 2) pe_non) (w_or (t_cmp o_ne (c_bi (b_len (K := K) rfl) G.n_len boot_len (pa_cons (c_var 0) pa_nil)) (c_bin o_add (c_bi (b_len (K := K) rfl) G.n_len boot_len (pa_cons (c_var 2) pa_nil)) pe_int)) (w_or1 (t_cmp o_gt (c_var 1) (c_int G.c_DEEPEST)))))) (pss_one (s_ret pe_bl)) pss_nil)
    (pss_one (s_ret (c_bi (cr_all rfl) G.n_all boot_all (pa_cons (c_lcZ (K := K) rfl 3 4 (pa_cons (c_var 2) (pa_cons (c_sl (K := K) rfl (c_var 0) (o_some pe_int) o_none) pa_nil)) G.n_zip sc_is_expression.nd (by show blkC ["thing", "depth", "form", "kind", "part"] (defScope s_is_expression) _ [("kind", 3), ("part", 4)] = true; decide +kernel) (fun _ _ _ _ _ => g_pair rfl 3 4 sc_is_expression.nd rfl rfl rfl (Or.inl rfl) (Or.inl rfl) (Or.inr rfl) (Or.inr rfl)) (fun _ _ _ _ _ => (c_call C_is_part (hr.mono (by omega)) (pa_cons (c_var 3) (pa_cons (c_var 4) (pa_cons (c_bin o_add (c_var 1) pe_int) pa_nil)))))) pa_nil)))))), ?_⟩
            refine ⟨_, A, d, hd, ?_⟩
            cases hw : wordD d with
            | false =>
              have := k H (Same.refl H)
              rw [word_no hw] at this
              exact this
            | true =>
              obtain ⟨wd, ps, rfl⟩ := word_row hw
              obtain ⟨m, a, xs, em, rfl, e, p, lw, lp⟩ := tr_word hd
              cases em
              have lx := Paired.length p
              refine ⟨G.t_E.1, _, _, .inr (SqT.of e), atI_nat (j := 0) rfl, ?_⟩
              have tz := G.t_E.2 wd
              cases hr2 : rowAt eRows wd with
              | none =>
                rw [hr2] at tz
                refine .inr ⟨tz, ?_⟩
                have := k H (Same.refl H)
                have e1 : expr dep (.tup (.v (.str wd) :: ps)) = false := by
                  unfold expr exprT
                  rw [hr2]
                rw [e1] at this
                exact this
              | some ks =>
                rw [hr2] at tz
                obtain ⟨t, kt, ku⟩ := tz
                obtain ⟨lk, kk⟩ := eRow_kinds hr2
                refine .inl ⟨_, kt, .inl ⟨_, .inr (SqT.of e), .inl ⟨_, .inr (ku.seqT H), ?_⟩⟩⟩
                have e1 : expr dep (.tup (.v (.str wd) :: ps)) = (decide (ps.length = ks.length) && (decide (dep ≤ 5) && exprP dep ks ps)) := by
                  conv => lhs; unfold expr exprT
                  rw [hr2]
                rw [e1] at k
                have k0 := k H (Same.refl H)
                rw [List.length_cons, List.length_map]
                refine Gen.dec (fun hl => ?_) (fun hl => ?_)
                · have hl' : ps.length = ks.length := by omega
                  rw [decide_eq_true hl'] at k k0
                  refine Gen.dec (fun h5 => ?_) (fun h5 => ?_)
                  · rw [decide_eq_false (by omega)] at k0
                    exact k0
                  · rw [decide_eq_true (by omega)] at k k0
                    refine .inl ⟨_, SqT.of e, fun hq => absurd hq (not_whole _ _), fun _ q hq => ?_⟩
                    rw [cut1]
                    have sq : Same H (upd H q (.tup xs)) := same_upd hq
                    refine ⟨_, _, ku.seqT _, SqT.of upd_same, fun D hD => ?_⟩
                    have nqD : q ≠ D := fun z => by
                      subst z
                      rw [upd_same] at hD
                      cases hD
                    have sD : Same H (upd (upd H q (.tup xs)) D (.lst [])) := sq.trans (same_upd hD)
                    have hHD : H D = none := by
                      cases hz : H D with
                      | none => rfl
                      | some o =>
                        have := sq _ _ hz
                        rw [hD] at this
                        cases this
                    have qD := sq
                    refine ⟨fun i H' => Same H H' ∧ H' q = some (.tup xs) ∧ H' D = some (.lst (((List.zipWith (fun k p => part k p (dep + 1)) ks ps).take i).map V.bl)), ⟨sD, by rw [upd_ne nqD, upd_same], upd_same⟩, fun i H' p' => ⟨ku.seqT _, SqT.of p'.2.1⟩, fun i kx px T H' hk hp p' hT => ?_, fun H' p' => ?_⟩
                    · obtain ⟨s', q', d'⟩ := p'
                      rw [List.getElem?_map] at hk
                      obtain ⟨kk1, hk1, rfl⟩ := Option.map_eq_some_iff.mp hk
                      obtain ⟨dd, hdd, td⟩ := pget p hp
                      have sT : Same H' (upd H' T (.tup [.str kk1, px])) := same_upd hT
                      refine ⟨A, dd, td.same (s'.trans sT), fun H2 s2 => ?_⟩
                      have s3 := (s'.trans sT).trans s2
                      have d2 := (sT.trans s2) _ _ d'
                      refine ⟨_, d2, ?_, fun c o ec => ?_, ?_, ?_⟩
                      · rw [List.length_map, List.length_take]
                        exact Nat.lt_of_le_of_lt (Nat.min_le_left _ _) (small1000 (show i ≤ 1000 by have := (List.getElem?_eq_some_iff.mp hk1).1; omega))
                      · rw [upd_ne (ne_of_none ec hHD)]
                        exact s3 _ _ ec
                      · rw [upd_ne nqD]
                        exact (sT.trans s2) _ _ q'
                      · rw [upd_same, List.take_add_one]
                        have : (List.zipWith (fun k p => part k p (dep + 1)) ks ps)[i]? = some (part kk1 dd (dep + 1)) := by
                          rw [List.getElem?_zipWith, hk1, hdd]
                        rw [this, List.map_append]
                        rfl
                    · obtain ⟨s', q', d'⟩ := p'
                      have el : (List.zipWith (fun k p => part k p (dep + 1)) ks ps).take (min (ks.map V.str).length xs.length) = List.zipWith (fun k p => part k p (dep + 1)) ks ps := List.take_of_length_le (by rw [List.length_zipWith, List.length_map]; omega)
                      rw [el] at d'
                      refine ⟨D, _, rfl, SqL.of d', ?_⟩
                      have := k H' s'
                      rw [exprP_all kk] at this
                      exact this
                · rw [decide_eq_false (by omega)] at k0
                  exact k0
    have goA : FnOk P w K mg base CX0 (3 * n + 4) fa da ["thing"] (sp_are_pairs n) := by
      cases n with
      | zero =>
        refine ⟨fun vs H Q E h => ?_, fun A outer s H args us vs Q E hr he hb hv h => ?_⟩
        · unfold sp_are_pairs at h
          split at h
          · rfl
          · exact h.elim
        · unfold sp_are_pairs at h
          split at h
          · obtain ⟨_, _, h, _⟩ := h
            exact h.elim
          · exact h.elim
      | succ n =>
        have C_is_expression : Has P w K mg base (3 * (n - 1) + 4) "is_expression" ["thing", "depth"] (sp_is_expression (n - 1)) := ⟨fe, _, (ih (n - 1) (by omega)).2.1, me, Fe.kp, be⟩
        refine Fa.ok sc_are_pairs (fun vs H Q E h => ?_) (fun cdv A outer s H vs Q E hr h => ?_)
        · unfold sp_are_pairs at h
          split at h
          · rfl
          · exact h.elim
        · unfold sp_are_pairs at h
          split at h
          case h_2 => exact h.elim
          case h_1 x =>
            obtain ⟨A, d, hd, k⟩ := h
            refine ⟨_, (pss_one (s_ret (c_and (c_call C_are_keyed_pairs (hr.mono (by omega)) (pa_cons (c_var 0) pa_nil)) (c_one (c_bi (cr_all rfl) G.n_all boot_all (pa_cons (c_lcP (K := K) rfl 1 2 (c_var 0) sc_are_pairs.nd (by show blkC ["thing", "key", "part"] (defScope s_are_pairs) _ [("key", 1), ("part", 2)] = true; decide +kernel) (fun _ _ _ _ _ => g_pair rfl 1 2 sc_are_pairs.nd rfl rfl rfl (Or.inl rfl) (Or.inl rfl) (Or.inr rfl) (Or.inr rfl)) (fun _ _ _ _ _ => (c_call C_is_expression (hr.mono (by omega)) (pa_cons (c_var 2) (pa_cons pe_int pa_nil))))) pa_nil)))))), ?_⟩
            refine ⟨_, A, d, hd, fun H1 s1 => ?_⟩
            cases hk : keyedD d with
            | false =>
              have : pairsD d = false := by
                cases d with
                | lst ds =>
                  show (keyedD (.lst ds) && ds.all pairEx) = false
                  rw [hk]
                  rfl
                | _ => rfl
              have k1 := k H1 s1
              rw [this] at k1
              exact k1
            | true =>
              cases d with
              | v _ => cases hk
              | tup _ => cases hk
              | lst ds =>
                have hp : pairsD (.lst ds) = ds.all pairEx := by
                  show (keyedD (.lst ds) && ds.all pairEx) = _
                  rw [hk]
                  rfl
                rw [hp] at k
                rw [keyedD_lst, Bool.and_eq_true, Bool.and_eq_true, decide_eq_true_eq, List.all_eq_true] at hk
                obtain ⟨l8, hall, _⟩ := hk
                obtain ⟨_, a, xs, rfl, _, e, p⟩ := hd
                have lx := Paired.length p
                refine ⟨xs, SqL.of (s1 _ _ e), fun D hD => ?_⟩
                have hHD : H D = none := by
                  cases hz : H D with
                  | none => rfl
                  | some o =>
                    have := s1 _ _ hz
                    rw [hD] at this
                    cases this
                refine ⟨fun i H' => Same H H' ∧ H' D = some (.lst ((ds.take i).map fun d => V.bl (pairEx d))), ⟨s1.trans (same_upd hD), upd_same⟩, fun i H' _ p' => SqL.of (p'.1 _ _ e), fun i z H' hz p' => ?_, fun H' p' => ?_⟩
                · obtain ⟨s', d'⟩ := p'
                  obtain ⟨dd, hdd, td⟩ := pget p hz
                  have hs := hall dd (List.mem_of_getElem? hdd)
                  cases n with
                  | zero => exact td.elim
                  | succ n =>
                    unfold pairKey at hs
                    split at hs
                    · rename_i ky ee
                      obtain ⟨_, a2, xs2, rfl, e2, p2⟩ := td
                      cases p2 with
                      | @cons x1 d1 xs3 ds3 q1 p3 =>
                        cases p3 with
                        | @cons x2 d2 xs4 ds4 q2 p4 =>
                          cases p4
                          refine ⟨a2, x1, x2, rfl, SqT.of (s' _ _ e2), A, ee, q2.same s', fun H2 s2 => ?_⟩
                          have d2 := s2 _ _ d'
                          refine ⟨_, d2, ?_, fun c o ec => ?_, ?_⟩
                          · rw [List.length_map, List.length_take]
                            exact Nat.lt_of_le_of_lt (Nat.min_le_right _ _) (small1000 (by omega))
                          · rw [upd_ne (ne_of_none ec hHD)]
                            exact (s'.trans s2) _ _ ec
                          · rw [upd_same, List.take_add_one, hdd, List.map_append]
                            rfl
                    · cases hs
                · obtain ⟨s', d'⟩ := p'
                  have el : ds.take xs.length = ds := List.take_of_length_le (by omega)
                  rw [el] at d'
                  refine ⟨D, ds.map pairEx, rfl, SqL.of (by rw [d', List.map_map]; rfl), ?_⟩
                  have := k H' s'
                  have e3 : ds.all pairEx = (ds.map pairEx).all id := by
                    rw [List.all_map]
                    rfl
                  rw [e3] at this
                  exact this
    exact ⟨part_of n goE goA, goE, goA⟩
end
end K3

namespace K3
open PySem PySem.Spec PyProof.Rows L2 CW K1
open VM
section
variable {P : Program} {w : World} {K : PySem.W.Frag} {mg : Str → Option Value} {base : Heap} {u1 u2 u3 u4 u5 u6 : Tok} {dE dS : Addr}
/-! ### size_of_statement, size_of_block, is_program -/
abbrev s_size_of_statement : Stmt := topS 14
theorem sc_size_of_statement : FnScope ["thing", "depth", "form", "total", "kind", "part", "size"] ["thing", "depth"] (defScope s_size_of_statement) := ⟨rfl, rfl, rfl, by decide +kernel, rfl, by decide +kernel, by decide +kernel⟩
abbrev s_size_of_block : Stmt := topS 13
theorem sc_size_of_block : FnScope ["thing", "depth", "total", "statement", "size"] ["thing", "depth"] (defScope s_size_of_block) := ⟨rfl, rfl, rfl, by decide +kernel, rfl, by decide +kernel, by decide +kernel⟩
abbrev s_is_program : Stmt := topS 12
theorem sc_is_program : FnScope ["thing"] ["thing"] (defScope s_is_program) := ⟨rfl, rfl, rfl, by decide +kernel, rfl, by decide +kernel, by decide +kernel⟩
/-- what a statement's size tells -/
def RS (r : V) (o : Option Int) : Prop := (∃ s, r = .int s ∧ o = some s ∧ 0 ≤ s) ∨ (r = .non ∧ ∀ s, o = some s → 200 < s)
def RB (r : V) (o : Option Int) : Prop := (∃ s, r = .int s ∧ o = some s ∧ 0 ≤ s ∧ s ≤ 200) ∨ (r = .non ∧ ∀ s, o = some s → 200 < s)
def sp_size_of_statement (n : Nat) : Sp := fun vs H Q _ => match vs with
  | [x, .int dp] => ∃ A d, Tr H A n x d ∧ ∀ r H', RS r (szS dp d) → Same H H' → Q r H'
  | _ => False
def sp_size_of_block (n : Nat) : Sp := fun vs H Q _ => match vs with
  | [x, .int dp] => (∃ A d, Tr H A n x d ∧ ∀ r H', RB r (szB dp d) → Same H H' → Q r H') ∨ ((∃ a kvs, x = .ref a ∧ H a = some (.dK kvs)) ∧ Q .non H)
  | _ => False
theorem word_noS {d : Da} {dp : Int} (h : wordD d = false) : szS dp d = none := by
  cases d with
  | v _ => rfl
  | lst _ => rfl
  | tup ds =>
    cases ds with
    | nil => rfl
    | cons d ds =>
      cases d with
      | v y => cases y <;> first | rfl | cases h
      | tup _ => rfl
      | lst _ => rfl
theorem RS.none {o : Option Int} (h : o = none) : RS .non o := .inr ⟨rfl, fun s e => by rw [h] at e; cases e⟩
theorem RB.none {o : Option Int} (h : o = none) : RB .non o := .inr ⟨rfl, fun s e => by rw [h] at e; cases e⟩
theorem ok_sizes {fs fb : Addr} {ds' db : FuncData} (Fs : Fun K "size_of_statement" "size_of_statement" s_size_of_statement fs ds') (Fb : Fun K "size_of_block" "size_of_block" s_size_of_block fb db) (G : Gs mg u1 u2 u3 u4 u5 u6 dE dS K w)
    (ms : mg "size_of_statement" = some (.ref fs)) (mb : mg "size_of_block" = some (.ref fb)) (bs : Binds K ds' ["thing", "depth"] []) (bb : Binds K db ["thing", "depth"] [])
    (C_has_word : Has P w K mg base 1 "has_word" ["thing"] (sp_has_word K)) (C_part : ∀ n, Has P w K mg base (3 * n + 5) "is_part" ["kind", "thing", "depth"] (sp_is_part n)) : ∀ n : Nat, FnOk P w K mg base CX0 (3 * n + 7) fs ds' ["thing", "depth"] (sp_size_of_statement n) ∧ FnOk P w K mg base CX0 (3 * n + 8) fb db ["thing", "depth"] (sp_size_of_block n) := by
  intro n
  induction n using Nat.strongRecOn with
  | _ n ih =>
    have goS : FnOk P w K mg base CX0 (3 * n + 7) fs ds' ["thing", "depth"] (sp_size_of_statement n) := by
      cases n with
      | zero =>
        refine ⟨fun vs H Q E h => ?_, fun A outer s H args us vs Q E hr he hb hv h => ?_⟩
        · unfold sp_size_of_statement at h
          split at h
          · rfl
          · exact h.elim
        · unfold sp_size_of_statement at h
          split at h
          · obtain ⟨_, _, h, _⟩ := h
            exact h.elim
          · exact h.elim
      | succ n =>
        have C_is_part := C_part n
        have C_size_of_block : Has P w K mg base (3 * n + 8) "size_of_block" ["thing", "depth"] (sp_size_of_block n) := ⟨fb, _, (ih n (Nat.lt_succ_self n)).2, mb, Fb.kp, bb⟩
        refine Fs.ok sc_size_of_statement (fun vs H Q E h => ?_) (fun cdv A outer s H vs Q E hr h => ?_)
        · unfold sp_size_of_statement at h
          split at h
          · rfl
          · exact h.elim
        · unfold sp_size_of_statement at h
          split at h
          case h_2 => exact h.elim
          case h_1 x dep =>
            obtain ⟨A, d, hd, k⟩ := h
            refine ⟨_, (pss_cons (s_set 2 sc_size_of_statement.nd (c_ife (t_tru (K := K) rfl (c_call C_has_word (hr.mono (by omega)) (pa_cons (c_var 0) pa_nil))) (c_getK (K := K) (w := w) rfl rfl (c_obj G.o_STATEMENTS) (c_ix (K := K) rfl (c_var 0) pe_int)) pe_non))
    (pss_cons (s_if (PW.pt (w_or (t_cmp o_is (c_var 2) pe_non) (w_or1 (t_cmp o_ne (c_bi (b_len (K := K) rfl) G.n_len boot_len (pa_cons (c_var 0) pa_nil)) (c_bin o_add (c_bi (b_len (K := K) rfl) G.n_len boot_len (pa_cons (c_var 2) pa_nil)) pe_int))))) (pss_one (s_ret pe_non)) pss_nil)
    (pss_cons (s_set 3 sc_size_of_statement.nd pe_int)
    (pss_cons (s_forZ (K := K) rfl 4 5 (pa_cons (c_var 2) (pa_cons (c_sl (K := K) rfl (c_var 0) (o_some pe_int) o_none) pa_nil)) G.n_zip sc_size_of_statement.nd (pss_one (s_if (t_cmp o_eq (c_var 4) pe_str) (pss_cons (s_set 6 sc_size_of_statement.nd (c_call C_size_of_block (hr.mono (by omega)) (pa_cons (c_var 5) (pa_cons (c_bin o_add (c_var 1) pe_int) pa_nil))))
    (pss_cons (s_if (t_cmp o_is (c_var 6) pe_non) (pss_one (s_ret pe_non)) pss_nil)
    (pss_one (s_aug 3 sc_size_of_statement.nd (c_var 6))))) (pss_one (s_if (t_not (t_tru (K := K) rfl (c_call C_is_part (hr.mono (by omega)) (pa_cons (c_var 4) (pa_cons (c_var 5) (pa_cons pe_int pa_nil)))))) (pss_one (s_ret pe_non)) pss_nil)))))
    (pss_one (s_ret (c_var 3))))))), ?_⟩
            refine ⟨_, A, d, hd, ?_⟩
            cases hw : wordD d with
            | false => exact k _ H (RS.none (word_noS hw)) (Same.refl H)
            | true =>
              obtain ⟨wd, ps, rfl⟩ := word_row hw
              obtain ⟨m, a, xs, em, rfl, e, p, lw, lp⟩ := tr_word hd
              cases em
              have lx := Paired.length p
              refine ⟨G.t_S.1, _, _, .inr (SqT.of e), atI_nat (j := 0) rfl, ?_⟩
              have tz := G.t_S.2 wd
              cases hr2 : rowAt sRows wd with
              | none =>
                rw [hr2] at tz
                refine .inr ⟨tz, ?_⟩
                have e1 : szS dep (.tup (.v (.str wd) :: ps)) = none := by
                  unfold szS szT
                  rw [hr2]
                exact k _ H (RS.none e1) (Same.refl H)
              | some ks =>
                rw [hr2] at tz
                obtain ⟨t, kt, ku⟩ := tz
                obtain ⟨lk, kk⟩ := sRow_kinds hr2
                have e1 : szS dep (.tup (.v (.str wd) :: ps)) = if ps.length = ks.length then oadd (some 1) (szP dep ks ps) else none := by
                  conv => lhs; unfold szS szT
                  rw [hr2]
                rw [e1] at k
                refine .inl ⟨_, kt, .inl ⟨_, .inr (SqT.of e), .inl ⟨_, .inr (ku.seqT H), ?_⟩⟩⟩
                rw [List.length_cons, List.length_map]
                refine Gen.dec (fun hl => ?_) (fun hl => ?_)
                · have hl' : ks.length = ps.length := by omega
                  rw [if_pos hl'.symm] at k
                  refine .inl ⟨_, SqT.of e, fun hq => absurd hq (not_whole _ _), fun _ q hq => ?_⟩
                  rw [cut1]
                  have sq : Same H (upd H q (.tup xs)) := same_upd hq
                  refine ⟨_, _, ku.seqT _, SqT.of upd_same, fun i σ H' => ∃ (y4 y5 y6 : Option V) (tt : Int), σ = [some (.ref a), some (.int dep), some (.ref t), some (.int (1 + tt)), y4, y5, y6] ∧ Same H H' ∧ H' q = some (.tup xs) ∧ szP dep (ks.take i) (ps.take i) = some tt ∧ 0 ≤ tt,
                    ⟨none, none, none, 0, rfl, sq, upd_same, szP_nil _ _, Int.le_refl _⟩, fun i σ H' p' => ?_, fun i kx px T σ H' hk hp p' hT => ?_, fun σ H' p' => ?_⟩
                  · obtain ⟨_, _, _, _, _, _, e', _⟩ := p'
                    exact ⟨ku.seqT _, SqT.of e'⟩
                  · obtain ⟨y4, y5, y6, tt, rfl, s', q', z', t0⟩ := p'
                    rw [List.getElem?_map] at hk
                    obtain ⟨kk1, hk1, rfl⟩ := Option.map_eq_some_iff.mp hk
                    obtain ⟨dd, hdd, td⟩ := pget p hp
                    have sT : Same H' (upd H' T (.tup [.str kk1, px])) := same_upd hT
                    have zt := szP_take (dp := dep) hl' hk1 hdd
                    rw [z'] at zt
                    have over : ∀ o, one dep kk1 dd = o → (∀ s, o = some s → 200 < s) → ∀ s, oadd (some 1) (szP dep ks ps) = some s → 200 < s := by
                      intro o ho hb s hs
                      obtain ⟨x1, y1, hx1, hy1, rfl⟩ := oadd_some hs
                      cases hx1
                      obtain ⟨t1, ht1, hle⟩ := szP_le (j := i + 1) hl' hy1
                      rw [zt, ho] at ht1
                      obtain ⟨x2, y2, hx2, hy2, rfl⟩ := oadd_some ht1
                      cases hx2
                      have := hb _ hy2
                      omega
                    refine Gen.dec (fun hb => ?_) (fun hb => ?_)
                    · have eo : one dep kk1 dd = szB (dep + 1) dd := by
                        unfold one
                        rw [if_pos hb]
                      refine .inl ⟨A, dd, td.same (s'.trans sT), fun r H2 hr3 s2 => ?_⟩
                      have s3 := (s'.trans sT).trans s2
                      rcases hr3 with ⟨sz, rfl, e5, p0, _⟩ | ⟨rfl, hb2⟩
                      · refine ⟨some (.str kk1), some px, some (.int sz), tt + sz, ?_, s3, (sT.trans s2) _ _ q', ?_, by omega⟩
                        · rw [← Int.add_assoc]
                          rfl
                        · rw [zt, eo, e5]
                          rfl
                      · exact k _ H2 (.inr ⟨rfl, over _ eo hb2⟩) s3
                    · have eo : one dep kk1 dd = if part kk1 dd 1 then some 0 else none := by
                        unfold one
                        rw [if_neg hb]
                      refine ⟨A, dd, td.same (s'.trans sT), fun H2 s2 => ?_⟩
                      have s3 := (s'.trans sT).trans s2
                      cases hpt : part kk1 dd 1 with
                      | true =>
                        refine ⟨_, _, _, tt, rfl, s3, (sT.trans s2) _ _ q', ?_, t0⟩
                        rw [zt, eo, hpt]
                        show some (tt + 0) = some tt
                        rw [Int.add_zero]
                      | false =>
                        refine k _ H2 (.inr ⟨rfl, over none ?_ (fun s e => by cases e)⟩) s3
                        rw [eo, hpt]
                        rfl
                  · obtain ⟨y4, y5, y6, tt, rfl, s', q', z', t0⟩ := p'
                    have e1 : ks.take (min (ks.map V.str).length xs.length) = ks := List.take_of_length_le (by rw [List.length_map]; omega)
                    have e2 : ps.take (min (ks.map V.str).length xs.length) = ps := List.take_of_length_le (by rw [List.length_map]; omega)
                    rw [e1, e2] at z'
                    refine k _ H' (.inl ⟨_, rfl, ?_, by omega⟩) s'
                    rw [z']
                    rfl
                · refine k _ H (RS.none ?_) (Same.refl H)
                  rw [if_neg (by omega)]
    have goB : FnOk P w K mg base CX0 (3 * n + 8) fb db ["thing", "depth"] (sp_size_of_block n) := by
      have C_size_of_statement : Has P w K mg base (3 * (n - 1) + 7) "size_of_statement" ["thing", "depth"] (sp_size_of_statement (n - 1)) := by
        by_cases h0 : n = 0
        · subst h0
          exact ⟨fs, _, goS, ms, Fs.kp, bs⟩
        · exact ⟨fs, _, (ih (n - 1) (by omega)).1, ms, Fs.kp, bs⟩
      refine Fb.ok sc_size_of_block (fun vs H Q E h => ?_) (fun cdv A outer s H vs Q E hr h => ?_)
      · unfold sp_size_of_block at h
        split at h
        · rfl
        · exact h.elim
      · unfold sp_size_of_block at h
        split at h
        case h_2 => exact h.elim
        case h_1 x dep =>
          refine ⟨_, (pss_cons (s_if (PW.pt (w_or (t_cmp o_ne (c_ty (b_type (K := K) rfl) G.n_type boot_type (pa_cons (c_var 0) pa_nil)) (c_tyv G.n_list boot_list)) (w_or1 (PW.pt (w_and (t_tru (K := K) rfl (c_var 0)) (w_and1 (t_cmp o_gt (c_var 1) (c_int G.c_DEEPEST)))))))) (pss_one (s_ret pe_non)) pss_nil)
    (pss_cons (s_set 2 sc_size_of_block.nd pe_int)
    (pss_cons (s_forL (K := K) rfl 3 (c_var 0) sc_size_of_block.nd (pss_cons (s_set 4 sc_size_of_block.nd (c_call C_size_of_statement (hr.mono (by omega)) (pa_cons (c_var 3) (pa_cons (c_var 1) pa_nil))))
    (pss_cons (s_if (PW.pt (w_or (t_cmp o_is (c_var 4) pe_non) (w_or1 (t_cmp o_gt (c_bin o_add (c_var 2) (c_var 4)) (c_int G.c_MOST_STATEMENTS))))) (pss_one (s_ret pe_non)) pss_nil)
    (pss_one (s_aug 2 sc_size_of_block.nd (c_var 4))))))
    (pss_one (s_ret (c_var 2)))))), ?_⟩
          rcases h with ⟨A, d, hd, k⟩ | ⟨⟨a, kvs, rfl, h⟩, k⟩
          · have kn : szB dep d = none → Q .non H := fun z => k _ H (RB.none z) (Same.refl H)
            cases n with
            | zero => exact hd.elim
            | succ n =>
              cases d with
              | v y =>
                obtain ⟨rfl, s⟩ := hd
                cases s with
                | non => exact ⟨TypeEq.meta_NoneType, TypeEq.meta_list, Gen.no (by decide) (kn rfl)⟩
                | bl b => exact ⟨TypeEq.meta_bool, TypeEq.meta_list, Gen.no (by decide) (kn rfl)⟩
                | int i => exact ⟨TypeEq.meta_int, TypeEq.meta_list, Gen.no (by decide) (kn rfl)⟩
                | str x h => exact ⟨TypeEq.meta_str, TypeEq.meta_list, Gen.no (by decide) (kn rfl)⟩
              | tup ds =>
                obtain ⟨_, a, xs, rfl, h, _⟩ := hd
                exact ⟨_, .tup (SqT.of h), TypeEq.meta_tuple, TypeEq.meta_list, Gen.no (by decide) (kn rfl)⟩
              | lst ds =>
                obtain ⟨_, a, xs, rfl, _, e, p⟩ := hd
                have lx := Paired.length p
                refine ⟨_, .lst (SqL.of e), TypeEq.meta_list, TypeEq.meta_list, Gen.yes (by decide) ⟨!xs.isEmpty, ?_, ?_⟩⟩
                · exact .inl ⟨xs, SqL.of e, rfl⟩
                · have eB : szB dep (.lst ds) = if ds.isEmpty = true then some 0 else if 5 < dep then none else szBs dep ds := rfl
                  have go : szB dep (.lst ds) = szBs dep ds → cSet (tC (.int 0)) 2 { nx := tSeq (cForL K (cVar 0) 3 (tSeq (cSet (cCall (sp_size_of_statement n) (tCons (cVar 3) (tCons (cVar 1) tNil))) 4) (tSeq (cIfS (cOr (cBl (cBin rIs (cVar 4) (tC .non))) (cBl (cBin CW.rGt (cBin CW.rAdd (cVar 2) (cVar 4)) (tC (.int 200))))) (tRet (tC .non)) tNext) (cAug 2 (cVar 4))))) (tRet (cVar 2)) { nx := fun _ H' => Q .non H', rt := Q }, rt := Q } [some (.ref a), some (.int dep), none, none, none] H := by
                    intro eb
                    rw [eb] at k
                    refine ⟨xs, SqL.of e, fun i σ H' => ∃ (y3 y4 : Option V) (tt : Int), σ = [some (.ref a), some (.int dep), some (.int tt), y3, y4] ∧ Same H H' ∧ szBs dep (ds.take i) = some tt ∧ 0 ≤ tt ∧ tt ≤ 200, ⟨none, none, 0, rfl, Same.refl H, szBs_nil _, by omega, by omega⟩, fun i σ H' _ p' => ?_, fun i x σ H' hx p' => ?_, fun σ H' p' => ?_⟩
                    · obtain ⟨_, _, _, _, s', _⟩ := p'
                      exact SqL.of (s' _ _ e)
                    · obtain ⟨y3, y4, tt, rfl, s', z', t0, t1⟩ := p'
                      obtain ⟨dd, hdd, td⟩ := pget p hx
                      have zt := szBs_take (dp := dep) hdd
                      rw [z'] at zt
                      refine ⟨A, dd, td.same s', fun r H2 hr3 s2 => ?_⟩
                      have s3 := s'.trans s2
                      have over : ∀ s, szBs dep ds = some s → ∃ s1, szS dep dd = some s1 ∧ tt + s1 ≤ s := by
                        intro s hs
                        obtain ⟨t1, ht1, hle⟩ := szBs_le (j := i + 1) hs
                        rw [zt] at ht1
                        obtain ⟨x2, y2, hx2, hy2, rfl⟩ := oadd_some ht1
                        cases hx2
                        exact ⟨y2, hy2, hle⟩
                      rcases hr3 with ⟨sz, rfl, e5, p0⟩ | ⟨rfl, hb2⟩
                      · refine Gen.dec (fun hg => ?_) (fun hg => ?_)
                        · refine k _ H2 (.inr ⟨rfl, fun s hs => ?_⟩) s3
                          obtain ⟨s1, h1, h2⟩ := over s hs
                          rw [e5] at h1
                          cases h1
                          omega
                        · refine ⟨some x, some (.int sz), tt + sz, rfl, s3, ?_, by omega, by omega⟩
                          rw [zt, e5]
                          rfl
                      · refine k _ H2 (.inr ⟨rfl, fun s hs => ?_⟩) s3
                        obtain ⟨s1, h1, h2⟩ := over s hs
                        have := hb2 _ h1
                        omega
                    · obtain ⟨y3, y4, tt, rfl, s', z', t0, t1⟩ := p'
                      have e2 : ds.take xs.length = ds := List.take_of_length_le (by omega)
                      rw [e2] at z'
                      exact k _ H' (.inl ⟨_, rfl, z', t0, t1⟩) s'
                  cases xs with
                  | nil =>
                    cases p
                    exact go (szBs_nil dep).symm
                  | cons x1 xs1 =>
                    cases p with
                    | @cons _ d1 _ ds1 _ _ =>
                      refine Gen.dec (fun h5 => ?_) (fun h5 => ?_)
                      · refine k _ H (RB.none ?_) (Same.refl H)
                        rw [eB, if_neg (by simp), if_pos h5]
                      · refine go ?_
                        rw [eB, if_neg (by simp), if_neg h5]
          · exact ⟨_, .dK h, TypeEq.meta_dict, TypeEq.meta_list, Gen.no (by decide) k⟩
    exact ⟨goS, goB⟩
end
end K3

namespace K3
open PySem PySem.Spec PyProof.Rows L2 CW K1
open VM
section
theorem kb_di : kitB "dict" "int" = some false := by decide +kernel
variable {P : Program} {w : World} {K : PySem.W.Frag} {mg : Str → Option Value} {base : Heap} {u1 u2 u3 u4 u5 u6 : Tok} {dE dS : Addr}
def sp_is_program (N : Nat) : Sp := fun vs H Q _ => match vs with
  | [x] => (∃ n A d, n ≤ N ∧ Tr H A n x d ∧ ∀ H', Same H H' → Q (.bl (okD d)) H') ∨ ((∃ a kvs, x = .ref a ∧ H a = some (.dK kvs)) ∧ Q (.bl false) H)
  | _ => False
theorem ok_is_program {f : Addr} {fd : FuncData} (F : Fun K "is_program" "is_program" s_is_program f fd) (G : Gs mg u1 u2 u3 u4 u5 u6 dE dS K w) (C_size_of_block : Has P w K mg base 158 "size_of_block" ["thing", "depth"] (sp_size_of_block 50)) : FnOk P w K mg base CX0 170 f fd ["thing"] (sp_is_program 50) := by
  refine F.ok sc_is_program (fun vs H Q E h => ?_) (fun cdv A outer s H vs Q E hr h => ?_)
  · unfold sp_is_program at h
    split at h
    · rfl
    · exact h.elim
  · unfold sp_is_program at h
    split at h
    case h_2 => exact h.elim
    case h_1 x =>
      obtain h := h
      refine ⟨_, (pss_one (s_ret (c_cmp o_isnot (c_call C_size_of_block (hr.mono (by omega)) (pa_cons (c_var 0) (pa_cons pe_int pa_nil))) pe_non))), ?_⟩
      rcases h with ⟨n, A, d, hn, hd, k⟩ | ⟨hx, k⟩
      · refine .inl ⟨A, d, hd.up hn, fun r H' hr s => ?_⟩
        have k1 := k H' s
        rcases hr with ⟨s1, rfl, e, _, h2⟩ | ⟨rfl, hb⟩
        · have : okD d = true := by
            unfold okD
            rw [e]
            exact decide_eq_true h2
          rw [this] at k1
          exact k1
        · have : okD d = false := by
            unfold okD
            cases hs : szB 1 d with
            | none => rfl
            | some s2 =>
              have := hb s2 hs
              exact decide_eq_false (by omega)
          rw [this] at k1
          exact k1
      · exact .inr ⟨hx, k⟩
/-! ### the law's side: names, values -/
abbrev s__law_is_bool : Stmt := topS 25
theorem sc__law_is_bool : FnScope ["v"] ["v"] (defScope s__law_is_bool) := ⟨rfl, rfl, rfl, by decide +kernel, rfl, by decide +kernel, by decide +kernel⟩
def sp_law_is_boolT (K : PySem.W.Frag) : Sp := fun vs H Q _ => match vs with
  | [a] => Th K H a ∧ Q (.bl (isb a)) H
  | _ => False
theorem ok__law_is_bool {f : Addr} {fd : FuncData} (F : Fun K "_law_is_bool" "_law_is_bool" s__law_is_bool f fd) (G : Gs mg u1 u2 u3 u4 u5 u6 dE dS K w) : FnOk P w K mg base CX0 1 f fd ["v"] (sp_law_is_boolT K) := by
  refine F.ok sc__law_is_bool (fun vs H Q E h => ?_) (fun cdv A outer s H vs Q E hr h => ?_)
  · unfold sp_law_is_boolT at h
    split at h
    · rfl
    · exact h.elim
  · unfold sp_law_is_boolT at h
    split at h
    case h_2 => exact h.elim
    case h_1 a =>
      obtain ⟨ha, k⟩ := h
      refine ⟨_, (pss_one (s_ret (c_or (c_cmp o_is (c_var 0) pe_bl) (c_one (c_cmp o_is (c_var 0) pe_bl))))), ?_⟩
      cases ha with
      | bl b => cases b <;> exact k
      | _ => exact k
abbrev s__law_is_key : Stmt := topS 30
theorem sc__law_is_key : FnScope ["v", "sign"] ["v"] (defScope s__law_is_key) := ⟨rfl, rfl, rfl, by decide +kernel, rfl, by decide +kernel, by decide +kernel⟩
def sp__law_is_key (K : PySem.W.Frag) : Sp := fun vs H Q _ => match vs with
  | [a] => Th K H a ∧ Q (.bl (isKey a)) H
  | _ => False
theorem ok__law_is_key {f : Addr} {fd : FuncData} (F : Fun K "_law_is_key" "_law_is_key" s__law_is_key f fd) (G : Gs mg u1 u2 u3 u4 u5 u6 dE dS K w) : FnOk P w K mg base CX0 1 f fd ["v"] (sp__law_is_key K) := by
  refine F.ok sc__law_is_key (fun vs H Q E h => ?_) (fun cdv A outer s H vs Q E hr h => ?_)
  · unfold sp__law_is_key at h
    split at h
    · rfl
    · exact h.elim
  · unfold sp__law_is_key at h
    split at h
    case h_2 => exact h.elim
    case h_1 a =>
      obtain ⟨ha, k⟩ := h
      refine ⟨_, (pss_cons (s_if (PW.pt (w_or (t_not (t_tru (K := K) rfl (c_isi (K := K) rfl kf_str G.n_isinstance G.n_str boot_str (c_var 0)))) (w_or (t_cmp o_lt (c_bi (b_len (K := K) rfl) G.n_len boot_len (pa_cons (c_var 0) pa_nil)) pe_int) (w_or1 (t_cmp o_gt (c_bi (b_len (K := K) rfl) G.n_len boot_len (pa_cons (c_var 0) pa_nil)) pe_int))))) (pss_one (s_ret pe_bl)) pss_nil)
    (pss_cons (s_forS 1 (c_var 0) sc__law_is_key.nd (pss_one (s_if (t_cmp o_notInS1 (c_var 1) pe_str) (pss_one (s_ret pe_bl)) pss_nil)))
    (pss_one (s_ret pe_bl)))), ?_⟩
      cases ha with
      | non => exact k
      | bl b => exact k
      | int i => exact k
      | lst h => exact ⟨_, _, tyx_l h, kb_ls, k⟩
      | tup h => exact ⟨_, _, tyx_t h, kb_ts, k⟩
      | dK h => exact ⟨_, _, .base (.dK h), kb_ds, k⟩
      | str x h =>
        have e0 : isKey (.str x) = isKeyS x := rfl
        rw [e0] at k
        refine ⟨Nat.le_trans h (by decide), Gen.dec (fun h1 => ?_) (fun h1 => ⟨Nat.le_trans h (by decide), Gen.dec (fun h2 => ?_) (fun h2 => ?_)⟩)⟩
        · have e3 : isKeyS x = false := by
            unfold isKeyS
            rw [decide_eq_false (show ¬ (1 : Int) ≤ x.length by omega)]
            rfl
          rw [e3] at k
          exact k
        · have e3 : isKeyS x = false := by
            unfold isKeyS
            rw [decide_eq_false (show ¬ (x.length : Int) ≤ 8 by omega)]
            simp
          rw [e3] at k
          exact k
        · have e3 : isKeyS x = x.cps.toList.all VM.lt := by
            unfold isKeyS
            rw [decide_eq_true (show (1 : Int) ≤ x.length by omega), decide_eq_true (show (x.length : Int) ≤ 8 by omega)]
            rfl
          rw [e3] at k
          refine ⟨fun i σ H' => ∃ y, σ = [some (.str x), y] ∧ H' = H ∧ (x.cps.toList.take i).all VM.lt = true, ⟨none, rfl, rfl, rfl⟩, fun i c σ H' hc p => ?_, fun σ H' p => ?_⟩
          · obtain ⟨y, rfl, rfl, p⟩ := p
            have hc' : x.cps.toList[i]? = some c := by rw [Array.getElem?_toList]; exact hc
            refine ⟨c, rfl, Gen.cases (fun h3 => ?_) (fun h3 => ?_)⟩
            · rw [abc_mem] at h3
              have e4 : x.cps.toList.all VM.lt = false := by
                rw [List.all_eq_false]
                refine ⟨c, List.mem_of_getElem? hc', ?_⟩
                simpa using h3
              rw [e4] at k
              exact k
            · rw [abc_mem] at h3
              refine ⟨_, rfl, rfl, ?_⟩
              rw [List.take_add_one, hc', List.all_append, p]
              simpa using h3
          · obtain ⟨y, rfl, rfl, p⟩ := p
            have e2 : x.cps.toList.take x.cps.size = x.cps.toList := List.take_of_length_le (by simp)
            rw [e2] at p
            rw [p] at k
            exact k
abbrev s__law_good_name : Stmt := topS 31
theorem sc__law_good_name : FnScope ["x"] ["x"] (defScope s__law_good_name) := ⟨rfl, rfl, rfl, by decide +kernel, rfl, by decide +kernel, by decide +kernel⟩
def sp__law_good_name (K : PySem.W.Frag) : Sp := fun vs H Q _ => match vs with
  | [a] => Th K H a ∧ Q (.bl (isKey a)) H
  | _ => False
theorem ok__law_good_name {f : Addr} {fd : FuncData} (F : Fun K "_law_good_name" "_law_good_name" s__law_good_name f fd) (G : Gs mg u1 u2 u3 u4 u5 u6 dE dS K w) (C__law_is_key : Has P w K mg base 1 "_law_is_key" ["v"] (sp__law_is_key K)) : FnOk P w K mg base CX0 2 f fd ["x"] (sp__law_good_name K) := by
  refine F.ok sc__law_good_name (fun vs H Q E h => ?_) (fun cdv A outer s H vs Q E hr h => ?_)
  · unfold sp__law_good_name at h
    split at h
    · rfl
    · exact h.elim
  · unfold sp__law_good_name at h
    split at h
    case h_2 => exact h.elim
    case h_1 a =>
      obtain ⟨ha, k⟩ := h
      refine ⟨_, (pss_one (s_ret (c_call C__law_is_key (hr.mono (by omega)) (pa_cons (c_var 0) pa_nil)))), ?_⟩
      exact ⟨ha, k⟩
abbrev s__law_good_value : Stmt := topS 32
theorem sc__law_good_value : FnScope ["v"] ["v"] (defScope s__law_good_value) := ⟨rfl, rfl, rfl, by decide +kernel, rfl, by decide +kernel, by decide +kernel⟩
def sp__law_good_value (K : PySem.W.Frag) : Sp := fun vs H Q _ => match vs with
  | [a] => Th K H a ∧ Q (.bl (isVal a)) H
  | _ => False
theorem ok__law_good_value {f : Addr} {fd : FuncData} (F : Fun K "_law_good_value" "_law_good_value" s__law_good_value f fd) (G : Gs mg u1 u2 u3 u4 u5 u6 dE dS K w) (C__law_is_bool : Has P w K mg base 1 "_law_is_bool" ["v"] (sp_law_is_boolT K)) : FnOk P w K mg base CX0 2 f fd ["v"] (sp__law_good_value K) := by
  refine F.ok sc__law_good_value (fun vs H Q E h => ?_) (fun cdv A outer s H vs Q E hr h => ?_)
  · unfold sp__law_good_value at h
    split at h
    · rfl
    · exact h.elim
  · unfold sp__law_good_value at h
    split at h
    case h_2 => exact h.elim
    case h_1 a =>
      obtain ⟨ha, k⟩ := h
      refine ⟨_, (pss_cons (s_if (PW.pt (w_or (t_cmp o_is (c_var 0) pe_non) (w_or1 (t_tru (K := K) rfl (c_call C__law_is_bool (hr.mono (by omega)) (pa_cons (c_var 0) pa_nil)))))) (pss_one (s_ret pe_bl)) pss_nil)
    (pss_cons (s_if (t_tru (K := K) rfl (c_isi (K := K) rfl kf_int G.n_isinstance G.n_int boot_int (c_var 0))) (pss_one (s_ret (c_chain o_le o_le pe_int (c_var 0) pe_int))) pss_nil)
    (pss_one (s_ret (c_and (c_isi (K := K) rfl kf_str G.n_isinstance G.n_str boot_str (c_var 0)) (c_one (c_cmp o_le (c_bi (b_len (K := K) rfl) G.n_len boot_len (pa_cons (c_var 0) pa_nil)) pe_int))))))), ?_⟩
      have ha' := ha
      cases ha with
      | non => exact k
      | bl b => exact ⟨ha', k⟩
      | int i =>
        refine ⟨ha', Gen.dec (fun h0 => ?_) (fun h0 => ?_)⟩
        · refine Gen.sub ?_
          have e : isVal (.int i) = decide (i ≤ 999) := by simp [isVal, h0]
          rw [e] at k
          exact k
        · have e : isVal (.int i) = false := by simp [isVal, h0]
          rw [e] at k
          exact k
      | str x h => exact ⟨ha', Nat.le_trans h (by decide), Gen.sub k⟩
      | lst h => exact ⟨ha', _, _, tyx_l h, kb_li, _, _, tyx_l h, kb_ls, k⟩
      | tup h => exact ⟨ha', _, _, tyx_t h, kb_ti, _, _, tyx_t h, kb_ts, k⟩
      | dK h => exact ⟨ha', _, _, .base (.dK h), kb_di, _, _, .base (.dK h), kb_ds, k⟩
/-! ### _law_good_expr -/
abbrev s__law_good_expr : Stmt := topS 33
theorem sc__law_good_expr : FnScope ["e", "depth"] ["e", "depth"] (defScope s__law_good_expr) := ⟨rfl, rfl, rfl, by decide +kernel, rfl, by decide +kernel, by decide +kernel⟩
def sp__law_good_expr (n : Nat) : Sp := fun vs H Q _ => match vs with
  | [x, .int dp] => ∃ A d, Tr H A n x d ∧ ∀ H', Same H H' → Q (.bl (expr dp d)) H'
  | _ => False
theorem inV_strs {w : Str} : ∀ ws : List Str, inV (.str w) (ws.map V.str) = decide (w ∈ ws)
  | [] => rfl
  | x :: ws => by
    show ((x == w) || inV (.str w) (ws.map V.str)) = decide (w ∈ x :: ws)
    rw [inV_strs ws]
    by_cases h : x = w
    · subst h
      simp
    · have h' : ¬ w = x := fun z => h z.symm
      simp [h, h']
theorem row_else {w : Str} (h1 : w ≠ "value") (h2 : w ∉ (["var", "read", "peek", "state", "size", "use"] : List Str)) (h3 : w ∉ (["get", "has"] : List Str)) (h4 : w ∉ (["add", "join", "equal", "less"] : List Str)) (h5 : w ≠ "not") : rowAt eRows w = none := by
  unfold rowAt
  rw [Option.map_eq_none_iff, List.find?_eq_none]
  intro p hp
  simp only [List.mem_cons, List.not_mem_nil, or_false, not_or] at h2 h3 h4 hp
  simp only [decide_eq_true_eq]
  intro e
  subst e
  rcases hp with rfl | rfl | rfl | rfl | rfl | rfl | rfl | rfl | rfl | rfl | rfl | rfl | rfl | rfl <;> simp_all
theorem row_1 {w : Str} (h : w ∈ (["var", "read", "peek", "state", "size", "use"] : List Str)) : rowAt eRows w = some (["name"] : List Str) := by
  simp only [List.mem_cons, List.not_mem_nil, or_false] at h
  rcases h with rfl | rfl | rfl | rfl | rfl | rfl <;> decide +kernel
theorem row_2 {w : Str} (h : w ∈ (["get", "has"] : List Str)) : rowAt eRows w = some (["name", "expression"] : List Str) := by
  simp only [List.mem_cons, List.not_mem_nil, or_false] at h
  rcases h with rfl | rfl <;> decide +kernel
theorem row_3 {w : Str} (h : w ∈ (["add", "join", "equal", "less"] : List Str)) : rowAt eRows w = some (["expression", "expression"] : List Str) := by
  simp only [List.mem_cons, List.not_mem_nil, or_false] at h
  rcases h with rfl | rfl | rfl | rfl <;> decide +kernel
theorem row_0 : rowAt eRows "value" = some (["value"] : List Str) := by decide +kernel
theorem row_4 : rowAt eRows "not" = some (["expression"] : List Str) := by decide +kernel
theorem exprP_v (dp : Int) (d : Da) : exprP dp ["value"] [d] = valD d := by
  show (valD d && true) = valD d
  rw [Bool.and_true]
theorem exprP_n (dp : Int) (d : Da) : exprP dp ["name"] [d] = keyD d := by
  show (keyD d && true) = keyD d
  rw [Bool.and_true]
theorem exprP_e (dp : Int) (d : Da) : exprP dp ["expression"] [d] = expr (dp + 1) d := by
  show (expr (dp + 1) d && true) = expr (dp + 1) d
  rw [Bool.and_true]
theorem exprP_ne (dp : Int) (d e : Da) : exprP dp ["name", "expression"] [d, e] = (keyD d && expr (dp + 1) e) := by
  show (keyD d && (expr (dp + 1) e && true)) = _
  rw [Bool.and_true]
theorem exprP_ee (dp : Int) (d e : Da) : exprP dp ["expression", "expression"] [d, e] = (expr (dp + 1) d && expr (dp + 1) e) := by
  show (expr (dp + 1) d && (expr (dp + 1) e && true)) = _
  rw [Bool.and_true]
theorem expr_row {w : Str} {ps : List Da} {ks : List Str} {dp : Int} (h : rowAt eRows w = some ks) : expr dp (.tup (.v (.str w) :: ps)) = (decide (ps.length = ks.length) && (decide (dp ≤ 5) && exprP dp ks ps)) := by
  conv => lhs; unfold expr exprT
  rw [h]
theorem expr_deep {d : Da} {dp : Int} (h : 5 < dp) : expr dp d = false := by
  cases d with
  | v _ => rfl
  | lst _ => rfl
  | tup ds =>
    cases hw : wordD (.tup ds) with
    | false => exact word_no hw
    | true =>
      obtain ⟨w, ps, e⟩ := word_row hw
      rw [e]
      cases hr : rowAt eRows w with
      | none =>
        unfold expr exprT
        rw [hr]
      | some ks =>
        rw [expr_row hr, decide_eq_false (show ¬ dp ≤ 5 by omega)]
        simp
theorem ok__law_good_expr {f : Addr} {fd : FuncData} (F : Fun K "_law_good_expr" "_law_good_expr" s__law_good_expr f fd) (G : Gs mg u1 u2 u3 u4 u5 u6 dE dS K w) (mf : mg "_law_good_expr" = some (.ref f)) (bf : Binds K fd ["e", "depth"] []) (C__law_good_name : Has P w K mg base 2 "_law_good_name" ["x"] (sp__law_good_name K)) (C__law_good_value : Has P w K mg base 2 "_law_good_value" ["v"] (sp__law_good_value K)) :
    ∀ n : Nat, FnOk P w K mg base CX0 (n + 3) f fd ["e", "depth"] (sp__law_good_expr n) := by
  intro n
  induction n with
  | zero =>
    refine ⟨fun vs H Q E h => ?_, fun A outer s H args us vs Q E hr he hb hv h => ?_⟩
    · unfold sp__law_good_expr at h
      split at h
      · rfl
      · exact h.elim
    · unfold sp__law_good_expr at h
      split at h
      · obtain ⟨_, _, h, _⟩ := h
        exact h.elim
      · exact h.elim
  | succ n ih =>
    have C__law_good_expr : Has P w K mg base (n + 3) "_law_good_expr" ["e", "depth"] (sp__law_good_expr n) := ⟨f, fd, ih, mf, F.kp, bf⟩
    refine F.ok sc__law_good_expr (fun vs H Q E h => ?_) (fun cdv A outer s H vs Q E hr h => ?_)
    · unfold sp__law_good_expr at h
      split at h
      · rfl
      · exact h.elim
    · unfold sp__law_good_expr at h
      split at h
      case h_2 => exact h.elim
      case h_1 x dep =>
        obtain ⟨A, d, hd, k⟩ := h
        refine ⟨_, (pss_cons (s_if (PW.pt (w_or (t_not (t_tru (K := K) rfl (c_isi (K := K) rfl kf_tuple G.n_isinstance G.n_tuple boot_tuple (c_var 0)))) (w_or (t_cmp o_eq (c_bi (b_len (K := K) rfl) G.n_len boot_len (pa_cons (c_var 0) pa_nil)) pe_int) (w_or (t_cmp o_gt (c_var 1) pe_int) (w_or1 (t_not (t_tru (K := K) rfl (c_isi (K := K) rfl kf_str G.n_isinstance G.n_str boot_str (c_ix (K := K) rfl (c_var 0) pe_int))))))))) (pss_one (s_ret pe_bl)) pss_nil)
    (pss_cons (s_if (t_cmp o_eq (c_ix (K := K) rfl (c_var 0) pe_int) pe_str) (pss_one (s_ret (c_and (c_cmp o_eq (c_bi (b_len (K := K) rfl) G.n_len boot_len (pa_cons (c_var 0) pa_nil)) pe_int) (c_one (c_call C__law_good_value (hr.mono (by omega)) (pa_cons (c_ix (K := K) rfl (c_var 0) pe_int) pa_nil)))))) pss_nil)
    (pss_cons (s_if (t_cmp (o_inSeq (K := K) rfl) (c_ix (K := K) rfl (c_var 0) pe_int) (c_tup (pa_cons pe_str (pa_cons pe_str (pa_cons pe_str (pa_cons pe_str (pa_cons pe_str (pa_cons pe_str pa_nil)))))))) (pss_one (s_ret (c_and (c_cmp o_eq (c_bi (b_len (K := K) rfl) G.n_len boot_len (pa_cons (c_var 0) pa_nil)) pe_int) (c_one (c_call C__law_good_name (hr.mono (by omega)) (pa_cons (c_ix (K := K) rfl (c_var 0) pe_int) pa_nil)))))) pss_nil)
    (pss_cons (s_if (t_cmp (o_inSeq (K := K) rfl) (c_ix (K := K) rfl (c_var 0) pe_int) (c_tup (pa_cons pe_str (pa_cons pe_str pa_nil)))) (pss_one (s_ret (c_and (c_cmp o_eq (c_bi (b_len (K := K) rfl) G.n_len boot_len (pa_cons (c_var 0) pa_nil)) pe_int) (c_and (c_call C__law_good_name (hr.mono (by omega)) (pa_cons (c_ix (K := K) rfl (c_var 0) pe_int) pa_nil)) (c_one (c_call C__law_good_expr (hr.mono (by omega)) (pa_cons (c_ix (K := K) rfl (c_var 0) pe_int) (pa_cons (c_bin o_add (c_var 1) pe_int) pa_nil)))))))) pss_nil)
    (pss_cons (s_if (t_cmp (o_inSeq (K := K) rfl) (c_ix (K := K) rfl (c_var 0) pe_int) (c_tup (pa_cons pe_str (pa_cons pe_str (pa_cons pe_str (pa_cons pe_str pa_nil)))))) (pss_one (s_ret (c_and (c_cmp o_eq (c_bi (b_len (K := K) rfl) G.n_len boot_len (pa_cons (c_var 0) pa_nil)) pe_int) (c_and (c_call C__law_good_expr (hr.mono (by omega)) (pa_cons (c_ix (K := K) rfl (c_var 0) pe_int) (pa_cons (c_bin o_add (c_var 1) pe_int) pa_nil))) (c_one (c_call C__law_good_expr (hr.mono (by omega)) (pa_cons (c_ix (K := K) rfl (c_var 0) pe_int) (pa_cons (c_bin o_add (c_var 1) pe_int) pa_nil)))))))) pss_nil)
    (pss_one (s_ret (c_and (c_cmp o_eq (c_ix (K := K) rfl (c_var 0) pe_int) pe_str) (c_and (c_cmp o_eq (c_bi (b_len (K := K) rfl) G.n_len boot_len (pa_cons (c_var 0) pa_nil)) pe_int) (c_one (c_call C__law_good_expr (hr.mono (by omega)) (pa_cons (c_ix (K := K) rfl (c_var 0) pe_int) (pa_cons (c_bin o_add (c_var 1) pe_int) pa_nil))))))))))))), ?_⟩
        have k0 := k H (Same.refl H)
        cases d with
        | v y =>
          obtain ⟨rfl, s⟩ := hd
          cases s <;> exact k0
        | lst ds =>
          obtain ⟨_, a, xs, rfl, _, e, _⟩ := hd
          exact ⟨_, _, tyx_l (SqL.of e), kb_lt, k0⟩
        | tup ds =>
          obtain ⟨_, a, xs, rfl, e, p⟩ := hd
          have lx := Paired.length p
          refine ⟨_, _, tyx_t (SqT.of e), kb_tt, .inl ⟨xs, .inr (SqT.of e), ?_⟩⟩
          cases p with
          | nil => exact Gen.yes rfl k0
          | @cons x1 d1 xs1 ps h1 p =>
            refine Gen.no (by rw [List.length_cons, decide_eq_false_iff_not]; omega) ?_
            refine Gen.dec (fun h5 => ?_) (fun h5 => ?_)
            · rw [expr_deep h5] at k0
              exact k0
            have d5 : dep ≤ 5 := by omega
            refine ⟨_, x1, .inr (SqT.of e), atI_nat (j := 0) rfl, ?_⟩
            cases n with
            | zero => exact h1.elim
            | succ n =>
              cases d1 with
              | tup es =>
                obtain ⟨_, a2, ys, rfl, e2, _⟩ := h1
                exact ⟨_, _, tyx_t (SqT.of e2), kb_ts, k0⟩
              | lst es =>
                obtain ⟨_, a2, ys, rfl, _, e2, _⟩ := h1
                exact ⟨_, _, tyx_l (SqL.of e2), kb_ls, k0⟩
              | v y =>
                obtain ⟨rfl, sb⟩ := h1
                cases sb with
                | non => exact k0
                | bl b => exact k0
                | int i => exact k0
                | str wd lw =>
                  simp only [List.length_cons, Nat.add_right_cancel_iff] at lx
                  have T : ∀ {H' : Hp}, Same H H' → SqT K H' a (.str wd :: xs1) := fun s => SqT.of (s _ _ e)
                  -- the row tells how many and what
                  have val : ∀ {ks : List Str}, rowAt eRows wd = some ks → ∀ H', Same H H' → Q (.bl (decide (ps.length = ks.length) && exprP dep ks ps)) H' := fun hr H' s => by
                    have := k H' s
                    rw [expr_row hr, decide_eq_true d5] at this
                    exact this
                  have bad : ∀ {ks : List Str}, rowAt eRows wd = some ks → ps.length ≠ ks.length → ∀ H', Same H H' → Q (.bl false) H' := fun hr hl H' s => by
                    have := val hr H' s
                    rw [decide_eq_false hl] at this
                    exact this
                  refine ⟨_, _, .inr (T (Same.refl H)), atI_nat (j := 0) rfl, Gen.dec (fun h0 => ?_) (fun h0 => ?_)⟩
                  · -- value
                    subst h0
                    cases p with
                    | nil => exact .inl ⟨_, .inr (T (Same.refl H)), Gen.no rfl (bad row_0 (by decide) H (Same.refl H))⟩
                    | @cons x2 d2 xs2 ps2 q2 p =>
                      cases p with
                      | @cons x3 d3 xs3 ps3 q3 p => exact .inl ⟨_, .inr (T (Same.refl H)), Gen.no (by simp only [List.length_cons, decide_eq_false_iff_not]; omega) (bad row_0 (by simp) H (Same.refl H))⟩
                      | nil =>
                        refine .inl ⟨_, .inr (T (Same.refl H)), Gen.yes rfl ⟨_, x2, .inr (T (Same.refl H)), atI_nat (j := 1) rfl, q2.th, ?_⟩⟩
                        have := val row_0 H (Same.refl H)
                        rw [exprP_v, ← q2.val] at this
                        exact this
                  refine ⟨_, _, .inr (T (Same.refl H)), atI_nat (j := 0) rfl, by show 6 ≤ sizeLine; decide, fun q1 n1 => ⟨_, .inr (SqT.of upd_same), rfl, rfl, ?_⟩⟩
                  have s1 : Same H (upd H q1 (.tup ((["var", "read", "peek", "state", "size", "use"] : List Str).map V.str))) := same_upd n1
                  refine Gen.cases (fun h1 => ?_) (fun h1 => ?_)
                  · -- a name
                    have hm := of_decide_eq_true (p := wd ∈ (["var", "read", "peek", "state", "size", "use"] : List Str)) ((inV_strs _).symm.trans h1)
                    cases p with
                    | nil => exact .inl ⟨_, .inr (T s1), Gen.no rfl (bad (row_1 hm) (by decide) _ s1)⟩
                    | @cons x2 d2 xs2 ps2 q2 p =>
                      cases p with
                      | @cons x3 d3 xs3 ps3 q3 p => exact .inl ⟨_, .inr (T s1), Gen.no (by simp only [List.length_cons, decide_eq_false_iff_not]; omega) (bad (row_1 hm) (by simp) _ s1)⟩
                      | nil =>
                        refine .inl ⟨_, .inr (T s1), Gen.yes rfl ⟨_, x2, .inr (T s1), atI_nat (j := 1) rfl, q2.th.same s1, ?_⟩⟩
                        have := val (row_1 hm) _ s1
                        rw [exprP_n, ← q2.key] at this
                        exact this
                  have n1' := of_decide_eq_false (p := wd ∈ (["var", "read", "peek", "state", "size", "use"] : List Str)) ((inV_strs _).symm.trans h1)
                  refine ⟨_, _, .inr (T s1), atI_nat (j := 0) rfl, by show 2 ≤ sizeLine; decide, fun q2 m2 => ⟨_, .inr (SqT.of upd_same), rfl, rfl, ?_⟩⟩
                  have s2 : Same H _ := s1.trans (same_upd (o := .tup ((["get", "has"] : List Str).map V.str)) m2)
                  refine Gen.cases (fun h2 => ?_) (fun h2 => ?_)
                  · -- a name and an expression
                    have hm := of_decide_eq_true (p := wd ∈ (["get", "has"] : List Str)) ((inV_strs _).symm.trans h2)
                    cases p with
                    | nil => exact .inl ⟨_, .inr (T s2), Gen.no rfl (bad (row_2 hm) (by decide) _ s2)⟩
                    | @cons x2 d2 xs2 ps2 t2 p =>
                      cases p with
                      | nil => exact .inl ⟨_, .inr (T s2), Gen.no rfl (bad (row_2 hm) (by simp) _ s2)⟩
                      | @cons x3 d3 xs3 ps3 t3 p =>
                        cases p with
                        | @cons x4 d4 xs4 ps4 t4 p => exact .inl ⟨_, .inr (T s2), Gen.no (by simp only [List.length_cons, decide_eq_false_iff_not]; omega) (bad (row_2 hm) (by simp) _ s2)⟩
                        | nil =>
                          refine .inl ⟨_, .inr (T s2), Gen.yes rfl ⟨_, x2, .inr (T s2), atI_nat (j := 1) rfl, t2.th.same s2, ?_⟩⟩
                          have kk := fun H' s => val (row_2 hm) H' s
                          cases hk : isKey x2 with
                          | false =>
                            have := kk _ s2
                            rw [exprP_ne, ← t2.key, hk] at this
                            exact this
                          | true =>
                            refine ⟨_, x3, .inr (T s2), atI_nat (j := 2) rfl, A, d3, t3.same s2, fun H' s' => ?_⟩
                            have := kk _ (s2.trans s')
                            rw [exprP_ne, ← t2.key, hk] at this
                            exact this
                  have n2' := of_decide_eq_false (p := wd ∈ (["get", "has"] : List Str)) ((inV_strs _).symm.trans h2)
                  refine ⟨_, _, .inr (T s2), atI_nat (j := 0) rfl, by show 4 ≤ sizeLine; decide, fun q3 m3 => ⟨_, .inr (SqT.of upd_same), rfl, rfl, ?_⟩⟩
                  have s3 : Same H _ := s2.trans (same_upd (o := .tup ((["add", "join", "equal", "less"] : List Str).map V.str)) m3)
                  refine Gen.cases (fun h3 => ?_) (fun h3 => ?_)
                  · -- two expressions
                    have hm := of_decide_eq_true (p := wd ∈ (["add", "join", "equal", "less"] : List Str)) ((inV_strs _).symm.trans h3)
                    cases p with
                    | nil => exact .inl ⟨_, .inr (T s3), Gen.no rfl (bad (row_3 hm) (by decide) _ s3)⟩
                    | @cons x2 d2 xs2 ps2 t2 p =>
                      cases p with
                      | nil => exact .inl ⟨_, .inr (T s3), Gen.no rfl (bad (row_3 hm) (by simp) _ s3)⟩
                      | @cons x3 d3 xs3 ps3 t3 p =>
                        cases p with
                        | @cons x4 d4 xs4 ps4 t4 p => exact .inl ⟨_, .inr (T s3), Gen.no (by simp only [List.length_cons, decide_eq_false_iff_not]; omega) (bad (row_3 hm) (by simp) _ s3)⟩
                        | nil =>
                          refine .inl ⟨_, .inr (T s3), Gen.yes rfl ⟨_, x2, .inr (T s3), atI_nat (j := 1) rfl, A, d2, t2.same s3, fun H' s' => ?_⟩⟩
                          have kk := fun H' s => val (row_3 hm) H' s
                          cases hk : expr (dep + 1) d2 with
                          | false =>
                            have := kk _ (s3.trans s')
                            rw [exprP_ee, hk] at this
                            exact this
                          | true =>
                            have s4 := s3.trans s'
                            refine ⟨_, x3, .inr (T s4), atI_nat (j := 2) rfl, A, d3, t3.same s4, fun H2 s5 => ?_⟩
                            have := kk _ (s4.trans s5)
                            rw [exprP_ee, hk] at this
                            exact this
                  have n3' := of_decide_eq_false (p := wd ∈ (["add", "join", "equal", "less"] : List Str)) ((inV_strs _).symm.trans h3)
                  refine ⟨_, _, .inr (T s3), atI_nat (j := 0) rfl, Gen.dec (fun h4 => ?_) (fun h4 => ?_)⟩
                  · -- not
                    subst h4
                    cases p with
                    | nil => exact .inl ⟨_, .inr (T s3), Gen.no rfl (bad row_4 (by decide) _ s3)⟩
                    | @cons x2 d2 xs2 ps2 t2 p =>
                      cases p with
                      | @cons x3 d3 xs3 ps3 t3 p => exact .inl ⟨_, .inr (T s3), Gen.no (by simp only [List.length_cons, decide_eq_false_iff_not]; omega) (bad row_4 (by simp) _ s3)⟩
                      | nil =>
                        refine .inl ⟨_, .inr (T s3), Gen.yes rfl ⟨_, x2, .inr (T s3), atI_nat (j := 1) rfl, A, d2, t2.same s3, fun H' s' => ?_⟩⟩
                        have := val row_4 _ (s3.trans s')
                        rw [exprP_e] at this
                        exact this
                  · have e0 : expr dep (.tup (.v (.str wd) :: ps)) = false := by
                      unfold expr exprT
                      rw [row_else h0 n1' n2' n3' h4]
                    have := k _ s3
                    rw [e0] at this
                    exact this
end
end K3

namespace K3
open PySem PySem.Spec PyProof.Rows L2 CW K1
open VM
section
variable {P : Program} {w : World} {K : PySem.W.Frag} {mg : Str → Option Value} {base : Heap} {u1 u2 u3 u4 u5 u6 : Tok} {dE dS : Addr}
/-! ### _law_good_pairs -/
abbrev s__law_good_pairs : Stmt := topS 34
theorem sc__law_good_pairs : FnScope ["pairs", "seen", "pair"] ["pairs"] (defScope s__law_good_pairs) := ⟨rfl, rfl, rfl, by decide +kernel, rfl, by decide +kernel, by decide +kernel⟩
def sp__law_good_pairs (N : Nat) : Sp := fun vs H Q _ => match vs with
  | [x] => ∃ n A d, n ≤ N ∧ Tr H A n x d ∧ ∀ H', Same H H' → Q (.bl (pairsD d)) H'
  | _ => False
theorem pairsD_lst (ds : List Da) : pairsD (.lst ds) = ((decide (ds.length ≤ 8) && (ds.all (fun d => (pairKey d).isSome) && decide ((ds.filterMap pairKey).Nodup))) && ds.all pairEx) := rfl
theorem all_false {α : Type} {f : α → Bool} {xs : List α} {i : Nat} {x : α} (h : xs[i]? = some x) (hf : f x = false) : xs.all f = false := by
  rw [List.all_eq_false]
  exact ⟨x, List.mem_of_getElem? h, by simp [hf]⟩
theorem nodup_snoc {α : Type} {ks : List α} {k : α} : (ks ++ [k]).Nodup ↔ ks.Nodup ∧ k ∉ ks := by
  rw [List.nodup_append]
  constructor
  · rintro ⟨a, _, c⟩
    exact ⟨a, fun m => c k m k (by simp) rfl⟩
  · rintro ⟨a, c⟩
    exact ⟨a, by simp, fun x hx y hy e => by simp at hy; subst hy e; exact c hx⟩
theorem nodup_take {ds : List Da} {i : Nat} (h : ¬ ((ds.take i).filterMap pairKey).Nodup) : ¬ (ds.filterMap pairKey).Nodup := by
  intro hn
  apply h
  have e : ds = ds.take i ++ ds.drop i := (List.take_append_drop i ds).symm
  rw [e, List.filterMap_append, List.nodup_append] at hn
  exact hn.1
theorem ok__law_good_pairs {f : Addr} {fd : FuncData} (F : Fun K "_law_good_pairs" "_law_good_pairs" s__law_good_pairs f fd) (G : Gs mg u1 u2 u3 u4 u5 u6 dE dS K w) (C__law_good_name : Has P w K mg base 2 "_law_good_name" ["x"] (sp__law_good_name K)) (C__law_good_expr : Has P w K mg base 60 "_law_good_expr" ["e", "depth"] (sp__law_good_expr 57)) : FnOk P w K mg base CX0 61 f fd ["pairs"] (sp__law_good_pairs 57) := by
  refine F.ok sc__law_good_pairs (fun vs H Q E h => ?_) (fun cdv A outer s H vs Q E hr h => ?_)
  · unfold sp__law_good_pairs at h
    split at h
    · rfl
    · exact h.elim
  · unfold sp__law_good_pairs at h
    split at h
    case h_2 => exact h.elim
    case h_1 x =>
      obtain ⟨n, A, d, hn, hd, k⟩ := h
      refine ⟨_, (pss_cons (s_if (PW.pt (w_or (t_not (t_tru (K := K) rfl (c_isi (K := K) rfl kf_list G.n_isinstance G.n_list boot_list (c_var 0)))) (w_or1 (t_cmp o_gt (c_bi (b_len (K := K) rfl) G.n_len boot_len (pa_cons (c_var 0) pa_nil)) pe_int)))) (pss_one (s_ret pe_bl)) pss_nil)
    (pss_cons (s_set 1 sc__law_good_pairs.nd (c_lst pa_nil))
    (pss_cons (s_forL (K := K) rfl 2 (c_var 0) sc__law_good_pairs.nd (pss_cons (s_if (PW.pt (w_or (t_not (t_tru (K := K) rfl (c_isi (K := K) rfl kf_tuple G.n_isinstance G.n_tuple boot_tuple (c_var 2)))) (w_or (t_cmp o_ne (c_bi (b_len (K := K) rfl) G.n_len boot_len (pa_cons (c_var 2) pa_nil)) pe_int) (w_or (t_not (t_tru (K := K) rfl (c_call C__law_good_name (hr.mono (by omega)) (pa_cons (c_ix (K := K) rfl (c_var 2) pe_int) pa_nil)))) (w_or1 (t_cmp (o_inSeq (K := K) rfl) (c_ix (K := K) rfl (c_var 2) pe_int) (c_var 1))))))) (pss_one (s_ret pe_bl)) pss_nil)
    (pss_cons (s_if (t_not (t_tru (K := K) rfl (c_call C__law_good_expr (hr.mono (by omega)) (pa_cons (c_ix (K := K) rfl (c_var 2) pe_int) (pa_cons pe_int pa_nil))))) (pss_one (s_ret pe_bl)) pss_nil)
    (pss_one (s_app (c_var 1) (c_ix (K := K) rfl (c_var 2) pe_int))))))
    (pss_one (s_ret pe_bl))))), ?_⟩
      have k0 := k H (Same.refl H)
      cases n with
      | zero => exact hd.elim
      | succ n =>
        cases d with
        | v y =>
          obtain ⟨rfl, s⟩ := hd
          cases s <;> exact k0
        | tup ds =>
          obtain ⟨_, a, xs, rfl, e, _⟩ := hd
          exact ⟨_, _, tyx_t (SqT.of e), kb_tl, k0⟩
        | lst ds =>
          obtain ⟨_, a, xs, rfl, _, e, p⟩ := hd
          have lx := Paired.length p
          refine ⟨_, _, tyx_l (SqL.of e), kb_ll, .inl ⟨xs, .inl (SqL.of e), Gen.dec (fun h8 => ?_) (fun h8 => ?_)⟩⟩
          · have : pairsD (.lst ds) = false := by
              rw [pairsD_lst, decide_eq_false (show ¬ ds.length ≤ 8 by omega)]
              rfl
            rw [this] at k0
            exact k0
          have l8 : ds.length ≤ 8 := by omega
          refine ⟨by show 0 ≤ sizeLine; decide, fun q hq => ?_⟩
          have sq : Same H (upd H q (.lst [])) := same_upd hq
          refine ⟨xs, SqL.of (sq _ _ e), fun i σ H' => ∃ (y2 : Option V) (ks : List Str), σ = [some (.ref a), some (.ref q), y2] ∧ Same H H' ∧ H' q = some (.lst (ks.map V.str)) ∧ (ds.take i).all (fun d => (pairKey d).isSome) = true ∧
              (ds.take i).filterMap pairKey = ks ∧ ks.Nodup ∧ (ds.take i).all pairEx = true ∧ ks.length ≤ i, ⟨none, [], rfl, sq, upd_same, rfl, rfl, .nil, rfl, Nat.le_refl _⟩, fun i σ H' _ p => ?_, fun i x σ H' hx p' => ?_, fun σ H' p' => ?_⟩
          · obtain ⟨_, _, _, s, _⟩ := p
            exact SqL.of (s _ _ e)
          · obtain ⟨y2, ks, rfl, s, eq, al, ek, nd, ax, lk⟩ := p'
            obtain ⟨d, ed, td⟩ := pget p hx
            have il : i < ds.length := (List.getElem?_eq_some_iff.mp ed).1
            have td' := Tr.same s td
            have badK : pairKey d = none → ∀ H', Same H H' → Q (.bl false) H' := fun hb H' s' => by
              have := k H' s'
              rw [pairsD_lst, all_false ed (show (pairKey d).isSome = false by rw [hb]; rfl)] at this
              simp only [Bool.false_and, Bool.and_false] at this
              exact this
            cases n with
            | zero => exact td.elim
            | succ n =>
              cases d with
              | v y =>
                obtain ⟨rfl, sb⟩ := td
                cases sb <;> exact badK rfl H' s
              | lst es =>
                obtain ⟨_, a2, xs2, rfl, _, h2, _⟩ := td'
                exact ⟨_, _, tyx_l (SqL.of h2), kb_lt, badK rfl H' s⟩
              | tup es =>
                obtain ⟨_, a2, xs2, rfl, h2, p2⟩ := td'
                refine ⟨_, _, tyx_t (SqT.of h2), kb_tt, .inl ⟨xs2, .inr (SqT.of h2), ?_⟩⟩
                cases p2 with
                | nil => exact Gen.no rfl (badK rfl H' s)
                | @cons x1 d1 xs3 ds3 q1 p3 =>
                  cases p3 with
                  | nil =>
                    refine Gen.no rfl (badK ?_ H' s)
                    unfold pairKey
                    split
                    · rename_i heq
                      cases heq
                    · rfl
                  | @cons x2 d2 xs4 ds4 q2 p4 =>
                    cases p4 with
                    | @cons x3 d3 xs5 ds5 q3 p5 =>
                      refine Gen.no (by simp only [List.length_cons, decide_eq_false_iff_not]; omega) (badK ?_ H' s)
                      unfold pairKey
                      split
                      · rename_i heq
                        cases heq
                      · rfl
                    | nil =>
                      refine Gen.yes rfl ⟨_, x1, .inr (SqT.of h2), atI_nat (j := 0) rfl, q1.th, ?_⟩
                      have ek1 := q1.key
                      have epk : ∀ y : Str, d1 = .v (.str y) → pairKey (.tup [d1, d2]) = if isKeyS y then some y else none := fun y e => by
                        subst e
                        rfl
                      cases hk : isKey x1 with
                      | false =>
                        have : pairKey (.tup [d1, d2]) = none := by
                          cases d1 with
                          | v y =>
                            cases y <;> try rfl
                            rw [epk _ rfl]
                            rw [hk] at ek1
                            have e5 : isKeyS _ = false := ek1.symm
                            rw [e5]
                            rfl
                          | _ => rfl
                        exact badK this H' s
                      | true =>
                        obtain ⟨y, rfl⟩ : ∃ y, x1 = .str y := by
                          cases x1 <;> simp [isKey] at hk
                          exact ⟨_, rfl⟩
                        have ed1 : d1 = .v (.str y) := by
                          cases n with
                          | zero => exact q1.elim
                          | succ n =>
                            cases d1 with
                            | v z =>
                              obtain ⟨e, _⟩ := q1
                              rw [e]
                            | tup _ => obtain ⟨_, _, _, e, _⟩ := q1; cases e
                            | lst _ => obtain ⟨_, _, _, e, _⟩ := q1; cases e
                        have e5 : pairKey (.tup [d1, d2]) = some y := by
                          rw [epk y ed1, if_pos (show isKeyS y = true from hk)]
                        have ef : (ds.take (i + 1)).filterMap pairKey = ks ++ [y] := by
                          rw [List.take_add_one, ed, List.filterMap_append, ek]
                          simp [e5]
                        refine ⟨_, _, .inr (SqT.of h2), atI_nat (j := 0) rfl, _, .inl (SqL.of eq), rfl, by rw [List.all_map]; exact List.all_eq_true.mpr fun _ _ => rfl, Gen.cases (fun hin => ?_) (fun hin => ?_)⟩
                        · have hm := of_decide_eq_true (p := y ∈ ks) ((inV_strs _).symm.trans hin)
                          have := k H' s
                          have nn : ¬ (ds.filterMap pairKey).Nodup := nodup_take (i := i + 1) (by rw [ef, nodup_snoc]; exact fun z => z.2 hm)
                          rw [pairsD_lst, decide_eq_false nn] at this
                          simp only [Bool.false_and, Bool.and_false] at this
                          exact this
                        · have hm := of_decide_eq_false (p := y ∈ ks) ((inV_strs _).symm.trans hin)
                          refine ⟨_, x2, .inr (SqT.of h2), atI_nat (j := 1) rfl, A, d2, q2.up (by omega), fun H2 s2 => ?_⟩
                          have s3 := s.trans s2
                          cases hx2 : expr 1 d2 with
                          | false =>
                            have := k H2 s3
                            rw [pairsD_lst, all_false (f := pairEx) ed hx2] at this
                            simp only [Bool.false_and, Bool.and_false] at this
                            exact this
                          | true =>
                            have eq2 := s2 _ _ eq
                            refine ⟨_, eq2, _, _, .inr (SqT.of (s2 _ _ h2)), atI_nat (j := 0) rfl, _, eq2, ?_, ?_⟩
                            · rw [List.length_map]
                              exact small1000 (by omega)
                            · refine ⟨_, ks ++ [y], rfl, fun c o ec => ?_, ?_, ?_, ef, nodup_snoc.mpr ⟨nd, hm⟩, ?_, ?_⟩
                              · rw [upd_ne (ne_of_none ec hq)]
                                exact s3 c o ec
                              · rw [upd_same, List.map_append]
                                rfl
                              · rw [List.take_add_one, ed, List.all_append, al]
                                simp [e5]
                              · rw [List.take_add_one, ed, List.all_append, ax]
                                show (true && (pairEx (.tup [d1, d2]) && true)) = true
                                rw [show pairEx (.tup [d1, d2]) = true from hx2]
                                rfl
                              · rw [List.length_append, List.length_singleton]
                                omega
          · obtain ⟨y2, ks, rfl, s, eq, al, ek, nd, ax, lk⟩ := p'
            have et : ds.take xs.length = ds := List.take_of_length_le (by omega)
            rw [et] at al ek ax
            have := k H' s
            rw [pairsD_lst, decide_eq_true l8, al, ek, decide_eq_true nd, ax] at this
            exact this
end
end K3

namespace K3
open PySem PySem.Spec PyProof.Rows L2 CW K1
open VM
section
variable {P : Program} {w : World} {K : PySem.W.Frag} {mg : Str → Option Value} {base : Heap} {u1 u2 u3 u4 u5 u6 : Tok} {dE dS : Addr}
/-! ### _law_forms -/
def code (k : Str) : Nat := if k = "name" then 110 else if k = "pairs" then 112 else if k = "block" then 98 else 101
def letters (ks : List Str) : Str := ⟨(ks.map code).toArray⟩
def sForms : List (Key × V) := sRows.map fun r => (.inr r.1, .str (letters r.2))
theorem val_forms (z : Str) : ∀ l : List (Str × List Str), valV (l.map fun r => ((.inr r.1 : Key), V.str (letters r.2))) (.inr z) = (rowAt l z).map fun ks => V.str (letters ks)
  | [] => rfl
  | r :: l => by
    rw [List.map_cons]
    by_cases h : r.1 = z
    · rw [valV_pos (by rw [h])]
      simp [rowAt, h]
    · rw [valV_neg (fun e => h (Sum.inr.inj e)), val_forms z l]
      simp [rowAt, h]
abbrev s__law_forms : Stmt := topS 35
theorem sc__law_forms : FnScope [] [] (defScope s__law_forms) := ⟨rfl, rfl, rfl, by decide +kernel, rfl, by decide +kernel, by decide +kernel⟩
def sp__law_forms : Sp := fun vs H Q _ => match vs with
  | [] => ∀ d b more, H d = none → H b = none → d ≠ b → Q (.ref d) (upd (upd H b more) d (.dK sForms))
  | _ => False
theorem forms_eq : (List.zipWith (fun k v => ((.inr k : Key), V.str v)) (["let", "if", "each", "try", "raise", "return", "emit", "write", "put", "remove", "reset", "dispose", "cleanup", "signal", "store", "scope", "boundary", "computed", "effect", "resource", "keyed", "atomic"] : List Str) (["ne", "ebb", "nnb", "bnb", "e", "e", "e", "ne", "nee", "ne", "n", "n", "e", "ne", "np", "n", "n", "nb", "nb", "nb", "nnnb", "bnb"] : List Str)) = sForms := by decide +kernel
theorem ok__law_forms {f : Addr} {fd : FuncData} (F : Fun K "_law_forms" "_law_forms" s__law_forms f fd) (G : Gs mg u1 u2 u3 u4 u5 u6 dE dS K w) : FnOk P w K mg base CX0 1 f fd [] sp__law_forms := by
  refine F.ok sc__law_forms (fun vs H Q E h => ?_) (fun cdv A outer s H vs Q E hr h => ?_)
  · unfold sp__law_forms at h
    split at h
    · rfl
    · exact h.elim
  · unfold sp__law_forms at h
    split at h
    case h_2 => exact h.elim
    case h_1 =>
      have k := h
      refine ⟨_, (pss_one (s_ret c_dlit)), ?_⟩
      intro d b more hd hb hn
      have := k d b more hd hb hn
      rw [← forms_eq] at this
      exact this
/-! ### _law_count -/
def RC (o : Option Int) (c : Int) : Prop := match o with
  | some s => c = s
  | none => 1000 ≤ c
theorem RC.add {a b : Option Int} {x y : Int} (h1 : RC a x) (h2 : RC b y) (p1 : 0 ≤ x) (p2 : 0 ≤ y) : RC (oadd a b) (x + y) := by
  cases a <;> cases b <;> simp only [RC, oadd] at * <;> omega
theorem RC.pos {o : Option Int} {c : Int} (h : RC o c) (p : ∀ s, o = some s → 0 ≤ s) : 0 ≤ c := by
  cases o with
  | none => simp only [RC] at h; omega
  | some s =>
    have := p s rfl
    simp only [RC] at h
    omega
theorem szBs_none {dp : Int} {ds : List Da} {i : Nat} {d : Da} (h : ds[i]? = some d) (hn : szS dp d = none) : szBs dp ds = none := by
  cases hs : szBs dp ds with
  | none => rfl
  | some s =>
    obtain ⟨t, ht, _⟩ := szBs_le (j := i + 1) hs
    rw [szBs_take h, hn] at ht
    cases hx : szBs dp (ds.take i) <;> rw [hx] at ht <;> simp [oadd] at ht
theorem szP_none {dp : Int} {ks : List Str} {ps : List Da} {i : Nat} {k : Str} {p : Da} (hl : ks.length = ps.length) (h1 : ks[i]? = some k) (h2 : ps[i]? = some p) (hn : one dp k p = none) : szP dp ks ps = none := by
  cases hs : szP dp ks ps with
  | none => rfl
  | some s =>
    obtain ⟨t, ht, _⟩ := szP_le (j := i + 1) hl hs
    rw [szP_take hl h1 h2, hn] at ht
    cases hx : szP dp (ks.take i) (ps.take i) <;> rw [hx] at ht <;> simp [oadd] at ht
theorem szS_row {w : Str} {ps : List Da} {ks : List Str} {dp : Int} (h : rowAt sRows w = some ks) : szS dp (.tup (.v (.str w) :: ps)) = if ps.length = ks.length then oadd (some 1) (szP dp ks ps) else none := by
  conv => lhs; unfold szS szT
  rw [h]
theorem szS_no {w : Str} {ps : List Da} {dp : Int} (h : rowAt sRows w = none) : szS dp (.tup (.v (.str w) :: ps)) = none := by
  unfold szS szT
  rw [h]
theorem let_at {ks : List Str} {i : Nat} {k : Str} (h : ks[i]? = some k) : atI (letters ks).cps.toList (i : Int) = some (code k) := atI_nat (by
  show (ks.map code).toArray.toList[i]? = _
  rw [List.toList_toArray, List.getElem?_map, h]
  rfl)
theorem let_len (ks : List Str) : (letters ks).length = ks.length := by
  show (ks.map code).toArray.size = _
  simp
abbrev s__law_count : Stmt := topS 36
theorem sc__law_count : FnScope ["block", "depth", "many", "st", "form", "k", "part"] ["block", "depth"] (defScope s__law_count) := ⟨rfl, rfl, rfl, by decide +kernel, rfl, by decide +kernel, by decide +kernel⟩
def sp__law_count (n : Nat) : Sp := fun vs H Q _ => match vs with
  | [x, .int dp] => ∃ A d, Tr H A n x d ∧ ∀ c H', RC (szB dp d) c → Same H H' → Q (.int c) H'
  | _ => False
theorem ok__law_count {f : Addr} {fd : FuncData} (F : Fun K "_law_count" "_law_count" s__law_count f fd) (G : Gs mg u1 u2 u3 u4 u5 u6 dE dS K w) (mf : mg "_law_count" = some (.ref f)) (bf : Binds K fd ["block", "depth"] []) (C__law_good_name : Has P w K mg base 2 "_law_good_name" ["x"] (sp__law_good_name K)) (C__law_good_expr : Has P w K mg base 60 "_law_good_expr" ["e", "depth"] (sp__law_good_expr 57)) (C__law_good_pairs : Has P w K mg base 61 "_law_good_pairs" ["pairs"] (sp__law_good_pairs 57)) (C__law_forms : Has P w K mg base 1 "_law_forms" [] sp__law_forms) :
    ∀ n : Nat, n ≤ 56 → FnOk P w K mg base CX0 (n + 63) f fd ["block", "depth"] (sp__law_count n) := by
  intro n
  induction n using Nat.strongRecOn with
  | _ n ih =>
    intro hn56
    have C__law_count : ∀ m, m < n → Has P w K mg base (m + 63) "_law_count" ["block", "depth"] (sp__law_count m) := fun m hm => ⟨f, fd, ih m hm (by omega), mf, F.kp, bf⟩
    cases n with
    | zero =>
      refine ⟨fun vs H Q E h => ?_, fun A outer s H args us vs Q E hr he hb hv h => ?_⟩
      · unfold sp__law_count at h
        split at h
        · rfl
        · exact h.elim
      · unfold sp__law_count at h
        split at h
        · obtain ⟨_, _, h, _⟩ := h
          exact h.elim
        · exact h.elim
    | succ n =>
      have C__law_count : Has P w K mg base (n - 1 + 63) "_law_count" ["block", "depth"] (sp__law_count (n - 1)) := C__law_count (n - 1) (by omega)
      refine F.ok sc__law_count (fun vs H Q E h => ?_) (fun cdv A outer s H vs Q E hr h => ?_)
      · unfold sp__law_count at h
        split at h
        · rfl
        · exact h.elim
      · unfold sp__law_count at h
        split at h
        case h_2 => exact h.elim
        case h_1 x dep =>
          obtain ⟨A, d, hd, k⟩ := h
          refine ⟨_, (pss_cons (s_if (PW.pt (w_or (t_not (t_tru (K := K) rfl (c_isi (K := K) rfl kf_list G.n_isinstance G.n_list boot_list (c_var 0)))) (w_or1 (PW.pt (w_and (t_cmp o_gt (c_bi (b_len (K := K) rfl) G.n_len boot_len (pa_cons (c_var 0) pa_nil)) pe_int) (w_and1 (t_cmp o_gt (c_var 1) pe_int))))))) (pss_one (s_ret pe_int)) pss_nil)
    (pss_cons (s_set 2 sc__law_count.nd pe_int)
    (pss_cons (s_forL (K := K) rfl 3 (c_var 0) sc__law_count.nd (pss_cons (s_set 2 sc__law_count.nd (c_bin o_add (c_var 2) pe_int))
    (pss_cons (s_if (PW.pt (w_or (t_not (t_tru (K := K) rfl (c_isi (K := K) rfl kf_tuple G.n_isinstance G.n_tuple boot_tuple (c_var 3)))) (w_or (t_cmp o_eq (c_bi (b_len (K := K) rfl) G.n_len boot_len (pa_cons (c_var 3) pa_nil)) pe_int) (w_or (t_not (t_tru (K := K) rfl (c_isi (K := K) rfl kf_str G.n_isinstance G.n_str boot_str (c_ix (K := K) rfl (c_var 3) pe_int)))) (w_or1 (t_dnin hr.units1 (c_ix (K := K) rfl (c_var 3) pe_int) (c_call0 C__law_forms (hr.mono (by omega))))))))) (pss_one (s_ret pe_int)) pss_nil)
    (pss_cons (s_set 4 sc__law_count.nd (c_dget hr.units1 (c_call0 C__law_forms (hr.mono (by omega))) (c_ix (K := K) rfl (c_var 3) pe_int)))
    (pss_cons (s_if (t_cmp o_ne (c_bi (b_len (K := K) rfl) G.n_len boot_len (pa_cons (c_var 3) pa_nil)) (c_bin o_add pe_int (c_bi (b_len (K := K) rfl) G.n_len boot_len (pa_cons (c_var 4) pa_nil)))) (pss_one (s_ret pe_int)) pss_nil)
    (pss_one (s_forR1 5 (pa_cons (c_bi (b_len (K := K) rfl) G.n_len boot_len (pa_cons (c_var 4) pa_nil)) pa_nil) G.n_range sc__law_count.nd (pss_cons (s_set 6 sc__law_count.nd (c_ix (K := K) rfl (c_var 3) (c_bin o_add pe_int (c_var 5))))
    (pss_cons (s_if (PW.pt (w_or (PW.pt (w_and (t_cmp o_eq (c_ix (K := K) rfl (c_var 4) (c_var 5)) pe_str) (w_and1 (t_not (t_tru (K := K) rfl (c_call C__law_good_name (hr.mono (by omega)) (pa_cons (c_var 6) pa_nil))))))) (w_or1 (PW.pt (w_and (t_cmp o_eq (c_ix (K := K) rfl (c_var 4) (c_var 5)) pe_str) (w_and1 (t_not (t_tru (K := K) rfl (c_call C__law_good_expr (hr.mono (by omega)) (pa_cons (c_var 6) (pa_cons pe_int pa_nil))))))))))) (pss_one (s_ret pe_int)) pss_nil)
    (pss_cons (s_if (PW.pt (w_and (t_cmp o_eq (c_ix (K := K) rfl (c_var 4) (c_var 5)) pe_str) (w_and1 (t_not (t_tru (K := K) rfl (c_call C__law_good_pairs (hr.mono (by omega)) (pa_cons (c_var 6) pa_nil))))))) (pss_one (s_ret pe_int)) pss_nil)
    (pss_one (s_if (t_cmp o_eq (c_ix (K := K) rfl (c_var 4) (c_var 5)) pe_str) (pss_one (s_set 2 sc__law_count.nd (c_bin o_add (c_var 2) (c_call C__law_count (hr.mono (by omega)) (pa_cons (c_var 6) (pa_cons (c_bin o_add (c_var 1) pe_int) pa_nil)))))) pss_nil))))))))))))
    (pss_one (s_ret (c_var 2)))))), ?_⟩
          have kn : szB dep d = none → ∀ H', Same H H' → Q (.int 1000) H' := fun z H' s => k _ H' (by rw [z]; exact Int.le_refl _) s
          cases d with
          | v y =>
            obtain ⟨rfl, s⟩ := hd
            cases s <;> exact kn rfl H (Same.refl H)
          | tup ds =>
            obtain ⟨_, a, xs, rfl, e, _⟩ := hd
            exact ⟨_, _, tyx_t (SqT.of e), kb_tl, kn rfl H (Same.refl H)⟩
          | lst ds =>
            obtain ⟨_, a, xs, rfl, _, e, p⟩ := hd
            have lx := Paired.length p
            have eB : szB dep (.lst ds) = if ds.isEmpty = true then some 0 else if 5 < dep then none else szBs dep ds := rfl
            refine ⟨_, _, tyx_l (SqL.of e), kb_ll, .inl ⟨xs, .inl (SqL.of e), ?_⟩⟩
            refine Gen.dec (fun h0 => Gen.dec (fun h5 => kn ?_ H (Same.refl H)) (fun h5 => ?_)) (fun h0 => ?_)
            · have hne : ¬ ds.isEmpty = true := fun z => by
                have z' : ds = [] := by simpa using z
                rw [z', List.length_nil] at lx
                omega
              rw [eB, if_neg hne, if_pos h5]
            all_goals
              have eb : szB dep (.lst ds) = szBs dep ds := by
                by_cases hd0 : ds = []
                · subst hd0
                  exact (szBs_nil dep).symm
                · rw [eB, if_neg (by simpa using hd0), if_neg (by first | exact h5 | exact absurd (List.length_eq_zero_iff.mp (by omega)) hd0)]
              rw [eb] at k kn
              refine ⟨xs, SqL.of e, fun i σ H' => ∃ (y3 y4 y5 y6 : Option V) (c : Int), σ = [some (.ref a), some (.int dep), some (.int c), y3, y4, y5, y6] ∧ Same H H' ∧ RC (szBs dep (ds.take i)) c ∧ 0 ≤ c, ⟨none, none, none, none, 0, rfl, Same.refl H, rfl, Int.le_refl _⟩, fun i σ H' _ p' => ?_, fun i x σ H' hx p' => ?_, fun σ H' p' => ?_⟩
              · obtain ⟨_, _, _, _, _, _, s', _⟩ := p'
                exact SqL.of (s' _ _ e)
              · obtain ⟨y3, y4, y5, y6, c, rfl, s', hc, c0⟩ := p'
                obtain ⟨dd, hdd, td⟩ := pget p hx
                have il : i < ds.length := (List.getElem?_eq_some_iff.mp hdd).1
                have td' := Tr.same s' td
                have bad : szS dep dd = none → ∀ H2, Same H' H2 → Q (.int 1000) H2 := fun hb H2 s2 => kn (szBs_none hdd hb) H2 (s'.trans s2)
                cases n with
                | zero => exact td.elim
                | succ n =>
                  cases dd with
                  | v y =>
                    obtain ⟨rfl, sb⟩ := td
                    cases sb <;> exact bad rfl H' (Same.refl H')
                  | lst es =>
                    obtain ⟨_, a2, xs2, rfl, _, h2, _⟩ := td'
                    exact ⟨_, _, tyx_l (SqL.of h2), kb_lt, bad rfl H' (Same.refl H')⟩
                  | tup es =>
                    cases hw : wordD (.tup es) with
                    | false =>
                      have hb := bad (word_noS hw)
                      obtain ⟨_, a2, xs2, rfl, h2, p2⟩ := td'
                      refine ⟨_, _, tyx_t (SqT.of h2), kb_tt, .inl ⟨xs2, .inr (SqT.of h2), ?_⟩⟩
                      cases p2 with
                      | nil => exact Gen.yes rfl (hb H' (Same.refl H'))
                      | @cons x1 d1 xs3 ds3 q1 p3 =>
                        refine Gen.no (by rw [List.length_cons, decide_eq_false_iff_not]; omega) ⟨_, x1, .inr (SqT.of h2), atI_nat (j := 0) rfl, ?_⟩
                        cases n with
                        | zero => exact q1.elim
                        | succ n =>
                          cases d1 with
                          | tup es2 =>
                            obtain ⟨_, a3, ys, rfl, e3, _⟩ := q1
                            exact ⟨_, _, tyx_t (SqT.of e3), kb_ts, hb H' (Same.refl H')⟩
                          | lst es2 =>
                            obtain ⟨_, a3, ys, rfl, _, e3, _⟩ := q1
                            exact ⟨_, _, tyx_l (SqL.of e3), kb_ls, hb H' (Same.refl H')⟩
                          | v y =>
                            obtain ⟨rfl, sb⟩ := q1
                            cases sb with
                            | non => exact hb H' (Same.refl H')
                            | bl b => exact hb H' (Same.refl H')
                            | int i => exact hb H' (Same.refl H')
                            | str wd lw => cases hw
                    | true =>
                      obtain ⟨wd, ps, ed⟩ := word_row hw
                      cases ed
                      obtain ⟨m, a2, xs2, em, rfl, h2, p2, lw, lp⟩ := tr_word td'
                      have em' : n = m + 1 := by omega
                      subst em'
                      have lx2 := Paired.length p2
                      have T : ∀ {H2 : Hp}, Same H' H2 → SqT K H2 a2 (.str wd :: xs2) := fun s => SqT.of (s _ _ h2)
                      refine ⟨_, _, tyx_t (SqT.of h2), kb_tt, .inl ⟨_, .inr (SqT.of h2), Gen.no (by rw [List.length_cons, decide_eq_false_iff_not]; omega) ⟨_, _, .inr (SqT.of h2), atI_nat (j := 0) rfl, ?_⟩⟩⟩
                      refine ⟨_, _, .inr (SqT.of h2), atI_nat (j := 0) rfl, fun q1 b1 m1 hq1 hb1 n1 => ⟨sForms, .inl upd_same, ?_⟩⟩
                      have s1 : Same H' (upd (upd H' b1 m1) q1 (.dK sForms)) := same_upd2 (same_upd hb1) hq1
                      have vf := val_forms wd sRows
                      cases hr2 : rowAt sRows wd with
                      | none =>
                        rw [hr2] at vf
                        refine Gen.yes (by show (!(valV sForms (.inr wd)).isSome) = true; rw [show valV sForms (.inr wd) = none from vf]; rfl) (bad (szS_no hr2) _ s1)
                      | some ks =>
                        rw [hr2] at vf
                        have vf' : valV sForms (.inr wd) = some (.str (letters ks)) := vf
                        obtain ⟨lk, kk⟩ := sRow_kinds hr2
                        refine Gen.no (by show (!(valV sForms (.inr wd)).isSome) = false; rw [vf']; rfl) ?_
                        intro q2 b2 m2 hq2 hb2 n2
                        have s2 := s1.trans (same_upd2 (same_upd hb2) hq2 : Same _ (upd (upd _ b2 m2) q2 (.dK sForms)))
                        refine ⟨_, _, .inr (T s2), atI_nat (j := 0) rfl, sForms, .str (letters ks), .inl upd_same, vf', ?_⟩
                        refine .inl ⟨_, .inr (T s2), ⟨by rw [let_len]; exact Nat.le_of_lt (small1000 (by omega)), ?_⟩⟩
                        rw [let_len, List.length_cons]
                        refine Gen.dec (fun hl => ?_) (fun hl => ?_)
                        · have hl' : ks.length = ps.length := by omega
                          have eS : szS dep (.tup (.v (.str wd) :: ps)) = oadd (some 1) (szP dep ks ps) := by rw [szS_row hr2, if_pos hl'.symm]
                          refine ⟨by rw [let_len]; exact Nat.le_of_lt (small1000 (by omega)), ?_⟩
                          rw [let_len]
                          refine ⟨by omega, fun j σ H2 => ∃ (z5 z6 : Option V) (q : Int), σ = [some (.ref a), some (.int dep), some (.int (c + 1 + q)), some (.ref a2), some (.str (letters ks)), z5, z6] ∧ Same H' H2 ∧ RC (szP dep (ks.take j) (ps.take j)) q ∧ 0 ≤ q,
                            ⟨y5, y6, 0, by rw [Int.add_zero]; rfl, s2, by rw [List.take_zero, szP_nil]; rfl, Int.le_refl _⟩, fun j σ H2 hj p' => ?_, fun σ H2 p' => ?_⟩
                          · obtain ⟨z5, z6, q, rfl, s3, hq, q0⟩ := p'
                            have jk : j < ks.length := by omega
                            have jp : j < ps.length := by omega
                            have hk1 : ks[j]? = some ks[j] := List.getElem?_eq_getElem jk
                            have hp1 : ps[j]? = some ps[j] := List.getElem?_eq_getElem jp
                            obtain ⟨px, hpx, tp⟩ := pget2 p2 jp
                            have tp' := tp.same s3
                            have zt := szP_take (dp := dep) hl' hk1 hp1
                            have badp : one dep ks[j] ps[j] = none → ∀ H3, Same H2 H3 → Q (.int 1000) H3 := fun hb H3 s4 => bad (by rw [eS, szP_none hl' hk1 hp1 hb]; rfl) H3 (s3.trans s4)
                            have fin : ∀ (o : Option Int) (cc : Int) (z5 z6 : Option V) (H3 : Hp), one dep ks[j] ps[j] = o → RC o cc → 0 ≤ cc → Same H2 H3 → ∃ (z5' z6' : Option V) (q' : Int), [some (.ref a), some (.int dep), some (.int (c + 1 + q + cc)), some (.ref a2), some (.str (letters ks)), z5, z6] = [some (.ref a), some (.int dep), some (.int (c + 1 + q')), some (.ref a2), some (.str (letters ks)), z5', z6'] ∧ Same H' H3 ∧ RC (szP dep (ks.take (j + 1)) (ps.take (j + 1))) q' ∧ 0 ≤ q' := by
                              intro o cc z5 z6 H3 ho hcc c1 s4
                              refine ⟨z5, z6, q + cc, by rw [Int.add_assoc (c + 1)], s3.trans s4, ?_, by omega⟩
                              rw [zt, ho]
                              exact hq.add hcc q0 c1
                            have fin0 : ∀ (z5 z6 : Option V) (H3 : Hp), one dep ks[j] ps[j] = some 0 → Same H2 H3 → ∃ (z5' z6' : Option V) (q' : Int), [some (.ref a), some (.int dep), some (.int (c + 1 + q)), some (.ref a2), some (.str (letters ks)), z5, z6] = [some (.ref a), some (.int dep), some (.int (c + 1 + q')), some (.ref a2), some (.str (letters ks)), z5', z6'] ∧ Same H' H3 ∧ RC (szP dep (ks.take (j + 1)) (ps.take (j + 1))) q' ∧ 0 ≤ q' := by
                              intro z5 z6 H3 ho s4
                              refine ⟨z5, z6, q, rfl, s3.trans s4, ?_, q0⟩
                              rw [zt, ho, oadd_zero']
                              exact hq
                            have LA := let_at hk1
                            have LL : (letters ks).length ≤ sizeLine := by rw [let_len]; exact Nat.le_of_lt (small1000 (by omega))
                            refine ⟨_, px, .inr (T s3), ?_, ?_⟩
                            · show atI (.str wd :: xs2) (1 + (j : Int)) = some px
                              rw [show (1 + (j : Int)) = ((j + 1 : Nat) : Int) by omega]
                              exact atI_nat (by simpa using hpx)
                            have C : ∀ {H3 : Hp} {Q' : VK} {σ' : L2.St}, True := trivial
                            rcases kk ks[j] (List.getElem_mem jk) with e1 | e1 | e1 | e1
                            all_goals rw [e1] at LA fin fin0 badp
                            · -- a name
                              have eo : one dep "name" ps[j] = if keyD ps[j] then some 0 else none := rfl
                              refine ⟨_, LL, LA, Gen.yes (by decide +kernel) ⟨tp'.th, ?_⟩⟩
                              rw [tp'.key]
                              cases hkey : keyD ps[j] with
                              | false => exact badp (by rw [eo, hkey]; rfl) H2 (Same.refl H2)
                              | true =>
                                refine ⟨_, LL, LA, Gen.no (by decide +kernel) ⟨_, LL, LA, Gen.no (by decide +kernel) ⟨_, LL, LA, Gen.no (by decide +kernel) ?_⟩⟩⟩
                                exact fin0 _ _ H2 (by rw [eo, hkey]; rfl) (Same.refl H2)
                            · -- pairs
                              have eo : one dep "pairs" ps[j] = if pairsD ps[j] then some 0 else none := rfl
                              refine ⟨_, LL, LA, Gen.no (by decide +kernel) ⟨_, LL, LA, Gen.no (by decide +kernel) ⟨_, LL, LA, Gen.yes (by decide +kernel) ⟨_, A, _, by omega, tp', fun H3 s4 => ?_⟩⟩⟩⟩
                              cases hkey : pairsD ps[j] with
                              | false => exact badp (by rw [eo, hkey]; rfl) H3 s4
                              | true =>
                                refine ⟨_, LL, LA, Gen.no (by decide +kernel) ?_⟩
                                exact fin0 _ _ H3 (by rw [eo, hkey]; rfl) s4
                            · -- an expression
                              have eo : one dep "expression" ps[j] = if expr 1 ps[j] then some 0 else none := rfl
                              refine ⟨_, LL, LA, Gen.no (by decide +kernel) ⟨_, LL, LA, Gen.yes (by decide +kernel) ⟨A, _, tp'.up (by omega), fun H3 s4 => ?_⟩⟩⟩
                              cases hkey : expr 1 ps[j] with
                              | false => exact badp (by rw [eo, hkey]; rfl) H3 s4
                              | true =>
                                refine ⟨_, LL, LA, Gen.no (by decide +kernel) ⟨_, LL, LA, Gen.no (by decide +kernel) ?_⟩⟩
                                exact fin0 _ _ H3 (by rw [eo, hkey]; rfl) s4
                            · -- a block
                              have eo : one dep "block" ps[j] = szB (dep + 1) ps[j] := rfl
                              refine ⟨_, LL, LA, Gen.no (by decide +kernel) ⟨_, LL, LA, Gen.no (by decide +kernel) ⟨_, LL, LA, Gen.no (by decide +kernel) ⟨_, LL, LA, Gen.yes (by decide +kernel) ?_⟩⟩⟩⟩
                              refine ⟨A, _, tp', fun cc H3 hcc s4 => ?_⟩
                              exact fin _ cc _ _ H3 eo hcc (hcc.pos fun s hs => szB_pos _ _ _ hs) s4
                          · obtain ⟨z5, z6, q, rfl, s3, hq, q0⟩ := p'
                            have t1 : ks.take ((ks.length : Nat) : Int).toNat = ks := List.take_of_length_le (by omega)
                            have t2 : ps.take ((ks.length : Nat) : Int).toNat = ps := List.take_of_length_le (by omega)
                            rw [t1, t2] at hq
                            refine ⟨_, _, _, _, c + 1 + q, rfl, s'.trans s3, ?_, by omega⟩
                            rw [szBs_take hdd, eS]
                            have h1 : RC (some 1) 1 := rfl
                            have := hc.add (h1.add hq (by omega) q0) c0 (by omega)
                            rw [show c + 1 + q = c + (1 + q) by omega]
                            exact this
                        · exact bad (by rw [szS_row hr2, if_neg (by omega)]) _ s2
              · obtain ⟨y3, y4, y5, y6, c, rfl, s', hc, c0⟩ := p'
                have e2 : ds.take xs.length = ds := List.take_of_length_le (by omega)
                rw [e2] at hc
                exact k c H' hc s'
end
end K3

namespace K3
open PySem PySem.Spec PyProof.Rows L2 CW K1
open VM
section
variable {P : Program} {w : World} {K : PySem.W.Frag} {mg : Str → Option Value} {base : Heap} {u1 u2 u3 u4 u5 u6 : Tok} {dE dS : Addr}
/-! ### _law_cell -/
abbrev s__law_cell : Stmt := topS 21
theorem sc__law_cell : FnScope ["script", "k"] ["script", "k"] (defScope s__law_cell) := ⟨rfl, rfl, rfl, by decide +kernel, rfl, by decide +kernel, by decide +kernel⟩
def sp__law_cell (K : PySem.W.Frag) : Sp := fun vs H Q _ => match vs with
  | [.ref a, .int k] => ∃ ns : List Int, SqL K H a (ns.map V.int) ∧ 0 ≤ k ∧ Q (.int (ns.getD k.toNat 0)) H
  | _ => False
theorem ok__law_cell {f : Addr} {fd : FuncData} (F : Fun K "_law_cell" "_law_cell" s__law_cell f fd) (G : Gs mg u1 u2 u3 u4 u5 u6 dE dS K w) : FnOk P w K mg base CX0 1 f fd ["script", "k"] (sp__law_cell K) := by
  refine F.ok sc__law_cell (fun vs H Q E h => ?_) (fun cdv A outer s H vs Q E hr h => ?_)
  · unfold sp__law_cell at h
    split at h
    · rfl
    · exact h.elim
  · unfold sp__law_cell at h
    split at h
    case h_2 => exact h.elim
    case h_1 a i =>
      obtain ⟨ns, hs, h0, k⟩ := h
      refine ⟨_, (pss_cons (s_if (t_cmp o_lt (c_var 1) (c_bi (b_len (K := K) rfl) G.n_len boot_len (pa_cons (c_var 0) pa_nil))) (pss_one (s_ret (c_ix (K := K) rfl (c_var 0) (c_var 1)))) pss_nil)
    (pss_one (s_ret pe_int))), ?_⟩
      refine .inl ⟨_, .inl hs, Gen.dec (fun h1 => ?_) (fun h1 => ?_)⟩
      · rw [List.length_map] at h1
        have h2 : i.toNat < ns.length := by omega
        have e : ns.getD i.toNat 0 = ns[i.toNat] := by
          rw [List.getD_eq_getElem?_getD, List.getElem?_eq_getElem h2]
          rfl
        rw [e] at k
        exact ⟨_, .int ns[i.toNat], .inl hs, at_nat h0 (by rw [List.getElem?_map, List.getElem?_eq_getElem h2]; rfl), k⟩
      · rw [List.length_map] at h1
        have e : ns.getD i.toNat 0 = 0 := by
          rw [List.getD_eq_getElem?_getD, List.getElem?_eq_none (by omega)]
          rfl
        rw [e] at k
        exact k
/-! ### _law_row -/
abbrev s__law_row : Stmt := topS 22
theorem sc__law_row : FnScope ["script", "first", "last", "row", "k", "cell", "turn"] ["script", "first", "last"] (defScope s__law_row) := ⟨rfl, rfl, rfl, by decide +kernel, rfl, by decide +kernel, by decide +kernel⟩
def sp__law_row (K : PySem.W.Frag) : Sp := fun vs H Q _ => match vs with
  | [.ref a, .int lo, .int hi] => ∃ ns : List Int, SqL K H a (ns.map V.int) ∧ 0 ≤ lo ∧ lo ≤ 63 ∧ (0 ≤ hi ∧ hi ≤ 63) ∧ ∀ (r : Addr) (row : List Int) (H' : Hp), Same H H' → H r = none → H' r = some (.lst (row.map V.int)) → Q (.ref r) H'
  | _ => False
theorem ok__law_row {f : Addr} {fd : FuncData} (F : Fun K "_law_row" "_law_row" s__law_row f fd) (G : Gs mg u1 u2 u3 u4 u5 u6 dE dS K w) (C__law_cell : Has P w K mg base 1 "_law_cell" ["script", "k"] (sp__law_cell K)) : FnOk P w K mg base CX0 2 f fd ["script", "first", "last"] (sp__law_row K) := by
  refine F.ok sc__law_row (fun vs H Q E h => ?_) (fun cdv A outer s H vs Q E hr h => ?_)
  · unfold sp__law_row at h
    split at h
    · rfl
    · exact h.elim
  · unfold sp__law_row at h
    split at h
    case h_2 => exact h.elim
    case h_1 a lo hi =>
      obtain ⟨ns, hs, l0, l1, l2, k⟩ := h
      refine ⟨_, (pss_cons (s_set 3 sc__law_row.nd (c_lst pa_nil))
    (pss_cons (s_forR2 4 (pa_cons (c_var 1) (pa_cons (c_var 2) pa_nil)) G.n_range sc__law_row.nd (pss_cons (s_set 5 sc__law_row.nd (c_call C__law_cell (hr.mono (by omega)) (pa_cons (c_var 0) (pa_cons (c_var 4) pa_nil))))
    (pss_cons (s_set 5 sc__law_row.nd (c_bin o_add (c_bi b_abs G.n_abs boot_abs (pa_cons (c_bin o_mul pe_int (c_var 5)) pa_nil)) (c_ty b_int G.n_int boot_int (pa_cons (c_cmp o_lt (c_var 5) pe_int) pa_nil))))
    (pss_one (s_if (t_cmp o_gt (c_var 5) (c_bin o_pow pe_int pe_int)) (pss_one (s_forR1 6 (pa_cons pe_int pa_nil) G.n_range sc__law_row.nd (pss_one (s_if (t_cmp o_gt (c_var 5) pe_int) (pss_cons (s_app (c_var 3) (c_bin o_mod (c_ty b_int G.n_int boot_int (pa_cons (c_var 5) pa_nil)) pe_int))
    (pss_one (s_set 5 sc__law_row.nd (c_bin o_fdiv (c_var 5) pe_int)))) pss_nil)))) (pss_one (s_forR1 6 (pa_cons pe_int pa_nil) G.n_range sc__law_row.nd (pss_cons (s_set 5 sc__law_row.nd (c_bin o_mod (c_ty b_int G.n_int boot_int (pa_cons (c_bin o_add (c_bin o_add (c_bin o_mul (c_var 5) pe_int) (c_bin o_mul pe_int (c_bin o_add (c_var 4) (c_var 6)))) pe_int) pa_nil)) pe_int))
    (pss_one (s_app (c_var 3) (c_bin o_mod (c_ty b_int G.n_int boot_int (pa_cons (c_bin o_fdiv (c_var 5) pe_int) pa_nil)) pe_int)))))))))))
    (pss_one (s_ret (c_var 3))))), ?_⟩
      refine ⟨by decide, fun r hr => ?_⟩
      have sr : Same H (upd H r (.lst [])) := same_upd hr
      refine ⟨by omega, fun i σ H' => ∃ (row : List Int) (vk vc vt : Option V), σ = [some (.ref a), some (.int lo), some (.int hi), some (.ref r), vk, vc, vt] ∧ Same H H' ∧ H' r = some (.lst (row.map V.int)) ∧ row.length ≤ 60 * i,
        ⟨[], none, none, none, rfl, sr, upd_same, Nat.le_refl _⟩, fun i σ H1 hi1 p => ?_, fun σ H1 p => ?_⟩
      · obtain ⟨row, vk, vc, vt, rfl, s1, e1, g1⟩ := p
        have ii : i < 63 := by omega
        refine ⟨ns, s1.seq hs, by omega, ?_⟩
        generalize ns.getD (lo + (i : Int)).toNat 0 = c
        refine ⟨.inl (by decide), ?_⟩
        refine Gen.sub ?_
        generalize hc : (if 2 * c < 0 then -(2 * c) else 2 * c) + (if decide (c < 0) = true then 1 else 0) = c1
        refine ⟨⟨by decide, by decide, by decide⟩, Gen.dec (fun _ => ?_) (fun _ => ?_)⟩
        · refine ⟨by decide, fun j σ H' => ∃ (row : List Int) (c2 : Int) (vt : Option V), σ = [some (.ref a), some (.int lo), some (.int hi), some (.ref r), some (.int (lo + (i : Int))), some (.int c2), vt] ∧ Same H H' ∧ H' r = some (.lst (row.map V.int)) ∧ row.length ≤ 60 * i + j,
            ⟨row, c1, vt, by rw [← hc]; rfl, s1, e1, by omega⟩, fun j σ H2 hj p => ?_, fun σ H2 p => ?_⟩
          · obtain ⟨row2, c2, vt2, rfl, s2, e2, g2⟩ := p
            have jj : j < 60 := by omega
            refine Gen.dec (fun _ => ?_) (fun _ => ?_)
            · refine ⟨_, e2, by decide, _, e2, len_lt g2 (by omega), ⟨by decide, by decide⟩, ?_⟩
              refine ⟨row2 ++ [c2 % 840], c2 / 840, _, rfl, same_upd2 s2 hr, ?_, ?_⟩
              · rw [upd_same, map_snoc]
              · rw [List.length_append, List.length_singleton]
                omega
            · exact ⟨_, _, _, rfl, s2, e2, by omega⟩
          · obtain ⟨row2, c2, vt2, rfl, s2, e2, g2⟩ := p
            have : (60 : Int).toNat = 60 := rfl
            exact ⟨row2, _, _, _, rfl, s2, e2, by rw [this] at g2; omega⟩
        · refine ⟨by decide, fun j σ H' => ∃ (row : List Int) (c2 : Int) (vt : Option V), σ = [some (.ref a), some (.int lo), some (.int hi), some (.ref r), some (.int (lo + (i : Int))), some (.int c2), vt] ∧ Same H H' ∧ H' r = some (.lst (row.map V.int)) ∧ row.length ≤ 60 * i + j,
            ⟨row, c1, vt, by rw [← hc]; rfl, s1, e1, by omega⟩, fun j σ H2 hj p => ?_, fun σ H2 p => ?_⟩
          · obtain ⟨row2, c2, vt2, rfl, s2, e2, g2⟩ := p
            have jj : j < 10 := by omega
            refine ⟨.inr (by decide), .inl (by decide), by decide, _, e2, ⟨by decide, by decide⟩, by decide, _, e2, len_lt g2 (by omega), ?_⟩
            refine ⟨row2 ++ [(c2 * 69069 + 104729 * (lo + (i : Int) + (j : Int)) + 1) % 4294967291 / 5003 % 840], _, _, rfl, same_upd2 s2 hr, ?_, ?_⟩
            · rw [upd_same, map_snoc]
            · rw [List.length_append, List.length_singleton]
              omega
          · obtain ⟨row2, c2, vt2, rfl, s2, e2, g2⟩ := p
            have : (10 : Int).toNat = 10 := rfl
            exact ⟨row2, _, _, _, rfl, s2, e2, by rw [this] at g2; omega⟩
      · obtain ⟨row, vk, vc, vt, rfl, s1, e1, g1⟩ := p
        exact k r row H1 s1 hr e1
/-! ### _law_draw -/
abbrev s__law_draw : Stmt := topS 23
theorem sc__law_draw : FnScope ["box", "many", "at"] ["box", "many"] (defScope s__law_draw) := ⟨rfl, rfl, rfl, by decide +kernel, rfl, by decide +kernel, by decide +kernel⟩
def sp__law_draw (K : PySem.W.Frag) : Sp := fun vs H Q _ => match vs with
  | [.ref b, .int m] => ∃ (r : Addr) (at' : Int) (row : List Int), BoxAt H b r at' row ∧ 0 < m ∧ ∀ d : Int, 0 ≤ d → d < m → Q (.int d) (upd H b (.lst [.ref r, .int (at' + 1)]))
  | _ => False
theorem ok__law_draw {f : Addr} {fd : FuncData} (F : Fun K "_law_draw" "_law_draw" s__law_draw f fd) (G : Gs mg u1 u2 u3 u4 u5 u6 dE dS K w) : FnOk P w K mg base CX0 1 f fd ["box", "many"] (sp__law_draw K) := by
  refine F.ok sc__law_draw (fun vs H Q E h => ?_) (fun cdv A outer s H vs Q E hr h => ?_)
  · unfold sp__law_draw at h
    split at h
    · rfl
    · exact h.elim
  · unfold sp__law_draw at h
    split at h
    case h_2 => exact h.elim
    case h_1 b m =>
      obtain ⟨r, at', row, ⟨e1, e2, h0, hn⟩, hm, k⟩ := h
      refine ⟨_, (pss_cons (s_set 2 sc__law_draw.nd (c_ix (K := K) rfl (c_var 0) pe_int))
    (pss_cons (s_setI (c_bin o_add (c_var 2) pe_int) (c_var 0) pe_int)
    (pss_cons (s_if (t_cmp o_lt (c_var 2) (c_bi (b_len (K := K) rfl) G.n_len boot_len (pa_cons (c_ix (K := K) rfl (c_var 0) pe_int) pa_nil))) (pss_one (s_ret (c_bin o_mod (c_ty b_int G.n_int boot_int (pa_cons (c_ix (K := K) rfl (c_ix (K := K) rfl (c_var 0) pe_int) (c_var 2)) pa_nil)) (c_var 1)))) pss_nil)
    (pss_one (s_ret (c_bin o_mod (c_ty b_int G.n_int boot_int (pa_cons (c_bin o_add (c_bin o_mul (c_var 2) pe_int) pe_int) pa_nil)) (c_var 1))))))), ?_⟩
      refine ⟨_, .int at', .inl (SqL.of e1), rfl, ?_⟩
      refine ⟨_, 1, e1, rfl, ?_⟩
      have e3 : (upd H b (.lst [.ref r, .int (at' + 1)])) r = some (.lst (row.map V.int)) := by
        rw [upd_ne hn]
        exact e2
      refine ⟨_, .ref r, .inl (SqL.of upd_same), rfl, .inl ⟨_, .inl (SqL.of e3), Gen.dec (fun h1 => ?_) (fun h1 => ?_)⟩⟩
      · rw [List.length_map] at h1
        have h2 : at'.toNat < row.length := by omega
        refine ⟨_, .ref r, .inl (SqL.of upd_same), rfl, ?_⟩
        refine ⟨_, .int row[at'.toNat], .inl (SqL.of e3), at_nat h0 (by rw [List.getElem?_map, List.getElem?_eq_getElem h2]; rfl), hm, ?_⟩
        exact k _ (Int.emod_nonneg _ (by omega)) (Int.emod_lt_of_pos _ hm)
      · exact ⟨.inr (by decide), hm, k _ (Int.emod_nonneg _ (by omega)) (Int.emod_lt_of_pos _ hm)⟩
/-! ### _law_value -/
abbrev s__law_value : Stmt := topS 24
theorem sc__law_value : FnScope ["box"] ["box"] (defScope s__law_value) := ⟨rfl, rfl, rfl, by decide +kernel, rfl, by decide +kernel, by decide +kernel⟩
def sp__law_value (K : PySem.W.Frag) : Sp := fun vs H Q _ => match vs with
  | [.ref b] => ∃ (r : Addr) (at' : Int) (row : List Int), BoxAt H b r at' row ∧ ∀ (v : V) (H' : Hp), Gv v → But b H H' → BoxAt H' b r (at' + 1) row → Q v H'
  | _ => False
theorem mul_x : Txt.mul "x" 39 = "xxxxxxxxxxxxxxxxxxxxxxxxxxxxxxxxxxxxxxx" := by decide +kernel
theorem mul_y : Txt.mul "y" 40 = "yyyyyyyyyyyyyyyyyyyyyyyyyyyyyyyyyyyyyyyy" := by decide +kernel
def menu : List V := [.non, .bl false, .bl true, .int 0, .int 1, .int 2, .int 3, .int 7, .int 999, .str "", .str "a", .str "b", .str "ab", .str "1", .str (Txt.mul "x" 39), .str (Txt.mul "y" 40)]
theorem menu_gv {x : V} (h : x ∈ menu) : Gv x := by
  simp only [menu, List.mem_cons, List.not_mem_nil, or_false] at h
  rcases h with rfl | rfl | rfl | rfl | rfl | rfl | rfl | rfl | rfl | rfl | rfl | rfl | rfl | rfl | rfl | rfl
  all_goals first
    | exact .non
    | exact .bl _
    | exact .int _ (by omega) (by omega)
    | exact .str _ (by decide)
    | exact .str _ (by rw [mul_x]; decide)
    | exact .str _ (by rw [mul_y]; decide)
theorem ok__law_value {f : Addr} {fd : FuncData} (F : Fun K "_law_value" "_law_value" s__law_value f fd) (G : Gs mg u1 u2 u3 u4 u5 u6 dE dS K w) (C__law_draw : Has P w K mg base 1 "_law_draw" ["box", "many"] (sp__law_draw K)) : FnOk P w K mg base CX0 2 f fd ["box"] (sp__law_value K) := by
  refine F.ok sc__law_value (fun vs H Q E h => ?_) (fun cdv A outer s H vs Q E hr h => ?_)
  · unfold sp__law_value at h
    split at h
    · rfl
    · exact h.elim
  · unfold sp__law_value at h
    split at h
    case h_2 => exact h.elim
    case h_1 b =>
      obtain ⟨r, at', row, ⟨e1, e2, h0, hn⟩, k⟩ := h
      refine ⟨_, (pss_one (s_ret (c_ix (K := K) rfl (c_lst (pa_cons pe_non (pa_cons pe_bl (pa_cons pe_bl (pa_cons pe_int (pa_cons pe_int (pa_cons pe_int (pa_cons pe_int (pa_cons pe_int (pa_cons pe_int (pa_cons pe_str (pa_cons pe_str (pa_cons pe_str (pa_cons pe_str (pa_cons pe_str (pa_cons (c_bin o_mul pe_str pe_int) (pa_cons (c_bin o_mul pe_str pe_int) pa_nil))))))))))))))))) (c_call C__law_draw (hr.mono (by omega)) (pa_cons (c_var 0) (pa_cons pe_int pa_nil)))))), ?_⟩
      refine ⟨small_mul (by decide) (by decide) (by decide), small_mul (by decide) (by decide) (by decide), by decide, fun p hp => ?_⟩
      have npb : b ≠ p := ne_of_none e1 hp
      have npr : r ≠ p := ne_of_none e2 hp
      refine ⟨r, at', row, ⟨by rw [upd_ne npb]; exact e1, by rw [upd_ne npr]; exact e2, h0, hn⟩, by decide, fun d d0 d1 => ?_⟩
      have h2 : d.toNat < menu.length := by
        have : menu.length = 16 := rfl
        omega
      have e5 : (upd (upd H p (.lst menu)) b (.lst [.ref r, .int (at' + 1)])) p = some (.lst menu) := by
        rw [upd_ne npb.symm, upd_same]
      refine ⟨menu, menu[d.toNat], .inl (SqL.of e5), at_nat d0 (List.getElem?_eq_getElem h2), k _ _ (menu_gv (List.getElem_mem h2)) ?_ ⟨upd_same, ?_, by omega, hn⟩⟩
      · intro c o nc ec
        rw [upd_ne nc, upd_ne (ne_of_none ec hp)]
        exact ec
      · rw [upd_ne hn, upd_ne npr]
        exact e2
/-! ### the drawn trees -/
/-- fresh since H -/
def Fr (H : Hp) : Addr → Prop := fun a => H a = none
/-- a drawn thing: its tree, all of its lists new, the box where it was -/
def Made (n : Nat) (H : Hp) (b r : Addr) (row : List Int) (Q : VK) : Prop := ∀ (x : V) (d : Da) (H' : Hp), Tr H' (Fr H) n x d → But b H H' → BoxR H' b r row → Q x H'
theorem Made.mono {n m : Nat} {H : Hp} {b r : Addr} {row : List Int} {Q : VK} (h : Made m H b r row Q) (l : n ≤ m) : Made n H b r row Q := fun x d H' t => h x d H' (t.up l)
theorem fr_of {H H' : Hp} {b r : Addr} {row : List Int} (s : But b H H') (B : BoxR H' b r row) : ∀ a, Fr H' a → Fr H a := fun a h => by
  cases hz : H a with
  | none => exact hz
  | some o =>
    by_cases e : a = b
    · subst e
      obtain ⟨_, B⟩ := B
      rw [Fr, B.1] at h
      cases h
    · rw [Fr, s a o e hz] at h
      cases h
theorem fr_ne {H : Hp} {b r : Addr} {row : List Int} (B : BoxR H b r row) {a : Addr} (h : Fr H a) : a ≠ b := fun e => by
  obtain ⟨_, B⟩ := B
  subst e
  rw [Fr, B.1] at h
  cases h
/-- a later drawn thing, seen from the start -/
theorem Made.from {n : Nat} {H H1 : Hp} {b r : Addr} {row : List Int} {Q : VK} (h : Made n H b r row Q) (s : But b H H1) (B : BoxR H1 b r row) : Made n H1 b r row Q := fun x d H' t s' B' => h x d H' (t.wide (fr_of s B)) (s.trans s') B'
/-- what was made before stands behind what is drawn next -/
theorem Tr.but' {H H' : Hp} {A : Addr → Prop} {b r : Addr} {row : List Int} {n : Nat} {x : V} {d : Da} (t : Tr H A n x d) (B : BoxR H b r row) (s : But b H H') (nb : ∀ a, A a → a ≠ b) : Tr H' A n x d := by
  obtain ⟨_, B⟩ := B
  exact Tr.but B.1 s nb (fun _ h => h) t
theorem same_box {H : Hp} {b r : Addr} {row : List Int} (B : BoxR H b r row) {p : Addr} {o : HO} (hp : H p = none) : BoxR (upd H p o) b r row := by
  obtain ⟨_, B⟩ := B
  exact ⟨_, B.but hp⟩
theorem pick_ok {H : Hp} {b r : Addr} {at' : Int} {row : List Int} (B : BoxAt H b r at' row) {menu : List V} {p : Addr} (hp : H p = none) {d : Int} (d0 : 0 ≤ d) (d1 : d < menu.length) :
    ∃ v, v ∈ menu ∧ atI menu d = some v ∧ (upd (upd H p (.lst menu)) b (.lst [.ref r, .int (at' + 1)])) p = some (.lst menu) ∧ But b H (upd (upd H p (.lst menu)) b (.lst [.ref r, .int (at' + 1)])) ∧ BoxR (upd (upd H p (.lst menu)) b (.lst [.ref r, .int (at' + 1)])) b r row := by
  have npb : p ≠ b := (ne_of_none B.1 hp).symm
  have h2 : d.toNat < menu.length := by omega
  refine ⟨menu[d.toNat], List.getElem_mem h2, at_nat d0 (List.getElem?_eq_getElem h2), by rw [upd_ne npb, upd_same], ?_, _, (B.but hp).next⟩
  exact (But.of (same_upd hp)).trans But.upd
/-! ### _law_some_name -/
abbrev s__law_some_name : Stmt := topS 37
theorem sc__law_some_name : FnScope ["box"] ["box"] (defScope s__law_some_name) := ⟨rfl, rfl, rfl, by decide +kernel, rfl, by decide +kernel, by decide +kernel⟩
def sp__law_some_name : Sp := fun vs H Q _ => match vs with
  | [.ref b] => ∃ r row, BoxR H b r row ∧ ∀ (x : V) (H' : Hp), Sb x → But b H H' → BoxR H' b r row → Q x H'
  | _ => False
def names1 : List V := [.str "", .str "A", .str "abcdefghi", .int 3, .non, .str "a1"]
def names2 : List V := [.str "a", .str "p", .str "node", .str "abcdefgh"]
theorem names1_sb {x : V} (h : x ∈ names1) : Sb x := by
  simp only [names1, List.mem_cons, List.not_mem_nil, or_false] at h
  rcases h with rfl | rfl | rfl | rfl | rfl | rfl
  all_goals first
    | exact .non
    | exact .int _
    | exact .str _ (by decide)
theorem names2_sb {x : V} (h : x ∈ names2) : Sb x := by
  simp only [names2, List.mem_cons, List.not_mem_nil, or_false] at h
  rcases h with rfl | rfl | rfl | rfl
  all_goals exact .str _ (by decide)
theorem ok__law_some_name {f : Addr} {fd : FuncData} (F : Fun K "_law_some_name" "_law_some_name" s__law_some_name f fd) (G : Gs mg u1 u2 u3 u4 u5 u6 dE dS K w) (C__law_draw : Has P w K mg base 1 "_law_draw" ["box", "many"] (sp__law_draw K)) : FnOk P w K mg base CX0 2 f fd ["box"] sp__law_some_name := by
  refine F.ok sc__law_some_name (fun vs H Q E h => ?_) (fun cdv A outer s H vs Q E hr h => ?_)
  · unfold sp__law_some_name at h
    split at h
    · rfl
    · exact h.elim
  · unfold sp__law_some_name at h
    split at h
    case h_2 => exact h.elim
    case h_1 b =>
      obtain ⟨r, row, ⟨at', B⟩, k⟩ := h
      refine ⟨_, (pss_cons (s_if (t_cmp o_eq (c_call C__law_draw (hr.mono (by omega)) (pa_cons (c_var 0) (pa_cons pe_int pa_nil))) pe_int) (pss_one (s_ret (c_ix (K := K) rfl (c_lst (pa_cons pe_str (pa_cons pe_str (pa_cons pe_str (pa_cons pe_int (pa_cons pe_non (pa_cons pe_str pa_nil))))))) (c_call C__law_draw (hr.mono (by omega)) (pa_cons (c_var 0) (pa_cons pe_int pa_nil)))))) pss_nil)
    (pss_one (s_ret (c_ix (K := K) rfl (c_lst (pa_cons pe_str (pa_cons pe_str (pa_cons pe_str (pa_cons pe_str pa_nil))))) (c_call C__law_draw (hr.mono (by omega)) (pa_cons (c_var 0) (pa_cons pe_int pa_nil))))))), ?_⟩
      refine ⟨r, at', row, B, by decide, fun kind k0 k1 => ?_⟩
      have B1 := B.next
      have b1 : But b H (upd H b (.lst [.ref r, .int (at' + 1)])) := But.upd
      generalize upd H b (.lst [.ref r, .int (at' + 1)]) = H1 at B1 b1
      refine Gen.dec (fun h3 => ?_) (fun h3 => ?_)
      · refine ⟨by show 6 ≤ sizeLine; decide, fun p hp => ?_⟩
        refine ⟨r, _, row, B1.but hp, by decide, fun d d0 d1 => ?_⟩
        obtain ⟨v, hv, ha, e, b2, B2⟩ := pick_ok (menu := names1) B1 hp d0 d1
        exact ⟨_, v, .inl (SqL.of e), ha, k v _ (names1_sb hv) (b1.trans b2) B2⟩
      · refine ⟨by show 4 ≤ sizeLine; decide, fun p hp => ?_⟩
        refine ⟨r, _, row, B1.but hp, by decide, fun d d0 d1 => ?_⟩
        obtain ⟨v, hv, ha, e, b2, B2⟩ := pick_ok (menu := names2) B1 hp d0 d1
        exact ⟨_, v, .inl (SqL.of e), ha, k v _ (names2_sb hv) (b1.trans b2) B2⟩
/-! ### _law_some_expr -/
abbrev s__law_some_expr : Stmt := topS 38
theorem sc__law_some_expr : FnScope ["box", "depth", "word"] ["box", "depth"] (defScope s__law_some_expr) := ⟨rfl, rfl, rfl, by decide +kernel, rfl, by decide +kernel, by decide +kernel⟩
def spE1 (m : Nat) : Sp := fun vs H Q _ => match vs with
  | [.ref b, .int dp] => dp ≤ m ∧ ∃ r row, BoxR H b r row ∧ Made (m + 4) H b r row Q
  | _ => False
def spE : Nat → Sp
  | 0 => fun _ _ _ _ => False
  | m + 1 => spE1 m
def words : List Str := ["value", "var", "read", "get", "has", "add", "join", "not", "use", "peek", "state", "size", "less"]
theorem word_short {x : Str} (h : x ∈ words) : x.length ≤ 100 := by
  simp only [words, List.mem_cons, List.not_mem_nil, or_false] at h
  rcases h with rfl | rfl | rfl | rfl | rfl | rfl | rfl | rfl | rfl | rfl | rfl | rfl | rfl <;> decide
theorem trS {H : Hp} {A : Addr → Prop} {n : Nat} {x : V} (s : Sb x) : Tr H A (n + 1) x (.v x) := ⟨rfl, s⟩
theorem trT {H : Hp} {A : Addr → Prop} {n : Nat} {a : Addr} {xs : List V} {ds : List Da} (h : H a = some (.tup xs)) (l : ds.length ≤ 100000) (p : Paired (Tr H A n) xs ds) : Tr H A (n + 1) (.ref a) (.tup ds) := ⟨l, a, xs, rfl, h, p⟩
theorem trL {H : Hp} {A : Addr → Prop} {n : Nat} {a : Addr} {xs : List V} {ds : List Da} (ha : A a) (h : H a = some (.lst xs)) (l : ds.length ≤ 100000) (p : Paired (Tr H A n) xs ds) : Tr H A (n + 1) (.ref a) (.lst ds) := ⟨l, a, xs, rfl, ha, h, p⟩
theorem sbS (x : String) (h : (Str.ofString x).length ≤ 100 := by decide) : Sb (.str (Str.ofString x)) := .str _ h
theorem ok__law_some_expr {f : Addr} {fd : FuncData} (F : Fun K "_law_some_expr" "_law_some_expr" s__law_some_expr f fd) (G : Gs mg u1 u2 u3 u4 u5 u6 dE dS K w) (mf : mg "_law_some_expr" = some (.ref f)) (bf : Binds K fd ["box", "depth"] []) (C__law_draw : Has P w K mg base 1 "_law_draw" ["box", "many"] (sp__law_draw K)) (C__law_value : Has P w K mg base 2 "_law_value" ["box"] (sp__law_value K)) (C__law_some_name : Has P w K mg base 2 "_law_some_name" ["box"] sp__law_some_name) :
    ∀ m : Nat, FnOk P w K mg base CX0 (m + 4) f fd ["box", "depth"] (spE m) := by
  intro m
  induction m with
  | zero => exact ⟨fun vs H Q E h => h.elim, fun A outer s H args us vs Q E hr he hb hv h => h.elim⟩
  | succ m ih =>
    have C__law_some_expr : Has P w K mg base (m + 4) "_law_some_expr" ["box", "depth"] (spE m) := ⟨f, fd, ih, mf, F.kp, bf⟩
    show FnOk P w K mg base CX0 (m + 1 + 4) f fd ["box", "depth"] (spE1 m)
    refine F.ok sc__law_some_expr (fun vs H Q E h => ?_) (fun cdv A outer s H vs Q E hr h => ?_)
    · unfold spE1 at h
      split at h
      · rfl
      · exact h.elim
    · unfold spE1 at h
      split at h
      case h_2 => exact h.elim
      case h_1 b dp =>
        obtain ⟨hdp, r, row, ⟨at', B⟩, k⟩ := h
        refine ⟨_, (pss_cons (s_if (t_cmp o_eq (c_call C__law_draw (hr.mono (by omega)) (pa_cons (c_var 0) (pa_cons pe_int pa_nil))) pe_int) (pss_one (s_ret (c_ix (K := K) rfl (c_lst (pa_cons (c_tup (pa_cons pe_str (pa_cons pe_int pa_nil))) (pa_cons (c_tup (pa_cons pe_str pa_nil)) (pa_cons (c_tup (pa_cons pe_str (pa_cons (c_tup (pa_cons pe_str (pa_cons pe_int pa_nil))) pa_nil))) (pa_cons pe_int (pa_cons (c_lst (pa_cons pe_str (pa_cons pe_str pa_nil))) (pa_cons (c_tup pa_nil) (pa_cons (c_tup (pa_cons pe_str pa_nil)) (pa_cons (c_tup (pa_cons pe_str (pa_cons (c_tup (pa_cons pe_str (pa_cons pe_int pa_nil))) pa_nil))) pa_nil))))))))) (c_call C__law_draw (hr.mono (by omega)) (pa_cons (c_var 0) (pa_cons pe_int pa_nil)))))) pss_nil)
    (pss_cons (s_set 2 sc__law_some_expr.nd (c_ix (K := K) rfl (c_lst (pa_cons pe_str (pa_cons pe_str (pa_cons pe_str (pa_cons pe_str (pa_cons pe_str (pa_cons pe_str (pa_cons pe_str (pa_cons pe_str (pa_cons pe_str (pa_cons pe_str (pa_cons pe_str (pa_cons pe_str (pa_cons pe_str pa_nil)))))))))))))) (c_call C__law_draw (hr.mono (by omega)) (pa_cons (c_var 0) (pa_cons pe_int pa_nil)))))
    (pss_cons (s_if (PW.pt (w_or (t_cmp o_le (c_var 1) pe_int) (w_or1 (t_cmp o_eq (c_var 2) pe_str)))) (pss_one (s_ret (c_tup (pa_cons pe_str (pa_cons (c_call C__law_value (hr.mono (by omega)) (pa_cons (c_var 0) pa_nil)) pa_nil))))) pss_nil)
    (pss_cons (s_if (t_cmp (o_inSeq (K := K) rfl) (c_var 2) (c_tup (pa_cons pe_str (pa_cons pe_str pa_nil)))) (pss_one (s_ret (c_tup (pa_cons (c_var 2) (pa_cons (c_call C__law_some_name (hr.mono (by omega)) (pa_cons (c_var 0) pa_nil)) (pa_cons (c_call C__law_some_expr (hr.mono (by omega)) (pa_cons (c_var 0) (pa_cons (c_bin o_sub (c_var 1) pe_int) pa_nil))) pa_nil)))))) pss_nil)
    (pss_cons (s_if (t_cmp (o_inSeq (K := K) rfl) (c_var 2) (c_tup (pa_cons pe_str (pa_cons pe_str (pa_cons pe_str pa_nil))))) (pss_one (s_ret (c_tup (pa_cons (c_var 2) (pa_cons (c_call C__law_some_expr (hr.mono (by omega)) (pa_cons (c_var 0) (pa_cons (c_bin o_sub (c_var 1) pe_int) pa_nil))) (pa_cons (c_call C__law_some_expr (hr.mono (by omega)) (pa_cons (c_var 0) (pa_cons (c_bin o_sub (c_var 1) pe_int) pa_nil))) pa_nil)))))) pss_nil)
    (pss_cons (s_if (t_cmp o_eq (c_var 2) pe_str) (pss_one (s_ret (c_tup (pa_cons (c_var 2) (pa_cons (c_call C__law_some_expr (hr.mono (by omega)) (pa_cons (c_var 0) (pa_cons (c_bin o_sub (c_var 1) pe_int) pa_nil))) pa_nil))))) pss_nil)
    (pss_one (s_ret (c_tup (pa_cons (c_var 2) (pa_cons (c_call C__law_some_name (hr.mono (by omega)) (pa_cons (c_var 0) pa_nil)) pa_nil))))))))))), ?_⟩
        refine ⟨r, at', row, B, by decide, fun kind k0 k1 => ?_⟩
        have B1 := B.next
        have b1 : But b H (upd H b (.lst [.ref r, .int (at' + 1)])) := But.upd
        generalize upd H b (.lst [.ref r, .int (at' + 1)]) = H1 at B1 b1
        have k1 := k.from b1 ⟨_, B1⟩
        clear k
        refine Gen.dec (fun h3 => ?_) (fun h3 => ?_)
        · -- something that is none
          refine ⟨by show 2 ≤ sizeLine; decide, fun p1 n1 => ⟨by show 1 ≤ sizeLine; decide, fun p2 n2 => ⟨by show 2 ≤ sizeLine; decide, fun p3 n3 => ⟨by show 2 ≤ sizeLine; decide, fun p4 n4 => ?_⟩⟩⟩⟩
          refine ⟨by show 2 ≤ sizeLine; decide, fun p5 n5 => ⟨by show 0 ≤ sizeLine; decide, fun p6 n6 => ⟨by show 1 ≤ sizeLine; decide, fun p7 n7 => ⟨by show 2 ≤ sizeLine; decide, fun p8 n8 => ⟨by show 2 ≤ sizeLine; decide, fun p9 n9 => ?_⟩⟩⟩⟩⟩
          refine ⟨by show 8 ≤ sizeLine; decide, fun p hp => ?_⟩
          have q1 := same_upd (o := .tup [.str "value", .int 1000]) n1
          have q2 := same_upd (o := .tup [.str "value"]) n2
          have q3 := same_upd (o := .tup [.str "value", .int 1]) n3
          have q4 := same_upd (o := .tup [.str "plus", .ref p3]) n4
          have q5 := same_upd (o := .lst [.str "var", .str "a"]) n5
          have q6 := same_upd (o := .tup []) n6
          have q7 := same_upd (o := .tup [.str "not"]) n7
          have q8 := same_upd (o := .tup [.str "value", .int 1]) n8
          have q9 := same_upd (o := .tup [.str "add", .ref p8]) n9
          have t9 := Same.refl (upd (upd (upd (upd (upd (upd (upd (upd (upd H1 p1 (.tup [.str "value", .int 1000])) p2 (.tup [.str "value"])) p3 (.tup [.str "value", .int 1])) p4 (.tup [.str "plus", .ref p3])) p5 (.lst [.str "var", .str "a"])) p6 (.tup [])) p7 (.tup [.str "not"])) p8 (.tup [.str "value", .int 1])) p9 (.tup [.str "add", .ref p8]))
          have t8 := q9.trans t9
          have t7 := q8.trans t8
          have t6 := q7.trans t7
          have t5 := q6.trans t6
          have t4 := q5.trans t5
          have t3 := q4.trans t4
          have t2 := q3.trans t3
          have t1 := q2.trans t2
          have t0 := q1.trans t1
          have e1 := t1 p1 _ upd_same
          have e2 := t2 p2 _ upd_same
          have e3 := t3 p3 _ upd_same
          have e4 := t4 p4 _ upd_same
          have e5 := t5 p5 _ upd_same
          have e6 := t6 p6 _ upd_same
          have e7 := t7 p7 _ upd_same
          have e8 := t8 p8 _ upd_same
          have e9 := t9 p9 _ upd_same
          have f5 : H1 p5 = none := by
            cases hz : H1 p5 with
            | none => rfl
            | some o =>
              have := (q1.trans (q2.trans (q3.trans q4))) _ _ hz
              rw [n5] at this
              cases this
          have B9 : BoxAt _ b r _ row := ⟨t0 _ _ B1.1, t0 _ _ B1.2.1, B1.2.2.1, B1.2.2.2⟩
          generalize upd (upd (upd (upd (upd (upd (upd (upd (upd H1 p1 (.tup [.str "value", .int 1000])) p2 (.tup [.str "value"])) p3 (.tup [.str "value", .int 1])) p4 (.tup [.str "plus", .ref p3])) p5 (.lst [.str "var", .str "a"])) p6 (.tup [])) p7 (.tup [.str "not"])) p8 (.tup [.str "value", .int 1])) p9 (.tup [.str "add", .ref p8]) = H9 at *
          clear q1 q2 q3 q4 q5 q6 q7 q8 q9 t1 t2 t3 t4 t5 t6 t7 t8 t9 n1 n2 n3 n4 n5 n6 n7 n8 n9
          refine ⟨r, _, row, B9.but hp, by decide, fun d d0 d1 => ?_⟩
          obtain ⟨v, hv, ha, e, b2, B2⟩ := pick_ok (menu := [.ref p1, .ref p2, .ref p4, .int 5, .ref p5, .ref p6, .ref p7, .ref p9]) B9 hp d0 d1
          refine ⟨_, v, .inl (SqL.of e), ha, ?_⟩
          have fin : ∀ (d : Da), Tr H9 (Fr H1) (m + 4) v d → _ := fun d t => k1 v d _ (Tr.but' t ⟨_, B9⟩ b2 fun a ha => fr_ne ⟨_, B1⟩ ha) ((But.of t0).trans b2) B2
          simp only [List.mem_cons, List.not_mem_nil, or_false] at hv
          rcases hv with rfl | rfl | rfl | rfl | rfl | rfl | rfl | rfl
          · exact fin _ (trT e1 (by show 2 ≤ _; decide) (.cons (trS (sbS "value")) (.cons (trS (.int 1000)) .nil)))
          · exact fin _ (trT e2 (by show 1 ≤ _; decide) (.cons (trS (sbS "value")) .nil))
          · exact fin _ (trT e4 (by show 2 ≤ _; decide) (.cons (trS (sbS "plus")) (.cons (trT e3 (by show 2 ≤ _; decide) (.cons (trS (sbS "value")) (.cons (trS (.int 1)) .nil))) .nil)))
          · exact fin _ (trS (.int 5))
          · exact fin _ (trL f5 e5 (by show 2 ≤ _; decide) (.cons (trS (sbS "var")) (.cons (trS (sbS "a")) .nil)))
          · exact fin _ (trT e6 (by show 0 ≤ _; decide) .nil)
          · exact fin _ (trT e7 (by show 1 ≤ _; decide) (.cons (trS (sbS "not")) .nil))
          · exact fin _ (trT e9 (by show 2 ≤ _; decide) (.cons (trS (sbS "add")) (.cons (trT e8 (by show 2 ≤ _; decide) (.cons (trS (sbS "value")) (.cons (trS (.int 1)) .nil))) .nil)))
        · -- word
          refine ⟨by show 13 ≤ sizeLine; decide, fun p hp => ?_⟩
          refine ⟨r, _, row, B1.but hp, by decide, fun d d0 d1 => ?_⟩
          obtain ⟨v, hv, ha, e, b2, B2⟩ := pick_ok (menu := words.map V.str) B1 hp d0 d1
          obtain ⟨wd, hw, rfl⟩ := List.mem_map.mp hv
          refine ⟨_, .str wd, .inl (SqL.of e), ha, ?_⟩
          have k2 := k1.from b2 B2
          have lw := word_short hw
          -- ("value", _law_value(box))
          have value : ∀ {H2 : Hp}, BoxR H2 b r row → Made (m + 4) H2 b r row Q → ∃ (r : Addr) (at' : Int) (row : List Int), BoxAt H2 b r at' row ∧ ∀ (v : V) (H3 : Hp), Gv v → But b H2 H3 → BoxAt H3 b r (at' + 1) row → ([V.str "value", v].length ≤ sizeLine ∧ ∀ q, H3 q = none → Q (.ref q) (upd H3 q (.tup [.str "value", v]))) := by
            intro H2 B2 k2
            obtain ⟨a2, B2⟩ := B2
            refine ⟨r, a2, row, B2, fun v H3 gv b3 B3 => ⟨by show 2 ≤ sizeLine; decide, fun q hq => ?_⟩⟩
            exact k2 (.ref q) (.tup [.v (.str "value"), .v v]) _ (trT upd_same (by show 2 ≤ _; decide) (.cons (trS (sbS "value")) (.cons (trS gv.sb) .nil))) (b3.trans (But.of (same_upd hq))) ⟨_, B3.but hq⟩
          refine Gen.dec (fun h4 => value B2 k2) (fun h4 => Gen.dec (fun h5 => value B2 k2) (fun h5 => ?_))
          cases m with
          | zero => exact absurd hdp (by omega)
          | succ m =>
            have nm : dp - 1 ≤ m := by omega
            refine ⟨by show 2 ≤ sizeLine; decide, fun q1 n1 => ⟨_, .inr (SqT.of upd_same), rfl, rfl, ?_⟩⟩
            have B3 := same_box (o := .tup ((["get", "has"] : List Str).map V.str)) B2 n1
            have k3 := k2.from (But.of (same_upd n1)) B3
            refine Gen.cases (fun h6 => ?_) (fun h6 => ?_)
            · -- (word, name, expression)
              refine ⟨r, row, B3, fun x H4 sx b4 B4 => ⟨nm, r, row, B4, fun y d H5 t b5 B5 => ⟨by show 3 ≤ sizeLine; decide, fun q hq => ?_⟩⟩⟩
              have t' := (t.same (same_upd (o := .tup [.str wd, x, y]) hq)).wide (fr_of b4 B4)
              exact k3 (.ref q) (.tup [.v (.str wd), .v x, d]) _ (trT upd_same (by show 3 ≤ _; decide) (.cons (trS (.str _ lw)) (.cons (trS sx) (.cons t' .nil)))) (b4.trans (b5.trans (But.of (same_upd hq)))) (same_box B5 hq)
            refine ⟨by show 3 ≤ sizeLine; decide, fun q2 n2 => ⟨_, .inr (SqT.of upd_same), rfl, rfl, ?_⟩⟩
            have B4 := same_box (o := .tup ((["add", "join", "less"] : List Str).map V.str)) B3 n2
            have k4 := k3.from (But.of (same_upd n2)) B4
            refine Gen.cases (fun h7 => ?_) (fun h7 => ?_)
            · -- (word, expression, expression)
              refine ⟨nm, r, row, B4, fun x d1 H5 t1 b5 B5 => ⟨nm, r, row, B5, fun y d2 H6 t2 b6 B6 => ⟨by show 3 ≤ sizeLine; decide, fun q hq => ?_⟩⟩⟩
              have s7 := same_upd (o := .tup [.str wd, x, y]) hq
              have t1' := (Tr.but' t1 B5 b6 fun a ha => fr_ne B4 ha).same s7
              have t2' := (t2.same s7).wide (fr_of b5 B5)
              exact k4 (.ref q) (.tup [.v (.str wd), d1, d2]) _ (trT upd_same (by show 3 ≤ _; decide) (.cons (trS (.str _ lw)) (.cons t1' (.cons t2' .nil)))) (b5.trans (b6.trans (But.of s7))) (same_box B6 hq)
            refine Gen.dec (fun h8 => ?_) (fun h8 => ?_)
            · refine ⟨nm, r, row, B4, fun x d1 H5 t1 b5 B5 => ⟨by show 2 ≤ sizeLine; decide, fun q hq => ?_⟩⟩
              have s7 := same_upd (o := .tup [.str wd, x]) hq
              exact k4 (.ref q) (.tup [.v (.str wd), d1]) _ (trT upd_same (by show 2 ≤ _; decide) (.cons (trS (.str _ lw)) (.cons (t1.same s7) .nil))) (b5.trans (But.of s7)) (same_box B5 hq)
            · refine ⟨r, row, B4, fun x H5 sx b5 B5 => ⟨by show 2 ≤ sizeLine; decide, fun q hq => ?_⟩⟩
              have s7 := same_upd (o := .tup [.str wd, x]) hq
              exact k4 (.ref q) (.tup [.v (.str wd), .v x]) _ (trT upd_same (by show 2 ≤ _; decide) (.cons (trS (.str _ lw)) (.cons (trS sx) .nil))) (b5.trans (But.of s7)) (same_box B5 hq)
end
end K3

namespace K3
open PySem PySem.Spec PyProof.Rows L2 CW K1
open VM
section
variable {P : Program} {w : World} {K : PySem.W.Frag} {mg : Str → Option Value} {base : Heap} {u1 u2 u3 u4 u5 u6 : Tok} {dE dS : Addr}
/-! ### _law_some_part -/
theorem Tr.app {H H4 : Hp} {A : Addr → Prop} {b r D : Addr} {row : List Int} {ys zs : List V} {n : Nat} {x : V} {d : Da} (t : Tr H A n x d) (B : BoxR H b r row) (s : But b H H4) (nb : ∀ a, A a → a ≠ b) (nD : ∀ a, A a → a ≠ D) (hD : H4 D = some (.lst ys)) :
    Tr (upd H4 D (.lst zs)) A n x d := Tr.keep (TK.updL hD) (fun a xs ha e => by rw [upd_ne (nD a ha)]; exact e) (fun _ h => h) (Tr.but' t B s nb)
theorem box_app {H : Hp} {b r D : Addr} {row : List Int} {zs : List V} (B : BoxR H b r row) (n1 : D ≠ b) (n2 : D ≠ r) : BoxR (upd H D (.lst zs)) b r row := by
  obtain ⟨a2, B⟩ := B
  exact ⟨a2, by rw [upd_ne n1.symm]; exact B.1, by rw [upd_ne n2.symm]; exact B.2.1, B.2.2.1, B.2.2.2⟩
theorem box_new {H : Hp} {b r D : Addr} {row : List Int} (B : BoxR H b r row) (h : H D = none) : D ≠ b ∧ D ≠ r := by
  obtain ⟨a2, B⟩ := B
  exact ⟨(ne_of_none B.1 h).symm, (ne_of_none B.2.1 h).symm⟩
theorem but_upd {H H' : Hp} {b D : Addr} {o : HO} (s : But b H H') (h : H D = none) : But b H (upd H' D o) := fun c x nc e => by
  rw [upd_ne (ne_of_none e h)]
  exact s c x nc e
theorem paired_app {α β : Type} {R : α → β → Prop} {xs us : List α} {ys vs : List β} (p : Paired R xs ys) (q : Paired R us vs) : Paired R (xs ++ us) (ys ++ vs) := by
  induction p with
  | nil => exact q
  | cons h _ ih => exact .cons h ih
abbrev s__law_some_part : Stmt := topS 39
theorem sc__law_some_part : FnScope ["box", "letter", "depth", "pairs", "k"] ["box", "letter", "depth"] (defScope s__law_some_part) := ⟨rfl, rfl, rfl, by decide +kernel, rfl, by decide +kernel, by decide +kernel⟩
def spP1 (m : Nat) : Sp := fun vs H Q _ => match vs with
  | [.ref b, .str l, .int dp] => dp ≤ m ∧ ∃ r row, BoxR H b r row ∧ Made (2 * m + 12) H b r row Q
  | _ => False
def spP : Nat → Sp
  | 0 => fun _ _ _ _ => False
  | m + 1 => spP1 m
def spB (m : Nat) : Sp := fun vs H Q _ => match vs with
  | [.ref b, .int dp] => dp + 1 ≤ m ∧ ∃ r row, BoxR H b r row ∧ Made (2 * m + 12) H b r row Q
  | _ => False
theorem ok__law_some_part {m : Nat} {f : Addr} {fd : FuncData} (F : Fun K "_law_some_part" "_law_some_part" s__law_some_part f fd) (G : Gs mg u1 u2 u3 u4 u5 u6 dE dS K w) (C__law_draw : Has P w K mg base 1 "_law_draw" ["box", "many"] (sp__law_draw K)) (C__law_some_name : Has P w K mg base 2 "_law_some_name" ["box"] sp__law_some_name) (C__law_some_expr : Has P w K mg base 11 "_law_some_expr" ["box", "depth"] (spE 7)) (C__law_some_block : Has P w K mg base (2 * m + 12) "_law_some_block" ["box", "depth"] (spB m)) :
    FnOk P w K mg base CX0 (2 * m + 13) f fd ["box", "letter", "depth"] (spP (m + 1)) := by
  show FnOk P w K mg base CX0 (2 * m + 13) f fd ["box", "letter", "depth"] (spP1 m)
  refine F.ok sc__law_some_part (fun vs H Q E h => ?_) (fun cdv A outer s H vs Q E hr h => ?_)
  · unfold spP1 at h
    split at h
    · rfl
    · exact h.elim
  · unfold spP1 at h
    split at h
    case h_2 => exact h.elim
    case h_1 b l dp =>
      obtain ⟨hdp, r, row, B, k⟩ := h
      refine ⟨_, (pss_cons (s_if (t_cmp o_eq (c_var 1) pe_str) (pss_one (s_ret (c_call C__law_some_name (hr.mono (by omega)) (pa_cons (c_var 0) pa_nil)))) pss_nil)
    (pss_cons (s_if (t_cmp o_eq (c_var 1) pe_str) (pss_one (s_ret (c_call C__law_some_expr (hr.mono (by omega)) (pa_cons (c_var 0) (pa_cons (c_ix (K := K) rfl (c_lst (pa_cons pe_int (pa_cons pe_int (pa_cons pe_int (pa_cons pe_int pa_nil))))) (c_call C__law_draw (hr.mono (by omega)) (pa_cons (c_var 0) (pa_cons pe_int pa_nil)))) pa_nil))))) pss_nil)
    (pss_cons (s_if (t_cmp o_eq (c_var 1) pe_str) (pss_cons (s_lcR 3 (pa_cons (c_call C__law_draw (hr.mono (by omega)) (pa_cons (c_var 0) (pa_cons pe_int pa_nil))) pa_nil) G.n_range sc__law_some_part.nd rfl (by show blkC ["box", "letter", "depth", "pairs", "k"] (defScope s__law_some_part) _ [("k", 4)] = true; decide +kernel) (fun _ _ _ _ _ => pg_name (i := 4) sc__law_some_part.nd rfl (Or.inl rfl)) (fun _ _ _ _ _ => pts_nil) (fun _ _ _ _ _ => (c_tup (pa_cons (c_call C__law_some_name (hr.mono (by omega)) (pa_cons (c_var 0) pa_nil)) (pa_cons (c_call C__law_some_expr (hr.mono (by omega)) (pa_cons (c_var 0) (pa_cons pe_int pa_nil))) pa_nil)))) (sw_true rfl rfl rfl (by decide +kernel)))
    (pss_one (s_ret (c_bin o_add (c_var 3) (c_bin (o_mulL) (c_ix (K := K) rfl (c_lst (pa_cons (c_lst (pa_cons (c_tup (pa_cons pe_str (pa_cons (c_tup (pa_cons pe_str (pa_cons pe_int pa_nil))) pa_nil))) (pa_cons (c_tup (pa_cons pe_str (pa_cons (c_tup (pa_cons pe_str (pa_cons pe_int pa_nil))) pa_nil))) pa_nil))) (pa_cons (c_lst pa_nil) (pa_cons (c_lst pa_nil) (pa_cons (c_lst pa_nil) (pa_cons (c_lst (pa_cons (c_tup (pa_cons pe_str (pa_cons pe_int pa_nil))) pa_nil)) pa_nil)))))) (c_call C__law_draw (hr.mono (by omega)) (pa_cons (c_var 0) (pa_cons pe_int pa_nil)))) (c_ty b_int G.n_int boot_int (pa_cons (c_cmp o_eq (c_call C__law_draw (hr.mono (by omega)) (pa_cons (c_var 0) (pa_cons pe_int pa_nil))) pe_int) pa_nil))))))) pss_nil)
    (pss_cons (s_if (t_cmp o_eq (c_call C__law_draw (hr.mono (by omega)) (pa_cons (c_var 0) (pa_cons pe_int pa_nil))) pe_int) (pss_one (s_ret (c_ix (K := K) rfl (c_lst (pa_cons (c_tup pa_nil) (pa_cons pe_non (pa_cons pe_str (pa_cons (c_tup (pa_cons (c_tup (pa_cons pe_str (pa_cons (c_tup (pa_cons pe_str (pa_cons pe_int pa_nil))) pa_nil))) pa_nil)) pa_nil))))) (c_call C__law_draw (hr.mono (by omega)) (pa_cons (c_var 0) (pa_cons pe_int pa_nil)))))) pss_nil)
    (pss_one (s_ret (c_call C__law_some_block (hr.mono (by omega)) (pa_cons (c_var 0) (pa_cons (c_bin o_sub (c_var 2) pe_int) pa_nil))))))))), ?_⟩
      refine Gen.dec (fun h1 => ?_) (fun h1 => Gen.dec (fun h2 => ?_) (fun h2 => Gen.dec (fun h3 => ?_) (fun h3 => ?_)))
      · -- a name
        exact ⟨r, row, B, fun x H' sx b1 B1 => k x (.v x) H' (trS sx) b1 B1⟩
      · -- an expression
        refine ⟨by show 4 ≤ sizeLine; decide, fun p hp => ?_⟩
        obtain ⟨a1, B1⟩ := B
        refine ⟨r, _, row, B1.but hp, by decide, fun d d0 d1 => ?_⟩
        obtain ⟨v, hv, ha, e, b2, B2⟩ := pick_ok (menu := [.int 1, .int 2, .int 3, .int 6]) B1 hp d0 d1
        refine ⟨_, v, .inl (SqL.of e), ha, ?_⟩
        have k2 := (k.from b2 B2).mono (show 10 ≤ 2 * m + 12 by omega)
        simp only [List.mem_cons, List.not_mem_nil, or_false] at hv
        rcases hv with rfl | rfl | rfl | rfl
        all_goals exact ⟨by decide, r, row, B2, k2⟩
      · -- pairs
        obtain ⟨a1, B1⟩ := B
        refine ⟨r, a1, row, B1, by decide, fun cnt c0 c1 => ⟨⟨by omega, by omega⟩, fun D hD => ?_⟩⟩
        have b1 : But b H (upd H b (.lst [.ref r, .int (a1 + 1)])) := But.upd
        have B1' : BoxR (upd H b (.lst [.ref r, .int (a1 + 1)])) b r row := ⟨_, B1.next⟩
        have k1 := k.from b1 B1'
        generalize upd H b (.lst [.ref r, .int (a1 + 1)]) = H1 at *
        obtain ⟨nDb, nDr⟩ := box_new B1' hD
        refine ⟨fun i H' => ∃ vals ds, BoxR H' b r row ∧ But b H1 H' ∧ H' D = some (.lst vals) ∧ vals.length ≤ i ∧ Paired (Tr H' (fun a => Fr H1 a ∧ a ≠ D) 11) vals ds, ⟨[], [], same_box B1' hD, But.of (same_upd hD), upd_same, Nat.le_refl _, .nil⟩, fun i H' hi p => ?_, fun H' p => ?_⟩
        · obtain ⟨vals, ds, B2, b2, eD, lv, tv⟩ := p
          have hi4 : i < 4 := by omega
          refine ⟨r, row, B2, fun x H3 sx b3 B3 => ⟨by decide, r, row, B3, fun y d H4 t b4 B4 => ⟨by show 2 ≤ sizeLine; decide, fun q hq => ?_⟩⟩⟩
          have b34 := b3.trans b4
          have eD4 : (upd H4 q (.tup [x, y])) D = some (.lst vals) := by
            have := b34 D _ nDb eD
            rw [upd_ne (ne_of_none this hq)]
            exact this
          have b5 : But b H' (upd H4 q (.tup [x, y])) := b34.trans (But.of (same_upd hq))
          have B5 := same_box (o := .tup [x, y]) B4 hq
          refine ⟨vals, eD4, small1000 (by omega), vals ++ [.ref q], ds ++ [.tup [.v x, d]], box_app B5 nDb nDr, but_upd (b2.trans b5) hD, upd_same, by rw [List.length_append, List.length_singleton]; omega, ?_⟩
          have nb : ∀ a, Fr H1 a ∧ a ≠ D → a ≠ b := fun a h => fr_ne B1' h.1
          refine paired_app (paired_mono (fun _ _ h => Tr.app h B2 b5 nb (fun a h => h.2) eD4) tv) (.cons ?_ .nil)
          have hD3 : ∀ a, Fr H3 a → Fr H1 a ∧ a ≠ D := fun a h => ⟨fr_of b2 B2 a (fr_of b3 B3 a h), fun e => by
            subst e
            have := b3 _ _ nDb eD
            rw [Fr, this] at h
            cases h⟩
          have t5 : Tr (upd H4 q (.tup [x, y])) (fun a => Fr H1 a ∧ a ≠ D) 10 y d := (t.same (same_upd hq)).wide hD3
          have tq : Tr (upd H4 q (.tup [x, y])) (fun a => Fr H1 a ∧ a ≠ D) 11 (.ref q) (.tup [.v x, d]) := trT upd_same (by show 2 ≤ _; decide) (.cons (trS sx) (.cons t5 .nil))
          exact Tr.app tq B5 (But.refl b _) nb (fun a h => h.2) eD4
        · obtain ⟨vals, ds, B2, b2, eD, lv, tv⟩ := p
          have lv3 : vals.length ≤ 3 := by omega
          clear lv
          have fb := fr_of b2 B2
          -- the five lists
          refine ⟨by show 2 ≤ sizeLine; decide, fun p1 n1 => ⟨by show 2 ≤ sizeLine; decide, fun p2 n2 => ⟨by show 2 ≤ sizeLine; decide, fun p3 n3 => ⟨by show 2 ≤ sizeLine; decide, fun p4 n4 => ⟨by show 2 ≤ sizeLine; decide, fun p5 n5 => ?_⟩⟩⟩⟩⟩
          refine ⟨by show 0 ≤ sizeLine; decide, fun p6 n6 => ⟨by show 0 ≤ sizeLine; decide, fun p7 n7 => ⟨by show 0 ≤ sizeLine; decide, fun p8 n8 => ⟨by show 2 ≤ sizeLine; decide, fun p9 n9 => ⟨by show 1 ≤ sizeLine; decide, fun p10 n10 => ⟨by show 5 ≤ sizeLine; decide, fun p hp => ?_⟩⟩⟩⟩⟩⟩
          have q1 := same_upd (o := .tup [.str "value", .int 1]) n1
          have q2 := same_upd (o := .tup [.str "zz", .ref p1]) n2
          have q3 := same_upd (o := .tup [.str "value", .int 2]) n3
          have q4 := same_upd (o := .tup [.str "zz", .ref p3]) n4
          have q5 := same_upd (o := .lst [.ref p2, .ref p4]) n5
          have q6 := same_upd (o := .lst []) n6
          have q7 := same_upd (o := .lst []) n7
          have q8 := same_upd (o := .lst []) n8
          have q9 := same_upd (o := .tup [.str "a", .int 1]) n9
          have q10 := same_upd (o := .lst [.ref p9]) n10
          have t9 := q10
          have t8 := q9.trans t9
          have t7 := q8.trans t8
          have t6 := q7.trans t7
          have t5 := q6.trans t6
          have t4 := q5.trans t5
          have t3 := q4.trans t4
          have t2 := q3.trans t3
          have t1 := q2.trans t2
          have t0 := q1.trans t1
          have e1 := t1 p1 _ upd_same
          have e2 := t2 p2 _ upd_same
          have e3 := t3 p3 _ upd_same
          have e4 := t4 p4 _ upd_same
          have e5 := t5 p5 _ upd_same
          have e6 := t6 p6 _ upd_same
          have e7 := t7 p7 _ upd_same
          have e8 := t8 p8 _ upd_same
          have e9 := t9 p9 _ upd_same
          have e10 : (upd (upd (upd (upd (upd (upd (upd (upd (upd (upd H' p1 (.tup [.str "value", .int 1])) p2 (.tup [.str "zz", .ref p1])) p3 (.tup [.str "value", .int 2])) p4 (.tup [.str "zz", .ref p3])) p5 (.lst [.ref p2, .ref p4])) p6 (.lst [])) p7 (.lst [])) p8 (.lst [])) p9 (.tup [.str "a", .int 1])) p10 (.lst [.ref p9])) p10 = some (.lst [.ref p9]) := upd_same
          obtain ⟨a2, B2⟩ := B2
          have B10 : BoxAt _ b r _ row := ⟨t0 _ _ B2.1, t0 _ _ B2.2.1, B2.2.2.1, B2.2.2.2⟩
          have eD10 := t0 _ _ eD
          have tv10 := paired_mono (fun _ _ h => Tr.same t0 h) tv
          generalize upd (upd (upd (upd (upd (upd (upd (upd (upd (upd H' p1 (.tup [.str "value", .int 1])) p2 (.tup [.str "zz", .ref p1])) p3 (.tup [.str "value", .int 2])) p4 (.tup [.str "zz", .ref p3])) p5 (.lst [.ref p2, .ref p4])) p6 (.lst [])) p7 (.lst [])) p8 (.lst [])) p9 (.tup [.str "a", .int 1])) p10 (.lst [.ref p9]) = H10 at *
          clear q1 q2 q3 q4 q5 q6 q7 q8 q9 q10 t1 t2 t3 t4 t5 t6 t7 t8 t9 n1 n2 n3 n4 n5 n6 n7 n8 n9 n10
          refine ⟨r, _, row, B10.but hp, by decide, fun d d0 d1 => ?_⟩
          obtain ⟨v, hv, ha, e, b3, B3⟩ := pick_ok (menu := [.ref p5, .ref p6, .ref p7, .ref p8, .ref p10]) B10 hp d0 d1
          refine ⟨_, v, .inl (SqL.of e), ha, ?_⟩
          have nb : ∀ a, Fr H1 a ∧ a ≠ D → a ≠ b := fun a h => fr_ne B1' h.1
          have K3 : ∀ {xs : List V} {q : Addr}, H10 q = some (.lst xs) → q ≠ b → (upd (upd H10 p (.lst [.ref p5, .ref p6, .ref p7, .ref p8, .ref p10])) b (.lst [.ref r, .int (a2 + 1)])) q = some (.lst xs) := fun h n => b3 _ _ n h
          have TK3 : TK H10 _ := TK.but B10.1 b3
          have tv11 := paired_mono (fun _ _ h => Tr.but' h ⟨_, B10⟩ b3 nb) tv10
          -- what is picked
          have pick : ∃ (q : Addr) (zs : List V) (es : List Da), v = .ref q ∧ q ≠ b ∧ H10 q = some (.lst zs) ∧ zs.length ≤ 2 ∧ Paired (Tr H10 (Fr H1) 11) zs es := by
            have ne : ∀ {q : Addr} {xs : List V}, H10 q = some (.lst xs) → xs ≠ [.ref r, .int a2] → q ≠ b := fun h hx e => by
              subst e
              rw [B10.1] at h
              cases h
              exact hx rfl
            have pz : ∀ {q q' : Addr} {x : String} {i : Int}, H10 q = some (.tup [.str "value", .int i]) → H10 q' = some (.tup [.str x, .ref q]) → (Str.ofString x).length ≤ 100 → Tr H10 (Fr H1) 11 (.ref q') (.tup [.v (.str x), .tup [.v (.str "value"), .v (.int i)]]) := fun h h' hx =>
              trT h' (by show 2 ≤ _; decide) (.cons (trS (.str _ hx)) (.cons (trT h (by show 2 ≤ _; decide) (.cons (trS (sbS "value")) (.cons (trS (.int _)) .nil))) .nil))
            simp only [List.mem_cons, List.not_mem_nil, or_false] at hv
            rcases hv with rfl | rfl | rfl | rfl | rfl
            · exact ⟨p5, _, _, rfl, ne e5 (by simp), e5, by show 2 ≤ 2; decide, .cons (pz e1 e2 (by decide)) (.cons (pz e3 e4 (by decide)) .nil)⟩
            · exact ⟨p6, _, _, rfl, ne e6 (by simp), e6, by show 0 ≤ 2; decide, .nil⟩
            · exact ⟨p7, _, _, rfl, ne e7 (by simp), e7, by show 0 ≤ 2; decide, .nil⟩
            · exact ⟨p8, _, _, rfl, ne e8 (by simp), e8, by show 0 ≤ 2; decide, .nil⟩
            · exact ⟨p10, _, _, rfl, ne e10 (by simp), e10, by show 1 ≤ 2; decide, .cons (trT e9 (by show 2 ≤ _; decide) (.cons (trS (sbS "a")) (.cons (trS (.int 1)) .nil))) .nil⟩
          obtain ⟨q, zs, es, rfl, nqb, eq, lz, tz⟩ := pick
          have tz11 := paired_mono (fun _ _ h => Tr.but' h ⟨_, B10⟩ b3 (fun a h => fr_ne B1' h)) tz
          have eq11 := K3 eq nqb
          have eD11 := K3 eD10 nDb
          generalize upd (upd H10 p (.lst [.ref p5, .ref p6, .ref p7, .ref p8, .ref p10])) b (.lst [.ref r, .int (a2 + 1)]) = H11 at *
          obtain ⟨a3, B3⟩ := B3
          refine ⟨r, a3, row, B3, by decide, fun d2 _ _ => Gen.sub ?_⟩
          have b4 : But b H11 (upd H11 b (.lst [.ref r, .int (a3 + 1)])) := But.upd
          have B4 := B3.next
          have eq12 := b4 q _ nqb eq11
          have eD12 := b4 D _ nDb eD11
          have tv12 := paired_mono (fun _ _ h => Tr.but' h ⟨_, B3⟩ b4 nb) tv11
          have tz12 := paired_mono (fun _ _ h => Tr.but' h ⟨_, B3⟩ b4 (fun a h => fr_ne B1' h)) tz11
          have bb : But b H1 (upd H11 b (.lst [.ref r, .int (a3 + 1)])) := b2.trans ((But.of t0).trans (b3.trans b4))
          generalize upd H11 b (.lst [.ref r, .int (a3 + 1)]) = H12 at *
          have done : ∀ (zs : List V) (es : List Da), zs.length ≤ 2 → Paired (Tr H12 (Fr H1) 11) zs es → ∀ q', H12 q' = none → ∃ xs ys, (upd H12 q' (.lst zs)) D = some (.lst xs) ∧ (upd H12 q' (.lst zs)) q' = some (.lst ys) ∧ xs.length + ys.length ≤ sizeLine ∧ ∀ p, (upd H12 q' (.lst zs)) p = none → Q (.ref p) (upd (upd H12 q' (.lst zs)) p (.lst (xs ++ ys))) := by
            intro zs es lz tz q' hq'
            have s1 : Same H12 (upd H12 q' (.lst zs)) := same_upd hq'
            refine ⟨vals, zs, s1 _ _ eD12, upd_same, Nat.le_of_lt (small1000 (by omega)), fun p hp => ?_⟩
            have s2 : Same H12 (upd (upd H12 q' (.lst zs)) p (.lst (vals ++ zs))) := s1.trans (same_upd hp)
            have hpr : Fr H1 p := by
              have h0 : H12 p = none := by
                cases hz : H12 p with
                | none => rfl
                | some o =>
                  have := s1 _ _ hz
                  rw [hp] at this
                  cases this
              exact fr_of bb ⟨_, B4⟩ p h0
            have tt : Paired (Tr (upd (upd H12 q' (.lst zs)) p (.lst (vals ++ zs))) (Fr H1) 11) (vals ++ zs) (ds ++ es) := paired_app (paired_mono (fun _ _ h => (h.same s2).wide fun a h => h.1) tv12) (paired_mono (fun _ _ h => h.same s2) tz)
            have ll := Paired.length tt
            refine k1 _ (.lst (ds ++ es)) _ (Tr.up (trL hpr upd_same ?_ tt) (by omega)) (bb.trans (But.of s2)) (same_box (same_box ⟨_, B4⟩ hq') hp)
            rw [← ll, List.length_append]
            omega
          have hrep : ∀ (n : Nat), n ≤ 1 → ∃ zs' es', (List.replicate n zs).flatten = zs' ∧ zs'.length ≤ 2 ∧ Paired (Tr H12 (Fr H1) 11) zs' es' := by
            intro n hn
            cases n with
            | zero => exact ⟨[], [], rfl, by decide, .nil⟩
            | succ n =>
              have : n = 0 := by omega
              subst this
              exact ⟨zs, es, by simp, lz, tz12⟩
          have go : ∀ kk : Int, 0 ≤ kk → kk ≤ 1 → ∃ xs, H12 q = some (.lst xs) ∧ -(2 ^ 63) ≤ kk ∧ kk < 2 ^ 63 ∧ xs.length * kk.toNat ≤ sizeLine ∧ ∀ p, H12 p = none → ∃ xs' ys, (upd H12 p (.lst (List.replicate kk.toNat xs).flatten)) D = some (.lst xs') ∧ (upd H12 p (.lst (List.replicate kk.toNat xs).flatten)) p = some (.lst ys) ∧ xs'.length + ys.length ≤ sizeLine ∧
              ∀ p2, (upd H12 p (.lst (List.replicate kk.toNat xs).flatten)) p2 = none → Q (.ref p2) (upd (upd H12 p (.lst (List.replicate kk.toNat xs).flatten)) p2 (.lst (xs' ++ ys))) := by
            intro kk g0 g1
            obtain ⟨zs', es', ez, lz', tz'⟩ := hrep kk.toNat (by omega)
            refine ⟨zs, eq12, by omega, by omega, ?_, fun p hp => ?_⟩
            · have : zs.length * kk.toNat ≤ 2 * 1 := Nat.mul_le_mul lz (by omega)
              exact Nat.le_of_lt (small1000 (by omega))
            · rw [ez]
              exact done zs' es' lz' tz' p hp
          cases decide (d2 = 0)
          · exact go 0 (by decide) (by decide)
          · exact go 1 (by decide) (by decide)
      · obtain ⟨a1, B1⟩ := B
        refine ⟨r, a1, row, B1, by decide, fun d d0 d1 => ?_⟩
        have b1 : But b H (upd H b (.lst [.ref r, .int (a1 + 1)])) := But.upd
        have B1' : BoxAt (upd H b (.lst [.ref r, .int (a1 + 1)])) b r (a1 + 1) row := B1.next
        have k1 := k.from b1 ⟨_, B1'⟩
        generalize upd H b (.lst [.ref r, .int (a1 + 1)]) = H1 at *
        refine Gen.dec (fun h4 => ?_) (fun h4 => ?_)
        · -- something that is no block
          refine ⟨by show 0 ≤ sizeLine; decide, fun p1 n1 => ⟨by show 2 ≤ sizeLine; decide, fun p2 n2 => ⟨by show 2 ≤ sizeLine; decide, fun p3 n3 => ⟨by show 1 ≤ sizeLine; decide, fun p4 n4 => ⟨by show 4 ≤ sizeLine; decide, fun p hp => ?_⟩⟩⟩⟩⟩
          have q1 := same_upd (o := .tup []) n1
          have q2 := same_upd (o := .tup [.str "value", .int 1]) n2
          have q3 := same_upd (o := .tup [.str "emit", .ref p2]) n3
          have q4 := same_upd (o := .tup [.ref p3]) n4
          have t3 := q4
          have t2 := q3.trans t3
          have t1 := q2.trans t2
          have t0 := q1.trans t1
          have e1 := t1 p1 _ upd_same
          have e2 := t2 p2 _ upd_same
          have e3 := t3 p3 _ upd_same
          have e4 : (upd (upd (upd (upd H1 p1 (.tup [])) p2 (.tup [.str "value", .int 1])) p3 (.tup [.str "emit", .ref p2])) p4 (.tup [.ref p3])) p4 = some (.tup [.ref p3]) := upd_same
          have B4 : BoxAt _ b r _ row := ⟨t0 _ _ B1'.1, t0 _ _ B1'.2.1, B1'.2.2.1, B1'.2.2.2⟩
          generalize upd (upd (upd (upd H1 p1 (.tup [])) p2 (.tup [.str "value", .int 1])) p3 (.tup [.str "emit", .ref p2])) p4 (.tup [.ref p3]) = H4 at *
          refine ⟨r, _, row, B4.but hp, by decide, fun d d0 d1 => ?_⟩
          obtain ⟨v, hv, ha, e, b2, B2⟩ := pick_ok (menu := [.ref p1, .non, .str "x", .ref p4]) B4 hp d0 d1
          refine ⟨_, v, .inl (SqL.of e), ha, ?_⟩
          have fin : ∀ (d : Da), Tr H4 (Fr H1) (2 * m + 12) v d → _ := fun d t => k1 v d _ (Tr.but' t ⟨_, B4⟩ b2 fun a ha => fr_ne ⟨_, B1'⟩ ha) ((But.of t0).trans b2) B2
          simp only [List.mem_cons, List.not_mem_nil, or_false] at hv
          rcases hv with rfl | rfl | rfl | rfl
          · exact fin _ (trT e1 (by show 0 ≤ _; decide) .nil)
          · exact fin _ (trS .non)
          · exact fin _ (trS (sbS "x"))
          · exact fin _ (trT e4 (by show 1 ≤ _; decide) (.cons (trT e3 (by show 2 ≤ _; decide) (.cons (trS (sbS "emit")) (.cons (trT e2 (by show 2 ≤ _; decide) (.cons (trS (sbS "value")) (.cons (trS (.int 1)) .nil))) .nil))) .nil))
        · exact ⟨by omega, r, row, ⟨_, B1'⟩, k1⟩
end
end K3

namespace K3
open PySem PySem.Spec PyProof.Rows L2 CW K1
open VM
section
variable {P : Program} {w : World} {K : PySem.W.Frag} {mg : Str → Option Value} {base : Heap} {u1 u2 u3 u4 u5 u6 : Tok} {dE dS : Addr}
/-! ### _law_some_block -/
abbrev s__law_some_block : Stmt := topS 40
theorem sc__law_some_block : FnScope ["box", "depth", "out", "k", "word", "st", "letter"] ["box", "depth"] (defScope s__law_some_block) := ⟨rfl, rfl, rfl, by decide +kernel, rfl, by decide +kernel, by decide +kernel⟩
def AO (H : Hp) (O : Addr) : Addr → Prop := fun a => Fr H a ∧ a ≠ O
/-- what stands between two statements of the block -/
def BI (H : Hp) (b r O : Addr) (row : List Int) (dp : Int) (N i : Nat) (σ : L2.St) (H' : Hp) : Prop := ∃ (y3 y4 y5 y6 : Option V) (vals : List V) (ds : List Da), σ = [some (.ref b), some (.int dp), some (.ref O), y3, y4, y5, y6] ∧ BoxR H' b r row ∧ But b H H' ∧ H' O = some (.lst vals) ∧ vals.length ≤ i ∧ Paired (Tr H' (AO H O) N) vals ds
theorem ao_ne {H : Hp} {b r O : Addr} {row : List Int} (B : BoxR H b r row) : ∀ a, AO H O a → a ≠ b := fun a h => fr_ne B h.1
theorem blk_fin {H H' : Hp} {b r O : Addr} {row : List Int} {dp : Int} {N i : Nat} {y3 y4 y6 : Option V} {vals : List V} {ds : List Da} {v : V} {d : Da} (hO : H O = none) (B0 : BoxR H b r row) (nOb : O ≠ b) (nOr : O ≠ r) (B : BoxR H' b r row) (s : But b H H') (eO : H' O = some (.lst vals)) (lv : vals.length ≤ i) (tv : Paired (Tr H' (AO H O) N) vals ds) (t : Tr H' (AO H O) N v d) :
    BI H b r O row dp N (i + 1) [some (.ref b), some (.int dp), some (.ref O), y3, y4, some v, y6] (upd H' O (.lst (vals ++ [v]))) :=
  ⟨y3, y4, some v, y6, vals ++ [v], ds ++ [d], rfl, box_app B nOb nOr, but_upd s hO, upd_same, by rw [List.length_append, List.length_singleton]; omega,
    paired_app (paired_mono (fun _ _ h => Tr.app h B (But.refl b H') (ao_ne B0) (fun a h => h.2) eO) tv) (.cons (Tr.app t B (But.refl b H') (ao_ne B0) (fun a h => h.2) eO) .nil)⟩
theorem sRow_some {w : Str} {ks : List Str} (h : (w, ks) ∈ sRows) : rowAt sRows w = some ks ∧ w.length ≤ 100 ∧ ks ≠ [] ∧ ks.length ≤ 4 := by
  have e : ∀ p ∈ sRows, rowAt sRows p.1 = some p.2 ∧ p.1.length ≤ 100 ∧ p.2 ≠ [] ∧ p.2.length ≤ 4 := by decide +kernel
  exact e _ h
theorem cutEnd (x : V) (xs : List V) : cutV (x :: xs) none (some (-1)) = (x :: xs).take xs.length := by
  show ((x :: xs).drop 0).take ((-1 + ((xs.length + 1 : Nat) : Int)).toNat - 0) = _
  have : (-1 + ((xs.length + 1 : Nat) : Int)).toNat - 0 = xs.length := by omega
  rw [this, List.drop_zero]
theorem not_whole' (x : V) (xs : List V) : ¬ (HT.sIx (x :: xs).length 0 none = 0 ∧ HT.sIx (x :: xs).length (x :: xs).length (some (-1)) = (x :: xs).length) := by
  intro h
  have h1 : (-1 + ((xs.length + 1 : Nat) : Int)).toNat = xs.length + 1 := h.2
  omega
theorem paired_take {α β : Type} {R : α → β → Prop} {xs : List α} {ys : List β} (p : Paired R xs ys) : ∀ n, Paired R (xs.take n) (ys.take n) := by
  induction p with
  | nil => intro n; cases n <;> exact .nil
  | cons h _ ih =>
    intro n
    cases n with
    | zero => exact .nil
    | succ n => exact .cons h (ih n)
theorem ok__law_some_block {m : Nat} {f : Addr} {fd : FuncData} (F : Fun K "_law_some_block" "_law_some_block" s__law_some_block f fd) (G : Gs mg u1 u2 u3 u4 u5 u6 dE dS K w) (C__law_draw : Has P w K mg base 1 "_law_draw" ["box", "many"] (sp__law_draw K)) (C__law_forms : Has P w K mg base 1 "_law_forms" [] sp__law_forms) (C__law_some_part : Has P w K mg base (2 * m + 11) "_law_some_part" ["box", "letter", "depth"] (spP m)) :
    FnOk P w K mg base CX0 (2 * m + 12) f fd ["box", "depth"] (spB m) := by
  refine F.ok sc__law_some_block (fun vs H Q E h => ?_) (fun cdv A outer s H vs Q E hr h => ?_)
  · unfold spB at h
    split at h
    · rfl
    · exact h.elim
  · unfold spB at h
    split at h
    case h_2 => exact h.elim
    case h_1 b dp =>
      obtain ⟨hdp, r, row, B, k⟩ := h
      refine ⟨_, (pss_cons (s_set 2 sc__law_some_block.nd (c_lst pa_nil))
    (pss_cons (s_if (t_cmp o_lt (c_var 1) pe_int) (pss_one (s_ret (c_var 2))) pss_nil)
    (pss_cons (s_forR1 3 (pa_cons (c_call C__law_draw (hr.mono (by omega)) (pa_cons (c_var 0) (pa_cons (c_ix (K := K) rfl (c_lst (pa_cons pe_int (pa_cons pe_int (pa_cons pe_int (pa_cons pe_int pa_nil))))) (c_call C__law_draw (hr.mono (by omega)) (pa_cons (c_var 0) (pa_cons pe_int pa_nil)))) pa_nil))) pa_nil) G.n_range sc__law_some_block.nd (pss_cons (s_set 4 sc__law_some_block.nd (c_ix (K := K) rfl (c_ty (b_listD rfl) G.n_list boot_list (pa_cons (c_call0 C__law_forms (hr.mono (by omega))) pa_nil)) (c_call C__law_draw (hr.mono (by omega)) (pa_cons (c_var 0) (pa_cons pe_int pa_nil)))))
    (pss_cons (s_set 5 sc__law_some_block.nd (c_tup (pa_cons (c_var 4) pa_nil)))
    (pss_cons (s_forS 6 (c_dget hr.units1 (c_call0 C__law_forms (hr.mono (by omega))) (c_var 4)) sc__law_some_block.nd (pss_one (s_set 5 sc__law_some_block.nd (c_bin (o_addT (K := K) rfl) (c_var 5) (c_tup (pa_cons (c_call C__law_some_part (hr.mono (by omega)) (pa_cons (c_var 0) (pa_cons (c_var 6) (pa_cons (c_var 1) pa_nil)))) pa_nil))))))
    (pss_cons (s_if (t_cmp o_eq (c_call C__law_draw (hr.mono (by omega)) (pa_cons (c_var 0) (pa_cons pe_int pa_nil))) pe_int) (pss_one (s_set 5 sc__law_some_block.nd (c_ix (K := K) rfl (c_lst (pa_cons (c_sl (K := K) rfl (c_var 5) o_none (o_some (c_neg pe_int))) (pa_cons (c_bin (o_addT (K := K) rfl) (c_var 5) (c_tup (pa_cons pe_int pa_nil))) (pa_cons (c_ty (b_listOf (K := K) rfl) G.n_list boot_list (pa_cons (c_var 5) pa_nil)) (pa_cons (c_bin (o_addT (K := K) rfl) (c_tup (pa_cons pe_str pa_nil)) (c_sl (K := K) rfl (c_var 5) (o_some pe_int) o_none)) pa_nil))))) (c_call C__law_draw (hr.mono (by omega)) (pa_cons (c_var 0) (pa_cons pe_int pa_nil)))))) pss_nil)
    (pss_one (s_app (c_var 2) (c_var 5))))))))
    (pss_one (s_ret (c_var 2)))))), ?_⟩
      refine ⟨by show 0 ≤ sizeLine; decide, fun O hO => ?_⟩
      obtain ⟨nOb, nOr⟩ := box_new B hO
      have sO := same_upd (o := .lst []) hO
      refine Gen.dec (fun h0 => ?_) (fun h0 => ?_)
      · exact k (.ref O) (.lst []) _ (trL hO upd_same (by show 0 ≤ _; decide) .nil) (But.of sO) (same_box B hO)
      cases m with
      | zero => exact absurd hdp (by omega)
      | succ m =>
        have hdm : dp ≤ m := by omega
        -- how many
        refine ⟨by show 4 ≤ sizeLine; decide, fun p hp => ?_⟩
        obtain ⟨a1, B1⟩ := same_box (o := .lst []) B hO
        refine ⟨r, _, row, B1.but hp, by decide, fun d d0 d1 => ?_⟩
        obtain ⟨v, hv, ha, e, b2, ⟨a2, B2⟩⟩ := pick_ok (menu := [.int 3, .int 3, .int 4, .int 2]) B1 hp d0 d1
        refine ⟨_, v, .inl (SqL.of e), ha, ?_⟩
        have hv' : ∃ mx : Int, v = .int mx ∧ 2 ≤ mx ∧ mx ≤ 4 := by
          simp only [List.mem_cons, List.not_mem_nil, or_false] at hv
          rcases hv with rfl | rfl | rfl | rfl
          all_goals exact ⟨_, rfl, by decide, by decide⟩
        obtain ⟨mx, rfl, m2, m4⟩ := hv'
        have eO2 := b2 O _ nOb upd_same
        refine ⟨r, a2, row, B2, by omega, fun cnt c0 c1 => ⟨⟨by omega, by omega⟩, BI H b r O row dp (2 * m + 13), ?_, fun i σ H' hi p => ?_, fun σ H' p => ?_⟩⟩
        · exact ⟨none, none, none, none, [], [], rfl, ⟨_, B2.next⟩, (But.of sO).trans (b2.trans But.upd), by rw [upd_ne nOb]; exact eO2, Nat.le_refl _, .nil⟩
        · obtain ⟨y3, y4, y5, y6, vals, ds, rfl, B3, b3, eO3, lv, tv⟩ := p
          have i4 : i < 4 := by omega
          -- word = list(_law_forms())[_law_draw(box, 22)]
          intro f1 f2 more n1 n2 nf
          have s1 : Same H' (upd (upd H' f2 more) f1 (.dK sForms)) := same_upd2 (same_upd n2) n1
          obtain ⟨a3, B3⟩ := B3
          have B4 : BoxAt (upd (upd H' f2 more) f1 (.dK sForms)) b r a3 row := ⟨s1 _ _ B3.1, s1 _ _ B3.2.1, B3.2.2.1, B3.2.2.2⟩
          refine ⟨sForms, upd_same, fun q hq => ?_⟩
          generalize upd (upd H' f2 more) f1 (.dK sForms) = H4 at *
          refine ⟨r, _, row, B4.but hq, by decide, fun wd w0 w1 => ?_⟩
          have hl22 : (sForms.map fun kv => kV kv.1).length = 22 := by decide +kernel
          obtain ⟨vw, hvw, haw, ew, b5, B5⟩ := pick_ok (menu := sForms.map fun kv => kV kv.1) B4 hq w0 (by rw [hl22]; exact w1)
          obtain ⟨kv, hkv, rfl⟩ := List.mem_map.mp hvw
          obtain ⟨⟨wo, ks⟩, hrow, rfl⟩ := List.mem_map.mp hkv
          obtain ⟨hr2, lw, kne, lk⟩ := sRow_some hrow
          refine ⟨_, .str wo, .inl (SqL.of ew), haw, ?_⟩
          have b35 : But b H' _ := (But.of s1).trans b5
          have bH5 := b3.trans b35
          have eO5 := b35 O _ nOb eO3
          have tv5 := paired_mono (fun _ _ h => Tr.but' h ⟨_, B3⟩ b35 (ao_ne B)) tv
          -- st = (word,)
          refine ⟨by show 1 ≤ sizeLine; decide, fun st hst => ?_⟩
          have s6 := same_upd (o := .tup [.str wo]) hst
          -- for letter in _law_forms()[word]
          intro f3 f4 more2 n3 n4 nf2
          have s7 := s6.trans (same_upd2 (same_upd n4) n3 : Same _ (upd (upd _ f4 more2) f3 (.dK sForms)))
          have vf' : valV sForms (.inr wo) = some (.str (letters ks)) := by
            have := val_forms wo sRows
            rw [hr2] at this
            exact this
          refine ⟨sForms, .str (letters ks), .inl upd_same, vf', ?_⟩
          have est : (upd (upd (upd _ st (.tup [.str wo])) f4 more2) f3 (.dK sForms)) st = some (.tup [.str wo]) := (same_upd2 (same_upd n4) n3) _ _ upd_same
          refine ⟨fun j σ H8 => ∃ (y6 : Option V) (st : Addr) (xs : List V) (es : List Da), σ = [some (.ref b), some (.int dp), some (.ref O), some (.int (i : Int)), some (.str wo), some (.ref st), y6] ∧ BoxR H8 b r row ∧ But b H H8 ∧ H8 O = some (.lst vals) ∧ Paired (Tr H8 (AO H O) (2 * m + 13)) vals ds ∧ H8 st = some (.tup xs) ∧ Paired (Tr H8 (AO H O) (2 * m + 12)) xs es ∧ xs.length = j + 1,
            ⟨y6, st, [.str wo], [.v (.str wo)], rfl, ?_, bH5.trans (But.of s7), s7 _ _ eO5, paired_mono (fun _ _ h => h.same s7) tv5, est, .cons (trS (.str _ lw)) .nil, rfl⟩, fun j c σ H8 hc p8 => ?_, fun σ H8 p8 => ?_⟩
          · obtain ⟨a5, B5⟩ := B5
            exact ⟨a5, s7 _ _ B5.1, s7 _ _ B5.2.1, B5.2.2.1, B5.2.2.2⟩
          · obtain ⟨z6, st, xs, es, rfl, B8, b8, eO8, tv8, est8, tx8, lx8⟩ := p8
            refine ⟨hdm, r, row, B8, ?_⟩
            intro x d H9 t b9 B9
            refine ⟨by show 1 ≤ sizeLine; decide, fun p1 h1 => ?_⟩
            have nst : st ≠ b := fun e => by
              obtain ⟨_, B8⟩ := B8
              subst e
              rw [B8.1] at est8
              cases est8
            have s10 := same_upd (o := .tup [x]) h1
            have jl : j < 4 := by
              have : (letters ks).cps.size = ks.length := let_len ks
              have h2 : j < (letters ks).cps.size := (Array.getElem?_eq_some_iff.mp hc).1
              omega
            refine ⟨xs, [x], SqT.of (s10 _ _ (b9 _ _ nst est8)), SqT.of upd_same, Nat.le_of_lt (small1000 (by rw [List.length_singleton]; omega)), fun z => by rw [z] at lx8; simp at lx8, fun _ z => (by cases z), fun _ _ p2 h2 => ?_⟩
            have s11 := s10.trans (same_upd (o := .tup (xs ++ [x])) h2)
            have b11 := b9.trans (But.of s11)
            have tnew : Tr _ (AO H O) (2 * m + 12) x d := (t.same s11).wide fun a ha => ⟨fr_of b8 B8 a ha, fun e => by
              subst e
              rw [Fr, eO8] at ha
              cases ha⟩
            refine ⟨_, p2, xs ++ [x], es ++ [d], rfl, same_box (same_box B9 h1) h2, b8.trans b11, b11 _ _ nOb eO8, paired_mono (fun _ _ h => Tr.but' h B8 b11 (ao_ne B)) tv8, upd_same, paired_app (paired_mono (fun _ _ h => Tr.but' h B8 b11 (ao_ne B)) tx8) (.cons tnew .nil), by rw [List.length_append, List.length_singleton, lx8]⟩
          · obtain ⟨z6, st, xs, es, rfl, B8, b8, eO8, tv8, est8, tx8, lx8⟩ := p8
            have lks : xs.length = ks.length + 1 := by rw [lx8]; exact congrArg (· + 1) (let_len ks)
            obtain ⟨a8, B8⟩ := B8
            refine ⟨r, a8, row, B8, by decide, fun odd o0 o1 => ?_⟩
            have b9 : But b H8 (upd H8 b (.lst [.ref r, .int (a8 + 1)])) := But.upd
            have B9 : BoxAt (upd H8 b (.lst [.ref r, .int (a8 + 1)])) b r (a8 + 1) row := B8.next
            have nst : st ≠ b := fun e => by
              subst e
              rw [B8.1] at est8
              cases est8
            have eO9 := b9 O _ nOb eO8
            have est9 := b9 st _ nst est8
            have tv9 := paired_mono (fun _ _ h => Tr.but' h ⟨_, B8⟩ b9 (ao_ne B)) tv8
            have tx9 := paired_mono (fun _ _ h => Tr.but' h ⟨_, B8⟩ b9 (ao_ne B)) tx8
            have bH9 := b8.trans b9
            generalize upd H8 b (.lst [.ref r, .int (a8 + 1)]) = H9 at *
            have lxd := Paired.length tx9
            refine Gen.dec (fun ho => ?_) (fun ho => ?_)
            · -- something that is no statement
              cases tx9 with
              | nil => simp at lks
              | @cons x0 d0 xs' es' tx0 txs =>
                have kpos : 0 < ks.length := List.length_pos_iff.mpr kne
                have lxs' : xs'.length = ks.length := by simpa using lks
                have xne : xs' ≠ [] := fun z => by rw [z] at lxs'; simp at lxs'; omega
                have tx9 : Paired (Tr H9 (AO H O) (2 * m + 12)) (x0 :: xs') (d0 :: es') := .cons tx0 txs
                refine .inl ⟨_, SqT.of est9, fun hq => absurd hq (not_whole' _ _), fun _ p1 n1 => ?_⟩
                rw [cutEnd]
                have q1 := same_upd (o := .tup ((x0 :: xs').take xs'.length)) n1
                refine ⟨by show 1 ≤ sizeLine; decide, fun p2 n2 => ⟨_, [.int 1], SqT.of ((q1.trans (same_upd n2)) _ _ est9), SqT.of upd_same, Nat.le_of_lt (small1000 (by simp only [List.length_cons, List.length_nil]; omega)), fun z => (by cases z), fun _ z => (by cases z), fun _ _ p3 n3 => ?_⟩⟩
                have q2 := same_upd (o := .tup [.int 1]) n2
                have q3 := same_upd (o := .tup (x0 :: xs' ++ [.int 1])) n3
                refine ⟨_, .inr (SqT.of ((q1.trans (q2.trans q3)) _ _ est9)), fun p4 n4 => ?_⟩
                have q4 := same_upd (o := .lst (x0 :: xs')) n4
                refine ⟨by show 1 ≤ sizeLine; decide, fun p5 n5 => ?_⟩
                have q5 := same_upd (o := .tup [.str "nothing"]) n5
                refine .inl ⟨_, SqT.of ((q1.trans (q2.trans (q3.trans (q4.trans q5)))) _ _ est9), fun hq => absurd hq (not_whole _ _), fun _ p6 n6 => ?_⟩
                rw [cut1]
                have q6 := same_upd (o := .tup xs') n6
                refine ⟨_, _, SqT.of (q6 _ _ upd_same), SqT.of upd_same, Nat.le_of_lt (small1000 (by simp only [List.length_cons, List.length_nil]; omega)), fun z => (by cases z), fun _ z => absurd z xne, fun _ _ p7 n7 => ?_⟩
                have q7 := same_upd (o := .tup ([V.str "nothing"] ++ xs')) n7
                refine ⟨by show 4 ≤ sizeLine; decide, fun p hp => ?_⟩
                have t7 := q7
                have t4 := q5.trans (q6.trans t7)
                have t3 := q4.trans t4
                have t1 := q2.trans (q3.trans t3)
                have t0 := q1.trans t1
                have e1 := t1 p1 _ upd_same
                have e3 := t3 p3 _ upd_same
                have e4 := t4 p4 _ upd_same
                have e7 : (upd (upd (upd (upd (upd (upd (upd H9 p1 (.tup ((x0 :: xs').take xs'.length))) p2 (.tup [.int 1])) p3 (.tup (x0 :: xs' ++ [.int 1]))) p4 (.lst (x0 :: xs'))) p5 (.tup [.str "nothing"])) p6 (.tup xs')) p7 (.tup ([V.str "nothing"] ++ xs'))) p7 = some (.tup ([V.str "nothing"] ++ xs')) := upd_same
                have f4 : AO H O p4 := by
                  have h9 : H9 p4 = none := by
                    cases hz : H9 p4 with
                    | none => rfl
                    | some o =>
                      have := (q1.trans (q2.trans q3)) _ _ hz
                      rw [n4] at this
                      cases this
                  exact ⟨fr_of bH9 ⟨_, B9⟩ p4 h9, fun z => by
                    subst z
                    rw [eO9] at h9
                    cases h9⟩
                have B10 : BoxAt _ b r _ row := ⟨t0 _ _ B9.1, t0 _ _ B9.2.1, B9.2.2.1, B9.2.2.2⟩
                have eO10 := t0 _ _ eO9
                have tv10 := paired_mono (fun _ _ h => Tr.same t0 h) tv9
                have tx10 := paired_mono (fun _ _ h => Tr.same t0 h) tx9
                generalize upd (upd (upd (upd (upd (upd (upd H9 p1 (.tup ((x0 :: xs').take xs'.length))) p2 (.tup [.int 1])) p3 (.tup (x0 :: xs' ++ [.int 1]))) p4 (.lst (x0 :: xs'))) p5 (.tup [.str "nothing"])) p6 (.tup xs')) p7 (.tup ([V.str "nothing"] ++ xs')) = H10 at *
                refine ⟨r, _, row, B10.but hp, by decide, fun c c0 c1 => ?_⟩
                obtain ⟨v, hv, ha, e, b3, B3⟩ := pick_ok (menu := [.ref p1, .ref p3, .ref p4, .ref p7]) B10 hp c0 c1
                refine ⟨_, v, .inl (SqL.of e), ha, ?_⟩
                have hd : ∃ d, Tr H10 (AO H O) (2 * m + 13) v d := by
                  have le5 : es'.length ≤ 4 := by
                    have := Paired.length txs
                    omega
                  simp only [List.mem_cons, List.not_mem_nil, or_false] at hv
                  rcases hv with rfl | rfl | rfl | rfl
                  · exact ⟨_, trT e1 (by rw [List.length_take, List.length_cons]; omega) (paired_take tx10 _)⟩
                  · exact ⟨_, trT e3 (by rw [List.length_append, List.length_cons, List.length_singleton]; omega) (paired_app tx10 (.cons (trS (.int 1)) .nil))⟩
                  · exact ⟨_, trL f4 e4 (by rw [List.length_cons]; omega) tx10⟩
                  · cases tx10 with
                    | cons _ tt => exact ⟨_, trT e7 (by rw [List.length_cons]; omega) (.cons (trS (sbS "nothing")) tt)⟩
                obtain ⟨d, td⟩ := hd
                have eO11 := b3 O _ nOb eO10
                refine ⟨_, eO11, _, eO11, small1000 (by omega), ?_⟩
                exact blk_fin hO B nOb nOr B3 (bH9.trans ((But.of t0).trans b3)) eO11 lv (paired_mono (fun _ _ h => Tr.but' h ⟨_, B10⟩ b3 (ao_ne B)) tv10) (Tr.but' td ⟨_, B10⟩ b3 (ao_ne B))
            · refine ⟨_, eO9, _, eO9, small1000 (by omega), ?_⟩
              exact blk_fin hO B nOb nOr ⟨_, B9⟩ bH9 eO9 lv tv9 (trT est9 (by omega) tx9)
        · obtain ⟨y3, y4, y5, y6, vals, ds, rfl, B3, b3, eO3, lv, tv⟩ := p
          refine k (.ref O) (.lst ds) H' (trL hO eO3 ?_ (paired_mono (fun _ _ h => h.wide fun a h => h.1) tv)) b3 B3
          have := Paired.length tv
          omega
end
end K3

namespace K3
open PySem PySem.Spec PyProof.Rows L2 CW K1
open VM
section
variable {P : Program} {w : World} {K : PySem.W.Frag} {mg : Str → Option Value} {base : Heap} {u1 u2 u3 u4 u5 u6 : Tok} {dE dS : Addr}
/-! ### law -/
abbrev s_law : Stmt := topS 41
theorem sc_law : FnScope ["script", "box", "turn", "program", "told", "deep", "k", "many", "long", "pairs", "thing"] ["script"] (defScope s_law) := ⟨rfl, rfl, rfl, by decide +kernel, rfl, by decide +kernel, by decide +kernel⟩
def sp_law (K : PySem.W.Frag) : Sp := fun vs H Q _ => match vs with
  | [.ref a] => ∃ ns : List Int, SqL K H a (ns.map V.int) ∧ ∀ H', Q (.bl true) H'
  | _ => False
theorem ok_count {d : Da} {c : Int} (h : RC (szB 1 d) c) : okD d = decide (c ≤ 200) := by
  unfold okD
  cases hs : szB 1 d with
  | none =>
    rw [hs] at h
    simp only [RC] at h
    exact (decide_eq_false (by omega)).symm
  | some s =>
    rw [hs] at h
    simp only [RC] at h
    rw [h]
def emitD : Da := .tup [.v (.str "emit"), .tup [.v (.str "value"), .v (.int 1)]]
def longD (n : Nat) : Da := .lst [.tup [.v (.str "effect"), .v (.str "a"), .lst (List.replicate n emitD)], .tup [.v (.str "scope"), .v (.str "b")], .tup [.v (.str "scope"), .v (.str "c")]]
theorem emit_sz : szS 2 emitD = some 1 := by decide +kernel
theorem rep_sz : ∀ n : Nat, szBs 2 (List.replicate n emitD) = some (n : Int)
  | 0 => szBs_nil 2
  | n + 1 => by
    rw [List.replicate_succ, szBs_cons, emit_sz, rep_sz n]
    show some ((1 : Int) + (n : Int)) = _
    rw [show (1 : Int) + (n : Int) = ((n + 1 : Nat) : Int) by omega]
theorem long_ok (n : Nat) (h : 0 < n) : okD (longD n) = decide ((n : Int) + 3 ≤ 200) := by
  have e1 : szB 2 (.lst (List.replicate n emitD)) = some (n : Int) := by
    show (if (List.replicate n emitD).isEmpty = true then some 0 else if (5 : Int) < 2 then none else szBs 2 (List.replicate n emitD)) = _
    rw [if_neg (by cases n with | zero => omega | succ n => simp [List.replicate_succ]), if_neg (by decide), rep_sz]
  have e2 : szS 1 (.tup [.v (.str "effect"), .v (.str "a"), .lst (List.replicate n emitD)]) = some (1 + (n : Int)) := by
    rw [szS_row (show rowAt sRows "effect" = some (["name", "block"] : List Str) by decide +kernel)]
    show (if (2 : Nat) = 2 then _ else _) = _
    rw [if_pos rfl, szP_cons, szP_cons, szP_nil]
    have e3 : one 1 "name" (.v (.str "a")) = some 0 := by decide +kernel
    have e4 : one 1 "block" (.lst (List.replicate n emitD)) = szB 2 (.lst (List.replicate n emitD)) := rfl
    rw [e3, e4, e1]
    show some (1 + (0 + ((n : Int) + 0))) = _
    rw [show (1 + (0 + ((n : Int) + 0))) = 1 + (n : Int) by omega]
  have e5 : szS 1 (.tup [.v (.str "scope"), .v (.str "b")]) = some 1 := by decide +kernel
  have e6 : szS 1 (.tup [.v (.str "scope"), .v (.str "c")]) = some 1 := by decide +kernel
  have e7 : szB 1 (longD n) = some ((n : Int) + 3) := by
    show szBs 1 [_, _, _] = _
    rw [szBs_cons, szBs_cons, szBs_cons, szBs_nil, e2, e5, e6]
    show some (1 + (n : Int) + (1 + (1 + 0))) = _
    rw [show (1 + (n : Int) + (1 + (1 + 0))) = (n : Int) + 3 by omega]
  unfold okD
  rw [e7]
theorem flat_rep {α : Type} (x : α) : ∀ n : Nat, (List.replicate n [x]).flatten = List.replicate n x
  | 0 => rfl
  | n + 1 => by
    rw [List.replicate_succ, List.flatten_cons, flat_rep x n]
    rfl
theorem paired_rep {α β : Type} {R : α → β → Prop} {x : α} {y : β} (h : R x y) : ∀ n : Nat, Paired R (List.replicate n x) (List.replicate n y)
  | 0 => .nil
  | n + 1 => .cons h (paired_rep h n)
theorem box_same {H H' : Hp} {b r : Addr} {row : List Int} (B : BoxR H b r row) (s : Same H H') : BoxR H' b r row := by
  obtain ⟨a2, B⟩ := B
  exact ⟨a2, s _ _ B.1, s _ _ B.2.1, B.2.2.1, B.2.2.2⟩
theorem alpha {k : Nat} (h : k < 9) : atI ("abcdefghi" : Str).cps.toList (k : Int) = some (97 + k) := by
  refine atI_nat ?_
  have e : ("abcdefghi" : Str).cps.toList = [97, 98, 99, 100, 101, 102, 103, 104, 105] := by decide +kernel
  rw [e]
  have : k = 0 ∨ k = 1 ∨ k = 2 ∨ k = 3 ∨ k = 4 ∨ k = 5 ∨ k = 6 ∨ k = 7 ∨ k = 8 := by omega
  rcases this with rfl | rfl | rfl | rfl | rfl | rfl | rfl | rfl | rfl <;> rfl
def AT : Addr → Prop := fun _ => True
def pairD (k : Nat) : Da := .tup [.v (.str ⟨#[97 + k]⟩), .tup [.v (.str "value"), .v (.int k)]]
def storeD (n : Nat) : Da := .lst [.tup [.v (.str "store"), .v (.str "a"), .lst ((List.range n).map pairD)]]
theorem store_ok {n : Nat} (h1 : 6 ≤ n) (h2 : n ≤ 9) : okD (storeD n) = decide (n ≤ 8) := by
  have : n = 6 ∨ n = 7 ∨ n = 8 ∨ n = 9 := by omega
  rcases this with rfl | rfl | rfl | rfl <;> decide +kernel
theorem ok_law {f : Addr} {fd : FuncData} (F : Fun K "law" "law" s_law f fd) (G : Gs mg u1 u2 u3 u4 u5 u6 dE dS K w) (C__law_row : Has P w K mg base 2 "_law_row" ["script", "first", "last"] (sp__law_row K)) (C__law_draw : Has P w K mg base 1 "_law_draw" ["box", "many"] (sp__law_draw K)) (C_is_program : Has P w K mg base 170 "is_program" ["thing"] (sp_is_program 50)) (C__law_count : Has P w K mg base 119 "_law_count" ["block", "depth"] (sp__law_count 56)) (C__law_some_block : Has P w K mg base 28 "_law_some_block" ["box", "depth"] (spB 8)) : FnOk P w K mg base CX0 171 f fd ["script"] (sp_law K) := by
  refine F.ok sc_law (fun vs H Q E h => ?_) (fun cdv A outer s H vs Q E hr h => ?_)
  · unfold sp_law at h
    split at h
    · rfl
    · exact h.elim
  · unfold sp_law at h
    split at h
    case h_2 => exact h.elim
    case h_1 a =>
      obtain ⟨ns, hs, k⟩ := h
      refine ⟨_, (pss_cons (s_set 1 sc_law.nd (c_lst (pa_cons (c_call C__law_row (hr.mono (by omega)) (pa_cons (c_var 0) (pa_cons pe_int (pa_cons pe_int pa_nil)))) (pa_cons pe_int pa_nil))))
    (pss_cons (s_forR1 2 (pa_cons pe_int pa_nil) G.n_range sc_law.nd (pss_cons (s_set 3 sc_law.nd (c_call C__law_some_block (hr.mono (by omega)) (pa_cons (c_var 1) (pa_cons (c_ix (K := K) rfl (c_lst (pa_cons pe_int (pa_cons pe_int (pa_cons pe_int (pa_cons pe_int pa_nil))))) (c_call C__law_draw (hr.mono (by omega)) (pa_cons (c_var 1) (pa_cons pe_int pa_nil)))) pa_nil))))
    (pss_cons (s_set 4 sc_law.nd (c_call C_is_program (hr.mono (by omega)) (pa_cons (c_var 3) pa_nil)))
    (pss_one (s_if (PW.pt (w_or (t_not (t_tru (K := K) rfl (c_isi (K := K) rfl kf_bool G.n_isinstance G.n_bool boot_bool (c_var 4)))) (w_or1 (t_cmp o_ne (c_var 4) (c_cmp o_le (c_call C__law_count (hr.mono (by omega)) (pa_cons (c_var 3) (pa_cons pe_int pa_nil))) pe_int))))) (pss_one (s_ret pe_bl)) pss_nil)))))
    (pss_cons (s_set 5 sc_law.nd (c_lst (pa_cons (c_tup (pa_cons pe_str (pa_cons (c_tup (pa_cons pe_str (pa_cons pe_int pa_nil))) pa_nil))) pa_nil)))
    (pss_cons (s_forR1 6 (pa_cons pe_int pa_nil) G.n_range sc_law.nd (pss_cons (s_set 4 sc_law.nd (c_call C_is_program (hr.mono (by omega)) (pa_cons (c_var 5) pa_nil)))
    (pss_cons (s_if (PW.pt (w_or (t_not (t_tru (K := K) rfl (c_isi (K := K) rfl kf_bool G.n_isinstance G.n_bool boot_bool (c_var 4)))) (w_or1 (t_cmp o_ne (c_var 4) (c_cmp o_le (c_call C__law_count (hr.mono (by omega)) (pa_cons (c_var 5) (pa_cons pe_int pa_nil))) pe_int))))) (pss_one (s_ret pe_bl)) pss_nil)
    (pss_one (s_set 5 sc_law.nd (c_lst (pa_cons (c_tup (pa_cons pe_str (pa_cons (c_tup (pa_cons pe_str (pa_cons pe_bl pa_nil))) (pa_cons (c_var 5) (pa_cons (c_lst pa_nil) pa_nil))))) pa_nil)))))))
    (pss_cons (s_set 7 sc_law.nd (c_bin o_add pe_int (c_call C__law_draw (hr.mono (by omega)) (pa_cons (c_var 1) (pa_cons pe_int pa_nil)))))
    (pss_cons (s_set 8 sc_law.nd (c_lst (pa_cons (c_tup (pa_cons pe_str (pa_cons pe_str (pa_cons (c_bin (o_mulL) (c_lst (pa_cons (c_tup (pa_cons pe_str (pa_cons (c_tup (pa_cons pe_str (pa_cons pe_int pa_nil))) pa_nil))) pa_nil)) (c_bin o_sub (c_var 7) pe_int)) pa_nil)))) (pa_cons (c_tup (pa_cons pe_str (pa_cons pe_str pa_nil))) (pa_cons (c_tup (pa_cons pe_str (pa_cons pe_str pa_nil))) pa_nil)))))
    (pss_cons (s_set 4 sc_law.nd (c_call C_is_program (hr.mono (by omega)) (pa_cons (c_var 8) pa_nil)))
    (pss_cons (s_if (PW.pt (w_or (t_not (t_tru (K := K) rfl (c_isi (K := K) rfl kf_bool G.n_isinstance G.n_bool boot_bool (c_var 4)))) (w_or1 (t_cmp o_ne (c_var 4) (c_cmp o_le (c_var 7) pe_int))))) (pss_one (s_ret pe_bl)) pss_nil)
    (pss_cons (s_lcR 9 (pa_cons (c_bin o_add pe_int (c_call C__law_draw (hr.mono (by omega)) (pa_cons (c_var 1) (pa_cons pe_int pa_nil)))) pa_nil) G.n_range sc_law.nd rfl (by show blkC ["script", "box", "turn", "program", "told", "deep", "k", "many", "long", "pairs", "thing"] (defScope s_law) _ [("k", 6)] = true; decide +kernel) (fun _ _ _ _ _ => pg_name (i := 6) sc_law.nd rfl (Or.inl rfl)) (fun _ _ _ _ _ => pts_nil) (fun _ _ _ _ _ => (c_tup (pa_cons (c_ix (K := K) rfl pe_str (c_var 6)) (pa_cons (c_tup (pa_cons pe_str (pa_cons (c_var 6) pa_nil))) pa_nil)))) (sw_true rfl rfl rfl (by decide +kernel)))
    (pss_cons (s_set 4 sc_law.nd (c_call C_is_program (hr.mono (by omega)) (pa_cons (c_lst (pa_cons (c_tup (pa_cons pe_str (pa_cons pe_str (pa_cons (c_var 9) pa_nil)))) pa_nil)) pa_nil)))
    (pss_cons (s_if (PW.pt (w_or (t_not (t_tru (K := K) rfl (c_isi (K := K) rfl kf_bool G.n_isinstance G.n_bool boot_bool (c_var 4)))) (w_or1 (t_cmp o_ne (c_var 4) (c_cmp o_le (c_bi (b_len (K := K) rfl) G.n_len boot_len (pa_cons (c_var 9) pa_nil)) pe_int))))) (pss_one (s_ret pe_bl)) pss_nil)
    (pss_cons (s_forL (K := K) rfl 10 (c_lst (pa_cons pe_non (pa_cons (c_tup pa_nil) (pa_cons pe_int (pa_cons pe_str (pa_cons pe_dnewK (pa_cons (c_lst (pa_cons (c_lst pa_nil) pa_nil)) (pa_cons (c_lst (pa_cons (c_tup (pa_cons pe_str (pa_cons pe_str (pa_cons (c_tup (pa_cons pe_str (pa_cons pe_int pa_nil))) pa_nil)))) (pa_cons pe_int pa_nil))) pa_nil)))))))) sc_law.nd (pss_one (s_if (t_cmp o_isnotB (c_call C_is_program (hr.mono (by omega)) (pa_cons (c_var 10) pa_nil)) pe_bl) (pss_one (s_ret pe_bl)) pss_nil)))
    (pss_one (s_ret (c_cmp o_is (c_call C_is_program (hr.mono (by omega)) (pa_cons (c_lst pa_nil) pa_nil)) pe_bl))))))))))))))), ?_⟩
      -- box = [_law_row(script, 0, 50), 0]
      refine ⟨ns, hs, by decide, by decide, ⟨by decide, by decide⟩, fun r row H1 s1 nr er => ?_⟩
      refine ⟨by show 2 ≤ sizeLine; decide, fun b nb => ?_⟩
      have nrb : r ≠ b := ne_of_none er nb
      have B2 : BoxR (upd H1 b (.lst [.ref r, .int 0])) b r row := ⟨0, upd_same, by rw [upd_ne nrb]; exact er, by decide, nrb⟩
      generalize upd H1 b (.lst [.ref r, .int 0]) = H2 at B2
      -- six programs
      refine ⟨by decide, fun i σ H' => ∃ y2 y3 y4, σ = [some (.ref a), some (.ref b), y2, y3, y4, none, none, none, none, none, none] ∧ BoxR H' b r row, ⟨none, none, none, rfl, B2⟩, fun i σ H' hi p => ?_, fun σ H3 p => ?_⟩
      · obtain ⟨y2, y3, y4, rfl, B3⟩ := p
        refine ⟨by show 4 ≤ sizeLine; decide, fun q hq => ?_⟩
        obtain ⟨a3, B3⟩ := B3
        refine ⟨r, _, row, B3.but hq, by decide, fun d d0 d1 => ?_⟩
        obtain ⟨v, hv, ha, e, b2, B4⟩ := pick_ok (menu := [.int 2, .int 3, .int 4, .int 7]) B3 hq d0 d1
        refine ⟨_, v, .inl (SqL.of e), ha, ?_⟩
        have hv' : ∃ dp : Int, v = .int dp ∧ dp + 1 ≤ ((8 : Nat) : Int) := by
          simp only [List.mem_cons, List.not_mem_nil, or_false] at hv
          rcases hv with rfl | rfl | rfl | rfl
          all_goals exact ⟨_, rfl, by decide⟩
        obtain ⟨dp, rfl, hdp⟩ := hv'
        refine ⟨hdp, r, row, B4, ?_⟩
        intro x d H5 t b5 B5
        refine .inl ⟨_, _, d, by decide, t, fun H6 s6 => ?_⟩
        refine ⟨_, d, (t.same s6).up (by decide), fun c H7 hc s7 => Gen.sub (Gen.yes (decide_eq_true (ok_count hc)) ?_)⟩
        exact ⟨_, _, _, rfl, box_same B5 (s6.trans s7)⟩
      obtain ⟨y2, y3, y4, rfl, B3⟩ := p
      -- deeper and deeper
      refine ⟨by show 2 ≤ sizeLine; decide, fun p1 n1 => ⟨by show 2 ≤ sizeLine; decide, fun p2 n2 => ⟨by show 1 ≤ sizeLine; decide, fun p3 n3 => ?_⟩⟩⟩
      have q2 := same_upd (o := .tup [.str "emit", .ref p1]) n2
      have q3 := same_upd (o := .lst [.ref p2]) n3
      have e1 := (q2.trans q3) _ _ (upd_same (H := H3) (a := p1) (o := .tup [.str "value", .int 1]))
      have e2 := q3 _ _ upd_same
      have t0 : Tr (upd (upd (upd H3 p1 (.tup [.str "value", .int 1])) p2 (.tup [.str "emit", .ref p1])) p3 (.lst [.ref p2])) AT 4 (.ref p3) (.lst [emitD]) :=
        trL trivial upd_same (by show 1 ≤ _; decide) (.cons (trT e2 (by show 2 ≤ _; decide) (.cons (trS (sbS "emit")) (.cons (trT e1 (by show 2 ≤ _; decide) (.cons (trS (sbS "value")) (.cons (trS (.int 1)) .nil))) .nil))) .nil)
      have B4 := same_box (same_box (same_box (o := .tup [.str "value", .int 1]) B3 n1) n2 (o := .tup [.str "emit", .ref p1])) n3 (o := .lst [.ref p2])
      refine ⟨by decide, fun i σ H' => ∃ y4 y6 x d, σ = [some (.ref a), some (.ref b), y2, y3, y4, some x, y6, none, none, none, none] ∧ BoxR H' b r row ∧ Tr H' AT (2 * i + 4) x d, ⟨y4, none, _, _, rfl, B4, t0⟩, fun i σ H' hi p => ?_, fun σ H5 p => ?_⟩
      · obtain ⟨y4, y6, x, d, rfl, B5, t⟩ := p
        have i7 : i < 7 := hi
        refine .inl ⟨_, _, d, by omega, t, fun H6 s6 => ?_⟩
        refine ⟨_, d, (t.same s6).up (by omega), fun c H7 hc s7 => Gen.sub (Gen.yes (decide_eq_true (ok_count hc)) ?_)⟩
        refine ⟨by show 2 ≤ sizeLine; decide, fun p1 n1 => ⟨by show 0 ≤ sizeLine; decide, fun p2 n2 => ⟨by show 4 ≤ sizeLine; decide, fun p3 n3 => ⟨by show 1 ≤ sizeLine; decide, fun p4 n4 => ?_⟩⟩⟩⟩
        have w1 := same_upd (o := .tup [.str "value", .bl true]) n1
        have w2 := same_upd (o := .lst []) n2
        have w3 := same_upd (o := .tup [.str "if", .ref p1, x, .ref p2]) n3
        have w4 := same_upd (o := .lst [.ref p3]) n4
        have e1 := (w2.trans (w3.trans w4)) _ _ upd_same
        have e2 := (w3.trans w4) _ _ upd_same
        have e3 := w4 _ _ upd_same
        have ws := s6.trans (s7.trans (w1.trans (w2.trans (w3.trans w4))))
        have td := (t.same ws)
        refine ⟨_, _, _, .lst [.tup [.v (.str "if"), .tup [.v (.str "value"), .v (.bl true)], d, .lst []]], rfl, box_same B5 ws, ?_⟩
        exact trL (n := 2 * i + 5) trivial upd_same (by show 1 ≤ _; decide) (.cons (trT e3 (by show 4 ≤ _; decide) (.cons (trS (sbS "if")) (.cons ((trT (n := 1) e1 (by show 2 ≤ _; decide) (.cons (trS (sbS "value")) (.cons (trS (.bl true)) .nil))).up (by omega)) (.cons td (.cons ((trL (n := 1) trivial e2 (by show 0 ≤ _; decide) .nil).up (by omega)) .nil))))) .nil)
      obtain ⟨y4, y6, x, d, rfl, B5, _⟩ := p
      -- around two hundred statements
      obtain ⟨a5, B5⟩ := B5
      refine ⟨r, a5, row, B5, by decide, fun m0 c0 c1 => ?_⟩
      have B6 := B5.next
      generalize upd H5 b (.lst [.ref r, .int (a5 + 1)]) = H6 at *
      refine ⟨by show 2 ≤ sizeLine; decide, fun p1 n1 => ⟨by show 2 ≤ sizeLine; decide, fun p2 n2 => ⟨by show 1 ≤ sizeLine; decide, fun p3 n3 => ?_⟩⟩⟩
      obtain ⟨n, hn⟩ : ∃ n : Nat, 190 + m0 - 3 = (n : Int) := ⟨(190 + m0 - 3).toNat, by omega⟩
      have hn1 : n ≤ 206 := by omega
      have hn0 : 187 ≤ n := by omega
      refine ⟨[.ref p2], upd_same, by omega, by omega, ?_, fun p4 n4 => ?_⟩
      · show 1 * (190 + m0 - 3).toNat ≤ sizeLine
        exact Nat.le_of_lt (small1000 (by omega))
      have hf : (List.replicate (190 + m0 - 3).toNat [V.ref p2]).flatten = List.replicate n (V.ref p2) := by
        rw [flat_rep, hn]
        rfl
      rw [hf] 
      refine ⟨by show 3 ≤ sizeLine; decide, fun p5 n5 => ⟨by show 2 ≤ sizeLine; decide, fun p6 n6 => ⟨by show 2 ≤ sizeLine; decide, fun p7 n7 => ⟨by show 3 ≤ sizeLine; decide, fun p8 n8 => ?_⟩⟩⟩⟩
      have w1 := same_upd (o := .tup [.str "value", .int 1]) n1
      have w2 := same_upd (o := .tup [.str "emit", .ref p1]) n2
      have w3 := same_upd (o := .lst [.ref p2]) n3
      have w4 := same_upd (o := .lst (List.replicate n (V.ref p2))) n4
      have w5 := same_upd (o := .tup [.str "effect", .str "a", .ref p4]) n5
      have w6 := same_upd (o := .tup [.str "scope", .str "b"]) n6
      have w7 := same_upd (o := .tup [.str "scope", .str "c"]) n7
      have w8 := same_upd (o := .lst [.ref p5, .ref p6, .ref p7]) n8
      have v7 := w8
      have v6 := w7.trans v7
      have v5 := w6.trans v6
      have v4 := w5.trans v5
      have v2 := w3.trans (w4.trans v4)
      have v1 := w2.trans v2
      have e1 := v1 _ _ upd_same
      have e2 := v2 _ _ upd_same
      have e4 := v4 _ _ upd_same
      have e5 := v5 _ _ upd_same
      have e6 := v6 _ _ upd_same
      have e7 := v7 _ _ upd_same
      have tE : Tr _ AT 3 (.ref p2) emitD := trT e2 (by show 2 ≤ _; decide) (.cons (trS (sbS "emit")) (.cons (trT e1 (by show 2 ≤ _; decide) (.cons (trS (sbS "value")) (.cons (trS (.int 1)) .nil))) .nil))
      have tL : Tr _ AT 6 (.ref p8) (longD n) := trL trivial upd_same (by show 3 ≤ _; decide) (.cons (trT e5 (by show 3 ≤ _; decide) (.cons (trS (sbS "effect")) (.cons (trS (sbS "a")) (.cons (trL trivial e4 (by rw [List.length_replicate]; omega) (paired_rep tE n)) .nil))))
        (.cons (trT e6 (by show 2 ≤ _; decide) (.cons (trS (sbS "scope")) (.cons (trS (sbS "b")) .nil))) (.cons (trT e7 (by show 2 ≤ _; decide) (.cons (trS (sbS "scope")) (.cons (trS (sbS "c")) .nil))) .nil)))
      have B8 := box_same (box_same ⟨_, B6⟩ w1) v1
      refine .inl ⟨6, AT, longD n, by decide, tL, fun H7 s7 => Gen.sub (Gen.yes ?_ ?_)⟩
      · rw [long_ok n (by omega)]
        exact decide_eq_true (decide_eq_decide.mpr (by omega))
      have B9 := box_same B8 s7
      -- six to nine pairs
      obtain ⟨a9, B9⟩ := B9
      refine ⟨r, a9, row, B9, by decide, fun m1 g0 g1 => ⟨⟨by omega, by omega⟩, fun D hD => ?_⟩⟩
      obtain ⟨pn, hpn⟩ : ∃ pn : Nat, 6 + m1 = (pn : Int) := ⟨(6 + m1).toNat, by omega⟩
      rw [hpn]
      have eb : (upd (upd H7 b (.lst [.ref r, .int (a9 + 1)])) D (.lst [])) D = some (.lst []) := upd_same
      refine ⟨fun i H' => ∃ vals, H' D = some (.lst vals) ∧ vals.length = i ∧ Paired (Tr H' (fun _ => False) 3) vals ((List.range i).map pairD), ⟨[], eb, rfl, .nil⟩, fun i H' hi p => ?_, fun H' p => ?_⟩
      · obtain ⟨vals, eD, lv, tv⟩ := p
        have i9 : i < 9 := by omega
        refine ⟨97 + i, by decide, alpha i9, by show 2 ≤ sizeLine; decide, fun p1 n1 => ⟨by show 2 ≤ sizeLine; decide, fun p2 n2 => ?_⟩⟩
        have w1 := same_upd (o := .tup [.str "value", .int i]) n1
        have w2 := same_upd (o := .tup [.str ⟨#[97 + i]⟩, .ref p1]) n2
        have eD2 := (w1.trans w2) _ _ eD
        refine ⟨vals, eD2, small1000 (by omega), vals ++ [.ref p2], upd_same, by rw [List.length_append, lv]; rfl, ?_⟩
        rw [List.range_succ, List.map_append]
        have kp : ∀ {x : V} {d : Da}, Tr (upd (upd H' p1 (.tup [.str "value", .int i])) p2 (.tup [.str ⟨#[97 + i]⟩, .ref p1])) (fun _ => False) 3 x d → Tr (upd (upd (upd H' p1 (.tup [.str "value", .int i])) p2 (.tup [.str ⟨#[97 + i]⟩, .ref p1])) D (.lst (vals ++ [.ref p2]))) (fun _ => False) 3 x d := fun h => Tr.keep (TK.updL eD2) (fun _ _ h => h.elim) (fun _ h => h) h
        refine paired_app (paired_mono (fun _ _ h => kp (h.same (w1.trans w2))) tv) (.cons (kp ?_) .nil)
        exact trT upd_same (by show 2 ≤ _; decide) (.cons (trS (.str _ (by show 1 ≤ 100; decide))) (.cons (trT (w2 _ _ upd_same) (by show 2 ≤ _; decide) (.cons (trS (sbS "value")) (.cons (trS (.int i)) .nil))) .nil))
      obtain ⟨vals, eD, lv, tv⟩ := p
      have lv' : vals.length = pn := by rw [lv]; omega
      have e0 : ((pn : Nat) : Int).toNat = pn := by omega
      rw [e0] at tv lv
      refine ⟨by show 3 ≤ sizeLine; decide, fun p1 n1 => ⟨by show 1 ≤ sizeLine; decide, fun p2 n2 => ?_⟩⟩
      have w1 := same_upd (o := .tup [.str "store", .str "a", .ref D]) n1
      have w2 := same_upd (o := .lst [.ref p1]) n2
      have ws := w1.trans w2
      have tS : Tr _ AT 6 (.ref p2) (storeD pn) := trL trivial upd_same (by show 1 ≤ _; decide) (.cons (trT (w2 _ _ upd_same) (by show 3 ≤ _; decide) (.cons (trS (sbS "store")) (.cons (trS (sbS "a")) (.cons (trL trivial (ws _ _ eD) (by rw [List.length_map, List.length_range]; omega) (paired_mono (fun _ _ h => (h.same ws).wide (A' := AT) (fun _ h => h.elim)) tv)) .nil)))) .nil)
      refine .inl ⟨6, AT, storeD pn, by decide, tS, fun H8 s8 => ?_⟩
      have eD8 := s8 _ _ (ws _ _ eD)
      refine .inl ⟨vals, .inl (SqL.of eD8), Gen.sub (Gen.yes ?_ ?_)⟩
      · rw [store_ok (by omega) (by omega), lv']
        exact decide_eq_true (decide_eq_decide.mpr (by omega))
      -- things that are no lists
      refine ⟨by show 0 ≤ sizeLine; decide, fun q2 m2 => fun q5 m5 => ⟨by show 0 ≤ sizeLine; decide, fun q6 m6 => ⟨by show 1 ≤ sizeLine; decide, fun q7 m7 => ⟨by show 2 ≤ sizeLine; decide, fun q8 m8 => ⟨by show 3 ≤ sizeLine; decide, fun q9 m9 => ⟨by show 2 ≤ sizeLine; decide, fun q10 m10 => ⟨by show 7 ≤ sizeLine; decide, fun q11 m11 => ?_⟩⟩⟩⟩⟩⟩⟩
      have w2 := same_upd (o := .tup []) m2
      have w5 := same_upd (o := .dK []) m5
      have w6 := same_upd (o := .lst []) m6
      have w7 := same_upd (o := .lst [.ref q6]) m7
      have w8 := same_upd (o := .tup [.str "value", .int 1]) m8
      have w9 := same_upd (o := .tup [.str "let", .str "a", .ref q8]) m9
      have w10 := same_upd (o := .lst [.ref q9, .int 3]) m10
      have w11 := same_upd (o := .lst [.non, .ref q2, .int 5, .str "let", .ref q5, .ref q7, .ref q10]) m11
      have v9 := w10.trans w11
      have v8 := w9.trans v9
      have v6 := w7.trans (w8.trans v8)
      have v5 := w6.trans v6
      have v2 := w5.trans v5
      have e2 := v2 _ _ upd_same
      have e5 := v5 _ _ upd_same
      have e6 := v6 _ _ upd_same
      have e7 := (w8.trans v8) _ _ upd_same
      have e8 := v8 _ _ upd_same
      have e9 := v9 _ _ upd_same
      have e10 := w11 _ _ upd_same
      have e11 : (upd (upd (upd (upd (upd (upd (upd (upd H8 q2 (.tup [])) q5 (.dK [])) q6 (.lst [])) q7 (.lst [.ref q6])) q8 (.tup [.str "value", .int 1])) q9 (.tup [.str "let", .str "a", .ref q8])) q10 (.lst [.ref q9, .int 3])) q11 (.lst [.non, .ref q2, .int 5, .str "let", .ref q5, .ref q7, .ref q10])) q11 = some (.lst [.non, .ref q2, .int 5, .str "let", .ref q5, .ref q7, .ref q10]) := upd_same
      generalize upd (upd (upd (upd (upd (upd (upd (upd H8 q2 (.tup [])) q5 (.dK [])) q6 (.lst [])) q7 (.lst [.ref q6])) q8 (.tup [.str "value", .int 1])) q9 (.tup [.str "let", .str "a", .ref q8])) q10 (.lst [.ref q9, .int 3])) q11 (.lst [.non, .ref q2, .int 5, .str "let", .ref q5, .ref q7, .ref q10]) = H9 at *
      refine ⟨_, SqL.of e11, fun i σ H' => (∃ z10, σ = [some (.ref a), some (.ref b), y2, y3, some (.bl (okD (storeD pn))), some x, y6, some (.int (190 + m0)), some (.ref p8), some (.ref D), z10]) ∧ Same H9 H', ⟨⟨none, rfl⟩, Same.refl _⟩, fun i σ H' _ p => SqL.of (p.2 _ _ e11), fun i x σ H' hx p => ?_, fun σ H' p => ?_⟩
      · obtain ⟨⟨z10, rfl⟩, s9⟩ := p
        have hx' := List.mem_of_getElem? hx
        simp only [List.mem_cons, List.not_mem_nil, or_false] at hx'
        rcases hx' with rfl | rfl | rfl | rfl | rfl | rfl | rfl
        · exact .inl ⟨1, AT, .v .non, by decide, trS .non, fun H2 s2 => ⟨⟨_, rfl⟩, s9.trans s2⟩⟩
        · exact .inl ⟨1, AT, .tup [], by decide, trT (s9 _ _ e2) (by show 0 ≤ _; decide) .nil, fun H2 s2 => ⟨⟨_, rfl⟩, s9.trans s2⟩⟩
        · exact .inl ⟨1, AT, .v (.int 5), by decide, trS (.int 5), fun H2 s2 => ⟨⟨_, rfl⟩, s9.trans s2⟩⟩
        · exact .inl ⟨1, AT, .v (.str "let"), by decide, trS (sbS "let"), fun H2 s2 => ⟨⟨_, rfl⟩, s9.trans s2⟩⟩
        · exact .inr ⟨⟨_, _, rfl, s9 _ _ e5⟩, ⟨_, rfl⟩, s9⟩
        · exact .inl ⟨2, AT, .lst [.lst []], by decide, trL trivial (s9 _ _ e7) (by show 1 ≤ _; decide) (.cons (trL trivial (s9 _ _ e6) (by show 0 ≤ _; decide) .nil) .nil), fun H2 s2 => ⟨⟨_, rfl⟩, s9.trans s2⟩⟩
        · refine .inl ⟨4, AT, .lst [.tup [.v (.str "let"), .v (.str "a"), .tup [.v (.str "value"), .v (.int 1)]], .v (.int 3)], by decide, trL trivial (s9 _ _ e10) (by show 2 ≤ _; decide) (.cons (trT (s9 _ _ e9) (by show 3 ≤ _; decide) (.cons (trS (sbS "let")) (.cons (trS (sbS "a")) (.cons (trT (s9 _ _ e8) (by show 2 ≤ _; decide) (.cons (trS (sbS "value")) (.cons (trS (.int 1)) .nil))) .nil)))) (.cons (trS (.int 3)) .nil)), fun H2 s2 => ?_⟩
          have : okD (.lst [.tup [.v (.str "let"), .v (.str "a"), .tup [.v (.str "value"), .v (.int 1)]], .v (.int 3)]) = false := by decide +kernel
          rw [this]
          exact ⟨⟨_, rfl⟩, s9.trans s2⟩
      · obtain ⟨⟨z10, rfl⟩, s9⟩ := p
        refine ⟨by show 0 ≤ sizeLine; decide, fun q hq => .inl ⟨1, AT, .lst [], by decide, trL trivial upd_same (by show 0 ≤ _; decide) .nil, fun H2 s2 => ?_⟩⟩
        exact k _
end
end K3

namespace K3
open PySem PySem.Spec PyProof.Rows L2 CW K1
open VM
section
variable {P : Program} {w : World} {K : PySem.W.Frag} {mg : Str → Option Value} {base : Heap} {u1 u2 u3 u4 u5 u6 : Tok} {dE dS : Addr}
theorem ok_blocks {fp fb : Addr} {dp db : FuncData} (Fp : Fun K "_law_some_part" "_law_some_part" s__law_some_part fp dp) (Fb : Fun K "_law_some_block" "_law_some_block" s__law_some_block fb db) (G : Gs mg u1 u2 u3 u4 u5 u6 dE dS K w) (mp : mg "_law_some_part" = some (.ref fp)) (mb : mg "_law_some_block" = some (.ref fb)) (bp : Binds K dp ["box", "letter", "depth"] []) (bb : Binds K db ["box", "depth"] [])
    (H1 : Has P w K mg base 1 "_law_draw" ["box", "many"] (sp__law_draw K)) (H2 : Has P w K mg base 1 "_law_forms" [] sp__law_forms) (H3 : Has P w K mg base 2 "_law_some_name" ["box"] sp__law_some_name) (H4 : Has P w K mg base 11 "_law_some_expr" ["box", "depth"] (spE 7)) :
    ∀ m, FnOk P w K mg base CX0 (2 * m + 12) fb db ["box", "depth"] (spB m) := by
  intro m
  induction m with
  | zero => exact ok__law_some_block Fb G H1 H2 ⟨fp, dp, ⟨fun vs H Q E h => h.elim, fun A outer s H args us vs Q E hr he hb hv h => h.elim⟩, mp, Fp.kp, bp⟩
  | succ m ih => exact ok__law_some_block Fb G H1 H2 ⟨fp, dp, ok__law_some_part Fp G H1 H3 H4 ⟨fb, db, ih, mb, Fb.kp, bb⟩, mp, Fp.kp, bp⟩
end
/-! ### what the top has written, the head -/
theorem all_mk {l : PySem.W.OpenLaw} {w : World} {K : PySem.W.Frag} {h : Heap} {mg : Str → Option Value} {fa f_is_value f_is_key f_has_word f_are_keyed_pairs f_is_part f_is_expression f_are_pairs f_size_of_statement f_size_of_block f_is_program f__law_cell f__law_row f__law_draw f__law_value f__law_is_bool f__law_is_key f__law_good_name f__law_good_value f__law_good_expr f__law_good_pairs f__law_forms f__law_count f__law_some_name f__law_some_expr f__law_some_part f__law_some_block f_law : Addr} {dE dS : Addr} (X : K.In h) (G : h.Ns mainGlobals mg) (hfa : mg "law" = some (.ref fa))
    {od_is_value an_is_value od_is_key an_is_key od_has_word an_has_word od_are_keyed_pairs an_are_keyed_pairs od_is_part an_is_part od_is_expression an_is_expression od_are_pairs an_are_pairs od_size_of_statement an_size_of_statement od_size_of_block an_size_of_block od_is_program an_is_program od__law_cell an__law_cell od__law_row an__law_row od__law_draw an__law_draw od__law_value an__law_value od__law_is_bool an__law_is_bool od__law_is_key an__law_is_key od__law_good_name an__law_good_name od__law_good_value an__law_good_value od__law_good_expr an__law_good_expr od__law_good_pairs an__law_good_pairs od__law_forms an__law_forms od__law_count an__law_count od__law_some_name an__law_some_name od__law_some_expr an__law_some_expr od__law_some_part an__law_some_part od__law_some_block an__law_some_block od_law an_law : Option Addr} {sl_is_value sl_is_key sl_has_word sl_are_keyed_pairs sl_is_part sl_is_expression sl_are_pairs sl_size_of_statement sl_size_of_block sl_is_program sl__law_cell sl__law_row sl__law_draw sl__law_value sl__law_is_bool sl__law_is_key sl__law_good_name sl__law_good_value sl__law_good_expr sl__law_good_pairs sl__law_forms sl__law_count sl__law_some_name sl__law_some_expr sl__law_some_part sl__law_some_block sl_law : Array (Option Value)} {oc_is_value kV_is_value dc_is_value pm_is_value cd_is_value ct_is_value oc_is_key kV_is_key dc_is_key pm_is_key cd_is_key ct_is_key oc_has_word kV_has_word dc_has_word pm_has_word cd_has_word ct_has_word oc_are_keyed_pairs kV_are_keyed_pairs dc_are_keyed_pairs pm_are_keyed_pairs cd_are_keyed_pairs ct_are_keyed_pairs oc_is_part kV_is_part dc_is_part pm_is_part cd_is_part ct_is_part oc_is_expression kV_is_expression dc_is_expression pm_is_expression cd_is_expression ct_is_expression oc_are_pairs kV_are_pairs dc_are_pairs pm_are_pairs cd_are_pairs ct_are_pairs oc_size_of_statement kV_size_of_statement dc_size_of_statement pm_size_of_statement cd_size_of_statement ct_size_of_statement oc_size_of_block kV_size_of_block dc_size_of_block pm_size_of_block cd_size_of_block ct_size_of_block oc_is_program kV_is_program dc_is_program pm_is_program cd_is_program ct_is_program oc__law_cell kV__law_cell dc__law_cell pm__law_cell cd__law_cell ct__law_cell oc__law_row kV__law_row dc__law_row pm__law_row cd__law_row ct__law_row oc__law_draw kV__law_draw dc__law_draw pm__law_draw cd__law_draw ct__law_draw oc__law_value kV__law_value dc__law_value pm__law_value cd__law_value ct__law_value oc__law_is_bool kV__law_is_bool dc__law_is_bool pm__law_is_bool cd__law_is_bool ct__law_is_bool oc__law_is_key kV__law_is_key dc__law_is_key pm__law_is_key cd__law_is_key ct__law_is_key oc__law_good_name kV__law_good_name dc__law_good_name pm__law_good_name cd__law_good_name ct__law_good_name oc__law_good_value kV__law_good_value dc__law_good_value pm__law_good_value cd__law_good_value ct__law_good_value oc__law_good_expr kV__law_good_expr dc__law_good_expr pm__law_good_expr cd__law_good_expr ct__law_good_expr oc__law_good_pairs kV__law_good_pairs dc__law_good_pairs pm__law_good_pairs cd__law_good_pairs ct__law_good_pairs oc__law_forms kV__law_forms dc__law_forms pm__law_forms cd__law_forms ct__law_forms oc__law_count kV__law_count dc__law_count pm__law_count cd__law_count ct__law_count oc__law_some_name kV__law_some_name dc__law_some_name pm__law_some_name cd__law_some_name ct__law_some_name oc__law_some_expr kV__law_some_expr dc__law_some_expr pm__law_some_expr cd__law_some_expr ct__law_some_expr oc__law_some_part kV__law_some_part dc__law_some_part pm__law_some_part cd__law_some_part ct__law_some_part oc__law_some_block kV__law_some_block dc__law_some_block pm__law_some_block cd__law_some_block ct__law_some_block oc_law kV_law dc_law pm_law cd_law ct_law : Value} {u1 u2 u3 u4 u5 u6 : Tok}
    (a_is_value : PySem.W.nsIn K mainGlobals "is_value" = some (some (.ref f_is_value))) (l_is_value : K.lookup f_is_value = some ⟨oc_is_value, od_is_value, .func (PySem.W.fnOf "is_value" "is_value" (defArgs s_is_value) (defBody s_is_value) (defScope s_is_value) .none kV_is_value dc_is_value pm_is_value an_is_value cd_is_value ct_is_value), sl_is_value⟩) (c_is_value : PySem.W.codeIn K cd_is_value "is_value" = true) (k_is_value : PySem.W.keepIn K (.ref f_is_value) = true)
    (a_is_key : PySem.W.nsIn K mainGlobals "is_key" = some (some (.ref f_is_key))) (l_is_key : K.lookup f_is_key = some ⟨oc_is_key, od_is_key, .func (PySem.W.fnOf "is_key" "is_key" (defArgs s_is_key) (defBody s_is_key) (defScope s_is_key) .none kV_is_key dc_is_key pm_is_key an_is_key cd_is_key ct_is_key), sl_is_key⟩) (c_is_key : PySem.W.codeIn K cd_is_key "is_key" = true) (k_is_key : PySem.W.keepIn K (.ref f_is_key) = true)
    (a_has_word : PySem.W.nsIn K mainGlobals "has_word" = some (some (.ref f_has_word))) (l_has_word : K.lookup f_has_word = some ⟨oc_has_word, od_has_word, .func (PySem.W.fnOf "has_word" "has_word" (defArgs s_has_word) (defBody s_has_word) (defScope s_has_word) .none kV_has_word dc_has_word pm_has_word an_has_word cd_has_word ct_has_word), sl_has_word⟩) (c_has_word : PySem.W.codeIn K cd_has_word "has_word" = true) (k_has_word : PySem.W.keepIn K (.ref f_has_word) = true)
    (a_are_keyed_pairs : PySem.W.nsIn K mainGlobals "are_keyed_pairs" = some (some (.ref f_are_keyed_pairs))) (l_are_keyed_pairs : K.lookup f_are_keyed_pairs = some ⟨oc_are_keyed_pairs, od_are_keyed_pairs, .func (PySem.W.fnOf "are_keyed_pairs" "are_keyed_pairs" (defArgs s_are_keyed_pairs) (defBody s_are_keyed_pairs) (defScope s_are_keyed_pairs) .none kV_are_keyed_pairs dc_are_keyed_pairs pm_are_keyed_pairs an_are_keyed_pairs cd_are_keyed_pairs ct_are_keyed_pairs), sl_are_keyed_pairs⟩) (c_are_keyed_pairs : PySem.W.codeIn K cd_are_keyed_pairs "are_keyed_pairs" = true) (k_are_keyed_pairs : PySem.W.keepIn K (.ref f_are_keyed_pairs) = true)
    (a_is_part : PySem.W.nsIn K mainGlobals "is_part" = some (some (.ref f_is_part))) (l_is_part : K.lookup f_is_part = some ⟨oc_is_part, od_is_part, .func (PySem.W.fnOf "is_part" "is_part" (defArgs s_is_part) (defBody s_is_part) (defScope s_is_part) .none kV_is_part dc_is_part pm_is_part an_is_part cd_is_part ct_is_part), sl_is_part⟩) (c_is_part : PySem.W.codeIn K cd_is_part "is_part" = true) (k_is_part : PySem.W.keepIn K (.ref f_is_part) = true)
    (a_is_expression : PySem.W.nsIn K mainGlobals "is_expression" = some (some (.ref f_is_expression))) (l_is_expression : K.lookup f_is_expression = some ⟨oc_is_expression, od_is_expression, .func (PySem.W.fnOf "is_expression" "is_expression" (defArgs s_is_expression) (defBody s_is_expression) (defScope s_is_expression) .none kV_is_expression dc_is_expression pm_is_expression an_is_expression cd_is_expression ct_is_expression), sl_is_expression⟩) (c_is_expression : PySem.W.codeIn K cd_is_expression "is_expression" = true) (k_is_expression : PySem.W.keepIn K (.ref f_is_expression) = true)
    (a_are_pairs : PySem.W.nsIn K mainGlobals "are_pairs" = some (some (.ref f_are_pairs))) (l_are_pairs : K.lookup f_are_pairs = some ⟨oc_are_pairs, od_are_pairs, .func (PySem.W.fnOf "are_pairs" "are_pairs" (defArgs s_are_pairs) (defBody s_are_pairs) (defScope s_are_pairs) .none kV_are_pairs dc_are_pairs pm_are_pairs an_are_pairs cd_are_pairs ct_are_pairs), sl_are_pairs⟩) (c_are_pairs : PySem.W.codeIn K cd_are_pairs "are_pairs" = true) (k_are_pairs : PySem.W.keepIn K (.ref f_are_pairs) = true)
    (a_size_of_statement : PySem.W.nsIn K mainGlobals "size_of_statement" = some (some (.ref f_size_of_statement))) (l_size_of_statement : K.lookup f_size_of_statement = some ⟨oc_size_of_statement, od_size_of_statement, .func (PySem.W.fnOf "size_of_statement" "size_of_statement" (defArgs s_size_of_statement) (defBody s_size_of_statement) (defScope s_size_of_statement) .none kV_size_of_statement dc_size_of_statement pm_size_of_statement an_size_of_statement cd_size_of_statement ct_size_of_statement), sl_size_of_statement⟩) (c_size_of_statement : PySem.W.codeIn K cd_size_of_statement "size_of_statement" = true) (k_size_of_statement : PySem.W.keepIn K (.ref f_size_of_statement) = true)
    (a_size_of_block : PySem.W.nsIn K mainGlobals "size_of_block" = some (some (.ref f_size_of_block))) (l_size_of_block : K.lookup f_size_of_block = some ⟨oc_size_of_block, od_size_of_block, .func (PySem.W.fnOf "size_of_block" "size_of_block" (defArgs s_size_of_block) (defBody s_size_of_block) (defScope s_size_of_block) .none kV_size_of_block dc_size_of_block pm_size_of_block an_size_of_block cd_size_of_block ct_size_of_block), sl_size_of_block⟩) (c_size_of_block : PySem.W.codeIn K cd_size_of_block "size_of_block" = true) (k_size_of_block : PySem.W.keepIn K (.ref f_size_of_block) = true)
    (a_is_program : PySem.W.nsIn K mainGlobals "is_program" = some (some (.ref f_is_program))) (l_is_program : K.lookup f_is_program = some ⟨oc_is_program, od_is_program, .func (PySem.W.fnOf "is_program" "is_program" (defArgs s_is_program) (defBody s_is_program) (defScope s_is_program) .none kV_is_program dc_is_program pm_is_program an_is_program cd_is_program ct_is_program), sl_is_program⟩) (c_is_program : PySem.W.codeIn K cd_is_program "is_program" = true) (k_is_program : PySem.W.keepIn K (.ref f_is_program) = true)
    (a__law_cell : PySem.W.nsIn K mainGlobals "_law_cell" = some (some (.ref f__law_cell))) (l__law_cell : K.lookup f__law_cell = some ⟨oc__law_cell, od__law_cell, .func (PySem.W.fnOf "_law_cell" "_law_cell" (defArgs s__law_cell) (defBody s__law_cell) (defScope s__law_cell) .none kV__law_cell dc__law_cell pm__law_cell an__law_cell cd__law_cell ct__law_cell), sl__law_cell⟩) (c__law_cell : PySem.W.codeIn K cd__law_cell "_law_cell" = true) (k__law_cell : PySem.W.keepIn K (.ref f__law_cell) = true)
    (a__law_row : PySem.W.nsIn K mainGlobals "_law_row" = some (some (.ref f__law_row))) (l__law_row : K.lookup f__law_row = some ⟨oc__law_row, od__law_row, .func (PySem.W.fnOf "_law_row" "_law_row" (defArgs s__law_row) (defBody s__law_row) (defScope s__law_row) .none kV__law_row dc__law_row pm__law_row an__law_row cd__law_row ct__law_row), sl__law_row⟩) (c__law_row : PySem.W.codeIn K cd__law_row "_law_row" = true) (k__law_row : PySem.W.keepIn K (.ref f__law_row) = true)
    (a__law_draw : PySem.W.nsIn K mainGlobals "_law_draw" = some (some (.ref f__law_draw))) (l__law_draw : K.lookup f__law_draw = some ⟨oc__law_draw, od__law_draw, .func (PySem.W.fnOf "_law_draw" "_law_draw" (defArgs s__law_draw) (defBody s__law_draw) (defScope s__law_draw) .none kV__law_draw dc__law_draw pm__law_draw an__law_draw cd__law_draw ct__law_draw), sl__law_draw⟩) (c__law_draw : PySem.W.codeIn K cd__law_draw "_law_draw" = true) (k__law_draw : PySem.W.keepIn K (.ref f__law_draw) = true)
    (a__law_value : PySem.W.nsIn K mainGlobals "_law_value" = some (some (.ref f__law_value))) (l__law_value : K.lookup f__law_value = some ⟨oc__law_value, od__law_value, .func (PySem.W.fnOf "_law_value" "_law_value" (defArgs s__law_value) (defBody s__law_value) (defScope s__law_value) .none kV__law_value dc__law_value pm__law_value an__law_value cd__law_value ct__law_value), sl__law_value⟩) (c__law_value : PySem.W.codeIn K cd__law_value "_law_value" = true) (k__law_value : PySem.W.keepIn K (.ref f__law_value) = true)
    (a__law_is_bool : PySem.W.nsIn K mainGlobals "_law_is_bool" = some (some (.ref f__law_is_bool))) (l__law_is_bool : K.lookup f__law_is_bool = some ⟨oc__law_is_bool, od__law_is_bool, .func (PySem.W.fnOf "_law_is_bool" "_law_is_bool" (defArgs s__law_is_bool) (defBody s__law_is_bool) (defScope s__law_is_bool) .none kV__law_is_bool dc__law_is_bool pm__law_is_bool an__law_is_bool cd__law_is_bool ct__law_is_bool), sl__law_is_bool⟩) (c__law_is_bool : PySem.W.codeIn K cd__law_is_bool "_law_is_bool" = true) (k__law_is_bool : PySem.W.keepIn K (.ref f__law_is_bool) = true)
    (a__law_is_key : PySem.W.nsIn K mainGlobals "_law_is_key" = some (some (.ref f__law_is_key))) (l__law_is_key : K.lookup f__law_is_key = some ⟨oc__law_is_key, od__law_is_key, .func (PySem.W.fnOf "_law_is_key" "_law_is_key" (defArgs s__law_is_key) (defBody s__law_is_key) (defScope s__law_is_key) .none kV__law_is_key dc__law_is_key pm__law_is_key an__law_is_key cd__law_is_key ct__law_is_key), sl__law_is_key⟩) (c__law_is_key : PySem.W.codeIn K cd__law_is_key "_law_is_key" = true) (k__law_is_key : PySem.W.keepIn K (.ref f__law_is_key) = true)
    (a__law_good_name : PySem.W.nsIn K mainGlobals "_law_good_name" = some (some (.ref f__law_good_name))) (l__law_good_name : K.lookup f__law_good_name = some ⟨oc__law_good_name, od__law_good_name, .func (PySem.W.fnOf "_law_good_name" "_law_good_name" (defArgs s__law_good_name) (defBody s__law_good_name) (defScope s__law_good_name) .none kV__law_good_name dc__law_good_name pm__law_good_name an__law_good_name cd__law_good_name ct__law_good_name), sl__law_good_name⟩) (c__law_good_name : PySem.W.codeIn K cd__law_good_name "_law_good_name" = true) (k__law_good_name : PySem.W.keepIn K (.ref f__law_good_name) = true)
    (a__law_good_value : PySem.W.nsIn K mainGlobals "_law_good_value" = some (some (.ref f__law_good_value))) (l__law_good_value : K.lookup f__law_good_value = some ⟨oc__law_good_value, od__law_good_value, .func (PySem.W.fnOf "_law_good_value" "_law_good_value" (defArgs s__law_good_value) (defBody s__law_good_value) (defScope s__law_good_value) .none kV__law_good_value dc__law_good_value pm__law_good_value an__law_good_value cd__law_good_value ct__law_good_value), sl__law_good_value⟩) (c__law_good_value : PySem.W.codeIn K cd__law_good_value "_law_good_value" = true) (k__law_good_value : PySem.W.keepIn K (.ref f__law_good_value) = true)
    (a__law_good_expr : PySem.W.nsIn K mainGlobals "_law_good_expr" = some (some (.ref f__law_good_expr))) (l__law_good_expr : K.lookup f__law_good_expr = some ⟨oc__law_good_expr, od__law_good_expr, .func (PySem.W.fnOf "_law_good_expr" "_law_good_expr" (defArgs s__law_good_expr) (defBody s__law_good_expr) (defScope s__law_good_expr) .none kV__law_good_expr dc__law_good_expr pm__law_good_expr an__law_good_expr cd__law_good_expr ct__law_good_expr), sl__law_good_expr⟩) (c__law_good_expr : PySem.W.codeIn K cd__law_good_expr "_law_good_expr" = true) (k__law_good_expr : PySem.W.keepIn K (.ref f__law_good_expr) = true)
    (a__law_good_pairs : PySem.W.nsIn K mainGlobals "_law_good_pairs" = some (some (.ref f__law_good_pairs))) (l__law_good_pairs : K.lookup f__law_good_pairs = some ⟨oc__law_good_pairs, od__law_good_pairs, .func (PySem.W.fnOf "_law_good_pairs" "_law_good_pairs" (defArgs s__law_good_pairs) (defBody s__law_good_pairs) (defScope s__law_good_pairs) .none kV__law_good_pairs dc__law_good_pairs pm__law_good_pairs an__law_good_pairs cd__law_good_pairs ct__law_good_pairs), sl__law_good_pairs⟩) (c__law_good_pairs : PySem.W.codeIn K cd__law_good_pairs "_law_good_pairs" = true) (k__law_good_pairs : PySem.W.keepIn K (.ref f__law_good_pairs) = true)
    (a__law_forms : PySem.W.nsIn K mainGlobals "_law_forms" = some (some (.ref f__law_forms))) (l__law_forms : K.lookup f__law_forms = some ⟨oc__law_forms, od__law_forms, .func (PySem.W.fnOf "_law_forms" "_law_forms" (defArgs s__law_forms) (defBody s__law_forms) (defScope s__law_forms) .none kV__law_forms dc__law_forms pm__law_forms an__law_forms cd__law_forms ct__law_forms), sl__law_forms⟩) (c__law_forms : PySem.W.codeIn K cd__law_forms "_law_forms" = true) (k__law_forms : PySem.W.keepIn K (.ref f__law_forms) = true)
    (a__law_count : PySem.W.nsIn K mainGlobals "_law_count" = some (some (.ref f__law_count))) (l__law_count : K.lookup f__law_count = some ⟨oc__law_count, od__law_count, .func (PySem.W.fnOf "_law_count" "_law_count" (defArgs s__law_count) (defBody s__law_count) (defScope s__law_count) .none kV__law_count dc__law_count pm__law_count an__law_count cd__law_count ct__law_count), sl__law_count⟩) (c__law_count : PySem.W.codeIn K cd__law_count "_law_count" = true) (k__law_count : PySem.W.keepIn K (.ref f__law_count) = true)
    (a__law_some_name : PySem.W.nsIn K mainGlobals "_law_some_name" = some (some (.ref f__law_some_name))) (l__law_some_name : K.lookup f__law_some_name = some ⟨oc__law_some_name, od__law_some_name, .func (PySem.W.fnOf "_law_some_name" "_law_some_name" (defArgs s__law_some_name) (defBody s__law_some_name) (defScope s__law_some_name) .none kV__law_some_name dc__law_some_name pm__law_some_name an__law_some_name cd__law_some_name ct__law_some_name), sl__law_some_name⟩) (c__law_some_name : PySem.W.codeIn K cd__law_some_name "_law_some_name" = true) (k__law_some_name : PySem.W.keepIn K (.ref f__law_some_name) = true)
    (a__law_some_expr : PySem.W.nsIn K mainGlobals "_law_some_expr" = some (some (.ref f__law_some_expr))) (l__law_some_expr : K.lookup f__law_some_expr = some ⟨oc__law_some_expr, od__law_some_expr, .func (PySem.W.fnOf "_law_some_expr" "_law_some_expr" (defArgs s__law_some_expr) (defBody s__law_some_expr) (defScope s__law_some_expr) .none kV__law_some_expr dc__law_some_expr pm__law_some_expr an__law_some_expr cd__law_some_expr ct__law_some_expr), sl__law_some_expr⟩) (c__law_some_expr : PySem.W.codeIn K cd__law_some_expr "_law_some_expr" = true) (k__law_some_expr : PySem.W.keepIn K (.ref f__law_some_expr) = true)
    (a__law_some_part : PySem.W.nsIn K mainGlobals "_law_some_part" = some (some (.ref f__law_some_part))) (l__law_some_part : K.lookup f__law_some_part = some ⟨oc__law_some_part, od__law_some_part, .func (PySem.W.fnOf "_law_some_part" "_law_some_part" (defArgs s__law_some_part) (defBody s__law_some_part) (defScope s__law_some_part) .none kV__law_some_part dc__law_some_part pm__law_some_part an__law_some_part cd__law_some_part ct__law_some_part), sl__law_some_part⟩) (c__law_some_part : PySem.W.codeIn K cd__law_some_part "_law_some_part" = true) (k__law_some_part : PySem.W.keepIn K (.ref f__law_some_part) = true)
    (a__law_some_block : PySem.W.nsIn K mainGlobals "_law_some_block" = some (some (.ref f__law_some_block))) (l__law_some_block : K.lookup f__law_some_block = some ⟨oc__law_some_block, od__law_some_block, .func (PySem.W.fnOf "_law_some_block" "_law_some_block" (defArgs s__law_some_block) (defBody s__law_some_block) (defScope s__law_some_block) .none kV__law_some_block dc__law_some_block pm__law_some_block an__law_some_block cd__law_some_block ct__law_some_block), sl__law_some_block⟩) (c__law_some_block : PySem.W.codeIn K cd__law_some_block "_law_some_block" = true) (k__law_some_block : PySem.W.keepIn K (.ref f__law_some_block) = true)
    (a_law : PySem.W.nsIn K mainGlobals "law" = some (some (.ref f_law))) (l_law : K.lookup f_law = some ⟨oc_law, od_law, .func (PySem.W.fnOf "law" "law" (defArgs s_law) (defBody s_law) (defScope s_law) .none kV_law dc_law pm_law an_law cd_law ct_law), sl_law⟩) (c_law : PySem.W.codeIn K cd_law "law" = true) (k_law : PySem.W.keepIn K (.ref f_law) = true)
    (g1 : PySem.W.nsIn K mainGlobals "GREATEST_NUMBER" = some (some (.int 999 u1)))
    (g2 : PySem.W.nsIn K mainGlobals "LONGEST_TEXT" = some (some (.int 40 u2)))
    (g3 : PySem.W.nsIn K mainGlobals "LONGEST_KEY" = some (some (.int 8 u3)))
    (g4 : PySem.W.nsIn K mainGlobals "MOST_STATEMENTS" = some (some (.int 200 u4)))
    (g5 : PySem.W.nsIn K mainGlobals "MOST_PAIRS" = some (some (.int 8 u5)))
    (g6 : PySem.W.nsIn K mainGlobals "DEEPEST" = some (some (.int 5 u6)))
    (z_len : PySem.W.nsIn K mainGlobals "len" = some none) (z_abs : PySem.W.nsIn K mainGlobals "abs" = some none) (z_all : PySem.W.nsIn K mainGlobals "all" = some none) (z_isinstance : PySem.W.nsIn K mainGlobals "isinstance" = some none) (z_int : PySem.W.nsIn K mainGlobals "int" = some none) (z_str : PySem.W.nsIn K mainGlobals "str" = some none) (z_bool : PySem.W.nsIn K mainGlobals "bool" = some none) (z_type : PySem.W.nsIn K mainGlobals "type" = some none) (z_range : PySem.W.nsIn K mainGlobals "range" = some none) (z_list : PySem.W.nsIn K mainGlobals "list" = some none) (z_tuple : PySem.W.nsIn K mainGlobals "tuple" = some none) (z_zip : PySem.W.nsIn K mainGlobals "zip" = some none) (z_set : PySem.W.nsIn K mainGlobals "set" = some none)
    (gE : PySem.W.nsIn K mainGlobals "EXPRESSIONS" = some (some (.ref dE)))
    (gS : PySem.W.nsIn K mainGlobals "STATEMENTS" = some (some (.ref dS)))
    (tE : He.dicW K dE = some (He.keysIn w.params (["value", "var", "read", "peek", "state", "get", "has", "size", "use", "add", "join", "equal", "less", "not"] : List Str)))
    (tS : He.dicW K dS = some (He.keysIn w.params (["let", "if", "each", "try", "raise", "return", "emit", "write", "put", "remove", "reset", "dispose", "cleanup", "signal", "store", "scope", "boundary", "computed", "effect", "resource", "keyed", "atomic"] : List Str)))
    (rE : tabIn K dE = some eRows)
    (rS : tabIn K dS = some sRows) :
    ∃ fd : FuncData, (∀ (s : Shared) (v : Value), BindsTo s fd ⟨[v], []⟩ [("script", v)]) ∧ ∀ base : Heap, K.In base → base.Ns mainGlobals mg → FnOk l.prog w K mg base CX0 171 fa fd ["script"] (sp_law K) := by
  have e := hfa.symm.trans (PySem.W.mg_of X G a_law)
  cases e
  have GG : Gs mg u1 u2 u3 u4 u5 u6 dE dS K w := ⟨PySem.W.mg_none_of X G z_len, PySem.W.mg_none_of X G z_abs, PySem.W.mg_none_of X G z_all, PySem.W.mg_none_of X G z_isinstance, PySem.W.mg_none_of X G z_int, PySem.W.mg_none_of X G z_str, PySem.W.mg_none_of X G z_bool, PySem.W.mg_none_of X G z_type, PySem.W.mg_none_of X G z_range, PySem.W.mg_none_of X G z_list, PySem.W.mg_none_of X G z_tuple, PySem.W.mg_none_of X G z_zip, PySem.W.mg_none_of X G z_set, PySem.W.mg_of X G g1, PySem.W.mg_of X G g2, PySem.W.mg_of X G g3, PySem.W.mg_of X G g4, PySem.W.mg_of X G g5, PySem.W.mg_of X G g6, PySem.W.mg_of X G gE, PySem.W.mg_of X G gS, tab_of tE rE, tab_of tS rS⟩
  have F_is_value := fun_mk (st := s_is_value) l_is_value c_is_value k_is_value
  have m_is_value := PySem.W.mg_of X G a_is_value
  have b_is_value := F_is_value.binds (ps := ["thing"]) fun _ _ _ _ _ _ us hl => match us, hl with | [_], _ => rfl
  have F_is_key := fun_mk (st := s_is_key) l_is_key c_is_key k_is_key
  have m_is_key := PySem.W.mg_of X G a_is_key
  have b_is_key := F_is_key.binds (ps := ["thing"]) fun _ _ _ _ _ _ us hl => match us, hl with | [_], _ => rfl
  have F_has_word := fun_mk (st := s_has_word) l_has_word c_has_word k_has_word
  have m_has_word := PySem.W.mg_of X G a_has_word
  have b_has_word := F_has_word.binds (ps := ["thing"]) fun _ _ _ _ _ _ us hl => match us, hl with | [_], _ => rfl
  have F_are_keyed_pairs := fun_mk (st := s_are_keyed_pairs) l_are_keyed_pairs c_are_keyed_pairs k_are_keyed_pairs
  have m_are_keyed_pairs := PySem.W.mg_of X G a_are_keyed_pairs
  have b_are_keyed_pairs := F_are_keyed_pairs.binds (ps := ["thing"]) fun _ _ _ _ _ _ us hl => match us, hl with | [_], _ => rfl
  have F_is_part := fun_mk (st := s_is_part) l_is_part c_is_part k_is_part
  have m_is_part := PySem.W.mg_of X G a_is_part
  have b_is_part := F_is_part.binds (ps := ["kind", "thing", "depth"]) fun _ _ _ _ _ _ us hl => match us, hl with | [_, _, _], _ => rfl
  have F_is_expression := fun_mk (st := s_is_expression) l_is_expression c_is_expression k_is_expression
  have m_is_expression := PySem.W.mg_of X G a_is_expression
  have b_is_expression := F_is_expression.binds (ps := ["thing", "depth"]) fun _ _ _ _ _ _ us hl => match us, hl with | [_, _], _ => rfl
  have F_are_pairs := fun_mk (st := s_are_pairs) l_are_pairs c_are_pairs k_are_pairs
  have m_are_pairs := PySem.W.mg_of X G a_are_pairs
  have b_are_pairs := F_are_pairs.binds (ps := ["thing"]) fun _ _ _ _ _ _ us hl => match us, hl with | [_], _ => rfl
  have F_size_of_statement := fun_mk (st := s_size_of_statement) l_size_of_statement c_size_of_statement k_size_of_statement
  have m_size_of_statement := PySem.W.mg_of X G a_size_of_statement
  have b_size_of_statement := F_size_of_statement.binds (ps := ["thing", "depth"]) fun _ _ _ _ _ _ us hl => match us, hl with | [_, _], _ => rfl
  have F_size_of_block := fun_mk (st := s_size_of_block) l_size_of_block c_size_of_block k_size_of_block
  have m_size_of_block := PySem.W.mg_of X G a_size_of_block
  have b_size_of_block := F_size_of_block.binds (ps := ["thing", "depth"]) fun _ _ _ _ _ _ us hl => match us, hl with | [_, _], _ => rfl
  have F_is_program := fun_mk (st := s_is_program) l_is_program c_is_program k_is_program
  have m_is_program := PySem.W.mg_of X G a_is_program
  have b_is_program := F_is_program.binds (ps := ["thing"]) fun _ _ _ _ _ _ us hl => match us, hl with | [_], _ => rfl
  have F__law_cell := fun_mk (st := s__law_cell) l__law_cell c__law_cell k__law_cell
  have m__law_cell := PySem.W.mg_of X G a__law_cell
  have b__law_cell := F__law_cell.binds (ps := ["script", "k"]) fun _ _ _ _ _ _ us hl => match us, hl with | [_, _], _ => rfl
  have F__law_row := fun_mk (st := s__law_row) l__law_row c__law_row k__law_row
  have m__law_row := PySem.W.mg_of X G a__law_row
  have b__law_row := F__law_row.binds (ps := ["script", "first", "last"]) fun _ _ _ _ _ _ us hl => match us, hl with | [_, _, _], _ => rfl
  have F__law_draw := fun_mk (st := s__law_draw) l__law_draw c__law_draw k__law_draw
  have m__law_draw := PySem.W.mg_of X G a__law_draw
  have b__law_draw := F__law_draw.binds (ps := ["box", "many"]) fun _ _ _ _ _ _ us hl => match us, hl with | [_, _], _ => rfl
  have F__law_value := fun_mk (st := s__law_value) l__law_value c__law_value k__law_value
  have m__law_value := PySem.W.mg_of X G a__law_value
  have b__law_value := F__law_value.binds (ps := ["box"]) fun _ _ _ _ _ _ us hl => match us, hl with | [_], _ => rfl
  have F__law_is_bool := fun_mk (st := s__law_is_bool) l__law_is_bool c__law_is_bool k__law_is_bool
  have m__law_is_bool := PySem.W.mg_of X G a__law_is_bool
  have b__law_is_bool := F__law_is_bool.binds (ps := ["v"]) fun _ _ _ _ _ _ us hl => match us, hl with | [_], _ => rfl
  have F__law_is_key := fun_mk (st := s__law_is_key) l__law_is_key c__law_is_key k__law_is_key
  have m__law_is_key := PySem.W.mg_of X G a__law_is_key
  have b__law_is_key := F__law_is_key.binds (ps := ["v"]) fun _ _ _ _ _ _ us hl => match us, hl with | [_], _ => rfl
  have F__law_good_name := fun_mk (st := s__law_good_name) l__law_good_name c__law_good_name k__law_good_name
  have m__law_good_name := PySem.W.mg_of X G a__law_good_name
  have b__law_good_name := F__law_good_name.binds (ps := ["x"]) fun _ _ _ _ _ _ us hl => match us, hl with | [_], _ => rfl
  have F__law_good_value := fun_mk (st := s__law_good_value) l__law_good_value c__law_good_value k__law_good_value
  have m__law_good_value := PySem.W.mg_of X G a__law_good_value
  have b__law_good_value := F__law_good_value.binds (ps := ["v"]) fun _ _ _ _ _ _ us hl => match us, hl with | [_], _ => rfl
  have F__law_good_expr := fun_mk (st := s__law_good_expr) l__law_good_expr c__law_good_expr k__law_good_expr
  have m__law_good_expr := PySem.W.mg_of X G a__law_good_expr
  have b__law_good_expr := F__law_good_expr.binds (ps := ["e", "depth"]) fun _ _ _ _ _ _ us hl => match us, hl with | [_, _], _ => rfl
  have F__law_good_pairs := fun_mk (st := s__law_good_pairs) l__law_good_pairs c__law_good_pairs k__law_good_pairs
  have m__law_good_pairs := PySem.W.mg_of X G a__law_good_pairs
  have b__law_good_pairs := F__law_good_pairs.binds (ps := ["pairs"]) fun _ _ _ _ _ _ us hl => match us, hl with | [_], _ => rfl
  have F__law_forms := fun_mk (st := s__law_forms) l__law_forms c__law_forms k__law_forms
  have m__law_forms := PySem.W.mg_of X G a__law_forms
  have b__law_forms := F__law_forms.binds (ps := []) fun _ _ _ _ _ _ us hl => match us, hl with | [], _ => rfl
  have F__law_count := fun_mk (st := s__law_count) l__law_count c__law_count k__law_count
  have m__law_count := PySem.W.mg_of X G a__law_count
  have b__law_count := F__law_count.binds (ps := ["block", "depth"]) fun _ _ _ _ _ _ us hl => match us, hl with | [_, _], _ => rfl
  have F__law_some_name := fun_mk (st := s__law_some_name) l__law_some_name c__law_some_name k__law_some_name
  have m__law_some_name := PySem.W.mg_of X G a__law_some_name
  have b__law_some_name := F__law_some_name.binds (ps := ["box"]) fun _ _ _ _ _ _ us hl => match us, hl with | [_], _ => rfl
  have F__law_some_expr := fun_mk (st := s__law_some_expr) l__law_some_expr c__law_some_expr k__law_some_expr
  have m__law_some_expr := PySem.W.mg_of X G a__law_some_expr
  have b__law_some_expr := F__law_some_expr.binds (ps := ["box", "depth"]) fun _ _ _ _ _ _ us hl => match us, hl with | [_, _], _ => rfl
  have F__law_some_part := fun_mk (st := s__law_some_part) l__law_some_part c__law_some_part k__law_some_part
  have m__law_some_part := PySem.W.mg_of X G a__law_some_part
  have b__law_some_part := F__law_some_part.binds (ps := ["box", "letter", "depth"]) fun _ _ _ _ _ _ us hl => match us, hl with | [_, _, _], _ => rfl
  have F__law_some_block := fun_mk (st := s__law_some_block) l__law_some_block c__law_some_block k__law_some_block
  have m__law_some_block := PySem.W.mg_of X G a__law_some_block
  have b__law_some_block := F__law_some_block.binds (ps := ["box", "depth"]) fun _ _ _ _ _ _ us hl => match us, hl with | [_, _], _ => rfl
  have F_law := fun_mk (st := s_law) l_law c_law k_law
  have m_law := PySem.W.mg_of X G a_law
  refine ⟨PySem.W.fnOf "law" "law" (defArgs s_law) (defBody s_law) (defScope s_law) .none kV_law dc_law pm_law an_law cd_law ct_law, fun s v => .of_eq rfl, fun base _ _ => ?_⟩
  have H_is_value : Has l.prog w K mg base 1 "is_value" ["thing"] _ := ⟨f_is_value, _, ok_is_value F_is_value GG , m_is_value, k_is_value, b_is_value⟩
  have H_is_key : Has l.prog w K mg base 1 "is_key" ["thing"] _ := ⟨f_is_key, _, ok_is_key F_is_key GG , m_is_key, k_is_key, b_is_key⟩
  have H_has_word : Has l.prog w K mg base 1 "has_word" ["thing"] _ := ⟨f_has_word, _, ok_has_word F_has_word GG , m_has_word, k_has_word, b_has_word⟩
  have H_are_keyed_pairs : Has l.prog w K mg base 3 "are_keyed_pairs" ["thing"] _ := ⟨f_are_keyed_pairs, _, ok_are_keyed_pairs F_are_keyed_pairs GG H_is_key, m_are_keyed_pairs, k_are_keyed_pairs, b_are_keyed_pairs⟩
  have EE := ok_exprs F_is_part F_is_expression F_are_pairs GG m_is_part m_is_expression m_are_pairs b_is_part b_is_expression b_are_pairs H_is_key H_is_value H_has_word H_are_keyed_pairs (P := l.prog) (w := w) (base := base)
  have HP : ∀ n, Has l.prog w K mg base (3 * n + 5) "is_part" ["kind", "thing", "depth"] (sp_is_part n) := fun n => ⟨f_is_part, _, (EE n).1, m_is_part, k_is_part, b_is_part⟩
  have SS := ok_sizes F_size_of_statement F_size_of_block GG m_size_of_statement m_size_of_block b_size_of_statement b_size_of_block H_has_word HP
  have H_size_of_block : Has l.prog w K mg base 158 "size_of_block" ["thing", "depth"] (sp_size_of_block 50) := ⟨f_size_of_block, _, (SS 50).2, m_size_of_block, k_size_of_block, b_size_of_block⟩
  have H_is_program : Has l.prog w K mg base 170 "is_program" ["thing"] _ := ⟨f_is_program, _, ok_is_program F_is_program GG H_size_of_block, m_is_program, k_is_program, b_is_program⟩
  have H__law_cell : Has l.prog w K mg base 1 "_law_cell" ["script", "k"] _ := ⟨f__law_cell, _, ok__law_cell F__law_cell GG , m__law_cell, k__law_cell, b__law_cell⟩
  have H__law_row : Has l.prog w K mg base 2 "_law_row" ["script", "first", "last"] _ := ⟨f__law_row, _, ok__law_row F__law_row GG H__law_cell, m__law_row, k__law_row, b__law_row⟩
  have H__law_draw : Has l.prog w K mg base 1 "_law_draw" ["box", "many"] _ := ⟨f__law_draw, _, ok__law_draw F__law_draw GG , m__law_draw, k__law_draw, b__law_draw⟩
  have H__law_value : Has l.prog w K mg base 2 "_law_value" ["box"] _ := ⟨f__law_value, _, ok__law_value F__law_value GG H__law_draw, m__law_value, k__law_value, b__law_value⟩
  have H__law_is_bool : Has l.prog w K mg base 1 "_law_is_bool" ["v"] _ := ⟨f__law_is_bool, _, ok__law_is_bool F__law_is_bool GG , m__law_is_bool, k__law_is_bool, b__law_is_bool⟩
  have H__law_is_key : Has l.prog w K mg base 1 "_law_is_key" ["v"] _ := ⟨f__law_is_key, _, ok__law_is_key F__law_is_key GG , m__law_is_key, k__law_is_key, b__law_is_key⟩
  have H__law_good_name : Has l.prog w K mg base 2 "_law_good_name" ["x"] _ := ⟨f__law_good_name, _, ok__law_good_name F__law_good_name GG H__law_is_key, m__law_good_name, k__law_good_name, b__law_good_name⟩
  have H__law_good_value : Has l.prog w K mg base 2 "_law_good_value" ["v"] _ := ⟨f__law_good_value, _, ok__law_good_value F__law_good_value GG H__law_is_bool, m__law_good_value, k__law_good_value, b__law_good_value⟩
  have H__law_good_expr : Has l.prog w K mg base 60 "_law_good_expr" ["e", "depth"] (sp__law_good_expr 57) := ⟨f__law_good_expr, _, ok__law_good_expr F__law_good_expr GG m__law_good_expr b__law_good_expr H__law_good_name H__law_good_value 57, m__law_good_expr, k__law_good_expr, b__law_good_expr⟩
  have H__law_good_pairs : Has l.prog w K mg base 61 "_law_good_pairs" ["pairs"] _ := ⟨f__law_good_pairs, _, ok__law_good_pairs F__law_good_pairs GG H__law_good_name H__law_good_expr, m__law_good_pairs, k__law_good_pairs, b__law_good_pairs⟩
  have H__law_forms : Has l.prog w K mg base 1 "_law_forms" [] _ := ⟨f__law_forms, _, ok__law_forms F__law_forms GG , m__law_forms, k__law_forms, b__law_forms⟩
  have H__law_count : Has l.prog w K mg base 119 "_law_count" ["block", "depth"] (sp__law_count 56) := ⟨f__law_count, _, ok__law_count F__law_count GG m__law_count b__law_count H__law_good_name H__law_good_expr H__law_good_pairs H__law_forms 56 (Nat.le_refl _), m__law_count, k__law_count, b__law_count⟩
  have H__law_some_name : Has l.prog w K mg base 2 "_law_some_name" ["box"] _ := ⟨f__law_some_name, _, ok__law_some_name F__law_some_name GG H__law_draw, m__law_some_name, k__law_some_name, b__law_some_name⟩
  have H__law_some_expr : Has l.prog w K mg base 11 "_law_some_expr" ["box", "depth"] (spE 7) := ⟨f__law_some_expr, _, ok__law_some_expr F__law_some_expr GG m__law_some_expr b__law_some_expr H__law_draw H__law_value H__law_some_name 7, m__law_some_expr, k__law_some_expr, b__law_some_expr⟩
  have BB := ok_blocks F__law_some_part F__law_some_block GG m__law_some_part m__law_some_block b__law_some_part b__law_some_block H__law_draw H__law_forms H__law_some_name H__law_some_expr
  have H__law_some_block : Has l.prog w K mg base 28 "_law_some_block" ["box", "depth"] (spB 8) := ⟨f__law_some_block, _, BB 8, m__law_some_block, k__law_some_block, b__law_some_block⟩
  exact ok_law F_law GG H__law_row H__law_draw H_is_program H__law_count H__law_some_block
end K3

open PySem PySem.W PyProof.Rows in
set_option maxRecDepth 100000 in
set_option maxHeartbeats 0 in
theorem PySem.Challenge.cw_ripplewell_k03_programs_holds : PySem.Challenge.rw_ripplewell_k03_programs.Holds := by
  w_on; o_law; k_head; (case hw => w_witness2)
  k_fill
  refine L2.walk_of (l := PySem.Challenge.rw_ripplewell_k03_programs) (n := 63) (k := 171) (x := "script") (CX := fun _ => L2.CX0) (sp := fun w => K3.sp_law _) rfl (by decide) rfl ⟨rfl, by decide, by decide⟩ (fun w h Y => PySem.W.kIn_of Y) ?F (fun _ _ a ns hl _ hS => ⟨ns, hS, fun _ => rfl⟩) (fun _ _ _ _ _ h => h)
  case F =>
    intro w mg fa h KX G hmg
    refine' K3.all_mk KX G hmg ?a_is_value ?l_is_value ?c_is_value ?k_is_value ?a_is_key ?l_is_key ?c_is_key ?k_is_key ?a_has_word ?l_has_word ?c_has_word ?k_has_word ?a_are_keyed_pairs ?l_are_keyed_pairs ?c_are_keyed_pairs ?k_are_keyed_pairs ?a_is_part ?l_is_part ?c_is_part ?k_is_part ?a_is_expression ?l_is_expression ?c_is_expression ?k_is_expression ?a_are_pairs ?l_are_pairs ?c_are_pairs ?k_are_pairs ?a_size_of_statement ?l_size_of_statement ?c_size_of_statement ?k_size_of_statement ?a_size_of_block ?l_size_of_block ?c_size_of_block ?k_size_of_block ?a_is_program ?l_is_program ?c_is_program ?k_is_program ?a__law_cell ?l__law_cell ?c__law_cell ?k__law_cell ?a__law_row ?l__law_row ?c__law_row ?k__law_row ?a__law_draw ?l__law_draw ?c__law_draw ?k__law_draw ?a__law_value ?l__law_value ?c__law_value ?k__law_value ?a__law_is_bool ?l__law_is_bool ?c__law_is_bool ?k__law_is_bool ?a__law_is_key ?l__law_is_key ?c__law_is_key ?k__law_is_key ?a__law_good_name ?l__law_good_name ?c__law_good_name ?k__law_good_name ?a__law_good_value ?l__law_good_value ?c__law_good_value ?k__law_good_value ?a__law_good_expr ?l__law_good_expr ?c__law_good_expr ?k__law_good_expr ?a__law_good_pairs ?l__law_good_pairs ?c__law_good_pairs ?k__law_good_pairs ?a__law_forms ?l__law_forms ?c__law_forms ?k__law_forms ?a__law_count ?l__law_count ?c__law_count ?k__law_count ?a__law_some_name ?l__law_some_name ?c__law_some_name ?k__law_some_name ?a__law_some_expr ?l__law_some_expr ?c__law_some_expr ?k__law_some_expr ?a__law_some_part ?l__law_some_part ?c__law_some_part ?k__law_some_part ?a__law_some_block ?l__law_some_block ?c__law_some_block ?k__law_some_block ?a_law ?l_law ?c_law ?k_law ?g1 ?g2 ?g3 ?g4 ?g5 ?g6 ?z_len ?z_abs ?z_all ?z_isinstance ?z_int ?z_str ?z_bool ?z_type ?z_range ?z_list ?z_tuple ?z_zip ?z_set ?gE ?gS ?tE ?tS ?rE ?rS
    (case a_is_value => k_is)
    (case l_is_value => k_is)
    (case c_is_value => k_is)
    (case k_is_value => k_is)
    (case a_is_key => k_is)
    (case l_is_key => k_is)
    (case c_is_key => k_is)
    (case k_is_key => k_is)
    (case a_has_word => k_is)
    (case l_has_word => k_is)
    (case c_has_word => k_is)
    (case k_has_word => k_is)
    (case a_are_keyed_pairs => k_is)
    (case l_are_keyed_pairs => k_is)
    (case c_are_keyed_pairs => k_is)
    (case k_are_keyed_pairs => k_is)
    (case a_is_part => k_is)
    (case l_is_part => k_is)
    (case c_is_part => k_is)
    (case k_is_part => k_is)
    (case a_is_expression => k_is)
    (case l_is_expression => k_is)
    (case c_is_expression => k_is)
    (case k_is_expression => k_is)
    (case a_are_pairs => k_is)
    (case l_are_pairs => k_is)
    (case c_are_pairs => k_is)
    (case k_are_pairs => k_is)
    (case a_size_of_statement => k_is)
    (case l_size_of_statement => k_is)
    (case c_size_of_statement => k_is)
    (case k_size_of_statement => k_is)
    (case a_size_of_block => k_is)
    (case l_size_of_block => k_is)
    (case c_size_of_block => k_is)
    (case k_size_of_block => k_is)
    (case a_is_program => k_is)
    (case l_is_program => k_is)
    (case c_is_program => k_is)
    (case k_is_program => k_is)
    (case a__law_cell => k_is)
    (case l__law_cell => k_is)
    (case c__law_cell => k_is)
    (case k__law_cell => k_is)
    (case a__law_row => k_is)
    (case l__law_row => k_is)
    (case c__law_row => k_is)
    (case k__law_row => k_is)
    (case a__law_draw => k_is)
    (case l__law_draw => k_is)
    (case c__law_draw => k_is)
    (case k__law_draw => k_is)
    (case a__law_value => k_is)
    (case l__law_value => k_is)
    (case c__law_value => k_is)
    (case k__law_value => k_is)
    (case a__law_is_bool => k_is)
    (case l__law_is_bool => k_is)
    (case c__law_is_bool => k_is)
    (case k__law_is_bool => k_is)
    (case a__law_is_key => k_is)
    (case l__law_is_key => k_is)
    (case c__law_is_key => k_is)
    (case k__law_is_key => k_is)
    (case a__law_good_name => k_is)
    (case l__law_good_name => k_is)
    (case c__law_good_name => k_is)
    (case k__law_good_name => k_is)
    (case a__law_good_value => k_is)
    (case l__law_good_value => k_is)
    (case c__law_good_value => k_is)
    (case k__law_good_value => k_is)
    (case a__law_good_expr => k_is)
    (case l__law_good_expr => k_is)
    (case c__law_good_expr => k_is)
    (case k__law_good_expr => k_is)
    (case a__law_good_pairs => k_is)
    (case l__law_good_pairs => k_is)
    (case c__law_good_pairs => k_is)
    (case k__law_good_pairs => k_is)
    (case a__law_forms => k_is)
    (case l__law_forms => k_is)
    (case c__law_forms => k_is)
    (case k__law_forms => k_is)
    (case a__law_count => k_is)
    (case l__law_count => k_is)
    (case c__law_count => k_is)
    (case k__law_count => k_is)
    (case a__law_some_name => k_is)
    (case l__law_some_name => k_is)
    (case c__law_some_name => k_is)
    (case k__law_some_name => k_is)
    (case a__law_some_expr => k_is)
    (case l__law_some_expr => k_is)
    (case c__law_some_expr => k_is)
    (case k__law_some_expr => k_is)
    (case a__law_some_part => k_is)
    (case l__law_some_part => k_is)
    (case c__law_some_part => k_is)
    (case k__law_some_part => k_is)
    (case a__law_some_block => k_is)
    (case l__law_some_block => k_is)
    (case c__law_some_block => k_is)
    (case k__law_some_block => k_is)
    (case a_law => k_is)
    (case l_law => k_is)
    (case c_law => k_is)
    (case k_law => k_is)
    (case g1 => k_is)
    (case g2 => k_is)
    (case g3 => k_is)
    (case g4 => k_is)
    (case g5 => k_is)
    (case g6 => k_is)
    (case z_len => k_is)
    (case z_abs => k_is)
    (case z_all => k_is)
    (case z_isinstance => k_is)
    (case z_int => k_is)
    (case z_str => k_is)
    (case z_bool => k_is)
    (case z_type => k_is)
    (case z_range => k_is)
    (case z_list => k_is)
    (case z_tuple => k_is)
    (case z_zip => k_is)
    (case z_set => k_is)
    (case gE => k_is)
    (case gS => k_is)
    (case tE => first | k_is | rfl)
    (case tS => first | k_is | rfl)
    (case rE => first | k_is | rfl)
    (case rS => first | k_is | rfl)
