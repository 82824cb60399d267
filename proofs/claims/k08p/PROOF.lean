import PyProof.Rows.All
import Wide.All
import OpenK.AllK
import Wide.FinOn
import HandS.ForMost
import HandS.ForExc
import HandS.ExcInit
import HandS.ExcIs
import HandS.ExcField
import HandS.ClsMeth
import HandS.SlotsOwn
import HandS.IsInst
import HandS.Lambda
import HandS.EndTab
import HandS.Defaults
import HandS.MakeKw
import HandS.MakeKwOnly
import HandS.FStr
import HandS.StrMore
import HandS.Strs
import HandS.TupLe
import HandS.TupAny
import HandS.ListItems
import HandS.DictComp
import HandS.DictEq
import HandS.Wide
import HandS.Conv
import HandS.Zip
import HandS.Walk
import HandS.Deep
import HandS.Flow
import HandS.Style
import HandS.Small
import HandS.Codes
import HandS.AnyAll
import HandS.NoneIn
import HandS.RaiseMore
import KE.KOpsOwn
import PyProof.FString3
import KE.KExcIs
import HandS.ExcValue
import PySem.Challenge.RW_takenup_k08_sums_and_their_order
set_option Elab.async false
set_option linter.all false
set_option maxRecDepth 100000
set_option maxHeartbeats 2000000
namespace My
open PySem PySem.Spec PyProof.Rows L2
section
variable {X : Cx} {o e : Expr} {es : List Expr} {to te : TE} {ta : TA} {f x : Str} {p p' p1 p2 pos : Pos} {C T : Addr} {mc : Value}
/-- T.__init__(self, ..), T an own class over ValueError without an __init__ of its own -/
theorem pe_tinit {pl : Sem Bool} (hg : Gl X x) (hm : X.mg x = some (.ref T)) (r : ClX.CRead X.K T mc) (k : PySem.W.findCls X.K (.ref T) mc "__init__" = some (.val (.builtin "ValueError.__init__"))) (ha : PA X (e :: es) ta)
    (hdb : (x == ("__debug__" : Str)) = false := by decide)
    (hc : eval (.Call (.Attribute (.Name x p1) "__init__" p2) (e :: es) [] pos) X.env = (do
      let ov ← eval (.Name x p1) X.env
      standAt p2.atName
      let (f, first) ← holding [ov] (getMethod ov "__init__" pl)
      callWith pos f first (backTo pos (starEach (e :: es) X.env)) (backToKw pos (keywordEach [] X.env))) := by rfl)
    (he : starEach (e :: es) X.env = (false, eval e X.env) :: starEach es X.env := by rfl) (hpl : (backTo pos (starEach es X.env)).any (·.1) = false := by rfl) :
    PE X (.Call (.Attribute (.Name x p1) "__init__" p2) (e :: es) [] pos) (tVeI X.K ta) := by
  refine ⟨fun pins s σ H Q I h => ?_⟩
  refine PySem.W.methodCall_KW (ld_glob I hg hm ?_ hdb) hc
  refine PySem.W.method_cls I.kIn r.ga (PySem.W.cls_value I.kIn r.rd k (by decide +kernel) ?_)
  have I0 := I.tok (s.toks + 1)
  show wpAny _ _ (callWith pos (Value.builtin "ValueError.__init__") [] (backTo pos (starEach (e :: es) X.env)) []) _ _ _
  refine PyProof.Rows.callWith_method1 (thn (ha.run pos pins _ σ H _ (I0.tok _) h) fun us s1 ⟨vs, H1, I1, r1, a, C, ws, ev, hl, T, ea, q⟩ => ?_) he hpl
  subst ev
  cases r1 with
  | @cons _ u0 _ ur ra rw' =>
    obtain rfl : u0 = Value.ref a := ra
    have hlen : ur.length ≤ sizeLine := by
      rw [← Paired.length rw', sizeLine_eq]
      omega
    exact oinit_ok T I1 ea hlen fun s' J => ⟨.non, H1, J, rfl, q⟩
end

/-! ### what a value's type looks like -/
section
variable {X : Cx} {pins : List (Addr × Obj)} {σ : L2.St} {H : Hp} {s : Shared}
theorem looks_ty {x : V} {u t : Value} (I : Inv X pins σ H s) (rx : RelV x u) (ty : TyX X.K H x t) : PySem.W.Looks (model X.prog X.w) s.heap (typeOf u) t := by
  obtain ⟨P, kx, ph, _⟩ := kit_of I rx ty
  exact kx.ty _ _ I.kIn ph
end
/-! ### own comparisons and own + and - of instances -/
section
variable {X : Cx} {CX : CXT} {C g : Addr} {n : Nat} {sp : Sp} {E : XK}
/-- x op y, x an instance of the class at C whose def for op is at g -/
def rCmpI (K : PySem.W.Frag) (C : Addr) (sp : Sp) (E : XK) : R2 := fun x y H Q => ∃ a dx fs t, x = .ref a ∧ H a = some (.ins C dx fs) ∧ TyX K H y t ∧ PySem.W.notFirst K C t = true ∧ sp [x, y] H Q E
theorem op_cmpI {op : CmpOp} (hop : ∀ a b, compareOp op a b = richCompare op a b) (hs : PySem.W.findIn X.K (.ref C) (cmpInfo op).2.1 = some (some (.ref g))) (hf : PySem.W.isFn X.K (.ref g) = true)
    (F : FnR X.prog X.w X.K X.mg X.base CX n g sp) (hr : Room n X.A) (hx : Passes CX X E) : OpR X (compareOp op) (rCmpI X.K C sp E) := by
  intro pins s σ H x y v u Q I rx ry h
  obtain ⟨a, dx, fs, t, rfl, ha, ty, hn, q⟩ := h
  cases (show v = Value.ref a from rx)
  obtain ⟨mA, O, _⟩ := ins_get I.hok ha
  obtain ⟨od, J, _⟩ := O.look
  obtain ⟨m, hF⟩ := I.fr
  rw [hop]
  refine PySem.W.cmp_K (op := op) (tb := t) hr.units0 hF I.ok.mod.kin J (looks_ty I ry ty) hn hs hf ?_
  refine wpAny_mono (wpAny_call (run_fnR (us := [.ref a, u]) (vs := [.ref a, y]) F hr hx I (.cons rfl (.cons ry .nil)) q)) (fun w s' z => ?_) fun _ _ x => x
  obtain ⟨z', H', I', rz, qz⟩ := z
  exact SlX.cmpback rz ⟨z', H', I', rz, qz⟩
/-- the right operand's type, seen from + and -: a built-in one that is told by its slots, or the same class -/
inductive RightT (K : PySem.W.Frag) (C : Addr) (nm : String) : Value → Prop where
  | same : RightT K C nm (.ref C)
  | ty {T : String} {fo ro : Option Value} (h1 : PySem.W.findIn K (.type T) (PySem.dunder nm) = some fo) (h2 : PySem.W.findIn K (.type T) (PySem.dunderR nm) = some ro) (hsub : PySem.W.subIn K (.type T) (.ref C) = some false) : RightT K C nm (.type T)
structure OwnBin (K : PySem.W.Frag) (C g : Addr) (nm : String) : Prop where
  first : PySem.W.selfFirst K C = true
  at_ : PySem.W.findIn K (.ref C) (PySem.dunder nm) = some (some (.ref g))
  fn : PySem.W.isFn K (.ref g) = true
  noR : PySem.W.findIn K (.ref C) (PySem.dunderR nm) = some none
def rBinI (K : PySem.W.Frag) (C : Addr) (nm : String) (sp : Sp) (E : XK) : R2 := fun x y H Q => ∃ a dx fs t, x = .ref a ∧ H a = some (.ins C dx fs) ∧ TyX K H y t ∧ RightT K C nm t ∧ sp [x, y] H Q E
end
section
open PySem.W
variable {prog : Program} {w : World} {A : Around} {E : Value → Shared → Prop} {s : Shared} {K : Frag} {x C L f : Addr} {h₀ : Heap} {m : Str → Option Value} {ox : Obj} {od : Option Obj} {T : String}
theorem bin_ty {op : Operator} {nm : String} {b : Value} {fo ro : Option Value} {Q : Value → Shared → Prop} (hi : op.info.2 = nm) (X : K.In s.heap) (I : InstAt s.heap x ox C od) (hb : Looks (model prog w) s.heap (typeOf b) (.type T)) (B : OwnBin K C f nm)
    (h1 : findIn K (.type T) (PySem.dunder nm) = some fo) (h2 : findIn K (.type T) (dunderR nm) = some ro) (hsub : subIn K (.type T) (.ref C) = some false)
    (h : wpAny (model prog w) A (call (.ref f) [.ref x, b]) (PySem.W.CmpBack Q) E s) : wpAny (model prog w) A (binaryOp op (.ref x) b) Q E s := by
  obtain ⟨cd, rest, hcd, hm⟩ := ksp_first B.first
  have one := ksp_try X I B.at_ B.fn h
  obtain ⟨hh, g, d, tt, os⟩ := s
  have l1 : Looks (model prog w) hh (typeOf (.ref x)) (.ref C) := I.type
  have l2 : Looks (model prog w) hh (typeOf b) (.type T) := hb
  have l3 : Looks (model prog w) hh (fillsNumberSlot (.ref C) nm) true := fills_K X hcd hm B.at_
  have l4 := ksp_fillsT (M := model prog w) X h1 h2
  have l5 : Looks (model prog w) hh (isSubtype (.type T) (.ref C)) false := looks_subIn X hsub
  have l6 : Looks (model prog w) hh (numberSlotInPython (.ref C) nm) true := ksp_inPy X B.at_ B.noR (.inl rfl)
  have l7 : Looks (model prog w) hh (numberSlotInPython (.type T) nm) false := Looks.of_pure rfl
  have l8 : Looks (model prog w) hh (typeLookup (.type T) (dunderR nm)) ro := looks_findIn X h2
  generalize ((fo.isSome && !isSeqSlot fo) || (ro.isSome && !isSeqSlot ro)) = right at l4
  have hne : (Value.ref C == Value.type T) = false := Bool.eq_false_iff.mpr fun q => nomatch beq_iff_eq.mp q
  simp only [binaryOp, hi]
  refine wpAny_holding (wpAny_bind ?_)
  unfold binaryOp1
  refine wpAny_bind (l1.at (wpAny_bind (l2.at (wpAny_bind (l3.at ?_)))))
  simp only [hne, Bool.false_eq_true, if_false]
  cases right
  all_goals
    ksp_lk
    refine wpAny_mono one (fun r s' z => ?_) fun _ _ e => e
    obtain ⟨v, rfl, hq⟩ := z
    ksp_lk
    exact hq
end
section
variable {X : Cx} {CX : CXT} {C g : Addr} {n : Nat} {sp : Sp} {E : XK}
theorem op_binI {op : Operator} {nm : String} (hi : op.info.2 = nm) (B : OwnBin X.K C g nm) (F : FnR X.prog X.w X.K X.mg X.base CX n g sp) (hr : Room n X.A) (hx : Passes CX X E) : OpR X (binaryOp op) (rBinI X.K C nm sp E) := by
  intro pins s σ H x y v u Q I rx ry h
  obtain ⟨a, dx, fs, t, rfl, ha, ty, rt, q⟩ := h
  cases (show v = Value.ref a from rx)
  obtain ⟨mA, O, _⟩ := ins_get I.hok ha
  obtain ⟨od, J, _⟩ := O.look
  obtain ⟨m, hF⟩ := I.fr
  have lt := looks_ty I ry ty
  have back : wpAny (model X.prog X.w) X.A (call (.ref g) [.ref a, u]) (PySem.W.CmpBack (EP X pins σ Q)) X.xe s := by
    refine wpAny_mono (wpAny_call (run_fnR (us := [.ref a, u]) (vs := [.ref a, y]) F hr hx I (.cons rfl (.cons ry .nil)) q)) (fun w s' z => ?_) fun _ _ x => x
    obtain ⟨z', H', I', rz, qz⟩ := z
    exact SlX.cmpback rz ⟨z', H', I', rz, qz⟩
  cases rt with
  | same =>
    have at2 : PySem.W.findIn X.K (.ref C) (PySem.dunder op.info.2) = some (some (.ref g)) := by rw [hi]; exact B.at_
    exact PySem.W.binop_K hF I.ok.mod.kin J lt B.first at2 B.fn back
  | ty h1 h2 hsub => exact bin_ty hi I.kIn J lt B h1 h2 hsub back
end
end My
namespace My
open PySem PySem.Builtin PySem.Builtin.Int PySem.Builtin.Str PyProof.Rows PySem.Builtin.Float
def pd : Str := "+d"
def plusD (a : Int) : Str := ⟨((if a < 0 then [45] else [43]) ++ (Nat.toDigits 10 a.natAbs).map Char.toNat).toArray⟩
theorem fpd : ∀ n, parseFormatSpec pd.cps.toList n 62 = .ok { sign := some 43, align := 62, type := some 100 } := fun n => rfl
def f1 : FormatSpec := { align := 62, sign := some 43, type := some 100 }
theorem text_f1 (a : Int) : intSpecText f1 a = plusD a := by
  unfold intSpecText intField' plusD
  have hp := PyProof.Rows.tDigits_len_ge 10 a.natAbs
  have hn : ((Nat.toDigits 10 a.natAbs).map fun c => (if (100 : Nat) == 88 then c.toUpper else c).toNat) = (Nat.toDigits 10 a.natAbs).map Char.toNat := by
    simp
  rw [hn]
  have h2 : ((Nat.toDigits 10 a.natAbs).map Char.toNat).isEmpty = false := by
    cases e : Nat.toDigits 10 a.natAbs with
    | nil => rw [e] at hp; simp at hp
    | cons c cs => rfl
  by_cases ha : a < 0
  · simp [f1, ha, h2]
  · simp [f1, ha, h2]
theorem dig_len {n k : Nat} (hk : 1 ≤ k) (h : n.log2 < k) : (Nat.toDigits 10 n).length ≤ k := by
  refine PyProof.Rows.digits10_le hk ?_
  have h2 : n < 2 ^ k := by
    by_cases hz : n = 0
    · rw [hz]
      exact Nat.two_pow_pos k
    · exact (Nat.log2_lt hz).mp h
  exact Nat.lt_of_lt_of_le h2 (Nat.pow_le_pow_left (by decide) k)
theorem plusD_len (a : Int) (h : a.natAbs.log2 < 1920) : (plusD a).length ≤ sizeLine := by
  have hl := dig_len (by decide) h
  unfold plusD Str.length
  rw [sizeLine_eq]
  by_cases ha : a < 0
  · simp [ha]
    omega
  · simp [ha]
    omega
theorem gives_plus (a : Int) (t u : Tok) (h : a.natAbs.log2 < 1920) : Gives («int.__format__» ⟨[.int a t, .str pd u], []⟩) (.str (plusD a)) := by
  intro prog w A R s hq
  unfold «int.__format__»
  have hne : (pd.length == 0) = false := by decide
  have hasc : ((pd.cps.toList.drop 1).any (· ≥ 128) || (pd.cps.getD 0 0 ≥ 128 && !([60, 62, 61, 94] : List Nat).contains (pd.cps.getD 1 0))) = false := by decide
  simp only [selfAndOne, noKeywords, Int.intOfSelf, asInt?, asStr?, List.isEmpty_nil, if_true, pure_bind, bind_pure, bind_assoc, hne, hasc, Bool.false_eq_true, if_false,
    show (Value.str pd u == Value.none) = false from rfl]
  refine wpAny_bind (wpAny_typeNameOf (T := "str") (typeIs_str _ _ _) (by decide) fun _ => ?_)
  first | refine wpAny_bind (wpAny_typeNameOfCut_int ?_) | refine wpAny_bind (wpAny_typeNameOf_int ?_)
  simp only [fpd, Option.getD_some]
  refine PySem.W.KFB.if_so (by decide +kernel) ?_
  show wpAny _ _ (do let r ← Builtin.overDigitLimit? a; _) _ _ _
  rw [PySem.overDigitLimit_small h]
  refine wpAny_bind (wpAny_pure ?_)
  show wpAny _ _ (retStr _) _ _ _
  refine Eq.mp (congrArg (fun z => wpAny (model prog w) A.in1 (retStr z) _ _ s) (show intSpecText f1 a = _ from ?_)) ?_
  · rw [text_f1]
    conv => rhs; whnf
    unfold plusD
    have hp := PyProof.Rows.tDigits_len_ge 10 a.natAbs
    cases e : Nat.toDigits 10 a.natAbs with
    | nil => rw [e] at hp; simp at hp
    | cons c cs =>
      by_cases ha : a < 0
      · simp [ha, e]
        omega
      · simp [ha, e]
        omega
  rw [text_f1]
  unfold retStr
  exact wpAny_bind (wpAny_mkStr (wpAny_pure hq.2) hq.1)
end My
namespace My
open PySem PySem.Spec PyProof.Rows L2
section
variable {X : Cx}
def tFmtP (te : TE) : TE := fun σ H Q => te σ H fun x H1 => ∃ i : Int, x = .int i ∧ i.natAbs.log2 < 1920 ∧ Q (.str (plusD i)) H1
theorem pe_fmtP {e : Expr} {te : TE} {k : Nat} {pos p1 p2 : Pos} (he : PE X e te) : PE X (.FormattedValue e (-1) (some (.JoinedStr [.Constant (.str "+d") k p1] p2)) pos) (tFmtP te) := by
  refine ⟨fun pins s σ H Q I h => ?_⟩
  refine PySem.wpAny_FormattedValue_spec (thn (he.run pins s σ H _ I h) fun v s1 ⟨x, H1, I1, r1, i, ex, hi, q⟩ => ?_)
  subst ex
  obtain ⟨t, rfl⟩ : ∃ t, v = Value.int i t := r1
  refine thn ((pe_joined1 pe_str).run pins s1 σ H1 (fun y H' => y = .str "+d" ∧ H' = H1) I1 ⟨rfl, rfl⟩) fun w s2 ⟨y, H2, I2, r2, ey, eh⟩ => ?_
  subst ey
  subst eh
  obtain ⟨t2, rfl⟩ : ∃ t, w = Value.str "+d" t := r2
  refine ⟨_, t2, rfl, ?_⟩
  refine PySem.wpAny_formatField_spec (by decide) (fun s' => typeIs_int s' i t) F.slot_int_format F.entry_int_format F.args_int_format_2 (fun u => gives_plus i t u hi) ⟨.str (plusD i), _, I2.tok _, ⟨_, rfl⟩, q⟩ (by decide) (plusD_len i hi)
end
end My

namespace My
open PySem PySem.Spec PyProof.Rows L2
section
variable {X : Cx} {CX : CXT} {C g : Addr} {n : Nat} {sp : Sp} {E : XK}
/-- str(x), x an instance whose class has its own __str__ -/
theorem call_strI (hs : PySem.W.findIn X.K (.ref C) "__str__" = some (some (.ref g))) (hf : PySem.W.isFn X.K (.ref g) = true) (F : FnR X.prog X.w X.K X.mg X.base CX n g sp) (hr : Room (n + 2) X.A) (hx : Passes CX X E) :
    CallR X (.type "str") (fun xs H Q => ∃ a dx fs, xs = [V.ref a] ∧ H a = some (.ins C dx fs) ∧ sp [.ref a] H (fun z H' => ∃ y, z = .str y ∧ Q z H') E) := by
  intro pins s σ H xs us Q I r h
  obtain ⟨a, dx, fs, rfl, ha, q⟩ := h
  obtain ⟨u, rfl, ru⟩ := vals1 r
  cases (show u = Value.ref a from ru)
  obtain ⟨mA, O, _⟩ := ins_get I.hok ha
  obtain ⟨od, J, _⟩ := O.look
  have hr1 : Room (n + 1) X.A.in1 := hr.in1
  have hr2 : Room n X.A.in1.in1 := hr1.in1
  refine PySem.W.kso_call hr2.units0 I.kIn J hs hf (wpAny_mono (wpAny_call (SlX.run_at (us := [.ref a]) (ws := [.ref a]) F hr2 I.env0.in1.in1 hx I (.cons rfl .nil) q)) (fun w s' z => ?_) fun _ _ x => x)
  obtain ⟨z', H', I', rz, y, ey, qz⟩ := z
  subst ey
  obtain ⟨t, rfl⟩ : ∃ t, w = Value.str y t := rz
  exact ⟨.str y, H', I', ⟨t, rfl⟩, qz⟩
end
end My
namespace My
open PySem PySem.Spec PyProof.Rows L2
/-- C.m is a staticmethod: its record at p, its def at g -/
structure SMet (K : PySem.W.Frag) (C : Addr) (mc : Value) (m : Str) (p g : Addr) : Prop where
  at_ : PySem.W.findCls K (.ref C) mc m = some (.get (.builtin "staticmethod.__get__") (.ref p) .none (.ref C))
  rc : ∃ rest, PySem.W.recIn K p "staticmethod" = some (.ref g :: rest)
  kp : PySem.W.keepIn K (.ref g) = true
def tSMeth (C : Addr) (sp : Sp) (E : XK) (ta : TE) (t : TA) : TE := fun σ H Q => ta σ H fun x H1 => x = .ref C ∧ t σ H1 fun vs H2 => sp vs H2 Q E
section
variable {X : Cx} {CX : CXT} {pins : List (Addr × Obj)} {σ : L2.St} {H : Hp} {s : Shared} {C p g : Addr} {mc : Value} {m : Str} {k n : Nat} {sp : Sp} {E : XK} {o e : Expr} {es : List Expr} {kws : List Keyword} {ta : TE} {t tk : TA} {apos pos : Pos} {fd : FuncData} {ps ks : List Str} {g' : List Value → List Value → List Value} {gV : List V → List V → List V}
theorem getsm_ok {A : Around} {E : Value → Shared → Prop} {pl : Sem Bool} {Q : Value × List Value → Shared → Prop} (I : Inv X pins σ H s) (r : ClX.CRead X.K C mc) (k : SMet X.K C mc m p g) (h : ∀ s', Inv X pins σ H s' → Q (.ref g, []) s') :
    wpAny (model X.prog X.w) A (getMethod (.ref C) m pl) Q E s := by
  obtain ⟨rest, hp⟩ := k.rc
  refine PySem.W.method_cls I.kIn r.ga (PySem.W.cls_bind I.kIn r.rd k.at_ ?_)
  exact wpAny_call (PySem.W.sm_get (s := { s with toks := s.toks + 1 }) I.kIn hp (PySem.W.handed_on rfl (h _ (I.tok _))))
/-- C.m(e, ..), m a staticmethod -/
theorem pe_smeth {pl : Sem Bool} (he : PE X o ta) (r : ClX.CRead X.K C mc) (c : SMet X.K C mc m p g) (F : FnR X.prog X.w X.K X.mg X.base CX k g sp) (hr : Room k X.A) (hx : Passes CX X E) (ha : PA X (e :: es) t)
    (hst : starEach (e :: es) X.env = (false, eval e X.env) :: starEach es X.env := by rfl) (hpl : (backTo pos (starEach es X.env)).any (·.1) = false := by rfl)
    (ht : eval (.Call (.Attribute o m apos) (e :: es) [] pos) X.env = (do
      let ov ← eval o X.env
      standAt apos.atName
      let (f, first) ← holding [ov] (getMethod ov m pl)
      callWith pos f first (backTo pos (starEach (e :: es) X.env)) (backToKw pos (keywordEach [] X.env))) := by rfl) :
    PE X (.Call (.Attribute o m apos) (e :: es) [] pos) (tSMeth C sp E ta t) := by
  refine ⟨fun pins s σ H Q I h => PySem.W.methodCall_KW (pl := pl) (thn (he.run pins s σ H _ I h) fun u s1 ⟨x, H1, I1, rx, ex, q⟩ => ?_) ht⟩
  subst ex
  obtain rfl : u = Value.ref C := rx
  refine getsm_ok I1 r c fun s' I2 => ?_
  refine PySem.W.callWith_K (first := []) (h₀ := X.base) I.ok.mod.kin c.kp (thn (ha.run pos pins s' σ H1 _ I2 q) fun us s2 ⟨vs, H2, I3, r3, q2⟩ => ⟨I3.kIn, wpAny_call (run_fnR F hr hx I3 r3 q2)⟩) hst hpl
def tSMethK (C : Addr) (m : Nat) (sp : Sp) (gV : List V → List V → List V) (E : XK) (ta : TE) (tk : TA) : TE := fun σ H Q => ta σ H fun x H1 => x = .ref C ∧ tk σ H1 fun zs H2 => zs.length = m ∧ sp (gV [] zs) H2 Q E
/-- C.m(k = v), m a staticmethod -/
theorem pe_smethK {pl : Sem Bool} (he : PE X o ta) (r : ClX.CRead X.K C mc) (c : SMet X.K C mc m p g) (F : FnOk X.prog X.w X.K X.mg X.base CX k g fd ps sp) (hr : Room k X.A) (hb : KBn X.K fd ps 0 ks g' gV) (hx : Passes CX X E) (hkw : PK X kws tk)
    (hall : (backToKw pos (keywordEach kws X.env)).all (·.1.isSome) = true := by rfl) (hks : (backToKw pos (keywordEach kws X.env)).filterMap (·.1) = ks := by rfl)
    (hpl : ((backTo pos (starEach [] X.env)).any (·.1) || (backToKw pos (keywordEach kws X.env)).any (·.1.isNone)) = false := by rfl)
    (ht : eval (.Call (.Attribute o m apos) [] kws pos) X.env = (do
      let ov ← eval o X.env
      standAt apos.atName
      let (f, first) ← holding [ov] (getMethod ov m pl)
      callWith pos f first (backTo pos (starEach [] X.env)) (backToKw pos (keywordEach kws X.env))) := by rfl) :
    PE X (.Call (.Attribute o m apos) [] kws pos) (tSMethK C ks.length sp gV E ta tk) := by
  refine ⟨fun pins s σ H Q I h => PySem.W.methodCall_KW (pl := pl) (thn (he.run pins s σ H _ I h) fun u s1 ⟨x, H1, I1, rx, ex, q⟩ => ?_) ht⟩
  subst ex
  obtain rfl : u = Value.ref C := rx
  refine getsm_ok I1 r c fun s' I2 => ?_
  refine PySem.W.callWith_KW0 (h₀ := X.base) I.ok.mod.kin c.kp hall ?_ hpl
  refine thn (hkw.run pos pins s' σ H1 _ I2 q) fun ws s2 ⟨zs, H2, I3, rz, l2, q2⟩ => ⟨I3.kIn, ?_⟩
  rw [hks]
  exact run_fnN F hr hb hx I3 .nil rz rfl l2 q2
def tMethK (C : Addr) (f : Str) (m : Nat) (sp : Sp) (gV : List V → List V → List V) (E : XK) (ta : TE) (tk : TA) : TE := fun σ H Q => ta σ H fun x H1 => ∃ a dx fs, x = .ref a ∧ H1 a = some (.ins C dx fs) ∧ fs.lookup f = none ∧ tk σ H1 fun zs H2 => zs.length = m ∧ sp (gV [x] zs) H2 Q E
/-- o.m(k = v), o an instance -/
theorem pe_methK {pl : Sem Bool} (he : PE X o ta) (c : Cls X.K C) (hm : Meth X.K C m g) (F : FnOk X.prog X.w X.K X.mg X.base CX k g fd ps sp) (hr : Room k X.A) (hb : KBn X.K fd ps 1 ks g' gV) (hx : Passes CX X E) (hkw : PK X kws tk)
    (hall : (backToKw pos (keywordEach kws X.env)).all (·.1.isSome) = true := by rfl) (hks : (backToKw pos (keywordEach kws X.env)).filterMap (·.1) = ks := by rfl)
    (hpl : ((backTo pos (starEach [] X.env)).any (·.1) || (backToKw pos (keywordEach kws X.env)).any (·.1.isNone)) = false := by rfl)
    (ht : eval (.Call (.Attribute o m apos) [] kws pos) X.env = (do
      let ov ← eval o X.env
      standAt apos.atName
      let (f, first) ← holding [ov] (getMethod ov m pl)
      callWith pos f first (backTo pos (starEach [] X.env)) (backToKw pos (keywordEach kws X.env))) := by rfl) :
    PE X (.Call (.Attribute o m apos) [] kws pos) (tMethK C m ks.length sp gV E ta tk) := by
  refine ⟨fun pins s σ H Q I h => PySem.W.methodCall_KW (pl := pl) (thn (he.run pins s σ H _ I h) fun u s1 ⟨x, H1, I1, rx, a, dx, fs, ex, ea, l, q⟩ => ?_) ht⟩
  subst ex
  obtain rfl : u = Value.ref a := rx
  refine getmeth_ok I1 ea c hm l ?_
  refine PySem.W.callWith_KW0 (first := [.ref a]) (h₀ := X.base) I.ok.mod.kin hm.kp hall ?_ hpl
  refine thn (hkw.run pos pins s1 σ H1 _ I1 q) fun ws s2 ⟨zs, H2, I3, rz, l2, q2⟩ => ⟨I3.kIn, ?_⟩
  rw [hks]
  exact run_fnN (us := [.ref a]) (vs := [.ref a]) F hr hb hx I3 (.cons rfl .nil) rz rfl l2 q2
end
end My
namespace My
open PySem PySem.Spec PyProof.Rows L2
section
variable {X : Cx} {x : Str} {pos : Pos}
/-- a built-in class as a value -/
theorem pe_bty (n : String) (hg : Gl X x) (hm : X.mg x = none) (hb : bootBuiltins x = some (.type n)) (h1 : (x == ("__debug__" : Str)) = false := by decide) (h2 : x ≠ "__name__" := by decide) : PE X (.Name x pos) (tC (.ty n)) := by
  first | exact pe_bltn hg hm hb rfl | exact pe_bltn hg hm hb rfl h1 h2 | exact pe_bltn hg hm hb rfl h2 h1
theorem pe_gint {i : Int} (hg : Gl X x) (hm : ∃ t, X.mg x = some (.int i t)) (h1 : (x == ("__debug__" : Str)) = false := by decide) : PE X (.Name x pos) (tC (.int i)) := by
  obtain ⟨t, e⟩ := hm
  exact pe_glob hg e (show RelV (.int i) (.int i t) from ⟨t, rfl⟩) h1
theorem pe_gstr {z : Str} (hg : Gl X x) (hm : ∃ t, X.mg x = some (.str z t)) (h1 : (x == ("__debug__" : Str)) = false := by decide) : PE X (.Name x pos) (tC (.str z)) := by
  obtain ⟨t, e⟩ := hm
  exact pe_glob hg e (show RelV (.str z) (.str z t) from ⟨t, rfl⟩) h1
theorem pe_gref {a : Addr} (hg : Gl X x) (hm : X.mg x = some (.ref a)) (h1 : (x == ("__debug__" : Str)) = false := by decide) : PE X (.Name x pos) (tC (.ref a)) :=
  pe_glob hg hm (show RelV (.ref a) (.ref a) from rfl) h1
end
end My
namespace My
open PySem PySem.Spec PyProof.Rows L2
/-! ### the order of two pairs of whole numbers -/
def rOrd2 (K : PySem.W.Frag) (rel : Int → Int → Bool) : R2 := fun x y H Q => ∃ (a b : Addr) (i n j m : Int), x = .ref a ∧ y = .ref b ∧ SqT K H a [.int i, .int n] ∧ SqT K H b [.int j, .int m] ∧ Q (.bl (if i = j then (if n = m then rel 0 0 else rel n m) else rel i j)) H
section
variable {X : Cx}
theorem ord2_of {op : CmpOp} {rel : Int → Int → Bool} (R : ∀ {A : Around} {s : Shared} {l b : Addr} {items items2 : Array Value} {e r : Nat → Bool}, s.heap.IsTuple l items → s.heap.IsTuple b items2 → A.units < cLine →
      (∀ j (h1 : j < items.size) (h2 : j < items2.size), SeqAt.EqAt A.in1 s items[j] items2[j] (e j)) → (∀ j (h1 : j < items.size) (h2 : j < items2.size), e j = false → Ob.RcOp op A.in1 s items[j] items2[j] (r j)) → items.size = 2 → items2.size = 2 →
      Ob.RcOp op A s (.ref l) (.ref b) (Ob.lexAt e r (rel 0 0) 0 2)) (one : ∀ {A : Around} {s : Shared} (a b : Int) (t u : Tok), Ob.RcOp op A s (.int a t) (.int b u) (rel a b))
    (hop : ∀ a b, compareOp op a b = richCompare op a b) (hu : X.A.units < cLine) : OpR X (compareOp op) (rOrd2 X.K rel) := by
  intro pins s σ H x y v u Q I rx ry h
  obtain ⟨a, b, i, n, j, m, rfl, rfl, ha, hb, q⟩ := h
  cases rx
  cases ry
  obtain ⟨its, r1, p1, _⟩ := I.tuple ha
  obtain ⟨its2, r2, p2, _⟩ := I.tuple hb
  cases r1 with
  | cons q1 r1 =>
    cases r1 with
    | cons q2 r1 =>
      cases r1
      cases r2 with
      | cons q3 r2 =>
        cases r2 with
        | cons q4 r2 =>
          cases r2
          obtain ⟨t1, rfl⟩ := q1
          obtain ⟨t2, rfl⟩ := q2
          obtain ⟨t3, rfl⟩ := q3
          obtain ⟨t4, rfl⟩ := q4
          have eqd : ∀ (c d : Int), (c == d) = decide (c = d) := fun c d => rfl
          have Z := R (A := X.A) (s := s) (e := fun k => if k = 0 then (i == j) else (n == m)) (r := fun k => if k = 0 then rel i j else rel n m) p1 p2 hu (fun k h1 h2 => by
            have : k = 0 ∨ k = 1 := by
              have h1' : k < 2 := h1
              omega
            rcases this with rfl | rfl
            · exact SeqAt.EqAt.int_int _ _ _ _
            · exact SeqAt.EqAt.int_int _ _ _ _) (fun k h1 h2 _ => by
            have : k = 0 ∨ k = 1 := by
              have h1' : k < 2 := h1
              omega
            rcases this with rfl | rfl
            · exact one _ _ _ _
            · exact one _ _ _ _) rfl rfl
          have ev : Ob.lexAt (fun k => if k = 0 then (i == j) else (n == m)) (fun k => if k = 0 then rel i j else rel n m) (rel 0 0) 0 2 = (if i = j then (if n = m then rel 0 0 else rel n m) else rel i j) := by
            rw [Ob.lexAt_succ, Ob.lexAt_succ, Ob.lexAt_zero]
            simp
          rw [ev] at Z
          rw [hop]
          exact Z X.prog X.w X.xe (EP X pins σ Q) ⟨.bl _, H, I, rfl, q⟩
theorem op_lt2 (hu : X.A.units < cLine) : OpR X (compareOp .Lt) (rOrd2 X.K fun a b => decide (a < b)) :=
  ord2_of (fun h1 h2 h3 h4 h5 e1 e2 => by have := Ob.RcOp.tuples_lt h1 h2 h3 h4 h5; rw [e1, e2] at this; exact this) (fun a b t u => Ob.RcOp.lt_int a b t u) (fun _ _ => rfl) hu
theorem op_le2 (hu : X.A.units < cLine) : OpR X (compareOp .LtE) (rOrd2 X.K fun a b => decide (a ≤ b)) :=
  ord2_of (fun h1 h2 h3 h4 h5 e1 e2 => by have := Ob.RcOp.tuples_le h1 h2 h3 h4 h5; rw [e1, e2] at this; exact this) (fun a b t u => Ob.RcOp.le_int a b t u) (fun _ _ => rfl) hu
theorem op_gt2 (hu : X.A.units < cLine) : OpR X (compareOp .Gt) (rOrd2 X.K fun a b => decide (b < a)) :=
  ord2_of (fun h1 h2 h3 h4 h5 e1 e2 => by have := Ob.RcOp.tuples_gt h1 h2 h3 h4 h5; rw [e1, e2] at this; exact this) (fun a b t u => Ob.RcOp.gt_int a b t u) (fun _ _ => rfl) hu
theorem op_ge2 (hu : X.A.units < cLine) : OpR X (compareOp .GtE) (rOrd2 X.K fun a b => decide (b ≤ a)) :=
  ord2_of (fun h1 h2 h3 h4 h5 e1 e2 => by have := Ob.RcOp.tuples_ge h1 h2 h3 h4 h5; rw [e1, e2] at this; exact this) (fun a b t u => Ob.RcOp.ge_int a b t u) (fun _ _ => rfl) hu
end
end My
namespace My
open PySem PySem.Spec PyProof.Rows L2
section
variable {X : Cx}
/-- s * n -/
theorem op_mulS : OpR X (binaryOp .Mult) (fun x y H Q => ∃ (a : Str) (k : Int), x = .str a ∧ y = .int k ∧ PySem.MulOk a k ∧ Q (.str (Txt.mul a k)) H) := by
  intro pins s σ H x y v u Q I rx ry h
  obtain ⟨a, k, rfl, rfl, ok, q⟩ := h
  obtain ⟨t, rfl⟩ := rx
  obtain ⟨t', rfl⟩ := ry
  exact PySem.SB.mul ok fun t2 k2 => ⟨.str _, H, I.tok _, ⟨_, rfl⟩, q⟩
end
end My
set_option Elab.async false
set_option linter.all false
set_option maxRecDepth 100000
set_option maxHeartbeats 2000000
/-! Rules of my own: a caught error of an own class that is kept as a value behind its except suite. -/
namespace MyX
open PySem PySem.Spec PyProof.Rows L2
/-- the error at a, of the class cls, its dict d -/
def XcO (cls : Value) (d : Option Addr) (a : Addr) : HO := .ext fun h => ∃ (oe : Obj) (vs : Array Value), h.get? a = some oe ∧ Zc cls d oe ∧ oe.data = .fields vs
theorem xcO_ok {P : Program} {w : World} {H : Hp} {h : Heap} {a : Addr} {cls : Value} {d : Option Addr} {oe : Obj} {vs : Array Value} (e : h.get? a = some oe) (z : Zc cls d oe) (hd : oe.data = .fields vs) : ObjOk P w H h a (XcO cls d a) :=
  ⟨⟨oe, vs, e, z, hd⟩, ⟨oe, e⟩, fun _ _ ⟨o, v, q, r⟩ k => ⟨o, v, k o q, r⟩⟩
section
variable {X : Cx} {pins : List (Addr × Obj)} {σ : L2.St} {H : Hp} {s : Shared}
theorem trackX {a : Addr} {oe : Obj} {cls : Value} {d : Option Addr} {vs : Array Value} (J : Inv X ((a, oe) :: pins) σ H s) (hz : Zc cls d oe) (hd : oe.data = .fields vs) (n0 : X.s_0.heap.get? a = none) (np : ∀ p ∈ X.pn ++ pins, p.1 ≠ a) :
    Inv X pins σ (upd H a (XcO cls d a)) s := by
  obtain ⟨he, na, nL, nF, nc⟩ := J.pin (a, oe) (List.mem_append_right _ List.mem_cons_self)
  have ne0 : ∀ b o, X.s_0.heap.get? b = some o → b ≠ a := fun b o e z => by rw [z, n0] at e; cases e
  refine ⟨J.ok, J.os, J.bare, ⟨J.base.keep, J.base.slot, fun b o e n hx => ?_, J.base.there, fun b xs e => ?_, fun b o u e => ?_, fun b ps e => ?_⟩, J.loc, J.cell, ?_, fun y c e => ?_, fun p hp => ?_, J.hok.laidN (fun _ _ q => q) na (xcO_ok he hz hd), J.len⟩
  · rw [upd_ne (ne0 b o e)]
    exact J.base.free b o e n hx
  · have q := J.base.tups b xs e
    rw [upd_ne (ne_of_none q na)]
    exact q
  · have q := J.base.frzs b o u e
    rw [upd_ne (ne_of_none q na)]
    exact q
  · obtain ⟨m, q⟩ := J.base.tbls b ps e
    exact ⟨m, by rw [upd_ne (ne_of_none q na)]; exact q⟩
  · rw [upd_ne (Ne.symm nL)]
    exact J.free
  · rw [upd_ne (fun z => ?_)]
    · exact J.freeC y c e
    · obtain ⟨v, o, ho, hv⟩ := J.cell y c e
      rw [z, he] at ho
      cases ho
      exact nc v hv
  · have hp' : p ∈ X.pn ++ (a, oe) :: pins := by
      rcases List.mem_append.mp hp with h | h
      · exact List.mem_append_left _ h
      · exact List.mem_append_right _ (List.mem_cons_of_mem _ h)
    obtain ⟨p1, p2, p3, p4, p5⟩ := J.pin p hp'
    exact ⟨p1, by rw [upd_ne (np p hp)]; exact p2, p3, p4, p5⟩
theorem unsuiteK {a : Addr} {q : Addr × Obj} {pn' : List (Addr × Obj)} (I : Inv (X.suite a (q :: (X.pn ++ pins))) pn' σ H s) (ok : X.Ok) : Inv X (q :: pins) σ H s :=
  ⟨ok, I.os, I.bare, I.base, I.loc, I.cell, I.free, I.freeC, fun p hp => I.pin p (List.mem_append_left _ (by
    rcases List.mem_append.mp hp with h | h
    · exact List.mem_cons_of_mem _ (List.mem_append_left _ h)
    · rcases List.mem_cons.mp h with h | h
      · rw [h]; exact List.mem_cons_self
      · exact List.mem_cons_of_mem _ (List.mem_append_right _ h))), I.hok, I.len⟩
end
/-- as wAs; behind the suite the error is tracked -/
def wAsK (L : Nat) (K : PySem.W.Frag) (c : Value) (i : Nat) (ts : Addr → Value → Option Addr → TS) (Wout : WX) (D : Ends) : WX := fun cls d σ H =>
  ∃ b, PySem.W.exmOne K cls c = some b ∧ (b = true → σ.length = L → ∀ a, H a = none → ts a cls d { nx := fun σ' H' => D.nx (σ'.set i none) (upd H' a (XcO cls d a)), rt := D.rt, bk := fun σ' H' => D.bk (σ'.set i none) H', ct := fun σ' H' => D.ct (σ'.set i none) H' } (σ.set i (some (.ref a))) H) ∧
    (b = false → Wout cls d σ H)
section
variable {X : Cx} {x n : Str} {c : Value} {i : Nat} {body suite : List Stmt} {b₀ : Stmt} {np pos pos' : Pos} {tb : WX → TS} {ts : Addr → Value → Option Addr → TS} {Wout : WX}
theorem ps_try_asK (hs : X.stack = X.env :: X.outer) (hex : X.ex = []) (hf : X.env.frame = some X.env.locals) (hN : X.N.Nodup) (hi : X.N[i]? = some n) (hln : X.env.kindOf n = some .local) (hc : Names X x c) (tk : Takes X Wout)
    (hb : ∀ (W : WX) (pn : List (Addr × Obj)) (xe : Value → Shared → Prop), Takes (X.tr pn xe) W → PassesOwn (model X.prog X.w) X.A X.env xe → PSs (X.tr pn xe) body (tb W))
    (hsu : ∀ (a : Addr) (oe : Obj) (cls : Value) (d : Option Addr) (pn : List (Addr × Obj)), Zc cls d oe → (∃ vs, oe.data = .fields vs) → PSs (X.suite a ((a, oe) :: pn)) (b₀ :: suite) (ts a cls d)) :
    PS X (.Try body [.ExceptHandler (some (.Name x np)) (some n) (b₀ :: suite) pos'] [] [] pos) (fun D σ H => tb (wAsK X.N.length X.K c i ts Wout D) D σ H) := by
  refine ⟨fun ps st τ G D J0 want => ?_⟩
  have okX := J0.ok
  have frA : X.A.frames = some (X.env :: X.outer) := by rw [okX.frames, hs]
  have locN : Loc X.env.scope n := Or.inl hln
  refine wpAny_Try_except (wpAny_mono ((hb (wAsK X.N.length X.K c i ts Wout D) (X.pn ++ ps) (fun e t1 => wpAny (model X.prog X.w) X.A (noteFrame e X.env) (fun _ t2 => wpAny (model X.prog X.w) X.A (setFlight e none) (fun _ t3 =>
    wpAny (model X.prog X.w) X.A (handleBy e X.env [.ExceptHandler (some (.Name x np)) (some n) (b₀ :: suite) pos']) (SP X ps D) X.xe t3) X.xe t2) X.xe t1) (fun u sE air => ?_) PassesOwn.looking).run [] st τ G D (J0.toTry _) want) (fun fl t1 got => ?_) (fun _ _ he => he))
  · obtain ⟨a, B, sI, pinsI, σI, HI, cls, d, rfl, JT, toB, upI, skyI, naI, osI, agI, b, hb1, hyes, hno⟩ := air
    have JI : Inv X ps σI HI sI := JT.ofTry okX
    have skyX : Sky B (X.env :: X.outer) a (Zc cls d) X.env.locals sE.heap := by rw [← hs]; exact skyI
    show wpAny (model X.prog X.w) X.A (noteFrame (.ref a) X.env) _ _ _
    refine Sky.land Zc.steady frA hf skyX fun g3 fly3 upg3 => ?_
    have K3 : Inv X ps σI HI { sE with heap := g3 } := JI.landed toB fly3.1 (upI.trans upg3) osI agI
    obtain ⟨ob3, ws3, got3, zc3, dat3⟩ := fly3.there
    have noFr : a ∉ frs (X.env :: X.outer) := fun hm => by
      obtain ⟨_, o', e', hnf⟩ := fly3.2.2.1.mem hm
      rw [got3] at e'
      cases e'
      exact hnf _ dat3
    have noLoc : a ≠ X.env.locals := fun z => noFr (List.mem_filterMap.mpr ⟨X.env, List.mem_cons_self, by rw [hf, z]⟩)
    have noFs : a ∉ X.fs := fun hm => by
      obtain ⟨e, he, q⟩ := List.mem_filterMap.mp hm
      exact noFr (List.mem_filterMap.mpr ⟨e, List.mem_cons_of_mem _ he, q⟩)
    have notI : ∀ o, sI.heap.get? a ≠ some o := fun o e => by
      have q := toB a o e (by rw [hs]; exact noFr)
      rw [fly3.2.1] at q
      cases q
    have n0 : X.s_0.heap.get? a = none := by
      cases e : X.s_0.heap.get? a with
      | none => rfl
      | some o =>
        obtain ⟨o', q⟩ := JI.base.there a o e (by rw [hex]; exact fun z => nomatch z)
        exact absurd q (notI o')
    have npn : ∀ p ∈ X.pn ++ ps, p.1 ≠ a := fun p hp z => notI p.2 (by rw [← z]; exact (JI.pin p hp).1)
    have T3 := K3.suite got3 dat3 naI noLoc noFs
    refine wpAny_handleBy_cons (codeAny_handlers_test ?_) (fun q => by cases q)
    have lookT : PySem.W.Looks (model X.prog X.w) g3 (typeOf (.ref a)) cls := fun A Q E s k q => wpAny_typeOf_ref (k _ _ got3) (by rw [zc3.1]; exact q)
    have lookM := PySem.W.exm_one (M := model X.prog X.w) (K3.kIn) lookT hb1
    have asked : ∀ {Q : Value → Shared → Prop} {E : Value → Shared → Prop}, Q c { sE with heap := g3 } → wpAny (model X.prog X.w) (X.A.mark (some (.ref a))) (eval (.Name x np) X.env) Q E { sE with heap := g3 } := fun {Q E} q => by
      obtain ⟨hg, hdbg, hm | ⟨hm, hv, hnn⟩⟩ := hc
      · exact ld_glob (X := X.suite a ((a, ob3) :: (X.pn ++ ps))) T3 hg hm q hdbg
      · exact ld_blt (X := X.suite a ((a, ob3) :: (X.pn ++ ps))) T3 hg hm hv q hnn hdbg
    refine asked (lookM.here ?_)
    cases b with
    | true =>
      refine codeAny_handlers_suite_as (HandSPX.lands_againZ fly3 fun g4 fly4 upg4 => ?_)
      have K4 : Inv X ps σI HI { sE with heap := g4 } := JI.landed toB fly4.1 ((upI.trans upg3).trans upg4) osI agI
      obtain ⟨ob4, ws4, got4, zc4, dat4⟩ := fly4.there
      refine store_ok (X := X.suite a ((a, ob4) :: (X.pn ++ ps))) (v := .ref a) (K4.suite got4 dat4 naI noLoc noFs) hN hi locN rfl (fun t5 K5 => ?_) (.inr hln)
      refine wpAny_mono ((hsu a ob4 cls d (X.pn ++ ps) zc4 ⟨_, dat4⟩).run [] t5 _ HI _ K5 (hyes rfl JI.len a naI)) (fun fl6 t6 got6 => ?_) (fun _ _ z => False.elim z)
      have quit : ∀ {σ6 : L2.St} {H6 : Hp} {Q : Shared → Prop}, Inv (X.suite a ((a, ob4) :: (X.pn ++ ps))) [] σ6 H6 t6 → (∀ t7, Inv X ((a, ob4) :: ps) (σ6.set i none) H6 t7 → Q t7) →
          wpAny (model X.prog X.w) X.A (do bindName X.env n .none; unbindBehindTheSuite X.env n pos') (fun _ t7 => Q t7) X.xe t6 := fun {σ6 H6 Q} K6 hq => gone_ok (unsuiteK K6 okX) hN hi hln hq
      have plain : ∀ {σ7 : L2.St} {H7 : Hp} {t7 : Shared}, Inv X ((a, ob4) :: ps) σ7 H7 t7 → Inv X ps σ7 H7 t7 := fun {σ7 H7 t7} K7 => ⟨K7.ok, K7.os, K7.bare, K7.base, K7.loc, K7.cell, K7.free, K7.freeC, fun p hp => K7.pin p (by
        rcases List.mem_append.mp hp with h | h
        · exact List.mem_append_left _ h
        · exact List.mem_append_right _ (List.mem_cons_of_mem _ h)), K7.hok, K7.len⟩
      cases fl6 with
      | next =>
        obtain ⟨σ6, H6, K6, q6⟩ := got6
        exact quit K6 fun t7 K7 => ⟨_, _, trackX K7 zc4 dat4 n0 npn, q6⟩
      | brk =>
        obtain ⟨σ6, H6, K6, q6⟩ := got6
        exact quit K6 fun t7 K7 => ⟨_, _, plain K7, q6⟩
      | cont =>
        obtain ⟨σ6, H6, K6, q6⟩ := got6
        exact quit K6 fun t7 K7 => ⟨_, _, plain K7, q6⟩
      | ret u =>
        obtain ⟨v6, σ6, H6, K6, r6, q6⟩ := got6
        exact quit K6 fun t7 K7 => ⟨_, _, _, plain K7, r6, q6⟩
    | false =>
      show wpAny _ X.A (handleBy (.ref a) X.env []) _ _ _
      refine wpAny_handleBy_nil ?_
      obtain ⟨k1, k2, k3, ob, ws, T, oT, ts', hgot, hzc, hdat, hat1, hr⟩ := id fly3
      unfold PySem.passOn
      refine wpAny_bind (wpAny_field hgot hdat hat1 ?_)
      rw [if_neg (by simp : ¬ ((Value.ref T == Value.none) = true))]
      have onward : wpAny (model X.prog X.w) X.A (setFlight (.ref a) X.env.frame) (fun _ t4 => wpAny (model X.prog X.w) X.A (throw (.ref a) : Sem Flow) (SP X ps D) X.xe t4) X.xe { sE with heap := g3 } := by
        rw [hf]
        refine HandSPX.setFlight_upZ fly3 fun g4 held4 upg4 => wpAny_throw (tk _ _ ?_)
        exact ⟨a, B, sI, ps, σI, HI, cls, d, rfl, JI, toB, (upI.trans upg3).trans upg4, .inr (.inr (by rw [hs]; exact held4)), naI, osI, agI, hno rfl⟩
      first
        | exact wpAny_bind (wpAny_pure (wpAny_bind onward))
        | exact wpAny_bind onward
  · cases fl with
    | next =>
      obtain ⟨τ', G', K', q⟩ := got
      exact wpAny_execs_nil ⟨τ', G', K'.ofTry okX, q⟩
    | brk =>
      obtain ⟨τ', G', K', q⟩ := got
      exact ⟨τ', G', K'.ofTry okX, q⟩
    | cont =>
      obtain ⟨τ', G', K', q⟩ := got
      exact ⟨τ', G', K'.ofTry okX, q⟩
    | ret u =>
      obtain ⟨v, τ', G', K', r, q⟩ := got
      exact ⟨v, τ', G', K'.ofTry okX, r, q⟩
end
section
variable {X : Cx}
/-- what a class says, so that isinstance asks its kept errors rightly -/
structure IsX (K : PySem.W.Frag) (C : Addr) : Prop where
  cl : (PySem.W.clsIn K C).isSome = true
  ga : PySem.W.findIn K (.ref C) "__getattribute__" = some (some (.builtin "BaseException.__getattribute__"))
  gg : PySem.W.findIn K (.ref C) "__getattr__" = some none
  sb : PySem.W.subIn K (.ref C) (.type "BaseException") = some true
  ca : PySem.W.findIn K (.ref C) "__class__" = some (some (.builtin "object.__class__"))
  sp : PySem.W.specialIn K (.builtin "object.__class__") "__get__" = some (some (.builtin "getset_descriptor.__get__"))
  tk : PySem.W.takesIn K (.builtin "object.__class__") = some true
  mr : PySem.W.mroIn K C (.type "object") = some true
/-- isinstance(x, c), x a kept error of the class at D -/
def rIsX (K : PySem.W.Frag) : List V → Hp → VK → Prop := fun xs H Q => ∃ (D a dd : Addr) (fs : List (Str × V)) (c : V) (cv : Value) (b : Bool), xs = [.ref a, c] ∧ IsX K D ∧ H a = some (XcO (.ref D) (some dd) a) ∧ H dd = some (.xd fs) ∧ (∀ u, RelV c u → u = cv) ∧ PySem.W.kitOne K (.ref D) cv = some b ∧ Q (.bl b) H
theorem inst_of {pins : List (Addr × Obj)} {σ : L2.St} {H : Hp} {s : Shared} {a D dd : Addr} {fs : List (Str × V)} (I : Inv X pins σ H s) (ha : H a = some (XcO (.ref D) (some dd) a)) (hdd : H dd = some (.xd fs)) :
    ∃ (oe od : Obj) (mA : Str → Option Value), PySem.W.InstAt s.heap a oe D (some od) ∧ (∀ f, RelO (fs.lookup f) (mA f)) ∧ ∀ n, PySem.W.lookIn n od = some (mA n) := by
  obtain ⟨⟨oe, vs, he, hz, hv⟩, _, _⟩ := I.hok a _ ha
  have hx : ObjOk X.prog X.w H s.heap dd (.xd fs) := I.hok dd _ hdd
  obtain ⟨mA, hns, hr⟩ := hx
  obtain ⟨od, ho, hl⟩ := lookIn_ns hns
  exact ⟨oe, od, mA, ⟨he, hz.1, by unfold PySem.W.notCls; rw [hv] <;> rfl, by rw [hz.2]; exact ho⟩, hr, hl⟩
theorem call_isX : CallR X (.builtin "isinstance") (rIsX X.K) := by
  intro pins s σ H xs us Q I r h
  obtain ⟨D, a, dd, fs, c, cv, b, rfl, C, ha, hdd, hcv, e, q⟩ := h
  obtain ⟨oe, od, mA, J, _, _⟩ := inst_of I ha hdd
  cases r with
  | cons rx rr =>
    cases rr with
    | cons rt rr =>
      cases rr
      cases rx
      have ec := hcv _ rt
      subst ec
      exact PySem.W.kia_one (PySem.W.kitx_exc C.cl C.ga C.gg C.sb C.ca C.sp C.tk C.mr) I.kIn J e (fun z => nomatch z) fun tk => ⟨.bl b, H, I.tok tk, rfl, q⟩
/-- x.n, x a kept error of the class at C -/
def tXk (C : Addr) (f : Str) (te : TE) : TE := fun σ H Q => te σ H fun x H1 => ∃ (a dd : Addr) (fs : List (Str × V)) (v : V), x = .ref a ∧ H1 a = some (XcO (.ref C) (some dd) a) ∧ H1 dd = some (.xd fs) ∧ fs.lookup f = some v ∧ Q v H1
theorem pe_xk {C : Addr} {e : Expr} {te : TE} {pos : Pos} {n : Str} (T : XfC X.K C) (hno : PySem.W.findIn X.K (.ref C) n = some none) (he : PE X e te) (hb : attributeBase e n X.env (eval e X.env) = eval e X.env := by rfl) :
    PE X (.Attribute e n pos) (tXk C n te) := by
  refine ⟨fun pins s σ H Q I h => attr_of hb (thn (he.run pins s σ H _ I h) fun u s1 hh => ?_)⟩
  obtain ⟨x, H1, I1, rx, a, dd, fs, v, rfl, ha, hdd, l, q⟩ := hh
  cases (show u = Value.ref a from rx)
  obtain ⟨oe, od, mA, J, hr, hl⟩ := inst_of I1 ha hdd
  obtain ⟨u, hu, ru⟩ := RelO.some_of (v := v) (o := mA n) (by rw [← l]; exact hr n)
  exact HandSPX.exc_get I1.kIn J T.ga T.gg T.exC (PySem.W.findObj_own T.hdC hno rfl (by rw [hl, hu])) (handed_of ru) ⟨v, H1, I1.tok _, ru, q⟩
end
end MyX
set_option Elab.async false
set_option linter.all false
set_option maxRecDepth 100000
set_option maxHeartbeats 4000000
/-! Rules of my own: x != y over an own __eq__; an own __eq__ that declines. -/
namespace MyE
open PySem PySem.Spec PyProof.Rows L2 My
section
open PySem.W
variable {prog : Program} {w : World} {A : Around} {E : Value → Shared → Prop} {s : Shared} {K : Frag} {x C f : Addr} {ox : Obj} {od : Option Obj} {b t : Value}
theorem ifb_ne {M : Model} {args : List Value} {Q : Option Value → Shared → Prop} (X : K.In s.heap) (I : InstAt s.heap x ox C od) (hs : findIn K (.ref C) "__ne__" = some (some (.builtin "object.__ne__")))
    (h : wpAny M A (call (.builtin "object.__ne__") (.ref x :: args)) (fun v => Q (some v)) E s) : wpAny M A (callSpecialIfBound? (.ref x) "__ne__" args) Q E s := by
  simp only [callSpecialIfBound?, bindSpecialIfBound?]
  refine wpAny_holding (wpAny_bind (wpAny_bind (wpAny_bind (I.type.here ((looks_findIn X hs).here (wpAny_bind (wpAny_askSetting (wpAny_ite ?_))))))))
  have last : wpAny M A (call (.builtin "object.__ne__") ([.ref x] ++ args) >>= fun v => pure (some v)) Q E s := wpAny_bind (wpAny_mono h (fun _ _ q => wpAny_pure q) fun _ _ q => q)
  split
  · exact wpAny_bind (wpAny_of_eq (F.cmp_object.ne.bind _) (wpAny_pure (by exact last)))
  · exact wpAny_tryCatch (wpAny_bind (wpAny_of_eq (F.cmp_object.ne.bind _) (wpAny_pure (by exact last))))
theorem ne_entry {Q : Fin → Shared → Prop} (hu : A.units < cLine) (X : K.In s.heap) (I : InstAt s.heap x ox C od) (hs : findIn K (.ref C) "__eq__" = some (some (.ref f))) (hf : isFn K (.ref f) = true)
    (hc : wpAny (model prog w) A (call (.ref f) [.ref x, b]) (fun v s' => ∃ r, v = .bool r ∧ Q (.done (.ret (.bool (!r)))) s') E s) : wpAny (model prog w) A (Builtin.«object.__ne__» ⟨[.ref x, b], []⟩) Q E s := by
  obtain ⟨h, g, d, tk, os⟩ := s
  unfold Builtin.«object.__ne__»
  repeat (first
    | with_reducible refine wpAny_cRoomFor hu ?_
    | (refine wpAny_bind (m := callSpecialIfBound? (.ref x) (Str.ofString "__eq__") [b]) (ifBound_K X I hs hf (wpAny_mono hc (fun v s' z => by
        obtain ⟨r, rfl, q⟩ := z
        repeat (first | exact q | exact wpAny_pure q | exact wpAny_truthy_bool q | (refine wpAny_bind (m := truthy (.bool _)) (wpAny_truthy_bool ?_)) | wp_step)) fun _ _ z => z)))
    | wp_step)
theorem ne_try {Q : Option Value → Shared → Prop} (hu : A.units + 1 < cLine) (X : K.In s.heap) (I : InstAt s.heap x ox C od) (hm : mroIn K C (.type "object") = some true) (hn : findIn K (.ref C) "__ne__" = some (some (.builtin "object.__ne__")))
    (hs : findIn K (.ref C) "__eq__" = some (some (.ref f))) (hf : isFn K (.ref f) = true)
    (hc : wpAny (model prog w) A.in1 (call (.ref f) [.ref x, b]) (fun v s' => ∃ r, v = .bool r ∧ Q (some (.bool (!r))) s') E s) : wpAny (model prog w) A (tryCompare (.ref x) "__ne__" b) Q E s := by
  unfold tryCompare
  refine wpAny_bind (ifb_ne X I hn ?_)
  have sub : Looks (model prog w) s.heap (isInstance (.ref x) (.type "object")) true := I.type.andThen (looks_mroIn X hm)
  refine wpAny_call (codeAny_call_builtin F.cmp_object.ne.plain F.cmpEntry_ne (check_slot F.cmpKind_ne F.cmpSplit_ne sub (F.cmpArgs_ne _ _) (ne_entry (A := A.in1) hu X I hs hf (wpAny_mono hc (fun v s' z => ?_) fun _ _ e => e))))
  obtain ⟨r, rfl, q⟩ := z
  first | exact ⟨r, rfl, wpAny_pure q⟩ | exact ⟨r, rfl, wpAny_pure (wpAny_pure q)⟩ | exact ⟨r, rfl, q⟩
theorem rc_ne {Q : Value → Shared → Prop} (hu : A.units + 1 < cLine) (X : K.In s.heap) (I : InstAt s.heap x ox C od) (hb : Looks (model prog w) s.heap (typeOf b) t) (hn : notFirst K C t = true) (hm : mroIn K C (.type "object") = some true)
    (hne : findIn K (.ref C) "__ne__" = some (some (.builtin "object.__ne__"))) (hs : findIn K (.ref C) "__eq__" = some (some (.ref f))) (hf : isFn K (.ref f) = true)
    (hc : wpAny (model prog w) A.in1 (call (.ref f) [.ref x, b]) (fun v s' => ∃ r, v = .bool r ∧ Q (.bool (!r)) s') E s) : wpAny (model prog w) A (richCompare .NotEq (.ref x) b) Q E s := by
  have one : wpAny (model prog w) A (tryCompare (.ref x) "__ne__" b) (fun r s' => ∃ v, r = some v ∧ Q v s') E s :=
    ne_try hu X I hm hne hs hf (wpAny_mono hc (fun v s' ⟨r, e, q⟩ => ⟨r, e, _, rfl, q⟩) fun _ _ e => e)
  have hu0 : A.units < cLine := by omega
  unfold richCompare
  simp only [oneThing_ref, cmpInfo_NotEq]
  refine wpAny_holding (wpAny_bind (wpAny_cRoomFor hu0 (wpAny_bind (I.type.here (wpAny_bind (hb.here ?_))))))
  split
  · rename_i q
    have e : subIn K t (.ref C) = some false := (Bool.or_eq_true_iff.mp hn).elim (fun e => by rw [beq_iff_eq.mp e] at q; simp at q) beq_iff_eq.mp
    refine wpAny_bind ((looks_subIn X e).here ?_)
    simp only [Bool.false_eq_true, if_false]
    refine wpAny_bind (wpAny_mono one (fun r s' ⟨v, hv, hq⟩ => by subst hv; exact wpAny_pure hq) fun _ _ e => e)
  · refine wpAny_bind (wpAny_pure ?_)
    simp only [Bool.false_eq_true, if_false]
    refine wpAny_bind (wpAny_mono one (fun r s' ⟨v, hv, hq⟩ => by subst hv; exact wpAny_pure hq) fun _ _ e => e)
end
section
variable {X : Cx} {CX : CXT} {C g : Addr} {n : Nat} {sp : Sp} {E : XK}
/-- x != y, x an instance of the class at C whose own __eq__ is at g -/
def rNeI (K : PySem.W.Frag) (C : Addr) (sp : Sp) (E : XK) : R2 := fun x y H Q => ∃ a dx fs t, x = .ref a ∧ H a = some (.ins C dx fs) ∧ TyX K H y t ∧ PySem.W.notFirst K C t = true ∧ sp [x, y] H (fun v H' => ∃ r, v = .bl r ∧ Q (.bl (!r)) H') E
structure NeC (K : PySem.W.Frag) (C g : Addr) : Prop where
  mr : PySem.W.mroIn K C (.type "object") = some true
  ne : PySem.W.findIn K (.ref C) "__ne__" = some (some (.builtin "object.__ne__"))
  eq : PySem.W.findIn K (.ref C) "__eq__" = some (some (.ref g))
  fn : PySem.W.isFn K (.ref g) = true
theorem op_neI (N : NeC X.K C g) (F : FnR X.prog X.w X.K X.mg X.base CX n g sp) (hr : Room (n + 1) X.A) (hx : Passes CX X E) : OpR X (compareOp .NotEq) (rNeI X.K C sp E) := by
  intro pins s σ H x y v u Q I rx ry h
  obtain ⟨a, dx, fs, t, rfl, ha, ty, hn, q⟩ := h
  cases (show v = Value.ref a from rx)
  obtain ⟨mA, O, _⟩ := ins_get I.hok ha
  obtain ⟨od, J, _⟩ := O.look
  show wpAny _ _ (richCompare .NotEq (.ref a) u) _ _ _
  refine rc_ne (t := t) (by have := hr.units; omega) I.kIn J (looks_ty I ry ty) hn N.mr N.ne N.eq N.fn ?_
  have e1 : Env0 X.prog X.w X.K X.mg X.base X.A.in1 X.stack s H := ⟨I.env0.frames, I.env0.mod, I.env0.bs, I.env0.bsz, I.env0.funs, I.env0.frf, I.env0.hok, I.env0.bare⟩
  refine wpAny_call (codeAny_mono (F X.A.in1 X.stack s H [.ref a, u] [.ref a, y] _ E hr.in1 e1 (.cons rfl (.cons ry .nil)) q) fun r s' hq => ?_)
  cases r with
  | error e => exact hx pins σ H s e s' I hq
  | ok fl =>
    cases fl with
    | ret w' =>
      obtain ⟨z', H', J', rz, r', rfl, q'⟩ := I.after hq
      cases (show w' = Value.bool r' from rz)
      exact ⟨r', rfl, .bl (!r'), H', J', rfl, q'⟩
    | next => exact False.elim hq
    | brk => exact False.elim hq
    | cont => exact False.elim hq
end
/-! ### an own __eq__ that declines -/
/-- what stands behind a call that declined -/
def Declined (outer : List Env) (P : Program) (w : World) (H : Hp) (s : Shared) (Q : Hp → Prop) (s' : Shared) : Prop := ∃ H', s'.os = s.os ∧ AllBare s'.gens ∧ Un (frs outer) [] H H' s.heap s'.heap ∧ HOk P w H' s'.heap ∧ Q H'
def DeclOk (P : Program) (w : World) (K : PySem.W.Frag) (mg : Str → Option Value) (base : Heap) (k : Nat) (f : Addr) (sp : List V → Hp → (Hp → Prop) → Prop) : Prop :=
  ∀ (A : Around) (outer : List Env) (s : Shared) (H : Hp) (us : List Value) (vs : List V) (Q : Hp → Prop), Room k A → Env0 P w K mg base A outer s H → Vals vs us → sp vs H Q →
    codeAny (model P w) A (.call (.ref f) ⟨us, []⟩) (fun r s' => r = .ok (.ret .notImplemented) ∧ Declined outer P w H s Q s') s
theorem decl_of {P : Program} {w : World} {K : PySem.W.Frag} {mg : Str → Option Value} {base : Heap} {k : Nat} {f : Addr} {name qual : Str} {params : Arguments} {body rest : List Stmt} {scope : Scope} {dV kV doc pm cdv ct oc : Value} {an od : Option Addr}
    {osl : Array (Option Value)} {N ps : List Str} {sp : List V → Hp → (Hp → Prop) → Prop} {test : Expr} {p1 p2 p3 : Pos} (lk : K.lookup f = some ⟨oc, od, .func (PySem.W.fnOf name qual params body scope dV kV doc pm an cdv ct), osl⟩) (hcd : PySem.W.codeIn K cdv qual = true) (S : FnScope N ps scope)
    (len : ∀ vs H Q, sp vs H Q → vs.length = ps.length) (hb : Binds K (PySem.W.fnOf name qual params body scope dV kV doc pm an cdv ct) ps []) (hbody : body = .If test [.Return (some (.Name "NotImplemented" p1)) p2] [] p3 :: rest)
    (gl : scope.names.lookup ("NotImplemented" : Str) = some NameKind.globalImplicit) (gm : mg "NotImplemented" = none)
    (ht : ∀ (A : Around) (outer : List Env) (s : Shared) (H : Hp) (vs : List V) (Q : Hp → Prop), Room k (A.deeper (envOfC qual scope s.heap.objs.size f cdv)) → sp vs H Q →
      ∃ tt, PT (cxOf L2.CX0 P w K mg base N qual scope f cdv A outer s H L2.E0) test tt ∧ tt (start N vs) H (fun b H' => b = true ∧ Q H')) : DeclOk P w K mg base (k + 1) f sp := by
  intro A outer s H us vs Q hr e0 r hsp
  have hl := len _ _ _ hsp
  have inK : K.In s.heap := e0.mod.kin.keeps fun b o e => (e0.bs b o e).1
  have nolim : s.heap.NoLimit := e0.mod.nolimit.keeps fun b o e => (e0.bs b o e).1
  have kinds : ∀ y ∈ ps.zip us, scope.names.lookup y.1 = some .local ∨ (scope.names.lookup y.1 = some .cell ∧ ((cellsFrom (s.heap.objs.size + 1) scope.names []).lookup y.1).isSome = true) := fun ⟨n, v⟩ hy =>
    (S.par n (List.of_mem_zip hy).1).imp id fun q => ⟨q, PySem.W.cellsFrom_some _ _ _ (.inl q)⟩
  have hbd : BindsTo s (PySem.W.fnOf name qual params body scope dV kV doc pm an cdv ct) ⟨us, []⟩ (ps.zip us) := by
    have := hb s us inK (by rw [List.append_nil, ← r.length, hl])
    rw [List.append_nil] at this
    exact this
  refine codeAny_call_function hr.depth (inK _ _ lk) rfl S.co S.gen rfl (PySem.W.codeRec_of inK hcd) (hbd _ _ _ _ (wpAny_newFunctionEnv_cells S.kind kinds fun env he s1 x => ?_))
  subst he
  refine ⟨nolim.keeps x.toInCall.keep, codeAny_func ?_⟩
  obtain ⟨tt, hT, hq⟩ := ht A outer s H vs Q (hr.deeper _) hsp
  have I : Inv (cxOf L2.CX0 P w K mg base N qual scope f cdv A outer s H L2.E0) [] (start N vs) H s1 := inv_start S hr.hd e0 hl r x
  rw [hbody]
  have run : wpAny (model P w) (A.deeper (envOfC qual scope s.heap.objs.size f cdv)) (execs (.If test [.Return (some (.Name "NotImplemented" p1)) p2] [] p3 :: rest) (envOfC qual scope s.heap.objs.size f cdv))
      (fun fl s' => fl = .ret .notImplemented ∧ Declined outer P w H s Q s') (cxOf L2.CX0 P w K mg base N qual scope f cdv A outer s H L2.E0).xe s1 := by
    refine wpAny_execs_cons (wpAny_If (thn (hT.run [] s1 (start N vs) H _ I hq) fun d s2 ⟨H1, I1, hd, q1⟩ => ?_))
    subst hd
    refine wpAny_execs_cons (wpAny_Return_some (ld_blt I1 gl gm (by rfl) ⟨rfl, H1, I1.os, I1.bare, I1.base, I1.hok, q1⟩))
  refine wpAny_mono run (fun fl s' hs => ?_) fun e s' hs => ?_
  · obtain ⟨rfl, q⟩ := hs
    exact ⟨rfl, q⟩
  · exact wpAny_mono (show wpAny _ _ _ _ _ _ from hs) (fun _ _ z => (show False from z).elim) (fun _ _ z => (show False from z).elim)
section
variable {M : Model} {A : Around} {E : Value → Shared → Prop} {prog : Program} {w : World}
theorem str_eq_inst (b : Str) (u : Tok) (l C dx : Addr) :
    Meets (Builtin.«str.__eq__» ⟨[.str b u, .ref l], []⟩) (fun _ R s => s.heap.get? l = some (PySem.W.instObj C dx) ∧ R (.ok (.ret .notImplemented)) s) :=
  .of_wp fun P v B R z k => by
    obtain ⟨hp, g, d, tk, os⟩ := z
    obtain ⟨hl, k⟩ := k
    wp_walk using wpAny_loadPart' hl, wpAny_load hl
    exact ⟨_, rfl, k⟩
theorem tup_eq_inst {s : Shared} {l x C : Addr} {ox : Obj} {od : Option Obj} {K : PySem.W.Frag} {Q : Fin → Shared → Prop} (X : K.In s.heap) (I : PySem.W.InstAt s.heap x ox C od) (hm : PySem.W.mroIn K C (.type "tuple") = some false) (h : Q (.done (.ret .notImplemented)) s) :
    wpAny (model prog w) A (Builtin.«tuple.__eq__» ⟨[.ref l, .ref x], []⟩) Q E s := by
  have sub : ∀ {E : Value → Shared → Prop} {Q : Bool → Shared → Prop}, Q false s → wpAny (model prog w) A (isInstance (.ref x) (.type "tuple")) Q E s := fun {E Q} q => by
    have L : PySem.W.Looks (model prog w) s.heap (isInstance (.ref x) (.type "tuple")) false := I.type.andThen (PySem.W.looks_mroIn X hm)
    exact L.here q
  obtain ⟨hp, g, d, tk, os⟩ := s
  wp_walk using sub
  exact h
end
section
variable {X : Cx} {C g : Addr} {n : Nat} {sp : List V → Hp → (Hp → Prop) → Prop}
/-- x == y, x an instance whose own __eq__ declines; y None, a text, a tuple -/
def rEqDecl (C : Addr) (sp : List V → Hp → (Hp → Prop) → Prop) : R2 := fun x y H Q => ∃ a dx fs, x = .ref a ∧ H a = some (.ins C dx fs) ∧ (y = .non ∨ (∃ z, y = .str z) ∨ ∃ l xs, y = .ref l ∧ H l = some (.tup xs)) ∧ sp [x, y] H (fun H' => Same H H' ∧ Q (.bl false) H')
structure DeC (K : PySem.W.Frag) (C g : Addr) : Prop where
  mt : PySem.W.mroIn K C (.type "tuple") = some false
  eq : PySem.W.findIn K (.ref C) "__eq__" = some (some (.ref g))
  fn : PySem.W.isFn K (.ref g) = true
  s0 : PySem.W.subIn K (.type "NoneType") (.ref C) = some false
  s1 : PySem.W.subIn K (.type "str") (.ref C) = some false
  s2 : PySem.W.subIn K (.type "tuple") (.ref C) = some false
theorem eqDecl_core {A : Around} {E : Value → Shared → Prop} {s : Shared} {x : Addr} {u t : Value} {Q : Value → Shared → Prop} {od : Option Obj} {ox : Obj} (hu : A.units < cLine) (XK : X.K.In s.heap) (J : PySem.W.InstAt s.heap x ox C od) (D : DeC X.K C g)
    (hb : PySem.W.Looks (model X.prog X.w) s.heap (typeOf u) t) (ht : (Value.ref C != t) = true) (hsub : PySem.W.subIn X.K t (.ref C) = some false)
    (h : wpAny (model X.prog X.w) A (call (.ref g) [.ref x, u]) (fun v s' => v = .notImplemented ∧ wpAny (model X.prog X.w) A (tryCompare u "__eq__" (.ref x)) (fun r s2 => r = none ∧ wpAny (model X.prog X.w) A (isSame (.ref x) u) (fun b s3 => b = false ∧ Q (.bool false) s3) E s2) E s') E s) :
    wpAny (model X.prog X.w) A (richCompare .Eq (.ref x) u) Q E s := by
  have one : wpAny (model X.prog X.w) A (tryCompare (.ref x) "__eq__" u) (fun r s' => r = none ∧ wpAny (model X.prog X.w) A (tryCompare u "__eq__" (.ref x)) (fun r s2 => r = none ∧ wpAny (model X.prog X.w) A (isSame (.ref x) u) (fun b s3 => b = false ∧ Q (.bool false) s3) E s2) E s') E s := by
    unfold tryCompare
    refine wpAny_bind (PySem.W.ifBound_K XK J D.eq D.fn (wpAny_mono h (fun v s' ⟨e, q⟩ => ?_) fun _ _ e => e))
    subst e
    exact wpAny_pure ⟨rfl, q⟩
  simp only [richCompare, cmpInfo_Eq, oneThing_ref]
  refine wpAny_holding (wpAny_bind (wpAny_cRoomFor hu (wpAny_bind (J.type.here (wpAny_bind (hb.here ?_))))))
  rw [if_pos ht]
  refine wpAny_bind ((PySem.W.looks_subIn XK hsub).here ?_)
  simp only [Bool.false_eq_true, if_false, Bool.not_false, if_true]
  refine wpAny_bind (m := tryCompare (.ref x) _ u) (wpAny_mono one (fun r s1 ⟨z1, z2⟩ => ?_) fun _ _ e => e)
  subst z1
  refine wpAny_bind (m := tryCompare u _ (.ref x)) (wpAny_mono z2 (fun r s2 ⟨z3, z4⟩ => ?_) fun _ _ e => e)
  subst z3
  refine wpAny_bind (wpAny_rule (wpAny_bind (wpAny_mono z4 (fun b s3 ⟨z5, z6⟩ => ?_) fun _ _ e => e)))
  subst z5
  exact wpAny_pure z6
theorem op_eqDecl (D : DeC X.K C g) (FD : DeclOk X.prog X.w X.K X.mg X.base n g sp) (hr : Room n X.A) : OpR X (compareOp .Eq) (rEqDecl C sp) := by
  intro pins s σ H x y v u Q I rx ry h
  obtain ⟨a, dx, fs, rfl, ha, ty, q⟩ := h
  cases (show v = Value.ref a from rx)
  obtain ⟨mA, O, _⟩ := ins_get I.hok ha
  obtain ⟨od, J, _⟩ := O.look
  show wpAny _ _ (richCompare .Eq (.ref a) u) _ _ _
  have after : ∀ (t : Value), (Value.ref C != t) = true → PySem.W.subIn X.K t (.ref C) = some false → PySem.W.Looks (model X.prog X.w) s.heap (typeOf u) t →
      (∀ (s' : Shared) (H' : Hp), Inv X pins σ H' s' → Same H H' → Q (.bl false) H' → wpAny (model X.prog X.w) X.A (tryCompare u "__eq__" (.ref a)) (fun r s2 => r = none ∧ wpAny (model X.prog X.w) X.A (isSame (.ref a) u) (fun b s3 => b = false ∧ EP X pins σ Q (.bool false) s3) X.xe s2) X.xe s') →
      wpAny (model X.prog X.w) X.A (richCompare .Eq (.ref a) u) (EP X pins σ Q) X.xe s := fun t h1 h2 h3 hs => by
    refine eqDecl_core hr.units0 I.kIn J D h3 h1 h2 (wpAny_call (codeAny_mono (FD X.A X.stack s H [.ref a, u] [.ref a, y] _ hr I.env0 (.cons rfl (.cons ry .nil)) q) fun r s' hq => ?_))
    obtain ⟨rfl, H', os, bare, un, hok, sm, qq⟩ := hq
    obtain ⟨hh, g', d, tk, os'⟩ := s'
    obtain rfl : os' = s.os := os
    exact ⟨rfl, hs _ H' (I.call (h' := hh) (g' := g') (d' := d) (t' := tk) (ch := []) un hok bare (fun b z => absurd z (by simp))) sm qq⟩
  rcases ty with rfl | ⟨z, rfl⟩ | ⟨l, xs, rfl, hl⟩
  · cases (show u = Value.none from ry)
    refine after (.type "NoneType") (by rfl) D.s0 (PySem.W.kitx_none.ty _ _ I.kIn True.intro) fun s' H' I' sm qq => ?_
    refine wpAny_tryCompare_declines (show s'.TypeIs .none "NoneType" from rfl) F.slot_NoneType_eq_refl (call_gives F.slot_NoneType_eq_refl rfl F.entry_NoneType_eq (F.args_NoneType_eq_2 _ _) (SeqAt.NoneType___eq___none_ref_0 a) ⟨rfl, rfl, ?_⟩)
    exact wpAny_of_eq (rfl : isSame (.ref a) .none = pure false) ⟨rfl, .bl false, H', I', rfl, qq⟩
  · obtain ⟨tk, rfl⟩ := ry
    refine after (.type "str") (by rfl) D.s1 (PySem.W.kitx_str.ty _ _ I.kIn True.intro) fun s' H' I' sm qq => ?_
    have hx : ∃ dx', s'.heap.get? a = some (PySem.W.instObj C dx') := by
      obtain ⟨_, _, _, h4, _⟩ := (show ObjOk X.prog X.w H' s'.heap a (.ins C dx fs) from I'.hok a _ (sm _ _ ha))
      exact ⟨dx, h4⟩
    obtain ⟨dx', h4⟩ := hx
    refine wpAny_tryCompare_declines (typeIs_str s' z tk) F.slot_str_eq_refl (call_meets F.slot_str_eq_refl (typeIs_str s' z tk) F.entry_str_eq (F.args_str_eq_2 _ _) (str_eq_inst z tk a C dx') ⟨h4, rfl, rfl, ?_⟩)
    exact wpAny_of_eq (rfl : isSame (.ref a) (.str z tk) = pure false) ⟨rfl, .bl false, H', I', rfl, qq⟩
  · cases (show u = Value.ref l from ry)
    obtain ⟨_, _, _, o, h1, h2, _⟩ := (show ObjOk X.prog X.w H s.heap l (.tup xs) from I.hok l _ hl)
    refine after (.type "tuple") (by rfl) D.s2 (PySem.W.kitx_tuple.ty _ _ I.kIn ⟨o, h1, h2⟩) fun s' H' I' sm qq => ?_
    obtain ⟨_, _, _, o', h1', h2', _⟩ := (show ObjOk X.prog X.w H' s'.heap l (.tup xs) from I'.hok l _ (sm _ _ hl))
    obtain ⟨mA', O', _⟩ := ins_get I'.hok (sm _ _ ha)
    obtain ⟨od', J', _⟩ := O'.look
    obtain ⟨ob', gob', cob'⟩ : ∃ ob, s'.heap.get? a = some ob ∧ ob.cls = .ref C := ⟨_, J'.1, J'.2⟩
    have hT : s'.TypeIs (.ref l) "tuple" := ⟨o', h1', h2'⟩
    have nla : a ≠ l := ne_of (sm _ _ ha) (sm _ _ hl) (fun z => nomatch z)
    refine wpAny_tryCompare_declines hT F.slot_tuple_eq_refl (wpAny_call (codeAny_call_builtin F.slot_tuple_eq_refl.plain F.entry_tuple_eq (F.slot_tuple_eq_refl.check _ _ _ _ _ _ _ _ hT (F.args_tuple_eq_2 _ _) (tup_eq_inst I'.kIn J' D.mt ⟨rfl, rfl, ?_⟩))))
    exact wpAny_isSame_ref_other nla gob' h1' (by rw [cob']; exact fun z => nomatch z) ⟨rfl, .bl false, H', I', rfl, qq⟩
end
end MyE
set_option Elab.async false
set_option linter.all false
set_option maxRecDepth 100000
set_option maxHeartbeats 2000000
namespace K08
open PySem PySem.Spec PyProof.Rows L2 My
/-! ### the text by places -/
def top (i : Nat) : Stmt := PySem.Challenge.pw_takenup_k08_sums_and_their_order.main.body.getD i (.Pass ⟨0, 0, 0, 0⟩)
abbrev sIsInt : Stmt := top 2
abbrev sShown : Stmt := top 5
abbrev sBsI : Stmt := inClass (top 7) 0
abbrev sBtI : Stmt := inClass (top 8) 0
abbrev sWhole : Stmt := top 12
abbrev sCuI : Stmt := inClass (top 13) 0
abbrev sAhead : Stmt := inClass (top 13) 1
abbrev sGoOn : Stmt := inClass (top 13) 2
abbrev sRefuse : Stmt := inClass (top 13) 3
abbrev sNeedEnd : Stmt := inClass (top 13) 9
abbrev sSuI : Stmt := inClass (top 17) 1
abbrev sAdd : Stmt := inClass (top 17) 2
abbrev sSub : Stmt := inClass (top 17) 3
abbrev sApart : Stmt := inClass (top 17) 4
abbrev sValIn : Stmt := inClass (top 17) 5
abbrev sEq : Stmt := inClass (top 17) 6
abbrev sLt : Stmt := inClass (top 17) 7
abbrev sLe : Stmt := inClass (top 17) 8
abbrev sGt : Stmt := inClass (top 17) 9
abbrev sGe : Stmt := inClass (top 17) 10
abbrev sStr : Stmt := inClass (top 17) 11
abbrev sRead : Stmt := inClass (top 17) 12
abbrev sSigned : Stmt := top 18
abbrev sDigits : Stmt := top 19
abbrev sSumOf : Stmt := top 20
abbrev sSumBehind : Stmt := top 21
/-! ### the kinds of values that the law hands in -/
inductive TyS (SU : Addr) (H : Hp) : V → Value → Prop where
  | non : TyS SU H .non (.type "NoneType")
  | bl (b : Bool) : TyS SU H (.bl b) (.type "bool")
  | int (i : Int) : TyS SU H (.int i) (.type "int")
  | str (s : Str) : TyS SU H (.str s) (.type "str")
  | lst {a : Addr} {xs : List V} (e : H a = some (.lst xs)) : TyS SU H (.ref a) (.type "list")
  | tup {a : Addr} {xs : List V} (e : H a = some (.tup xs)) : TyS SU H (.ref a) (.type "tuple")
  | dK {a : Addr} {kvs : List (Key × V)} (e : H a = some (.dK kvs)) : TyS SU H (.ref a) (.type "dict")
  | su {a dx : Addr} {fs : List (Str × V)} (e : H a = some (.ins SU dx fs)) : TyS SU H (.ref a) (.ref SU)
def isI : V → Bool | .int _ => true | .bl _ => true | _ => false
def isB : V → Bool | .bl _ => true | _ => false
def isS : V → Bool | .str _ => true | _ => false
def isInt : V → Bool | .int _ => true | _ => false
def isDt : Value → Bool | .type s => s == "dict" | _ => false
def isSu : Value → Bool | .ref _ => true | _ => false
/-- what isinstance asks of Sum -/
structure SuT (K : PySem.W.Frag) (SU : Addr) : Prop where
  cl : Cls K SU
  ca : PySem.W.findIn K (.ref SU) "__class__" = some (some (.builtin "object.__class__"))
  cn : PySem.W.specialIn K (.builtin "object.__class__") "__get__" = some (some (.builtin "getset_descriptor.__get__"))
  ct : PySem.W.takesIn K (.builtin "object.__class__") = some true
  cm : PySem.W.mroIn K SU (.type "object") = some true
  ki : PySem.W.kitOne K (.ref SU) (.type "int") = some false
  kb : PySem.W.kitOne K (.ref SU) (.type "bool") = some false
  ks : PySem.W.kitOne K (.ref SU) (.type "str") = some false
  kd : PySem.W.kitOne K (.ref SU) (.type "dict") = some false
  kS : PySem.W.kitOne K (.ref SU) (.ref SU) = some true
  s0 : PySem.W.kitOne K (.type "NoneType") (.ref SU) = some false
  s1 : PySem.W.kitOne K (.type "bool") (.ref SU) = some false
  s2 : PySem.W.kitOne K (.type "int") (.ref SU) = some false
  s3 : PySem.W.kitOne K (.type "str") (.ref SU) = some false
  s4 : PySem.W.kitOne K (.type "list") (.ref SU) = some false
  s5 : PySem.W.kitOne K (.type "tuple") (.ref SU) = some false
  s6 : PySem.W.kitOne K (.type "dict") (.ref SU) = some false
section
variable {K : PySem.W.Frag} {SU : Addr} {H H' : Hp} {x : V} {t : Value}
theorem TyS.tyX (h : TyS SU H x t) (T : SuT K SU) : TyX K H x t := by
  cases h with
  | non => exact .base .non
  | bl b => exact .base (.bl b)
  | int i => exact .base (.int i)
  | str s => exact .base (.str s)
  | lst e => exact .base (.lst e)
  | tup e => exact .base (.tup e)
  | dK e => exact .base (.dK e)
  | su e => exact .base (.ins e T.cl T.ca T.cn T.ct T.cm)
theorem TyS.same (h : TyS SU H x t) (s : Same H H') : TyS SU H' x t := by
  cases h with
  | non => exact .non
  | bl b => exact .bl b
  | int i => exact .int i
  | str z => exact .str z
  | lst e => exact .lst (s _ _ e)
  | tup e => exact .tup (s _ _ e)
  | dK e => exact .dK (s _ _ e)
  | su e => exact .su (s _ _ e)
theorem kit_int (T : SuT K SU) (h : TyS SU H x t) : PySem.W.kitOne K t (.type "int") = some (isI x) := by
  cases h <;> first | exact kit_ty (r := true) (by decide +kernel) | exact kit_ty (r := false) (by decide +kernel) | exact T.ki
theorem kit_bool (T : SuT K SU) (h : TyS SU H x t) : PySem.W.kitOne K t (.type "bool") = some (isB x) := by
  cases h <;> first | exact kit_ty (r := true) (by decide +kernel) | exact kit_ty (r := false) (by decide +kernel) | exact T.kb
theorem kit_str (T : SuT K SU) (h : TyS SU H x t) : PySem.W.kitOne K t (.type "str") = some (isS x) := by
  cases h <;> first | exact kit_ty (r := true) (by decide +kernel) | exact kit_ty (r := false) (by decide +kernel) | exact T.ks
theorem kit_dict (T : SuT K SU) (h : TyS SU H x t) : PySem.W.kitOne K t (.type "dict") = some (isDt t) := by
  cases h <;> first | exact kit_ty (r := true) (by decide +kernel) | exact kit_ty (r := false) (by decide +kernel) | exact T.kd
theorem kit_su (T : SuT K SU) (h : TyS SU H x t) : PySem.W.kitOne K t (.ref SU) = some (isSu t) := by
  cases h <;> first | exact T.kS | exact T.s0 | exact T.s1 | exact T.s2 | exact T.s3 | exact T.s4 | exact T.s5 | exact T.s6
end
/-- built-in names that the module leaves alone -/
structure Blt (mg : Str → Option Value) : Prop where
  isinstance : mg "isinstance" = none
  int : mg "int" = none
  bool : mg "bool" = none
  str : mg "str" = none
  len : mg "len" = none
  all : mg "all" = none
  list : mg "list" = none
  dict : mg "dict" = none
  tuple : mg "tuple" = none
  abs : mg "abs" = none
  zip : mg "zip" = none
  range : mg "range" = none
section
variable {P : Program} {w : World} {K : PySem.W.Frag} {mg : Str → Option Value} {base : Heap} {SU : Addr}
/-! ### is_integer -/
def spIsInt (SU : Addr) : Sp := fun vs H Q _ => ∃ x t, vs = [x] ∧ TyS SU H x t ∧ Q (.bl (isInt x)) H
theorem scIsInt : FnScope ["value"] ["value"] (defScope sIsInt) := ⟨rfl, rfl, rfl, by decide +kernel, rfl, by decide +kernel, by decide +kernel⟩
theorem ok_isint {f : Addr} {fd : FuncData} (F : Fun K "is_integer" "is_integer" sIsInt f fd) (B : Blt mg) (T : SuT K SU) : FnOk P w K mg base CX0 1 f fd ["value"] (spIsInt SU) := by
  refine F.ok scIsInt (fun vs H Q E h => ?_) (fun cdv A outer s H vs Q E hr h => ?_)
  · obtain ⟨x, t, rfl, _⟩ := h
    rfl
  · obtain ⟨x, t, rfl, ty, k⟩ := h
    refine ⟨_, pss_one (ps_ret (pe_and (pe_callB call_isi (by rfl) B.isinstance (by decide +kernel) (pa_cons (pv 0) (pa_cons (pe_bty "int" (by rfl) B.int (by decide +kernel)) pa_nil)))
      (pe_one (pe_not (pe_callB call_isi (by rfl) B.isinstance (by decide +kernel) (pa_cons (pv 0) (pa_cons (pe_bty "bool" (by rfl) B.bool (by decide +kernel)) pa_nil))))))), ?_⟩
    refine ⟨_, rfl, x, _, t, _, _, rfl, .ty _, ty.tyX T, kit_int T ty, _, rfl, ?_⟩
    cases hx : isI x
    · refine iteF ?_
      have e : isInt x = false := by cases x <;> simp_all [isI, isInt]
      rw [e] at k
      exact k
    · refine iteT ⟨_, rfl, x, _, t, _, _, rfl, .ty _, ty.tyX T, kit_bool T ty, _, rfl, ?_⟩
      have e : isInt x = !isB x := by cases x <;> simp_all [isI, isInt, isB]
      rw [e] at k
      exact k
end
end K08
set_option Elab.async false
set_option linter.all false
set_option maxRecDepth 100000
set_option maxHeartbeats 2000000
namespace K08
open PySem PySem.Spec PyProof.Rows L2 My
/-! ### errors -/
/-- the wish of an error of the class at C with these fields -/
def RaisesX (H : Hp) (C : Addr) (fs : List (Str × V)) (E : XK) : Prop := ∀ d H', Same H H' → H' d = some (.xd fs) → E (.ref C) (some d) H'
theorem RaisesX.same {H H1 : Hp} {C : Addr} {fs : List (Str × V)} {E : XK} (r : RaisesX H C fs E) (s : Same H H1) : RaisesX H1 C fs E := fun d H' s' e => r d H' (s.trans s') e
/-- behind an __init__ of an error: its fields -/
def PostX (H : Hp) (a C : Addr) (fs : List (Str × V)) (Q : VK) : Prop := ∀ dx H', H dx = none → dx ≠ a → H' a = some (exo a C (some dx)) → H' dx = some (exd dx fs) → (∀ b, b ≠ a → b ≠ dx → H' b = H b) → Q .non H'
/-- what the text says of an error's class -/
structure ExT (K : PySem.W.Frag) (C fI : Addr) : Prop where
  oex : OexC K C
  init : PySem.W.findIn K (.ref C) "__init__" = some (some (.ref fI))
  tI : PySem.W.typeIn K (.ref fI) = some (.type "function")
structure TopT (K : PySem.W.Frag) (mg : Str → Option Value) (TE : Addr) : Prop where
  g : mg "ToolError" = some (.ref TE)
  rd : ClX.CRead K TE (.type "type")
  init : PySem.W.findCls K (.ref TE) (.type "type") "__init__" = some (.val (.builtin "ValueError.__init__"))
/-- the reading of raise C(..) -/
theorem raise_read {H : Hp} {C : Addr} {fs : List (Str × V)} {E : XK} {sp : Sp} {vs : List V} (R : RaisesX H C fs E)
    (h : ∀ a H0 (Q : VK) (F : XK), H0 a = some (exo a C none) → PostX H0 a C fs Q → sp (.ref a :: vs) H0 Q F) (a : Addr) (ha : H a = none) :
    sp (.ref a :: vs) (upd H a (exo a C none)) (fun v H2 => v = .non ∧ ∃ (d : Addr) (fs' : List (Str × V)), H2 a = some (exo a C (some d)) ∧ H2 d = some (exd d fs') ∧ H d = none ∧ E (.ref C) (some d) (upd (del H2 a) d (.xd fs'))) (fun _ _ _ => False) := by
  refine h a _ _ _ upd_same fun dx H' n1 n2 e1 e2 keep => ⟨rfl, dx, fs, e1, e2, ?_, R dx _ (fun b o e => ?_) upd_same⟩
  · rw [upd_ne n2] at n1
    exact n1
  · have nb : b ≠ a := ne_of_none e ha
    have nd : b ≠ dx := by
      rw [upd_ne n2] at n1
      exact ne_of_none e n1
    rw [upd_ne nd, del_ne nb, keep b nb nd, upd_ne nb]
    exact e
section
variable {P : Program} {w : World} {K : PySem.W.Frag} {mg : Str → Option Value} {base : Heap} {SU TE C fS : Addr} {fdS : FuncData}
/-! ### shown -/
def shownV (x : V) : Prop := (∃ s : Str, x = .str s ∧ s.length ≤ 80) ∨ ∃ i : Int, x = .int i ∧ 0 ≤ i ∧ i < 1000000000
def spShown : Sp := fun vs H Q _ => ∃ x, vs = [x] ∧ shownV x ∧ ∀ r : Str, r.length ≤ 3000 → Q (.str r) H
theorem scShown : FnScope ["value"] ["value"] (defScope sShown) := ⟨rfl, rfl, rfl, by decide +kernel, rfl, by decide +kernel, by decide +kernel⟩
theorem small_log {i : Int} (h0 : 0 ≤ i) (h1 : i < 1000000000) : i.natAbs.log2 < 1920 := by
  have h2 : i.natAbs < 2 ^ 30 := by
    have : (2 : Nat) ^ 30 = 1073741824 := by decide
    omega
  by_cases hz : i.natAbs = 0
  · rw [hz]
    decide
  · exact Nat.lt_trans ((Nat.log2_lt hz).mpr h2) (by decide)
theorem ok_shown {f : Addr} {fd : FuncData} (F : Fun K "shown" "shown" sShown f fd) (B : Blt mg) (gS : ∃ t, mg "SHOWN" = some (.int 1000000000000 t)) : FnOk P w K mg base CX0 1 f fd ["value"] spShown := by
  refine F.ok scShown (fun vs H Q E h => ?_) (fun cdv A outer s H vs Q E hr h => ?_)
  · obtain ⟨x, rfl, _⟩ := h
    rfl
  · obtain ⟨x, rfl, hx, k⟩ := h
    refine ⟨_, pss_cons (ps_if (pt_val (pe_callB call_isi (by rfl) B.isinstance (by decide +kernel) (pa_cons (pv 0) (pa_cons (pe_bty "str" (by rfl) B.str (by decide +kernel)) pa_nil)))) (pss_one (ps_ret (pe_slice sl_str (pv 0) po_none (po_some pe_int)))) pss_nil)
      (pss_cons (ps_if (PW.pt (pw_and (pt_val (pe_callB call_isi (by rfl) B.isinstance (by decide +kernel) (pa_cons (pv 0) (pa_cons (pe_bty "int" (by rfl) B.int (by decide +kernel)) pa_nil))))
          (pw_and1 (pt_chain op_lt op_lt (pe_un un_neg (pe_gint rfl gS)) (pv 0) (pe_gint rfl gS))))) (pss_one (ps_ret (pe_callTy call_str_int (by rfl) B.str (by decide +kernel) (pa_cons (pv 0) pa_nil)))) pss_nil)
      (pss_one (ps_ret pe_str))), ?_⟩
    rcases hx with ⟨z, rfl, hz⟩ | ⟨i, rfl, h0, h1⟩
    · refine ⟨_, rfl, _, _, .type "str", _, true, rfl, .ty _, .base (.str z), kit_ty (by decide +kernel), true, rfl, iteT ?_⟩
      refine ⟨_, rfl, ?_⟩
      refine ⟨80, rfl, z, rfl, Nat.le_trans hz (by rw [sizeLine_eq]; decide), k _ ?_⟩
      exact Nat.le_trans (cutS_length z _ _) (by omega)
    · refine ⟨_, rfl, _, _, .type "int", _, false, rfl, .ty _, .base (.int i), kit_ty (by decide +kernel), false, rfl, iteF ?_⟩
      refine ⟨_, rfl, _, _, .type "int", _, true, rfl, .ty _, .base (.int i), kit_ty (by decide +kernel), true, rfl, iteT ?_⟩
      refine ⟨_, rfl, _, rfl, _, _, rfl, rfl, ?_⟩
      refine ⟨true, congrArg V.bl (decide_eq_true (by omega)), iteT ⟨_, _, rfl, rfl, true, congrArg V.bl (decide_eq_true (by omega)), iteT ?_⟩⟩
      refine ⟨_, rfl, _, rfl, small_log h0 h1, k _ ?_⟩
      rw [PySem.ofString_length]
      have e := int_text_length_le (k := 1920) (by decide) (small_log h0 h1)
      omega
/-! ### BadSum, BadText made -/
theorem app_len (x y : Str) : (x ++ y).length = x.length + y.length := by
  show (x.cps ++ y.cps).size = _
  rw [Array.size_append]
  rfl
def spBsI (C : Addr) : Sp := fun vs H Q _ => ∃ (a : Addr) (p : Str), vs = [.ref a, .str p] ∧ p.length ≤ 80 ∧ H a = some (exo a C none) ∧ PostX H a C [("part", .str p)] Q
theorem scBsI : FnScope ["self", "part"] ["self", "part"] (defScope sBsI) := ⟨rfl, rfl, rfl, by decide +kernel, rfl, by decide +kernel, by decide +kernel⟩
theorem line_of {n m : Nat} (h : n ≤ m) (hm : m ≤ 1000000 := by decide) : n ≤ sizeLine := Nat.le_trans h (Nat.le_trans hm (by rw [sizeLine_eq]; decide))
theorem ok_bsI {f : Addr} {fd : FuncData} (F : Fun K "__init__" "BadSum.__init__" sBsI f fd) (X : ExT K C f) (T : TopT K mg TE) (nP : PySem.W.findIn K (.ref C) "part" = some none)
    (gS : mg "shown" = some (.ref fS)) (FS : Fun K "shown" "shown" sShown fS fdS) (GS : FnOk P w K mg base CX0 1 fS fdS ["value"] spShown) (bS : Binds K fdS ["value"] []) : FnOk P w K mg base CX0 2 f fd ["self", "part"] (spBsI C) := by
  refine F.ok scBsI (fun vs H Q E h => ?_) (fun cdv A outer s H vs Q E hr h => ?_)
  · obtain ⟨a, p, rfl, _⟩ := h
    rfl
  · obtain ⟨a, p, rfl, hp, ha, k⟩ := h
    refine ⟨_, pss_cons (ps_expr (pe_tinit (by rfl) T.g T.rd T.init (pa_cons (pv 0) (pa_cons (pe_joined (.cons pe_str (.cons (pe_fmt (pe_call GS hr rfl gS FS.kp bS .nil pass0 (pa_cons (pv 1) pa_nil))) .nil))) pa_nil))))
      (pss_one (ps_ost (pv 0) (pv 1))), ?_⟩
    refine ⟨_, rfl, _, rfl, (by decide), _, rfl, _, rfl, .inl ⟨p, rfl, hp⟩, fun r hr' => .inl ⟨r, rfl, line_of hr', r, rfl, ?_, ?_⟩⟩
    · rw [app_len, app_len]
      exact line_of (m := 5000) (by rw [show (Str.empty : Str).length = 0 from rfl, show (("bad sum: " : Str)).length = 9 by decide]; omega)
    · refine ⟨a, C, [_], rfl, (show 1 ≤ 1000 by decide), X.oex, ha, ?_⟩
      refine ⟨_, rfl, _, rfl, a, C, rfl, X.oex, nP, .inl ⟨ha, fun dx n1 n2 => k dx _ n1 n2 upd_same ?_ fun b n3 n4 => ?_⟩⟩
      · rw [upd_ne n2, upd_same]
      · rw [upd_ne n3, upd_ne n4]
def spBtI (C : Addr) : Sp := fun vs H Q _ => ∃ (a : Addr) (l n : Int), vs = [.ref a, .int l, .int n] ∧ (0 ≤ l ∧ l < 1000000000) ∧ (0 ≤ n ∧ n < 1000000000) ∧ H a = some (exo a C none) ∧ PostX H a C [("word", .int n), ("line", .int l)] Q
theorem scBtI : FnScope ["self", "line", "word"] ["self", "line", "word"] (defScope sBtI) := ⟨rfl, rfl, rfl, by decide +kernel, rfl, by decide +kernel, by decide +kernel⟩
theorem ok_btI {f : Addr} {fd : FuncData} (F : Fun K "__init__" "BadText.__init__" sBtI f fd) (X : ExT K C f) (T : TopT K mg TE) (nL : PySem.W.findIn K (.ref C) "line" = some none) (nW : PySem.W.findIn K (.ref C) "word" = some none)
    (gS : mg "shown" = some (.ref fS)) (FS : Fun K "shown" "shown" sShown fS fdS) (GS : FnOk P w K mg base CX0 1 fS fdS ["value"] spShown) (bS : Binds K fdS ["value"] []) : FnOk P w K mg base CX0 2 f fd ["self", "line", "word"] (spBtI C) := by
  refine F.ok scBtI (fun vs H Q E h => ?_) (fun cdv A outer s H vs Q E hr h => ?_)
  · obtain ⟨a, l, n, rfl, _⟩ := h
    rfl
  · obtain ⟨a, l, n, rfl, hl, hn, ha, k⟩ := h
    refine ⟨_, pss_cons (ps_expr (pe_tinit (by rfl) T.g T.rd T.init (pa_cons (pv 0) (pa_cons (pe_joined (.cons pe_str (.cons (pe_fmt (pe_call GS hr rfl gS FS.kp bS .nil pass0 (pa_cons (pv 1) pa_nil)))
        (.cons pe_str (.cons (pe_fmt (pe_call GS hr rfl gS FS.kp bS .nil pass0 (pa_cons (pv 2) pa_nil))) .nil))))) pa_nil))))
      (pss_cons (ps_ost (pv 0) (pv 1)) (pss_one (ps_ost (pv 0) (pv 2)))), ?_⟩
    refine ⟨_, rfl, _, rfl, (by decide), _, rfl, _, rfl, .inr ⟨l, rfl, hl⟩, fun r hr' => .inl ⟨r, rfl, line_of hr', r, rfl, ?_, _, rfl, ?_, _, rfl, _, rfl, .inr ⟨n, rfl, hn⟩, fun r2 hr2 => .inl ⟨r2, rfl, line_of hr2, r2, rfl, ?_, ?_⟩⟩⟩
    · rw [app_len, app_len]
      exact line_of (m := 5000) (by rw [show (Str.empty : Str).length = 0 from rfl, show (("line: " : Str)).length = 6 by decide]; omega)
    · rw [app_len, app_len, app_len]
      exact line_of (m := 5000) (by rw [show (Str.empty : Str).length = 0 from rfl, show (("line: " : Str)).length = 6 by decide, show ((", wrong from word: " : Str)).length = 19 by decide]; omega)
    · rw [app_len, app_len, app_len, app_len]
      exact line_of (m := 10000) (by rw [show (Str.empty : Str).length = 0 from rfl, show (("line: " : Str)).length = 6 by decide, show ((", wrong from word: " : Str)).length = 19 by decide]; omega)
    · refine ⟨a, C, [_], rfl, (show 1 ≤ 1000 by decide), X.oex, ha, ?_⟩
      refine ⟨_, rfl, _, rfl, a, C, rfl, X.oex, nL, .inl ⟨ha, fun dx n1 n2 => ?_⟩⟩
      refine ⟨_, rfl, _, rfl, a, C, rfl, X.oex, nW, .inr ⟨dx, [("line", V.int l)], upd_same, (by rw [upd_ne n2, upd_same]), (show 1 ≤ 900 by decide), ?_⟩⟩
      refine k dx _ n1 n2 ?_ upd_same fun b n3 n4 => ?_
      · rw [upd_ne (Ne.symm n2), upd_same]
      · rw [upd_ne n4, upd_ne n3, upd_ne n4]
end
end K08
set_option Elab.async false
set_option linter.all false
set_option maxRecDepth 100000
set_option maxHeartbeats 2000000
namespace K08
open PySem PySem.Spec PyProof.Rows L2 My TL
/-! ### texts as lists of signs -/
theorem sw_pre (x y : Str) : Txt.startswith x y = pre (tl y) (tl x) := by
  unfold Txt.startswith Builtin.Str.subAt pre tl
  have hy : y.length = y.cps.toList.length := by simp [Str.length]
  have hx : x.length = x.cps.toList.length := by simp [Str.length]
  rw [Bool.eq_iff_iff]
  simp only [Bool.and_eq_true, decide_eq_true_eq, beq_iff_eq, Nat.zero_add]
  constructor
  · rintro ⟨h1, h2⟩
    have h3 := congrArg Array.toList h2
    rw [Array.toList_extract] at h3
    simpa [hy, List.extract] using h3
  · intro h
    have hl : y.length ≤ x.length := by
      have h4 := congrArg List.length h
      rw [List.length_take] at h4
      omega
    refine ⟨hl, ?_⟩
    apply Array.toList_inj.mp
    rw [Array.toList_extract]
    simpa [hy, List.extract] using h
theorem len_list (z : Str) : z.cps.toList.length = z.length := by simp [Str.length]
theorem tl_cutTo (z : Str) (k : Nat) : tl (cutS z none (some (k : Int))) = (tl z).take k := by
  unfold cutS tl
  rw [HT.sIx_nat, HT.sIx_none]
  show List.take (min k z.length - 0) (List.drop 0 z.cps.toList) = List.take k z.cps.toList
  rw [Nat.sub_zero, List.drop_zero, ← len_list, List.take_eq_take_iff]
  omega
theorem tl_cutFrom (z : Str) (k : Nat) : tl (cutS z (some (k : Int)) none) = (tl z).drop k := by
  unfold cutS tl
  rw [HT.sIx_nat, HT.sIx_none]
  show List.take (z.length - min k z.length) (List.drop (min k z.length) z.cps.toList) = List.drop k z.cps.toList
  rw [List.take_of_length_le (by rw [List.length_drop, len_list]; exact Nat.le_refl _)]
  by_cases h : k ≤ z.length
  · rw [Nat.min_eq_left h]
  · rw [Nat.min_eq_right (by omega), List.drop_of_length_le (by rw [len_list]; exact Nat.le_refl _), List.drop_of_length_le (by rw [len_list]; omega)]
theorem tl_rmpre {x y : Str} (h : pre (tl y) (tl x) = true) : tl (Txt.removeprefix x y) = (tl x).drop (tl y).length := by
  have hs : Txt.startswith x y = true := by rw [sw_pre]; exact h
  unfold Txt.startswith at hs
  simp only [Bool.and_eq_true, decide_eq_true_eq, Nat.zero_add] at hs
  unfold Txt.removeprefix Txt.affix
  rw [if_pos hs.2]
  have ly : (tl y).length = y.length := (len_tl y).symm
  show tl (if (x.length - y.length == x.length) = true then x else Builtin.Str.strSub x y.length x.length) = _
  by_cases h0 : (x.length - y.length == x.length) = true
  · rw [if_pos h0]
    have e := beq_iff_eq.mp h0
    have hz : y.length = 0 := by omega
    rw [ly, hz, List.drop_zero]
  · rw [if_neg h0, tl_strSub_end, ly]
/-! ### numbers -/
open NumText
theorem dv_snoc (l : List Nat) (c : Nat) : digitsVal (l ++ [c]) = digitsVal l * 10 + (c - 48) := by
  unfold digitsVal
  rw [List.foldl_append]
  rfl
theorem dv_pos {l : List Nat} (h : AllDigits l) (h0 : l ≠ []) (h1 : l.head? ≠ some 48) : 0 < digitsVal l := by
  have key : ∀ (l : List Nat) (a : Nat), a ≤ l.foldl (fun acc c => acc * 10 + (c - 48)) a := by
    intro l
    induction l with
    | nil => intro a; exact Nat.le_refl _
    | cons c l ih =>
      intro a
      exact Nat.le_trans (by omega) (ih (a * 10 + (c - 48)))
  cases l with
  | nil => exact absurd rfl h0
  | cons c l =>
    have hc := h c (List.mem_cons_self ..)
    have hne : c ≠ 48 := fun e => h1 (by rw [e]; rfl)
    have := key l (0 * 10 + (c - 48))
    unfold digitsVal
    rw [List.foldl_cons]
    omega
theorem num_back_n : ∀ (n : Nat) {l : List Nat}, l.length = n → AllDigits l → l ≠ [] → l.head? ≠ some 48 → numL (digitsVal l) = l := by
  intro n
  induction n with
  | zero => intro l hn _ h0 _; exact absurd (List.length_eq_zero_iff.mp hn) h0
  | succ n ih =>
    intro l hn h h0 h1
    rcases List.eq_nil_or_concat l with e | ⟨l', c, e⟩
    · exact absurd e h0
    · rw [List.concat_eq_append] at e
      subst e
      have hc := h c (by simp)
      rw [dv_snoc]
      by_cases hl : l' = []
      · subst hl
        show numL (0 * 10 + (c - 48)) = [c]
        rw [numL_lt (by omega)]
        congr 1
        omega
      · have hd : AllDigits l' := fun d hd => h d (by simp [hd])
        have hh : l'.head? ≠ some 48 := fun e => h1 (by cases l' with | nil => cases e | cons a r => exact e)
        have hp := dv_pos hd hl hh
        rw [numL_step (by omega)]
        have e1 : (digitsVal l' * 10 + (c - 48)) / 10 = digitsVal l' := by omega
        have e2 : 48 + (digitsVal l' * 10 + (c - 48)) % 10 = c := by omega
        rw [e1, e2, ih (by simpa using hn) hd hl hh]
theorem num_back {l : List Nat} (h : AllDigits l) (h0 : l ≠ []) (h1 : l.head? ≠ some 48) : numL (digitsVal l) = l := num_back_n _ rfl h h0 h1
theorem numL_head {n : Nat} (h : 0 < n) : (numL n).head? ≠ some 48 := by
  induction n using Nat.strongRecOn with
  | ind n ih =>
    by_cases hn : n < 10
    · rw [numL_lt hn]
      intro e
      have := Option.some.inj e
      omega
    · rw [numL_step (by omega)]
      have := ih (n / 10) (by omega) (by omega)
      cases e : numL (n / 10) with
      | nil => exact absurd e (numL_ne _)
      | cons a r =>
        rw [e] at this
        exact this
/-! ### whole_number -/
def DIG : Str := "0123456789"
theorem tl_DIG : tl DIG = [48, 49, 50, 51, 52, 53, 54, 55, 56, 57] := by decide +kernel
theorem in_DIG (c : Nat) : decide (c ∈ DIG.cps.toList) = (decide (48 ≤ c) && decide (c ≤ 57)) := by
  have e : DIG.cps.toList = [48, 49, 50, 51, 52, 53, 54, 55, 56, 57] := tl_DIG
  rw [e, Bool.eq_iff_iff]
  simp only [decide_eq_true_eq, Bool.and_eq_true, List.mem_cons, List.not_mem_nil, or_false]
  omega
def stripL (l : List Nat) : List Nat := if pre [45] l = true then l.drop 1 else l
def allD (l : List Nat) : Bool := l.all fun c => decide (48 ≤ c) && decide (c ≤ 57)
theorem allD_iff {l : List Nat} : allD l = true ↔ AllDigits l := by
  unfold allD AllDigits
  simp
def wholeL (l : List Nat) : Option Int :=
  if ¬ (1 ≤ (stripL l).length ∧ (stripL l).length ≤ 60) then none
  else if ¬ (allD (stripL l) = true) then none
  else if pre [48] (stripL l) = true ∧ l ≠ [48] then none
  else some (if pre [45] l = true then -((digitsVal (stripL l) : Nat) : Int) else ((digitsVal l : Nat) : Int))
theorem pre1 (c : Nat) (l : List Nat) : pre [c] l = true ↔ l.head? = some c := by
  unfold pre
  cases l with
  | nil => simp
  | cons a r =>
    show ([a] == [c]) = true ↔ some a = some c
    simp
theorem int_word {w : Str} {n : Int} (h : wholeL (tl w) = some n) : PySem.intText? w = some n ∧ w.length ≤ 61 := by
  unfold wholeL at h
  split at h
  · cases h
  · rename_i h1
    split at h
    · cases h
    · rename_i h2
      split at h
      · cases h
      · have h1 := Classical.not_not.mp h1
        have h2 := allD_iff.mp (Classical.not_not.mp h2)
        by_cases hm : pre [45] (tl w) = true
        · rw [if_pos hm] at h
          have es : stripL (tl w) = (tl w).drop 1 := if_pos hm
          have eh : tl w = 45 :: (tl w).drop 1 := by
            have := (pre1 45 (tl w)).mp hm
            cases e : tl w with
            | nil => rw [e] at this; cases this
            | cons a r => rw [e] at this; cases this; rfl
          rw [es] at h1 h2 h
          have hl : w.length ≤ 61 := by
            rw [len_tl, eh, List.length_cons]
            omega
          refine ⟨?_, hl⟩
          rw [← Option.some.inj h]
          exact intText_neg eh h2 (fun e => by rw [e] at h1; simp at h1) (by omega)
        · rw [if_neg hm] at h
          have es : stripL (tl w) = tl w := if_neg hm
          rw [es] at h1 h2
          have hl : w.length ≤ 61 := by
            rw [len_tl]
            omega
          refine ⟨?_, hl⟩
          rw [← Option.some.inj h]
          exact intText_digits h2 (fun e => by have e' : tl w = [] := e; rw [e'] at h1; simp at h1) (by omega)
/-! ### sums as texts -/
def NS : List Str := ["p", "z0", "z1", "z2", "z3", "o", "s"]
def nm (i : Nat) : Str := NS.getD i Str.empty
def NL : List (List Nat) := [[112], [122, 48], [122, 49], [122, 50], [122, 51], [111], [115]]
theorem tl_nm {i : Nat} (h : i < 7) : tl (nm i) = NL.getD i [] := by
  have : ∀ i : Fin 7, tl (nm i.val) = NL.getD i.val [] := by decide +kernel
  exact this ⟨i, h⟩
def behindL (r : List Nat) : Option Int :=
  if r = [] then some 0 else match wholeL (r.drop 1) with
    | none => none
    | some n => if n ≤ 0 then none else if pre [43] r = true then some n else if pre [45] r = true then some (-n) else none
/-- the first name that the text begins with, from the i-th on -/
def sumFrom (l : List Nat) : Nat → List (List Nat) → Option (Nat × Int)
  | _, [] => none
  | i, S :: rest => if pre S l = true then (behindL (l.drop S.length)).map fun n => (i, n) else sumFrom l (i + 1) rest
def sumL (l : List Nat) : Option (Nat × Int) := sumFrom l 0 NL
/-- what stands behind the name for the number n -/
def tailL (n : Int) : List Nat := if n = 0 then [] else (if 0 < n then 43 else 45) :: numL n.natAbs
theorem wholeL_num {n : Nat} (h : 0 < n) (hl : (numL n).length ≤ 60) : wholeL (numL n) = some ((n : Nat) : Int) := by
  have hd := numL_digits n
  have hne := numL_ne n
  have hm : ¬ pre [45] (numL n) = true := fun e => by
    have := (pre1 _ _).mp e
    cases e2 : numL n with
    | nil => exact hne e2
    | cons a r =>
      rw [e2] at this
      cases this
      have := hd 45 (by rw [e2]; exact List.mem_cons_self ..)
      omega
  have es : stripL (numL n) = numL n := if_neg hm
  unfold wholeL
  rw [es]
  have hp : 1 ≤ (numL n).length := List.length_pos_iff.mpr hne
  rw [if_neg (Classical.not_not.mpr ⟨hp, hl⟩), if_neg (Classical.not_not.mpr (allD_iff.mpr hd)), if_neg (fun e => numL_head h ((pre1 _ _).mp e.1)), if_neg hm, numL_val]
theorem behind_tail {n : Int} (hl : (numL n.natAbs).length ≤ 60) : behindL (tailL n) = some n := by
  unfold tailL
  by_cases h0 : n = 0
  · rw [if_pos h0, h0]
    rfl
  · rw [if_neg h0]
    have hp : 0 < n.natAbs := by omega
    unfold behindL
    rw [if_neg (by simp), List.drop_succ_cons, List.drop_zero, wholeL_num hp hl]
    show (if ((n.natAbs : Nat) : Int) ≤ 0 then none else _) = _
    rw [if_neg (by omega)]
    by_cases hs : 0 < n
    · rw [if_pos hs, if_pos ((pre1 _ _).mpr rfl)]
      congr 1
      omega
    · rw [if_neg hs, if_neg (fun e => by have := (pre1 _ _).mp e; cases this), if_pos ((pre1 _ _).mpr rfl)]
      congr 1
      omega
theorem behind_back {r : List Nat} {n : Int} (h : behindL r = some n) : r = tailL n := by
  unfold behindL at h
  split at h
  · rename_i e
    cases h
    exact e
  · rename_i hne
    split at h
    · cases h
    · rename_i m hm
      split at h
      · cases h
      · rename_i hpos
        have hpos : 0 < m := by omega
        -- the figures are the numeral of m
        have fig : r.drop 1 = numL m.natAbs := by
          unfold wholeL at hm
          split at hm
          · cases hm
          · rename_i h1
            split at hm
            · cases hm
            · rename_i h2
              split at hm
              · cases hm
              · rename_i h3
                have h1 := Classical.not_not.mp h1
                have h2 := allD_iff.mp (Classical.not_not.mp h2)
                by_cases hmn : pre [45] (r.drop 1) = true
                · rw [if_pos hmn] at hm
                  have := Option.some.inj hm
                  omega
                · rw [if_neg hmn] at hm
                  have es : stripL (r.drop 1) = r.drop 1 := if_neg hmn
                  rw [es] at h1 h2 h3
                  have hm' := Option.some.inj hm
                  have hh : (r.drop 1).head? ≠ some 48 := fun e => by
                    by_cases h48 : r.drop 1 = [48]
                    · rw [h48] at hm'
                      have : digitsVal [48] = 0 := by decide
                      rw [this] at hm'
                      omega
                    · exact h3 ⟨(pre1 _ _).mpr e, h48⟩
                  have e2 : m.natAbs = digitsVal (r.drop 1) := by omega
                  rw [e2, num_back h2 (fun e => by rw [e] at h1; simp at h1) hh]
        have hr : ∀ c, pre [c] r = true → r = c :: r.drop 1 := fun c e => by
          have := (pre1 _ _).mp e
          cases e2 : r with
          | nil => exact absurd e2 hne
          | cons a q => rw [e2] at this; cases this; rfl
        unfold tailL
        split at h
        · rename_i hp
          cases h
          rw [if_neg (by omega), if_pos hpos, ← fig]
          exact hr _ hp
        · split at h
          · rename_i hp
            cases h
            rw [if_neg (by omega), if_neg (by omega), show (-m).natAbs = m.natAbs by omega, ← fig]
            exact hr _ hp
          · cases h
end K08
set_option Elab.async false
set_option linter.all false
set_option maxRecDepth 100000
set_option maxHeartbeats 2000000
namespace K08
open PySem PySem.Spec PyProof.Rows L2 My TL
section
variable {P : Program} {w : World} {K : PySem.W.Frag} {mg : Str → Option Value} {base : Heap} {SU TEa CU BT fBt fS : Addr} {fdS fdBt : FuncData}
theorem ifnd {p : Prop} [Decidable p] {A B : Prop} (h1 : p → B) (h2 : ¬ p → A) : if (!decide p) = true then A else B := by
  by_cases h : p
  · rw [decide_eq_true h]
    exact iteF (h1 h)
  · rw [decide_eq_false h]
    exact iteT (h2 h)
theorem ifd {p : Prop} [Decidable p] {A B : Prop} (h1 : p → A) (h2 : ¬ p → B) : if decide p = true then A else B := by
  by_cases h : p
  · rw [decide_eq_true h]
    exact iteT (h1 h)
  · rw [decide_eq_false h]
    exact iteF (h2 h)
theorem ifb {b : Bool} {A B : Prop} (h1 : b = true → A) (h2 : b = false → B) : if b = true then A else B := by
  cases b
  · exact iteF (h2 rfl)
  · exact iteT (h1 rfl)
theorem ifnb {b : Bool} {A B : Prop} (h1 : b = true → B) (h2 : b = false → A) : if (!b) = true then A else B := by
  cases b
  · exact iteT (h2 rfl)
  · exact iteF (h1 rfl)
/-! ### whole_number -/
def optV : Option Int → V | some n => .int n | none => .non
def spWhole : Sp := fun vs H Q _ => ∃ z : Str, vs = [.str z] ∧ z.length ≤ 1000000 ∧ ∀ H', Same H H' → Q (optV (wholeL (tl z))) H'
theorem scWhole : FnScope ["word", "digits", "sign"] ["word"] (defScope sWhole) := ⟨rfl, rfl, rfl, by decide +kernel, rfl, by decide +kernel, by decide +kernel⟩
theorem same_upd {H : Hp} {a : Addr} {o : HO} (h : H a = none) : Same H (upd H a o) := fun b u e => by rw [upd_ne (ne_of_none e h)]; exact e
theorem tYes_if {F G : Hp → Prop} {σ : L2.St} {H : Hp} (h : F H) : tYes σ H fun b H3 => if b = true then F H3 else G H3 := by
  show (if true = true then F H else G H)
  rw [if_pos rfl]
  exact h
/-- a comprehension over a text whose item is a pure function of the sign -/
theorem lc_text {z : Str} {slot : Nat} (f : Nat → V) {te : L2.TE} {vs : List Nat} {σ : L2.St} {H1 : Hp} {D : Addr} {Qd : Hp → Prop} (hz : z.length ≤ 1000000) (hw : ∀ x, wipe ((wipe σ vs).set slot (some x)) vs = wipe σ vs)
    (he : ∀ (c : Nat) (Hx : Hp) (Q : VK), Q (f c) Hx → te ((wipe σ vs).set slot (some (.str ⟨#[c]⟩))) Hx Q) (hd : Qd (upd H1 D (.lst (z.cps.toList.map f)))) :
    ∃ W : Nat → Nat → Hp → Prop, (∃ m, W 0 m (upd H1 D (.lst []))) ∧ ∀ i m H, W i m H →
      ((Its z).stop i H ∧ Qd H) ∨ ((Its z).go i H ∧ ∃ Nx : Hp → Prop, (∀ H', Nx H' → ∃ m', m' < m ∧ W (i + 1) m' H') ∧ ∀ x H', (Its z).yld i H x H' → gName slot x (wipe σ vs) H' fun σ2 H2 => wipe σ2 vs = wipe σ vs ∧ tYes σ2 H2 fun b H3 =>
        if b = true then te σ2 H3 fun y H4 => ∃ acc, H4 D = some (.lst acc) ∧ acc.length < sizeLine ∧ Nx (upd H4 D (.lst (acc ++ [y]))) else Nx H3) := by
  refine lc_it (walk_str (z := z)) (fun i H => H = upd H1 D (.lst ((z.cps.toList.take i).map f))) rfl (fun _ _ _ _ => trivial) (fun i x H H' hi p y => ?_) fun H p => ?_
  · obtain ⟨rfl, c, hc, rfl⟩ := y
    subst p
    refine ⟨hw _, ?_⟩
    refine tYes_if ?_
    refine he c _ _ ⟨_, upd_same, ?_, ?_⟩
    · rw [List.length_map, List.length_take]
      have := len_list z
      exact Nat.lt_of_le_of_lt (Nat.min_le_right _ _) (Nat.lt_of_le_of_lt (by omega : z.cps.toList.length ≤ 1000000) (by rw [sizeLine_eq]; decide))
    · have hc' : z.cps.toList[i]? = some c := by rw [Array.getElem?_toList]; exact hc
      rw [upd_upd, List.take_add_one, hc', List.map_append]
      rfl
  · rw [p, List.take_of_length_le (by simp)]
    exact hd
theorem ok_whole {f : Addr} {fd : FuncData} (F : Fun K "whole_number" "whole_number" sWhole f fd) (B : Blt mg) (gD : ∃ t, mg "DIGITS" = some (.str DIG t)) (gM : ∃ t, mg "MOST_DIGITS" = some (.int 60 t)) : FnOk P w K mg base CX0 1 f fd ["word"] spWhole := by
  refine F.ok scWhole (fun vs H Q E h => ?_) (fun cdv A outer s H vs Q E hr h => ?_)
  · obtain ⟨z, rfl, _⟩ := h
    rfl
  · obtain ⟨z, rfl, hz, k⟩ := h
    refine ⟨_, pss_cons (ps_set (i := 1) scWhole.nd rfl (Or.inl rfl) (pe_ifExp (pt_val (pe_m1 PySem.F.slot_str_startswith PySem.F.type_str_startswith mt_startswith (pv 0) pe_str)) (pe_slice sl_str (pv 0) (po_some pe_int) po_none) (pv 0)))
      (pss_cons (ps_if (pt_not (pt_chain op_le op_le pe_int (pe_callB call_len_str (by rfl) B.len PySem.boot_len (pa_cons (pv 1) pa_nil)) (pe_gint rfl gM))) (pss_one (ps_ret pe_non)) pss_nil)
      (pss_cons (ps_if (pt_not (pt_val (pe_callB (cr_all rfl) (by rfl) B.all (by decide +kernel) (pa_cons (pe_lc (own := [("sign", 2)]) (g := gName 2) rfl scWhole.nd (pi_str (pv 1)) (blkOk_by (own := [("sign", 2)]) (N := ["word", "digits", "sign"]) (sc := defScope sWhole) (by decide +kernel))
          (fun _ _ _ _ _ => pg_name (i := 2) scWhole.nd rfl (Or.inl rfl)) (fun _ _ _ _ _ => pts_nil) (fun _ _ _ _ _ => pe_cmpR op_in_sign (pv 2) (pe_gstr rfl gD) rfl)) pa_nil)))) (pss_one (ps_ret pe_non)) pss_nil)
      (pss_cons (ps_if (PW.pt (pw_and (pt_val (pe_m1 PySem.F.slot_str_startswith PySem.F.type_str_startswith mt_startswith (pv 1) pe_str)) (pw_and1 (pt_cmpR op_ne (pv 0) pe_str (nomark _))))) (pss_one (ps_ret pe_non)) pss_nil)
      (pss_one (ps_ret (pe_callTy call_int_str (by rfl) B.int (by decide +kernel) (pa_cons (pv 0) pa_nil))))))), ?_⟩
    have hzl : z.length ≤ sizeLine := line_of hz
    have m45 : Txt.startswith z "-" = pre [45] (tl z) := sw_pre z "-"
    have sz : stripL (tl z) = (if pre [45] (tl z) = true then (tl z).drop 1 else tl z) := rfl
    refine ⟨_, rfl, ⟨_, rfl⟩, _, _, rfl, rfl, _, rfl, ite2 (fun c => ?g1) (fun c => ?g2)⟩
    case' g1 =>
      have hd : tl (cutS z (some 1) none) = stripL (tl z) := by rw [show tl (cutS z (some 1) none) = (tl z).drop 1 from tl_cutFrom z 1, sz, if_pos (by rw [← m45]; exact c)]
      have hl := cutS_length z (some 1) none
      refine ⟨_, rfl, _, rfl, z, rfl, hzl, ?_⟩
    case' g2 =>
      have hd : tl z = stripL (tl z) := by rw [sz, if_neg (by rw [← m45]; exact c)]
      have hl : z.length ≤ z.length := Nat.le_refl _
      refine ⟨_, rfl, ?_⟩
    all_goals
      have ll := congrArg List.length hd
      rw [← len_tl] at ll
      have m48 : ∀ y : Str, Txt.startswith y "0" = pre [48] (tl y) := fun y => sw_pre y "0"
      have z48 : ∀ y : Str, (V.str y = V.str "0") ↔ tl y = [48] := fun y => ⟨fun e => by cases e; decide +kernel, fun e => congrArg V.str (ext_tl (by rw [e]; decide +kernel))⟩
      have no1 : ¬ (1 ≤ (stripL (tl z)).length ∧ (stripL (tl z)).length ≤ 60) → wholeL (tl z) = none := fun h => if_pos h
      refine ⟨_, rfl, _, rfl, Nat.le_trans hl hzl, _, _, rfl, rfl, _, rfl, ifd (fun a1 => ?_) (fun a1 => ?_)⟩
      · refine ⟨_, _, rfl, rfl, _, rfl, ifnd (fun a2 => ?_) (fun a2 => ?_)⟩
        · have ok1 : 1 ≤ (stripL (tl z)).length ∧ (stripL (tl z)).length ≤ 60 := by omega
          refine ⟨_, rfl, _, rfl, fun D hD => lc_text (slot := 2) (fun c => V.bl (decide (48 ≤ c) && decide (c ≤ 57))) (Nat.le_trans hl hz) (fun _ => rfl) (fun c Hx Qx qx => ⟨_, rfl, _, _, rfl, rfl, by rw [in_DIG]; exact qx⟩) ?_⟩
          refine ⟨D, (stripL (tl z)).map fun c => decide (48 ≤ c) && decide (c ≤ 57), rfl, .inl (.inl ?_), _, rfl, ?_⟩
          · rw [upd_same, ← hd, List.map_map]
            rfl
          have eall : ((stripL (tl z)).map fun c => decide (48 ≤ c) && decide (c ≤ 57)).all id = allD (stripL (tl z)) := by
            unfold allD
            rw [List.all_map]
            rfl
          rw [eall]
          refine ifnb (fun a3 => ?_) (fun a3 => ?_)
          · refine ⟨_, rfl, ⟨_, rfl⟩, _, _, rfl, rfl, _, rfl, ?_⟩
            rw [m48, hd]
            have wh : ¬ (pre [48] (stripL (tl z)) = true ∧ tl z ≠ [48]) → ∃ n, wholeL (tl z) = some n := fun h => ⟨_, by
              unfold wholeL
              rw [if_neg (Classical.not_not.mpr ok1), if_neg (Classical.not_not.mpr a3), if_neg h]⟩
            have last : ¬ (pre [48] (stripL (tl z)) = true ∧ tl z ≠ [48]) → ∃ n, PySem.intText? z = some n ∧ z.length ≤ 640 ∧ optV (wholeL (tl z)) = .int n := fun h => by
              obtain ⟨n, e⟩ := wh h
              obtain ⟨e1, e2⟩ := int_word e
              exact ⟨n, e1, by omega, by rw [e]; rfl⟩
            refine ifb (fun a4 => ?_) (fun a4 => ?_)
            · refine ⟨_, rfl, rfl, _, rfl, ifnd (fun a5 => ?_) (fun a5 => ?_)⟩
              · obtain ⟨n, e1, e2, e3⟩ := last (fun e => e.2 ((z48 z).mp a5))
                refine ⟨_, rfl, _, _, rfl, e1, e2, ?_⟩
                rw [← e3]
                exact k _ (same_upd hD)
              · have e : wholeL (tl z) = none := by
                  unfold wholeL
                  rw [if_neg (Classical.not_not.mpr ok1), if_neg (Classical.not_not.mpr a3), if_pos ⟨a4, fun e => a5 ((z48 z).mpr e)⟩]
                rw [e] at k
                exact k _ (same_upd hD)
            · obtain ⟨n, e1, e2, e3⟩ := last (fun e => by rw [a4] at e; exact Bool.noConfusion e.1)
              refine ⟨_, rfl, _, _, rfl, e1, e2, ?_⟩
              rw [← e3]
              exact k _ (same_upd hD)
          · have e : wholeL (tl z) = none := by
              unfold wholeL
              rw [if_neg (Classical.not_not.mpr ok1), if_pos (by rw [a3]; exact Bool.false_ne_true)]
            rw [e] at k
            exact k _ (same_upd hD)
        · have e := no1 (by omega)
          rw [e] at k
          exact k _ (Same.refl H)
      · have e := no1 (by omega)
        rw [e] at k
        refine ⟨_, rfl, iteT ?_⟩
        exact k _ (Same.refl H)
end
end K08
set_option Elab.async false
set_option linter.all false
set_option maxRecDepth 100000
set_option maxHeartbeats 2000000
namespace K08
open PySem PySem.Spec PyProof.Rows L2 My TL
/-! ### the cursor -/
theorem k1 : ¬ (("words" : Str) = "at") := by decide +kernel
theorem k2 : ¬ (("at" : Str) = "words") := by decide +kernel
def cuF (l : Addr) (i : Int) : List (Str × V) := putF "at" (.int i) (putF "words" (.ref l) [])
theorem cuF_words (l : Addr) (i : Int) : (cuF l i).lookup ("words" : Str) = some (.ref l) := by
  unfold cuF
  rw [lookup_putF, if_neg k1, lookup_putF, if_pos rfl]
theorem cuF_at (l : Addr) (i : Int) : (cuF l i).lookup ("at" : Str) = some (.int i) := by
  unfold cuF
  rw [lookup_putF, if_pos rfl]
theorem cuF_no (l : Addr) (i : Int) {m : Str} (h1 : ¬ m = "words") (h2 : ¬ m = "at") : (cuF l i).lookup m = none := by
  unfold cuF
  rw [lookup_putF, if_neg h2, lookup_putF, if_neg h1]
  rfl
theorem cuF_eq (l : Addr) (i : Int) : cuF l i = ([("words", V.ref l), ("at", V.int i)] : List (Str × V)) := by
  show (if ("words" : Str) = "at" then [(("words" : Str), V.int i)] else (("words" : Str), V.ref l) :: putF "at" (V.int i) []) = _
  rw [if_neg k1]
  rfl
theorem cuF_put (l : Addr) (i j : Int) : putF "at" (.int j) (cuF l i) = cuF l j := by
  rw [cuF_eq, cuF_eq]
  show (if ("words" : Str) = "at" then _ else (("words" : Str), V.ref l) :: (if ("at" : Str) = "at" then [(("at" : Str), V.int j)] else _)) = _
  rw [if_neg k1, if_pos rfl]
structure CurAt (CU : Addr) (H : Hp) (a dx l : Addr) (i : Nat) (ws : List Str) : Prop where
  ob : H a = some (.ins CU dx (cuF l (i : Int)))
  ls : H l = some (.lst (ws.map V.str))
structure CuT (K : PySem.W.Frag) (CU : Addr) : Prop where
  cl : Cls K CU
  nW : NoAttr K CU "words"
  nA : NoAttr K CU "at"
def btF (n : Int) : List (Str × V) := [("word", .int n), ("line", .int 0)]
section
variable {P : Program} {w : World} {K : PySem.W.Frag} {mg : Str → Option Value} {base : Heap} {SU CU BT fBt fA fRf : Addr} {fdBt fdA fdRf : FuncData}
def spCuI (SU CU BT : Addr) : Sp := fun vs H Q E => ∃ x dx tx t, vs = [.ref x, tx] ∧ H x = some (.ins CU dx []) ∧ TyS SU H tx t ∧
  (∀ z, tx = .str z → z.length ≤ 100000 ∧ ∀ l, H l = none → Q .non (upd (upd H l (.lst ((Txt.split z " ").map V.str))) x (.ins CU dx (cuF l 0)))) ∧ (isS tx = false → RaisesX H BT (btF 0) E)
theorem scCuI : FnScope ["self", "text"] ["self", "text"] (defScope sCuI) := ⟨rfl, rfl, rfl, by decide +kernel, rfl, by decide +kernel, by decide +kernel⟩
/-- the def of BadText's __init__, as raising asks for it -/
structure RaT (P : Program) (w : World) (K : PySem.W.Frag) (mg : Str → Option Value) (base : Heap) (x : Str) (C fI : Addr) (fd : FuncData) (ps : List Str) (sp : Sp) : Prop where
  ex : ExT K C fI
  ok : FnOk P w K mg base CX0 2 fI fd ps sp
  bn : Binds K fd ps []
  g : mg x = some (.ref C)
theorem ok_cuI {f : Addr} {fd : FuncData} (F : Fun K "__init__" "Cursor.__init__" sCuI f fd) (B : Blt mg) (S : SuT K SU) (T : CuT K CU) (R : RaT P w K mg base "BadText" BT fBt fdBt ["self", "line", "word"] (spBtI BT)) :
    FnOk P w K mg base (L2.CX P w) 4 f fd ["self", "text"] (spCuI SU CU BT) := by
  refine F.okX scCuI (fun vs H Q E h => ?_) (fun cdv A outer s H vs Q E hr h => ?_)
  · obtain ⟨x, dx, tx, t, rfl, _⟩ := h
    rfl
  · obtain ⟨x, dx, tx, t, rfl, hx, ty, k, ke⟩ := h
    refine ⟨_, pss_cons (ps_if (pt_not (pt_val (pe_callB call_isi (by rfl) B.isinstance (by decide +kernel) (pa_cons (pv 1) (pa_cons (pe_bty "str" (by rfl) B.str (by decide +kernel)) pa_nil)))))
        (pss_one (ps_raise rfl (takes_of rfl rfl rfl rfl) (pmk_oex R.ex.oex R.ex.init R.ex.tI R.ok hr R.bn .nil pass0 (by rfl) R.g (pa_cons pe_int (pa_cons pe_int pa_nil))))) pss_nil)
      (pss_cons (ps_fld (pv 0) (pe_split (pv 1) pe_str) rfl) (pss_one (ps_fld (pv 0) pe_int rfl))), ?_⟩
    refine ⟨_, rfl, tx, _, t, _, _, rfl, .ty _, ty.tyX S, kit_str S ty, _, rfl, ifnb (fun hs => ?_) (fun hs => ?_)⟩
    · obtain ⟨z, rfl⟩ : ∃ z, tx = .str z := by cases ty <;> simp_all [isS]
      obtain ⟨hl, k⟩ := k z rfl
      refine ⟨_, rfl, ⟨_, rfl⟩, z, _, rfl, rfl, rfl, line_of (m := 200000) (by omega), fun l hl2 => ?_⟩
      have nx : x ≠ l := ne_of_none hx hl2
      refine ⟨_, rfl, x, CU, dx, [], rfl, (by rw [upd_ne nx]; exact hx), T.cl, T.nW, (by show 0 < 1000; decide), ?_⟩
      refine ⟨_, rfl, x, CU, dx, _, rfl, upd_same, T.cl, T.nA, (by show 1 < 1000; decide), ?_⟩
      rw [upd_upd]
      exact k l hl2
    · refine ⟨(show 2 ≤ 1000 by decide), fun a ha => ?_⟩
      refine raise_read (vs := [.int 0, .int 0]) (ke hs) (fun a H0 Q F h0 p => ⟨a, 0, 0, rfl, by decide, by decide, h0, p⟩) a ha
def atV (ws : List Str) (i : Nat) : V := match ws[i]? with | some z => .str z | none => .non
def spAhead (CU : Addr) : Sp := fun vs H Q _ => ∃ a dx l i ws, vs = [.ref a] ∧ CurAt CU H a dx l i ws ∧ ws.length ≤ 1000000 ∧ Q (atV ws i) H
theorem scAhead : FnScope ["self"] ["self"] (defScope sAhead) := ⟨rfl, rfl, rfl, by decide +kernel, rfl, by decide +kernel, by decide +kernel⟩
theorem ok_ahead {f : Addr} {fd : FuncData} (F : Fun K "ahead" "Cursor.ahead" sAhead f fd) (B : Blt mg) (T : CuT K CU) : FnOk P w K mg base CX0 1 f fd ["self"] (spAhead CU) := by
  refine F.ok scAhead (fun vs H Q E h => ?_) (fun cdv A outer s H vs Q E hr h => ?_)
  · obtain ⟨a, dx, l, i, ws, rfl, _⟩ := h
    rfl
  · obtain ⟨a, dx, l, i, ws, rfl, C, hw, k⟩ := h
    refine ⟨_, pss_one (ps_ret (pe_ifExp (pt_cmpR op_lt (pe_fld (pv 0) rfl) (pe_callB call_len_seq (by rfl) B.len PySem.boot_len (pa_cons (pe_fld (pv 0) rfl) pa_nil)) (nomark _))
      (pe_ix ix_list (pe_fld (pv 0) rfl) (pe_fld (pv 0) rfl) (fun _ _ => rfl)) pe_non)), ?_⟩
    refine ⟨_, rfl, a, CU, dx, _, _, rfl, C.ob, T.cl, T.nA, cuF_at _ _, _, rfl, a, CU, dx, _, _, rfl, C.ob, T.cl, T.nW, cuF_words _ _, l, _, rfl, .inl (SqL.of C.ls), ?_⟩
    refine ⟨_, _, rfl, rfl, _, rfl, ifd (fun h1 => ?_) (fun h1 => ?_)⟩
    · rw [List.length_map] at h1
      have hi : i < ws.length := by omega
      have e1 : (ws.map V.str)[i]? = some (.str ws[i]) := by simp [hi]
      have e2 : atV ws i = .str ws[i] := by unfold atV; simp [hi]
      rw [e2] at k
      exact ⟨_, rfl, a, CU, dx, _, _, rfl, C.ob, T.cl, T.nW, cuF_words _ _, _, rfl, a, CU, dx, _, _, rfl, C.ob, T.cl, T.nA, cuF_at _ _, l, _, _, _, rfl, rfl, SqL.of C.ls, atI_nat e1, k⟩
    · rw [List.length_map] at h1
      have e2 : atV ws i = .non := by unfold atV; rw [List.getElem?_eq_none (by omega)]
      rw [e2] at k
      exact k
def spGoOn (CU : Addr) : Sp := fun vs H Q _ => ∃ a dx l i ws, vs = [.ref a] ∧ CurAt CU H a dx l i ws ∧ Q .non (upd H a (.ins CU dx (cuF l ((i + 1 : Nat) : Int))))
theorem scGoOn : FnScope ["self"] ["self"] (defScope sGoOn) := ⟨rfl, rfl, rfl, by decide +kernel, rfl, by decide +kernel, by decide +kernel⟩
theorem ok_goon {f : Addr} {fd : FuncData} (F : Fun K "go_on" "Cursor.go_on" sGoOn f fd) (T : CuT K CU) : FnOk P w K mg base CX0 1 f fd ["self"] (spGoOn CU) := by
  refine F.ok scGoOn (fun vs H Q E h => ?_) (fun cdv A outer s H vs Q E hr h => ?_)
  · obtain ⟨a, dx, l, i, ws, rfl, _⟩ := h
    rfl
  · obtain ⟨a, dx, l, i, ws, rfl, C, k⟩ := h
    refine ⟨_, pss_one (ps_fldaug (pv 0) pe_int in_add), ?_⟩
    refine ⟨_, rfl, a, CU, dx, _, _, rfl, C.ob, T.cl, T.nA, cuF_at _ _, _, _, rfl, rfl, _, _, C.ob, (by rw [cuF_eq]; show 2 < 1000; decide), ?_⟩
    rw [cuF_put]
    exact k
def spRefuse (CU BT : Addr) : Sp := fun vs H Q E => ∃ a dx l i ws, vs = [.ref a] ∧ CurAt CU H a dx l i ws ∧ i ≤ 1000000 ∧ RaisesX H BT (btF (i : Int)) E
theorem scRefuse : FnScope ["self"] ["self"] (defScope sRefuse) := ⟨rfl, rfl, rfl, by decide +kernel, rfl, by decide +kernel, by decide +kernel⟩
theorem ok_refuse {f : Addr} {fd : FuncData} (F : Fun K "refuse" "Cursor.refuse" sRefuse f fd) (T : CuT K CU) (R : RaT P w K mg base "BadText" BT fBt fdBt ["self", "line", "word"] (spBtI BT)) :
    FnOk P w K mg base (L2.CX P w) 4 f fd ["self"] (spRefuse CU BT) := by
  refine F.okX scRefuse (fun vs H Q E h => ?_) (fun cdv A outer s H vs Q E hr h => ?_)
  · obtain ⟨a, dx, l, i, ws, rfl, _⟩ := h
    rfl
  · obtain ⟨a, dx, l, i, ws, rfl, C, hi, ke⟩ := h
    refine ⟨_, pss_one (ps_raise rfl (takes_of rfl rfl rfl rfl) (pmk_oex R.ex.oex R.ex.init R.ex.tI R.ok hr R.bn .nil pass0 (by rfl) R.g (pa_cons pe_int (pa_cons (pe_fld (pv 0) rfl) pa_nil)))), ?_⟩
    refine ⟨_, rfl, a, CU, dx, _, _, rfl, C.ob, T.cl, T.nA, cuF_at _ _, (show 2 ≤ 1000 by decide), fun b hb => ?_⟩
    exact raise_read (vs := [.int 0, .int (i : Int)]) ke (fun a H0 Q F h0 p => ⟨a, 0, (i : Int), rfl, by decide, by omega, h0, p⟩) b hb
def spNeedEnd (CU BT : Addr) : Sp := fun vs H Q E => ∃ a dx l i ws, vs = [.ref a] ∧ CurAt CU H a dx l i ws ∧ i ≤ 1000000 ∧ ws.length ≤ 1000000 ∧ (ws.length ≤ i → Q .non H) ∧ (i < ws.length → RaisesX H BT (btF (i : Int)) E)
theorem scNeedEnd : FnScope ["self"] ["self"] (defScope sNeedEnd) := ⟨rfl, rfl, rfl, by decide +kernel, rfl, by decide +kernel, by decide +kernel⟩
theorem ok_needend {f : Addr} {fd : FuncData} (F : Fun K "need_end" "Cursor.need_end" sNeedEnd f fd) (T : CuT K CU) (FA : Fun K "ahead" "Cursor.ahead" sAhead fA fdA) (GA : FnOk P w K mg base CX0 1 fA fdA ["self"] (spAhead CU)) (bA : Binds K fdA ["self"] []) (mA : Meth K CU "ahead" fA)
    (FR : Fun K "refuse" "Cursor.refuse" sRefuse fRf fdRf) (GR : FnOk P w K mg base (L2.CX P w) 4 fRf fdRf ["self"] (spRefuse CU BT)) (bR : Binds K fdRf ["self"] []) (mR : Meth K CU "refuse" fRf) :
    FnOk P w K mg base (L2.CX P w) 5 f fd ["self"] (spNeedEnd CU BT) := by
  refine F.okX scNeedEnd (fun vs H Q E h => ?_) (fun cdv A outer s H vs Q E hr h => ?_)
  · obtain ⟨a, dx, l, i, ws, rfl, _⟩ := h
    rfl
  · obtain ⟨a, dx, l, i, ws, rfl, C, hi, hw, k, ke⟩ := h
    refine ⟨_, pss_one (ps_if (pt_cmpR op_notN (pe_meth0 (pv 0) T.cl mA GA (hr.mono (by decide)) bA .nil pass0) pe_non (nomark _)) (pss_one (ps_expr (pe_meth0 (pv 0) T.cl mR GR hr bR .nil (passes_call (takes_of rfl rfl rfl rfl) (fun _ _ _ _ e => e))))) pss_nil), ?_⟩
    refine ⟨_, rfl, a, dx, _, rfl, C.ob, cuF_no _ _ (by decide +kernel) (by decide +kernel), a, dx, l, i, ws, rfl, C, hw, rfl, _, rfl, ?_⟩
    by_cases h1 : i < ws.length
    · have e2 : atV ws i = .str ws[i] := by unfold atV; simp [h1]
      rw [e2]
      refine iteT ?_
      exact ⟨_, rfl, a, dx, _, rfl, C.ob, cuF_no _ _ (by decide +kernel) (by decide +kernel), a, dx, l, i, ws, rfl, C, hi, ke h1⟩
    · have e2 : atV ws i = .non := by unfold atV; rw [List.getElem?_eq_none (by omega)]
      rw [e2]
      refine iteF ?_
      exact k (by omega)
end
end K08
set_option Elab.async false
set_option linter.all false
set_option maxRecDepth 100000
set_option maxHeartbeats 2000000
namespace K08
open PySem PySem.Spec PyProof.Rows L2 My TL
/-! ### sums as objects -/
theorem s1 : ¬ (("source" : Str) = "number") := by decide +kernel
theorem s2 : ¬ (("source" : Str) = "rank") := by decide +kernel
theorem s3 : ¬ (("number" : Str) = "rank") := by decide +kernel
theorem s4 : ¬ (("number" : Str) = "source") := by decide +kernel
theorem s5 : ¬ (("rank" : Str) = "source") := by decide +kernel
theorem s6 : ¬ (("rank" : Str) = "number") := by decide +kernel
def suF (i : Nat) (n : Int) : List (Str × V) := putF "rank" (.int (i : Int)) (putF "number" (.int n) (putF "source" (.str (nm i)) []))
theorem suF_source (i : Nat) (n : Int) : (suF i n).lookup ("source" : Str) = some (.str (nm i)) := by
  unfold suF
  rw [lookup_putF, if_neg s2, lookup_putF, if_neg s1, lookup_putF, if_pos rfl]
theorem suF_number (i : Nat) (n : Int) : (suF i n).lookup ("number" : Str) = some (.int n) := by
  unfold suF
  rw [lookup_putF, if_neg s3, lookup_putF, if_pos rfl]
theorem suF_rank (i : Nat) (n : Int) : (suF i n).lookup ("rank" : Str) = some (.int (i : Int)) := by
  unfold suF
  rw [lookup_putF, if_pos rfl]
theorem suF_no (i : Nat) (n : Int) {m : Str} (h1 : ¬ m = "source") (h2 : ¬ m = "number") (h3 : ¬ m = "rank") : (suF i n).lookup m = none := by
  unfold suF
  rw [lookup_putF, if_neg h3, lookup_putF, if_neg h2, lookup_putF, if_neg h1]
  rfl
/-- a Sum stands at a -/
def SumAt (SU : Addr) (H : Hp) (a : Addr) (i : Nat) (n : Int) : Prop := i < 7 ∧ ∃ dx, H a = some (.ins SU dx (suF i n))
theorem SumAt.same {SU : Addr} {H H' : Hp} {a : Addr} {i : Nat} {n : Int} (h : SumAt SU H a i n) (s : Same H H') : SumAt SU H' a i n := ⟨h.1, h.2.choose, s _ _ h.2.choose_spec⟩
theorem SumAt.ty {SU : Addr} {H : Hp} {a : Addr} {i : Nat} {n : Int} (h : SumAt SU H a i n) : TyS SU H (.ref a) (.ref SU) := .su h.2.choose_spec
/-- the tuple of the names, as the text wrote it -/
structure NmT (K : PySem.W.Frag) (SU nA : Addr) : Prop where
  look : ∃ (o : Obj) (its : Array Value) (n : Nat), K.lookup nA = some o ∧ o.cls = .type "tuple" ∧ o.dict = none ∧ o.data = .seq its n ∧ its.size ≤ sizeLine ∧ Vals (NS.map V.str) its.toList
  val : ClX.CVal K SU (.type "type") "NAMES" (.ref nA) (.ref nA)
  rd : ClX.CRead K SU (.type "type")
theorem NmT.seq {K : PySem.W.Frag} {SU nA : Addr} (T : NmT K SU nA) (H : Hp) : SqT K H nA (NS.map V.str) := by
  obtain ⟨o, its, n, h1, h2, h3, h4, h5, h6⟩ := T.look
  exact .inr ⟨o, its, n, h1, h2, h4, h5, h6⟩
theorem NmT.tyv {K : PySem.W.Frag} {SU nA : Addr} (T : NmT K SU nA) (H : Hp) : tyV K "tuple" (.ref nA) H := by
  obtain ⟨o, its, n, h1, h2, h3, h4, h5, h6⟩ := T.look
  exact .inr (.inl ⟨rfl, o, h1, h2, h3⟩)
theorem nm_get {i : Nat} (h : i < 7) : NS[i]? = some (nm i) := by
  have : ∀ i : Fin 7, NS[i.val]? = some (nm i.val) := by decide +kernel
  exact this ⟨i, h⟩
theorem nm_inj {i j : Nat} (h : i < 7) (g : j < 7) (e : nm i = nm j) : i = j := by
  have : ∀ i j : Fin 7, nm i.val = nm j.val → i.val = j.val := by decide +kernel
  exact this ⟨i, h⟩ ⟨j, g⟩ e
theorem in_names (s : Str) : inV (.str s) (NS.map V.str) = true ↔ ∃ i, i < 7 ∧ s = nm i := by
  unfold inV
  rw [List.any_map, List.any_eq_true]
  constructor
  · rintro ⟨x, hx, e⟩
    obtain ⟨i, hi, e2⟩ := List.getElem_of_mem hx
    have hi' : i < 7 := hi
    refine ⟨i, hi', ?_⟩
    have e3 : x = s := by simpa [eqV] using e
    rw [← e3, ← e2]
    have := nm_get hi'
    rw [List.getElem?_eq_getElem hi] at this
    exact Option.some.inj this
  · rintro ⟨i, hi, rfl⟩
    exact ⟨nm i, List.mem_of_getElem? (nm_get hi), by simp [eqV]⟩
structure SmT (K : PySem.W.Frag) (mg : Str → Option Value) (SU nA : Addr) : Prop where
  su : SuT K SU
  nt : NmT K SU nA
  nS : NoAttr K SU "source"
  nN : NoAttr K SU "number"
  nR : NoAttr K SU "rank"
  g : mg "Sum" = some (.ref SU)
def bsF (p : Str) : List (Str × V) := [("part", .str p)]
section
variable {P : Program} {w : World} {K : PySem.W.Frag} {mg : Str → Option Value} {base : Heap} {SU nA BS fBs fIs : Addr} {fdBs fdIs : FuncData}
/-- the def is_integer, as callers ask for it -/
structure FnT (P : Program) (w : World) (K : PySem.W.Frag) (mg : Str → Option Value) (base : Heap) (CX : CXT) (k : Nat) (x : Str) (f : Addr) (fd : FuncData) (ps : List Str) (sp : Sp) : Prop where
  ok : FnOk P w K mg base CX k f fd ps sp
  bn : Binds K fd ps []
  g : mg x = some (.ref f)
  kp : PySem.W.keepIn K (.ref f) = true
def spSuI (SU BS : Addr) : Sp := fun vs H Q E => ∃ x dx src num t1 t2, vs = [.ref x, src, num] ∧ H x = some (.ins SU dx []) ∧ TyS SU H src t1 ∧ TyS SU H num t2 ∧
  (∀ i n, i < 7 → src = .str (nm i) → num = .int n → Q .non (upd H x (.ins SU dx (suF i n)))) ∧ ((∀ i, i < 7 → src ≠ .str (nm i)) → RaisesX H BS (bsF "source") E) ∧
  ((∃ i, i < 7 ∧ src = .str (nm i)) → isInt num = false → RaisesX H BS (bsF "number") E)
theorem scSuI : FnScope ["self", "source", "number"] ["self", "source", "number"] (defScope sSuI) := ⟨rfl, rfl, rfl, by decide +kernel, rfl, by decide +kernel, by decide +kernel⟩
theorem ok_suI {f : Addr} {fd : FuncData} (F : FunD K "__init__" "Sum.__init__" (defArgs sSuI) (defBody sSuI) (defScope sSuI) [.int 0] [] f fd) (B : Blt mg) (T : SmT K mg SU nA) (R : RaT P w K mg base "BadSum" BS fBs fdBs ["self", "part"] (spBsI BS))
    (I : FnT P w K mg base CX0 1 "is_integer" fIs fdIs ["value"] (spIsInt SU)) : FnOk P w K mg base (L2.CX P w) 4 f fd ["self", "source", "number"] (spSuI SU BS) := by
  refine F.ok scSuI (fun vs H Q E h => ?_) (fun cdv A outer s H vs Q E hr h => ?_)
  · obtain ⟨x, dx, src, num, t1, t2, rfl, _⟩ := h
    rfl
  · obtain ⟨x, dx, src, num, t1, t2, rfl, hx, y1, y2, k, ks, kn⟩ := h
    refine ⟨_, pss_cons (ps_if (PW.pt (pw_or (pt_not (pt_val (pe_callB call_isi (by rfl) B.isinstance (by decide +kernel) (pa_cons (pv 1) (pa_cons (pe_bty "str" (by rfl) B.str (by decide +kernel)) pa_nil)))))
          (pw_or1 (pt_cmpR op_notIn_seq (pv 1) (ClX.pe_cval (pe_gref rfl T.g)) (by rfl)))))
        (pss_one (ps_raise rfl (takes_of rfl rfl rfl rfl) (pmk_oex R.ex.oex R.ex.init R.ex.tI R.ok hr R.bn .nil pass0 (by rfl) R.g (pa_cons pe_str pa_nil)))) pss_nil)
      (pss_cons (ps_if (pt_not (pt_val (pe_call I.ok (hr.mono (by decide)) (by rfl) I.g I.kp I.bn .nil pass0 (pa_cons (pv 2) pa_nil))))
        (pss_one (ps_raise rfl (takes_of rfl rfl rfl rfl) (pmk_oex R.ex.oex R.ex.init R.ex.tI R.ok hr R.bn .nil pass0 (by rfl) R.g (pa_cons pe_str pa_nil)))) pss_nil)
      (pss_cons (ps_fld (pv 0) (pv 1) rfl) (pss_cons (ps_fld (pv 0) (pv 2) rfl)
      (pss_one (ps_fld (pv 0) (pe_bm PySem.F.plainAttrs_tuple PySem.F.slot_tuple_index PySem.F.type_tuple_index mt_tup_index (ClX.pe_cval (pe_gref rfl T.g)) (pa_cons (pv 1) pa_nil)) rfl))))), ?_⟩
    refine ⟨_, rfl, src, _, t1, _, _, rfl, .ty _, y1.tyX T.su, kit_str T.su y1, _, rfl, ifnb (fun hs => ?_) (fun hs => ?_)⟩
    · obtain ⟨z, rfl⟩ : ∃ z, src = .str z := by cases y1 <;> simp_all [isS]
      refine ⟨_, rfl, SU, _, _, _, rfl, T.nt.rd, T.nt.val, nA, _, rfl, .inr (T.nt.seq H), rfl, by decide +kernel, _, rfl, ?_⟩
      refine ifnb (fun hin => ?_) (fun hin => ?_)
      · obtain ⟨i, hi, rfl⟩ := (in_names z).mp hin
        refine ⟨_, rfl, num, t2, rfl, y2, _, rfl, ifnb (fun hn => ?_) (fun hn => ?_)⟩
        · obtain ⟨n, rfl⟩ : ∃ n, num = .int n := by cases y2 <;> simp_all [isInt]
          refine ⟨_, rfl, _, rfl, x, SU, dx, [], rfl, hx, T.su.cl, T.nS, (by show 0 < 1000; decide), ?_⟩
          refine ⟨_, rfl, _, rfl, x, SU, dx, _, rfl, upd_same, T.su.cl, T.nN, (by show 1 < 1000; decide), ?_⟩
          refine ⟨SU, _, _, _, rfl, T.nt.rd, T.nt.val, T.nt.tyv _, _, rfl, nA, NS, nm i, i, rfl, rfl, T.nt.seq _, nm_get hi, fun m hm e => ?_, ?_⟩
          · have h7 : m < 7 := by omega
            rw [nm_get h7] at e
            have := nm_inj h7 hi (Option.some.inj e)
            omega
          · refine ⟨_, rfl, x, SU, dx, _, rfl, upd_same, T.su.cl, T.nR, ?_, ?_⟩
            · have l1 := length_putF ("number" : Str) (V.int n) (putF "source" (V.str (nm i)) [])
              have l2 := length_putF ("source" : Str) (V.str (nm i)) []
              rw [List.length_nil] at l2
              omega
            · rw [upd_upd, upd_upd]
              exact k i n hi rfl rfl
        · refine ⟨(show 1 ≤ 1000 by decide), fun a ha => ?_⟩
          exact raise_read (vs := [.str "number"]) (kn ⟨i, hi, rfl⟩ hn) (fun a H0 Q F h0 p => ⟨a, "number", rfl, by decide, h0, p⟩) a ha
      · refine ⟨(show 1 ≤ 1000 by decide), fun a ha => raise_read (vs := [.str "source"]) (ks fun i hi e => ?_) (fun a H0 Q F h0 p => ⟨a, "source", rfl, by decide, h0, p⟩) a ha⟩
        have := (in_names z).mpr ⟨i, hi, by cases e; rfl⟩
        rw [hin] at this
        cases this
    · refine ⟨(show 1 ≤ 1000 by decide), fun a ha => raise_read (vs := [.str "source"]) (ks fun i hi e => ?_) (fun a H0 Q F h0 p => ⟨a, "source", rfl, by decide, h0, p⟩) a ha⟩
      rw [e] at hs
      cases hs
end
end K08
set_option Elab.async false
set_option linter.all false
set_option maxRecDepth 100000
set_option maxHeartbeats 2000000
namespace K08
open PySem PySem.Spec PyProof.Rows L2 My TL
/-- a new Sum is handed back -/
def NewS (SU : Addr) (H : Hp) (Q : VK) (i : Nat) (n : Int) : Prop := ∀ x H', Same H H' → H x = none → SumAt SU H' x i n → Q (.ref x) H'
/-- Sum(..), as callers ask for it -/
structure MkS (P : Program) (w : World) (K : PySem.W.Frag) (mg : Str → Option Value) (base : Heap) (SU BS fI : Addr) (fd : FuncData) : Prop where
  cm : Mk K SU fI
  ok : FnOk P w K mg base (L2.CX P w) 4 fI fd ["self", "source", "number"] (spSuI SU BS)
  b3 : Binds K fd ["self", "source", "number"] []
  b2 : ∃ ds, Vals [V.int 0] ds ∧ Binds K fd ["self", "source", "number"] ds
  bk : ∃ g, KBn K fd ["self", "source", "number"] 1 ["number", "source"] g (fun vs zs => vs ++ zs.reverse)
theorem new_read {SU BS : Addr} {H : Hp} {Q : VK} {E : XK} {i : Nat} {n : Int} (hi : i < 7) (k : NewS SU H Q i n) (x dx : Addr) (hx : H x = none) (hd : H dx = none) (ne : dx ≠ x) :
    spSuI SU BS [.ref x, .str (nm i), .int n] (upd (upd H dx (.own x)) x (.ins SU dx [])) (fun v H2 => v = .non ∧ Q (.ref x) H2) E := by
  refine ⟨x, dx, _, _, _, _, rfl, upd_same, .str _, .int _, fun j m hj e1 e2 => ⟨rfl, ?_⟩, fun h => (h i hi rfl).elim, fun _ h => nomatch h⟩
  have ej : j = i := nm_inj hj hi (V.str.inj e1).symm
  cases e2
  subst ej
  refine k x _ (fun b o e => ?_) hx ⟨hi, dx, upd_same⟩
  rw [upd_ne (ne_of_none e hx), upd_ne (ne_of_none e hx), upd_ne (ne_of_none e hd)]
  exact e
section
variable {P : Program} {w : World} {K : PySem.W.Frag} {mg : Str → Option Value} {base : Heap} {SU nA BS fBs fIs fI : Addr} {fdBs fdIs fdI : FuncData}
/-! ### + and - -/
def spPlus (SU BS : Addr) (g : Int → Int → Int) : Sp := fun vs H Q E => ∃ a y t i n, vs = [.ref a, y] ∧ SumAt SU H a i n ∧ TyS SU H y t ∧ ((∃ m, y = .int m ∧ NewS SU H Q i (g n m)) ∨ (isInt y = false ∧ RaisesX H BS (bsF "number") E))
theorem scAdd : FnScope ["self", "other"] ["self", "other"] (defScope sAdd) := ⟨rfl, rfl, rfl, by decide +kernel, rfl, by decide +kernel, by decide +kernel⟩
theorem scSub : FnScope ["self", "other"] ["self", "other"] (defScope sSub) := ⟨rfl, rfl, rfl, by decide +kernel, rfl, by decide +kernel, by decide +kernel⟩
theorem ok_add {f : Addr} {fd : FuncData} (F : Fun K "__add__" "Sum.__add__" sAdd f fd) (T : SmT K mg SU nA) (R : RaT P w K mg base "BadSum" BS fBs fdBs ["self", "part"] (spBsI BS))
    (I : FnT P w K mg base CX0 1 "is_integer" fIs fdIs ["value"] (spIsInt SU)) (M : MkS P w K mg base SU BS fI fdI) : FnOk P w K mg base (L2.CX P w) 6 f fd ["self", "other"] (spPlus SU BS (· + ·)) := by
  refine F.okX scAdd (fun vs H Q E h => ?_) (fun cdv A outer s H vs Q E hr h => ?_)
  · obtain ⟨a, y, t, i, n, rfl, _⟩ := h
    rfl
  · obtain ⟨a, y, t, i, n, rfl, S, ty, k⟩ := h
    refine ⟨_, pss_cons (ps_if (pt_not (pt_val (pe_call I.ok (hr.mono (by decide)) (by rfl) I.g I.kp I.bn .nil pass0 (pa_cons (pv 1) pa_nil))))
        (pss_one (ps_raise rfl (takes_of rfl rfl rfl rfl) (pmk_oex R.ex.oex R.ex.init R.ex.tI R.ok (hr.mono (by decide)) R.bn .nil pass0 (by rfl) R.g (pa_cons pe_str pa_nil)))) pss_nil)
      (pss_one (ps_ret (pe_make M.cm M.ok hr (by rfl) T.g M.b3 .nil (passes_call (takes_of rfl rfl rfl rfl) (fun _ _ _ _ e => e)) (pa_cons (pe_fld (pv 0) rfl) (pa_cons (pe_op op_add (pe_fld (pv 0) rfl) (pv 1)) pa_nil))))), ?_⟩
    obtain ⟨hi, dx, ha⟩ := S
    refine ⟨_, rfl, y, t, rfl, ty, _, rfl, ?_⟩
    rcases k with ⟨m, rfl, k⟩ | ⟨hb, ke⟩
    · refine iteF ?_
      refine ⟨_, rfl, a, SU, dx, _, _, rfl, ha, T.su.cl, T.nS, suF_source _ _, _, rfl, a, SU, dx, _, _, rfl, ha, T.su.cl, T.nN, suF_number _ _, _, rfl, _, _, rfl, rfl, fun x dx' h1 h2 h3 => ?_⟩
      exact new_read hi k x dx' h1 h2 h3
    · rw [hb]
      refine iteT ⟨(show 1 ≤ 1000 by decide), fun b hb => ?_⟩
      exact raise_read (vs := [.str "number"]) ke (fun a H0 Q F h0 p => ⟨a, "number", rfl, by decide, h0, p⟩) b hb
theorem ok_sub {f : Addr} {fd : FuncData} (F : Fun K "__sub__" "Sum.__sub__" sSub f fd) (T : SmT K mg SU nA) (R : RaT P w K mg base "BadSum" BS fBs fdBs ["self", "part"] (spBsI BS))
    (I : FnT P w K mg base CX0 1 "is_integer" fIs fdIs ["value"] (spIsInt SU)) (M : MkS P w K mg base SU BS fI fdI) : FnOk P w K mg base (L2.CX P w) 6 f fd ["self", "other"] (spPlus SU BS (· - ·)) := by
  refine F.okX scSub (fun vs H Q E h => ?_) (fun cdv A outer s H vs Q E hr h => ?_)
  · obtain ⟨a, y, t, i, n, rfl, _⟩ := h
    rfl
  · obtain ⟨a, y, t, i, n, rfl, S, ty, k⟩ := h
    refine ⟨_, pss_cons (ps_if (pt_not (pt_val (pe_call I.ok (hr.mono (by decide)) (by rfl) I.g I.kp I.bn .nil pass0 (pa_cons (pv 1) pa_nil))))
        (pss_one (ps_raise rfl (takes_of rfl rfl rfl rfl) (pmk_oex R.ex.oex R.ex.init R.ex.tI R.ok (hr.mono (by decide)) R.bn .nil pass0 (by rfl) R.g (pa_cons pe_str pa_nil)))) pss_nil)
      (pss_one (ps_ret (pe_make M.cm M.ok hr (by rfl) T.g M.b3 .nil (passes_call (takes_of rfl rfl rfl rfl) (fun _ _ _ _ e => e)) (pa_cons (pe_fld (pv 0) rfl) (pa_cons (pe_op op_sub (pe_fld (pv 0) rfl) (pv 1)) pa_nil))))), ?_⟩
    obtain ⟨hi, dx, ha⟩ := S
    refine ⟨_, rfl, y, t, rfl, ty, _, rfl, ?_⟩
    rcases k with ⟨m, rfl, k⟩ | ⟨hb, ke⟩
    · refine iteF ?_
      refine ⟨_, rfl, a, SU, dx, _, _, rfl, ha, T.su.cl, T.nS, suF_source _ _, _, rfl, a, SU, dx, _, _, rfl, ha, T.su.cl, T.nN, suF_number _ _, _, rfl, _, _, rfl, rfl, fun x dx' h1 h2 h3 => ?_⟩
      exact new_read hi k x dx' h1 h2 h3
    · rw [hb]
      refine iteT ⟨(show 1 ≤ 1000 by decide), fun b hb => ?_⟩
      exact raise_read (vs := [.str "number"]) ke (fun a H0 Q F h0 p => ⟨a, "number", rfl, by decide, h0, p⟩) b hb
/-! ### apart -/
def spApart (SU BS : Addr) : Sp := fun vs H Q E => ∃ a y t i n, vs = [.ref a, y] ∧ SumAt SU H a i n ∧ TyS SU H y t ∧ ((∃ b j m, y = .ref b ∧ SumAt SU H b j m ∧ Q (if i = j then .int (n - m) else .non) H) ∨ (isSu t = false ∧ RaisesX H BS (bsF "other") E))
theorem scApart : FnScope ["self", "other"] ["self", "other"] (defScope sApart) := ⟨rfl, rfl, rfl, by decide +kernel, rfl, by decide +kernel, by decide +kernel⟩
theorem ok_apart {f : Addr} {fd : FuncData} (F : Fun K "apart" "Sum.apart" sApart f fd) (B : Blt mg) (T : SmT K mg SU nA) (R : RaT P w K mg base "BadSum" BS fBs fdBs ["self", "part"] (spBsI BS)) : FnOk P w K mg base (L2.CX P w) 4 f fd ["self", "other"] (spApart SU BS) := by
  refine F.okX scApart (fun vs H Q E h => ?_) (fun cdv A outer s H vs Q E hr h => ?_)
  · obtain ⟨a, y, t, i, n, rfl, _⟩ := h
    rfl
  · obtain ⟨a, y, t, i, n, rfl, S, ty, k⟩ := h
    refine ⟨_, pss_cons (ps_if (pt_not (pt_val (pe_callB call_isi (by rfl) B.isinstance (by decide +kernel) (pa_cons (pv 1) (pa_cons (pe_gref rfl T.g) pa_nil)))))
        (pss_one (ps_raise rfl (takes_of rfl rfl rfl rfl) (pmk_oex R.ex.oex R.ex.init R.ex.tI R.ok hr R.bn .nil pass0 (by rfl) R.g (pa_cons pe_str pa_nil)))) pss_nil)
      (pss_one (ps_ret (pe_ifExp (pt_cmpR op_eq (pe_fld (pv 0) rfl) (pe_fld (pv 1) rfl) (nomark _)) (pe_op op_sub (pe_fld (pv 0) rfl) (pe_fld (pv 1) rfl)) pe_non))), ?_⟩
    obtain ⟨hi, dx, ha⟩ := S
    rcases k with ⟨b, j, m, rfl, S2, k⟩ | ⟨hb, ke⟩
    · obtain ⟨hj, dy, hb⟩ := id S2
      refine ⟨_, rfl, _, _, _, _, true, rfl, .own SU, S2.ty.tyX T.su, kit_su T.su S2.ty, _, rfl, iteF ?_⟩
      refine ⟨_, rfl, a, SU, dx, _, _, rfl, ha, T.su.cl, T.nS, suF_source _ _, _, rfl, b, SU, dy, _, _, rfl, hb, T.su.cl, T.nS, suF_source _ _, rfl, _, rfl, ifd (fun e => ?_) (fun e => ?_)⟩
      · have ij : i = j := nm_inj hi hj (V.str.inj e)
        rw [if_pos ij] at k
        exact ⟨_, rfl, a, SU, dx, _, _, rfl, ha, T.su.cl, T.nN, suF_number _ _, _, rfl, b, SU, dy, _, _, rfl, hb, T.su.cl, T.nN, suF_number _ _, _, _, rfl, rfl, k⟩
      · rw [if_neg (fun ij => e (by rw [ij]))] at k
        exact k
    · refine ⟨_, rfl, _, _, _, _, false, rfl, .own SU, ty.tyX T.su, (by have z := kit_su T.su ty; rw [hb] at z; exact z), _, rfl, iteT ⟨(show 1 ≤ 1000 by decide), fun b hb => ?_⟩⟩
      exact raise_read (vs := [.str "other"]) ke (fun a H0 Q F h0 p => ⟨a, "other", rfl, by decide, h0, p⟩) b hb
end
end K08
namespace K08
open PySem PySem.Spec PyProof.Rows L2 My TL NumText
/-! ### the digits of a number, part by part -/
def padL : Nat → Nat → List Nat
  | 0, _ => []
  | k + 1, m => padL k (m / 10) ++ [48 + m % 10]
theorem padL_zero : ∀ k, padL k 0 = List.replicate k 48
  | 0 => rfl
  | k + 1 => by
    show padL k (0 / 10) ++ [48 + 0 % 10] = _
    rw [Nat.zero_div, padL_zero k, List.replicate_succ']
theorem numL_cut : ∀ (k : Nat) {n : Nat}, 10 ^ k ≤ n → numL n = numL (n / 10 ^ k) ++ padL k (n % 10 ^ k)
  | 0, n, _ => by
    rw [Nat.pow_zero, Nat.div_one]
    exact (List.append_nil _).symm
  | k + 1, n, h => by
    have hp : 0 < 10 ^ k := Nat.pow_pos (by decide)
    have e10 : 10 ^ (k + 1) = 10 ^ k * 10 := Nat.pow_succ ..
    have h10 : 10 ≤ n := by
      rw [e10] at h
      omega
    have hk : 10 ^ k ≤ n / 10 := by
      rw [Nat.le_div_iff_mul_le (by decide)]
      rw [e10] at h
      exact h
    rw [numL_step h10, numL_cut k hk]
    have e1 : n / 10 / 10 ^ k = n / 10 ^ (k + 1) := by rw [Nat.div_div_eq_div_mul, e10, Nat.mul_comm]
    have e2 : n % 10 ^ (k + 1) / 10 = n / 10 % 10 ^ k := by
      rw [e10, Nat.mul_comm, Nat.mod_mul_right_div_self]
    have e3 : n % 10 ^ (k + 1) % 10 = n % 10 := by
      rw [e10]
      exact Nat.mod_mul_left_mod ..
    rw [e1, List.append_assoc]
    show _ = numL (n / 10 ^ (k + 1)) ++ (padL k (n % 10 ^ (k + 1) / 10) ++ [48 + n % 10 ^ (k + 1) % 10])
    rw [e2, e3]
theorem padL_num : ∀ (k : Nat) {m : Nat}, 0 < k → m < 10 ^ k → List.replicate (k - (numL m).length) 48 ++ numL m = padL k m
  | 0, m, h, _ => absurd h (by decide)
  | k + 1, m, _, h => by
    show _ = padL k (m / 10) ++ [48 + m % 10]
    by_cases h10 : m < 10
    · rw [numL_lt h10, Nat.div_eq_of_lt h10, Nat.mod_eq_of_lt h10, padL_zero]
      rfl
    · have hk : m / 10 < 10 ^ k := by
        rw [Nat.div_lt_iff_lt_mul (by decide)]
        rw [Nat.pow_succ] at h
        exact h
      have k0 : 0 < k := by
        rcases Nat.eq_zero_or_pos k with e | e
        · rw [e] at hk
          omega
        · exact e
      rw [numL_step (by omega), ← padL_num k k0 hk, List.length_append, ← List.append_assoc]
      congr 2
      show List.replicate (k + 1 - ((numL (m / 10)).length + 1)) 48 = _
      rw [Nat.add_sub_add_right]
def decS (m : Nat) : Str := Str.ofString (toString ((m : Nat) : Int))
theorem tl_dec (m : Nat) : tl (decS m) = numL m := tl_num m
theorem len_dec (m : Nat) : (decS m).length = (numL m).length := by rw [len_tl, tl_dec]
theorem tl_zfill {m : Nat} (h : m < 10 ^ 18) : tl (Txt.zfill (decS m) 18) = padL 18 m := by
  rw [← padL_num 18 (by decide) h]
  have hl := numL_len (by decide) h
  have hd := numL_digits m
  have h0 := numL_ne m
  unfold Txt.zfill
  by_cases e : (18 : Int) ≤ ((decS m).length : Int)
  · rw [if_pos e]
    have : (numL m).length = 18 := by
      rw [len_dec] at e
      omega
    rw [this, tl_dec]
    rfl
  · rw [if_neg e, len_dec]
    unfold PySem.zfilled
    have hx : (decS m).cps[0]? = (numL m).head? := by
      rw [← tl_dec m]
      unfold tl
      rw [← Array.getElem?_toList]
      cases (decS m).cps.toList <;> rfl
    cases hn : numL m with
    | nil => exact absurd hn h0
    | cons c r =>
      have hc := hd c (by rw [hn]; exact List.mem_cons_self ..)
      rw [hn] at hx
      have tp : tl (Builtin.Str.padded (decS m) ((18 : Int).toNat - (c :: r).length) 0 48) = List.replicate (18 - (c :: r).length) 48 ++ (c :: r) := by
        unfold Builtin.Str.padded
        show (Array.replicate _ 48 ++ (decS m).cps ++ Array.replicate 0 48).toList = _
        rw [Array.toList_append, Array.toList_append, Array.toList_replicate, Array.toList_replicate]
        show _ ++ tl (decS m) ++ [] = _
        rw [tl_dec, hn, List.append_nil]
        rfl
      split
      · rename_i e43
        rw [hx] at e43
        have := Option.some.inj e43
        omega
      · rename_i e45
        rw [hx] at e45
        have := Option.some.inj e45
        omega
      · exact tp
theorem padL_len : ∀ (k m : Nat), (padL k m).length = k
  | 0, _ => rfl
  | k + 1, m => by
    show (padL k (m / 10) ++ [48 + m % 10]).length = _
    rw [List.length_append, padL_len k]
    rfl
theorem joinL_nil : ∀ (ps : List (List Nat)), joinL [] ps = ps.flatten
  | [] => rfl
  | [p] => by simp [joinL]
  | p :: q :: r => by
    have := joinL_nil (q :: r)
    simp [joinL] at this ⊢
    first | exact this | rw [this] | skip
end K08
namespace K08
open PySem PySem.Spec PyProof.Rows L2 My TL NumText
section
variable {P : Program} {w : World} {K : PySem.W.Frag} {mg : Str → Option Value} {base : Heap} {fD : Addr} {fdD : FuncData}
theorem pow18 : (10 : Nat) ^ 18 = 1000000000000000000 := by decide
theorem log_mono {a b : Nat} (h : a ≤ b) : a.log2 ≤ b.log2 := by
  by_cases hz : a = 0
  · rw [hz]
    exact Nat.zero_le _
  · rw [Nat.le_log2 (by omega)]
    exact Nat.le_trans (Nat.log2_self_le hz) h
/-- the parts so far: each of 18 signs, and with the rest they are the number's digits -/
structure PartsOf (n m : Nat) (ps : List Str) : Prop where
  pos : 0 < m
  le : m ≤ n
  len : ∀ p ∈ ps, p.length = 18
  eq : numL n = numL m ++ (ps.reverse.map tl).flatten
theorem PartsOf.start {n : Nat} (h : 0 < n) : PartsOf n n [] := ⟨h, Nat.le_refl _, (fun p hp => nomatch hp), (List.append_nil _).symm⟩
theorem PartsOf.turn {n m : Nat} {ps : List Str} (h : PartsOf n m ps) (hm : 10 ^ 18 ≤ m) : PartsOf n (m / 10 ^ 18) (ps ++ [Txt.zfill (decS (m % 10 ^ 18)) 18]) := by
  have hp : 0 < 10 ^ 18 := Nat.pow_pos (by decide)
  have hlt : m % 10 ^ 18 < 10 ^ 18 := Nat.mod_lt _ hp
  have e18 := tl_zfill hlt
  have ec := numL_cut 18 hm
  have ez : (Txt.zfill (decS (m % 10 ^ 18)) 18).length = 18 := by rw [len_tl, e18, padL_len]
  generalize 10 ^ 18 = N at *
  generalize Txt.zfill (decS (m % N)) 18 = z at *
  refine ⟨Nat.div_pos hm hp, Nat.le_trans (Nat.div_le_self ..) h.le, fun p hp => ?_, ?_⟩
  · rcases List.mem_append.mp hp with hp | hp
    · exact h.len p hp
    · rw [List.mem_singleton.mp hp, ez]
  · rw [h.eq, ec, List.reverse_append, List.map_append, List.flatten_append, List.append_assoc]
    refine congrArg (numL (m / N) ++ ·) ?_
    simp only [List.reverse_singleton, List.map_cons, List.map_nil, List.flatten_cons, List.flatten_nil, List.append_nil, e18]
theorem PartsOf.lens {n m : Nat} {ps : List Str} (h : PartsOf n m ps) : (numL m).length + 18 * ps.length = (numL n).length := by
  have e : ∀ qs : List Str, (∀ p ∈ qs, p.length = 18) → ((qs.map tl).flatten).length = 18 * qs.length := by
    intro qs
    induction qs with
    | nil => intro _; rfl
    | cons q r ih =>
      intro hq
      rw [List.map_cons, List.flatten_cons, List.length_append, ih fun p hp => hq p (List.mem_cons_of_mem _ hp), ← len_tl, hq q (List.mem_cons_self ..), List.length_cons]
      omega
  rw [h.eq, List.length_append, e _ fun p hp => h.len p (List.mem_reverse.mp hp), List.length_reverse]
theorem PartsOf.text {n m : Nat} {ps : List Str} (h : PartsOf n m ps) : Txt.join "" ((ps ++ [decS m]).reverse) = decS n := by
  refine ext_tl ?_
  rw [TL.join_eq, tl_join, tl_dec, h.eq, List.reverse_append, List.map_append, show tl ("" : Str) = [] from by decide +kernel, joinL_nil, List.flatten_append]
  show [tl (decS m)].flatten ++ _ = _
  rw [tl_dec]
  simp
theorem PartsOf.sum {n m : Nat} {ps : List Str} (h : PartsOf n m ps) : (((ps ++ [decS m]).reverse).map fun x => x.length).sum = (numL n).length := by
  have e : ∀ qs : List Str, (∀ p ∈ qs, p.length = 18) → (qs.map fun x => x.length).sum = 18 * qs.length := by
    intro qs
    induction qs with
    | nil => intro _; rfl
    | cons q r ih =>
      intro hq
      rw [List.map_cons, List.sum_cons, ih fun p hp => hq p (List.mem_cons_of_mem _ hp), hq q (List.mem_cons_self ..), List.length_cons]
      omega
  rw [← h.lens, List.reverse_append, List.map_append, List.sum_append, e _ fun p hp => h.len p (List.mem_reverse.mp hp), List.length_reverse]
  show ((decS m).length + 0) + _ = _
  rw [len_dec, Nat.add_zero]
def spDigits : Sp := fun vs H Q _ => ∃ n : Nat, vs = [.int (n : Int)] ∧ 0 < n ∧ n.log2 < 1900 ∧ ∀ H', Same H H' → Q (.str (decS n)) H'
theorem scDigits : FnScope ["number", "parts"] ["number"] (defScope sDigits) := ⟨rfl, rfl, rfl, by decide +kernel, rfl, by decide +kernel, by decide +kernel⟩
theorem ok_digits {f : Addr} {fd : FuncData} (F : Fun K "digits_of" "digits_of" sDigits f fd) (B : Blt mg) (gP : ∃ t, mg "PART" = some (.int 1000000000000000000 t)) (gD : ∃ t, mg "PART_DIGITS" = some (.int 18 t)) :
    FnOk P w K mg base CX0 1 f fd ["number"] spDigits := by
  refine F.ok scDigits (fun vs H Q E h => ?_) (fun cdv A outer s H vs Q E hr h => ?_)
  · obtain ⟨n, rfl, _⟩ := h
    rfl
  · obtain ⟨n, rfl, h0, hn, k⟩ := h
    refine ⟨_, pss_cons (ps_set (i := 1) scDigits.nd rfl (Or.inl rfl) (pe_lst pa_nil))
      (pss_cons (ps_while PassesOwn.never (pt_cmpR op_ge (pv 0) (pe_gint rfl gP) (nomark _))
        (pss_cons (ps_expr (pe_bm PySem.F.plainAttrs_list PySem.F.slot_list_append PySem.F.type_list_append mt_append (pv 1) (pa_cons
            (pe_m1 PySem.F.slot_str_zfill PySem.F.type_str_zfill mt_zfill (pe_callTy call_str_int (by rfl) B.str (by decide +kernel) (pa_cons (pe_op op_mod (pv 0) (pe_gint rfl gP)) pa_nil)) (pe_gint rfl gD)) pa_nil)))
        (pss_one (ps_set (i := 0) scDigits.nd rfl (Or.inl rfl) (pe_op op_fdivW (pv 0) (pe_gint rfl gP))))))
      (pss_cons (ps_expr (pe_bm PySem.F.plainAttrs_list PySem.F.slot_list_append PySem.F.type_list_append mt_append (pv 1) (pa_cons (pe_callTy call_str_int (by rfl) B.str (by decide +kernel) (pa_cons (pv 0) pa_nil)) pa_nil)))
      (pss_one (ps_ret (pe_join pe_str (pe_revL (pv 1))))))), ?_⟩
    have P0 := PartsOf.start h0
    have hlog : ∀ m, m ≤ n → m.log2 < 1900 := fun m hm => Nat.lt_of_le_of_lt (log_mono hm) hn
    have hlog' : ∀ m, m ≤ n → ((m : Nat) : Int).natAbs.log2 < 1920 := fun m hm => Nat.lt_trans (hlog m hm) (by decide)
    have hnl : (numL n).length ≤ 1900 := by
      unfold numL
      rw [List.length_map]
      exact dig_len (by decide) hn
    refine ⟨by decide, fun l nl => ?_⟩
    refine while_by (fun σ H' => ∃ m ps, σ = [some (.int ((m : Nat) : Int)), some (.ref l)] ∧ PartsOf n m ps ∧ H' l = some (.lst (ps.map V.str)) ∧ Same H H') (fun σ _ => match σ with | some (.int i) :: _ => i.natAbs | _ => 0)
      ⟨n, [], rfl, P0, upd_same, same_upd nl⟩ (fun σ H1 p => ?_) (fun σ H Q Q' m c => ?_)
    · obtain ⟨m, ps, rfl, I, hl, s1⟩ := p
      have eM : ((m : Nat) : Int) % 1000000000000000000 = ((m % 10 ^ 18 : Nat) : Int) := by
        rw [pow18]
        omega
      have eD : ((m : Nat) : Int) / 1000000000000000000 = ((m / 10 ^ 18 : Nat) : Int) := by
        rw [pow18]
        omega
      have hlen := I.lens
      refine ⟨_, rfl, _, _, rfl, rfl, _, rfl, ifd (fun h1 => ?_) (fun h1 => ?_)⟩
      · have hm : 10 ^ 18 ≤ m := by
          rw [pow18]
          omega
        have I2 := I.turn hm
        have lg : (m % 10 ^ 18).log2 < 1920 := Nat.lt_trans (hlog _ (Nat.le_trans (Nat.mod_le ..) I.le)) (by decide)
        have lt : m / 10 ^ 18 < m := Nat.div_lt_self I.pos (by rw [pow18]; decide)
        generalize 10 ^ 18 = N at *
        refine ⟨_, rfl, .inl ⟨rfl, _, SqL.of hl⟩, _, rfl, _, _, rfl, rfl, (show (0 : Int) < 1000000000000000000 by decide), ?_⟩
        refine ⟨_, congrArg (fun z => [V.int z]) eM, lg, ⟨_, rfl⟩, _, _, rfl, rfl, rfl, l, _, _, rfl, rfl, hl, ?_, ?_⟩
        · rw [List.length_map]
          exact Nat.lt_of_le_of_lt (m := 2000) (by omega) (by rw [sizeLine_eq]; decide)
        · refine ⟨_, rfl, _, _, rfl, rfl, ⟨(show (0 : Int) < 1000000000000000000 by decide), (show (1000000000000000000 : Int).natAbs.log2 < 9000 by decide)⟩, ⟨m / N, _, ?_, I2, ?_, fun b o e => ?_⟩, ?_⟩
          · exact congrArg (fun z => [some (V.int z), some (V.ref l)]) eD
          · rw [List.map_append]
            exact upd_same
          · rw [upd_ne (ne_of_none e nl)]
            exact s1 b o e
          · show (((m : Nat) : Int) / 1000000000000000000).natAbs < ((m : Nat) : Int).natAbs
            rw [eD]
            exact lt
      · refine ⟨_, rfl, .inl ⟨rfl, _, SqL.of hl⟩, _, rfl, _, rfl, hlog' m I.le, l, _, _, rfl, rfl, hl, ?_, ?_⟩
        · rw [List.length_map]
          exact Nat.lt_of_le_of_lt (m := 2000) (by omega) (by rw [sizeLine_eq]; decide)
        · have hz : ps.map V.str ++ [V.str (decS m)] = (ps ++ [decS m]).map V.str := by rw [List.map_append]; rfl
          refine ⟨⟨_, rfl⟩, _, rfl, l, _, rfl, SqL.of upd_same, fun q nq => ⟨_, q, (ps ++ [decS m]).reverse, rfl, rfl, .inl (SqL.of ?_), ?_, ?_⟩⟩
          · rw [upd_same, List.map_reverse, ← hz]
            rfl
          · rw [I.sum]
            rw [show (("" : Str)).length = 0 from by decide +kernel, Nat.mul_zero]
            omega
          · rw [I.text]
            refine k _ fun b o e => ?_
            have nb : b ≠ l := ne_of_none e nl
            have e1 := s1 b o e
            have e2 : upd H1 l (HO.lst (ps.map V.str ++ [V.str (decS m)])) b = some o := by
              rw [upd_ne nb]
              exact e1
            have nq2 : b ≠ q := ne_of_none e2 nq
            rw [upd_ne nq2, upd_ne nb]
            exact e1
    · obtain ⟨v, hv, i, j, e1, e2, b, e3, q⟩ := c
      exact ⟨v, hv, i, j, e1, e2, b, e3, m _ _ q⟩
/-! ### the sign and the digits -/
theorem dec_plusP {n : Nat} (h : 0 < n) : ("+" : Str) ++ decS n = plusD (n : Int) := by
  refine ext_tl ?_
  rw [tl_append, tl_dec]
  unfold plusD numL
  rw [if_neg (by omega)]
  rfl
theorem dec_plusN {n : Nat} (h : 0 < n) : ("-" : Str) ++ decS n = plusD (-(n : Int)) := by
  refine ext_tl ?_
  rw [tl_append, tl_dec]
  unfold plusD numL
  rw [if_pos (by omega), Int.natAbs_neg]
  rfl
theorem emp_app0 (x : Str) : Str.empty ++ x = x := ext_tl (by rw [tl_append]; rfl)
def spSigned : Sp := fun vs H Q _ => ∃ n : Int, vs = [.int n] ∧ n ≠ 0 ∧ n.natAbs.log2 < 1900 ∧ ∀ H', Same H H' → Q (.str (plusD n)) H'
theorem scSigned : FnScope ["number"] ["number"] (defScope sSigned) := ⟨rfl, rfl, rfl, by decide +kernel, rfl, by decide +kernel, by decide +kernel⟩
theorem dec_len {n : Nat} (h : n.log2 < 1900) : (decS n).length ≤ 1900 := by
  rw [len_dec]
  unfold numL
  rw [List.length_map]
  exact dig_len (by decide) h
theorem ok_signed {f : Addr} {fd : FuncData} (F : Fun K "signed_digits" "signed_digits" sSigned f fd) (D : FnT P w K mg base CX0 1 "digits_of" fD fdD ["number"] spDigits) : FnOk P w K mg base CX0 2 f fd ["number"] spSigned := by
  refine F.ok scSigned (fun vs H Q E h => ?_) (fun cdv A outer s H vs Q E hr h => ?_)
  · obtain ⟨n, rfl, _⟩ := h
    rfl
  · obtain ⟨n, rfl, h0, hn, k⟩ := h
    refine ⟨_, pss_one (ps_ret (pe_ifExp (pt_cmpR op_gt (pv 0) pe_int (nomark _))
      (pe_joined (.cons pe_str (.cons (pe_fmt (pe_call D.ok (hr.mono (by decide)) (by rfl) D.g D.kp D.bn .nil pass0 (pa_cons (pv 0) pa_nil))) .nil)))
      (pe_joined (.cons pe_str (.cons (pe_fmt (pe_call D.ok (hr.mono (by decide)) (by rfl) D.g D.kp D.bn .nil pass0 (pa_cons (pe_un un_neg (pv 0)) pa_nil))) .nil))))), ?_⟩
    refine ⟨_, rfl, _, _, rfl, rfl, _, rfl, ifd (fun h1 => ?_) (fun h1 => ?_)⟩
    · have hp : 0 < n.natAbs := by omega
      have hd := dec_len hn
      refine ⟨_, rfl, (by decide), _, rfl, n.natAbs, congrArg (fun z => [V.int z]) (by omega), hp, hn, fun H1 s1 => .inl ⟨_, rfl, line_of hd, _, rfl, ?_, ?_⟩⟩
      · rw [app_len, app_len, show (Str.empty : Str).length = 0 from rfl, show (("+" : Str)).length = 1 by decide]
        exact line_of (m := 3000) (by omega)
      · have e : ("+" : Str) ++ decS n.natAbs = plusD n := by
          rw [dec_plusP hp]
          exact congrArg plusD (by omega)
        rw [emp_app0, e]
        exact k _ s1
    · have hp : 0 < n.natAbs := by omega
      have hd := dec_len hn
      refine ⟨_, rfl, (by decide), _, rfl, _, rfl, n.natAbs, congrArg (fun z => [V.int z]) (by omega), hp, hn, fun H1 s1 => .inl ⟨_, rfl, line_of hd, _, rfl, ?_, ?_⟩⟩
      · rw [app_len, app_len, show (Str.empty : Str).length = 0 from rfl, show (("-" : Str)).length = 1 by decide]
        exact line_of (m := 3000) (by omega)
      · have e : ("-" : Str) ++ decS n.natAbs = plusD n := by
          rw [dec_plusN hp]
          exact congrArg plusD (by omega)
        rw [emp_app0, e]
        exact k _ s1
end
end K08
set_option Elab.async false
set_option linter.all false
set_option maxRecDepth 100000
set_option maxHeartbeats 2000000
namespace K08
open PySem PySem.Spec PyProof.Rows L2 My TL
section
variable {P : Program} {w : World} {K : PySem.W.Frag} {mg : Str → Option Value} {base : Heap} {SU nA BS fBs fIs fI : Addr} {fdBs fdIs fdI : FuncData}
/-! ### value_in -/
def spValIn (SU BS : Addr) : Sp := fun vs H Q E => ∃ a y t i n, vs = [.ref a, y] ∧ SumAt SU H a i n ∧ TyS SU H y t ∧
  ((∃ d kvs m, y = .ref d ∧ H d = some (.dK kvs) ∧ valV kvs (.inr (nm i)) = some (.int m) ∧ Q (.int (m + n)) H) ∨
    (isDt t = false ∧ RaisesX H BS (bsF "numbers") E) ∨ (∃ d kvs t2, y = .ref d ∧ H d = some (.dK kvs) ∧ TyS SU H ((valV kvs (.inr (nm i))).getD .non) t2 ∧ isInt ((valV kvs (.inr (nm i))).getD .non) = false ∧ RaisesX H BS (bsF "numbers") E))
theorem scValIn : FnScope ["self", "numbers"] ["self", "numbers"] (defScope sValIn) := ⟨rfl, rfl, rfl, by decide +kernel, rfl, by decide +kernel, by decide +kernel⟩
theorem ok_valin {f : Addr} {fd : FuncData} (F : Fun K "value_in" "Sum.value_in" sValIn f fd) (B : Blt mg) (T : SmT K mg SU nA) (R : RaT P w K mg base "BadSum" BS fBs fdBs ["self", "part"] (spBsI BS))
    (I : FnT P w K mg base CX0 1 "is_integer" fIs fdIs ["value"] (spIsInt SU)) : FnOk P w K mg base (L2.CX P w) 4 f fd ["self", "numbers"] (spValIn SU BS) := by
  refine F.okX scValIn (fun vs H Q E h => ?_) (fun cdv A outer s H vs Q E hr h => ?_)
  · obtain ⟨a, y, t, i, n, rfl, _⟩ := h
    rfl
  · obtain ⟨a, y, t, i, n, rfl, S, ty, k⟩ := h
    have hu := hu_of hr
    refine ⟨_, pss_cons (ps_if (PW.pt (pw_or (pt_not (pt_val (pe_callB call_isi (by rfl) B.isinstance (by decide +kernel) (pa_cons (pv 1) (pa_cons (pe_bty "dict" (by rfl) B.dict (by decide +kernel)) pa_nil)))))
          (pw_or1 (pt_not (pt_val (pe_call I.ok (hr.mono (by decide)) (by rfl) I.g I.kp I.bn .nil pass0 (pa_cons (pe_dget1 hu (pv 1) (pe_fld (pv 0) rfl) ⟨by rfl, by rfl, by rfl, by rfl⟩) pa_nil)))))))
        (pss_one (ps_raise rfl (takes_of rfl rfl rfl rfl) (pmk_oex R.ex.oex R.ex.init R.ex.tI R.ok hr R.bn .nil pass0 (by rfl) R.g (pa_cons pe_str pa_nil)))) pss_nil)
      (pss_one (ps_ret (pe_op op_add (pe_dget hu (pv 1) (pe_fld (pv 0) rfl) (fun _ _ => rfl)) (pe_fld (pv 0) rfl)))), ?_⟩
    obtain ⟨hi, dx, ha⟩ := S
    rcases k with ⟨d, kvs, m, rfl, hd, hv, k⟩ | ⟨hb, ke⟩ | ⟨d, kvs, t2, rfl, hd, ty2, hn, ke⟩
    · refine ⟨_, rfl, _, _, .type "dict", _, true, rfl, .ty _, .base (.dK hd), kit_ty (by decide +kernel), _, rfl, iteF ?_⟩
      refine ⟨_, rfl, d, rfl, .inl ⟨kvs, .inl hd⟩, _, rfl, a, SU, dx, _, _, rfl, ha, T.su.cl, T.nS, suF_source _ _, _, DGet.k (k := Sum.inr (nm i)) hd, ?_⟩
      rw [hv]
      refine ⟨_, .type "int", rfl, .int m, _, rfl, iteF ?_⟩
      refine ⟨_, rfl, _, rfl, a, SU, dx, _, _, rfl, ha, T.su.cl, T.nS, suF_source _ _, d, _, rfl, (by have z := DGet.k (k := Sum.inr (nm i)) hd; rw [hv] at z; exact z), ?_⟩
      exact ⟨_, rfl, a, SU, dx, _, _, rfl, ha, T.su.cl, T.nN, suF_number _ _, _, _, rfl, rfl, k⟩
    · refine ⟨_, rfl, _, _, _, _, false, rfl, .ty _, ty.tyX T.su, (by have z := kit_dict T.su ty; rw [hb] at z; exact z), _, rfl, iteT (iteT ⟨(show 1 ≤ 1000 by decide), fun b hb => raise_read (vs := [.str "numbers"]) ke (fun a H0 Q F h0 p => ⟨a, "numbers", rfl, by decide, h0, p⟩) b hb⟩)⟩
    · refine ⟨_, rfl, _, _, .type "dict", _, true, rfl, .ty _, .base (.dK hd), kit_ty (by decide +kernel), _, rfl, iteF ?_⟩
      refine ⟨_, rfl, d, rfl, .inl ⟨kvs, .inl hd⟩, _, rfl, a, SU, dx, _, _, rfl, ha, T.su.cl, T.nS, suF_source _ _, _, DGet.k (k := Sum.inr (nm i)) hd, ?_⟩
      refine ⟨_, t2, rfl, ty2, _, rfl, ?_⟩
      rw [hn]
      exact iteT ⟨(show 1 ≤ 1000 by decide), fun b hb => raise_read (vs := [.str "numbers"]) ke (fun a H0 Q F h0 p => ⟨a, "numbers", rfl, by decide, h0, p⟩) b hb⟩
/-! ### the order -/
def spCmp (SU : Addr) (g : Nat → Int → Nat → Int → Bool) : Sp := fun vs H Q _ => ∃ a b i n j m, vs = [.ref a, .ref b] ∧ SumAt SU H a i n ∧ SumAt SU H b j m ∧ ∀ H', Same H H' → Q (.bl (g i n j m)) H'
theorem scEq : FnScope ["self", "other"] ["self", "other"] (defScope sEq) := ⟨rfl, rfl, rfl, by decide +kernel, rfl, by decide +kernel, by decide +kernel⟩
theorem scLt : FnScope ["self", "other"] ["self", "other"] (defScope sLt) := ⟨rfl, rfl, rfl, by decide +kernel, rfl, by decide +kernel, by decide +kernel⟩
def gOrd (rel : Int → Int → Bool) (i : Nat) (n : Int) (j : Nat) (m : Int) : Bool := if (i : Int) = (j : Int) then (if n = m then rel 0 0 else rel n m) else rel (i : Int) (j : Int)
theorem ok_lt {f : Addr} {fd : FuncData} (F : Fun K "__lt__" "Sum.__lt__" sLt f fd) (B : Blt mg) (T : SmT K mg SU nA) : FnOk P w K mg base CX0 1 f fd ["self", "other"] (spCmp SU (gOrd fun a b => decide (a < b))) := by
  refine F.ok scLt (fun vs H Q E h => ?_) (fun cdv A outer s H vs Q E hr h => ?_)
  · obtain ⟨a, b, i, n, j, m, rfl, _⟩ := h
    rfl
  · obtain ⟨a, b, i, n, j, m, rfl, S, S2, k⟩ := h
    refine ⟨_, pss_cons (ps_if (pt_not (pt_val (pe_callB call_isi (by rfl) B.isinstance (by decide +kernel) (pa_cons (pv 1) (pa_cons (pe_gref rfl T.g) pa_nil))))) (pss_one ps_never) pss_nil)
      (pss_one (ps_ret (pe_cmpR (op_lt2 hr.units0) (pe_tup (pa_cons (pe_fld (pv 0) rfl) (pa_cons (pe_fld (pv 0) rfl) pa_nil))) (pe_tup (pa_cons (pe_fld (pv 1) rfl) (pa_cons (pe_fld (pv 1) rfl) pa_nil))) (nomark _)))), ?_⟩
    obtain ⟨hi, dx, ha⟩ := id S
    obtain ⟨hj, dy, hb⟩ := id S2
    refine ⟨_, rfl, _, _, _, _, true, rfl, .own SU, S2.ty.tyX T.su, kit_su T.su S2.ty, _, rfl, iteF ?_⟩
    refine ⟨_, rfl, a, SU, dx, _, _, rfl, ha, T.su.cl, T.nR, suF_rank _ _, _, rfl, a, SU, dx, _, _, rfl, ha, T.su.cl, T.nN, suF_number _ _, (by show 2 ≤ sizeLine; decide), fun p hp => ?_⟩
    have s1 : Same H (upd H p (.tup [.int (i : Int), .int n])) := same_upd hp
    have hb1 := s1 _ _ hb
    refine ⟨_, rfl, b, SU, dy, _, _, rfl, hb1, T.su.cl, T.nR, suF_rank _ _, _, rfl, b, SU, dy, _, _, rfl, hb1, T.su.cl, T.nN, suF_number _ _, (by show 2 ≤ sizeLine; decide), fun q hq => ?_⟩
    have s2 := same_upd (o := .tup [.int (j : Int), .int m]) hq
    exact ⟨p, q, _, _, _, _, rfl, rfl, SqT.of (s2 _ _ upd_same), SqT.of upd_same, k _ (s1.trans s2)⟩
theorem scLe : FnScope ["self", "other"] ["self", "other"] (defScope sLe) := ⟨rfl, rfl, rfl, by decide +kernel, rfl, by decide +kernel, by decide +kernel⟩
theorem ok_le {f : Addr} {fd : FuncData} (F : Fun K "__le__" "Sum.__le__" sLe f fd) (B : Blt mg) (T : SmT K mg SU nA) : FnOk P w K mg base CX0 1 f fd ["self", "other"] (spCmp SU (gOrd fun a b => decide (a ≤ b))) := by
  refine F.ok scLe (fun vs H Q E h => ?_) (fun cdv A outer s H vs Q E hr h => ?_)
  · obtain ⟨a, b, i, n, j, m, rfl, _⟩ := h
    rfl
  · obtain ⟨a, b, i, n, j, m, rfl, S, S2, k⟩ := h
    refine ⟨_, pss_cons (ps_if (pt_not (pt_val (pe_callB call_isi (by rfl) B.isinstance (by decide +kernel) (pa_cons (pv 1) (pa_cons (pe_gref rfl T.g) pa_nil))))) (pss_one ps_never) pss_nil)
      (pss_one (ps_ret (pe_cmpR (op_le2 hr.units0) (pe_tup (pa_cons (pe_fld (pv 0) rfl) (pa_cons (pe_fld (pv 0) rfl) pa_nil))) (pe_tup (pa_cons (pe_fld (pv 1) rfl) (pa_cons (pe_fld (pv 1) rfl) pa_nil))) (nomark _)))), ?_⟩
    obtain ⟨hi, dx, ha⟩ := id S
    obtain ⟨hj, dy, hb⟩ := id S2
    refine ⟨_, rfl, _, _, _, _, true, rfl, .own SU, S2.ty.tyX T.su, kit_su T.su S2.ty, _, rfl, iteF ?_⟩
    refine ⟨_, rfl, a, SU, dx, _, _, rfl, ha, T.su.cl, T.nR, suF_rank _ _, _, rfl, a, SU, dx, _, _, rfl, ha, T.su.cl, T.nN, suF_number _ _, (by show 2 ≤ sizeLine; decide), fun p hp => ?_⟩
    have s1 : Same H (upd H p (.tup [.int (i : Int), .int n])) := same_upd hp
    have hb1 := s1 _ _ hb
    refine ⟨_, rfl, b, SU, dy, _, _, rfl, hb1, T.su.cl, T.nR, suF_rank _ _, _, rfl, b, SU, dy, _, _, rfl, hb1, T.su.cl, T.nN, suF_number _ _, (by show 2 ≤ sizeLine; decide), fun q hq => ?_⟩
    have s2 := same_upd (o := .tup [.int (j : Int), .int m]) hq
    exact ⟨p, q, _, _, _, _, rfl, rfl, SqT.of (s2 _ _ upd_same), SqT.of upd_same, k _ (s1.trans s2)⟩
theorem scGt : FnScope ["self", "other"] ["self", "other"] (defScope sGt) := ⟨rfl, rfl, rfl, by decide +kernel, rfl, by decide +kernel, by decide +kernel⟩
theorem ok_gt {f : Addr} {fd : FuncData} (F : Fun K "__gt__" "Sum.__gt__" sGt f fd) (B : Blt mg) (T : SmT K mg SU nA) : FnOk P w K mg base CX0 1 f fd ["self", "other"] (spCmp SU (gOrd fun a b => decide (b < a))) := by
  refine F.ok scGt (fun vs H Q E h => ?_) (fun cdv A outer s H vs Q E hr h => ?_)
  · obtain ⟨a, b, i, n, j, m, rfl, _⟩ := h
    rfl
  · obtain ⟨a, b, i, n, j, m, rfl, S, S2, k⟩ := h
    refine ⟨_, pss_cons (ps_if (pt_not (pt_val (pe_callB call_isi (by rfl) B.isinstance (by decide +kernel) (pa_cons (pv 1) (pa_cons (pe_gref rfl T.g) pa_nil))))) (pss_one ps_never) pss_nil)
      (pss_one (ps_ret (pe_cmpR (op_gt2 hr.units0) (pe_tup (pa_cons (pe_fld (pv 0) rfl) (pa_cons (pe_fld (pv 0) rfl) pa_nil))) (pe_tup (pa_cons (pe_fld (pv 1) rfl) (pa_cons (pe_fld (pv 1) rfl) pa_nil))) (nomark _)))), ?_⟩
    obtain ⟨hi, dx, ha⟩ := id S
    obtain ⟨hj, dy, hb⟩ := id S2
    refine ⟨_, rfl, _, _, _, _, true, rfl, .own SU, S2.ty.tyX T.su, kit_su T.su S2.ty, _, rfl, iteF ?_⟩
    refine ⟨_, rfl, a, SU, dx, _, _, rfl, ha, T.su.cl, T.nR, suF_rank _ _, _, rfl, a, SU, dx, _, _, rfl, ha, T.su.cl, T.nN, suF_number _ _, (by show 2 ≤ sizeLine; decide), fun p hp => ?_⟩
    have s1 : Same H (upd H p (.tup [.int (i : Int), .int n])) := same_upd hp
    have hb1 := s1 _ _ hb
    refine ⟨_, rfl, b, SU, dy, _, _, rfl, hb1, T.su.cl, T.nR, suF_rank _ _, _, rfl, b, SU, dy, _, _, rfl, hb1, T.su.cl, T.nN, suF_number _ _, (by show 2 ≤ sizeLine; decide), fun q hq => ?_⟩
    have s2 := same_upd (o := .tup [.int (j : Int), .int m]) hq
    exact ⟨p, q, _, _, _, _, rfl, rfl, SqT.of (s2 _ _ upd_same), SqT.of upd_same, k _ (s1.trans s2)⟩
theorem scGe : FnScope ["self", "other"] ["self", "other"] (defScope sGe) := ⟨rfl, rfl, rfl, by decide +kernel, rfl, by decide +kernel, by decide +kernel⟩
theorem ok_ge {f : Addr} {fd : FuncData} (F : Fun K "__ge__" "Sum.__ge__" sGe f fd) (B : Blt mg) (T : SmT K mg SU nA) : FnOk P w K mg base CX0 1 f fd ["self", "other"] (spCmp SU (gOrd fun a b => decide (b ≤ a))) := by
  refine F.ok scGe (fun vs H Q E h => ?_) (fun cdv A outer s H vs Q E hr h => ?_)
  · obtain ⟨a, b, i, n, j, m, rfl, _⟩ := h
    rfl
  · obtain ⟨a, b, i, n, j, m, rfl, S, S2, k⟩ := h
    refine ⟨_, pss_cons (ps_if (pt_not (pt_val (pe_callB call_isi (by rfl) B.isinstance (by decide +kernel) (pa_cons (pv 1) (pa_cons (pe_gref rfl T.g) pa_nil))))) (pss_one ps_never) pss_nil)
      (pss_one (ps_ret (pe_cmpR (op_ge2 hr.units0) (pe_tup (pa_cons (pe_fld (pv 0) rfl) (pa_cons (pe_fld (pv 0) rfl) pa_nil))) (pe_tup (pa_cons (pe_fld (pv 1) rfl) (pa_cons (pe_fld (pv 1) rfl) pa_nil))) (nomark _)))), ?_⟩
    obtain ⟨hi, dx, ha⟩ := id S
    obtain ⟨hj, dy, hb⟩ := id S2
    refine ⟨_, rfl, _, _, _, _, true, rfl, .own SU, S2.ty.tyX T.su, kit_su T.su S2.ty, _, rfl, iteF ?_⟩
    refine ⟨_, rfl, a, SU, dx, _, _, rfl, ha, T.su.cl, T.nR, suF_rank _ _, _, rfl, a, SU, dx, _, _, rfl, ha, T.su.cl, T.nN, suF_number _ _, (by show 2 ≤ sizeLine; decide), fun p hp => ?_⟩
    have s1 : Same H (upd H p (.tup [.int (i : Int), .int n])) := same_upd hp
    have hb1 := s1 _ _ hb
    refine ⟨_, rfl, b, SU, dy, _, _, rfl, hb1, T.su.cl, T.nR, suF_rank _ _, _, rfl, b, SU, dy, _, _, rfl, hb1, T.su.cl, T.nN, suF_number _ _, (by show 2 ≤ sizeLine; decide), fun q hq => ?_⟩
    have s2 := same_upd (o := .tup [.int (j : Int), .int m]) hq
    exact ⟨p, q, _, _, _, _, rfl, rfl, SqT.of (s2 _ _ upd_same), SqT.of upd_same, k _ (s1.trans s2)⟩
theorem ok_eq {f : Addr} {fd : FuncData} (F : Fun K "__eq__" "Sum.__eq__" sEq f fd) (B : Blt mg) (T : SmT K mg SU nA) : FnOk P w K mg base CX0 1 f fd ["self", "other"] (spCmp SU (fun i n j m => decide (i = j ∧ n = m))) := by
  refine F.ok scEq (fun vs H Q E h => ?_) (fun cdv A outer s H vs Q E hr h => ?_)
  · obtain ⟨a, b, i, n, j, m, rfl, _⟩ := h
    rfl
  · obtain ⟨a, b, i, n, j, m, rfl, S, S2, k⟩ := h
    refine ⟨_, pss_cons (ps_if (pt_not (pt_val (pe_callB call_isi (by rfl) B.isinstance (by decide +kernel) (pa_cons (pv 1) (pa_cons (pe_gref rfl T.g) pa_nil))))) (pss_one ps_never) pss_nil)
      (pss_one (ps_ret (pe_cmpR (op_eqD hr.units) (pe_tup (pa_cons (pe_fld (pv 0) rfl) (pa_cons (pe_fld (pv 0) rfl) pa_nil))) (pe_tup (pa_cons (pe_fld (pv 1) rfl) (pa_cons (pe_fld (pv 1) rfl) pa_nil))) (nomark _)))), ?_⟩
    obtain ⟨hi, dx, ha⟩ := id S
    obtain ⟨hj, dy, hb⟩ := id S2
    refine ⟨_, rfl, _, _, _, _, true, rfl, .own SU, S2.ty.tyX T.su, kit_su T.su S2.ty, _, rfl, iteF ?_⟩
    refine ⟨_, rfl, a, SU, dx, _, _, rfl, ha, T.su.cl, T.nR, suF_rank _ _, _, rfl, a, SU, dx, _, _, rfl, ha, T.su.cl, T.nN, suF_number _ _, (by show 2 ≤ sizeLine; decide), fun p hp => ?_⟩
    have s1 : Same H (upd H p (.tup [.int (i : Int), .int n])) := same_upd hp
    have hb1 := s1 _ _ hb
    refine ⟨_, rfl, b, SU, dy, _, _, rfl, hb1, T.su.cl, T.nR, suF_rank _ _, _, rfl, b, SU, dy, _, _, rfl, hb1, T.su.cl, T.nN, suF_number _ _, (by show 2 ≤ sizeLine; decide), fun q hq => ?_⟩
    have s2 := same_upd (o := .tup [.int (j : Int), .int m]) hq
    have t1 : SqT K (upd (upd H p (.tup [.int (i : Int), .int n])) q (.tup [.int (j : Int), .int m])) p [.int (i : Int), .int n] := SqT.of (s2 _ _ upd_same)
    have t2 : SqT K (upd (upd H p (.tup [.int (i : Int), .int n])) q (.tup [.int (j : Int), .int m])) q [.int (j : Int), .int m] := SqT.of upd_same
    refine ⟨_, _, .tup t1 (.cons (.int _) (.cons (.int _) .nil)), .tup t2 (.cons (.int _) (.cons (.int _) .nil)), rfl, rfl, ?_⟩
    have e : PyData.eqv (.tuple [.int (i : Int), .int n]) (.tuple [.int (j : Int), .int m]) = decide (i = j ∧ n = m) := by
      rw [Bool.eq_iff_iff]
      simp [PyData.eqv, PyData.eqvAll]
      intro _
      omega
    rw [e]
    exact k _ (s1.trans s2)
/-! ### str -/
def sumT (i : Nat) (n : Int) : Str := if n = 0 then nm i else nm i ++ plusD n
def spStr (SU : Addr) : Sp := fun vs H Q _ => ∃ a i n, vs = [.ref a] ∧ SumAt SU H a i n ∧ n.natAbs.log2 < 1900 ∧ ∀ H', Same H H' → Q (.str (sumT i n)) H'
theorem nm_len {i : Nat} (h : i < 7) : (nm i).length ≤ 2 := by
  have : ∀ i : Fin 7, (nm i.val).length ≤ 2 := by decide +kernel
  exact this ⟨i, h⟩
theorem scStr : FnScope ["self"] ["self"] (defScope sStr) := ⟨rfl, rfl, rfl, by decide +kernel, rfl, by decide +kernel, by decide +kernel⟩
theorem plusD_short (a : Int) (h : a.natAbs.log2 < 1920) : (plusD a).length ≤ 2000 := by
  have hl := dig_len (by decide) h
  unfold plusD Str.length
  by_cases ha : a < 0
  · simp [ha]
    omega
  · simp [ha]
    omega
theorem emp_app (x : Str) : Str.empty ++ x = x := ext_tl (by rw [tl_append]; rfl)
theorem ok_str {f fSd : Addr} {fd fdSd : FuncData} (F : Fun K "__str__" "Sum.__str__" sStr f fd) (B : Blt mg) (T : SmT K mg SU nA) (D : FnT P w K mg base CX0 2 "signed_digits" fSd fdSd ["number"] spSigned) : FnOk P w K mg base CX0 3 f fd ["self"] (spStr SU) := by
  refine F.ok scStr (fun vs H Q E h => ?_) (fun cdv A outer s H vs Q E hr h => ?_)
  · obtain ⟨a, i, n, rfl, _⟩ := h
    rfl
  · obtain ⟨a, i, n, rfl, S, hn, k⟩ := h
    refine ⟨_, pss_cons (ps_if (pt_cmpR op_eq (pe_fld (pv 0) rfl) pe_int (nomark _)) (pss_one (ps_ret (pe_callTy SkE.call_str_str (by rfl) B.str (by decide +kernel) (pa_cons (pe_fld (pv 0) rfl) pa_nil)))) pss_nil)
      (pss_one (ps_ret (pe_joined (.cons (pe_fmt (pe_fld (pv 0) rfl)) (.cons (pe_fmt (pe_call D.ok (hr.mono (by decide)) (by rfl) D.g D.kp D.bn .nil pass0 (pa_cons (pe_fld (pv 0) rfl) pa_nil))) .nil))))), ?_⟩
    obtain ⟨hi, dx, ha⟩ := S
    have l0 := nm_len hi
    refine ⟨_, rfl, a, SU, dx, _, _, rfl, ha, T.su.cl, T.nN, suF_number _ _, rfl, _, rfl, ifd (fun h0 => ?_) (fun h0 => ?_)⟩
    · have h0 : n = 0 := V.int.inj h0
      rw [show sumT i n = nm i from if_pos h0] at k
      exact ⟨_, rfl, a, SU, dx, _, _, rfl, ha, T.su.cl, T.nS, suF_source _ _, _, rfl, k _ (Same.refl _)⟩
    · have h0 : ¬ n = 0 := fun e => h0 (by rw [e])
      rw [show sumT i n = nm i ++ plusD n from if_neg h0] at k
      have l1 := plusD_short n (by omega)
      refine ⟨_, rfl, a, SU, dx, _, _, rfl, ha, T.su.cl, T.nS, suF_source _ _, .inl ⟨_, rfl, line_of l0, _, rfl, ?_, _, rfl, a, SU, dx, _, _, rfl, ha, T.su.cl, T.nN, suF_number _ _, n, rfl, h0, hn, fun H1 s1 => .inl ⟨_, rfl, line_of l1, _, rfl, ?_, ?_⟩⟩⟩
      · rw [emp_app]
        exact line_of l0
      · rw [emp_app, app_len]
        exact line_of (m := 3000) (by omega)
      · rw [emp_app]
        exact k _ s1
end
end K08
set_option Elab.async false
set_option linter.all false
set_option maxRecDepth 100000
set_option maxHeartbeats 2000000
namespace K08
open PySem PySem.Spec PyProof.Rows L2 My TL
/-! ### the words of a text -/
theorem spl_first : ∀ (l acc : List Nat), ∃ p rest, spl [32] 0 acc l = p :: rest ∧ p.length ≤ acc.length + l.length ∧ (rest = [] → p = acc ++ l)
  | [], acc => ⟨acc, [], spl_nil _ _ _, by simp, fun _ => by simp⟩
  | c :: r, acc => by
    by_cases h : pre [32] (c :: r) = true
    · refine ⟨acc, spl [32] 0 [] r, spl_hit h, by simp, fun e => ?_⟩
      obtain ⟨p, q, e2, _⟩ := spl_first r []
      rw [e2] at e
      cases e
    · obtain ⟨p, q, e2, e3, e4⟩ := spl_first r (acc ++ [c])
      refine ⟨p, q, by rw [spl_miss (Bool.eq_false_iff.mpr h)]; exact e2, ?_, fun e => ?_⟩
      · simp at e3 ⊢
        omega
      · rw [e4 e]
        simp
theorem split_first (z : Str) : ∃ w0 rest, Txt.split z " " = w0 :: rest ∧ w0.length ≤ z.length ∧ (rest = [] → w0 = z) := by
  have e := split_spl z " " (by decide +kernel) (kind_ok (by decide +kernel))
  have e32 : tl (" " : Str) = [32] := by decide +kernel
  rw [e32] at e
  obtain ⟨p, q, e2, e3, e4⟩ := spl_first (tl z) []
  rw [e2] at e
  cases hs : Txt.split z " " with
  | nil => rw [hs] at e; cases e
  | cons w0 rest =>
    rw [hs] at e
    have h1 : tl w0 = p := (List.cons.inj e).1
    have h2 : rest.map tl = q := (List.cons.inj e).2
    refine ⟨w0, rest, rfl, ?_, fun h => ext_tl ?_⟩
    · rw [len_tl, len_tl z, h1]
      simpa using e3
    · rw [h1, e4 (by rw [← h2, h]; rfl)]
      rfl
theorem spl_count : ∀ (l acc : List Nat), (spl [32] 0 acc l).length ≤ l.length + 1
  | [], acc => by rw [spl_nil]; exact Nat.le_refl _
  | c :: r, acc => by
    by_cases h : pre [32] (c :: r) = true
    · rw [spl_hit h]
      have := spl_count r []
      show (spl [32] 0 [] r).length + 1 ≤ _
      rw [List.length_cons]
      omega
    · rw [spl_miss (Bool.eq_false_iff.mpr h)]
      have := spl_count r (acc ++ [c])
      rw [List.length_cons]
      omega
theorem split_len (z : Str) : (Txt.split z " ").length ≤ z.length + 1 := by
  have e := split_spl z " " (by decide +kernel) (kind_ok (by decide +kernel))
  have e32 : tl (" " : Str) = [32] := by decide +kernel
  rw [e32] at e
  have := spl_count (tl z) []
  rw [← e, List.length_map, ← len_tl] at this
  exact this
theorem NewS.same {SU : Addr} {H H1 : Hp} {Q : VK} {i : Nat} {n : Int} (k : NewS SU H Q i n) (s : Same H H1) : NewS SU H1 Q i n := fun x H' s' f S => k x H' (s.trans s') (s.free f) S
section
variable {P : Program} {w : World} {K : PySem.W.Frag} {mg : Str → Option Value} {base : Heap} {SU nA BS CU BT fIs fI fW fB fCi fAh fGo fRf fNe fSo : Addr} {fdI fdW fdB fdCi fdAh fdGo fdRf fdNe fdSo : FuncData}
/-! ### sum_behind -/
def spBehind (SU : Addr) : Sp := fun vs H Q _ => ∃ i r, vs = [.str (nm i), .str r] ∧ i < 7 ∧ r.length ≤ 1000000 ∧ (∀ n, behindL (tl r) = some n → NewS SU H Q i n) ∧ (behindL (tl r) = none → ∀ H', Same H H' → Q .non H')
theorem scBehind : FnScope ["source", "rest", "number"] ["source", "rest"] (defScope sSumBehind) := ⟨rfl, rfl, rfl, by decide +kernel, rfl, by decide +kernel, by decide +kernel⟩
theorem ok_behind {f : Addr} {fd : FuncData} (F : Fun K "sum_behind" "sum_behind" sSumBehind f fd) (T : SmT K mg SU nA) (M : MkS P w K mg base SU BS fI fdI) (W : FnT P w K mg base CX0 1 "whole_number" fW fdW ["word"] spWhole) :
    FnOk P w K mg base (L2.CX P w) 6 f fd ["source", "rest"] (spBehind SU) := by
  refine F.okX scBehind (fun vs H Q E h => ?_) (fun cdv A outer s H vs Q E hr h => ?_)
  · obtain ⟨i, r, rfl, _⟩ := h
    rfl
  · obtain ⟨i, r, rfl, hi, hl, k, kn⟩ := h
    obtain ⟨ds, vd, b2⟩ := M.b2
    refine ⟨_, pss_cons (ps_if (pt_cmpR op_eq (pv 1) pe_str (nomark _)) (pss_one (ps_ret (pe_make M.cm M.ok hr (by rfl) T.g b2 vd (passes_call (takes_of rfl rfl rfl rfl) (fun _ _ _ _ e => e)) (pa_cons (pv 0) pa_nil)))) pss_nil)
      (pss_cons (ps_set (i := 2) scBehind.nd rfl (Or.inl rfl) (pe_call W.ok (hr.mono (by decide)) (by rfl) W.g W.kp W.bn .nil pass0 (pa_cons (pe_slice sl_str (pv 1) (po_some pe_int) po_none) pa_nil)))
      (pss_cons (ps_if (PW.pt (pw_or (pt_cmpR op_isN (pv 2) pe_non (nomark _)) (pw_or1 (pt_cmpR op_le (pv 2) pe_int (nomark _))))) (pss_one (ps_ret pe_non)) pss_nil)
      (pss_cons (ps_if (pt_val (pe_m1 PySem.F.slot_str_startswith PySem.F.type_str_startswith mt_startswith (pv 1) pe_str)) (pss_one (ps_ret (pe_make M.cm M.ok hr (by rfl) T.g M.b3 .nil (passes_call (takes_of rfl rfl rfl rfl) (fun _ _ _ _ e => e)) (pa_cons (pv 0) (pa_cons (pv 2) pa_nil))))) pss_nil)
      (pss_one (ps_ret (pe_ifExp (pt_val (pe_m1 PySem.F.slot_str_startswith PySem.F.type_str_startswith mt_startswith (pv 1) pe_str)) (pe_make M.cm M.ok hr (by rfl) T.g M.b3 .nil (passes_call (takes_of rfl rfl rfl rfl) (fun _ _ _ _ e => e)) (pa_cons (pv 0) (pa_cons (pe_un un_neg (pv 2)) pa_nil))) pe_non)))))), ?_⟩
    have hl2 : r.length ≤ sizeLine := line_of hl
    have e0 : (V.str r = V.str "") ↔ tl r = [] := ⟨fun e => by rw [V.str.inj e]; decide +kernel, fun e => congrArg V.str (ext_tl (by rw [e]; decide +kernel))⟩
    have m43 : Txt.startswith r "+" = pre [43] (tl r) := sw_pre r "+"
    have m45 : Txt.startswith r "-" = pre [45] (tl r) := sw_pre r "-"
    refine ⟨_, rfl, rfl, _, rfl, ifd (fun h0 => ?_) (fun h0 => ?_)⟩
    · have hb : behindL (tl r) = some 0 := if_pos (e0.mp h0)
      exact ⟨_, rfl, fun x dx h1 h2 h3 => new_read hi (k 0 hb) x dx h1 h2 h3⟩
    · have hne : ¬ tl r = [] := fun e => h0 (e0.mpr e)
      have ec : tl (cutS r (some 1) none) = (tl r).drop 1 := tl_cutFrom r 1
      refine ⟨_, rfl, _, rfl, r, rfl, hl2, _, rfl, Nat.le_trans (cutS_length r _ _) hl, fun H1 s1 => ?_⟩
      rw [ec]
      have hb : behindL (tl r) = (match wholeL ((tl r).drop 1) with
        | none => none
        | some n => if n ≤ 0 then none else if pre [43] (tl r) = true then some n else if pre [45] (tl r) = true then some (-n) else none) := if_neg hne
      cases hw : wholeL ((tl r).drop 1) with
      | none =>
        rw [hw] at hb
        refine ⟨_, rfl, rfl, _, rfl, iteT ?_⟩
        exact kn hb _ s1
      | some n =>
        rw [hw] at hb
        dsimp only at hb
        refine ⟨_, rfl, rfl, _, rfl, iteF ⟨_, rfl, _, _, rfl, rfl, _, rfl, ifd (fun h1 => ?_) (fun h1 => ?_)⟩⟩
        · rw [if_pos h1] at hb
          exact kn hb _ s1
        · rw [if_neg h1] at hb
          refine ⟨_, rfl, ⟨_, rfl⟩, _, _, rfl, rfl, _, rfl, ?_⟩
          rw [m43]
          refine ifb (fun h2 => ?_) (fun h2 => ?_)
          · rw [if_pos h2] at hb
            exact ⟨_, rfl, _, rfl, fun x dx h1 h2 h3 => new_read hi ((k n hb).same s1) x dx h1 h2 h3⟩
          · rw [if_neg (by rw [h2]; exact Bool.false_ne_true)] at hb
            refine ⟨_, rfl, ⟨_, rfl⟩, _, _, rfl, rfl, _, rfl, ?_⟩
            rw [m45]
            refine ifb (fun h3 => ?_) (fun h3 => ?_)
            · rw [if_pos h3] at hb
              exact ⟨_, rfl, _, rfl, _, rfl, fun x dx h1 h2 h3 => new_read hi ((k (-n) hb).same s1) x dx h1 h2 h3⟩
            · rw [if_neg (by rw [h3]; exact Bool.false_ne_true)] at hb
              exact kn hb _ s1
/-- a promise that does not speak of errors -/
theorem quiet {k : Nat} {f : Addr} {fd : FuncData} {ps : List Str} {sp : Sp} (F : FnOk P w K mg base (L2.CX P w) k f fd ps sp) (h : ∀ vs H Q E, sp vs H Q E → sp vs H Q E0) : FnOk P w K mg base CX0 k f fd ps sp := by
  refine ⟨fun vs H Q E q => F.len vs H Q E q, fun A outer s H args us vs Q E hr he hb hv hs => ?_⟩
  refine codeAny_mono (F.run A outer s H args us vs Q E0 hr he hb hv (h _ _ _ _ hs)) fun r s' q => ?_
  cases r with
  | ok fl => cases fl <;> exact q
  | error e =>
    obtain ⟨_, _, _, _, _, _, _, _, _, _, _, _, z⟩ := q
    exact z.elim
/-! ### sum_of -/
def spSumOf (SU : Addr) : Sp := fun vs H Q _ => ∃ z, vs = [.str z] ∧ z.length ≤ 1000000 ∧ (∀ i n, sumL (tl z) = some (i, n) → i < 7 → NewS SU H Q i n) ∧ (sumL (tl z) = none → ∀ H', Same H H' → Q .non H')
theorem scSumOf : FnScope ["word", "source"] ["word"] (defScope sSumOf) := ⟨rfl, rfl, rfl, by decide +kernel, rfl, by decide +kernel, by decide +kernel⟩
theorem drop_step {i : Nat} (h : i < 7) : NL.drop i = NL.getD i [] :: NL.drop (i + 1) := by
  have : ∀ i : Fin 7, NL.drop i.val = NL.getD i.val [] :: NL.drop (i.val + 1) := by decide +kernel
  exact this ⟨i, h⟩
theorem ok_sumof {f : Addr} {fd : FuncData} (F : Fun K "sum_of" "sum_of" sSumOf f fd) (T : SmT K mg SU nA) (G : FnT P w K mg base CX0 6 "sum_behind" fB fdB ["source", "rest"] (spBehind SU)) : FnOk P w K mg base CX0 7 f fd ["word"] (spSumOf SU) := by
  refine F.ok scSumOf (fun vs H Q E h => ?_) (fun cdv A outer s H vs Q E hr h => ?_)
  · obtain ⟨z, rfl, _⟩ := h
    rfl
  · obtain ⟨z, rfl, hl, k, kn⟩ := h
    refine ⟨_, pss_cons (ps_for PassesOwn.never rfl (pi_tup (ClX.pe_cval (pe_gref rfl T.g))) (pg_name (i := 1) scSumOf.nd rfl (Or.inl rfl))
        (pss_one (ps_if (pt_val (pe_m1 PySem.F.slot_str_startswith PySem.F.type_str_startswith mt_startswith (pv 0) (pv 1)))
          (pss_one (ps_ret (pe_call G.ok hr (by rfl) G.g G.kp G.bn .nil pass0 (pa_cons (pv 1) (pa_cons (pe_m1 PySem.F.slot_str_removeprefix PySem.F.type_str_removeprefix mt_removeprefix (pv 0) (pv 1)) pa_nil))))) pss_nil)))
      (pss_one (ps_ret pe_non)), ?_⟩
    refine ⟨SU, _, _, _, rfl, T.nt.rd, T.nt.val, nA, rfl, ⟨_, T.nt.seq H⟩, for_it (walk_tup (K := K) (a := nA) (xs := NS.map V.str)) (fun i σ H' => H' = H ∧ (∃ v, σ = [some (.str z), v]) ∧ sumFrom (tl z) i (NL.drop i) = sumL (tl z)) ⟨rfl, ⟨none, rfl⟩, rfl⟩ (fun i σ H' _ _ => T.nt.seq H') (fun i x σ H1 H2 hi p y => ?_) (fun σ H' p => ?_)⟩
    · obtain ⟨rfl, ⟨v, rfl⟩, hs⟩ := p
      obtain ⟨rfl, hx⟩ := y
      have hi : i < 7 := hi
      rw [List.getElem?_map, nm_get hi] at hx
      obtain rfl : V.str (nm i) = x := Option.some.inj hx
      refine ⟨_, rfl, ⟨_, rfl⟩, _, rfl, z, nm i, rfl, rfl, _, rfl, ?_⟩
      rw [sw_pre, tl_nm hi]
      rw [drop_step hi] at hs
      refine ifb (fun h1 => ?_) (fun h1 => ?_)
      · have e1 : sumL (tl z) = (behindL ((tl z).drop (NL.getD i []).length)).map fun n => (i, n) := by
          rw [← hs]
          exact if_pos h1
        have e2 : tl (Txt.removeprefix z (nm i)) = (tl z).drop (NL.getD i []).length := by
          rw [tl_rmpre (by rw [tl_nm hi]; exact h1), tl_nm hi]
        refine ⟨_, rfl, _, rfl, ⟨_, rfl⟩, _, rfl, z, nm i, rfl, rfl, line_of hl, i, _, rfl, hi, ?_, fun n hn => ?_, fun hn => ?_⟩
        · rw [len_tl, e2, List.length_drop]
          rw [len_tl] at hl
          omega
        · rw [e2] at hn
          exact k i n (by rw [e1, hn]; rfl) hi
        · rw [e2] at hn
          exact kn (by rw [e1, hn]; rfl)
      · refine ⟨rfl, ⟨_, rfl⟩, ?_⟩
        rw [← hs]
        exact (if_neg (by rw [h1]; exact Bool.false_ne_true)).symm
    · obtain ⟨rfl, _, hs⟩ := p
      exact kn (by rw [← hs]; rfl) _ (Same.refl _)
/-! ### Sum.read -/
def spRead (SU BT : Addr) : Sp := fun vs H Q E => ∃ tx t, vs = [tx] ∧ TyS SU H tx t ∧ (isS tx = false → RaisesX H BT (btF 0) E) ∧
  ∀ z, tx = .str z → z.length ≤ 100000 ∧ ∀ w0 rest, Txt.split z " " = w0 :: rest → (sumL (tl w0) = none → RaisesX H BT (btF 0) E) ∧ ∀ i n, sumL (tl w0) = some (i, n) → i < 7 → (rest = [] → NewS SU H Q i n) ∧ (rest ≠ [] → RaisesX H BT (btF 1) E)
theorem scRead : FnScope ["text", "cursor", "told"] ["text"] (defScope sRead) := ⟨rfl, rfl, rfl, by decide +kernel, rfl, by decide +kernel, by decide +kernel⟩
/-- a method, as callers ask for it -/
structure MeT (P : Program) (w : World) (K : PySem.W.Frag) (mg : Str → Option Value) (base : Heap) (CX : CXT) (k : Nat) (C : Addr) (m : Str) (f : Addr) (fd : FuncData) (ps : List Str) (sp : Sp) : Prop where
  ok : FnOk P w K mg base CX k f fd ps sp
  bn : Binds K fd ps []
  at_ : Meth K C m f
theorem ok_read {f : Addr} {fd : FuncData} (F : Fun K "read" "Sum.read" sRead f fd) (T : SmT K mg SU nA) (U : CuT K CU) (gC : mg "Cursor" = some (.ref CU)) (MC : Mk K CU fCi) (GC : FnOk P w K mg base (L2.CX P w) 4 fCi fdCi ["self", "text"] (spCuI SU CU BT)) (bC : Binds K fdCi ["self", "text"] [])
    (GA : MeT P w K mg base CX0 1 CU "ahead" fAh fdAh ["self"] (spAhead CU)) (GG : MeT P w K mg base CX0 1 CU "go_on" fGo fdGo ["self"] (spGoOn CU)) (GR : MeT P w K mg base (L2.CX P w) 4 CU "refuse" fRf fdRf ["self"] (spRefuse CU BT))
    (GN : MeT P w K mg base (L2.CX P w) 5 CU "need_end" fNe fdNe ["self"] (spNeedEnd CU BT)) (GS : FnT P w K mg base CX0 7 "sum_of" fSo fdSo ["word"] (spSumOf SU)) : FnOk P w K mg base (L2.CX P w) 8 f fd ["text"] (spRead SU BT) := by
  refine F.okX scRead (fun vs H Q E h => ?_) (fun cdv A outer s H vs Q E hr h => ?_)
  · obtain ⟨tx, t, rfl, _⟩ := h
    rfl
  · obtain ⟨tx, t, rfl, ty, ke, k⟩ := h
    refine ⟨_, pss_cons (ps_set (i := 1) scRead.nd rfl (Or.inl rfl) (pe_make MC GC (hr.mono (by decide)) (by rfl) gC bC .nil (passes_call (takes_of rfl rfl rfl rfl) (fun _ _ _ _ e => e)) (pa_cons (pv 0) pa_nil)))
      (pss_cons (ps_set (i := 2) scRead.nd rfl (Or.inl rfl) (pe_call GS.ok hr (by rfl) GS.g GS.kp GS.bn .nil pass0 (pa_cons (pe_meth0 (pv 1) U.cl GA.at_ GA.ok (hr.mono (by decide)) GA.bn .nil pass0) pa_nil)))
      (pss_cons (ps_if (pt_cmpR op_isN (pv 2) pe_non (nomark _)) (pss_one (ps_expr (pe_meth0 (pv 1) U.cl GR.at_ GR.ok (hr.mono (by decide)) GR.bn .nil (passes_call (takes_of rfl rfl rfl rfl) (fun _ _ _ _ e => e))))) pss_nil)
      (pss_cons (ps_expr (pe_meth0 (pv 1) U.cl GG.at_ GG.ok (hr.mono (by decide)) GG.bn .nil pass0))
      (pss_cons (ps_expr (pe_meth0 (pv 1) U.cl GN.at_ GN.ok (hr.mono (by decide)) GN.bn .nil (passes_call (takes_of rfl rfl rfl rfl) (fun _ _ _ _ e => e))))
      (pss_one (ps_ret (pv 2))))))), ?_⟩
    refine ⟨_, rfl, fun x dx nx ndx ne => ?_⟩
    have s0 : Same H (upd (upd H dx (.own x)) x (.ins CU dx [])) := fun b o e => by
      rw [upd_ne (ne_of_none e nx), upd_ne (ne_of_none e ndx)]
      exact e
    refine ⟨x, dx, tx, t, rfl, upd_same, ty.same s0, fun z ez => ?_, fun hs => (ke hs).same s0⟩
    subst ez
    obtain ⟨hl, k⟩ := k z rfl
    refine ⟨hl, fun l nl => ⟨rfl, ?_⟩⟩
    obtain ⟨w0, rest, hsp, hw0, hone⟩ := split_first z
    have hcount := split_len z
    rw [hsp] at hcount ⊢
    obtain ⟨k0, k1⟩ := k w0 rest hsp
    have nxl : x ≠ l := fun e => by
      rw [← e, upd_same] at nl
      cases nl
    generalize hH1 : upd (upd (upd (upd H dx (.own x)) x (.ins CU dx [])) l (.lst ((w0 :: rest).map V.str))) x (.ins CU dx (cuF l 0)) = H1
    have s1 : Same H H1 := fun b o e => by
      rw [← hH1, upd_ne (ne_of_none e nx), upd_ne (ne_of_none (s0 _ _ e) nl)]
      exact s0 _ _ e
    have C1 : CurAt CU H1 x dx l 0 (w0 :: rest) := ⟨by rw [← hH1]; exact upd_same, by rw [← hH1, upd_ne nxl.symm]; exact upd_same⟩
    refine ⟨_, rfl, x, dx, _, rfl, C1.ob, cuF_no _ _ (by decide +kernel) (by decide +kernel), x, dx, l, 0, _, rfl, C1, (by omega), w0, rfl, (by omega), fun i n hsum hi => ?_, fun hsum H2 s2 => ?_⟩
    · intro a H2 s2 na S2
      have C2 : CurAt CU H2 x dx l 0 (w0 :: rest) := ⟨s2 _ _ C1.ob, s2 _ _ C1.ls⟩
      refine ⟨_, rfl, rfl, _, rfl, iteF ?_⟩
      refine ⟨_, rfl, x, dx, _, rfl, C2.ob, cuF_no _ _ (by decide +kernel) (by decide +kernel), x, dx, l, 0, _, rfl, C2, ?_⟩
      have nxl2 : l ≠ x := nxl.symm
      have C3 : CurAt CU (upd H2 x (.ins CU dx (cuF l ((0 + 1 : Nat) : Int)))) x dx l 1 (w0 :: rest) := ⟨upd_same, by rw [upd_ne nxl2]; exact C2.ls⟩
      have s3 : Same H (upd H2 x (.ins CU dx (cuF l ((0 + 1 : Nat) : Int)))) := fun b o e => by
        rw [upd_ne (ne_of_none e nx)]
        exact s2 _ _ (s1 _ _ e)
      refine ⟨_, rfl, x, dx, _, rfl, C3.ob, cuF_no _ _ (by decide +kernel) (by decide +kernel), x, dx, l, 1, _, rfl, C3, by decide, (by omega), fun hlen => ?_, fun hlen => ?_⟩
      · have hr0 : rest = [] := by
          cases rest with
          | nil => rfl
          | cons q r =>
            simp at hlen
        refine ⟨_, rfl, (k1 i n hsum hi).1 hr0 a _ s3 ?_ ?_⟩
        · exact s1.free na
        · have na1 : a ≠ x := fun e => by
            rw [e, C1.ob] at na
            cases na
          exact ⟨S2.1, S2.2.choose, by rw [upd_ne na1]; exact S2.2.choose_spec⟩
      · have hr0 : rest ≠ [] := fun e => by
          rw [e] at hlen
          simp at hlen
        exact ((k1 i n hsum hi).2 hr0).same s3
    · have C2 : CurAt CU H2 x dx l 0 (w0 :: rest) := ⟨s2 _ _ C1.ob, s2 _ _ C1.ls⟩
      refine ⟨_, rfl, rfl, _, rfl, iteT ?_⟩
      exact ⟨_, rfl, x, dx, _, rfl, C2.ob, cuF_no _ _ (by decide +kernel) (by decide +kernel), x, dx, l, 0, _, rfl, C2, by decide, (k0 hsum).same (s1.trans s2)⟩
end
end K08
set_option Elab.async false
set_option linter.all false
set_option maxRecDepth 100000
set_option maxHeartbeats 2000000
namespace K08
open PySem PySem.Spec PyProof.Rows L2 My TL
abbrev sPen : Stmt := top 23
abbrev sDraw : Stmt := top 24
abbrev sPick : Stmt := top 25
abbrev sNumber : Stmt := top 26
abbrev sHeard : Stmt := top 27
abbrev sShown2 : Stmt := top 28
abbrev sText : Stmt := top 29
abbrev sTold : Stmt := top 30
abbrev sBent : Stmt := top 31
abbrev sOrder : Stmt := top 32
abbrev sValues : Stmt := top 33
abbrev sRefused : Stmt := top 34
abbrev sLaw : Stmt := top 35
/-- all but the pen stays -/
structure Ext (p : Addr) (H H' : Hp) : Prop where
  keep : ∀ b u, H b = some u → b ≠ p → H' b = some u
  pen : ∀ (c : Addr) (x y : V), H p = some (.lst [.ref c, x, y]) → ∃ x' y', H' p = some (.lst [.ref c, x', y'])
instance {p : Addr} {H H' : Hp} : CoeFun (Ext p H H') (fun _ => ∀ b u, H b = some u → b ≠ p → H' b = some u) := ⟨Ext.keep⟩
theorem Ext.refl (p : Addr) (H : Hp) : Ext p H H := ⟨fun _ _ e _ => e, fun _ x y h => ⟨x, y, h⟩⟩
theorem Ext.trans {p : Addr} {H H1 H2 : Hp} (a : Ext p H H1) (b : Ext p H1 H2) : Ext p H H2 := ⟨fun c u e n => b.keep c u (a.keep c u e n) n, fun c x y h => by
  obtain ⟨x', y', h'⟩ := a.pen c x y h
  exact b.pen c x' y' h'⟩
theorem Ext.of {p : Addr} {H H1 : Hp} (s : Same H H1) : Ext p H H1 := ⟨fun c u e _ => s c u e, fun _ x y h => ⟨x, y, s _ _ h⟩⟩
theorem Ext.updp {p c : Addr} {H : Hp} {x y x' y' : V} (h : H p = some (.lst [.ref c, x, y])) : Ext p H (upd H p (.lst [.ref c, x', y'])) := ⟨fun d u e n => by rw [upd_ne n]; exact e, fun d u v k => by
  rw [h] at k
  cases k
  exact ⟨x', y', upd_same⟩⟩
theorem Ext.new {p a : Addr} {H : Hp} {o : HO} (h : H a = none) : Ext p H (upd H a o) := .of (same_upd h)
structure PenAt (H : Hp) (p : Addr) (n : Nat) : Prop where
  ex : ∃ (c : Addr) (ns : List Int) (at_ g : Int), H p = some (.lst [.ref c, .int at_, .int g]) ∧ c ≠ p ∧ H c = some (.lst (ns.map V.int)) ∧ ns.length ≤ 63 ∧ 0 ≤ at_ ∧ at_ ≤ (n : Int)
theorem PenAt.same {H H' : Hp} {p : Addr} {n : Nat} (P : PenAt H p n) (s : Same H H') : PenAt H' p n := by
  obtain ⟨c, ns, a, g, h1, h2, h3, h4, h5, h6⟩ := P.ex
  exact ⟨c, ns, a, g, s _ _ h1, h2, s _ _ h3, h4, h5, h6⟩
theorem PenAt.mono {H : Hp} {p : Addr} {n m : Nat} (P : PenAt H p n) (h : n ≤ m) : PenAt H p m := by
  obtain ⟨c, ns, a, g, h1, h2, h3, h4, h5, h6⟩ := P.ex
  exact ⟨c, ns, a, g, h1, h2, h3, h4, h5, by omega⟩
theorem PenAt.there {H : Hp} {p : Addr} {n : Nat} (P : PenAt H p n) : ∃ xs, H p = some (.lst xs) := by
  obtain ⟨c, ns, a, g, h1, _⟩ := P.ex
  exact ⟨_, h1⟩
theorem PenAt.ne {H : Hp} {p a : Addr} {n : Nat} (P : PenAt H p n) (h : H a = none) : a ≠ p := fun e => by
  obtain ⟨xs, h1⟩ := P.there
  rw [e, h1] at h
  cases h
theorem canLay_ints (ns : List Int) : PyData.canLayAll0 (ns.map PyData.int) = true := by
  induction ns with
  | nil => rfl
  | cons n ns ih => simp [PyData.canLayAll0, PyData.canLay0, ih]
theorem depth_ints (ns : List Int) : PyData.depthAll (ns.map PyData.int) ≤ 1 := by
  induction ns with
  | nil => simp [PyData.depthAll]
  | cons n ns ih =>
    simp [PyData.depthAll, PyData.depth]
    omega
theorem shaped_ints (ns : List Int) : SeqAt.shaped (.list (ns.map PyData.int)) = true := by
  unfold SeqAt.shaped
  have := depth_ints ns
  simp [PyData.canLay0, PyData.depth, canLay_ints]
  omega
theorem dpAll_ints {K : PySem.W.Frag} {H : Hp} : ∀ ns : List Int, DpAll K H (ns.map V.int) (ns.map PyData.int)
  | [] => .nil
  | n :: ns => .cons (.int n) (dpAll_ints ns)
theorem eqv_empty (ns : List Int) : PyData.eqv (.list (ns.map PyData.int)) (.list []) = ns.isEmpty := by
  cases ns <;> simp [PyData.eqv, PyData.eqvAll]
theorem nat_lt {z : Int} (h1 : -18446744073709551616 < z) (h2 : z < 18446744073709551616) : z.natAbs < 2 ^ 64 := by
  have : (2 : Nat) ^ 64 = 18446744073709551616 := by decide
  omega
theorem mix1 {z a : Int} (h5 : 0 ≤ a) (h6 : a ≤ 100000) : (z % 2147483563 + 50833 * a + 907).natAbs < 2 ^ 64 := by
  refine nat_lt ?_ ?_ <;> omega
theorem mix2 {y : Int} (z : Int) : CMul (z % 2147483629) y := by
  refine .inl ⟨?_, ?_⟩
  · have : (2 : Int) ^ 64 = 18446744073709551616 := by decide
    omega
  · have : (2 : Int) ^ 64 = 18446744073709551616 := by decide
    omega
theorem mix3 {y a : Int} (h5 : 0 ≤ a) (h6 : a ≤ 100000) : CMul (47207 * a) y := by
  refine .inl ⟨?_, ?_⟩
  · have : (2 : Int) ^ 64 = 18446744073709551616 := by decide
    omega
  · have : (2 : Int) ^ 64 = 18446744073709551616 := by decide
    omega
theorem mix4 {a : Int} (h5 : 0 ≤ a) (h6 : a ≤ 100000) (z : Int) : (z % 2147483629 * (2 * a + 611) + 47207 * a * a + 239).natAbs < 2 ^ 64 := by
  have e1 : 0 ≤ z % 2147483629 ∧ z % 2147483629 < 2147483629 := by omega
  generalize z % 2147483629 = y at e1
  have e2 : 0 ≤ y * (2 * a + 611) := Int.mul_nonneg e1.1 (by omega)
  have e3 : y * (2 * a + 611) ≤ 2147483629 * (2 * a + 611) := Int.mul_le_mul_of_nonneg_right (by omega) (by omega)
  have e4 : 0 ≤ 47207 * a * a := Int.mul_nonneg (by omega) h5
  have e5 : 47207 * a * a ≤ 4720700000 * a := Int.mul_le_mul_of_nonneg_right (by omega) h5
  refine nat_lt ?_ ?_ <;> omega
section
variable {P : Program} {w : World} {K : PySem.W.Frag} {mg : Str → Option Value} {base : Heap} {fD : Addr} {fdD : FuncData}
/-! ### the pen -/
def spPen (K : PySem.W.Frag) : Sp := fun vs H Q _ => ∃ (a : Addr) (ns : List Int), vs = [.ref a] ∧ SqL K H a (ns.map V.int) ∧ ns.length ≤ 63 ∧ ∀ p H', Same H H' → H p = none → PenAt H' p 0 → Q (.ref p) H'
theorem scPen : FnScope ["_law_script"] ["_law_script"] (defScope sPen) := ⟨rfl, rfl, rfl, by decide +kernel, rfl, by decide +kernel, by decide +kernel⟩
theorem ok_pen {f : Addr} {fd : FuncData} (F : Fun K "_law_pen" "_law_pen" sPen f fd) (B : Blt mg) : FnOk P w K mg base CX0 1 f fd ["_law_script"] (spPen K) := by
  refine F.ok scPen (fun vs H Q E h => ?_) (fun cdv A outer s H vs Q E hr h => ?_)
  · obtain ⟨a, ns, rfl, _⟩ := h
    rfl
  · obtain ⟨a, ns, rfl, hS, hl, k⟩ := h
    refine ⟨_, pss_one (ps_ret (pe_lst (pa_cons (pe_callTy call_list_of (by rfl) B.list PyProof.Rows.boot_list (pa_cons (pe_slice sl_list (pv 0) po_none (po_some pe_int)) pa_nil)) (pa_cons pe_int (pa_cons pe_int pa_nil))))), ?_⟩
    refine ⟨_, rfl, 63, rfl, a, _, rfl, hS, fun p1 h1 => ?_⟩
    have e1 : cutV (ns.map V.int) none (some 63) = ns.map V.int := by
      unfold cutV
      rw [HT.sIx_none, show HT.sIx (ns.map V.int).length (ns.map V.int).length (some 63) = min 63 (ns.map V.int).length from HT.sIx_nat _ _ 63, List.drop_zero, List.take_of_length_le]
      rw [List.length_map]
      omega
    rw [e1]
    refine ⟨p1, _, rfl, .inl (SqL.of upd_same), fun c h2 => ⟨(show 3 ≤ sizeLine by decide), fun p h3 => ?_⟩⟩
    have s1 : Same H (upd H p1 (.lst (ns.map V.int))) := same_upd h1
    have s2 := same_upd (o := .lst (ns.map V.int)) h2
    have s3 := same_upd (o := .lst [.ref c, .int 0, .int 0]) h3
    refine k p _ ((s1.trans s2).trans s3) ((s1.trans s2).free h3) ⟨c, ns, 0, 0, upd_same, ?_, ?_, hl, by decide, by decide⟩
    · exact ne_of_none upd_same h3
    · rw [upd_ne (ne_of_none upd_same h3)]
      exact upd_same
/-! ### a draw -/
def spDraw : Sp := fun vs H Q _ => ∃ (p : Addr) (m : Int) (n : Nat), vs = [.ref p, .int m] ∧ 0 < m ∧ m < 1073741824 ∧ PenAt H p n ∧ n ≤ 100000 ∧ ∀ d H', 0 ≤ d → d < m → Ext p H H' → PenAt H' p (n + 1) → Q (.int d) H'
theorem scDraw : FnScope ["_law_pen_here", "_law_many", "_law_digit", "_law_at", "_law_cell", "_law_great", "_law_mixed"] ["_law_pen_here", "_law_many"] (defScope sDraw) := ⟨rfl, rfl, rfl, by decide +kernel, rfl, by decide +kernel, by decide +kernel⟩
theorem ok_draw {f : Addr} {fd : FuncData} (F : Fun K "_law_draw" "_law_draw" sDraw f fd) (B : Blt mg) : FnOk P w K mg base CX0 1 f fd ["_law_pen_here", "_law_many"] spDraw := by
  refine F.ok scDraw (fun vs H Q E h => ?_) (fun cdv A outer s H vs Q E hr h => ?_)
  · obtain ⟨p, m, n, rfl, _⟩ := h
    rfl
  · obtain ⟨p, m, n, rfl, hm, hm2, PN, hn, k⟩ := h
    refine ⟨_, (pss_cons (ps_if (pt_cmpR op_gt (pe_ix ix_list (pv 0) pe_int (fun _ _ => rfl)) pe_int (nomark _)) (pss_cons (ps_set (i := 2) scDraw.nd rfl (Or.inl rfl) (pe_op op_mod (pe_callTy call_int1 (by rfl) B.int (by decide +kernel) (pa_cons (pe_ix ix_list (pv 0) pe_int (fun _ _ => rfl)) pa_nil)) (pv 1)))
      (pss_cons (ps_asg (pe_op op_fdiv (pe_callTy call_int1 (by rfl) B.int (by decide +kernel) (pa_cons (pe_ix ix_list (pv 0) pe_int (fun _ _ => rfl)) pa_nil)) (pv 1)) (pg_sub (pv 0) pe_int set_list))
      (pss_one (ps_ret (pv 2))))) pss_nil)
      (pss_cons (ps_set (i := 3) scDraw.nd rfl (Or.inl rfl) (pe_ix ix_list (pv 0) pe_int (fun _ _ => rfl)))
      (pss_cons (ps_asg (pe_op op_add (pv 3) pe_int) (pg_sub (pv 0) pe_int set_list))
      (pss_cons (ps_set (i := 4) scDraw.nd rfl (Or.inl rfl) (pe_op op_add (pe_op op_mul pe_int (pv 3)) pe_int))
      (pss_cons (ps_if (pt_cmpR (op_neD hr.units) (pe_ix ix_list (pv 0) pe_int (fun _ _ => rfl)) (pe_lst pa_nil) (nomark _)) (pss_one (ps_set (i := 4) scDraw.nd rfl (Or.inl rfl) (pe_ix ix_list (pe_ix ix_list (pv 0) pe_int (fun _ _ => rfl)) (pe_op op_mod (pe_callTy call_int1 (by rfl) B.int (by decide +kernel) (pa_cons (pv 3) pa_nil)) (pe_callB call_len_seq (by rfl) B.len PySem.boot_len (pa_cons (pe_ix ix_list (pv 0) pe_int (fun _ _ => rfl)) pa_nil))) (fun _ _ => rfl)))) pss_nil)
      (pss_cons (ps_if (PW.pt (pw_and (pt_cmpR op_lt (pv 3) (pe_callB call_len_seq (by rfl) B.len PySem.boot_len (pa_cons (pe_ix ix_list (pv 0) pe_int (fun _ _ => rfl)) pa_nil)) (nomark _)) (pw_and1 (pt_cmpR op_ge (pe_callB call_abs (by rfl) B.abs (by decide +kernel) (pa_cons (pv 4) pa_nil)) (pe_op op_pow pe_int pe_int) (nomark _))))) (pss_cons (ps_set (i := 5) scDraw.nd rfl (Or.inl rfl) (pe_op op_add (pe_op op_mul pe_int (pe_op op_sub (pe_callB call_abs (by rfl) B.abs (by decide +kernel) (pa_cons (pv 4) pa_nil)) (pe_op op_pow pe_int pe_int))) (pe_callTy call_int1 (by rfl) B.int (by decide +kernel) (pa_cons (pe_cmpR op_lt (pv 4) pe_int (nomark _)) pa_nil))))
      (pss_cons (ps_asg (pe_op op_fdiv (pe_callTy call_int1 (by rfl) B.int (by decide +kernel) (pa_cons (pv 5) pa_nil)) (pv 1)) (pg_sub (pv 0) pe_int set_list))
      (pss_one (ps_ret (pe_op op_mod (pe_callTy call_int1 (by rfl) B.int (by decide +kernel) (pa_cons (pv 5) pa_nil)) (pv 1)))))) pss_nil)
      (pss_cons (ps_set (i := 6) scDraw.nd rfl (Or.inl rfl) (pe_op op_mod (pe_callTy call_int1 (by rfl) B.int (by decide +kernel) (pa_cons (pe_op op_pow (pe_op op_add (pe_op op_add (pe_op op_mod (pe_callTy call_int1 (by rfl) B.int (by decide +kernel) (pa_cons (pv 4) pa_nil)) pe_int) (pe_op op_mul pe_int (pv 3))) pe_int) pe_int) pa_nil)) pe_int))
      (pss_cons (ps_set (i := 6) scDraw.nd rfl (Or.inl rfl) (pe_op op_mod (pe_callTy call_int1 (by rfl) B.int (by decide +kernel) (pa_cons (pe_op op_pow (pe_op op_add (pe_op op_add (pe_op op_mul (pv 6) (pe_op op_add (pe_op op_mul pe_int (pv 3)) pe_int)) (pe_op op_mul (pe_op op_mul pe_int (pv 3)) (pv 3))) pe_int) pe_int) pa_nil)) pe_int))
      (pss_one (ps_ret (pe_op op_mod (pe_callTy call_int1 (by rfl) B.int (by decide +kernel) (pa_cons (pe_op op_fdiv (pv 6) pe_int) pa_nil)) (pv 1)))))))))))), ?_⟩
    obtain ⟨c, ns, at_, g, h1, h2, h3, h4, h5, h6⟩ := PN.ex
    have i0 : ∀ a g, atI [V.ref c, .int a, .int g] 0 = some (.ref c) := fun _ _ => rfl
    have i1 : ∀ a g, atI [V.ref c, .int a, .int g] 1 = some (.int a) := fun _ _ => rfl
    have i2 : ∀ a g, atI [V.ref c, .int a, .int g] 2 = some (.int g) := fun _ _ => rfl
    refine ⟨_, rfl, p, _, _, _, rfl, rfl, SqL.of h1, i2 _ _, _, _, rfl, rfl, _, rfl, ifd (fun hg => ?_) (fun hg => ?_)⟩
    · refine ⟨_, rfl, p, _, _, _, rfl, rfl, SqL.of h1, i2 _ _, .inl ⟨_, rfl, _, rfl, _, _, rfl, rfl, hm, ?_⟩⟩
      refine ⟨_, rfl, p, _, _, _, rfl, rfl, SqL.of h1, i2 _ _, .inl ⟨_, rfl, _, rfl, _, _, rfl, rfl, ⟨hm, hm2⟩, ?_⟩⟩
      refine ⟨_, rfl, p, _, _, 2, rfl, rfl, h1, rfl, ?_⟩
      refine ⟨_, rfl, ?_⟩
      refine k _ _ (Int.emod_nonneg _ (by omega)) (Int.emod_lt_of_pos _ hm) (Ext.updp h1) ⟨c, ns, at_, _, upd_same, h2, ?_, h4, h5, by omega⟩
      rw [upd_ne h2]
      exact h3
    · have hat : at_ ≤ 100000 := by omega
      refine ⟨_, rfl, p, _, _, _, rfl, rfl, SqL.of h1, i1 _ _, ?_⟩
      refine ⟨_, rfl, _, _, rfl, rfl, _, rfl, p, _, _, 1, rfl, rfl, h1, rfl, ?_⟩
      have e1 : ([V.ref c, .int at_, .int g] : List V).set 1 (.int (at_ + 1)) = [V.ref c, .int (at_ + 1), .int g] := rfl
      rw [e1]
      generalize hH1 : upd H p (.lst [V.ref c, .int (at_ + 1), .int g]) = H1
      have p1 : H1 p = some (.lst [V.ref c, .int (at_ + 1), .int g]) := by rw [← hH1]; exact upd_same
      have c1 : H1 c = some (.lst (ns.map V.int)) := by rw [← hH1, upd_ne h2]; exact h3
      have x1 : Ext p H H1 := by rw [← hH1]; exact Ext.updp h1
      refine ⟨_, rfl, _, _, rfl, rfl, .inl ⟨by decide, by decide⟩, _, _, rfl, rfl, ?_⟩
      refine ⟨_, rfl, p, _, _, _, rfl, rfl, SqL.of p1, i0 _ _, (show 0 ≤ sizeLine by decide), fun q hq => ?_⟩
      have s2 : Same H1 (upd H1 q (.lst [])) := same_upd hq
      have d1 : Dp K (upd H1 q (.lst [])) (.ref c) (.list (ns.map PyData.int)) := .lst (SqL.of (s2 _ _ c1)) (dpAll_ints ns)
      have d2 : Dp K (upd H1 q (.lst [])) (.ref q) (.list []) := .lst (SqL.of upd_same) .nil
      refine ⟨_, _, d1, d2, shaped_ints ns, rfl, _, rfl, ?_⟩
      rw [eqv_empty]
      generalize hH2 : upd H1 q (.lst []) = H2 at s2
      have p2 := s2 _ _ p1
      have c2 := s2 _ _ c1
      have x2 : Ext p H H2 := x1.trans (.of s2)
      refine ifnb (fun he => ?g1) (fun he => ?g2)
      case' g1 =>
        have hz : True := trivial
      case' g2 =>
        have hl : 0 < (ns.length : Int) := by
          cases ns with
          | nil => cases he
          | cons a r => rw [List.length_cons]; omega
        obtain ⟨k0, hk0, ek⟩ : ∃ k0 : Nat, k0 < ns.length ∧ at_ % (ns.length : Int) = (k0 : Int) := by
          have a1 := Int.emod_nonneg at_ (show (ns.length : Int) ≠ 0 by omega)
          have a2 := Int.emod_lt_of_pos at_ hl
          exact ⟨(at_ % (ns.length : Int)).toNat, by omega, by omega⟩
        have hix : atI (ns.map V.int) (at_ % (ns.length : Int)) = some (.int ns[k0]) := by
          rw [ek]
          refine atI_nat ?_
          simp [hk0]
        refine ⟨_, rfl, p, _, _, _, rfl, rfl, SqL.of p2, i0 _ _, _, rfl, .inl ⟨_, rfl, _, rfl, p, _, _, _, rfl, rfl, SqL.of p2, i0 _ _, c, _, rfl, .inl (SqL.of c2), _, _, rfl, rfl, (by rw [List.length_map]; exact hl), c, _, _, _, rfl, rfl, SqL.of c2, (by rw [List.length_map]; exact hix), ?_⟩⟩
      all_goals
        have last : ∀ d o, 0 ≤ d → d < m → (∃ g', o = HO.lst [V.ref c, .int (at_ + 1), .int g']) → Q (.int d) (upd H2 p o) := fun d o hd1 hd2 ⟨g', e⟩ => by
          subst e
          refine k d _ hd1 hd2 (x2.trans (Ext.updp p2)) ⟨c, ns, at_ + 1, g', upd_same, h2, ?_, h4, by omega, by omega⟩
          rw [upd_ne h2]
          exact c2
        have last0 : ∀ d, 0 ≤ d → d < m → Q (.int d) H2 := fun d hd1 hd2 => k d _ hd1 hd2 x2 ⟨c, ns, at_ + 1, g, p2, h2, c2, h4, by omega, by omega⟩
        refine ⟨_, rfl, _, rfl, p, _, _, _, rfl, rfl, SqL.of p2, i0 _ _, c, _, rfl, .inl (SqL.of c2), _, _, rfl, rfl, _, rfl, ifd (fun a1 => ?_) (fun a1 => ?_)⟩
        refine ⟨_, rfl, _, rfl, _, _, rfl, rfl, ⟨by decide, by decide, by decide⟩, _, _, rfl, rfl, _, rfl, ifd (fun a2 => ?_) (fun a2 => ?_)⟩
        · refine ⟨_, rfl, _, rfl, _, _, rfl, rfl, ⟨by decide, by decide, by decide⟩, _, _, rfl, rfl, _, _, rfl, rfl, .inl ⟨by decide, by decide⟩, _, rfl, _, _, rfl, rfl, .inr ⟨_, rfl, _, _, rfl, rfl, ?_⟩⟩
          refine ⟨_, rfl, .inl ⟨_, rfl, _, rfl, _, _, rfl, rfl, ⟨hm, hm2⟩, _, rfl, p, _, _, 2, rfl, rfl, p2, rfl, ?_⟩⟩
          refine ⟨_, rfl, .inl ⟨_, rfl, _, rfl, _, _, rfl, rfl, hm, ?_⟩⟩
          exact last _ _ (Int.emod_nonneg _ (by omega)) (Int.emod_lt_of_pos _ hm) ⟨_, rfl⟩
        all_goals
          refine ⟨_, rfl, .inl ⟨_, rfl, _, _, rfl, rfl, (show (0 : Int) < 2147483563 by decide), _, rfl, _, _, rfl, rfl, .inl ⟨by decide, by decide⟩, _, _, rfl, rfl, _, _, rfl, rfl, _, _, rfl, rfl, ⟨by decide, by decide, ?_⟩, .inl ⟨_, rfl, _, _, rfl, rfl, (show (0 : Int) < 2147483629 by decide), ?_⟩⟩⟩
          · exact mix1 h5 hat
          · refine ⟨_, rfl, _, rfl, _, _, rfl, rfl, .inl ⟨by decide, by decide⟩, _, _, rfl, rfl, _, _, rfl, rfl, mix2 _, _, rfl, _, _, rfl, rfl, .inl ⟨by decide, by decide⟩, _, rfl, _, _, rfl, rfl, mix3 h5 hat, _, _, rfl, rfl, _, _, rfl, rfl, _, _, rfl, rfl, ⟨by decide, by decide, mix4 h5 hat _⟩, .inl ⟨_, rfl, _, _, rfl, rfl, (show (0 : Int) < 2147483587 by decide), ?_⟩⟩
            refine ⟨_, rfl, _, _, rfl, rfl, ⟨by decide, by decide⟩, .inl ⟨_, rfl, _, rfl, _, _, rfl, rfl, hm, ?_⟩⟩
            exact last0 _ (Int.emod_nonneg _ (by omega)) (Int.emod_lt_of_pos _ hm)
end
end K08
set_option Elab.async false
set_option linter.all false
set_option maxRecDepth 100000
set_option maxHeartbeats 2000000
namespace K08
open PySem PySem.Spec PyProof.Rows L2 My TL NumText
/-! ### int(text) with a plus -/
theorem intText_plus {x : Str} {cs : List Nat} (hx : x.cps.toList = 43 :: cs) (h : AllDigits cs) (h1 : cs ≠ []) (h2 : cs.length ≤ 4000) : PySem.intText? x = some ((digitsVal cs : Nat) : Int) := by
  have hs : ∀ c ∈ x.cps.toList, c = 43 ∨ (48 ≤ c ∧ c ≤ 57) := by
    rw [hx]
    intro c hc
    rcases List.mem_cons.mp hc with e | hc
    · exact .inl e
    · exact .inr (h c hc)
  have e1 : numTextOf x = x.cps.toList := by
    refine if_pos ?_
    rw [← Array.all_toList, List.all_eq_true]
    intro c hc
    rcases hs c hc with e | e
    · exact decide_eq_true (by omega)
    · exact decide_eq_true (by omega)
  have e2 : numSeenOf x = x.cps.toList := by
    show (numTextOf x).takeWhile _ = _
    rw [e1]
    refine takeWhile_all fun c hc => ?_
    have := hs c hc
    exact bne_iff_ne.mpr (by omega)
  have e3 : PySem.intText? x = match digits? 10 (core x.cps.toList) with
      | some ds => if ds.size ≤ 4300 then some (worth (sign (x.cps.toList.dropWhile blank)).1 ds) else none
      | none => none := by
    unfold PySem.intText?
    rw [e1, e2]
    exact if_pos (beq_self_eq_true _)
  have es : sign ((43 :: cs).dropWhile blank) = (false, cs) := by rw [dropWhile_of (by decide)]; rfl
  have ec : core (43 :: cs) = cs := by
    unfold core
    rw [es]
    show (cs.reverse.dropWhile blank).reverse = cs
    rw [dropWhile_digits h.reverse, List.reverse_reverse]
  rw [e3, hx, ec, es, digits_of h h1]
  have z1 := push_size cs #[]
  have z2 := push_foldl cs #[]
  show (if _ ≤ 4300 then some (worth false _) else none) = _
  rw [if_pos (by rw [z1]; simp only [Array.size_empty]; omega)]
  unfold worth digitsVal
  rw [z2]
  rfl
/-! ### the law's own reader, as behindL tells -/
theorem behind_told {r : Str} {fig : List Nat} {c : Nat} (hr : tl r = c :: fig) (hc : c = 43 ∨ c = 45) (hne : fig ≠ []) (h48 : fig.head? ≠ some 48) (hl : fig.length ≤ 60) (hd : AllDigits fig) :
    ∃ n, behindL (tl r) = some n ∧ PySem.intText? r = some n := by
  have hm : ¬ pre [45] fig = true := fun e => by
    have := (pre1 _ _).mp e
    cases fig with
    | nil => cases this
    | cons a q =>
      cases this
      have := hd 45 (List.mem_cons_self ..)
      omega
  have es : stripL fig = fig := if_neg hm
  have hw : wholeL fig = some ((digitsVal fig : Nat) : Int) := by
    unfold wholeL
    rw [es, if_neg (Classical.not_not.mpr ⟨List.length_pos_iff.mpr hne, hl⟩), if_neg (Classical.not_not.mpr (allD_iff.mpr hd)), if_neg (fun e => h48 ((pre1 _ _).mp e.1)), if_neg hm]
  have hp := dv_pos hd hne h48
  unfold behindL
  rw [hr, if_neg (by simp), List.drop_succ_cons, List.drop_zero, hw]
  dsimp only
  rw [if_neg (by omega)]
  rcases hc with rfl | rfl
  · rw [if_pos ((pre1 _ _).mpr rfl)]
    exact ⟨_, rfl, intText_plus hr hd hne (by omega)⟩
  · rw [if_neg (fun e => by have := (pre1 _ _).mp e; cases this), if_pos ((pre1 _ _).mpr rfl)]
    refine ⟨_, rfl, intText_neg hr hd hne ?_⟩
    rw [len_tl, hr, List.length_cons]
    omega
theorem behind_none {r : List Nat} (hne : r ≠ []) (h : (r.head? ≠ some 43 ∧ r.head? ≠ some 45) ∨ (r.drop 1) = [] ∨ (r.drop 1).head? = some 48 ∨ 60 < (r.drop 1).length ∨ ¬ AllDigits (r.drop 1)) : behindL r = none := by
  cases hb : behindL r with
  | none => rfl
  | some n =>
    exfalso
    have e := behind_back hb
    by_cases h0 : n = 0
    · rw [e, h0] at hne
      exact hne rfl
    · have et : tailL n = (if 0 < n then 43 else 45) :: numL n.natAbs := if_neg h0
      have ed : r.drop 1 = numL n.natAbs := by rw [e, et]; rfl
      have hp : 0 < n.natAbs := by omega
      rcases h with ⟨a1, a2⟩ | h | h | h | h
      · rw [e, et] at a1 a2
        by_cases hs : 0 < n
        · rw [if_pos hs] at a1
          exact a1 rfl
        · rw [if_neg hs] at a2
          exact a2 rfl
      · exact numL_ne _ (ed.symm.trans h)
      · rw [ed] at h
        exact numL_head hp h
      · -- too many figures: whole_number refuses
        unfold behindL at hb
        rw [if_neg hne] at hb
        have hw : wholeL (r.drop 1) = none := by
          have hm : ¬ pre [45] (r.drop 1) = true := fun e => by
            have := (pre1 _ _).mp e
            rw [ed] at this
            cases e2 : numL n.natAbs with
            | nil => exact numL_ne _ e2
            | cons a q =>
              rw [e2] at this
              cases this
              have := numL_digits n.natAbs 45 (by rw [e2]; exact List.mem_cons_self ..)
              omega
          unfold wholeL
          rw [show stripL (r.drop 1) = r.drop 1 from if_neg hm]
          exact if_pos (fun a => by omega)
        rw [hw] at hb
        cases hb
      · rw [ed] at h
        exact h (numL_digits _)
end K08
set_option Elab.async false
set_option linter.all false
set_option maxRecDepth 100000
set_option maxHeartbeats 2000000
namespace K08
open PySem PySem.Spec PyProof.Rows L2 My TL NumText
section
variable {P : Program} {w : World} {K : PySem.W.Frag} {mg : Str → Option Value} {base : Heap} {SU nA fD fG : Addr} {fdD fdG : FuncData}
/-! ### pick, number -/
def spPick : Sp := fun vs H Q _ => ∃ (p l : Addr) (xs : List V) (n : Nat), vs = [.ref p, .ref l] ∧ l ≠ p ∧ H l = some (.lst xs) ∧ 0 < xs.length ∧ xs.length < 1000 ∧ PenAt H p n ∧ n ≤ 100000 ∧
  ∀ (i : Nat) x H', xs[i]? = some x → Ext p H H' → PenAt H' p (n + 1) → Q x H'
theorem scPick : FnScope ["_law_pen_here", "_law_some"] ["_law_pen_here", "_law_some"] (defScope sPick) := ⟨rfl, rfl, rfl, by decide +kernel, rfl, by decide +kernel, by decide +kernel⟩
theorem ok_pick {f : Addr} {fd : FuncData} (F : Fun K "_law_pick" "_law_pick" sPick f fd) (B : Blt mg) (D : FnT P w K mg base CX0 1 "_law_draw" fD fdD ["_law_pen_here", "_law_many"] spDraw) : FnOk P w K mg base CX0 2 f fd ["_law_pen_here", "_law_some"] spPick := by
  refine F.ok scPick (fun vs H Q E h => ?_) (fun cdv A outer s H vs Q E hr h => ?_)
  · obtain ⟨p, l, xs, n, rfl, _⟩ := h
    rfl
  · obtain ⟨p, l, xs, n, rfl, hne, hl, h0, h1, PN, hn, k⟩ := h
    refine ⟨_, (pss_one (ps_ret (pe_ix ix_list (pv 1) (pe_call D.ok (hr.mono (by decide)) (by rfl) D.g D.kp D.bn .nil pass0 (pa_cons (pv 0) (pa_cons (pe_callB call_len_seq (by rfl) B.len PySem.boot_len (pa_cons (pv 1) pa_nil)) pa_nil))) (fun _ _ => rfl)))), ?_⟩
    refine ⟨_, rfl, _, rfl, _, rfl, l, _, rfl, .inl (SqL.of hl), p, _, n, rfl, by omega, by omega, PN, hn, fun d H' d0 d1 e pn => ?_⟩
    obtain ⟨i, rfl⟩ : ∃ i : Nat, d = (i : Int) := ⟨d.toNat, by omega⟩
    have hi : i < xs.length := by omega
    have hx : xs[i]? = some xs[i] := by simp [hi]
    exact ⟨l, xs, _, xs[i], rfl, rfl, SqL.of (e _ _ hl hne), atI_nat hx, k i _ H' hx e pn⟩
def big (v : Int) : Prop := -10 ^ 41 ≤ v ∧ v ≤ 10 ^ 41
def spNumber : Sp := fun vs H Q _ => ∃ (p : Addr) (n : Nat), vs = [.ref p] ∧ PenAt H p n ∧ n ≤ 99990 ∧ ∀ v H', big v → Ext p H H' → PenAt H' p (n + 3) → Q (.int v) H'
theorem scNumber : FnScope ["_law_pen_here", "_law_way", "_law_far"] ["_law_pen_here"] (defScope sNumber) := ⟨rfl, rfl, rfl, by decide +kernel, rfl, by decide +kernel, by decide +kernel⟩
theorem ok_number {f : Addr} {fd : FuncData} (F : Fun K "_law_number" "_law_number" sNumber f fd) (D : FnT P w K mg base CX0 1 "_law_draw" fD fdD ["_law_pen_here", "_law_many"] spDraw) : FnOk P w K mg base CX0 2 f fd ["_law_pen_here"] spNumber := by
  refine F.ok scNumber (fun vs H Q E h => ?_) (fun cdv A outer s H vs Q E hr h => ?_)
  · obtain ⟨p, n, rfl, _⟩ := h
    rfl
  · obtain ⟨p, n, rfl, PN, hn, k⟩ := h
    refine ⟨_, (pss_cons (ps_set (i := 1) scNumber.nd rfl (Or.inl rfl) (pe_call D.ok (hr.mono (by decide)) (by rfl) D.g D.kp D.bn .nil pass0 (pa_cons (pv 0) (pa_cons pe_int pa_nil))))
      (pss_cons (ps_if (pt_cmpR op_lt (pv 1) pe_int (nomark _)) (pss_one (ps_ret (pe_op op_sub (pe_call D.ok (hr.mono (by decide)) (by rfl) D.g D.kp D.bn .nil pass0 (pa_cons (pv 0) (pa_cons pe_int pa_nil))) pe_int))) pss_nil)
      (pss_cons (ps_if (pt_cmpR op_eq (pv 1) pe_int (nomark _)) (pss_one (ps_ret pe_int)) pss_nil)
      (pss_cons (ps_if (pt_cmpR op_eq (pv 1) pe_int (nomark _)) (pss_one (ps_ret (pe_op op_sub (pe_call D.ok (hr.mono (by decide)) (by rfl) D.g D.kp D.bn .nil pass0 (pa_cons (pv 0) (pa_cons pe_int pa_nil))) pe_int))) pss_nil)
      (pss_cons (ps_set (i := 2) scNumber.nd rfl (Or.inl rfl) (pe_op op_add (pe_ifExp (pt_cmpR op_eq (pv 1) pe_int (nomark _)) (pe_op op_pow pe_int pe_int) (pe_op op_pow pe_int pe_int)) (pe_call D.ok (hr.mono (by decide)) (by rfl) D.g D.kp D.bn .nil pass0 (pa_cons (pv 0) (pa_cons pe_int pa_nil)))))
      (pss_one (ps_ret (pe_ifExp (pt_cmpR op_eq (pe_call D.ok (hr.mono (by decide)) (by rfl) D.g D.kp D.bn .nil pass0 (pa_cons (pv 0) (pa_cons pe_int pa_nil))) pe_int (nomark _)) (pv 2) (pe_un un_neg (pv 2)))))))))), ?_⟩
    have t41 : (10 : Int) ^ 41 = 100000000000000000000000000000000000000000 := by decide
    refine ⟨_, rfl, p, 8, n, rfl, by decide, by decide, PN, by omega, fun d H1 d0 d1 e1 p1 => ?_⟩
    refine ⟨_, rfl, _, _, rfl, rfl, _, rfl, ifd (fun a1 => ?_) (fun a1 => ?_)⟩
    · refine ⟨_, rfl, p, 41, n + 1, rfl, by decide, by decide, p1, by omega, fun v H2 v0 v1 e2 p2 => ?_⟩
      exact ⟨_, _, rfl, rfl, k _ _ ⟨by omega, by omega⟩ (e1.trans e2) (p2.mono (by omega))⟩
    · refine ⟨_, rfl, rfl, _, rfl, ifd (fun a2 => ?_) (fun a2 => ?_)⟩
      · exact k _ _ ⟨by omega, by omega⟩ e1 (p1.mono (by omega))
      · refine ⟨_, rfl, rfl, _, rfl, ifd (fun a3 => ?_) (fun a3 => ?_)⟩
        · refine ⟨_, rfl, p, 2000001, n + 1, rfl, by decide, by decide, p1, by omega, fun v H2 v0 v1 e2 p2 => ?_⟩
          exact ⟨_, _, rfl, rfl, k _ _ ⟨by omega, by omega⟩ (e1.trans e2) (p2.mono (by omega))⟩
        · have t12 : (10 : Int) ^ 12 = 1000000000000 := by decide
          have t40 : (10 : Int) ^ 40 = 10000000000000000000000000000000000000000 := by decide
          refine ⟨_, rfl, rfl, _, rfl, ifd (fun a4 => ?_) (fun a4 => ?_)⟩
          all_goals
            refine ⟨_, _, rfl, rfl, ⟨by decide, by decide, by decide⟩, ?_⟩
            refine ⟨_, rfl, p, 1000, n + 1, rfl, by decide, by decide, p1, by omega, fun v H2 v0 v1 e2 p2 => ?_⟩
            refine ⟨_, _, rfl, rfl, ?_⟩
            refine ⟨_, rfl, p, 2, n + 1 + 1, rfl, by decide, by decide, p2, by omega, fun u H3 u0 u1 e3 p3 => ?_⟩
            refine ⟨rfl, _, rfl, ifd (fun a5 => ?_) (fun a5 => ?_)⟩
            · exact ⟨_, rfl, k _ _ ⟨by first | (show _ ≤ (10 : Int) ^ 12 + v; omega) | (show _ ≤ (10 : Int) ^ 40 + v; omega), by first | (show (10 : Int) ^ 12 + v ≤ _; omega) | (show (10 : Int) ^ 40 + v ≤ _; omega)⟩ ((e1.trans e2).trans e3) (p3.mono (by omega))⟩
            · exact ⟨_, rfl, _, rfl, k _ _ ⟨by first | (show _ ≤ -((10 : Int) ^ 12 + v); omega) | (show _ ≤ -((10 : Int) ^ 40 + v); omega), by first | (show -((10 : Int) ^ 12 + v) ≤ _; omega) | (show -((10 : Int) ^ 40 + v) ≤ _; omega)⟩ ((e1.trans e2).trans e3) (p3.mono (by omega))⟩
/-! ### what a Sum tells -/
def spShown2 (SU : Addr) : Sp := fun vs H Q _ => ∃ a i n, vs = [.ref a] ∧ SumAt SU H a i n ∧ ∀ t H', Same H H' → H t = none → H' t = some (.tup [.str (nm i), .int n]) → Q (.ref t) H'
theorem scShown2 : FnScope ["_law_one"] ["_law_one"] (defScope sShown2) := ⟨rfl, rfl, rfl, by decide +kernel, rfl, by decide +kernel, by decide +kernel⟩
theorem ok_shown2 {f : Addr} {fd : FuncData} (F : Fun K "_law_shown" "_law_shown" sShown2 f fd) (B : Blt mg) (T : SmT K mg SU nA) : FnOk P w K mg base CX0 1 f fd ["_law_one"] (spShown2 SU) := by
  refine F.ok scShown2 (fun vs H Q E h => ?_) (fun cdv A outer s H vs Q E hr h => ?_)
  · obtain ⟨a, i, n, rfl, _⟩ := h
    rfl
  · obtain ⟨a, i, n, rfl, S, k⟩ := h
    refine ⟨_, (pss_cons (ps_if (PW.pt (pw_or (pt_not (pt_val (pe_callB call_isi (by rfl) B.isinstance (by decide +kernel) (pa_cons (pv 0) (pa_cons (pe_gref rfl T.g) pa_nil))))) (pw_or1 (pt_not (pt_val (pe_callB call_isi (by rfl) B.isinstance (by decide +kernel) (pa_cons (pe_fld (pv 0) rfl) (pa_cons (pe_bty "str" (by rfl) B.str (by decide +kernel)) pa_nil)))))))) (pss_one (ps_ret pe_non)) pss_nil)
      (pss_cons (ps_if (PW.pt (pw_or (pt_not (pt_val (pe_callB call_isi (by rfl) B.isinstance (by decide +kernel) (pa_cons (pe_fld (pv 0) rfl) (pa_cons (pe_bty "int" (by rfl) B.int (by decide +kernel)) pa_nil))))) (pw_or1 (pt_val (pe_callB call_isi (by rfl) B.isinstance (by decide +kernel) (pa_cons (pe_fld (pv 0) rfl) (pa_cons (pe_bty "bool" (by rfl) B.bool (by decide +kernel)) pa_nil))))))) (pss_one (ps_ret pe_non)) pss_nil)
      (pss_one (ps_ret (pe_tup (pa_cons (pe_fld (pv 0) rfl) (pa_cons (pe_fld (pv 0) rfl) pa_nil))))))), ?_⟩
    obtain ⟨hi, dx, ha⟩ := id S
    refine ⟨_, rfl, _, _, _, _, true, rfl, .own SU, S.ty.tyX T.su, kit_su T.su S.ty, _, rfl, iteF ?_⟩
    refine ⟨_, rfl, a, SU, dx, _, _, rfl, ha, T.su.cl, T.nS, suF_source _ _, _, _, .type "str", _, true, rfl, .ty _, .base (.str _), kit_ty (by decide +kernel), _, rfl, iteF ?_⟩
    refine ⟨_, rfl, a, SU, dx, _, _, rfl, ha, T.su.cl, T.nN, suF_number _ _, _, _, .type "int", _, true, rfl, .ty _, .base (.int _), kit_ty (by decide +kernel), _, rfl, iteF ?_⟩
    refine ⟨_, rfl, a, SU, dx, _, _, rfl, ha, T.su.cl, T.nN, suF_number _ _, _, _, .type "int", _, false, rfl, .ty _, .base (.int _), kit_ty (by decide +kernel), _, rfl, iteF ?_⟩
    refine ⟨_, rfl, a, SU, dx, _, _, rfl, ha, T.su.cl, T.nS, suF_source _ _, _, rfl, a, SU, dx, _, _, rfl, ha, T.su.cl, T.nN, suF_number _ _, (show 2 ≤ sizeLine by decide), fun t ht => ?_⟩
    exact k t _ (same_upd ht) ht upd_same
/-! ### the law's own text -/
def textV (i : Nat) (n : Int) : Str := if n = 0 then nm i else nm i ++ (if 0 < n then ("+" : Str) else "-") ++ Str.ofString (toString ((n.natAbs : Nat) : Int))
theorem tl_text {i : Nat} (h : i < 7) (n : Int) : tl (textV i n) = NL.getD i [] ++ tailL n := by
  unfold textV tailL
  by_cases h0 : n = 0
  · rw [if_pos h0, if_pos h0, tl_nm h, List.append_nil]
  · rw [if_neg h0, if_neg h0, tl_append, tl_append, tl_num, tl_nm h, List.append_assoc]
    by_cases hs : 0 < n
    · rw [if_pos hs, if_pos hs]
      rfl
    · rw [if_neg hs, if_neg hs]
      rfl
theorem sumT_text {i : Nat} (h : i < 7) (n : Int) : sumT i n = textV i n := by
  refine ext_tl ?_
  rw [tl_text h]
  unfold sumT tailL
  by_cases h0 : n = 0
  · rw [if_pos h0, if_pos h0, tl_nm h, List.append_nil]
  · rw [if_neg h0, if_neg h0, tl_append, tl_nm h]
    congr 1
    unfold plusD numL
    by_cases hs : 0 < n
    · rw [if_neg (by omega), if_pos hs]
      rfl
    · rw [if_pos (by omega), if_neg hs]
      rfl
theorem big_log {n : Int} (h : -10 ^ 42 ≤ n ∧ n ≤ 10 ^ 42) : n.natAbs.log2 < 1900 := by
  have t : (10 : Int) ^ 42 = 1000000000000000000000000000000000000000000 := by decide
  have h2 : n.natAbs < 2 ^ 150 := by
    have : (2 : Nat) ^ 150 = 1427247692705959881058285969449495136382746624 := by decide
    omega
  by_cases hz : n.natAbs = 0
  · rw [hz]
    decide
  · exact Nat.lt_trans ((Nat.log2_lt hz).mpr h2) (by decide)
theorem big_len {n : Int} (h : -10 ^ 42 ≤ n ∧ n ≤ 10 ^ 42) : (numL n.natAbs).length ≤ 43 := by
  have t : (10 : Int) ^ 42 = 1000000000000000000000000000000000000000000 := by decide
  refine numL_len (by decide) ?_
  have : (10 : Nat) ^ 43 = 10000000000000000000000000000000000000000000 := by decide
  omega
theorem text_len {i : Nat} (h : i < 7) {n : Int} (hb : -10 ^ 42 ≤ n ∧ n ≤ 10 ^ 42) : (textV i n).length ≤ 50 := by
  have e := tl_text h n
  have l1 : (NL.getD i []).length ≤ 2 := by
    have := nm_len h
    rw [len_tl, tl_nm h] at this
    exact this
  have l2 := big_len hb
  rw [len_tl, e, List.length_append]
  unfold tailL
  by_cases h0 : n = 0
  · rw [if_pos h0, List.length_nil]
    omega
  · rw [if_neg h0, List.length_cons]
    omega
def spText : Sp := fun vs H Q _ => ∃ i n, vs = [.str (nm i), .int n] ∧ i < 7 ∧ (-10 ^ 42 ≤ n ∧ n ≤ 10 ^ 42) ∧ Q (.str (textV i n)) H
theorem scText : FnScope ["_law_source", "_law_number_here"] ["_law_source", "_law_number_here"] (defScope sText) := ⟨rfl, rfl, rfl, by decide +kernel, rfl, by decide +kernel, by decide +kernel⟩
theorem ok_text {f : Addr} {fd : FuncData} (F : Fun K "_law_text" "_law_text" sText f fd) (B : Blt mg) : FnOk P w K mg base CX0 1 f fd ["_law_source", "_law_number_here"] spText := by
  refine F.ok scText (fun vs H Q E h => ?_) (fun cdv A outer s H vs Q E hr h => ?_)
  · obtain ⟨i, n, rfl, _⟩ := h
    rfl
  · obtain ⟨i, n, rfl, hi, hb, k⟩ := h
    refine ⟨_, (pss_cons (ps_if (pt_cmpR op_eq (pv 1) pe_int (nomark _)) (pss_one (ps_ret (pv 0))) pss_nil)
      (pss_one (ps_ret (pe_op op_add_str (pe_op op_add_str (pv 0) (pe_ifExp (pt_cmpR op_gt (pv 1) pe_int (nomark _)) pe_str pe_str)) (pe_callTy call_str_int (by rfl) B.str (by decide +kernel) (pa_cons (pe_callB call_abs (by rfl) B.abs (by decide +kernel) (pa_cons (pv 1) pa_nil)) pa_nil)))))), ?_⟩
    have l0 := nm_len hi
    have lt := text_len hi hb
    have lg := big_log hb
    have ea : (if n < 0 then -n else n) = ((n.natAbs : Nat) : Int) := by split <;> omega
    refine ⟨_, rfl, rfl, _, rfl, ifd (fun h0 => ?_) (fun h0 => ?_)⟩
    · rw [show textV i n = nm i from if_pos (V.int.inj h0)] at k
      exact ⟨_, rfl, k⟩
    · have h0 : ¬ n = 0 := fun e => h0 (by rw [e])
      have et : textV i n = nm i ++ (if 0 < n then ("+" : Str) else "-") ++ Str.ofString (toString ((n.natAbs : Nat) : Int)) := if_neg h0
      rw [et] at k lt
      rw [app_len] at lt
      refine ⟨_, rfl, _, rfl, _, _, rfl, rfl, _, rfl, ifd (fun hs => ?_) (fun hs => ?_)⟩
      · rw [if_pos hs] at k lt
        refine ⟨_, _, rfl, rfl, ?_, _, rfl, _, rfl, _, rfl, ?_, _, _, rfl, rfl, ?_, ?_⟩
        · exact line_of (m := 100) (by rw [show (("+" : Str)).length = 1 by decide]; omega)
        · rw [ea, Int.natAbs_natCast]
          omega
        · rw [ea]
          exact line_of (m := 100) (by omega)
        · rw [ea]
          exact k
      · rw [if_neg hs] at k lt
        refine ⟨_, _, rfl, rfl, ?_, _, rfl, _, rfl, _, rfl, ?_, _, _, rfl, rfl, ?_, ?_⟩
        · exact line_of (m := 100) (by rw [show (("-" : Str)).length = 1 by decide]; omega)
        · rw [ea, Int.natAbs_natCast]
          omega
        · rw [ea]
          exact line_of (m := 100) (by omega)
        · rw [ea]
          exact k
end
end K08
set_option Elab.async false
set_option linter.all false
set_option maxRecDepth 100000
set_option maxHeartbeats 2000000
namespace K08
open PySem PySem.Spec PyProof.Rows L2 My TL NumText
def okT (z : Str) : Prop := ∀ c ∈ tl z, c < 1114112
theorem okT_iff {z : Str} : okT z ↔ PyData.strOk z = true := by
  show okT z ↔ z.cps.all (fun x => decide (x < 1114112)) = true
  rw [← Array.all_toList, List.all_eq_true]
  exact ⟨fun h c hc => decide_eq_true (h c hc), fun h c hc => of_decide_eq_true (h c hc)⟩
theorem canLay_sgs (ns : List Nat) (h : ∀ c ∈ ns, c < 1114112) : PyData.canLayAll0 (ns.map fun c => PyData.str ⟨#[c]⟩) = true := by
  induction ns with
  | nil => rfl
  | cons n ns ih =>
    have e : PyData.strOk ⟨#[n]⟩ = true := okT_iff.mp fun c hc => by
      obtain rfl : c = n := List.mem_singleton.mp hc
      exact h _ (List.mem_cons_self ..)
    simp [PyData.canLayAll0, PyData.canLay0, e, ih fun c hc => h c (List.mem_cons_of_mem _ hc)]
theorem depth_sgs (ns : List Nat) : PyData.depthAll (ns.map fun c => PyData.str ⟨#[c]⟩) ≤ 1 := by
  induction ns with
  | nil => simp [PyData.depthAll]
  | cons n ns ih =>
    simp [PyData.depthAll, PyData.depth]
    omega
theorem shaped_sgs (ns : List Nat) (h : ∀ c ∈ ns, c < 1114112) : SeqAt.shaped (.list (ns.map fun c => PyData.str ⟨#[c]⟩)) = true := by
  unfold SeqAt.shaped
  have := depth_sgs ns
  simp [PyData.canLay0, PyData.depth, canLay_sgs ns h]
  omega
theorem dpAll_sgs {K : PySem.W.Frag} {H : Hp} : ∀ ns : List Nat, DpAll K H (ns.map fun c => V.str ⟨#[c]⟩) (ns.map fun c => PyData.str ⟨#[c]⟩)
  | [] => .nil
  | n :: ns => .cons (.str _) (dpAll_sgs ns)
theorem eqvS_empty (ns : List Nat) : PyData.eqv (.list (ns.map fun c => PyData.str ⟨#[c]⟩)) (.list []) = ns.isEmpty := by
  cases ns <;> simp [PyData.eqv, PyData.eqvAll]
/-- a comprehension over a text with a test, both pure functions of the sign -/
theorem lc_textF {z : Str} {slot : Nat} (p : Nat → Bool) (f : Nat → V) {te : L2.TE} {tt : L2.TT} {vs : List Nat} {σ : L2.St} {H1 : Hp} {D : Addr} {Qd : Hp → Prop} (hz : z.length ≤ 1000000) (hw : ∀ x, wipe ((wipe σ vs).set slot (some x)) vs = wipe σ vs)
    (ht : ∀ (c : Nat) (Hx : Hp) (Q : Bool → Hp → Prop), Q (p c) Hx → tt ((wipe σ vs).set slot (some (.str ⟨#[c]⟩))) Hx Q)
    (he : ∀ (c : Nat) (Hx : Hp) (Q : VK), Q (f c) Hx → te ((wipe σ vs).set slot (some (.str ⟨#[c]⟩))) Hx Q) (hd : Qd (upd H1 D (.lst ((z.cps.toList.filter p).map f)))) :
    ∃ W : Nat → Nat → Hp → Prop, (∃ m, W 0 m (upd H1 D (.lst []))) ∧ ∀ i m H, W i m H →
      ((Its z).stop i H ∧ Qd H) ∨ ((Its z).go i H ∧ ∃ Nx : Hp → Prop, (∀ H', Nx H' → ∃ m', m' < m ∧ W (i + 1) m' H') ∧ ∀ x H', (Its z).yld i H x H' → gName slot x (wipe σ vs) H' fun σ2 H2 => wipe σ2 vs = wipe σ vs ∧ tt σ2 H2 fun b H3 =>
        if b = true then te σ2 H3 fun y H4 => ∃ acc, H4 D = some (.lst acc) ∧ acc.length < sizeLine ∧ Nx (upd H4 D (.lst (acc ++ [y]))) else Nx H3) := by
  refine lc_it (walk_str (z := z)) (fun i H => H = upd H1 D (.lst (((z.cps.toList.take i).filter p).map f))) rfl (fun _ _ _ _ => trivial) (fun i x H H' hi q y => ?_) fun H q => ?_
  · obtain ⟨rfl, c, hc, rfl⟩ := y
    subst q
    have hc' : z.cps.toList[i]? = some c := by rw [Array.getElem?_toList]; exact hc
    refine ⟨hw _, ht c _ _ (ifb (fun hp => ?_) (fun hp => ?_))⟩
    · refine he c _ _ ⟨_, upd_same, ?_, ?_⟩
      · rw [List.length_map]
        have l0 := len_list z
        have l1 := List.length_filter_le p (z.cps.toList.take i)
        rw [List.length_take] at l1
        exact Nat.lt_of_le_of_lt (by omega : _ ≤ 1000000) (by rw [sizeLine_eq]; decide)
      · rw [upd_upd, List.take_add_one, hc', List.filter_append, List.map_append]
        simp [hp]
    · rw [List.take_add_one, hc', List.filter_append]
      simp [hp]
  · rw [q, List.take_of_length_le (by simp)]
    exact hd
theorem tl_e : tl ("" : Str) = [] := by decide +kernel
theorem tl_0 : tl ("0" : Str) = [48] := by decide +kernel
theorem tl_p : tl ("+" : Str) = [43] := by decide +kernel
theorem tl_m : tl ("-" : Str) = [45] := by decide +kernel
theorem in2 (s a b : Str) : inV (.str s) [.str a, .str b] = (decide (s = a) || decide (s = b)) := by
  unfold inV
  simp only [List.any_cons, List.any_nil, Bool.or_false, eqV]
  congr 1
  · exact Bool.eq_iff_iff.mpr (by rw [beq_iff_eq, decide_eq_true_eq]; exact ⟨Eq.symm, Eq.symm⟩)
  · exact Bool.eq_iff_iff.mpr (by rw [beq_iff_eq, decide_eq_true_eq]; exact ⟨Eq.symm, Eq.symm⟩)
section
variable {P : Program} {w : World} {K : PySem.W.Frag} {mg : Str → Option Value} {base : Heap} {SU nA fD fG : Addr} {fdD fdG : FuncData}
def spTold : Sp := fun vs H Q _ => ∃ z, vs = [.str z] ∧ z.length ≤ 100000 ∧ okT z ∧ (∀ i n, sumL (tl z) = some (i, n) → i < 7 → ∀ t H', Same H H' → H t = none → H' t = some (.tup [.str (nm i), .int n]) → Q (.ref t) H') ∧ (sumL (tl z) = none → ∀ H', Same H H' → Q .non H')
theorem scTold : FnScope ["_law_word", "_law_name", "_law_rest", "_law_figures", "_law_sign"] ["_law_word"] (defScope sTold) := ⟨rfl, rfl, rfl, by decide +kernel, rfl, by decide +kernel, by decide +kernel⟩
theorem ok_told {f : Addr} {fd : FuncData} (F : Fun K "_law_told" "_law_told" sTold f fd) (B : Blt mg) : FnOk P w K mg base CX0 1 f fd ["_law_word"] spTold := by
  refine F.ok scTold (fun vs H Q E h => ?_) (fun cdv A outer s H vs Q E hr h => ?_)
  · obtain ⟨z, rfl, _⟩ := h
    rfl
  · obtain ⟨z, rfl, hl, hok, k, kn⟩ := h
    refine ⟨_, (pss_cons (ps_for PassesOwn.never rfl (pi_list (pe_lst (pa_cons pe_str (pa_cons pe_str (pa_cons pe_str (pa_cons pe_str (pa_cons pe_str (pa_cons pe_str (pa_cons pe_str pa_nil))))))))) (pg_name (i := 1) scTold.nd rfl (Or.inl rfl)) (pss_cons (ps_set (i := 2) scTold.nd rfl (Or.inl rfl) (pe_slice sl_str (pv 0) (po_some (pe_callB call_len_str (by rfl) B.len PySem.boot_len (pa_cons (pv 1) pa_nil))) po_none))
      (pss_cons (ps_if (PW.pt (pw_and (pt_cmpR op_eq (pe_slice sl_str (pv 0) po_none (po_some (pe_callB call_len_str (by rfl) B.len PySem.boot_len (pa_cons (pv 1) pa_nil)))) (pv 1) (nomark _)) (pw_and1 (pt_cmpR op_eq (pv 2) pe_str (nomark _))))) (pss_one (ps_ret (pe_tup (pa_cons (pv 1) (pa_cons pe_int pa_nil))))) pss_nil)
      (pss_one (ps_if (pt_cmpR op_eq (pe_slice sl_str (pv 0) po_none (po_some (pe_callB call_len_str (by rfl) B.len PySem.boot_len (pa_cons (pv 1) pa_nil)))) (pv 1) (nomark _)) (pss_cons (ps_set (i := 3) scTold.nd rfl (Or.inl rfl) (pe_slice sl_str (pv 2) (po_some pe_int) po_none))
      (pss_cons (ps_if (PW.pt (pw_or (pt_cmpR op_notIn_seq (pe_slice sl_str (pv 2) po_none (po_some pe_int)) (pe_tup (pa_cons pe_str (pa_cons pe_str pa_nil))) (by rfl)) (pw_or (pt_cmpR op_in_seq (pe_slice sl_str (pv 3) po_none (po_some pe_int)) (pe_tup (pa_cons pe_str (pa_cons pe_str pa_nil))) (by rfl)) (pw_or1 (pt_cmpR op_gt (pe_callB call_len_str (by rfl) B.len PySem.boot_len (pa_cons (pv 3) pa_nil)) pe_int (nomark _)))))) (pss_one (ps_ret pe_non)) pss_nil)
      (pss_cons (ps_if (pt_cmpR (op_neD hr.units) (pe_lc (own := [("_law_sign", 4)]) (g := gName 4) rfl scTold.nd (pi_str (pv 3)) (blkOk_by (own := [("_law_sign", 4)]) (N := ["_law_word", "_law_name", "_law_rest", "_law_figures", "_law_sign"]) (sc := defScope sTold) (by decide +kernel)) (fun _ _ _ _ _ => (pg_name (i := 4) scTold.nd rfl (Or.inl rfl))) (fun _ _ _ _ _ => pts_one (pt_cmpR op_notIn_sign (pv 4) pe_str (by rfl))) (fun _ _ _ _ _ => (pv 4))) (pe_lst pa_nil) (nomark _)) (pss_one (ps_ret pe_non)) pss_nil)
      (pss_one (ps_ret (pe_tup (pa_cons (pv 1) (pa_cons (pe_callTy call_int_str (by rfl) B.int (by decide +kernel) (pa_cons (pv 2) pa_nil)) pa_nil)))))))) pss_nil)))))
      (pss_one (ps_ret pe_non))), ?_⟩
    have hzl : z.length ≤ sizeLine := line_of hl
    refine ⟨(show 7 ≤ sizeLine by decide), fun LL hLL => ⟨LL, rfl, ⟨_, SqL.of upd_same⟩, ?_⟩⟩
    generalize hH1 : upd H LL (.lst [V.str "p", .str "z0", .str "z1", .str "z2", .str "z3", .str "o", .str "s"]) = H1
    have l1 : H1 LL = some (.lst (NS.map V.str)) := by rw [← hH1]; exact upd_same
    have s1 : Same H H1 := by rw [← hH1]; exact same_upd hLL
    refine for_it (walk_list (K := K) (a := LL) (xs := NS.map V.str)) (fun i σ H' => H' = H1 ∧ (∃ a b c d, σ = [some (.str z), a, b, c, d]) ∧ sumFrom (tl z) i (NL.drop i) = sumL (tl z)) ⟨rfl, ⟨none, none, none, none, rfl⟩, rfl⟩ (fun i σ H' _ p => by rw [p.1]; exact SqL.of l1) (fun i x σ H2 H3 hi p y => ?_) (fun σ H' p => ?_)
    · obtain ⟨rfl, ⟨va, vb, vc, vd, rfl⟩, hs⟩ := p
      obtain ⟨rfl, hx⟩ := y
      have hi : i < 7 := hi
      rw [List.getElem?_map, nm_get hi] at hx
      obtain rfl : V.str (nm i) = x := Option.some.inj hx
      rw [drop_step hi] at hs
      have l0 := nm_len hi
      have ln : (nm i).length ≤ sizeLine := line_of l0
      have lN : (NL.getD i []).length = (nm i).length := by rw [← tl_nm hi, ← len_tl]
      have ec : (V.str (cutS z none (some ((nm i).length : Int))) = V.str (nm i)) ↔ pre (NL.getD i []) (tl z) = true := by
        unfold pre
        rw [beq_iff_eq, lN, ← tl_nm hi, ← tl_cutTo]
        exact ⟨fun e => by rw [V.str.inj e], fun e => congrArg V.str (ext_tl e)⟩
      have er : tl (cutS z (some ((nm i).length : Int)) none) = (tl z).drop (NL.getD i []).length := by rw [tl_cutFrom, lN]
      generalize hrest : cutS z (some ((nm i).length : Int)) none = rest at er
      have lr : rest.length ≤ 100000 := by rw [← hrest]; exact Nat.le_trans (cutS_length z _ _) hl
      refine ⟨_, rfl, _, rfl, nm i, rfl, ln, _, rfl, z, rfl, hzl, ?_⟩
      rw [hrest]
      have e0 : (V.str rest = V.str "") ↔ tl rest = [] := ⟨fun e => by rw [V.str.inj e]; decide +kernel, fun e => congrArg V.str (ext_tl (by rw [e]; decide +kernel))⟩
      refine ⟨_, rfl, _, rfl, nm i, rfl, ln, _, rfl, z, rfl, hzl, _, rfl, rfl, _, rfl, ifd (fun a1 => ?_) (fun a1 => ?_)⟩
      · have hp := ec.mp a1
        have e1 : sumL (tl z) = (behindL (tl rest)).map fun n => (i, n) := by
          rw [← hs, er]
          exact if_pos hp
        refine ⟨_, rfl, rfl, _, rfl, ifd (fun a2 => ?_) (fun a2 => ?_)⟩
        · refine ⟨_, rfl, (show 2 ≤ sizeLine by decide), fun t ht => ?_⟩
          exact k i 0 (by rw [e1, e0.mp a2]; rfl) hi t _ (s1.trans (same_upd ht)) (s1.free ht) upd_same
        · have hne : tl rest ≠ [] := fun e => a2 (e0.mpr e)
          refine ⟨_, rfl, _, rfl, nm i, rfl, ln, _, rfl, z, rfl, hzl, _, rfl, rfl, _, rfl, ifd (fun _ => ?_) (fun h => (h a1).elim)⟩
          have ef : tl (cutS rest (some 1) none) = (tl rest).drop 1 := tl_cutFrom rest 1
          generalize hfig : cutS rest (some 1) none = fig at ef
          have lf : fig.length ≤ 100000 := by rw [← hfig]; exact Nat.le_trans (cutS_length rest _ _) lr
          refine ⟨_, rfl, _, rfl, rest, rfl, line_of lr, ?_⟩
          rw [hfig]
          have e1c : tl (cutS rest none (some 1)) = (tl rest).take 1 := tl_cutTo rest 1
          have none_of : behindL (tl rest) = none → ∀ H', Same H H' → Q .non H' := fun hb => kn (by rw [e1, hb]; rfl)
          refine ⟨_, rfl, _, rfl, rest, rfl, line_of lr, (show 2 ≤ sizeLine by decide), fun t1 ht1 => ⟨t1, _, rfl, .inr (SqT.of upd_same), rfl, rfl, _, rfl, ?_⟩⟩
          have s2 := s1.trans (same_upd (o := .tup [.str "+", .str "-"]) ht1)
          rw [in2]
          refine ifnb (fun b1 => ?_) (fun b1 => ?_)
          · have hsgn : ∃ c, tl rest = c :: tl fig ∧ (c = 43 ∨ c = 45) := by
              simp only [Bool.or_eq_true, decide_eq_true_eq] at b1
              cases hr : tl rest with
              | nil => exact absurd hr hne
              | cons c q =>
                rw [hr] at ef e1c
                refine ⟨c, by rw [ef]; rfl, ?_⟩
                rcases b1 with e | e
                · rw [e] at e1c
                  have : tl ("+" : Str) = [43] := by decide +kernel
                  rw [this] at e1c
                  exact .inl (List.cons.inj e1c).1.symm
                · rw [e] at e1c
                  have : tl ("-" : Str) = [45] := by decide +kernel
                  rw [this] at e1c
                  exact .inr (List.cons.inj e1c).1.symm
            obtain ⟨c, hr, hc⟩ := hsgn
            have e1f : tl (cutS fig none (some 1)) = (tl fig).take 1 := tl_cutTo fig 1
            refine ⟨_, rfl, _, rfl, fig, rfl, line_of lf, (show 2 ≤ sizeLine by decide), fun t2 ht2 => ⟨t2, _, rfl, .inr (SqT.of upd_same), rfl, rfl, _, rfl, ?_⟩⟩
            have s3 := s2.trans (same_upd (o := .tup [.str "", .str "0"]) ht2)
            show if inV _ _ = true then _ else _
            rw [in2]
            refine ifb (fun b2 => ?_) (fun b2 => ?_)
            · refine none_of (behind_none hne ?_) _ s3
              simp only [Bool.or_eq_true, decide_eq_true_eq] at b2
              rw [hr, List.drop_succ_cons, List.drop_zero]
              rcases b2 with e | e
              · rw [e] at e1f
                have : tl ("" : Str) = [] := by decide +kernel
                rw [this] at e1f
                cases hf : tl fig with
                | nil => exact .inr (.inl rfl)
                | cons a q => rw [hf] at e1f; cases e1f
              · rw [e] at e1f
                have : tl ("0" : Str) = [48] := by decide +kernel
                rw [this] at e1f
                cases hf : tl fig with
                | nil => rw [hf] at e1f; cases e1f
                | cons a q =>
                  rw [hf] at e1f
                  have := (List.cons.inj e1f).1
                  subst this
                  exact .inr (.inr (.inl rfl))
            · rw [Bool.or_eq_false_iff, decide_eq_false_iff_not, decide_eq_false_iff_not] at b2
              have hf0 : tl fig ≠ [] := fun e => b2.1 (ext_tl (by rw [e1f, e, tl_e]; rfl))
              have hf48 : (tl fig).head? ≠ some 48 := fun e => by
                cases hf : tl fig with
                | nil => rw [hf] at e; cases e
                | cons a q =>
                  rw [hf] at e e1f
                  cases e
                  exact b2.2 (ext_tl (by rw [e1f, List.take_succ_cons, List.take_zero, tl_0]))
              refine ⟨_, rfl, fig, rfl, line_of lf, _, _, rfl, rfl, _, rfl, ifd (fun b3 => ?_) (fun b3 => ?_)⟩
              · refine none_of (behind_none hne (.inr (.inr (.inr (.inl ?_))))) _ s3
                rw [hr, List.drop_succ_cons, List.drop_zero, ← len_tl]
                omega
              · have hl60 : (tl fig).length ≤ 60 := by rw [← len_tl]; omega
                have okf : ∀ c ∈ tl fig, c < 1114112 := fun c hc => hok c (List.mem_of_mem_drop (by rw [← er]; exact List.mem_of_mem_drop (by rw [← ef]; exact hc)))
                generalize hH2 : upd (upd H3 t1 (.tup [.str "+", .str "-"])) t2 (.tup [.str "", .str "0"]) = H2 at s3
                refine ⟨_, rfl, _, rfl, fun D hD => lc_textF (slot := 4) (fun c => !decide (c ∈ DIG.cps.toList)) (fun c => V.str ⟨#[c]⟩) (Nat.le_trans lf (by decide)) (fun _ => rfl) (fun c Hx Qx qx => ⟨_, rfl, _, _, rfl, rfl, _, rfl, qx⟩) (fun c Hx Qx qx => ⟨_, rfl, qx⟩) ?_⟩
                generalize hbad : (fig.cps.toList.filter fun c => !decide (c ∈ DIG.cps.toList)) = bad
                have hb : bad.isEmpty = true ↔ AllDigits (tl fig) := by
                  rw [← hbad, List.isEmpty_iff, List.filter_eq_nil_iff]
                  refine ⟨fun h c hc => ?_, fun h c hc => ?_⟩
                  · have := h c hc
                    rw [in_DIG] at this
                    simp only [Bool.not_eq_true, Bool.not_eq_false', Bool.and_eq_true, decide_eq_true_eq] at this
                    exact this
                  · rw [in_DIG]
                    have := h c hc
                    simp only [Bool.not_eq_true, Bool.not_eq_false', Bool.and_eq_true, decide_eq_true_eq]
                    exact this
                have okb : ∀ c ∈ bad, c < 1114112 := fun c hc => okf c (by rw [← hbad] at hc; exact (List.mem_filter.mp hc).1)
                refine ⟨(show 0 ≤ sizeLine by decide), fun q hq => ?_⟩
                have s4 : Same H2 (upd (upd H2 D (.lst (bad.map fun c => V.str ⟨#[c]⟩))) q (.lst [])) := (same_upd hD).trans (same_upd hq)
                have dl : upd (upd H2 D (.lst (bad.map fun c => V.str ⟨#[c]⟩))) q (.lst []) D = some (.lst (bad.map fun c => V.str ⟨#[c]⟩)) := by
                  rw [upd_ne (ne_of_none upd_same hq)]
                  exact upd_same
                generalize hH5 : upd (upd H2 D (.lst (bad.map fun c => V.str ⟨#[c]⟩))) q (.lst []) = H5 at s4 dl
                have ql : H5 q = some (.lst []) := by rw [← hH5]; exact upd_same
                have s5 := s3.trans s4
                refine ⟨_, _, Dp.lst (SqL.of dl) (dpAll_sgs bad), Dp.lst (SqL.of ql) .nil, shaped_sgs bad okb, rfl, _, rfl, ?_⟩
                rw [eqvS_empty]
                refine ifnb (fun b4 => ?_) (fun b4 => ?_)
                · obtain ⟨n, e, t⟩ := behind_told hr hc hf0 hf48 hl60 (hb.mp b4)
                  refine ⟨_, rfl, _, rfl, rest, n, rfl, t, ?_, (show 2 ≤ sizeLine by decide), fun t ht => ?_⟩
                  · rw [len_tl, hr, List.length_cons]
                    omega
                  · exact k i n (by rw [e1, e]; rfl) hi t _ (s5.trans (same_upd ht)) (s5.free ht) upd_same
                · refine none_of (behind_none hne (.inr (.inr (.inr (.inr ?_))))) _ s5
                  rw [hr, List.drop_succ_cons, List.drop_zero]
                  exact fun e => by rw [hb.mpr e] at b4; cases b4
          · refine none_of (behind_none hne (.inl ?_)) _ s2
            rw [Bool.or_eq_false_iff, decide_eq_false_iff_not, decide_eq_false_iff_not] at b1
            cases hr : tl rest with
            | nil => exact absurd hr hne
            | cons c q =>
              rw [hr] at e1c
              refine ⟨fun e => b1.1 (ext_tl ?_), fun e => b1.2 (ext_tl ?_)⟩
              · cases e
                rw [e1c, List.take_succ_cons, List.take_zero, tl_p]
              · cases e
                rw [e1c, List.take_succ_cons, List.take_zero, tl_m]
      · refine ⟨_, rfl, _, rfl, nm i, rfl, ln, _, rfl, z, rfl, hzl, _, rfl, rfl, _, rfl, ifd (fun h => (a1 h).elim) (fun _ => ?_)⟩
        refine ⟨rfl, ⟨_, _, _, _, rfl⟩, ?_⟩
        rw [← hs]
        exact (if_neg (fun e => a1 (ec.mpr e))).symm
    · obtain ⟨rfl, _, hs⟩ := p
      exact kn (by rw [← hs]; rfl) _ s1
end
end K08
set_option Elab.async false
set_option linter.all false
set_option maxRecDepth 100000
set_option maxHeartbeats 2000000
namespace K08
open PySem PySem.Spec PyProof.Rows L2 My TL NumText
theorem tl_mul1 {x : Str} {c : Nat} (hx : tl x = [c]) {k : Int} (h1 : 1 ≤ k) : tl (Txt.mul x k) = List.replicate k.toNat c := by
  have hl : x.length = 1 := by rw [len_tl, hx]; rfl
  have hf : ∀ (n : Nat) (a : Array Nat), (List.foldl (fun x1 x2 => x1 ++ x2) a (List.replicate n x.cps)).toList = a.toList ++ List.replicate n c := by
    intro n
    induction n with
    | zero => intro a; simp
    | succ n ih =>
      intro a
      rw [List.replicate_succ, List.foldl_cons, ih, Array.toList_append, List.replicate_succ, show x.cps.toList = [c] from hx, List.append_assoc]
      rfl
  unfold Txt.mul
  rw [if_neg (by omega)]
  by_cases h : k = 1
  · subst h
    rw [if_pos (by rfl)]
    exact hx
  · rw [if_neg (by rw [hl]; simp [h])]
    show (List.foldl (fun x1 x2 => x1 ++ x2) #[] (List.replicate k.toNat x.cps)).toList = _
    rw [hf]
    rfl
theorem mul_ok {x : Str} {c : Nat} (hx : tl x = [c]) {k : Int} (h1 : 1 ≤ k) (h2 : k ≤ 10000) : PySem.MulOk x k := by
  have hl : x.length = 1 := by rw [len_tl, hx]; rfl
  refine ⟨?_, fun _ _ => ?_, fun _ _ => ?_⟩
  · simp; omega
  · rw [hl]
    have : (1 : Int) ≤ (2 ^ 63 - 1) / k := by
      rw [Int.le_ediv_iff_mul_le (by omega)]
      omega
    omega
  · rw [hl]
    unfold Builtin.Str.tooLong
    simp
    rw [sizeLine_eq]
    omega
theorem okT_app {a b : Str} (h1 : okT a) (h2 : okT b) : okT (a ++ b) := fun c hc => by
  rw [tl_append] at hc
  exact (List.mem_append.mp hc).elim (h1 c) (h2 c)
theorem okT_cut {z : Str} (h : okT z) (a b : Option Int) : okT (cutS z a b) := fun c hc => by
  unfold cutS tl at hc
  exact h c (List.mem_of_mem_drop (List.mem_of_mem_take hc))
theorem okT_mul {x : Str} {c : Nat} (hx : tl x = [c]) (hc : c < 1114112) {k : Int} (h1 : 1 ≤ k) : okT (Txt.mul x k) := fun d hd => by
  rw [tl_mul1 hx h1] at hd
  rw [List.eq_of_mem_replicate hd]
  exact hc
theorem len_mul {x : Str} {c : Nat} (hx : tl x = [c]) {k : Int} (h1 : 1 ≤ k) : (Txt.mul x k).length = k.toNat := by
  rw [len_tl, tl_mul1 hx h1, List.length_replicate]
def Small (s : Str) : Prop := s.length ≤ 8 ∧ okT s
theorem smalls {SS : List Str} (h : (SS.all fun s => decide (s.length ≤ 8) && PyData.strOk s) = true) {i : Nat} {x : V} (e : (SS.map V.str)[i]? = some x) : ∃ s, x = .str s ∧ Small s ∧ SS[i]? = some s := by
  rw [List.getElem?_map] at e
  cases hs : SS[i]? with
  | none => rw [hs] at e; cases e
  | some s =>
    rw [hs] at e
    have := List.all_eq_true.mp h s (List.mem_of_getElem? hs)
    rw [Bool.and_eq_true, decide_eq_true_eq] at this
    exact ⟨s, (Option.some.inj e).symm, ⟨this.1, okT_iff.mpr this.2⟩, rfl⟩
def BS0 : List Str := ["", " ", "+", "-", "0", "7", "p", "z", "s", "o", "3", "4", "Z", "\n", ".", "z1", "=", "  "]
def BS1 : List Str := [" ", " p", " x", "0", "+1", "-", "+", "_1"]
def BS2 : List Str := ["+", "-", ""]
def BS3 : List Str := ["", " ", "z", "z4", "z0+05", "p-0", "o+0", "+5", "5", "p5", "s+", " p", "P", "z0 ", "p+1 p"]
theorem bs0 : (BS0.all fun s => decide (s.length ≤ 8) && PyData.strOk s) = true := by decide +kernel
theorem bs1 : (BS1.all fun s => decide (s.length ≤ 8) && PyData.strOk s) = true := by decide +kernel
theorem bs2 : (BS2.all fun s => decide (s.length ≤ 8) && PyData.strOk s) = true := by decide +kernel
theorem bs3 : (BS3.all fun s => decide (s.length ≤ 8) && PyData.strOk s) = true := by decide +kernel
section
variable {P : Program} {w : World} {K : PySem.W.Frag} {mg : Str → Option Value} {base : Heap} {SU nA fD fG : Addr} {fdD fdG : FuncData}
def spBent : Sp := fun vs H Q _ => ∃ p n z, vs = [.ref p, .str z] ∧ PenAt H p n ∧ n ≤ 99000 ∧ z.length ≤ 60 ∧ okT z ∧ ∀ z' H', z'.length ≤ 400 → okT z' → Ext p H H' → PenAt H' p (n + 10) → Q (.str z') H'
theorem scBent : FnScope ["_law_pen_here", "_law_word", "_law_way", "_law_at", "_law_sign"] ["_law_pen_here", "_law_word"] (defScope sBent) := ⟨rfl, rfl, rfl, by decide +kernel, rfl, by decide +kernel, by decide +kernel⟩
theorem ok_bent {f : Addr} {fd : FuncData} (F : Fun K "_law_bent" "_law_bent" sBent f fd) (B : Blt mg) (D : FnT P w K mg base CX0 1 "_law_draw" fD fdD ["_law_pen_here", "_law_many"] spDraw) (G : FnT P w K mg base CX0 2 "_law_pick" fG fdG ["_law_pen_here", "_law_some"] spPick) : FnOk P w K mg base CX0 3 f fd ["_law_pen_here", "_law_word"] spBent := by
  refine F.ok scBent (fun vs H Q E h => ?_) (fun cdv A outer s H vs Q E hr h => ?_)
  · obtain ⟨p, n, z, rfl, _⟩ := h
    rfl
  · obtain ⟨p, n, z, rfl, PN, hn, hl, hok, k⟩ := h
    have hzl : z.length ≤ sizeLine := line_of hl
    refine ⟨_, (pss_cons (ps_par (i := 2) (j := 3) (by rfl) scBent.nd rfl rfl (by decide) rfl rfl (pa_cons (pe_call D.ok (hr.mono (by decide)) (by rfl) D.g D.kp D.bn .nil pass0 (pa_cons (pv 0) (pa_cons pe_int pa_nil))) (pa_cons (pe_call D.ok (hr.mono (by decide)) (by rfl) D.g D.kp D.bn .nil pass0 (pa_cons (pv 0) (pa_cons (pe_op op_add (pe_callB call_len_str (by rfl) B.len PySem.boot_len (pa_cons (pv 1) pa_nil)) pe_int) pa_nil))) pa_nil)) (by rfl))
      (pss_cons (ps_set (i := 4) scBent.nd rfl (Or.inl rfl) (pe_call G.ok (hr.mono (by decide)) (by rfl) G.g G.kp G.bn .nil pass0 (pa_cons (pv 0) (pa_cons (pe_lst (pa_cons pe_str (pa_cons pe_str (pa_cons pe_str (pa_cons pe_str (pa_cons pe_str (pa_cons pe_str (pa_cons pe_str (pa_cons pe_str (pa_cons pe_str (pa_cons pe_str (pa_cons pe_str (pa_cons pe_str (pa_cons pe_str (pa_cons pe_str (pa_cons pe_str (pa_cons pe_str (pa_cons pe_str (pa_cons pe_str pa_nil))))))))))))))))))) pa_nil))))
      (pss_cons (ps_if (pt_cmpR op_eq (pv 2) pe_int (nomark _)) (pss_one (ps_ret (pe_op op_add_str (pe_slice sl_str (pv 1) po_none (po_some (pv 3))) (pe_slice sl_str (pv 1) (po_some (pe_op op_add (pv 3) pe_int)) po_none)))) pss_nil)
      (pss_cons (ps_if (pt_cmpR op_eq (pv 2) pe_int (nomark _)) (pss_one (ps_ret (pe_op op_add_str (pe_op op_add_str (pe_slice sl_str (pv 1) po_none (po_some (pv 3))) (pv 4)) (pe_slice sl_str (pv 1) (po_some (pv 3)) po_none)))) pss_nil)
      (pss_cons (ps_if (pt_cmpR op_eq (pv 2) pe_int (nomark _)) (pss_one (ps_ret (pe_op op_add_str (pe_op op_add_str (pe_slice sl_str (pv 1) po_none (po_some (pv 3))) (pv 4)) (pe_slice sl_str (pv 1) (po_some (pe_op op_add (pv 3) pe_int)) po_none)))) pss_nil)
      (pss_cons (ps_if (pt_cmpR op_eq (pv 2) pe_int (nomark _)) (pss_one (ps_ret (pe_op op_add_str (pv 1) (pe_call G.ok (hr.mono (by decide)) (by rfl) G.g G.kp G.bn .nil pass0 (pa_cons (pv 0) (pa_cons (pe_lst (pa_cons pe_str (pa_cons pe_str (pa_cons pe_str (pa_cons pe_str (pa_cons pe_str (pa_cons pe_str (pa_cons pe_str (pa_cons pe_str pa_nil))))))))) pa_nil)))))) pss_nil)
      (pss_cons (ps_if (pt_cmpR op_eq (pv 2) pe_int (nomark _)) (pss_one (ps_ret (pe_op op_add_str (pe_op op_add_str (pe_slice sl_str (pv 1) po_none (po_some pe_int)) (pe_call G.ok (hr.mono (by decide)) (by rfl) G.g G.kp G.bn .nil pass0 (pa_cons (pv 0) (pa_cons (pe_lst (pa_cons pe_str (pa_cons pe_str (pa_cons pe_str pa_nil)))) pa_nil)))) (pe_op op_mulS pe_str (pe_op op_add pe_int (pe_call D.ok (hr.mono (by decide)) (by rfl) D.g D.kp D.bn .nil pass0 (pa_cons (pv 0) (pa_cons pe_int pa_nil)))))))) pss_nil)
      (pss_one (ps_ret (pe_call G.ok (hr.mono (by decide)) (by rfl) G.g G.kp G.bn .nil pass0 (pa_cons (pv 0) (pa_cons (pe_lst (pa_cons pe_str (pa_cons pe_str (pa_cons pe_str (pa_cons pe_str (pa_cons pe_str (pa_cons pe_str (pa_cons pe_str (pa_cons pe_str (pa_cons pe_str (pa_cons pe_str (pa_cons pe_str (pa_cons pe_str (pa_cons pe_str (pa_cons pe_str (pa_cons pe_str pa_nil)))))))))))))))) pa_nil)))))))))))), ?_⟩
    refine ⟨_, rfl, p, 6, n, rfl, by decide, by decide, PN, by omega, fun d H1 d0 d1 e1 p1 => ?_⟩
    refine ⟨_, rfl, _, rfl, z, rfl, hzl, _, _, rfl, rfl, p, _, n + 1, rfl, by omega, by omega, p1, by omega, fun a H2 a0 a1 e2 p2 => ?_⟩
    obtain ⟨i, rfl⟩ : ∃ i : Nat, a = (i : Int) := ⟨a.toNat, by omega⟩
    refine ⟨_, _, rfl, _, rfl, (show 18 ≤ sizeLine by decide), fun l hl0 => ⟨p, l, BS0.map V.str, n + 2, rfl, p2.ne hl0, upd_same, by decide, by decide, p2.same (same_upd hl0), by omega, fun j x H3 hx e3 p3 => ?_⟩⟩
    obtain ⟨sg, rfl, ⟨sl, so⟩, _⟩ := smalls bs0 hx
    have e3' := (e1.trans e2).trans ((Ext.new hl0).trans e3)
    have lc : ∀ u v, (cutS z u v).length ≤ 60 := fun u v => Nat.le_trans (cutS_length z u v) hl
    have la : ∀ {x y : Str} {m r : Nat}, x.length ≤ m → y.length ≤ r → (x ++ y).length ≤ m + r := fun h1 h2 => by rw [strLen_append]; exact Nat.add_le_add h1 h2
    have fit : ∀ {x y : Str} {m r : Nat}, x.length ≤ m → y.length ≤ r → m + r ≤ 400 → x.length + y.length ≤ sizeLine := fun h1 h2 h3 => Nat.le_trans (Nat.le_trans (Nat.add_le_add h1 h2) h3) (by decide)
    have oc : ∀ u v, okT (cutS z u v) := fun u v => okT_cut hok u v
    refine ⟨_, rfl, rfl, _, rfl, ifd (fun b0 => ?_) (fun b0 => ?_)⟩
    · refine ⟨_, rfl, _, rfl, _, rfl, z, rfl, hzl, _, rfl, _, rfl, _, _, rfl, rfl, _, rfl, z, rfl, hzl, _, _, rfl, rfl, fit (lc _ _) (lc _ _) (by decide), ?_⟩
      exact k _ _ (Nat.le_trans (la (lc _ _) (lc _ _)) (by decide)) (okT_app (oc _ _) (oc _ _)) e3' (p3.mono (by omega))
    refine ⟨_, rfl, rfl, _, rfl, ifd (fun b1 => ?_) (fun b1 => ?_)⟩
    · refine ⟨_, rfl, _, rfl, _, rfl, z, rfl, hzl, _, rfl, _, _, rfl, rfl, fit (lc _ _) sl (by decide), _, rfl, _, rfl, _, rfl, z, rfl, hzl, _, _, rfl, rfl, fit (la (lc _ _) sl) (lc _ _) (by decide), ?_⟩
      exact k _ _ (Nat.le_trans (la (la (lc _ _) sl) (lc _ _)) (by decide)) (okT_app (okT_app (oc _ _) so) (oc _ _)) e3' (p3.mono (by omega))
    refine ⟨_, rfl, rfl, _, rfl, ifd (fun b2 => ?_) (fun b2 => ?_)⟩
    · refine ⟨_, rfl, _, rfl, _, rfl, z, rfl, hzl, _, rfl, _, _, rfl, rfl, fit (lc _ _) sl (by decide), _, rfl, _, rfl, _, _, rfl, rfl, _, rfl, z, rfl, hzl, _, _, rfl, rfl, fit (la (lc _ _) sl) (lc _ _) (by decide), ?_⟩
      exact k _ _ (Nat.le_trans (la (la (lc _ _) sl) (lc _ _)) (by decide)) (okT_app (okT_app (oc _ _) so) (oc _ _)) e3' (p3.mono (by omega))
    refine ⟨_, rfl, rfl, _, rfl, ifd (fun b3 => ?_) (fun b3 => ?_)⟩
    · refine ⟨_, rfl, _, rfl, (show 8 ≤ sizeLine by decide), fun l4 hl4 => ⟨p, l4, BS1.map V.str, n + 3, rfl, p3.ne hl4, upd_same, by decide, by decide, p3.same (same_upd hl4), by omega, fun j4 x4 H4 hx4 e4 p4 => ?_⟩⟩
      obtain ⟨s4, rfl, ⟨sl4, so4⟩, _⟩ := smalls bs1 hx4
      refine ⟨_, _, rfl, rfl, fit hl sl4 (by decide), ?_⟩
      exact k _ _ (Nat.le_trans (la hl sl4) (by decide)) (okT_app hok so4) (e3'.trans ((Ext.new hl4).trans e4)) (p4.mono (by omega))
    refine ⟨_, rfl, rfl, _, rfl, ifd (fun b4 => ?_) (fun b4 => ?_)⟩
    · refine ⟨_, rfl, _, rfl, z, rfl, hzl, _, rfl, (show 3 ≤ sizeLine by decide), fun l4 hl4 => ⟨p, l4, BS2.map V.str, n + 3, rfl, p3.ne hl4, upd_same, by decide, by decide, p3.same (same_upd hl4), by omega, fun j4 x4 H4 hx4 e4 p4 => ?_⟩⟩
      obtain ⟨s4, rfl, ⟨sl4, so4⟩, _⟩ := smalls bs2 hx4
      refine ⟨_, _, rfl, rfl, fit (lc _ _) sl4 (by decide), ?_⟩
      refine ⟨_, rfl, p, 3, n + 4, rfl, by decide, by decide, p4, by omega, fun m H5 m0 m1 e5 p5 => ?_⟩
      have t9 : tl ("9" : Str) = [57] := by decide +kernel
      refine ⟨_, _, rfl, rfl, _, _, rfl, rfl, mul_ok t9 (by omega) (by omega), ?_⟩
      have l9 : (Txt.mul "9" (59 + m)).length ≤ 70 := by rw [len_mul t9 (by omega)]; omega
      refine ⟨_, _, rfl, rfl, fit (la (lc _ _) sl4) l9 (by decide), ?_⟩
      exact k _ _ (Nat.le_trans (la (la (lc _ _) sl4) l9) (by decide)) (okT_app (okT_app (oc _ _) so4) (okT_mul t9 (by decide) (by omega))) ((e3'.trans ((Ext.new hl4).trans e4)).trans e5) (p5.mono (by omega))
    · refine ⟨_, rfl, (show 15 ≤ sizeLine by decide), fun l4 hl4 => ⟨p, l4, BS3.map V.str, n + 3, rfl, p3.ne hl4, upd_same, by decide, by decide, p3.same (same_upd hl4), by omega, fun j4 x4 H4 hx4 e4 p4 => ?_⟩⟩
      obtain ⟨s4, rfl, ⟨sl4, so4⟩, _⟩ := smalls bs3 hx4
      exact k _ _ (Nat.le_trans sl4 (by decide)) so4 (e3'.trans ((Ext.new hl4).trans e4)) (p4.mono (by omega))
end
end K08
set_option Elab.async false
set_option linter.all false
set_option maxRecDepth 100000
set_option maxHeartbeats 2000000
namespace K08
open PySem PySem.Spec PyProof.Rows L2 My MyX TL NumText
/-- what heard hands back: of a value the list that holds it, of an error its fields -/
def HE (BS BT : Addr) (Q : VK) : XK := fun cls d H' => ∃ dd, d = some dd ∧
  ((cls = .ref BS ∧ ∃ p, H' dd = some (.xd (bsF p)) ∧ ∀ t H2, Same H' H2 → H' t = none → H2 t = some (.tup [.str "sum", .str p]) → Q (.ref t) H2) ∨
    (cls = .ref BT ∧ ∃ n, H' dd = some (.xd (btF n)) ∧ ∀ t H2, Same H' H2 → H' t = none → H2 t = some (.tup [.int 0, .int n]) → Q (.ref t) H2))
def TTh (BS BT : Addr) : (XK → Hp → VK → Prop) → Hp → VK → Prop := fun tl H Q => tl (HE BS BT Q) H (fun v H' => [v].length ≤ sizeLine ∧ ∀ l, H' l = none → Q (.ref l) (upd H' l (.lst [v])))
structure HdT (K : PySem.W.Frag) (mg : Str → Option Value) (TE BS BT : Addr) : Prop where
  gE : mg "ToolError" = some (.ref TE)
  gS : mg "BadSum" = some (.ref BS)
  gT : mg "BadText" = some (.ref BT)
  eS : PySem.W.exmOne K (.ref BS) (.ref TE) = some true
  eT : PySem.W.exmOne K (.ref BT) (.ref TE) = some true
  iS : IsX K BS
  iT : IsX K BT
  xS : XfC K BS
  xT : XfC K BT
  kSS : PySem.W.kitOne K (.ref BS) (.ref BS) = some true
  kTS : PySem.W.kitOne K (.ref BT) (.ref BS) = some false
  kTT : PySem.W.kitOne K (.ref BT) (.ref BT) = some true
  nP : PySem.W.findIn K (.ref BS) "part" = some none
  nL : PySem.W.findIn K (.ref BT) "line" = some none
  nW : PySem.W.findIn K (.ref BT) "word" = some none
theorem scHeard : FnScope ["_law_ask", "_law_caught", "error"] ["_law_ask"] (defScope sHeard) := ⟨rfl, rfl, rfl, by decide +kernel, rfl, by decide +kernel, by decide +kernel⟩
theorem heard_gives {X : Cx} {q : Str} {g TE BS BT : Addr} {cdg : Value} (B : Blt X.mg) (T : HdT X.K X.mg TE BS BT) :
    LamX.GivesTo X ["_law_ask", "_law_caught", "error"] "_law_heard" (defScope sHeard) g cdg (defBody sHeard) "_law_ask" q (TTh BS BT) := by
  intro f c' s H Q tl act hc h
  have nd : (["_law_ask", "_law_caught", "error"] : List Str).Nodup := scHeard.nd
  refine ⟨_, pss_cons (ps_set (i := 1) nd rfl (Or.inl rfl) pe_non) (pss_cons (ps_try_asK (i := 2) (c := .ref TE)
      (tb := fun W D σ H => ∃ Ech : XK, (∀ cls d σ' H', Ech cls d H' → W cls d σ' H') ∧ σ[0]? = some (some (.ref f)) ∧ H c' = some (LamX.CodeO c' q) ∧ tl Ech H (fun v H' => [v].length ≤ sizeLine ∧ ∀ l, H' l = none → D.rt (.ref l) (upd H' l (.lst [v]))))
      rfl rfl rfl nd rfl rfl ⟨rfl, by decide, .inl T.gE⟩ LamX.takes0 (fun W pn xe tk _ => ?_) (fun a oe cls d pn _ _ => pss_one (ps_set (i := 1) nd rfl (Or.inl rfl) (pv 2))))
      (pss_cons (ps_if (pt_val (pe_callB call_isX (by rfl) B.isinstance (by decide +kernel) (pa_cons (pv 1) (pa_cons (pe_gref rfl T.gS) pa_nil)))) (pss_one (ps_ret (pe_tup (pa_cons pe_str (pa_cons (pe_xk T.xS T.nP (pv 1)) pa_nil))))) pss_nil)
      (pss_one (ps_ret (pe_ifExp (pt_val (pe_callB call_isX (by rfl) B.isinstance (by decide +kernel) (pa_cons (pv 1) (pa_cons (pe_gref rfl T.gT) pa_nil)))) (pe_tup (pa_cons (pe_xk T.xT T.nL (pv 1)) (pa_cons (pe_xk T.xT T.nW (pv 1)) pa_nil))) (pe_tup (pa_cons pe_str pa_nil))))))), ?_⟩
  · refine ⟨fun pins s' σ H' D I h' => ?_⟩
    obtain ⟨Ech, hW, h1, h2, h3⟩ := h'
    exact (pss_one (ps_ret (pe_lst (pa_cons (act W pn xe Ech _ _ tk hW) pa_nil)))).run pins s' σ H' D I ⟨h1, h2, h3⟩
  · refine ⟨HE BS BT Q, fun cls d σ' H' hE => ?_, rfl, hc, h⟩
    obtain ⟨dd, rfl, ⟨rfl, p, hx, k⟩ | ⟨rfl, n, hx, k⟩⟩ := hE
    · refine ⟨true, T.eS, fun _ hl a ha => ?_, fun q => nomatch q⟩
      obtain ⟨u0, u1, u2, rfl⟩ : ∃ u0 u1 u2, σ' = [u0, u1, u2] := by
        match σ', hl with
        | [u0, u1, u2], _ => exact ⟨u0, u1, u2, rfl⟩
      have hx' : upd H' a (XcO (.ref BS) (some dd) a) dd = some (.xd (bsF p)) := by rw [upd_ne (ne_of_none hx ha)]; exact hx
      have s1 : Same H' (upd H' a (XcO (.ref BS) (some dd) a)) := same_upd ha
      refine ⟨_, rfl, _, rfl, BS, a, dd, _, _, .ref BS, true, rfl, T.iS, upd_same, hx', fun u hu => hu, T.kSS, _, rfl, iteT ?_⟩
      refine ⟨_, rfl, a, dd, _, _, rfl, upd_same, hx', rfl, (show 2 ≤ sizeLine by decide), fun t ht => ?_⟩
      exact k t _ (s1.trans (same_upd ht)) (s1.free ht) upd_same
    · refine ⟨true, T.eT, fun _ hl a ha => ?_, fun q => nomatch q⟩
      obtain ⟨u0, u1, u2, rfl⟩ : ∃ u0 u1 u2, σ' = [u0, u1, u2] := by
        match σ', hl with
        | [u0, u1, u2], _ => exact ⟨u0, u1, u2, rfl⟩
      have hx' : upd H' a (XcO (.ref BT) (some dd) a) dd = some (.xd (btF n)) := by rw [upd_ne (ne_of_none hx ha)]; exact hx
      have s1 : Same H' (upd H' a (XcO (.ref BT) (some dd) a)) := same_upd ha
      refine ⟨_, rfl, _, rfl, BT, a, dd, _, _, .ref BS, false, rfl, T.iT, upd_same, hx', fun u hu => hu, T.kTS, _, rfl, iteF ?_⟩
      refine ⟨_, rfl, BT, a, dd, _, _, .ref BT, true, rfl, T.iT, upd_same, hx', fun u hu => hu, T.kTT, _, rfl, iteT ?_⟩
      refine ⟨_, rfl, a, dd, _, _, rfl, upd_same, hx', rfl, _, rfl, a, dd, _, _, rfl, upd_same, hx', rfl, (show 2 ≤ sizeLine by decide), fun t ht => ?_⟩
      exact k t _ (s1.trans (same_upd ht)) (s1.free ht) upd_same
end K08
set_option Elab.async false
set_option linter.all false
set_option maxRecDepth 100000
set_option maxHeartbeats 4000000
namespace K08
open PySem PySem.Spec PyProof.Rows L2 My MyX TL NumText
/-- a def whose code object is known: it makes lambdas -/
structure FunL (K : PySem.W.Frag) (x qual : Str) (st : Stmt) (f : Addr) (fd : FuncData) (c : Addr) : Prop where
  ex : ∃ (oc : Value) (od : Option Addr) (kV doc pm : Value) (an : Option Addr) (ct : Value) (osl : Array (Option Value)),
    fd = PySem.W.fnOf x qual (defArgs st) (defBody st) (defScope st) .none kV doc pm an (.ref c) ct ∧ K.lookup f = some ⟨oc, od, .func fd, osl⟩ ∧ PySem.W.codeIn K (.ref c) qual = true
  kp : PySem.W.keepIn K (.ref f) = true
theorem FunL.ok {P : Program} {w : World} {K : PySem.W.Frag} {mg : Str → Option Value} {base : Heap} {x qual : Str} {st : Stmt} {f c : Addr} {fd : FuncData} {N ps : List Str} {k : Nat} {sp : Sp} (F : FunL K x qual st f fd c) (S : FnScope N ps (defScope st)) (len : ∀ vs H Q E, sp vs H Q E → vs.length = ps.length)
    (hbody : ∀ (A : Around) (outer : List Env) (s : Shared) (H : Hp) (vs : List V) (Q : VK) (E : XK), Room k (A.deeper (envOfC qual (defScope st) s.heap.objs.size f (.ref c))) → sp vs H Q E →
      ∃ t, PSs (cxOf L2.CX0 P w K mg base N qual (defScope st) f (.ref c) A outer s H E).nox (defBody st) t ∧ t { nx := fun _ H' => Q .non H', rt := Q } (start N vs) H) : FnOk P w K mg base L2.CX0 (k + 1) f fd ps sp := by
  obtain ⟨oc, od, kV, doc, pm, an, ct, osl, rfl, lk, hcd⟩ := F.ex
  refine fn_of lk hcd S len fun A outer s H vs Q E hr hsp => ?_
  obtain ⟨t, h, q⟩ := hbody A outer s H vs Q E hr hsp
  exact ⟨t, h.nox, q⟩
/-- the maker's table -/
structure LamT (base : Heap) (mg : Str → Option Value) (T : List (Addr × Str)) (c P : Addr) (q : Str) : Prop where
  tb : LamX.TabB base mg c P
  mem : (P, q) ∈ T
  un : ∀ p ∈ T, p.1 = P → p.2 = q
structure HdF (K : PySem.W.Frag) (mg : Str → Option Value) (g : Addr) (fd : FuncData) : Prop where
  f : Fun K "_law_heard" "_law_heard" sHeard g fd
  bn : Binds K fd ["_law_ask"] []
  g : mg "_law_heard" = some (.ref g)
theorem passQ {X : Cx} : Passes (L2.CX X.prog X.w) X L2.E0 := fun _ _ _ _ _ _ _ h => by
  obtain ⟨_, _, _, _, _, _, _, _, _, _, _, _, z⟩ := h
  exact z.elim
theorem FnT.fr {P : Program} {w : World} {K : PySem.W.Frag} {mg : Str → Option Value} {base : Heap} {CX : CXT} {k : Nat} {f : Addr} {fd : FuncData} {ps : List Str} {sp : Sp} (F : FnOk P w K mg base CX k f fd ps sp) (hb : Binds K fd ps []) : FnR P w K mg base CX k f sp :=
  (F.raw hb .nil).imp fun vs H Q E h => by rw [List.append_nil]; exact h
section
variable {X : Cx} {T : List (Addr × Str)} {g c P Te BS BT : Addr} {fd : FuncData} {k : Nat} {params : Arguments} {body : Expr} {scope : Scope} {t : XK → TE} {p lpos pos : Pos}
theorem pe_heard (F : HdF X.K X.mg g fd) (B : Blt X.mg) (HT : HdT X.K X.mg Te BS BT) (LT : LamT X.base X.mg T c P (X.env.qual ++ "<lambda>")) (hcode : X.env.code = .ref c) (hr : Room (k + 2) X.A) (L : LamX.LamS X.env.scope scope)
    (hdef : defaultsOf params X.env = ([], []))
    (hbind : ∀ (q : Str) (cl : List (Str × Addr)) (pm cv ctv : Value), bindArgs (PySem.W.kla_fn "<lambda>" q params body scope cl pm cv ctv) ⟨[], []⟩ = pure [])
    (hbody : ∀ (A : Around) (outer : List Env) (s : Shared) (H : Hp) (E : XK) (f c' : Addr), Room k (A.deeper (LamX.lamEnv X scope s.heap.objs.size f c')) → PE (LamX.lamCx X A outer s H E scope f c') body (t E))
    (hg : Gl X "_law_heard" := by rfl) : PE X (.Call (.Name "_law_heard" p) [.Lambda params body scope lpos] [] pos) (LamX.tLam T (TTh BS BT) t) := by
  obtain ⟨oc, od, kV, doc, pm, an, cdv, ct, osl, rfl, lk, hcd⟩ := F.f.ex
  exact LamX.pe_lamcall hg F.g F.f.kp lk hcd F.bn scHeard rfl (.inl rfl) (heard_gives B HT) LT.tb hcode LT.mem LT.un hr L hdef hbind hbody
end
/-- all but the pen and the tables stays -/
structure ExtT (p : Addr) (H H' : Hp) : Prop where
  keep : ∀ b u, H b = some u → b ≠ p → (∀ ps, u ≠ .tbl ps) → H' b = some u
  pen : ∀ (c : Addr) (x y : V), H p = some (.lst [.ref c, x, y]) → ∃ x' y', H' p = some (.lst [.ref c, x', y'])
instance {p : Addr} {H H' : Hp} : CoeFun (ExtT p H H') (fun _ => ∀ b u, H b = some u → b ≠ p → (∀ ps, u ≠ .tbl ps) → H' b = some u) := ⟨ExtT.keep⟩
theorem ExtT.refl (p : Addr) (H : Hp) : ExtT p H H := ⟨fun _ _ e _ _ => e, fun _ x y h => ⟨x, y, h⟩⟩
theorem ExtT.trans {p : Addr} {H H1 H2 : Hp} (a : ExtT p H H1) (b : ExtT p H1 H2) : ExtT p H H2 := ⟨fun c u e n t => b.keep c u (a.keep c u e n t) n t, fun c x y h => by
  obtain ⟨x', y', h'⟩ := a.pen c x y h
  exact b.pen c x' y' h'⟩
theorem ExtT.ext {p : Addr} {H H1 : Hp} (e : Ext p H H1) : ExtT p H H1 := ⟨fun c u h n _ => e.keep c u h n, e.pen⟩
theorem ExtT.same {p : Addr} {H H1 : Hp} (s : Same H H1) : ExtT p H H1 := ⟨fun c u e _ _ => s c u e, fun _ x y h => ⟨x, y, s _ _ h⟩⟩
theorem ExtT.n {p : Addr} {H H1 : Hp} (s : LamX.ExtN H H1) : ExtT p H H1 := ⟨fun c u e _ t => s c u e t, fun _ x y h => ⟨x, y, s _ _ h (fun _ z => nomatch z)⟩⟩
theorem PenAt.n {H H' : Hp} {p : Addr} {n : Nat} (P : PenAt H p n) (s : LamX.ExtN H H') : PenAt H' p n := by
  obtain ⟨c, ns, a, g, h1, h2, h3, h4, h5, h6⟩ := P.ex
  exact ⟨c, ns, a, g, s _ _ h1 (fun _ z => nomatch z), h2, s _ _ h3 (fun _ z => nomatch z), h4, h5, h6⟩
theorem tabs_ext {T : List (Addr × Str)} {H H' : Hp} {p : Addr} {xs : List V} (t : LamX.Tabs T H) (hp : H p = some (.lst xs)) (e : ∀ b u, H b = some u → b ≠ p → H' b = some u) : LamX.Tabs T H' := fun q hq => by
  obtain ⟨ps, h1, h2, h3⟩ := t q hq
  refine ⟨ps, e _ _ h1 (ne_of h1 hp (fun z => nomatch z)), h2, fun pos cv hc => ?_⟩
  obtain ⟨c, rfl, h4⟩ := h3 pos cv hc
  exact ⟨c, rfl, e _ _ h4 (ne_of h4 hp (fun z => nomatch z))⟩
theorem tabs_same {T : List (Addr × Str)} {H H' : Hp} (t : LamX.Tabs T H) (e : Same H H') : LamX.Tabs T H' := t.ext e
end K08
set_option Elab.async false
set_option linter.all false
set_option maxRecDepth 100000
set_option maxHeartbeats 8000000
namespace K08
open PySem PySem.Spec PyProof.Rows L2 My MyX TL NumText
structure OpT (P : Program) (w : World) (K : PySem.W.Frag) (mg : Str → Option Value) (base : Heap) (SU BS : Addr) (nm : String) (g : Int → Int → Int) (f : Addr) : Prop where
  ob : OwnBin K SU f nm
  fr : FnR P w K mg base (L2.CX P w) 6 f (spPlus SU BS g)
  rt : ∀ T ∈ ["NoneType", "bool", "int", "str", "list", "tuple", "dict"], RightT K SU nm (.type T)
theorem TyS.right {K : PySem.W.Frag} {SU : Addr} {nm : String} {H : Hp} {x : V} {t : Value} (h : TyS SU H x t) (r : ∀ T ∈ ["NoneType", "bool", "int", "str", "list", "tuple", "dict"], RightT K SU nm (.type T)) : RightT K SU nm t := by
  cases h with
  | su e => exact .same
  | _ => exact r _ (by decide)
theorem TyS.extT {SU p : Addr} {H H' : Hp} {x : V} {t : Value} (h : TyS SU H x t) (e : ExtT p H H') (np : x ≠ .ref p) : TyS SU H' x t := by
  cases h with
  | non => exact .non
  | bl b => exact .bl b
  | int i => exact .int i
  | str z => exact .str z
  | lst q => exact .lst (e _ _ q (fun z => np (by rw [z])) (fun _ z => nomatch z))
  | tup q => exact .tup (e _ _ q (fun z => np (by rw [z])) (fun _ z => nomatch z))
  | dK q => exact .dK (e _ _ q (fun z => np (by rw [z])) (fun _ z => nomatch z))
  | su q => exact .su (e _ _ q (fun z => np (by rw [z])) (fun _ z => nomatch z))
theorem SumAt.extT {SU p : Addr} {H H' : Hp} {a : Addr} {i : Nat} {n : Int} (h : SumAt SU H a i n) (e : ExtT p H H') (np : a ≠ p) : SumAt SU H' a i n := by
  obtain ⟨hi, dx, hx⟩ := h
  exact ⟨hi, dx, e _ _ hx np (fun _ z => nomatch z)⟩
theorem SumAt.nep {SU p : Addr} {H : Hp} {a : Addr} {i : Nat} {n : Int} {k : Nat} (h : SumAt SU H a i n) (P : PenAt H p k) : a ≠ p := by
  obtain ⟨hi, dx, hx⟩ := h
  obtain ⟨xs, hp⟩ := P.there
  exact ne_of hx hp (fun z => nomatch z)
theorem paired_app {α β : Type} {F : α → β → Prop} {xs ys : List α} {us vs : List β} (h : Paired F xs us) (h' : Paired F ys vs) : Paired F (xs ++ ys) (us ++ vs) := by
  induction h with
  | nil => exact h'
  | cons a _ k => exact .cons a k
/-- the rows that heard has handed back so far -/
structure RInv (TT : List (Addr × Str)) (H0 : Hp) (l : Addr) (ps : List Str) (H : Hp) : Prop where
  e : LamX.ExtN H0 H
  l0 : H0 l = none
  at_ : ∃ rows, H l = some (.lst rows) ∧ Paired (fun v q => ∃ t, v = .ref t ∧ t ≠ l ∧ H t = some (.tup [.str "sum", .str q])) rows ps
  tabs : LamX.Tabs TT H
theorem RInv.len {TT : List (Addr × Str)} {H0 H : Hp} {l : Addr} {ps : List Str} {rows : List V} (p : Paired (fun v q => ∃ t, v = V.ref t ∧ t ≠ l ∧ H t = some (.tup [.str "sum", .str q])) rows ps) : rows.length = ps.length := Paired.length p
theorem heard_step {TT : List (Addr × Str)} {K : PySem.W.Frag} {BS BT l : Addr} {H0 H : Hp} {ps : List Str} {t : XK → TE} {σ : L2.St} {D : Ends} {q : Str} (I : RInv TT H0 l ps H) (hl : ps.length ≤ 20) (h5 : σ[5]? = some (some (.ref l)))
    (hb : ∀ H1 (Q : VK) (E : XK), LamX.ExtN H0 H1 → RaisesX H1 BS (bsF q) E → t E σ H1 Q) (k : ∀ H', RInv TT H0 l (ps ++ [q]) H' → D.nx σ H') :
    tDrop (tBM K "list" rAppend (tVar 5) (tCons (LamX.tLam TT (TTh BS BT) t) tNil)) D σ H := by
  obtain ⟨rows, hr, hp⟩ := I.at_
  refine ⟨_, h5, .inl ⟨rfl, rows, SqL.of hr⟩, I.tabs, fun H1 eN t1 => hb H1 _ _ (I.e.trans eN) fun d H2 s2 hd => ⟨d, rfl, .inl ⟨rfl, q, hd, fun t H3 s3 ht h3 => ?_⟩⟩⟩
  have l1 : H1 l = some (.lst rows) := eN _ _ hr (fun _ z => nomatch z)
  have l2 := s2 _ _ l1
  have l3 := s3 _ _ l2
  have tl : t ≠ l := fun z => by rw [z, l2] at ht; cases ht
  refine ⟨l, rows, .ref t, rfl, rfl, l3, ?_, k _ ⟨?_, I.l0, ⟨_, upd_same, ?_⟩, ?_⟩⟩
  · have := Paired.length hp
    exact Nat.lt_of_le_of_lt (by omega : _ ≤ 20) (by rw [sizeLine_eq]; decide)
  · intro b o hb0 nt
    rw [upd_ne (fun z => by rw [z, I.l0] at hb0; cases hb0)]
    exact s3 _ _ (s2 _ _ (eN _ _ (I.e _ _ hb0 nt) nt))
  · have keep : ∀ t', t' ≠ l → ∀ r, H t' = some (.tup r) → upd H3 l (.lst (rows ++ [.ref t])) t' = some (.tup r) := fun t' n r h => by
      rw [upd_ne n]
      exact s3 _ _ (s2 _ _ (eN _ _ h (fun _ z => nomatch z)))
    have one : Paired (fun v q' => ∃ t', v = V.ref t' ∧ t' ≠ l ∧ upd H3 l (.lst (rows ++ [.ref t])) t' = some (.tup [.str "sum", .str q'])) [.ref t] [q] := .cons ⟨t, rfl, tl, by rw [upd_ne tl]; exact h3⟩ .nil
    exact paired_app (Paired.mapP hp fun v q' ⟨t', e, n, h⟩ => ⟨t', e, n, keep t' n _ h⟩) one
  · exact tabs_ext ((tabs_same (tabs_same t1 s2) s3)) l3 (fun b u h n => by rw [upd_ne n]; exact h)
/-- a value of these kinds, not the pen -/
def KVal (SU p : Addr) (C : V → Value → Prop) (H : Hp) (x : V) : Prop := ∃ t, TyS SU H x t ∧ x ≠ .ref p ∧ C x t
theorem KVal.ext {SU p : Addr} {C : V → Value → Prop} {H H' : Hp} {x : V} (h : KVal SU p C H x) (e : ExtT p H H') : KVal SU p C H' x := by
  obtain ⟨t, h1, h2, h3⟩ := h
  exact ⟨t, h1.extT e h2, h2, h3⟩
theorem same_updF {H G : Hp} {a : Addr} {o : HO} (s : Same H G) (h : H a = none) : Same H (upd G a o) := fun b u e => by
  rw [upd_ne (ne_of_none e h)]
  exact s b u e
def cBad : V → Value → Prop := fun x _ => ∀ i, i < 7 → x ≠ .str (nm i)
def cOdd : V → Value → Prop := fun x _ => isInt x = false
def cFar : V → Value → Prop := fun _ t => isSu t = false
theorem notNm {z : Str} (h : (NS.all fun y => !(y == z)) = true) : ∀ i, i < 7 → V.str z ≠ .str (nm i) := fun i hi e => by
  have : nm i ∈ NS := by
    have : ∀ i : Fin 7, nm i.val ∈ NS := by decide +kernel
    exact this ⟨i, hi⟩
  have h2 := List.all_eq_true.mp h _ this
  rw [V.str.inj e] at h2
  simp at h2
theorem chain4 {H : Hp} {l t d m : Addr} {X Y Z W : HO} (f1 : H l = none) (f2 : upd H l X t = none) (f3 : upd (upd H l X) t Y d = none) (f4 : upd (upd (upd H l X) t Y) d Z m = none) :
    Same H (upd (upd (upd (upd H l X) t Y) d Z) m W) ∧ upd (upd (upd (upd H l X) t Y) d Z) m W l = some X ∧ upd (upd (upd (upd H l X) t Y) d Z) m W t = some Y ∧ upd (upd (upd (upd H l X) t Y) d Z) m W d = some Z ∧
      H l = none ∧ H t = none ∧ H d = none ∧ H m = none := by
  have s1 : Same H (upd H l X) := same_upd f1
  have s2 : Same (upd H l X) (upd (upd H l X) t Y) := same_upd f2
  have s3 : Same (upd (upd H l X) t Y) (upd (upd (upd H l X) t Y) d Z) := same_upd f3
  have s4 : Same (upd (upd (upd H l X) t Y) d Z) (upd (upd (upd (upd H l X) t Y) d Z) m W) := same_upd f4
  exact ⟨((s1.trans s2).trans s3).trans s4, s4 _ _ (s3 _ _ (s2 _ _ upd_same)), s4 _ _ (s3 _ _ upd_same), s4 _ _ upd_same, f1, s1.free f2, (s1.trans s2).free f3, ((s1.trans s2).trans s3).free f4⟩
theorem make_bad {SU BS x dx : Addr} {H : Hp} {u num : V} {t t2 : Value} {Q : VK} {E : XK} (hx : H x = none) (hd : H dx = none) (ku : TyS SU H u t) (hb : ∀ i, i < 7 → u ≠ .str (nm i)) (kn : TyS SU H num t2) (R : RaisesX H BS (bsF "source") E) :
    spSuI SU BS [.ref x, u, num] (upd (upd H dx (.own x)) x (.ins SU dx [])) Q E := by
  have s : Same H (upd (upd H dx (.own x)) x (.ins SU dx [])) := same_updF (same_upd hd) hx
  exact ⟨x, dx, u, num, _, _, rfl, upd_same, ku.same s, kn.same s, fun i n hi e _ => (hb i hi e).elim, fun _ => R.same s, fun ⟨i, hi, e⟩ _ => (hb i hi e).elim⟩
theorem make_odd {SU BS x dx : Addr} {H : Hp} {i : Nat} {num : V} {t2 : Value} {Q : VK} {E : XK} (hi : i < 7) (hx : H x = none) (hd : H dx = none) (kn : TyS SU H num t2) (ho : isInt num = false) (R : RaisesX H BS (bsF "number") E) :
    spSuI SU BS [.ref x, .str (nm i), num] (upd (upd H dx (.own x)) x (.ins SU dx [])) Q E := by
  have s : Same H (upd (upd H dx (.own x)) x (.ins SU dx [])) := same_updF (same_upd hd) hx
  exact ⟨x, dx, _, num, _, _, rfl, upd_same, .str _, kn.same s, fun j n hj _ e => (by rw [e] at ho; cases ho), fun h => (h i hi rfl).elim, fun _ _ => R.same s⟩
/-- rows of pairs ("sum", part) -/
def SumRows (H : Hp) (rows : List V) (qs : List Str) : Prop := Paired (fun v q => ∃ t, v = V.ref t ∧ H t = some (.tup [.str "sum", .str q])) rows qs
theorem SumRows.same {H H' : Hp} {rows : List V} {qs : List Str} (h : SumRows H rows qs) (s : Same H H') : SumRows H' rows qs := Paired.mapP h fun _ _ ⟨t, e, h⟩ => ⟨t, e, s _ _ h⟩
def sumDat (qs : List Str) : List PyData := qs.map fun q => .tuple [.str "sum", .str q]
theorem SumRows.dp {K : PySem.W.Frag} {H : Hp} {rows : List V} {qs : List Str} (h : SumRows H rows qs) : DpAll K H rows (sumDat qs) := by
  induction h with
  | nil => exact .nil
  | cons a _ k =>
    obtain ⟨t, rfl, e⟩ := a
    exact .cons (.tup (SqT.of e) (.cons (.str _) (.cons (.str _) .nil))) k
theorem lc_sum {K : PySem.W.Frag} {lp D : Addr} {qs : List Str} {slot : Nat} {te : L2.TE} {vs : List Nat} {σ : L2.St} {H1 : Hp} {Qd : Hp → Prop} (hn : qs.length ≤ 1000) (hl : H1 lp = some (.lst (qs.map V.str))) (hD : H1 D = none) (hw : ∀ x, wipe ((wipe σ vs).set slot (some x)) vs = wipe σ vs)
    (he : ∀ (q : Str) (Hx : Hp) (Q : VK), (∀ t, Hx t = none → Q (.ref t) (upd Hx t (.tup [.str "sum", .str q]))) → te ((wipe σ vs).set slot (some (.str q))) Hx Q) (hd : ∀ Hx rows, Same H1 Hx → Hx D = some (.lst rows) → SumRows Hx rows qs → Qd Hx) :
    ∃ W : Nat → Nat → Hp → Prop, (∃ m, W 0 m (upd H1 D (.lst []))) ∧ ∀ i m H, W i m H →
      ((Itl K lp).stop i H ∧ Qd H) ∨ ((Itl K lp).go i H ∧ ∃ Nx : Hp → Prop, (∀ H', Nx H' → ∃ m', m' < m ∧ W (i + 1) m' H') ∧ ∀ x H', (Itl K lp).yld i H x H' → gName slot x (wipe σ vs) H' fun σ2 H2 => wipe σ2 vs = wipe σ vs ∧ tYes σ2 H2 fun b H3 =>
        if b = true then te σ2 H3 fun y H4 => ∃ acc, H4 D = some (.lst acc) ∧ acc.length < sizeLine ∧ Nx (upd H4 D (.lst (acc ++ [y]))) else Nx H3) := by
  refine lc_it (walk_list (K := K) (a := lp) (xs := qs.map V.str)) (fun i H => Same H1 H ∧ ∃ rows, H D = some (.lst rows) ∧ Paired (fun v q => ∃ t, v = V.ref t ∧ t ≠ D ∧ H t = some (.tup [.str "sum", .str q])) rows (qs.take i)) ⟨same_upd hD, [], upd_same, .nil⟩ (fun i H _ p => SqL.of (p.1 _ _ hl)) (fun i x H H' hi p y => ?_) (fun H p => ?_)
  · obtain ⟨s, rows, hr, hp⟩ := p
    obtain ⟨rfl, hx⟩ := y
    rw [List.getElem?_map] at hx
    cases hq : qs[i]? with
    | none => rw [hq] at hx; cases hx
    | some q =>
      rw [hq] at hx
      obtain rfl : V.str q = x := Option.some.inj hx
      refine ⟨hw _, tYes_if (he q _ _ fun t ht => ⟨rows, ?_, ?_, ?_, rows ++ [.ref t], upd_same, ?_⟩)⟩
      · rw [upd_ne (ne_of_none hr ht)]
        exact hr
      · have h1 := Paired.length hp
        rw [List.length_take] at h1
        exact Nat.lt_of_le_of_lt (by omega : _ ≤ 1000) (by rw [sizeLine_eq]; decide)
      · exact same_updF (s.trans (same_upd ht)) hD
      · have tD : t ≠ D := fun z => by rw [z, hr] at ht; cases ht
        have keep : ∀ t', t' ≠ D → ∀ r, H' t' = some (.tup r) → upd (upd H' t (.tup [.str "sum", .str q])) D (.lst (rows ++ [.ref t])) t' = some (.tup r) := fun t' n r h => by
          rw [upd_ne n]
          exact same_upd ht _ _ h
        rw [List.take_add_one, hq]
        exact paired_app (Paired.mapP hp fun v q' ⟨t', e, n, h⟩ => ⟨t', e, n, keep t' n _ h⟩) (.cons ⟨t, rfl, tD, by rw [upd_ne tD]; exact upd_same⟩ .nil)
  · obtain ⟨s, rows, hr, hp⟩ := p
    rw [List.length_map, List.take_length] at hp
    exact hd H rows s hr (Paired.mapP hp fun v q ⟨t, e, _, h⟩ => ⟨t, e, h⟩)
section
variable {P : Program} {w : World} {K : PySem.W.Frag} {mg : Str → Option Value} {base : Heap} {SU nA BS BT Te fI fA fS fAp fG gH c PT : Addr} {fdI fdAp fdG fdH : FuncData} {TT : List (Addr × Str)}
def spRefR (SU : Addr) (TT : List (Addr × Str)) : Sp := fun vs H Q _ => ∃ p n a i v, vs = [.ref p, .ref a] ∧ SumAt SU H a i v ∧ PenAt H p n ∧ n ≤ 99000 ∧ LamX.Tabs TT H ∧ ∀ H', ExtT p H H' → PenAt H' p (n + 10) → LamX.Tabs TT H' → Q (.bl true) H'
theorem scRefR : FnScope ["_law_pen_here", "_law_one", "_law_bad", "_law_odd", "_law_far", "_law_heard_here", "_law_parts", "_law_part"] ["_law_pen_here", "_law_one"] (defScope sRefused) := ⟨rfl, rfl, rfl, by decide +kernel, rfl, by decide +kernel, by decide +kernel⟩
theorem ok_refused {f : Addr} {fd : FuncData} (F : FunL K "_law_refused_right" "_law_refused_right" sRefused f fd c) (B : Blt mg) (T : SmT K mg SU nA) (M : MkS P w K mg base SU BS fI fdI)
    (OBA : OpT P w K mg base SU BS "add" (· + ·) fA) (OBS : OpT P w K mg base SU BS "sub" (· - ·) fS) (GA : MeT P w K mg base (L2.CX P w) 4 SU "apart" fAp fdAp ["self", "other"] (spApart SU BS))
    (G : FnT P w K mg base CX0 2 "_law_pick" fG fdG ["_law_pen_here", "_law_some"] spPick) (HF : HdF K mg gH fdH) (HT : HdT K mg Te BS BT) (LT : LamT base mg TT c PT "_law_refused_right.<locals>.<lambda>") : FnOk P w K mg base CX0 9 f fd ["_law_pen_here", "_law_one"] (spRefR SU TT) := by
  obtain ⟨ds2, v2, b2⟩ := M.b2
  refine F.ok scRefR (fun vs H Q E h => ?_) (fun A outer s H vs Q E hr h => ?_)
  · obtain ⟨p, n, a, i, v, rfl, _⟩ := h
    rfl
  · obtain ⟨p, n, a, i, v, rfl, SA, PN, hn, TB, k⟩ := h
    refine ⟨_, (pss_cons (ps_set (i := 2) scRefR.nd rfl (Or.inr rfl) (pe_call G.ok (hr.mono (by decide)) (by rfl) G.g G.kp G.bn .nil pass0 (pa_cons (pv 0) (pa_cons (pe_lst (pa_cons pe_non (pa_cons pe_int (pa_cons pe_bl (pa_cons pe_str (pa_cons pe_str (pa_cons pe_str (pa_cons pe_str (pa_cons pe_str (pa_cons pe_str (pa_cons pe_str (pa_cons (pe_lst (pa_cons pe_str pa_nil)) (pa_cons (pe_tup (pa_cons pe_str pa_nil)) (pa_cons (pe_disp (pps_cons pe_str pe_int pps_nil) rfl rfl (by simp) (by decide)) (pa_cons (pv 1) pa_nil))))))))))))))) pa_nil))))
      (pss_cons (ps_set (i := 3) scRefR.nd rfl (Or.inr rfl) (pe_call G.ok (hr.mono (by decide)) (by rfl) G.g G.kp G.bn .nil pass0 (pa_cons (pv 0) (pa_cons (pe_lst (pa_cons pe_non (pa_cons pe_bl (pa_cons pe_bl (pa_cons pe_str (pa_cons (pe_lst pa_nil) (pa_cons (pe_tup (pa_cons pe_int pa_nil)) (pa_cons pe_dnewK (pa_cons (pv 1) pa_nil))))))))) pa_nil))))
      (pss_cons (ps_asg (pe_tup (pa_cons (pe_call G.ok (hr.mono (by decide)) (by rfl) G.g G.kp G.bn .nil pass0 (pa_cons (pv 0) (pa_cons (pe_lst (pa_cons pe_non (pa_cons pe_int (pa_cons pe_str (pa_cons (pe_lst (pa_cons pe_str (pa_cons pe_int pa_nil))) (pa_cons (pe_tup (pa_cons pe_str (pa_cons pe_int pa_nil))) (pa_cons pe_dnewK pa_nil))))))) pa_nil))) (pa_cons (pe_lst pa_nil) pa_nil))) (pg_tup (by rfl) (pgs_cons (pg_name (i := 4) scRefR.nd rfl (Or.inr rfl)) (pgs_cons (pg_name (i := 5) scRefR.nd rfl (Or.inl rfl)) pgs_nil))))
      (pss_cons (ps_expr (pe_bm PySem.F.plainAttrs_list PySem.F.slot_list_append PySem.F.type_list_append mt_append (pv 5) (pa_cons (pe_heard HF B HT LT rfl hr (LamX.lamS_by (by show LamX.lamSB (defScope sRefused) _ = true; decide +kernel)) rfl (fun _ _ _ _ _ => rfl) (fun A outer s H E f c2 hr => (pe_make M.cm M.ok (hr.mono (by decide)) (by rfl) T.g b2 v2 (passes_call (takes_of rfl rfl rfl rfl) (fun _ _ _ _ e => e)) (pa_cons (pv 2) pa_nil)))) pa_nil)))
      (pss_cons (ps_expr (pe_bm PySem.F.plainAttrs_list PySem.F.slot_list_append PySem.F.type_list_append mt_append (pv 5) (pa_cons (pe_heard HF B HT LT rfl hr (LamX.lamS_by (by show LamX.lamSB (defScope sRefused) _ = true; decide +kernel)) rfl (fun _ _ _ _ _ => rfl) (fun A outer s H E f c2 hr => (pe_make M.cm M.ok (hr.mono (by decide)) (by rfl) T.g M.b3 .nil (passes_call (takes_of rfl rfl rfl rfl) (fun _ _ _ _ e => e)) (pa_cons (pv 2) (pa_cons (pv 3) pa_nil))))) pa_nil)))
      (pss_cons (ps_expr (pe_bm PySem.F.plainAttrs_list PySem.F.slot_list_append PySem.F.type_list_append mt_append (pv 5) (pa_cons (pe_heard HF B HT LT rfl hr (LamX.lamS_by (by show LamX.lamSB (defScope sRefused) _ = true; decide +kernel)) rfl (fun _ _ _ _ _ => rfl) (fun A outer s H E f c2 hr => (pe_make M.cm M.ok (hr.mono (by decide)) (by rfl) T.g M.b3 .nil (passes_call (takes_of rfl rfl rfl rfl) (fun _ _ _ _ e => e)) (pa_cons pe_str (pa_cons (pv 3) pa_nil))))) pa_nil)))
      (pss_cons (ps_expr (pe_bm PySem.F.plainAttrs_list PySem.F.slot_list_append PySem.F.type_list_append mt_append (pv 5) (pa_cons (pe_heard HF B HT LT rfl hr (LamX.lamS_by (by show LamX.lamSB (defScope sRefused) _ = true; decide +kernel)) rfl (fun _ _ _ _ _ => rfl) (fun A outer s H E f c2 hr => (pe_op (op_binI (op := .Add) (n := 6) rfl OBA.ob OBA.fr (hr.mono (by decide)) (passes_call (takes_of rfl rfl rfl rfl) (fun _ _ _ _ e => e)) : OpR _ (binaryOp .Add) (rBinI K SU "add" (spPlus SU BS (· + ·)) E)) (pv 1) (pv 3)))) pa_nil)))
      (pss_cons (ps_expr (pe_bm PySem.F.plainAttrs_list PySem.F.slot_list_append PySem.F.type_list_append mt_append (pv 5) (pa_cons (pe_heard HF B HT LT rfl hr (LamX.lamS_by (by show LamX.lamSB (defScope sRefused) _ = true; decide +kernel)) rfl (fun _ _ _ _ _ => rfl) (fun A outer s H E f c2 hr => (pe_op (op_binI (op := .Sub) (n := 6) rfl OBS.ob OBS.fr (hr.mono (by decide)) (passes_call (takes_of rfl rfl rfl rfl) (fun _ _ _ _ e => e)) : OpR _ (binaryOp .Sub) (rBinI K SU "sub" (spPlus SU BS (· - ·)) E)) (pv 1) (pv 3)))) pa_nil)))
      (pss_cons (ps_expr (pe_bm PySem.F.plainAttrs_list PySem.F.slot_list_append PySem.F.type_list_append mt_append (pv 5) (pa_cons (pe_heard HF B HT LT rfl hr (LamX.lamS_by (by show LamX.lamSB (defScope sRefused) _ = true; decide +kernel)) rfl (fun _ _ _ _ _ => rfl) (fun A outer s H E f c2 hr => (pe_meth (pv 1) T.su.cl GA.at_ GA.ok (hr.mono (by decide)) GA.bn .nil (passes_call (takes_of rfl rfl rfl rfl) (fun _ _ _ _ e => e)) (pa_cons (pv 4) pa_nil)))) pa_nil)))
      (pss_cons (ps_set (i := 6) scRefR.nd rfl (Or.inl rfl) (pe_lst (pa_cons pe_str (pa_cons pe_str (pa_cons pe_str (pa_cons pe_str (pa_cons pe_str (pa_cons pe_str pa_nil))))))))
      (pss_one (ps_ret (pe_cmpR (op_eqD hr.units) (pv 5) (pe_lc (own := [("_law_part", 7)]) (g := gName 7) rfl scRefR.nd (pi_list (pv 6)) (blkOk_by (own := [("_law_part", 7)]) (N := ["_law_pen_here", "_law_one", "_law_bad", "_law_odd", "_law_far", "_law_heard_here", "_law_parts", "_law_part"]) (sc := defScope sRefused) (by decide +kernel)) (fun _ _ _ _ _ => (pg_name (i := 7) scRefR.nd rfl (Or.inl rfl))) (fun _ _ _ _ _ => pts_nil) (fun _ _ _ _ _ => (pe_tup (pa_cons pe_str (pa_cons (pv 7) pa_nil))))) (nomark _)))))))))))))), ?_⟩
    have np := SA.nep PN
    obtain ⟨hi, dx, ha⟩ := id SA
    refine ⟨_, rfl, (show 1 ≤ sizeLine by decide), fun l1 f1 => ⟨(show 1 ≤ sizeLine by decide), fun t1 f2 => fun d1 f3 => ?_⟩⟩
    refine ⟨upd_same, [(.inr "p", .int 1)], rfl, (by decide), _, rfl, (show 14 ≤ sizeLine by decide), fun l f4 => ?_⟩
    have w1 : Same H (upd (upd H l1 (.lst [.str "p"])) t1 (.tup [.str "p"])) := (same_upd f1).trans (same_upd f2)
    have w2 : Same H (upd (upd (upd H l1 (.lst [.str "p"])) t1 (.tup [.str "p"])) d1 (.dK [])) := w1.trans (same_upd f3)
    have w3 := same_updF w2 (o := .dK (mergeK [] [(.inr "p", .int 1)])) (w1.free f3)
    have w4 := same_updF w3 (a := l) (o := .lst [.non, .int 0, .bl true, .str "", .str "z", .str "z4", .str "x", .str "P", .str "p ", .str "p+1", .ref l1, .ref t1, .ref d1, .ref a]) (w3.free f4)
    have n1 : t1 ≠ l1 := Ne.symm (ne_of_none upd_same f2)
    have n2 : d1 ≠ t1 := Ne.symm (ne_of_none upd_same f3)
    have n3 : d1 ≠ l1 := Ne.symm (ne_of_none (by rw [upd_ne (Ne.symm n1)]; exact upd_same) f3)
    have n4 : l ≠ d1 := Ne.symm (ne_of_none upd_same f4)
    have n5 : l ≠ t1 := Ne.symm (ne_of_none (by rw [upd_ne (Ne.symm n2), upd_ne (Ne.symm n2)]; exact upd_same) f4)
    have n6 : l ≠ l1 := Ne.symm (ne_of_none (by rw [upd_ne (Ne.symm n3), upd_ne (Ne.symm n3), upd_ne (Ne.symm n1)]; exact upd_same) f4)
    have b1 : ∀ (X : List V), upd (upd (upd (upd (upd H l1 (.lst [.str "p"])) t1 (.tup [.str "p"])) d1 (.dK [])) d1 (.dK (mergeK [] [(.inr "p", .int 1)]))) l (.lst X) l1 = some (.lst [.str "p"]) := fun X => by
      rw [upd_ne (Ne.symm n6), upd_ne (Ne.symm n3), upd_ne (Ne.symm n3), upd_ne (Ne.symm n1)]
      exact upd_same
    have b2 : ∀ (X : List V), upd (upd (upd (upd (upd H l1 (.lst [.str "p"])) t1 (.tup [.str "p"])) d1 (.dK [])) d1 (.dK (mergeK [] [(.inr "p", .int 1)]))) l (.lst X) t1 = some (.tup [.str "p"]) := fun X => by
      rw [upd_ne (Ne.symm n5), upd_ne (Ne.symm n2), upd_ne (Ne.symm n2)]
      exact upd_same
    have b3 : ∀ (X : List V), upd (upd (upd (upd (upd H l1 (.lst [.str "p"])) t1 (.tup [.str "p"])) d1 (.dK [])) d1 (.dK (mergeK [] [(.inr "p", .int 1)]))) l (.lst X) d1 = some (.dK (mergeK [] [(.inr "p", .int 1)])) := fun X => by
      rw [upd_ne (Ne.symm n4)]
      exact upd_same
    have q1 : l1 ≠ p := PN.ne f1
    have q2 : t1 ≠ p := PN.ne ((same_upd f1).free f2)
    have q3 : d1 ≠ p := PN.ne (w1.free f3)
    have q4 : l ≠ p := PN.ne (w3.free f4)
    generalize hHh : upd (upd (upd (upd (upd H l1 (.lst [.str "p"])) t1 (.tup [.str "p"])) d1 (.dK [])) d1 (.dK (mergeK [] [(.inr "p", .int 1)]))) l (.lst [.non, .int 0, .bl true, .str "", .str "z", .str "z4", .str "x", .str "P", .str "p ", .str "p+1", .ref l1, .ref t1, .ref d1, .ref a]) = Hh at w4
    have c1 := b1 [.non, .int 0, .bl true, .str "", .str "z", .str "z4", .str "x", .str "P", .str "p ", .str "p+1", .ref l1, .ref t1, .ref d1, .ref a]
    have c2 := b2 [.non, .int 0, .bl true, .str "", .str "z", .str "z4", .str "x", .str "P", .str "p ", .str "p+1", .ref l1, .ref t1, .ref d1, .ref a]
    have c3 := b3 [.non, .int 0, .bl true, .str "", .str "z", .str "z4", .str "x", .str "P", .str "p ", .str "p+1", .ref l1, .ref t1, .ref d1, .ref a]
    rw [hHh] at c1 c2 c3
    have c4 : Hh l = some (.lst [.non, .int 0, .bl true, .str "", .str "z", .str "z4", .str "x", .str "P", .str "p ", .str "p+1", .ref l1, .ref t1, .ref d1, .ref a]) := by rw [← hHh]; exact upd_same
    have PN1 := PN.same w4
    have g1 : ∀ x ∈ [V.non, .int 0, .bl true, .str "", .str "z", .str "z4", .str "x", .str "P", .str "p ", .str "p+1", .ref l1, .ref t1, .ref d1, .ref a], KVal SU p cBad Hh x := by
      intro x hx
      simp only [List.mem_cons, List.not_mem_nil, or_false] at hx
      rcases hx with rfl | rfl | rfl | rfl | rfl | rfl | rfl | rfl | rfl | rfl | rfl | rfl | rfl | rfl
      · exact ⟨_, .non, (fun z => nomatch z), fun i _ e => nomatch e⟩
      · exact ⟨_, .int _, (fun z => nomatch z), fun i _ e => nomatch e⟩
      · exact ⟨_, .bl _, (fun z => nomatch z), fun i _ e => nomatch e⟩
      · exact ⟨_, .str _, (fun z => nomatch z), notNm (by decide +kernel)⟩
      · exact ⟨_, .str _, (fun z => nomatch z), notNm (by decide +kernel)⟩
      · exact ⟨_, .str _, (fun z => nomatch z), notNm (by decide +kernel)⟩
      · exact ⟨_, .str _, (fun z => nomatch z), notNm (by decide +kernel)⟩
      · exact ⟨_, .str _, (fun z => nomatch z), notNm (by decide +kernel)⟩
      · exact ⟨_, .str _, (fun z => nomatch z), notNm (by decide +kernel)⟩
      · exact ⟨_, .str _, (fun z => nomatch z), notNm (by decide +kernel)⟩
      · exact ⟨_, .lst c1, fun z => q1 (V.ref.inj z), fun i _ e => nomatch e⟩
      · exact ⟨_, .tup c2, fun z => q2 (V.ref.inj z), fun i _ e => nomatch e⟩
      · exact ⟨_, .dK c3, fun z => q3 (V.ref.inj z), fun i _ e => nomatch e⟩
      · exact ⟨_, .su (w4 _ _ ha), fun z => np (V.ref.inj z), fun i _ e => nomatch e⟩
    refine ⟨p, l, _, n, rfl, q4, c4, (show 0 < 14 by decide), (show 14 < 1000 by decide), PN1, by omega, fun j x H1 hx e1 p1 => ?_⟩
    have kx := (g1 x (List.mem_of_getElem? hx)).ext (ExtT.ext e1)
    have X1 : Ext p H H1 := (Ext.of w4).trans e1
    have E1 : ExtT p H H1 := .ext X1
    clear hHh c1 c2 c3 b1 b2 b3 c4
    have ha1 := SA.extT E1 np
    obtain ⟨_, dx1, hx1⟩ := id ha1
    refine ⟨_, rfl, (show 0 ≤ sizeLine by decide), fun l2 f5 => ⟨(show 1 ≤ sizeLine by decide), fun t2 f6 => fun d2 f7 => ⟨_, rfl, (show 8 ≤ sizeLine by decide), fun m2 f8 => ?_⟩⟩⟩
    obtain ⟨w5, c1, c2, c3, r1, r2, r3, r4⟩ := chain4 (W := .lst [.non, .bl true, .bl false, .str "1", .ref l2, .ref t2, .ref d2, .ref a]) f5 f6 f7 f8
    generalize hHi : upd (upd (upd (upd H1 l2 (.lst [])) t2 (.tup [.int 1])) d2 (.dK [])) m2 (.lst [.non, .bl true, .bl false, .str "1", .ref l2, .ref t2, .ref d2, .ref a]) = Hi at w5 c1 c2 c3
    have c4 : Hi m2 = some (.lst [.non, .bl true, .bl false, .str "1", .ref l2, .ref t2, .ref d2, .ref a]) := by rw [← hHi]; exact upd_same
    have g2 : ∀ x ∈ [V.non, .bl true, .bl false, .str "1", .ref l2, .ref t2, .ref d2, .ref a], KVal SU p cOdd Hi x := by
      intro x hx
      simp only [List.mem_cons, List.not_mem_nil, or_false] at hx
      rcases hx with rfl | rfl | rfl | rfl | rfl | rfl | rfl | rfl
      · exact ⟨_, .non, (fun z => nomatch z), rfl⟩
      · exact ⟨_, .bl _, (fun z => nomatch z), rfl⟩
      · exact ⟨_, .bl _, (fun z => nomatch z), rfl⟩
      · exact ⟨_, .str _, (fun z => nomatch z), rfl⟩
      · exact ⟨_, .lst c1, fun z => p1.ne r1 (V.ref.inj z), rfl⟩
      · exact ⟨_, .tup c2, fun z => p1.ne r2 (V.ref.inj z), rfl⟩
      · exact ⟨_, .dK c3, fun z => p1.ne r3 (V.ref.inj z), rfl⟩
      · exact ⟨_, .su (w5 _ _ hx1), fun z => np (V.ref.inj z), rfl⟩
    refine ⟨p, m2, _, n + 1, rfl, p1.ne r4, c4, (show 0 < 8 by decide), (show 8 < 1000 by decide), p1.same w5, by omega, fun j2 y H2 hy e2 p2 => ?_⟩
    have X2 : Ext p H1 H2 := (Ext.of w5).trans e2
    have E2 : ExtT p H1 H2 := .ext X2
    have ky := (g2 y (List.mem_of_getElem? hy)).ext (ExtT.ext e2)
    have kx2 := kx.ext E2
    have ha2 := ha1.extT E2 np
    clear hHi c1 c2 c3 c4
    refine ⟨_, rfl, (show 2 ≤ sizeLine by decide), fun l3 f9 => ⟨(show 2 ≤ sizeLine by decide), fun t3 f10 => fun d3 f11 => ⟨(show 6 ≤ sizeLine by decide), fun m3 f12 => ?_⟩⟩⟩
    obtain ⟨w6, c1, c2, c3, r1, r2, r3, r4⟩ := chain4 (W := .lst [.non, .int 0, .str "p", .ref l3, .ref t3, .ref d3]) f9 f10 f11 f12
    generalize hHj : upd (upd (upd (upd H2 l3 (.lst [.str "p", .int 0])) t3 (.tup [.str "z0", .int 5])) d3 (.dK [])) m3 (.lst [.non, .int 0, .str "p", .ref l3, .ref t3, .ref d3]) = Hj at w6 c1 c2 c3
    have c4 : Hj m3 = some (.lst [.non, .int 0, .str "p", .ref l3, .ref t3, .ref d3]) := by rw [← hHj]; exact upd_same
    have g3 : ∀ x ∈ [V.non, .int 0, .str "p", .ref l3, .ref t3, .ref d3], KVal SU p cFar Hj x := by
      intro x hx
      simp only [List.mem_cons, List.not_mem_nil, or_false] at hx
      rcases hx with rfl | rfl | rfl | rfl | rfl | rfl
      · exact ⟨_, .non, (fun z => nomatch z), rfl⟩
      · exact ⟨_, .int _, (fun z => nomatch z), rfl⟩
      · exact ⟨_, .str _, (fun z => nomatch z), rfl⟩
      · exact ⟨_, .lst c1, fun z => p2.ne r1 (V.ref.inj z), rfl⟩
      · exact ⟨_, .tup c2, fun z => p2.ne r2 (V.ref.inj z), rfl⟩
      · exact ⟨_, .dK c3, fun z => p2.ne r3 (V.ref.inj z), rfl⟩
    refine ⟨p, m3, _, n + 2, rfl, p2.ne r4, c4, (show 0 < 6 by decide), (show 6 < 1000 by decide), p2.same w6, by omega, fun j3 u H3 hu e3 p3 => ?_⟩
    have X3 : Ext p H2 H3 := (Ext.of w6).trans e3
    have E3 : ExtT p H2 H3 := .ext X3
    have ku := (g3 u (List.mem_of_getElem? hu)).ext (ExtT.ext e3)
    have kx3 := kx2.ext E3
    have ky3 := ky.ext E3
    have ha3 := ha2.extT E3 np
    clear hHj c1 c2 c3 c4
    refine ⟨(show 0 ≤ sizeLine by decide), fun l f13 => ⟨(show 2 ≤ sizeLine by decide), fun tt f14 => ?_⟩⟩
    refine ⟨tt, [u, .ref l], rfl, SqT.of upd_same, rfl, _, _, rfl, _, _, rfl, rfl, ?_⟩
    obtain ⟨tb1, kx3, _, kxb⟩ := kx3
    obtain ⟨tb2, ky3, _, kyo⟩ := ky3
    obtain ⟨tb3, ku, _, kuf⟩ := ku
    have sA : Same H3 (upd (upd H3 l (.lst [])) tt (.tup [u, .ref l])) := (same_upd f13).trans (same_upd f14)
    obtain ⟨ppx, hpp⟩ := PN.there
    have TB3 : LamX.Tabs TT H3 := tabs_ext TB hpp ((X1.trans X2).trans X3).keep
    have R0 : RInv TT H3 l [] (upd (upd H3 l (.lst [])) tt (.tup [u, .ref l])) := ⟨fun b o e _ => sA _ _ e, f13, ⟨[], same_upd f14 _ _ upd_same, .nil⟩, tabs_same TB3 sA⟩
    have tyx : ∀ Hx, LamX.ExtN H3 Hx → TyS SU Hx x tb1 := fun Hx eN => kx3.extT (p := p) (.n eN) ‹_›
    have tyy : ∀ Hx, LamX.ExtN H3 Hx → TyS SU Hx y tb2 := fun Hx eN => ky3.extT (p := p) (.n eN) ‹_›
    have tyu : ∀ Hx, LamX.ExtN H3 Hx → TyS SU Hx u tb3 := fun Hx eN => ku.extT (p := p) (.n eN) ‹_›
    have sua : ∀ Hx, LamX.ExtN H3 Hx → SumAt SU Hx a i v := fun Hx eN => ha3.extT (p := p) (.n eN) np
    refine heard_step (q := "source") R0 (by decide) (by rfl) (fun Hx Qx Ex eN r => ?_) (fun Ha Ra => ?_)
    · exact ⟨_, rfl, fun x1 dx1 h1 h2 _ => make_bad h1 h2 (tyx _ eN) kxb (.int 0) r⟩
    refine heard_step (q := "source") Ra (by decide) (by rfl) (fun Hx Qx Ex eN r => ?_) (fun Hb Rb => ?_)
    · exact ⟨_, rfl, _, rfl, fun x1 dx1 h1 h2 _ => make_bad h1 h2 (tyx _ eN) kxb (tyy _ eN) r⟩
    refine heard_step (q := "number") Rb (by decide) (by rfl) (fun Hx Qx Ex eN r => ?_) (fun Hc Rc => ?_)
    · exact ⟨_, rfl, fun x1 dx1 h1 h2 _ => make_odd (i := 4) (by decide) h1 h2 (tyy _ eN) kyo r⟩
    refine heard_step (q := "number") Rc (by decide) (by rfl) (fun Hx Qx Ex eN r => ?_) (fun Hd Rd => ?_)
    · obtain ⟨_, dxa, hxa⟩ := sua _ eN
      exact ⟨_, rfl, _, rfl, a, dxa, _, tb2, rfl, hxa, (tyy _ eN).tyX T.su, (tyy _ eN).right OBA.rt, a, y, tb2, i, v, rfl, sua _ eN, tyy _ eN, .inr ⟨kyo, r⟩⟩
    refine heard_step (q := "number") Rd (by decide) (by rfl) (fun Hx Qx Ex eN r => ?_) (fun He Re => ?_)
    · obtain ⟨_, dxa, hxa⟩ := sua _ eN
      exact ⟨_, rfl, _, rfl, a, dxa, _, tb2, rfl, hxa, (tyy _ eN).tyX T.su, (tyy _ eN).right OBS.rt, a, y, tb2, i, v, rfl, sua _ eN, tyy _ eN, .inr ⟨kyo, r⟩⟩
    refine heard_step (q := "other") Re (by decide) (by rfl) (fun Hx Qx Ex eN r => ?_) (fun Hf Rf => ?_)
    · obtain ⟨_, dxa, hxa⟩ := sua _ eN
      exact ⟨_, rfl, a, dxa, _, rfl, hxa, rfl, _, rfl, a, u, tb3, i, v, rfl, sua _ eN, tyu _ eN, .inr ⟨kuf, r⟩⟩
    refine ⟨(show 6 ≤ sizeLine by decide), fun lp f15 => ⟨_, rfl, _, rfl, lp, rfl, ⟨_, SqL.of upd_same⟩, fun D fD => ?_⟩⟩
    refine lc_sum (slot := 7) (qs := ["source", "source", "number", "number", "number", "other"]) (by decide) upd_same fD (fun _ => rfl) (fun q Hx Qx qx => ⟨_, rfl, (show 2 ≤ sizeLine by decide), qx⟩) fun Hx rows2 s2 hD2 hr2 => ?_
    obtain ⟨rows, hr, hp⟩ := Rf.at_
    have s3 : Same Hf Hx := (same_upd f15).trans s2
    have r1 : SumRows Hx rows ["source", "source", "number", "number", "number", "other"] := SumRows.same (Paired.mapP hp fun v q ⟨t, e, _, h⟩ => ⟨t, e, h⟩) s3
    refine ⟨_, _, .lst (SqL.of (s3 _ _ hr)) r1.dp, .lst (SqL.of hD2) hr2.dp, (by decide +kernel), (by decide +kernel), ?_⟩
    have eT : PyData.eqv (.list (sumDat ["source", "source", "number", "number", "number", "other"])) (.list (sumDat ["source", "source", "number", "number", "number", "other"])) = true := by decide +kernel
    rw [eT]
    have eN : LamX.ExtN H3 Hx := fun b o e nt => s3 _ _ (Rf.e _ _ e nt)
    refine k Hx (((E1.trans E2).trans E3).trans (.n eN)) ((p3.n eN).mono (by omega)) (tabs_same Rf.tabs s3)
end
end K08
set_option Elab.async false
set_option linter.all false
set_option maxRecDepth 100000
set_option maxHeartbeats 8000000
namespace K08
open PySem PySem.Spec PyProof.Rows L2 My MyX TL NumText
/-! ### dicts by their keys -/
theorem valV_none {κ : Type} [DecidableEq κ] {k : κ} : ∀ {kvs : List (κ × V)}, (∀ kv ∈ kvs, kv.1 ≠ k) → valV kvs k = none
  | [], _ => rfl
  | q :: r, h => by
    rw [valV_neg (h q (List.mem_cons_self ..))]
    exact valV_none fun kv hm => h kv (List.mem_cons_of_mem _ hm)
theorem valV_mem {κ : Type} [DecidableEq κ] : ∀ {kvs : List (κ × V)}, (kvs.map (·.1)).Nodup → ∀ {kv : κ × V}, kv ∈ kvs → valV kvs kv.1 = some kv.2
  | [], _, _, h => nomatch h
  | q :: r, hn, kv, h => by
    rw [List.map_cons, List.nodup_cons] at hn
    rcases List.mem_cons.mp h with rfl | h
    · exact valV_pos rfl
    · rw [valV_neg (fun e => hn.1 (by rw [e]; exact List.mem_map.mpr ⟨kv, h, rfl⟩))]
      exact valV_mem hn.2 h
theorem mergeK_nd : ∀ (l acc : List (Key × V)), ((acc ++ l).map (·.1)).Nodup → mergeK acc l = acc ++ l
  | [], acc, _ => (List.append_nil acc).symm
  | q :: r, acc, h => by
    have hne : valV acc q.1 = none := valV_none fun kv hm e => by
      rw [List.map_append, List.map_cons, List.nodup_append] at h
      exact h.2.2 kv.1 (List.mem_map.mpr ⟨kv, hm, rfl⟩) q.1 (List.mem_cons_self ..) e
    have e1 : putK acc q.1 q.2 = acc ++ [q] := putK_new q.2 hne
    show mergeK (putK acc q.1 q.2) r = acc ++ q :: r
    rw [e1, mergeK_nd r (acc ++ [q]) (by rw [List.append_assoc]; exact h), List.append_assoc]
    rfl
theorem merge0 {l : List (Key × V)} (h : (l.map (·.1)).Nodup) : mergeK [] l = l := mergeK_nd l [] h
def DN : List Str := ["s", "p", "o", "z3", "z2", "z1", "z0"]
def DXs : List Str := ["s", "p", "o", "z3", "z2", "z1", "z0", "x"]
def DX : List Key := DXs.map .inr
structure NumD (kvs : List (Key × V)) : Prop where
  ks : kvs.map (·.1) = DX
  vs : ∀ kv ∈ kvs, (∃ m, kv.2 = .int m) ∨ (kv.1 = .inr "x" ∧ kv.2 = .non)
theorem NumD.nd {kvs : List (Key × V)} (h : NumD kvs) : (kvs.map (·.1)).Nodup := by
  rw [h.ks]
  decide +kernel
theorem nm_DX {i : Nat} (hi : i < 7) : (Sum.inr (nm i) : Key) ∈ DX ∧ (Sum.inr (nm i) : Key) ≠ .inr "x" := by
  have : ∀ i : Fin 7, nm i.val ∈ DXs ∧ nm i.val ≠ "x" := by decide +kernel
  obtain ⟨h1, h2⟩ := this ⟨i, hi⟩
  exact ⟨List.mem_map.mpr ⟨_, h1, rfl⟩, fun e => h2 (Sum.inr.inj e)⟩
theorem NumD.at {kvs : List (Key × V)} (h : NumD kvs) {i : Nat} (hi : i < 7) : ∃ m, valV kvs (.inr (nm i)) = some (.int m) := by
  have hm := (nm_DX hi).1
  rw [← h.ks] at hm
  obtain ⟨kv, hk, e⟩ := List.mem_map.mp hm
  have := valV_mem h.nd hk
  rw [e] at this
  rcases h.vs kv hk with ⟨m, q⟩ | ⟨q, _⟩
  · exact ⟨m, by rw [this, q]⟩
  · exact ((nm_DX hi).2 (by rw [← e]; exact q)).elim
theorem NumD.len {kvs : List (Key × V)} (h : NumD kvs) : kvs.length = 8 := by
  have := congrArg List.length h.ks
  rw [List.length_map] at this
  exact this
theorem NumD.flat {kvs : List (Key × V)} (h : NumD kvs) : ∀ q ∈ kvs, valV kvs q.1 = some q.2 ∧ flatB q.2 = true := fun q hq => ⟨valV_mem h.nd hq, by
  rcases h.vs q hq with ⟨m, e⟩ | ⟨_, e⟩ <;> rw [e] <;> rfl⟩
theorem NumD.of {kvs : List (Key × V)} (hk : kvs.map (·.1) = DN.map .inr) (hv : ∀ kv ∈ kvs, ∃ m, kv.2 = V.int m) : NumD (putK (mergeK [] kvs) (.inr "x") .non) := by
  have hnd : (kvs.map (·.1)).Nodup := by rw [hk]; decide +kernel
  have hx : valV kvs (.inr "x") = none := valV_none fun kv hm e => by
    have : kv.1 ∈ kvs.map (·.1) := List.mem_map.mpr ⟨kv, hm, rfl⟩
    rw [hk, e] at this
    obtain ⟨z, hz, ez⟩ := List.mem_map.mp this
    rw [Sum.inr.inj ez] at hz
    exact absurd hz (by decide +kernel)
  rw [merge0 hnd, putK_new _ hx]
  refine ⟨?_, fun kv hm => ?_⟩
  · rw [List.map_append, hk]
    rfl
  · rcases List.mem_append.mp hm with h | h
    · exact .inl (hv kv h)
    · obtain rfl := List.mem_singleton.mp h
      exact .inr ⟨rfl, rfl⟩
/-! ### the two comprehensions -/
theorem lc_nums {K : PySem.W.Frag} {p L D : Addr} {n slot : Nat} {te : L2.TE} {vs : List Nat} {σ : L2.St} {H1 : Hp} {Qd : Hp → Prop} (hL : H1 L = some (.lst (DN.map V.str))) (nL : L ≠ p) (hD : H1 D = none) (PN : PenAt H1 p n) (hn : n ≤ 99000) (hw : ∀ x, wipe ((wipe σ vs).set slot (some x)) vs = wipe σ vs)
    (he : ∀ (q : Str) (m : Nat) (Hx : Hp) (Q : VK), PenAt Hx p m → m ≤ 99990 → (∀ v t H2, Ext p Hx H2 → PenAt H2 p (m + 3) → H2 t = none → Q (.ref t) (upd H2 t (.tup [.str q, .int v]))) → te ((wipe σ vs).set slot (some (.str q))) Hx Q)
    (hd : ∀ Hx ts kvs, Ext p H1 Hx → PenAt Hx p (n + 21) → Hx D = some (.lst (ts.map V.ref)) → Paired (fun (t : Addr) (kv : Key × V) => Hx t = some (.tup [kV kv.1, kv.2])) ts kvs → kvs.map (·.1) = DN.map .inr → (∀ kv ∈ kvs, ∃ m, kv.2 = V.int m) → Qd Hx) :
    ∃ W : Nat → Nat → Hp → Prop, (∃ m, W 0 m (upd H1 D (.lst []))) ∧ ∀ i m H, W i m H →
      ((Itl K L).stop i H ∧ Qd H) ∨ ((Itl K L).go i H ∧ ∃ Nx : Hp → Prop, (∀ H', Nx H' → ∃ m', m' < m ∧ W (i + 1) m' H') ∧ ∀ x H', (Itl K L).yld i H x H' → gName slot x (wipe σ vs) H' fun σ2 H2 => wipe σ2 vs = wipe σ vs ∧ tYes σ2 H2 fun b H3 =>
        if b = true then te σ2 H3 fun y H4 => ∃ acc, H4 D = some (.lst acc) ∧ acc.length < sizeLine ∧ Nx (upd H4 D (.lst (acc ++ [y]))) else Nx H3) := by
  have nD : D ≠ p := PN.ne hD
  refine lc_it (walk_list (K := K) (a := L) (xs := DN.map V.str)) (fun i H => Ext p H1 H ∧ PenAt H p (n + 3 * i) ∧ ∃ (ts : List Addr) (kvs : List (Key × V)), H D = some (.lst (ts.map V.ref)) ∧ Paired (fun (t : Addr) (kv : Key × V) => t ≠ D ∧ t ≠ p ∧ H t = some (.tup [kV kv.1, kv.2])) ts kvs ∧ kvs.map (·.1) = (DN.take i).map .inr ∧ ∀ kv ∈ kvs, ∃ m, kv.2 = V.int m)
    ⟨Ext.new hD, PN.same (same_upd hD), [], [], upd_same, .nil, rfl, fun _ h => nomatch h⟩ (fun i H _ q => SqL.of (q.1 _ _ hL nL)) (fun i x H H' hi q y => ?_) (fun H q => ?_)
  · obtain ⟨X, pn, ts, kvs, hr, hp, hk, hv⟩ := q
    obtain ⟨rfl, hx⟩ := y
    have hi : i < 7 := hi
    rw [List.getElem?_map] at hx
    cases hq : DN[i]? with
    | none => rw [hq] at hx; cases hx
    | some z =>
      rw [hq] at hx
      obtain rfl : V.str z = x := Option.some.inj hx
      refine ⟨hw _, tYes_if (he z (n + 3 * i) _ _ pn (by omega) fun v t H2 e2 p2 ht => ?_)⟩
      have r2 := e2 _ _ hr nD
      have tD : t ≠ D := fun e => by rw [e, r2] at ht; cases ht
      have tp : t ≠ p := p2.ne ht
      have sT : Same H2 (upd H2 t (.tup [.str z, .int v])) := same_upd ht
      have hl : ts.length = i := by
        have h1 := Paired.length hp
        have h2 := congrArg List.length hk
        rw [List.length_map, List.length_map, List.length_take] at h2
        have : DN.length = 7 := rfl
        omega
      refine ⟨ts.map V.ref, ?_, ?_, ?_, ?_, ts ++ [t], kvs ++ [(.inr z, .int v)], ?_, ?_, ?_, ?_⟩
      · exact sT _ _ r2
      · rw [List.length_map]
        exact Nat.lt_of_le_of_lt (by omega : _ ≤ 1000) (by rw [sizeLine_eq]; decide)
      · have X2 := X.trans (e2.trans (.of sT))
        refine ⟨fun b u h nb => ?_, fun c x y h => ?_⟩
        · rw [upd_ne (ne_of_none h hD)]
          exact X2 _ _ h nb
        · rw [upd_ne nD.symm]
          exact X2.pen c x y h
      · obtain ⟨c, ns, at_, g, h1, h2, h3, h4, h5, h6⟩ := (p2.same sT).ex
        refine ⟨c, ns, at_, g, by rw [upd_ne nD.symm]; exact h1, h2, ?_, h4, h5, by omega⟩
        rw [upd_ne (fun e => ?_)]
        · exact h3
        · obtain ⟨c0, ns0, a0, g0, k1, k2, k3, _⟩ := PN.ex
          obtain ⟨x1, y1, q1⟩ := (X.trans e2).pen _ _ _ k1
          have q2 := sT _ _ q1
          rw [h1] at q2
          cases q2
          rw [e, hD] at k3
          cases k3
      · rw [List.map_append]
        exact upd_same
      · refine paired_app (Paired.mapP hp fun t' kv ⟨n1, n2, h⟩ => ⟨n1, n2, ?_⟩) (.cons ⟨tD, tp, ?_⟩ .nil)
        · rw [upd_ne n1]
          exact sT _ _ (e2 _ _ h n2)
        · rw [upd_ne tD]
          exact upd_same
      · rw [List.map_append, hk, List.take_add_one, hq, List.map_append]
        rfl
      · intro kv hm
        rcases List.mem_append.mp hm with h | h
        · exact hv kv h
        · obtain rfl := List.mem_singleton.mp h
          exact ⟨v, rfl⟩
  · obtain ⟨X, pn, ts, kvs, hr, hp, hk, hv⟩ := q
    exact hd H ts kvs X pn hr (Paired.mapP hp fun t kv h => h.2.2) (by rw [hk]; rfl) hv
theorem valV_merge {k : Key} : ∀ (l acc : List (Key × V)), valV acc k = none → (∀ kv ∈ l, kv.1 ≠ k) → valV (mergeK acc l) k = none
  | [], _, h, _ => h
  | q :: r, acc, h, hl => valV_merge r (putK acc q.1 q.2) (by rw [valV_put, if_neg (fun e => hl q (List.mem_cons_self ..) e.symm)]; exact h) fun kv hm => hl kv (List.mem_cons_of_mem _ hm)
theorem Ext.freeP {p l : Addr} {H H' : Hp} {n : Nat} (e : Ext p H H') (P : PenAt H' p n) (h : H' l = none) : H l = none := by
  cases q : H l with
  | none => rfl
  | some u =>
    have := e.keep l u q (P.ne h)
    rw [h] at this
    cases this
theorem ext_updF {p a : Addr} {H G : Hp} {o : HO} (e : Ext p H G) (h : H a = none) (na : a ≠ p) : Ext p H (upd G a o) := ⟨fun b u k n => by
  rw [upd_ne (ne_of_none k h)]
  exact e.keep b u k n, fun c x y k => by
  obtain ⟨x', y', k'⟩ := e.pen c x y k
  exact ⟨x', y', by rw [upd_ne na.symm]; exact k'⟩⟩
theorem pen_updF {p a : Addr} {H G : Hp} {o : HO} {n m : Nat} (P0 : PenAt H p m) (e : Ext p H G) (h : H a = none) (P : PenAt G p n) : PenAt (upd G a o) p n := by
  obtain ⟨c0, ns0, a0, g0, k1, k2, k3, _⟩ := P0.ex
  obtain ⟨c, ns, at_, g, h1, h2, h3, h4, h5, h6⟩ := P.ex
  obtain ⟨x1, y1, q1⟩ := e.pen _ _ _ k1
  rw [h1] at q1
  cases q1
  have na : p ≠ a := fun z => by rw [z, h] at k1; cases k1
  have nc : c0 ≠ a := fun z => by rw [z, h] at k3; cases k3
  exact ⟨c0, ns, at_, g, by rw [upd_ne na]; exact h1, h2, by rw [upd_ne nc]; exact h3, h4, h5, h6⟩
theorem lc_less {d D : Addr} {od : Obj} {slot : Nat} {te : L2.TE} {tt : L2.TT} {vs : List Nat} {σ : L2.St} {H1 : Hp} {kvs : List (Key × V)} {key : Key} {Qd : Hp → Prop} (hl : H1 d = some (.frz od (.dK kvs))) (hn : kvs.length ≤ 1000) (nd : (kvs.map (·.1)).Nodup) (hD : H1 D = none) (hw : ∀ x, wipe ((wipe σ vs).set slot (some x)) vs = wipe σ vs)
    (ht : ∀ (k : Key) (Hx : Hp) (Q : Bool → Hp → Prop), k ∈ kvs.map (·.1) → Q (decide (k ≠ key)) Hx → tt ((wipe σ vs).set slot (some (kV k))) Hx Q)
    (he : ∀ (k : Key) (v : V) (Hx : Hp) (Q : VK), Hx d = some (.frz od (.dK kvs)) → valV kvs k = some v → (∀ t, Hx t = none → Q (.ref t) (upd Hx t (.tup [kV k, v]))) → te ((wipe σ vs).set slot (some (kV k))) Hx Q)
    (hd : ∀ Hx ts kvs', Same H1 Hx → Hx D = some (.lst (ts.map V.ref)) → Paired (fun (t : Addr) (kv : Key × V) => Hx t = some (.tup [kV kv.1, kv.2])) ts kvs' → (∀ kv ∈ kvs', kv.1 ≠ key) → Qd Hx) :
    ∃ W : Nat → Nat → Hp → Prop, (∃ m, W 0 m (upd H1 D (.lst []))) ∧ ∀ i m H, W i m H →
      ((Itk d od kvs).stop i H ∧ Qd H) ∨ ((Itk d od kvs).go i H ∧ ∃ Nx : Hp → Prop, (∀ H', Nx H' → ∃ m', m' < m ∧ W (i + 1) m' H') ∧ ∀ x H', (Itk d od kvs).yld i H x H' → gName slot x (wipe σ vs) H' fun σ2 H2 => wipe σ2 vs = wipe σ vs ∧ tt σ2 H2 fun b H3 =>
        if b = true then te σ2 H3 fun y H4 => ∃ acc, H4 D = some (.lst acc) ∧ acc.length < sizeLine ∧ Nx (upd H4 D (.lst (acc ++ [y]))) else Nx H3) := by
  refine lc_it (walk_keys (d := d) (o := od) (kvs := kvs)) (fun i H => Same H1 H ∧ ∃ (ts : List Addr) (ks : List (Key × V)), H D = some (.lst (ts.map V.ref)) ∧ Paired (fun (t : Addr) (kv : Key × V) => t ≠ D ∧ H t = some (.tup [kV kv.1, kv.2])) ts ks ∧ (∀ kv ∈ ks, kv.1 ≠ key) ∧ ts.length ≤ i)
    ⟨same_upd hD, [], [], upd_same, .nil, (fun _ h => nomatch h), Nat.le_refl _⟩ (fun i H _ q => q.1 _ _ hl) (fun i x H H' hi q y => ?_) (fun H q => ?_)
  · obtain ⟨s, ts, ks, hr, hp, hk, hlen⟩ := q
    obtain ⟨rfl, k, v, hx, rfl⟩ := y
    have hm : (k, v) ∈ kvs := List.mem_of_getElem? hx
    refine ⟨hw _, ht k _ _ (List.mem_map.mpr ⟨_, hm, rfl⟩) (ifd (fun hkk => ?_) (fun hkk => ?_))⟩
    · refine he k v _ _ (s _ _ hl) (valV_mem nd hm) fun t ft => ⟨ts.map V.ref, ?_, ?_, ?_, ts ++ [t], ks ++ [(k, v)], ?_, ?_, ?_, ?_⟩
      · exact same_upd ft _ _ hr
      · rw [List.length_map]
        exact Nat.lt_of_le_of_lt (by omega : _ ≤ 1000) (by rw [sizeLine_eq]; decide)
      · exact same_updF (s.trans (same_upd ft)) hD
      · rw [List.map_append]
        exact upd_same
      · have tD : t ≠ D := fun z => by rw [z, hr] at ft; cases ft
        refine paired_app (Paired.mapP hp fun t' kv ⟨n1, h⟩ => ⟨n1, ?_⟩) (.cons ⟨tD, ?_⟩ .nil)
        · rw [upd_ne n1]
          exact same_upd ft _ _ h
        · rw [upd_ne tD]
          exact upd_same
      · intro kv hm'
        rcases List.mem_append.mp hm' with h | h
        · exact hk kv h
        · obtain rfl := List.mem_singleton.mp h
          exact hkk
      · rw [List.length_append, List.length_singleton]
        omega
    · exact ⟨s, ts, ks, hr, hp, hk, by omega⟩
  · obtain ⟨s, ts, ks, hr, hp, hk, hlen⟩ := q
    exact hd H ts ks s hr (Paired.mapP hp fun t kv h => h.2) hk
def cOdD : V → Value → Prop := fun x t => isInt x = false ∧ isDt t = false
theorem TyS.updD {SU d : Addr} {H : Hp} {o : HO} {x : V} {t : Value} {ks : List (Key × V)} (h : TyS SU H x t) (hn : isDt t = false) (hd : H d = some (.dK ks)) : TyS SU (upd H d o) x t := by
  cases h with
  | non => exact .non
  | bl b => exact .bl b
  | int i => exact .int i
  | str z => exact .str z
  | lst q => exact .lst (by rw [upd_ne (ne_of q hd (fun z => nomatch z))]; exact q)
  | tup q => exact .tup (by rw [upd_ne (ne_of q hd (fun z => nomatch z))]; exact q)
  | dK q => cases hn
  | su q => exact .su (by rw [upd_ne (ne_of q hd (fun z => nomatch z))]; exact q)
/-- a value that value_in refuses for the i-th name -/
def NumBad (SU p : Addr) (i : Nat) (H : Hp) (x : V) : Prop := ∃ t, TyS SU H x t ∧ x ≠ .ref p ∧ (isDt t = false ∨ ∃ d kvs t2, x = .ref d ∧ H d = some (.dK kvs) ∧ TyS SU H ((valV kvs (.inr (nm i))).getD .non) t2 ∧ (valV kvs (.inr (nm i))).getD .non ≠ .ref p ∧ isInt ((valV kvs (.inr (nm i))).getD .non) = false)
theorem NumBad.ext {SU p : Addr} {i : Nat} {H H' : Hp} {x : V} (h : NumBad SU p i H x) (e : ExtT p H H') : NumBad SU p i H' x := by
  obtain ⟨t, h1, h2, h3⟩ := h
  refine ⟨t, h1.extT e h2, h2, h3.imp id fun ⟨d, kvs, t2, k1, k2, k3, k4, k5⟩ => ⟨d, kvs, t2, k1, e _ _ k2 (fun z => h2 (by rw [k1, z])) (fun _ z => nomatch z), k3.extT e k4, k4, k5⟩⟩
section
variable {P : Program} {w : World} {K : PySem.W.Frag} {mg : Str → Option Value} {base : Heap} {SU nA BS BT Te fI fGv fN fG gH c PT : Addr} {fdI fdGv fdG fdN fdH : FuncData} {TT : List (Addr × Str)}
def spValR (SU : Addr) (TT : List (Addr × Str)) : Sp := fun vs H Q _ => ∃ p n a i v, vs = [.ref p, .ref a, .str (nm i), .int v] ∧ SumAt SU H a i v ∧ PenAt H p n ∧ n ≤ 98000 ∧ LamX.Tabs TT H ∧ ∀ H', ExtT p H H' → PenAt H' p (n + 30) → LamX.Tabs TT H' → Q (.bl true) H'
theorem scValR : FnScope ["_law_pen_here", "_law_one", "_law_source", "_law_number_here", "_law_numbers", "_law_name", "_law_kept", "_law_worse", "_law_less", "_law_odd"] ["_law_pen_here", "_law_one", "_law_source", "_law_number_here"] (defScope sValues) := ⟨rfl, rfl, rfl, by decide +kernel, rfl, by decide +kernel, by decide +kernel⟩
structure MekT (P : Program) (w : World) (K : PySem.W.Frag) (mg : Str → Option Value) (base : Heap) (CX : CXT) (k : Nat) (C : Addr) (m : Str) (f : Addr) (fd : FuncData) (ps ks : List Str) (g : List Value → List Value → List Value) (sp : Sp) : Prop where
  ok : FnOk P w K mg base CX k f fd ps sp
  bn : Binds K fd ps []
  bk : KBn K fd ps 1 ks g (fun vs zs => vs ++ zs)
  at_ : Meth K C m f
theorem ok_values {f : Addr} {fd : FuncData} {gk : List Value → List Value → List Value} (F : FunL K "_law_values_right" "_law_values_right" sValues f fd c) (B : Blt mg) (T : SmT K mg SU nA)
    (GV : MekT P w K mg base (L2.CX P w) 4 SU "value_in" fGv fdGv ["self", "numbers"] ["numbers"] gk (spValIn SU BS)) (GN : FnT P w K mg base CX0 2 "_law_number" fN fdN ["_law_pen_here"] spNumber)
    (G : FnT P w K mg base CX0 2 "_law_pick" fG fdG ["_law_pen_here", "_law_some"] spPick) (HF : HdF K mg gH fdH) (HT : HdT K mg Te BS BT) (LT : LamT base mg TT c PT "_law_values_right.<locals>.<lambda>") : FnOk P w K mg base CX0 9 f fd ["_law_pen_here", "_law_one", "_law_source", "_law_number_here"] (spValR SU TT) := by
  refine F.ok scValR (fun vs H Q E h => ?_) (fun A outer s H vs Q E hr h => ?_)
  · obtain ⟨p, n, a, i, v, rfl, _⟩ := h
    rfl
  · obtain ⟨p, n, a, i, v, rfl, SA, PN, hn, TB, k⟩ := h
    refine ⟨_, (pss_cons (ps_set (i := 4) scValR.nd rfl (Or.inl rfl) (pe_callTy (call_dictP rfl) (by rfl) B.dict (by decide +kernel) (pa_cons (pe_lc (own := [("_law_name", 5)]) (g := gName 5) rfl scValR.nd (pi_list (pe_lst (pa_cons pe_str (pa_cons pe_str (pa_cons pe_str (pa_cons pe_str (pa_cons pe_str (pa_cons pe_str (pa_cons pe_str pa_nil))))))))) (blkOk_by (own := [("_law_name", 5)]) (N := ["_law_pen_here", "_law_one", "_law_source", "_law_number_here", "_law_numbers", "_law_name", "_law_kept", "_law_worse", "_law_less", "_law_odd"]) (sc := defScope sValues) (by decide +kernel)) (fun _ _ _ _ _ => (pg_name (i := 5) scValR.nd rfl (Or.inl rfl))) (fun _ _ _ _ _ => pts_nil) (fun _ _ _ _ _ => (pe_tup (pa_cons (pv 5) (pa_cons (pe_call GN.ok (hr.mono (by decide)) (by rfl) GN.g GN.kp GN.bn .nil pass0 (pa_cons (pv 0) pa_nil)) pa_nil))))) pa_nil)))
      (pss_cons (ps_dput (hu_of hr) (pv 4) pe_str pe_non (by rfl))
      (pss_cons (ps_set (i := 6) scValR.nd rfl (Or.inr rfl) (pe_callTy (call_dictP rfl) (by rfl) B.dict (by decide +kernel) (pa_cons (LiI.pe_listItems rfl (pv 4) (by rfl) B.list PyProof.Rows.boot_list) pa_nil)))
      (pss_cons (ps_if (PW.pt (pw_or (pt_cmpR op_ne (pe_meth (pv 1) T.su.cl GV.at_ GV.ok (hr.mono (by decide)) GV.bn .nil passQ (pa_cons (pv 4) pa_nil)) (pe_op op_add (pe_dget (hu_of hr) (pv 6) (pv 2) (fun _ _ => rfl)) (pv 3)) (nomark _)) (pw_or1 (pt_cmpR (op_ne_dictA hr.units0) (pv 4) (pv 6) (nomark _))))) (pss_one (ps_ret pe_bl)) pss_nil)
      (pss_cons (ps_if (pt_cmpR op_ne (pe_methK (pv 1) T.su.cl GV.at_ GV.ok (hr.mono (by decide)) GV.bk passQ (pk_cons (pe_disp (pps_cons (pv 2) pe_int pps_nil) rfl rfl (by simp) (by decide)) pk_nil)) (pe_op op_add pe_int (pv 3)) (nomark _)) (pss_one (ps_ret pe_bl)) pss_nil)
      (pss_cons (ps_set (i := 7) scValR.nd rfl (Or.inl rfl) (pe_callTy (call_dictP rfl) (by rfl) B.dict (by decide +kernel) (pa_cons (LiI.pe_listItems rfl (pv 6) (by rfl) B.list PyProof.Rows.boot_list) pa_nil)))
      (pss_cons (ps_dput (hu_of hr) (pv 7) (pv 2) (pe_call G.ok (hr.mono (by decide)) (by rfl) G.g G.kp G.bn .nil pass0 (pa_cons (pv 0) (pa_cons (pe_lst (pa_cons pe_non (pa_cons pe_bl (pa_cons pe_bl (pa_cons pe_str (pa_cons (pe_lst (pa_cons pe_int pa_nil)) (pa_cons (pe_tup (pa_cons pe_int pa_nil)) (pa_cons (pv 1) pa_nil)))))))) pa_nil))) (by rfl))
      (pss_cons (ps_set (i := 8) scValR.nd rfl (Or.inl rfl) (pe_callTy (call_dictP rfl) (by rfl) B.dict (by decide +kernel) (pa_cons (pe_lock (pe_lc (own := [("_law_name", 5)]) (g := gName 5) rfl scValR.nd (pi_keys (pv 6)) (blkOk_by (own := [("_law_name", 5)]) (N := ["_law_pen_here", "_law_one", "_law_source", "_law_number_here", "_law_numbers", "_law_name", "_law_kept", "_law_worse", "_law_less", "_law_odd"]) (sc := defScope sValues) (by decide +kernel)) (fun _ _ _ _ _ => (pg_name (i := 5) scValR.nd rfl (Or.inl rfl))) (fun _ _ _ _ _ => pts_one (pt_cmpR op_ne (pv 5) (pv 2) (nomark _))) (fun _ _ _ _ _ => (pe_tup (pa_cons (pv 5) (pa_cons (pe_dget (hu_of hr) (pv 6) (pv 5) (fun _ _ => rfl)) pa_nil)))))) pa_nil)))
      (pss_cons (ps_set (i := 9) scValR.nd rfl (Or.inr rfl) (pe_call G.ok (hr.mono (by decide)) (by rfl) G.g G.kp G.bn .nil pass0 (pa_cons (pv 0) (pa_cons (pe_lst (pa_cons pe_non (pa_cons pe_int (pa_cons pe_bl (pa_cons pe_str (pa_cons (pe_lst pa_nil) (pa_cons (pe_tup pa_nil) (pa_cons (LiI.pe_listItems rfl (pv 6) (by rfl) B.list PyProof.Rows.boot_list) (pa_cons (pv 1) (pa_cons pe_dnewK (pa_cons (pv 8) (pa_cons (pv 7) pa_nil)))))))))))) pa_nil))))
      (pss_one (ps_ret (pe_cmpR (op_eqD hr.units) (pe_heard HF B HT LT rfl hr (LamX.lamS_by (by show LamX.lamSB (defScope sValues) _ = true; decide +kernel)) rfl (fun _ _ _ _ _ => rfl) (fun A outer s H E f c2 hr => (pe_meth (pv 1) T.su.cl GV.at_ GV.ok (hr.mono (by decide)) GV.bn .nil (passes_call (takes_of rfl rfl rfl rfl) (fun _ _ _ _ e => e)) (pa_cons (pv 9) pa_nil)))) (pe_tup (pa_cons pe_str (pa_cons pe_str pa_nil))) (nomark _))))))))))))), ?_⟩
    have np := SA.nep PN
    obtain ⟨hi, dx, ha⟩ := id SA
    refine ⟨(show 7 ≤ sizeLine by decide), fun L fL => ⟨L, rfl, ⟨_, SqL.of upd_same⟩, fun D fD => lc_nums (p := p) (n := n) (slot := 5) upd_same (PN.ne fL) fD (PN.same (same_upd fL)) (by omega) (fun _ => rfl) (fun q m Hx Qx px hm kx => ?_) (fun Hx ts kvs X px hD hp hk hv => ?_)⟩⟩
    · exact ⟨_, rfl, _, rfl, p, m, rfl, px, by omega, fun v' H' _ e pn => ⟨(show 2 ≤ sizeLine by decide), fun t ht => kx v' t _ e pn ht⟩⟩
    have x1 : Ext p H Hx := (Ext.new fL).trans X
    refine ⟨D, ts, kvs, rfl, SqL.of hD, Paired.mapP hp (fun t kv h => SqT.of h), fun d1 f1 => ?_⟩
    have ND := NumD.of hk hv
    have g1 : H d1 = none := x1.freeP px f1
    have n1 : d1 ≠ p := px.ne f1
    have x2 : Ext p H (upd Hx d1 (.dK (mergeK [] kvs))) := ext_updF x1 g1 n1
    have p2 : PenAt (upd Hx d1 (.dK (mergeK [] kvs))) p (n + 21) := pen_updF PN x1 g1 px
    have hlen : (mergeK [] kvs).length < sizeLine := by
      have : (kvs.map (·.1)).Nodup := by rw [hk]; decide +kernel
      rw [merge0 this]
      have h2 := congrArg List.length hk
      rw [List.length_map, List.length_map] at h2
      have : DN.length = 7 := rfl
      exact Nat.lt_of_le_of_lt (by omega : _ ≤ 7) (by rw [sizeLine_eq]; decide)
    refine ⟨_, rfl, d1, _, rfl, .inl ⟨mergeK [] kvs, .inr "x", upd_same, rfl, hlen, rfl⟩, ?_⟩
    generalize putK (mergeK [] kvs) (.inr "x") V.non = ks at ND
    have x3 : Ext p H (upd (upd Hx d1 (.dK (mergeK [] kvs))) d1 (.dK ks)) := ext_updF x2 g1 n1
    have p3 : PenAt (upd (upd Hx d1 (.dK (mergeK [] kvs))) d1 (.dK ks)) p (n + 21) := pen_updF PN x2 g1 p2
    have c1 : upd (upd Hx d1 (.dK (mergeK [] kvs))) d1 (.dK ks) d1 = some (.dK ks) := upd_same
    generalize upd (upd Hx d1 (.dK (mergeK [] kvs))) d1 (.dK ks) = H3 at x3 p3 c1
    clear f1 x2 p2 hlen hp hD px x1 X fD
    refine ⟨_, rfl, d1, ks, rfl, c1, fun H4 q4 ts4 s4 _ _ _ h4 pp4 => ⟨q4, ts4, ks, rfl, SqL.of h4, Paired.mapP pp4 (fun t kv h => SqT.of h), fun d2 f2 => ?_⟩⟩
    rw [merge0 ND.nd]
    have x4 := x3.trans (.of s4)
    have p4 := p3.same s4
    have g2 : H d2 = none := x4.freeP p4 f2
    have n2 : d2 ≠ p := p4.ne f2
    have s5 : Same H4 (upd H4 d2 (.dK ks)) := same_upd f2
    have x5 := x4.trans (.of s5)
    have p5 := p4.same s5
    have c5 := s5 _ _ (s4 _ _ c1)
    have b5 : upd H4 d2 (.dK ks) d2 = some (.dK ks) := upd_same
    generalize upd H4 d2 (.dK ks) = H5 at x5 p5 c5 b5
    clear f2 s5 x4 p4 h4 pp4 s4 x3 p3 c1
    obtain ⟨m0, hm0⟩ := ND.at hi
    have SA5 : SumAt SU H5 a i v := SA.extT (.ext x5) np
    obtain ⟨_, dx5, ha5⟩ := id SA5
    refine ⟨_, rfl, a, dx5, _, rfl, ha5, rfl, _, rfl, a, .ref d1, _, i, v, rfl, SA5, .dK c5, .inl ⟨d1, ks, m0, rfl, c5, hm0, ?_⟩⟩
    refine ⟨_, rfl, _, rfl, d2, .int m0, rfl, .inl ⟨ks, .inr (nm i), .inl b5, rfl, hm0.symm⟩, _, rfl, _, _, rfl, rfl, rfl, _, rfl, ifnb (fun _ => ?_) (fun hne => (by simp at hne))⟩
    refine ⟨_, rfl, _, rfl, d1, d2, ks, ks, rfl, rfl, c5, b5, rfl, ND.flat, _, rfl, iteF ?_⟩
    refine ⟨_, rfl, a, dx5, _, rfl, ha5, rfl, fun dd fdd => ⟨_, rfl, upd_same, [(.inr (nm i), .int 7)], rfl, (show 1 ≤ 15 by decide), rfl, a, .ref dd, _, i, v, rfl, ?_, .dK upd_same, .inl ⟨dd, _, 7, rfl, upd_same, valV_pos rfl, ?_⟩⟩⟩
    · exact SA5.extT (.same (same_updF (same_upd fdd) fdd)) np
    have s6 : Same H5 (upd (upd H5 dd (.dK [])) dd (.dK (mergeK [] [(.inr (nm i), .int 7)]))) := same_updF (same_upd fdd) fdd
    generalize upd (upd H5 dd (.dK [])) dd (.dK (mergeK [] [(.inr (nm i), .int 7)])) = H6 at s6
    refine ⟨_, rfl, _, _, rfl, rfl, rfl, _, rfl, ifnb (fun _ => ?_) (fun hne => (by simp at hne))⟩
    have x6 := x5.trans (.of s6)
    have p6 := p5.same s6
    have b6 := s6 _ _ b5
    refine ⟨_, rfl, d2, ks, rfl, b6, fun H7 q7 ts7 s7 _ _ _ h7 pp7 => ⟨q7, ts7, ks, rfl, SqL.of h7, Paired.mapP pp7 (fun t kv h => SqT.of h), fun d3 f3 => ?_⟩⟩
    rw [merge0 ND.nd]
    have x7 := x6.trans (.of s7)
    have p7 := p6.same s7
    have b7 := s7 _ _ b6
    have g3 : H d3 = none := x7.freeP p7 f3
    have n3 : d3 ≠ p := p7.ne f3
    have n32 : d3 ≠ d2 := fun z => by rw [z, b7] at f3; cases f3
    have s8 : Same H7 (upd H7 d3 (.dK ks)) := same_upd f3
    have x8 := x7.trans (.of s8)
    have p8 := p7.same s8
    have b8 := s8 _ _ b7
    have c8 : upd H7 d3 (.dK ks) d3 = some (.dK ks) := upd_same
    generalize upd H7 d3 (.dK ks) = H8 at x8 p8 b8 c8
    clear f3 s8 x7 p7 b7 h7 pp7 s7 x6 p6 b6 s6 x5 p5 c5 b5 SA5 ha5 fdd
    have SA8 : SumAt SU H8 a i v := SA.extT (.ext x8) np
    obtain ⟨_, dx8, ha8⟩ := id SA8
    refine ⟨_, rfl, (show 1 ≤ sizeLine by decide), fun l1 f1 => ⟨(show 1 ≤ sizeLine by decide), fun t1 f2 => ⟨_, rfl, (show 7 ≤ sizeLine by decide), fun m1 f3 => ?_⟩⟩⟩
    have sa : Same H8 (upd H8 l1 (.lst [.int 1])) := same_upd f1
    have sb : Same (upd H8 l1 (.lst [.int 1])) (upd (upd H8 l1 (.lst [.int 1])) t1 (.tup [.int 1])) := same_upd f2
    have sc : Same (upd (upd H8 l1 (.lst [.int 1])) t1 (.tup [.int 1])) (upd (upd (upd H8 l1 (.lst [.int 1])) t1 (.tup [.int 1])) m1 (.lst [.non, .bl true, .bl false, .str "1", .ref l1, .ref t1, .ref a])) := same_upd f3
    have r1 := p8.ne f1
    have r2 := p8.ne (sa.free f2)
    have r3 := p8.ne ((sa.trans sb).free f3)
    have e1 := sc _ _ (sb _ _ (upd_same : upd H8 l1 (.lst [.int 1]) l1 = _))
    have e2 := sc _ _ (upd_same : upd (upd H8 l1 (.lst [.int 1])) t1 (.tup [.int 1]) t1 = _)
    have e3 : upd (upd (upd H8 l1 (.lst [.int 1])) t1 (.tup [.int 1])) m1 (.lst [.non, .bl true, .bl false, .str "1", .ref l1, .ref t1, .ref a]) m1 = some (.lst [.non, .bl true, .bl false, .str "1", .ref l1, .ref t1, .ref a]) := upd_same
    have s9 := (sa.trans sb).trans sc
    generalize upd (upd (upd H8 l1 (.lst [.int 1])) t1 (.tup [.int 1])) m1 (.lst [.non, .bl true, .bl false, .str "1", .ref l1, .ref t1, .ref a]) = H9 at s9 e1 e2 e3
    clear sa sb sc f1 f2 f3
    have gz : ∀ z ∈ [V.non, .bl true, .bl false, .str "1", .ref l1, .ref t1, .ref a], KVal SU p cOdD H9 z := by
      intro z hz
      simp only [List.mem_cons, List.not_mem_nil, or_false] at hz
      rcases hz with rfl | rfl | rfl | rfl | rfl | rfl | rfl
      · exact ⟨_, .non, (fun z => nomatch z), rfl, rfl⟩
      · exact ⟨_, .bl _, (fun z => nomatch z), rfl, rfl⟩
      · exact ⟨_, .bl _, (fun z => nomatch z), rfl, rfl⟩
      · exact ⟨_, .str _, (fun z => nomatch z), rfl, rfl⟩
      · exact ⟨_, .lst e1, fun z => r1 (V.ref.inj z), rfl, rfl⟩
      · exact ⟨_, .tup e2, fun z => r2 (V.ref.inj z), rfl, rfl⟩
      · exact ⟨_, .su (s9 _ _ ha8), fun z => np (V.ref.inj z), rfl, rfl⟩
    have p9 := p8.same s9
    refine ⟨p, m1, _, n + 21, rfl, r3, e3, (show 0 < 7 by decide), (show 7 < 1000 by decide), p9, by omega, fun j z H10 hz e10 p10 => ?_⟩
    have kz := (gz z (List.mem_of_getElem? hz)).ext (ExtT.ext e10)
    have x10 := (x8.trans (.of s9)).trans e10
    have n2' : d2 ≠ p := n2
    have b10 := e10 _ _ (s9 _ _ b8) n2
    have c10 := e10 _ _ (s9 _ _ c8) n3
    have lks : ks.length < sizeLine := by
      rw [ND.len, sizeLine_eq]
      decide
    refine ⟨_, rfl, _, rfl, d3, _, rfl, .inl ⟨ks, .inr (nm i), c10, rfl, lks, rfl⟩, ?_⟩
    have x11 : Ext p H (upd H10 d3 (.dK (putK ks (.inr (nm i)) z))) := ext_updF x10 g3 n3
    have p11 : PenAt (upd H10 d3 (.dK (putK ks (.inr (nm i)) z))) p (n + 22) := pen_updF PN x10 g3 p10
    have b11 : upd H10 d3 (.dK (putK ks (.inr (nm i)) z)) d2 = some (.dK ks) := by rw [upd_ne (Ne.symm n32)]; exact b10
    have c11 : upd H10 d3 (.dK (putK ks (.inr (nm i)) z)) d3 = some (.dK (putK ks (.inr (nm i)) z)) := upd_same
    obtain ⟨tz, kz1, kz2, kz3, kz4⟩ := kz
    have kz11 := TyS.updD (o := .dK (putK ks (.inr (nm i)) z)) kz1 kz4 c10
    generalize upd H10 d3 (.dK (putK ks (.inr (nm i)) z)) = H11 at x11 p11 b11 c11 kz11
    clear kz1 c10 b10 p10 x10 e10 hz gz p9 s9 e1 e2 e3 x8 p8 b8 c8 SA8 ha8
    refine ⟨d2, .dK ks, b11, trivial, fun od => ⟨_, rfl, d2, od, rfl, .inl ⟨ks, upd_same, fun D fD => ?_⟩⟩⟩
    refine lc_less (d := d2) (D := D) (od := od) (slot := 5) (kvs := ks) (key := .inr (nm i)) upd_same (by rw [ND.len]; decide) ND.nd fD (fun _ => rfl) (fun k' Hx Qx hk' qx => ?_) (fun k' w' Hx Qx hfz hv' kx => ?_) (fun Hx ts' kvs' sx hD hp' hne => ?_)
    · rw [ND.ks] at hk'
      obtain ⟨y, _, rfl⟩ := List.mem_map.mp hk'
      refine ⟨_, rfl, _, rfl, rfl, _, rfl, ?_⟩
      have e : (!decide (V.str y = V.str (nm i))) = decide ((Sum.inr y : Key) ≠ .inr (nm i)) := by
        by_cases h : y = nm i
        · subst h; simp
        · have h1 : V.str y ≠ V.str (nm i) := fun z => h (V.str.inj z)
          have h2 : (Sum.inr y : Key) ≠ .inr (nm i) := fun z => h (Sum.inr.inj z)
          simp [h]
      show Qx (!decide (V.str y = V.str (nm i))) Hx
      rw [e]
      exact qx
    · exact ⟨_, rfl, _, rfl, _, rfl, d2, w', rfl, .inl ⟨ks, k', .inr ⟨od, hfz⟩, rfl, hv'.symm⟩, (show 2 ≤ sizeLine by decide), fun t ft => kx t ft⟩
    have fz : Hx d2 = some (.frz od (.dK ks)) := sx _ _ upd_same
    have nD2 : D ≠ d2 := ne_of hD fz (fun z => nomatch z)
    refine ⟨fz, D, ts', kvs', rfl, SqL.of (by rw [upd_ne nD2]; exact hD), Paired.mapP hp' (fun t kv h => SqT.of (by rw [upd_ne (ne_of h fz (fun z => nomatch z))]; exact h)), fun d4 f4 => ?_⟩
    have s12 : Same H11 (upd Hx d2 (.dK ks)) := fun b u h => by
      by_cases hb : b = d2
      · rw [hb, b11] at h
        rw [hb, ← h]
        exact upd_same
      · rw [upd_ne hb]
        exact sx b u (by rw [upd_ne hb]; exact h)
    have x12 := x11.trans (.of s12)
    have p12 := p11.same s12
    have s13 : Same (upd Hx d2 (.dK ks)) (upd (upd Hx d2 (.dK ks)) d4 (.dK (mergeK [] kvs'))) := same_upd f4
    have n4 : d4 ≠ p := p12.ne f4
    have x13 := x12.trans (.of s13)
    have p13 := p12.same s13
    have b13 := s13 _ _ (s12 _ _ b11)
    have c13 := s13 _ _ (s12 _ _ c11)
    have kz13 := (kz11.same s12).same s13
    have m13 : upd (upd Hx d2 (.dK ks)) d4 (.dK (mergeK [] kvs')) d4 = some (.dK (mergeK [] kvs')) := upd_same
    generalize upd (upd Hx d2 (.dK ks)) d4 (.dK (mergeK [] kvs')) = H13 at x13 p13 b13 c13 kz13 m13
    have vless : valV (mergeK [] kvs') (.inr (nm i)) = none := valV_merge kvs' [] rfl hne
    clear s13 f4 s12 fz nD2 hp' hD sx fD kz11 c11 b11 x12 p12 x11 p11
    refine ⟨_, rfl, (show 0 ≤ sizeLine by decide), fun l5 f5 => ⟨(show 0 ≤ sizeLine by decide), fun t5 f6 => ?_⟩⟩
    have sa : Same H13 (upd H13 l5 (.lst [])) := same_upd f5
    have sb : Same (upd H13 l5 (.lst [])) (upd (upd H13 l5 (.lst [])) t5 (.tup [])) := same_upd f6
    have r1 := p13.ne f5
    have r2 := p13.ne (sa.free f6)
    have e1 := sb _ _ (upd_same : upd H13 l5 (.lst []) l5 = _)
    have e2 : upd (upd H13 l5 (.lst [])) t5 (.tup []) t5 = some (.tup []) := upd_same
    have s14 := sa.trans sb
    generalize upd (upd H13 l5 (.lst [])) t5 (.tup []) = H14 at s14 e1 e2
    clear sa sb f5 f6
    refine ⟨_, rfl, d2, ks, rfl, s14 _ _ b13, fun H15 q15 ts15 s15 fq _ _ h15 _ => ⟨_, rfl, fun d5 f7 => ⟨_, rfl, _, rfl, (show 11 ≤ sizeLine by decide), fun m5 f8 => ?_⟩⟩⟩
    have sc : Same H15 (upd H15 d5 (.dK [])) := same_upd f7
    have sd : Same (upd H15 d5 (.dK [])) (upd (upd H15 d5 (.dK [])) m5 (.lst [.non, .int 0, .bl true, .str "p", .ref l5, .ref t5, .ref q15, .ref a, .ref d5, .ref d4, .ref d3])) := same_upd f8
    have p14 := p13.same s14
    have p15 := p14.same s15
    have r3 := p14.ne fq
    have r4 := p15.ne f7
    have r5 := p15.ne (sc.free f8)
    have s16 := sc.trans sd
    have e3 := s16 _ _ h15
    have e4 := sd _ _ (upd_same : upd H15 d5 (.dK []) d5 = _)
    have e5 : upd (upd H15 d5 (.dK [])) m5 (.lst [.non, .int 0, .bl true, .str "p", .ref l5, .ref t5, .ref q15, .ref a, .ref d5, .ref d4, .ref d3]) m5 = some (.lst [.non, .int 0, .bl true, .str "p", .ref l5, .ref t5, .ref q15, .ref a, .ref d5, .ref d4, .ref d3]) := upd_same
    generalize upd (upd H15 d5 (.dK [])) m5 (.lst [.non, .int 0, .bl true, .str "p", .ref l5, .ref t5, .ref q15, .ref a, .ref d5, .ref d4, .ref d3]) = H16 at s16 e3 e4 e5
    clear sc sd f7 f8 h15
    have s17 : Same H13 H16 := (s14.trans s15).trans s16
    have x16 := x13.trans (.of s17)
    have p16 := p13.same s17
    have SA16 : SumAt SU H16 a i v := SA.extT (.ext x16) np
    obtain ⟨_, dx16, ha16⟩ := id SA16
    have l16 := s16 _ _ (s15 _ _ e1)
    have t16 := s16 _ _ (s15 _ _ e2)
    have m16 := s17 _ _ m13
    have c16 := s17 _ _ c13
    have kz16 := kz13.same s17
    have gy : ∀ y ∈ [V.non, .int 0, .bl true, .str "p", .ref l5, .ref t5, .ref q15, .ref a, .ref d5, .ref d4, .ref d3], NumBad SU p i H16 y := by
      intro y hy
      simp only [List.mem_cons, List.not_mem_nil, or_false] at hy
      rcases hy with rfl | rfl | rfl | rfl | rfl | rfl | rfl | rfl | rfl | rfl | rfl
      · exact ⟨_, .non, (fun z => nomatch z), .inl rfl⟩
      · exact ⟨_, .int _, (fun z => nomatch z), .inl rfl⟩
      · exact ⟨_, .bl _, (fun z => nomatch z), .inl rfl⟩
      · exact ⟨_, .str _, (fun z => nomatch z), .inl rfl⟩
      · exact ⟨_, .lst l16, fun z => r1 (V.ref.inj z), .inl rfl⟩
      · exact ⟨_, .tup t16, fun z => r2 (V.ref.inj z), .inl rfl⟩
      · exact ⟨_, .lst e3, fun z => r3 (V.ref.inj z), .inl rfl⟩
      · exact ⟨_, .su ha16, fun z => np (V.ref.inj z), .inl rfl⟩
      · exact ⟨_, .dK e4, fun z => r4 (V.ref.inj z), .inr ⟨d5, [], _, rfl, e4, .non, (fun z => nomatch z), rfl⟩⟩
      · refine ⟨_, .dK m16, fun z => n4 (V.ref.inj z), .inr ⟨d4, _, .type "NoneType", rfl, m16, ?_, ?_, ?_⟩⟩
        · rw [vless]; exact .non
        · rw [vless]; exact fun z => nomatch z
        · rw [vless]; rfl
      · have ez : valV (putK ks (.inr (nm i)) z) (.inr (nm i)) = some z := by rw [valV_put, if_pos rfl]
        refine ⟨_, .dK c16, fun z => n3 (V.ref.inj z), .inr ⟨d3, _, tz, rfl, c16, ?_, ?_, ?_⟩⟩
        · rw [ez]; exact kz16
        · rw [ez]; exact kz2
        · rw [ez]; exact kz3
    refine ⟨p, m5, _, n + 22, rfl, r5, e5, (show 0 < 11 by decide), (show 11 < 1000 by decide), p16, by omega, fun j2 y H17 hy e17 p17 => ?_⟩
    have ky := (gy y (List.mem_of_getElem? hy)).ext (ExtT.ext e17)
    have x17 := x16.trans e17
    have SA17 : SumAt SU H17 a i v := SA.extT (.ext x17) np
    obtain ⟨ppx, hpp⟩ := PN.there
    have TB17 : LamX.Tabs TT H17 := tabs_ext TB hpp x17.keep
    refine ⟨TB17, fun H18 eN TB18 => ?_⟩
    have SA18 : SumAt SU H18 a i v := SA17.extT (.n eN) np
    obtain ⟨_, dx18, ha18⟩ := id SA18
    obtain ⟨ty, ky1, ky2, ky3⟩ := ky.ext (.n eN)
    have R : RaisesX H18 BS (bsF "numbers") (HE BS BT fun x H1 => tTup (tCons (tC (.str "sum")) (tCons (tC (.str "numbers")) tNil)) (([some (V.ref p), some (.ref a), some (.str (nm i)), some (.int v), some (.ref d1), none, some (.ref d2), some (.ref d3), some (.ref d4), some y])) H1 fun y H2 => rEqD K x y H2 Q) := by
      intro d H19 s19 hd19
      refine ⟨d, rfl, .inl ⟨rfl, "numbers", hd19, fun t H20 s20 ft h20 => ⟨(show 2 ≤ sizeLine by decide), fun t2 ft2 => ?_⟩⟩⟩
      have s21 : Same H20 (upd H20 t2 (.tup [.str "sum", .str "numbers"])) := same_upd ft2
      refine ⟨_, _, .tup (SqT.of (s21 _ _ h20)) (.cons (.str _) (.cons (.str _) .nil)), .tup (SqT.of upd_same) (.cons (.str _) (.cons (.str _) .nil)), (by decide +kernel), (by decide +kernel), ?_⟩
      have eT : PyData.eqv (.tuple [.str "sum", .str "numbers"]) (.tuple [.str "sum", .str "numbers"]) = true := by decide +kernel
      rw [eT]
      have sE := (s19.trans s20).trans s21
      exact k _ (((ExtT.ext x17).trans (.n eN)).trans (.same sE)) (((p17.n eN).same sE).mono (by omega)) (tabs_same TB18 sE)
    refine ⟨_, rfl, a, dx18, _, rfl, ha18, rfl, _, rfl, a, y, ty, i, v, rfl, SA18, ky1, .inr ?_⟩
    rcases ky3 with h | ⟨d, kvs', t2, rfl, h1, h2, h3, h4⟩
    · exact .inl ⟨h, R⟩
    · exact .inr ⟨d, kvs', t2, rfl, h1, h2, h4, R⟩
end
end K08
set_option Elab.async false
set_option linter.all false
set_option maxRecDepth 100000
set_option maxHeartbeats 8000000
namespace K08
open PySem PySem.Spec PyProof.Rows L2 My MyX MyE TL NumText
structure CmpT (P : Program) (w : World) (K : PySem.W.Frag) (mg : Str → Option Value) (base : Heap) (SU : Addr) (nm : Str) (g : Nat → Int → Nat → Int → Bool) (f : Addr) : Prop where
  at_ : PySem.W.findIn K (.ref SU) nm = some (some (.ref f))
  fn : PySem.W.isFn K (.ref f) = true
  fr : FnR P w K mg base L2.CX0 1 f (spCmp SU g)
theorem nf_self {K : PySem.W.Frag} {C : Addr} : PySem.W.notFirst K C (.ref C) = true := by
  unfold PySem.W.notFirst
  simp
theorem eqv_pair (i j : Nat) (n m : Int) : PyData.eqv (.tuple [.int (i : Int), .int n]) (.tuple [.int (j : Int), .int m]) = decide (i = j ∧ n = m) := by
  rw [Bool.eq_iff_iff]
  simp [PyData.eqv, PyData.eqvAll]
  try omega
theorem shaped_pair (i : Nat) (n : Int) : SeqAt.shaped (.tuple [.int (i : Int), .int n]) = true := by
  unfold SeqAt.shaped
  simp [PyData.canLay0, PyData.canLayAll0, PyData.depth, PyData.depthAll]
theorem shaped_bools (bs : List Bool) (h : bs.length ≤ 20) : SeqAt.shaped (.list (bs.map PyData.bool)) = true := by
  have e1 : ∀ bs : List Bool, PyData.canLayAll0 (bs.map PyData.bool) = true := fun bs => by
    induction bs with
    | nil => rfl
    | cons b r ih => simp [PyData.canLayAll0, PyData.canLay0, ih]
  have e2 : ∀ bs : List Bool, PyData.depthAll (bs.map PyData.bool) ≤ 1 := fun bs => by
    induction bs with
    | nil => simp [PyData.depthAll]
    | cons b r ih =>
      simp [PyData.depthAll, PyData.depth]
      omega
  unfold SeqAt.shaped
  have := e2 bs
  simp [PyData.canLay0, PyData.depth, e1 bs]
  omega
theorem eqv_bools (bs : List Bool) : PyData.eqv (.list (bs.map PyData.bool)) (.list (bs.map PyData.bool)) = true := by
  have e1 : ∀ bs : List Bool, PyData.eqvAll (bs.map PyData.bool) (bs.map PyData.bool) = true := fun bs => by
    induction bs with
    | nil => rfl
    | cons b r ih => simp [PyData.eqvAll, PyData.eqv, ih]
  simp [PyData.eqv, e1 bs]
theorem dp_bools {K : PySem.W.Frag} {H : Hp} : ∀ bs : List Bool, DpAll K H (bs.map V.bl) (bs.map PyData.bool)
  | [] => .nil
  | b :: r => .cons (.bl b) (dp_bools r)
section
variable {P : Program} {w : World} {K : PySem.W.Frag} {mg : Str → Option Value} {base : Heap} {SU nA f1 f2 f3 f4 f5 : Addr}
def KeyRow (H : Hp) (v : V) (r : Nat × Int) : Prop := ∃ t, v = V.ref t ∧ H t = some (.tup [.int (r.1 : Int), .int r.2])
def SumRow (SU : Addr) (H : Hp) (v : V) (r : Nat × Int) : Prop := ∃ a, v = V.ref a ∧ SumAt SU H a r.1 r.2
theorem KeyRow.same {H H' : Hp} {v : V} {r : Nat × Int} (h : KeyRow H v r) (s : Same H H') : KeyRow H' v r := by
  obtain ⟨t, e, h⟩ := h
  exact ⟨t, e, s _ _ h⟩
theorem SumRow.same {SU : Addr} {H H' : Hp} {v : V} {r : Nat × Int} (h : SumRow SU H v r) (s : Same H H') : SumRow SU H' v r := by
  obtain ⟨a, e, hi, dx, h⟩ := h
  exact ⟨a, e, hi, dx, s _ _ h⟩
theorem paired_get {α β : Type} {F : α → β → Prop} {xs : List α} {us : List β} (h : Paired F xs us) : ∀ {i : Nat} {x : α}, xs[i]? = some x → ∃ u, us[i]? = some u ∧ F x u := by
  induction h with
  | nil => intro i x e; simp at e
  | cons a _ k =>
    intro i x e
    cases i with
    | zero =>
      simp at e
      subst e
      exact ⟨_, rfl, a⟩
    | succ i =>
      simp at e
      obtain ⟨u, h1, h2⟩ := k e
      exact ⟨u, by simpa using h1, h2⟩
def spOrd (SU : Addr) : Sp := fun vs H Q _ => ∃ kl sl ks ss rows, vs = [.ref kl, .ref sl] ∧ H kl = some (.lst ks) ∧ H sl = some (.lst ss) ∧ Paired (KeyRow H) ks rows ∧ Paired (SumRow SU H) ss rows ∧ ∀ H', Same H H' → Q (.bl true) H'
theorem scOrd : FnScope ["_law_keys", "_law_some", "_law_low", "_law_one", "_law_high", "_law_two", "_law_heard_here"] ["_law_keys", "_law_some"] (defScope sOrder) := ⟨rfl, rfl, rfl, by decide +kernel, rfl, by decide +kernel, by decide +kernel⟩
theorem ok_order {f : Addr} {fd : FuncData} (F : Fun K "_law_order_right" "_law_order_right" sOrder f fd) (B : Blt mg) (T : SmT K mg SU nA) (CQ : CmpT P w K mg base SU "__eq__" (fun i n j m => decide (i = j ∧ n = m)) f1) (NC : NeC K SU f1)
    (CL : CmpT P w K mg base SU "__lt__" (gOrd fun a b => decide (a < b)) f2) (CE : CmpT P w K mg base SU "__le__" (gOrd fun a b => decide (a ≤ b)) f3) (CG : CmpT P w K mg base SU "__gt__" (gOrd fun a b => decide (b < a)) f4) (CH : CmpT P w K mg base SU "__ge__" (gOrd fun a b => decide (b ≤ a)) f5) :
    FnOk P w K mg base CX0 4 f fd ["_law_keys", "_law_some"] (spOrd SU) := by
  refine F.ok scOrd (fun vs H Q E h => ?_) (fun cdv A outer s H vs Q E hr h => ?_)
  · obtain ⟨kl, sl, ks, ss, rows, rfl, _⟩ := h
    rfl
  · obtain ⟨kl, sl, ks, ss, rows, rfl, hk, hs, pk, ps, k⟩ := h
    refine ⟨_, (pss_cons (ps_for PassesOwn.never rfl (pi_zip (by rfl) B.zip (pa_cons (pv 0) (pa_cons (pv 1) pa_nil))) (pg_tup (by rfl) (pgs_cons (pg_name (i := 2) scOrd.nd rfl (Or.inl rfl)) (pgs_cons (pg_name (i := 3) scOrd.nd rfl (Or.inl rfl)) pgs_nil))) (pss_one (ps_for PassesOwn.never rfl (pi_zip (by rfl) B.zip (pa_cons (pv 0) (pa_cons (pv 1) pa_nil))) (pg_tup (by rfl) (pgs_cons (pg_name (i := 4) scOrd.nd rfl (Or.inl rfl)) (pgs_cons (pg_name (i := 5) scOrd.nd rfl (Or.inl rfl)) pgs_nil))) (pss_cons (ps_set (i := 6) scOrd.nd rfl (Or.inl rfl) (pe_lst (pa_cons (pe_cmpR (op_cmpI (op := .Eq) (fun _ _ => rfl) CQ.at_ CQ.fn CQ.fr (hr.mono (by decide)) pass0) (pv 3) (pv 5) (nomark _)) (pa_cons (pe_cmpR (op_neI NC CQ.fr (hr.mono (by decide)) pass0) (pv 3) (pv 5) (nomark _)) (pa_cons (pe_cmpR (op_cmpI (op := .Lt) (fun _ _ => rfl) CL.at_ CL.fn CL.fr (hr.mono (by decide)) pass0) (pv 3) (pv 5) (nomark _)) (pa_cons (pe_cmpR (op_cmpI (op := .LtE) (fun _ _ => rfl) CE.at_ CE.fn CE.fr (hr.mono (by decide)) pass0) (pv 3) (pv 5) (nomark _)) (pa_cons (pe_cmpR (op_cmpI (op := .Gt) (fun _ _ => rfl) CG.at_ CG.fn CG.fr (hr.mono (by decide)) pass0) (pv 3) (pv 5) (nomark _)) (pa_cons (pe_cmpR (op_cmpI (op := .GtE) (fun _ _ => rfl) CH.at_ CH.fn CH.fr (hr.mono (by decide)) pass0) (pv 3) (pv 5) (nomark _)) pa_nil))))))))
      (pss_one (ps_if (pt_cmpR (op_neD hr.units) (pv 6) (pe_lst (pa_cons (pe_cmpR (op_eqD hr.units) (pv 2) (pv 4) (nomark _)) (pa_cons (pe_cmpR (op_neD hr.units) (pv 2) (pv 4) (nomark _)) (pa_cons (pe_cmpR (op_lt2 hr.units0) (pv 2) (pv 4) (nomark _)) (pa_cons (pe_cmpR (op_le2 hr.units0) (pv 2) (pv 4) (nomark _)) (pa_cons (pe_cmpR (op_gt2 hr.units0) (pv 2) (pv 4) (nomark _)) (pa_cons (pe_cmpR (op_ge2 hr.units0) (pv 2) (pv 4) (nomark _)) pa_nil))))))) (nomark _)) (pss_one (ps_ret pe_bl)) pss_nil))))))
      (pss_one (ps_ret pe_bl))), ?_⟩
    refine ⟨_, rfl, _, rfl, kl, sl, ks, ss, rfl, SqL.of hk, SqL.of hs, ?_⟩
    refine for_it (walk_zip (K := K) (a := kl) (b := sl) (xs := ks) (ys := ss) rfl) (fun _ σ H' => Same H H' ∧ ∃ a b c d e, σ = [some (.ref kl), some (.ref sl), a, b, c, d, e]) ⟨Same.refl H, none, none, none, none, none, rfl⟩ (fun i σ H' _ q => ⟨SqL.of (q.1 _ _ hk), SqL.of (q.1 _ _ hs)⟩) (fun i x σ H1 H2 hi q y => ?_) (fun σ H' q => k H' q.1)
    obtain ⟨s1, _, _, _, _, _, rfl⟩ := q
    obtain ⟨T1, x1, y1, rfl, hT1, rfl, hx1, hy1⟩ := y
    refine ⟨T1, _, rfl, SqT.of upd_same, rfl, _, _, rfl, _, _, rfl, rfl, ?_⟩
    have s2 : Same H (upd H1 T1 (.tup [x1, y1])) := s1.trans (same_upd hT1)
    generalize upd H1 T1 (.tup [x1, y1]) = H2 at s2
    clear hT1 s1
    obtain ⟨r1, e1, t1, rfl, ht1⟩ := paired_get pk hx1
    obtain ⟨r1', e1', a1, rfl, S1⟩ := paired_get ps hy1
    rw [e1] at e1'
    cases e1'
    refine ⟨_, rfl, _, rfl, kl, sl, ks, ss, rfl, SqL.of (s2 _ _ hk), SqL.of (s2 _ _ hs), ?_⟩
    refine for_it (walk_zip (K := K) (a := kl) (b := sl) (xs := ks) (ys := ss) rfl) (fun _ σ H' => Same H H' ∧ ∃ c d e, σ = [some (.ref kl), some (.ref sl), some (.ref t1), some (.ref a1), c, d, e]) ⟨s2, _, _, _, rfl⟩ (fun i σ H' _ q => ⟨SqL.of (q.1 _ _ hk), SqL.of (q.1 _ _ hs)⟩) (fun i2 x σ H3 H4 hi2 q y => ?_) (fun σ H' ⟨s, c, d, e, hσ⟩ => ⟨s, _, _, _, _, _, hσ⟩)
    obtain ⟨s3, _, _, _, rfl⟩ := q
    obtain ⟨T2, x2, y2, rfl, hT2, rfl, hx2, hy2⟩ := y
    refine ⟨T2, _, rfl, SqT.of upd_same, rfl, _, _, rfl, _, _, rfl, rfl, ?_⟩
    have s4 : Same H (upd H3 T2 (.tup [x2, y2])) := s3.trans (same_upd hT2)
    generalize upd H3 T2 (.tup [x2, y2]) = H4 at s4
    clear hT2 s3
    obtain ⟨r2, e2, t2, rfl, ht2⟩ := paired_get pk hx2
    obtain ⟨r2', e2', a2, rfl, S2⟩ := paired_get ps hy2
    rw [e2] at e2'
    cases e2'
    obtain ⟨i1, n1⟩ := r1
    obtain ⟨j1, m1⟩ := r2
    have at1 : ∀ G, Same H G → SumAt SU G a1 i1 n1 := fun G s => S1.same s
    have at2 : ∀ G, Same H G → SumAt SU G a2 j1 m1 := fun G s => S2.same s
    have cm : ∀ (g : Nat → Int → Nat → Int → Bool) (G : Hp) (Q : VK), Same H G → (∀ G', Same H G' → Q (.bl (g i1 n1 j1 m1)) G') → rCmpI K SU (spCmp SU g) L2.E0 (.ref a1) (.ref a2) G Q := fun g G Q s kk => by
      obtain ⟨hi1, dx1, h1⟩ := at1 G s
      obtain ⟨hi2, dx2, h2⟩ := at2 G s
      exact ⟨a1, dx1, _, .ref SU, rfl, h1, (TyS.su h2).tyX T.su, nf_self, a1, a2, i1, n1, j1, m1, rfl, at1 G s, at2 G s, fun G' s' => kk G' (s.trans s')⟩
    refine ⟨_, rfl, _, rfl, cm _ _ _ s4 fun G1 z1 => ?_⟩
    obtain ⟨hi1, dx1, h1⟩ := at1 G1 z1
    obtain ⟨hi2, dx2, h2⟩ := at2 G1 z1
    refine ⟨_, rfl, _, rfl, a1, dx1, _, .ref SU, rfl, h1, (TyS.su h2).tyX T.su, nf_self, a1, a2, i1, n1, j1, m1, rfl, at1 G1 z1, at2 G1 z1, fun G2 z2' => ⟨_, rfl, ?_⟩⟩
    have z2 := z1.trans z2'
    refine ⟨_, rfl, _, rfl, cm _ _ _ z2 fun G3 z3 => ?_⟩
    refine ⟨_, rfl, _, rfl, cm _ _ _ z3 fun G4 z4 => ?_⟩
    refine ⟨_, rfl, _, rfl, cm _ _ _ z4 fun G5 z5 => ?_⟩
    refine ⟨_, rfl, _, rfl, cm _ _ _ z5 fun G6 z6 => ⟨(show 6 ≤ sizeLine by decide), fun l1 f1 => ?_⟩⟩
    generalize hb : [decide (i1 = j1 ∧ n1 = m1), !decide (i1 = j1 ∧ n1 = m1), gOrd (fun a b => decide (a < b)) i1 n1 j1 m1, gOrd (fun a b => decide (a ≤ b)) i1 n1 j1 m1, gOrd (fun a b => decide (b < a)) i1 n1 j1 m1, gOrd (fun a b => decide (b ≤ a)) i1 n1 j1 m1] = bs
    have s7 : Same H (upd G6 l1 (.lst (bs.map V.bl))) := z6.trans (same_upd f1)
    have hl1 : upd G6 l1 (.lst (bs.map V.bl)) l1 = some (.lst (bs.map V.bl)) := upd_same
    have eV : ([V.bl (decide (i1 = j1 ∧ n1 = m1)), .bl (!decide (i1 = j1 ∧ n1 = m1)), .bl (gOrd (fun a b => decide (a < b)) i1 n1 j1 m1), .bl (gOrd (fun a b => decide (a ≤ b)) i1 n1 j1 m1), .bl (gOrd (fun a b => decide (b < a)) i1 n1 j1 m1), .bl (gOrd (fun a b => decide (b ≤ a)) i1 n1 j1 m1)] : List V) = bs.map V.bl := by rw [← hb]; rfl
    rw [eV]
    generalize upd G6 l1 (.lst (bs.map V.bl)) = G7 at s7 hl1
    have d1 : Dp K G7 (.ref t1) (.tuple [.int (i1 : Int), .int n1]) := .tup (SqT.of (s7 _ _ ht1)) (.cons (.int _) (.cons (.int _) .nil))
    have d2 : Dp K G7 (.ref t2) (.tuple [.int (j1 : Int), .int m1]) := .tup (SqT.of (s7 _ _ ht2)) (.cons (.int _) (.cons (.int _) .nil))
    refine ⟨_, rfl, ?_⟩
    refine ⟨_, rfl, _, rfl, _, _, d1, d2, shaped_pair _ _, shaped_pair _ _, ?_⟩
    refine ⟨_, rfl, _, rfl, _, _, d1, d2, shaped_pair _ _, shaped_pair _ _, ?_⟩
    rw [eqv_pair]
    refine ⟨_, rfl, _, rfl, t1, t2, _, _, _, _, rfl, rfl, SqT.of (s7 _ _ ht1), SqT.of (s7 _ _ ht2), ?_⟩
    refine ⟨_, rfl, _, rfl, t1, t2, _, _, _, _, rfl, rfl, SqT.of (s7 _ _ ht1), SqT.of (s7 _ _ ht2), ?_⟩
    refine ⟨_, rfl, _, rfl, t1, t2, _, _, _, _, rfl, rfl, SqT.of (s7 _ _ ht1), SqT.of (s7 _ _ ht2), ?_⟩
    refine ⟨_, rfl, _, rfl, t1, t2, _, _, _, _, rfl, rfl, SqT.of (s7 _ _ ht1), SqT.of (s7 _ _ ht2), (show 6 ≤ sizeLine by decide), fun l2 f2 => ?_⟩
    have eW : ([V.bl (decide (i1 = j1 ∧ n1 = m1)), .bl (!decide (i1 = j1 ∧ n1 = m1)), .bl (if (i1 : Int) = (j1 : Int) then (if n1 = m1 then decide ((0 : Int) < 0) else decide (n1 < m1)) else decide ((i1 : Int) < j1)), .bl (if (i1 : Int) = (j1 : Int) then (if n1 = m1 then decide ((0 : Int) ≤ 0) else decide (n1 ≤ m1)) else decide ((i1 : Int) ≤ j1)), .bl (if (i1 : Int) = (j1 : Int) then (if n1 = m1 then decide ((0 : Int) < 0) else decide (m1 < n1)) else decide ((j1 : Int) < i1)), .bl (if (i1 : Int) = (j1 : Int) then (if n1 = m1 then decide ((0 : Int) ≤ 0) else decide (m1 ≤ n1)) else decide ((j1 : Int) ≤ i1))] : List V) = bs.map V.bl := by rw [← hb]; rfl
    rw [eW]
    have s8 : Same G7 (upd G7 l2 (.lst (bs.map V.bl))) := same_upd f2
    have hbl : bs.length ≤ 20 := by rw [← hb]; exact (show 6 ≤ 20 by decide)
    refine ⟨_, _, .lst (SqL.of (s8 _ _ hl1)) (dp_bools bs), .lst (SqL.of upd_same) (dp_bools bs), shaped_bools bs hbl, shaped_bools bs hbl, _, rfl, ?_⟩
    rw [eqv_bools]
    exact iteF ⟨s7.trans s8, _, _, _, rfl⟩
end
end K08
set_option Elab.async false
set_option linter.all false
set_option maxRecDepth 100000
set_option maxHeartbeats 16000000
namespace K08
open PySem PySem.Spec PyProof.Rows L2 My MyX MyE TL NumText
section
variable {P : Program} {w : World} {K : PySem.W.Frag} {mg : Str → Option Value} {base : Heap} {SU nA BS BT Te fI fA fS fAp fG gH c PT fEq fStr fP fD fN fX fB fT fSh fV8 fR8 fO rP rG : Addr} {fdI fdAp fdG fdH fdP fdD fdN fdX fdB fdT fdSh fdV8 fdR8 fdO fdR : FuncData} {TT : List (Addr × Str)} {gr : List Value → List Value → List Value}
def spDecl (SU : Addr) : List V → Hp → (Hp → Prop) → Prop := fun vs H Q => ∃ x y t, vs = [x, y] ∧ TyS SU H y t ∧ isSu t = false ∧ Q H
theorem decl_eq {f : Addr} {fd : FuncData} (F : Fun K "__eq__" "Sum.__eq__" sEq f fd) (B : Blt mg) (T : SmT K mg SU nA) (gm : mg "NotImplemented" = none) (hb : Binds K fd ["self", "other"] []) : DeclOk P w K mg base 1 f (spDecl SU) := by
  obtain ⟨oc, od, kV, doc, pm, an, cdv, ct, osl, rfl, lk, hcd⟩ := F.ex
  refine decl_of lk hcd scEq (fun vs H Q ⟨x, y, t, e, _⟩ => by rw [e]; rfl) hb rfl rfl gm (fun A outer s H vs Q hr h => ?_)
  obtain ⟨x, y, t, rfl, ty, hs, q⟩ := h
  refine ⟨_, pt_not (pt_val (pe_callB call_isi (by rfl) B.isinstance (by decide +kernel) (pa_cons (pv 1) (pa_cons (pe_gref rfl T.g) pa_nil)))), ?_⟩
  exact ⟨_, rfl, _, _, t, .ref SU, false, rfl, .own SU, ty.tyX T.su, (by have z := kit_su T.su ty; rw [hs] at z; exact z), _, rfl, rfl, q⟩
structure RdT (P : Program) (w : World) (K : PySem.W.Frag) (mg : Str → Option Value) (base : Heap) (SU BT rP rG : Addr) (fdR : FuncData) (gr : List Value → List Value → List Value) : Prop where
  rd : ClX.CRead K SU (.type "type")
  at_ : SMet K SU (.type "type") "read" rP rG
  ok : FnOk P w K mg base (L2.CX P w) 8 rG fdR ["text"] (spRead SU BT)
  fr : FnR P w K mg base (L2.CX P w) 8 rG (spRead SU BT)
  bk : KBn K fdR ["text"] 0 ["text"] gr (fun vs zs => vs ++ zs)
structure StrT (P : Program) (w : World) (K : PySem.W.Frag) (mg : Str → Option Value) (base : Heap) (SU f : Addr) : Prop where
  at_ : PySem.W.findIn K (.ref SU) "__str__" = some (some (.ref f))
  fn : PySem.W.isFn K (.ref f) = true
  fr : FnR P w K mg base L2.CX0 3 f (spStr SU)
/-- what stands while the law runs -/
structure LS (SU : Addr) (TT : List (Addr × Str)) (p c0 nl kl sl : Addr) (rows : List (Nat × Int)) (H : Hp) : Prop where
  nl : H nl = some (.lst (NS.map V.str))
  kl : ∃ ks, H kl = some (.lst ks) ∧ Paired (KeyRow H) ks rows
  sl : ∃ ss, H sl = some (.lst ss) ∧ Paired (SumRow SU H) ss rows
  good : ∀ r ∈ rows, r.1 < 7 ∧ big r.2
  pc : ∃ x y, H p = some (.lst [.ref c0, x, y])
  tabs : LamX.Tabs TT H
structure LA (p c0 nl kl sl : Addr) : Prop where
  np : nl ≠ p
  kp : kl ≠ p
  sp : sl ≠ p
  nk : nl ≠ kl
  ns : nl ≠ sl
  ks : kl ≠ sl
  ck : c0 ≠ kl
  cs : c0 ≠ sl
theorem LS.extT {SU p c0 nl kl sl : Addr} {TT : List (Addr × Str)} {rows : List (Nat × Int)} {H H' : Hp} (L : LS SU TT p c0 nl kl sl rows H) (A : LA p c0 nl kl sl) (e : ExtT p H H') (t : LamX.Tabs TT H') : LS SU TT p c0 nl kl sl rows H' := by
  obtain ⟨x, y, hp⟩ := L.pc
  obtain ⟨ks, h1, h2⟩ := L.kl
  obtain ⟨ss, h3, h4⟩ := L.sl
  refine ⟨e _ _ L.nl A.np (fun _ z => nomatch z), ⟨ks, e _ _ h1 A.kp (fun _ z => nomatch z), Paired.mapP h2 fun v r ⟨t, q, k⟩ => ⟨t, q, e _ _ k (ne_of k hp (fun z => nomatch z)) (fun _ z => nomatch z)⟩⟩,
    ⟨ss, e _ _ h3 A.sp (fun _ z => nomatch z), Paired.mapP h4 fun v r ⟨a, q, hi, dx, k⟩ => ⟨a, q, hi, dx, e _ _ k (ne_of k hp (fun z => nomatch z)) (fun _ z => nomatch z)⟩⟩, L.good, ?_, t⟩
  obtain ⟨x', y', h⟩ := e.pen _ _ _ hp
  exact ⟨x', y', h⟩
theorem LS.ext {SU p c0 nl kl sl : Addr} {TT : List (Addr × Str)} {rows : List (Nat × Int)} {H H' : Hp} (L : LS SU TT p c0 nl kl sl rows H) (A : LA p c0 nl kl sl) (e : Ext p H H') : LS SU TT p c0 nl kl sl rows H' := by
  obtain ⟨x, y, hp⟩ := L.pc
  exact L.extT A (.ext e) (tabs_ext L.tabs hp e.keep)
theorem LS.same {SU p c0 nl kl sl : Addr} {TT : List (Addr × Str)} {rows : List (Nat × Int)} {H H' : Hp} (L : LS SU TT p c0 nl kl sl rows H) (A : LA p c0 nl kl sl) (e : Same H H') : LS SU TT p c0 nl kl sl rows H' := L.ext A (.of e)
theorem dp_NS {K : PySem.W.Frag} {H : Hp} : DpAll K H (NS.map V.str) (NS.map PyData.str) := .cons (.str _) (.cons (.str _) (.cons (.str _) (.cons (.str _) (.cons (.str _) (.cons (.str _) (.cons (.str _) .nil))))))
theorem NmT.isTup {K : PySem.W.Frag} {SU nA : Addr} (T : NmT K SU nA) (H : Hp) : TyX K H (.ref nA) (.type "tuple") := by
  obtain ⟨o, its, n, h1, h2, _⟩ := T.look
  exact .kTuple h1 h2
theorem nm_at {i : Nat} (hi : i < 7) : (NS.map V.str)[i]? = some (.str (nm i)) := by
  rw [List.getElem?_map, nm_get hi]
  rfl
theorem one_read {SU BS p nl : Addr} {K : PySem.W.Frag} {σ : L2.St} {H : Hp} {Q : VK} {i n : Nat} {num : Int} (h1 : σ[1]? = some (some (.ref nl))) (h5 : σ[5]? = some (some (.int (i : Int)))) (h6 : σ[6]? = some (some (.int num))) (h17 : σ[17]? = some (some (.ref p)))
    (hi : i < 7) (hn : H nl = some (.lst (NS.map V.str))) (np : nl ≠ p) (PN : PenAt H p n) (h100 : n ≤ 90000) (k : ∀ x H', Ext p H H' → PenAt H' p (n + 1) → x ≠ p → SumAt SU H' x i num → H x = none → Q (.ref x) H') :
    tIf (tOr (tTest (tOp rNe (tVar 6) (tC (.int 0)))) (tTest (tOp rEq (tCall spDraw [] L2.E0 (tCons (tVar 17) (tCons (tC (.int 2)) tNil))) (tC (.int 0)))))
      (tMake SU (spSuI SU BS) [] L2.E0 (tCons (tOp (rIxL K) (tVar 1) (tVar 5)) (tCons (tVar 6) tNil))) (tMake SU (spSuI SU BS) [.int 0] L2.E0 (tCons (tOp (rIxL K) (tVar 1) (tVar 5)) tNil)) σ H Q := by
  have mk : ∀ H' m, Ext p H H' → PenAt H' p m → m ≤ n + 1 → NewS SU H' Q i num := fun H' m e P hm x H'' s hx S => by
    refine k x H'' (e.trans (.of s)) ((P.same s).mono hm) (P.ne hx) S (e.freeP P hx)
  refine ⟨_, h6, rfl, _, rfl, ifb (fun b1 => ?_) (fun b1 => ?_)⟩
  · exact iteT ⟨_, h1, _, h5, nl, _, _, _, rfl, rfl, SqL.of hn, atI_nat (nm_at hi), _, h6, fun x dx hx hd ne => new_read hi (mk H n (Ext.refl p H) PN (by omega)) x dx hx hd ne⟩
  · obtain rfl : num = 0 := by simpa using b1
    refine ⟨_, h17, p, 2, n, rfl, by decide, by decide, PN, by omega, fun d H' d0 d1 e P => ⟨rfl, _, rfl, ifb (fun b2 => ?_) (fun b2 => ?_)⟩⟩
    · exact ⟨_, h1, _, h5, nl, _, _, _, rfl, rfl, SqL.of (e _ _ hn np), atI_nat (nm_at hi), _, h6, fun x dx hx hd ne => new_read hi (mk H' (n + 1) e P (Nat.le_refl _)) x dx hx hd ne⟩
    · exact ⟨_, h1, _, h5, nl, _, _, _, rfl, rfl, SqL.of (e _ _ hn np), atI_nat (nm_at hi), fun x dx hx hd ne => new_read hi (mk H' (n + 1) e P (Nat.le_refl _)) x dx hx hd ne⟩
def spLaw (K : PySem.W.Frag) (TT : List (Addr × Str)) : Sp := fun vs H Q _ => ∃ (a : Addr) (ns : List Int), vs = [.ref a] ∧ SqL K H a (ns.map V.int) ∧ ns.length ≤ 63 ∧ LamX.Tabs TT H ∧ ∀ H', Q (.bl true) H'
end
end K08
set_option Elab.async false
set_option linter.all false
set_option maxRecDepth 100000
set_option maxHeartbeats 16000000
namespace K08
open PySem PySem.Spec PyProof.Rows L2 My MyX MyE TL NumText
section
variable {P : Program} {w : World} {K : PySem.W.Frag} {mg : Str → Option Value} {base : Heap} {SU nA BS BT Te fI fA fS fAp fG gH c PT fEq fStr fP fD fN fX fB fT fSh fV8 fR8 fO rP rG : Addr} {fdI fdAp fdG fdH fdP fdD fdN fdX fdB fdT fdSh fdV8 fdR8 fdO fdR : FuncData} {TT : List (Addr × Str)} {gr : List Value → List Value → List Value}
theorem pen_upd {p c0 a : Addr} {H : Hp} {n : Nat} {x y : V} {o : HO} (P : PenAt H p n) (h : H p = some (.lst [.ref c0, x, y])) (na : a ≠ p) (nc : c0 ≠ a) : PenAt (upd H a o) p n := by
  obtain ⟨c, ns, at_, g, h1, h2, h3, h4, h5, h6⟩ := P.ex
  rw [h] at h1
  cases h1
  exact ⟨c0, ns, at_, g, by rw [upd_ne na.symm]; exact h, h2, by rw [upd_ne nc]; exact h3, h4, h5, h6⟩
theorem KeyRow.updl {H : Hp} {v : V} {r : Nat × Int} {l : Addr} {xs : List V} {o : HO} (h : KeyRow H v r) (hl : H l = some (.lst xs)) : KeyRow (upd H l o) v r := by
  obtain ⟨t, e, h⟩ := h
  exact ⟨t, e, by rw [upd_ne (ne_of h hl (fun z => nomatch z))]; exact h⟩
theorem SumAt.updl {SU : Addr} {H : Hp} {a : Addr} {i : Nat} {n : Int} {l : Addr} {xs : List V} {o : HO} (h : SumAt SU H a i n) (hl : H l = some (.lst xs)) : SumAt SU (upd H l o) a i n := by
  obtain ⟨hi, dx, h⟩ := h
  exact ⟨hi, dx, by rw [upd_ne (ne_of h hl (fun z => nomatch z))]; exact h⟩
theorem SumRow.updl {SU : Addr} {H : Hp} {v : V} {r : Nat × Int} {l : Addr} {xs : List V} {o : HO} (h : SumRow SU H v r) (hl : H l = some (.lst xs)) : SumRow SU (upd H l o) v r := by
  obtain ⟨a, e, h⟩ := h
  exact ⟨a, e, h.updl hl⟩
theorem small_line {n : Nat} (h : n ≤ 1000) : n < sizeLine := Nat.lt_of_le_of_lt h (by rw [sizeLine_eq]; decide)
theorem nm_ok {i : Nat} (hi : i < 7) : PyData.strOk (nm i) = true := by
  have : ∀ i : Fin 7, PyData.strOk (nm i.val) = true := by decide +kernel
  exact this ⟨i, hi⟩
theorem shaped_two {i : Nat} (hi : i < 7) {a b : Int} : SeqAt.shaped (.list [.tuple [.str (nm i), .int a], .tuple [.str (nm i), .int b]]) = true := by
  unfold SeqAt.shaped
  simp [PyData.canLay0, PyData.canLayAll0, PyData.depth, PyData.depthAll, nm_ok hi]
theorem eqv_two {x : Str} {a b : Int} : PyData.eqv (.list [.tuple [.str x, .int a], .tuple [.str x, .int b]]) (.list [.tuple [.str x, .int a], .tuple [.str x, .int b]]) = true := by
  simp [PyData.eqv, PyData.eqvAll]
theorem shaped_one {i : Nat} (hi : i < 7) {a : Int} : SeqAt.shaped (.tuple [.str (nm i), .int a]) = true := by
  unfold SeqAt.shaped
  simp [PyData.canLay0, PyData.canLayAll0, PyData.depth, PyData.depthAll, nm_ok hi]
theorem eqv_one {x : Str} {a : Int} : PyData.eqv (.tuple [.str x, .int a]) (.tuple [.str x, .int a]) = true := by
  simp [PyData.eqv, PyData.eqvAll]
/-- both lists grow by one row -/
theorem app_both {p c0 nl kl sl o : Addr} {rows : List (Nat × Int)} {H : Hp} {σ : L2.St} {D : Ends} {i n : Nat} {num : Int} {rest : TS} (L : LS SU TT p c0 nl kl sl rows H) (A : LA p c0 nl kl sl) (PN : PenAt H p n) (S : SumAt SU H o i num) (hi : i < 7) (hb : big num) (hl : rows.length ≤ 100)
    (h2 : σ[2]? = some (some (.ref kl))) (h3 : σ[3]? = some (some (.ref sl))) (h5 : σ[5]? = some (some (.int (i : Int)))) (h6 : σ[6]? = some (some (.int num))) (h15 : σ[15]? = some (some (.ref o)))
    (k : ∀ H', LS SU TT p c0 nl kl sl (rows ++ [(i, num)]) H' → PenAt H' p n → SumAt SU H' o i num → rest D σ H') :
    tSeq (tDrop (tBM K "list" rAppend (tVar 2) (tCons (tTup (tCons (tVar 5) (tCons (tVar 6) tNil))) tNil))) (tSeq (tDrop (tBM K "list" rAppend (tVar 3) (tCons (tVar 15) tNil))) rest) D σ H := by
  obtain ⟨ks, hk, pk⟩ := L.kl
  obtain ⟨ss, hs, ps⟩ := L.sl
  obtain ⟨x, y, hp⟩ := L.pc
  refine ⟨_, h2, .inl ⟨rfl, ks, SqL.of hk⟩, _, h5, _, h6, (show 2 ≤ sizeLine by decide), fun t ft => ?_⟩
  have sT : Same H (upd H t (.tup [.int (i : Int), .int num])) := same_upd ft
  have k1 := sT _ _ hk
  have t1 : upd H t (.tup [.int (i : Int), .int num]) t = some (.tup [.int (i : Int), .int num]) := upd_same
  generalize upd H t (.tup [.int (i : Int), .int num]) = H1 at sT k1 t1
  have lk : ks.length < sizeLine := small_line (by rw [Paired.length pk]; omega)
  refine ⟨kl, ks, _, rfl, rfl, k1, lk, ?_⟩
  have L1 := L.same A sT
  have s1 := sT _ _ hs
  refine ⟨_, h3, .inl ⟨rfl, ss, SqL.of (by rw [upd_ne A.ks.symm]; exact s1)⟩, _, h15, sl, ss, _, rfl, rfl, (by rw [upd_ne A.ks.symm]; exact s1), small_line (by rw [Paired.length ps]; omega), ?_⟩
  have s2 : upd H1 kl (.lst (ks ++ [.ref t])) sl = some (.lst ss) := by rw [upd_ne A.ks.symm]; exact s1
  have p1 := sT _ _ hp
  have pn2 : PenAt (upd H1 kl (.lst (ks ++ [.ref t]))) p n := pen_upd (PN.same sT) p1 A.kp A.ck
  have p2 : upd H1 kl (.lst (ks ++ [.ref t])) p = some (.lst [.ref c0, x, y]) := by rw [upd_ne A.kp.symm]; exact p1
  have pn3 : PenAt (upd (upd H1 kl (.lst (ks ++ [.ref t]))) sl (.lst (ss ++ [.ref o]))) p n := pen_upd pn2 p2 A.sp A.cs
  have S1 : SumAt SU (upd (upd H1 kl (.lst (ks ++ [.ref t]))) sl (.lst (ss ++ [.ref o]))) o i num := ((S.same sT).updl k1).updl s2
  refine k _ ⟨?_, ⟨ks ++ [.ref t], ?_, paired_app (Paired.mapP pk fun v r h => ((h.same sT).updl k1).updl s2) (.cons ⟨t, rfl, ?_⟩ .nil)⟩, ⟨ss ++ [.ref o], upd_same, paired_app (Paired.mapP ps fun v r h => ((h.same sT).updl k1).updl s2) (.cons ⟨o, rfl, S1⟩ .nil)⟩, ?_, ⟨x, y, ?_⟩, ?_⟩ pn3 S1
  · rw [upd_ne A.ns, upd_ne A.nk]
    exact L1.nl
  · rw [upd_ne A.ks]
    exact upd_same
  · rw [upd_ne (ne_of t1 s1 (fun z => nomatch z)), upd_ne (ne_of t1 k1 (fun z => nomatch z))]
    exact t1
  · intro r hr
    rcases List.mem_append.mp hr with h | h
    · exact L.good r h
    · obtain rfl := List.mem_singleton.mp h
      exact ⟨hi, hb⟩
  · rw [upd_ne A.sp.symm]
    exact p2
  · exact tabs_ext (tabs_ext L1.tabs k1 (fun b u h m => by rw [upd_ne m]; exact h)) s2 (fun b u h m => by rw [upd_ne m]; exact h)
/-- Sum + step and Sum - step are as they ought to be -/
theorem sums_read {nl o : Addr} {H : Hp} {σ : L2.St} {D : Ends} {i : Nat} {num stp : Int} {r : TS} (OBA : OpT P w K mg base SU BS "add" (· + ·) fA) (OBS : OpT P w K mg base SU BS "sub" (· - ·) fS) (hi : i < 7) (hn : H nl = some (.lst (NS.map V.str))) (S : SumAt SU H o i num)
    (h1 : σ[1]? = some (some (.ref nl))) (h5 : σ[5]? = some (some (.int (i : Int)))) (h6 : σ[6]? = some (some (.int num))) (h7 : σ[7]? = some (some (.int stp))) (h15 : σ[15]? = some (some (.ref o))) (k : ∀ H', Same H H' → D.nx σ H') :
    tIfS (tTest (tOp (rNeD K) (tLst (tCons (tCall (spShown2 SU) [] L2.E0 (tCons (tOp (rBinI K SU "add" (spPlus SU BS (· + ·)) L2.E0) (tVar 15) (tVar 7)) tNil)) (tCons (tCall (spShown2 SU) [] L2.E0 (tCons (tOp (rBinI K SU "sub" (spPlus SU BS (· - ·)) L2.E0) (tVar 15) (tVar 7)) tNil)) tNil)))
      (tLst (tCons (tTup (tCons (tOp (rIxL K) (tVar 1) (tVar 5)) (tCons (tOp (rI0 fun i j => V.int (i + j)) (tVar 6) (tVar 7)) tNil))) (tCons (tTup (tCons (tOp (rIxL K) (tVar 1) (tVar 5)) (tCons (tOp (rI0 fun i j => V.int (i - j)) (tVar 6) (tVar 7)) tNil))) tNil))))) r tNext D σ H := by
  obtain ⟨_, dx, ho⟩ := id S
  refine ⟨_, h15, _, h7, o, dx, _, .type "int", rfl, ho, .base (.int stp), OBA.rt _ (by decide), o, .int stp, _, i, num, rfl, S, .int stp, .inl ⟨stp, rfl, fun a1 H1 s1 _ S1 => ?_⟩⟩
  refine ⟨a1, i, _, rfl, S1, fun t1 H2 s2 _ e2 => ?_⟩
  have s02 := s1.trans s2
  refine ⟨_, h15, _, h7, o, dx, _, .type "int", rfl, s02 _ _ ho, .base (.int stp), OBS.rt _ (by decide), o, .int stp, _, i, num, rfl, S.same s02, .int stp, .inl ⟨stp, rfl, fun a2 H3 s3 _ S3 => ?_⟩⟩
  refine ⟨a2, i, _, rfl, S3, fun t2 H4 s4 _ e4 => ⟨(show 2 ≤ sizeLine by decide), fun l1 f1 => ?_⟩⟩
  have s04 := (s02.trans s3).trans s4
  have n4 := s04 _ _ hn
  have e24 := (s3.trans s4) _ _ e2
  have z5 : Same H4 (upd H4 l1 (.lst [.ref t1, .ref t2])) := same_upd f1
  have c5 : upd H4 l1 (.lst [.ref t1, .ref t2]) l1 = some (.lst [.ref t1, .ref t2]) := upd_same
  generalize upd H4 l1 (.lst [.ref t1, .ref t2]) = H5 at z5 c5
  refine ⟨_, h1, _, h5, nl, _, _, _, rfl, rfl, SqL.of (z5 _ _ n4), atI_nat (nm_at hi), _, h6, _, h7, _, _, rfl, rfl, (show 2 ≤ sizeLine by decide), fun t3 f3 => ?_⟩
  have z6 : Same H5 (upd H5 t3 (.tup [.str (nm i), .int (num + stp)])) := same_upd f3
  have c6 : upd H5 t3 (.tup [.str (nm i), .int (num + stp)]) t3 = some (.tup [.str (nm i), .int (num + stp)]) := upd_same
  generalize upd H5 t3 (.tup [.str (nm i), .int (num + stp)]) = H6 at z6 c6
  refine ⟨_, h1, _, h5, nl, _, _, _, rfl, rfl, SqL.of (z6 _ _ (z5 _ _ n4)), atI_nat (nm_at hi), _, h6, _, h7, _, _, rfl, rfl, (show 2 ≤ sizeLine by decide), fun t4 f4 => ⟨(show 2 ≤ sizeLine by decide), fun l2 f2 => ?_⟩⟩
  have z7 : Same H6 (upd H6 t4 (.tup [.str (nm i), .int (num - stp)])) := same_upd f4
  have c7 : upd H6 t4 (.tup [.str (nm i), .int (num - stp)]) t4 = some (.tup [.str (nm i), .int (num - stp)]) := upd_same
  generalize upd H6 t4 (.tup [.str (nm i), .int (num - stp)]) = H7 at z7 c7 f2
  have z8 : Same H7 (upd H7 l2 (.lst [.ref t3, .ref t4])) := same_upd f2
  have c8 : upd H7 l2 (.lst [.ref t3, .ref t4]) l2 = some (.lst [.ref t3, .ref t4]) := upd_same
  generalize upd H7 l2 (.lst [.ref t3, .ref t4]) = H8 at z8 c8
  have z58 := (z6.trans z7).trans z8
  have z48 := z5.trans z58
  refine ⟨.list [.tuple [.str (nm i), .int (num + stp)], .tuple [.str (nm i), .int (num - stp)]], .list [.tuple [.str (nm i), .int (num + stp)], .tuple [.str (nm i), .int (num - stp)]],
    .lst (SqL.of (z58 _ _ c5)) (.cons (.tup (SqT.of (z48 _ _ e24)) (.cons (.str _) (.cons (.int _) .nil))) (.cons (.tup (SqT.of (z48 _ _ e4)) (.cons (.str _) (.cons (.int _) .nil))) .nil)),
    .lst (SqL.of c8) (.cons (.tup (SqT.of ((z7.trans z8) _ _ c6)) (.cons (.str _) (.cons (.int _) .nil))) (.cons (.tup (SqT.of (z8 _ _ c7)) (.cons (.str _) (.cons (.int _) .nil))) .nil)), shaped_two hi, shaped_two hi, _, rfl, ?_⟩
  rw [eqv_two]
  exact iteF (k _ (s04.trans z48))
theorem atI_pair {x y : V} : atI [x, y] 0 = some x ∧ atI [x, y] 1 = some y := ⟨rfl, rfl⟩
theorem new_read1 {SU BS x dx : Addr} {H : Hp} {R : Hp → Prop} {E : XK} {i : Nat} {n : Int} (hi : i < 7) (hx : H x = none) (hd : H dx = none) (k : ∀ H', Same H H' → SumAt SU H' x i n → R H') :
    spSuI SU BS [.ref x, .str (nm i), .int n] (upd (upd H dx (.own x)) x (.ins SU dx [])) (fun v H2 => v = .non ∧ R H2) E := by
  refine ⟨x, dx, _, _, _, _, rfl, upd_same, .str _, .int _, fun j m hj e1 e2 => ⟨rfl, ?_⟩, fun h => (h i hi rfl).elim, fun _ h => nomatch h⟩
  obtain rfl : j = i := nm_inj hj hi (V.str.inj e1).symm
  cases e2
  refine k _ (fun b o e => ?_) ⟨hi, dx, upd_same⟩
  rw [upd_ne (ne_of_none e hx), upd_ne (ne_of_none e hx), upd_ne (ne_of_none e hd)]
  exact e
/-- apart, and what it ought to be -/
theorem apart_read {nl o t : Addr} {H : Hp} {σ : L2.St} {D : Ends} {i j : Nat} {num m : Int} {r rest : TS} (B : SuT K SU) (hi : i < 7) (hj : j < 7) (hn : H nl = some (.lst (NS.map V.str))) (S : SumAt SU H o i num) (ht : H t = some (.tup [.int (j : Int), .int m])) (hs : 9 < σ.length)
    (h1 : σ[1]? = some (some (.ref nl))) (h5 : σ[5]? = some (some (.int (i : Int)))) (h6 : σ[6]? = some (some (.int num))) (h8 : σ[8]? = some (some (.ref t))) (h15 : σ[15]? = some (some (.ref o))) (k : ∀ v H', Same H H' → rest D (σ.set 9 (some v)) H') :
    tSeq (tAsg (tMeth SU "apart" (spApart SU BS) [] L2.E0 (tVar 15) (tCons (tMakeK SU 0 2 (spSuI SU BS) (fun vs zs => vs ++ zs.reverse) L2.E0 tNil (tCons (tOp (rIxT K) (tVar 8) (tC (.int 1))) (tCons (tOp (rIxL K) (tVar 1) (tOp (rIxT K) (tVar 8) (tC (.int 0)))) tNil))) tNil)) (gName 9))
      (tSeq (tIfS (tOr (tTest (tOp rNe (tVar 9) (tIf (tTest (tOp rEq (tOp (rIxT K) (tVar 8) (tC (.int 0))) (tVar 5))) (tOp (rI0 fun i j => V.int (i - j)) (tVar 6) (tOp (rIxT K) (tVar 8) (tC (.int 1)))) (tC .non))))
        (tB (tCB (rIsi K) (tCons (tVar 9) (tCons (tC (.ty "bool")) tNil))))) r tNext) rest) D σ H := by
  obtain ⟨_, dx, ho⟩ := id S
  refine ⟨_, h15, o, dx, _, rfl, ho, rfl, ?_⟩
  refine ⟨_, h8, t, _, _, _, rfl, rfl, SqT.of ht, rfl, _, h1, _, h8, t, _, _, _, rfl, rfl, SqT.of ht, rfl, nl, _, _, _, rfl, rfl, SqL.of hn, atI_nat (nm_at hj), rfl, rfl, fun x d hx hd ne => ?_⟩
  have e0 : ((fun vs zs => vs ++ zs.reverse : List V → List V → List V) [.ref x] [.int m, .str (nm j)]) = [.ref x, .str (nm j), .int m] := rfl
  rw [e0]
  refine new_read1 hj hx hd (fun H1 s1 S1 => ?_)
  have ht1 := s1 _ _ ht
  refine ⟨o, .ref x, _, i, num, rfl, S.same s1, S1.ty, .inl ⟨x, j, m, rfl, S1, ?_⟩⟩
  have g9 : ∀ v, (σ.set 9 (some v))[9]? = some (some v) := fun v => by rw [List.getElem?_set_self hs]
  have g : ∀ v q, q ≠ 9 → (σ.set 9 (some v))[q]? = σ[q]? := fun v q hq => by rw [List.getElem?_set_ne (Ne.symm hq)]
  by_cases e : i = j
  · rw [if_pos e]
    refine ⟨_, g9 _, _, (g _ 8 (by decide)).trans h8, t, _, _, _, rfl, rfl, SqT.of ht1, rfl, _, (g _ 5 (by decide)).trans h5, rfl, _, rfl, ifd (fun _ => ?_) (fun q => (q (by rw [e])).elim)⟩
    refine ⟨_, (g _ 6 (by decide)).trans h6, _, (g _ 8 (by decide)).trans h8, t, _, _, _, rfl, rfl, SqT.of ht1, rfl, _, _, rfl, rfl, rfl, _, rfl, ?_⟩
    rw [show (!decide (V.int (num - m) = V.int (num - m))) = false by simp]
    exact iteF ⟨_, g9 _, _, _, .type "int", _, false, rfl, .ty "bool", .base (.int _), kit_ty (by decide +kernel), _, rfl, iteF (k _ _ s1)⟩
  · rw [if_neg e]
    refine ⟨_, g9 _, _, (g _ 8 (by decide)).trans h8, t, _, _, _, rfl, rfl, SqT.of ht1, rfl, _, (g _ 5 (by decide)).trans h5, rfl, _, rfl, ifd (fun q => (e (by have := V.int.inj q; omega)).elim) (fun _ => ?_)⟩
    refine ⟨rfl, _, rfl, ?_⟩
    exact iteF ⟨_, g9 _, _, _, .type "NoneType", _, false, rfl, .ty "bool", .base .non, kit_ty (by decide +kernel), _, rfl, iteF (k _ _ s1)⟩
end
end K08
set_option Elab.async false
set_option linter.all false
set_option maxRecDepth 100000
set_option maxHeartbeats 4000000
namespace K08
open PySem PySem.Spec PyProof.Rows L2 My MyX MyE TL NumText
theorem spl_plain : ∀ (l acc : List Nat), 32 ∉ l → spl [32] 0 acc l = [acc ++ l]
  | [], acc, _ => by rw [spl_nil, List.append_nil]
  | c :: r, acc, h => by
    have h1 : pre [32] (c :: r) = false := Bool.eq_false_iff.mpr fun e => by
      have := (pre1 _ _).mp e
      exact h (by rw [List.head?_cons] at this; rw [Option.some.inj this]; exact List.mem_cons_self ..)
    rw [spl_miss h1, spl_plain r (acc ++ [c]) (fun e => h (List.mem_cons_of_mem _ e)), List.append_assoc]
    rfl
theorem split_plain {z : Str} (h : 32 ∉ tl z) : Txt.split z " " = [z] := by
  obtain ⟨w0, rest, e, _, h0⟩ := split_first z
  have e2 := split_spl z " " (by decide +kernel) (kind_ok (by decide +kernel))
  have e32 : tl (" " : Str) = [32] := by decide +kernel
  rw [e32, spl_plain (tl z) [] h, e] at e2
  have hr : rest = [] := by
    have := congrArg List.length e2
    simp at this
    exact this
  rw [e, hr, h0 hr]
theorem sum_text {i : Nat} (hi : i < 7) {n : Int} (h : behindL (tailL n) = some n) : sumL (NL.getD i [] ++ tailL n) = some (i, n) := by
  have : i = 0 ∨ i = 1 ∨ i = 2 ∨ i = 3 ∨ i = 4 ∨ i = 5 ∨ i = 6 := by omega
  rcases this with rfl | rfl | rfl | rfl | rfl | rfl | rfl <;> simp [sumL, sumFrom, NL, pre, h]
theorem nums_signs (n : Nat) : ∀ c ∈ numL n, 48 ≤ c ∧ c ≤ 57 := numL_digits n
theorem text_signs {i : Nat} (hi : i < 7) (n : Int) : ∀ c ∈ tl (textV i n), c < 123 ∧ c ≠ 32 := by
  rw [tl_text hi]
  intro c hc
  rcases List.mem_append.mp hc with h | h
  · have : ∀ i : Fin 7, ∀ c ∈ NL.getD i.val [], c < 123 ∧ c ≠ 32 := by decide +kernel
    exact this ⟨i, hi⟩ c h
  · unfold tailL at h
    split at h
    · cases h
    · rcases List.mem_cons.mp h with h | h
      · rw [h]
        split <;> decide
      · have := nums_signs _ c h
        omega
theorem text_ok {i : Nat} (hi : i < 7) (n : Int) : okT (textV i n) := fun c hc => by
  have := (text_signs hi n c hc).1
  omega
theorem text_split {i : Nat} (hi : i < 7) (n : Int) : Txt.split (textV i n) " " = [textV i n] := split_plain fun h => (text_signs hi n _ h).2 rfl
theorem text_sum {i : Nat} (hi : i < 7) {n : Int} (hb : -10 ^ 42 ≤ n ∧ n ≤ 10 ^ 42) : sumL (tl (textV i n)) = some (i, n) := by
  rw [tl_text hi]
  exact sum_text hi (behind_tail (Nat.le_trans (big_len hb) (by decide)))
section
variable {P : Program} {w : World} {K : PySem.W.Frag} {mg : Str → Option Value} {base : Heap} {SU nA BS BT : Addr}
/-- the text of a Sum, and the text read -/
theorem text_read {nl o : Addr} {H : Hp} {σ : L2.St} {D : Ends} {i : Nat} {num : Int} {r rest : TS} (hi : i < 7) (hb : big num) (hn : H nl = some (.lst (NS.map V.str))) (S : SumAt SU H o i num) (hs : 10 < σ.length)
    (h1 : σ[1]? = some (some (.ref nl))) (h5 : σ[5]? = some (some (.int (i : Int)))) (h6 : σ[6]? = some (some (.int num))) (h15 : σ[15]? = some (some (.ref o))) (k : ∀ H', Same H H' → rest D (σ.set 10 (some (.str (textV i num)))) H') :
    tSeq (tAsg (tCall spText [] L2.E0 (tCons (tOp (rIxL K) (tVar 1) (tVar 5)) (tCons (tVar 6) tNil))) (gName 10))
      (tSeq (tIfS (tOr (tTest (tOp rNe (tCB (fun xs H Q => ∃ a dx fs, xs = [V.ref a] ∧ H a = some (.ins SU dx fs) ∧ spStr SU [.ref a] H (fun z H' => ∃ y, z = .str y ∧ Q z H') L2.E0) (tCons (tVar 15) tNil)) (tVar 10)))
        (tTest (tOp (rNeD K) (tCall (spShown2 SU) [] L2.E0 (tCons (tSMeth SU (spRead SU BT) L2.E0 (tC (.ref SU)) (tCons (tVar 10) tNil)) tNil)) (tTup (tCons (tOp (rIxL K) (tVar 1) (tVar 5)) (tCons (tVar 6) tNil)))))) r tNext) rest) D σ H := by
  have t41 : (10 : Int) ^ 41 ≤ 10 ^ 42 := by decide
  have hb2 : -10 ^ 42 ≤ num ∧ num ≤ 10 ^ 42 := ⟨by have := hb.1; omega, by have := hb.2; omega⟩
  obtain ⟨_, dx, ho⟩ := id S
  refine ⟨_, h1, _, h5, nl, _, _, _, rfl, rfl, SqL.of hn, atI_nat (nm_at hi), _, h6, i, num, rfl, hi, hb2, ?_⟩
  have g10 : (σ.set 10 (some (.str (textV i num))))[10]? = some (some (.str (textV i num))) := by rw [List.getElem?_set_self hs]
  have g : ∀ q, q ≠ 10 → (σ.set 10 (some (V.str (textV i num))))[q]? = σ[q]? := fun q hq => by rw [List.getElem?_set_ne (Ne.symm hq)]
  refine ⟨_, (g 15 (by decide)).trans h15, o, dx, _, rfl, ho, o, i, num, rfl, S, big_log hb2, fun H0 s0 => ⟨_, rfl, _, g10, rfl, _, rfl, ?_⟩⟩
  rw [sumT_text hi, show (!decide (V.str (textV i num) = V.str (textV i num))) = false by simp]
  refine iteF ⟨rfl, _, g10, _, _, rfl, .str _, (fun z => nomatch z), fun z hz => ?_⟩
  cases hz
  refine ⟨Nat.le_trans (text_len hi hb2) (by decide), fun w0 rs e => ?_⟩
  rw [text_split hi] at e
  cases e
  rw [text_sum hi hb2]
  refine ⟨(fun z => nomatch z), fun j m e _ => ?_⟩
  cases e
  refine ⟨fun _ => ?_, fun z => (z rfl).elim⟩
  intro x H1 s1 _ S1
  refine ⟨x, i, num, rfl, S1, fun t H2 s2 _ e2 => ?_⟩
  have s02 := s0.trans (s1.trans s2)
  refine ⟨_, (g 1 (by decide)).trans h1, _, (g 5 (by decide)).trans h5, nl, _, _, _, rfl, rfl, SqL.of (s02 _ _ hn), atI_nat (nm_at hi), _, (g 6 (by decide)).trans h6, (show 2 ≤ sizeLine by decide), fun t3 f3 => ?_⟩
  have s3 : Same H2 (upd H2 t3 (.tup [.str (nm i), .int num])) := same_upd f3
  refine ⟨_, _, .tup (SqT.of (s3 _ _ e2)) (.cons (.str _) (.cons (.int _) .nil)), .tup (SqT.of upd_same) (.cons (.str _) (.cons (.int _) .nil)), shaped_one hi, shaped_one hi, _, rfl, ?_⟩
  rw [eqv_one]
  exact iteF (k _ (s02.trans s3))
end
end K08
set_option Elab.async false
set_option linter.all false
set_option maxRecDepth 100000
set_option maxHeartbeats 4000000
namespace K08
open PySem PySem.Spec PyProof.Rows L2 My MyX MyE TL NumText
theorem spl_mem : ∀ (l acc : List Nat) {p : List Nat} {q : List (List Nat)}, spl [32] 0 acc l = p :: q → ∀ c ∈ p, c ∈ acc ∨ c ∈ l
  | [], acc, p, q, e, c, hc => by
    rw [spl_nil] at e
    rw [← (List.cons.inj e).1] at hc
    exact .inl hc
  | d :: r, acc, p, q, e, c, hc => by
    by_cases h : pre [32] (d :: r) = true
    · rw [spl_hit h] at e
      rw [← (List.cons.inj e).1] at hc
      exact .inl hc
    · rw [spl_miss (Bool.eq_false_iff.mpr h)] at e
      rcases spl_mem r (acc ++ [d]) e c hc with k | k
      · rcases List.mem_append.mp k with k | k
        · exact .inl k
        · rw [List.mem_singleton.mp k]
          exact .inr (List.mem_cons_self ..)
      · exact .inr (List.mem_cons_of_mem _ k)
theorem split_ok {z w0 : Str} {rest : List Str} (h : okT z) (e : Txt.split z " " = w0 :: rest) : okT w0 := fun c hc => by
  have e2 := split_spl z " " (by decide +kernel) (kind_ok (by decide +kernel))
  have e32 : tl (" " : Str) = [32] := by decide +kernel
  rw [e32, e] at e2
  rcases spl_mem (tl z) [] e2.symm c hc with k | k
  · cases k
  · exact h c k
theorem sumFrom_back : ∀ (NN : List (List Nat)) (k : Nat) (l : List Nat) {i : Nat} {n : Int}, sumFrom l k NN = some (i, n) → k ≤ i ∧ i < k + NN.length ∧ pre (NN.getD (i - k) []) l = true ∧ behindL (l.drop (NN.getD (i - k) []).length) = some n
  | [], _, _, _, _, h => by cases h
  | S :: r, k, l, i, n, h => by
    unfold sumFrom at h
    split at h
    · rename_i hp
      cases hb : behindL (l.drop S.length) with
      | none => rw [hb] at h; cases h
      | some m =>
        rw [hb] at h
        cases h
        refine ⟨Nat.le_refl _, by simp, ?_, ?_⟩
        · rw [Nat.sub_self]
          exact hp
        · rw [Nat.sub_self]
          exact hb
    · obtain ⟨h1, h2, h3, h4⟩ := sumFrom_back r (k + 1) l h
      have e : (S :: r).getD (i - k) [] = r.getD (i - (k + 1)) [] := by
        rw [show i - k = (i - (k + 1)) + 1 by omega, List.getD_cons_succ]
      refine ⟨by omega, by rw [List.length_cons]; omega, ?_, ?_⟩
      · rw [e]
        exact h3
      · rw [e]
        exact h4
theorem pre_app : ∀ {S l : List Nat}, pre S l = true → l = S ++ l.drop S.length := fun {S l} h => by
  unfold pre at h
  have := beq_iff_eq.mp h
  conv => lhs; rw [← List.take_append_drop S.length l]
  rw [this]
theorem sum_back {l : List Nat} {i : Nat} {n : Int} (h : sumL l = some (i, n)) : i < 7 ∧ l = NL.getD i [] ++ tailL n ∧ behindL (tailL n) = some n := by
  obtain ⟨_, h2, h3, h4⟩ := sumFrom_back NL 0 l h
  have h5 := behind_back h4
  have hl : NL.length = 7 := rfl
  rw [Nat.sub_zero] at h3 h4 h5
  refine ⟨by omega, ?_, ?_⟩
  · rw [← h5]
    exact pre_app h3
  · rw [← h5]
    exact h4
theorem dv_lt : ∀ (m : Nat) (l : List Nat), l.length = m → AllDigits l → digitsVal l < 10 ^ m
  | 0, l, h, _ => by
    rw [List.eq_nil_of_length_eq_zero h]
    decide
  | m + 1, l, h, hd => by
    have hne : l ≠ [] := fun e => by rw [e] at h; cases h
    have e := List.dropLast_concat_getLast hne
    have h2 := dv_lt m l.dropLast (by rw [List.length_dropLast]; omega) (fun c hc => hd c (List.dropLast_subset _ hc))
    have h3 := hd _ (List.getLast_mem hne)
    rw [← e, dv_snoc, Nat.pow_succ]
    omega
theorem behind_log {n : Int} (h : behindL (tailL n) = some n) : n.natAbs.log2 < 1900 := by
  by_cases h0 : n = 0
  · rw [h0]
    decide
  · have ht : tailL n = (if 0 < n then 43 else 45) :: numL n.natAbs := if_neg h0
    have hl : (numL n.natAbs).length ≤ 60 := by
      refine Nat.le_of_not_lt fun z => ?_
      have := behind_none (r := tailL n) (by rw [ht]; exact fun e => nomatch e) (.inr (.inr (.inr (.inl (by rw [ht, List.drop_succ_cons, List.drop_zero]; exact z)))))
      rw [h] at this
      cases this
    have h1 := dv_lt _ (numL n.natAbs) rfl (numL_digits _)
    rw [numL_val] at h1
    have h2 : n.natAbs < 10 ^ 60 := Nat.lt_of_lt_of_le h1 (Nat.pow_le_pow_right (by decide) hl)
    have h3 : n.natAbs < 2 ^ 200 := Nat.lt_trans h2 (by decide)
    exact Nat.lt_trans ((Nat.log2_lt (by omega)).mpr h3) (by decide)
section
variable {P : Program} {w : World} {K : PySem.W.Frag} {mg : Str → Option Value} {base : Heap} {SU nA BS BT : Addr} {TT : List (Addr × Str)}
abbrev tSplitX (a b : TE) : TE := tM1 (fun x xs H Q => ∃ a b, x = V.str a ∧ xs = [V.str b] ∧ (b.length == 0) = false ∧ a.length + 2 ≤ sizeLine ∧ rNewStrs (Txt.split a b) H Q) a b
abbrev rLenX (K : PySem.W.Frag) : List V → Hp → VK → Prop := fun xs H Q => ∃ p ys, xs = [V.ref p] ∧ (SqL K H p ys ∨ SqT K H p ys) ∧ Q (.int (ys.length : Int)) H
abbrev rStrX (SU : Addr) : List V → Hp → VK → Prop := fun xs H Q => ∃ a dx fs, xs = [V.ref a] ∧ H a = some (.ins SU dx fs) ∧ spStr SU [.ref a] H (fun z H' => ∃ y, z = .str y ∧ Q z H') L2.E0
theorem eqv_ii (a b c d : Int) : PyData.eqv (.tuple [.int a, .int b]) (.tuple [.int c, .int d]) = (decide (a = c) && decide (b = d)) := by
  rw [Bool.eq_iff_iff]
  simp [PyData.eqv, PyData.eqvAll]
theorem shaped_ii (a b : Int) : SeqAt.shaped (.tuple [.int a, .int b]) = true := by
  unfold SeqAt.shaped
  simp [PyData.canLay0, PyData.canLayAll0, PyData.depth, PyData.depthAll]
theorem bent_read {H : Hp} {σ : L2.St} {D : Ends} {z : Str} {r1 r2 : TS} {rest : TS} (B : SuT K SU) (hz : z.length ≤ 400) (hok : okT z) (TB : LamX.Tabs TT H) (hs : σ.length = 20) (h16 : σ[16]? = some (some (.str z)))
    (k : ∀ v11 v12 v13 H', LamX.ExtN H H' → LamX.Tabs TT H' → rest D (((σ.set 11 (some v11)).set 12 (some v12)).set 13 (some v13)) H') :
    tSeq (tAsg (tSplitX (tVar 16) (tC (.str " "))) (gName 11))
      (tSeq (tAsg (tIf (tTest (tOp (fun x y H Q => y = V.non ∧ Q (V.bl (decide (x = V.non))) H) (tCall spTold [] L2.E0 (tCons (tOp (rIxL K) (tVar 11) (tC (.int 0))) tNil)) (tC .non))) (tTup (tCons (tC (.int 0)) (tCons (tC (.int 0)) tNil))) (tTup (tCons (tC (.int 0)) (tCons (tC (.int 1)) tNil)))) (gName 12))
        (tSeq (tAsg (LamX.tLam TT (TTh BS BT) fun E => tSMethK SU 1 (spRead SU BT) (fun vs zs => vs ++ zs) E (tC (.ref SU)) (tCons (tVar 16) tNil)) (gName 13))
          (tSeq (tIfS (tAnd (tTest (tOp (rEqD K) (tVar 12) (tTup (tCons (tC (.int 0)) (tCons (tC (.int 1)) tNil))))) (tTest (tOp rEq (tCB (rLenX K) (tCons (tVar 11) tNil)) (tC (.int 1)))))
            (tIfS (tOr (tNot (tB (tCB (rIsi K) (tCons (tVar 13) (tCons (tC (.ty "list")) tNil))))) (tOr (tTest (tOp (rNeD K) (tCall (spShown2 SU) [] L2.E0 (tCons (tOp (rIxL K) (tVar 13) (tC (.int 0))) tNil)) (tCall spTold [] L2.E0 (tCons (tVar 16) tNil))))
              (tTest (tOp rNe (tCB (rStrX SU) (tCons (tOp (rIxL K) (tVar 13) (tC (.int 0))) tNil)) (tVar 16))))) r1 tNext)
            (tIfS (tTest (tOp (rNeD K) (tVar 13) (tVar 12))) r2 tNext)) rest))) D σ H := by
  have hlen : z.length + 2 ≤ sizeLine := Nat.le_trans (by omega : _ ≤ 402) (by rw [sizeLine_eq]; decide)
  refine ⟨_, h16, ⟨_, rfl⟩, z, " ", rfl, rfl, (by decide), hlen, fun lw fw => ?_⟩
  obtain ⟨w0, ws, e, hw0, hone⟩ := split_first z
  have okw := split_ok hok e
  rw [e]
  have sw : Same H (upd H lw (.lst ((w0 :: ws).map V.str))) := same_upd fw
  have cw : upd H lw (.lst ((w0 :: ws).map V.str)) lw = some (.lst ((w0 :: ws).map V.str)) := upd_same
  generalize upd H lw (.lst ((w0 :: ws).map V.str)) = H1 at sw cw
  have q11 : (σ.set 11 (some (V.ref lw)))[11]? = some (some (.ref lw)) := by rw [List.getElem?_set_self (by omega)]
  -- the law's own reader
  have due : ∀ (v12 : Int) (Hx : Hp) (t : Addr), Same H1 Hx → Hx t = some (.tup [.int 0, .int v12]) → (sumL (tl w0) = none → v12 = 0) → ((∃ i n, sumL (tl w0) = some (i, n)) → v12 = 1) →
      (tSeq (tAsg (LamX.tLam TT (TTh BS BT) fun E => tSMethK SU 1 (spRead SU BT) (fun vs zs => vs ++ zs) E (tC (.ref SU)) (tCons (tVar 16) tNil)) (gName 13))
          (tSeq (tIfS (tAnd (tTest (tOp (rEqD K) (tVar 12) (tTup (tCons (tC (.int 0)) (tCons (tC (.int 1)) tNil))))) (tTest (tOp rEq (tCB (rLenX K) (tCons (tVar 11) tNil)) (tC (.int 1)))))
            (tIfS (tOr (tNot (tB (tCB (rIsi K) (tCons (tVar 13) (tCons (tC (.ty "list")) tNil))))) (tOr (tTest (tOp (rNeD K) (tCall (spShown2 SU) [] L2.E0 (tCons (tOp (rIxL K) (tVar 13) (tC (.int 0))) tNil)) (tCall spTold [] L2.E0 (tCons (tVar 16) tNil))))
              (tTest (tOp rNe (tCB (rStrX SU) (tCons (tOp (rIxL K) (tVar 13) (tC (.int 0))) tNil)) (tVar 16))))) r1 tNext)
            (tIfS (tTest (tOp (rNeD K) (tVar 13) (tVar 12))) r2 tNext)) rest)) D ((σ.set 11 (some (.ref lw))).set 12 (some (.ref t))) Hx := by
    intro v12 Hx t sx ht hnone hsome
    have TBx : LamX.Tabs TT Hx := tabs_same (tabs_same TB sw) sx
    refine ⟨TBx, fun H2 eN TB2 => ?_⟩
    have keep : LamX.ExtN H H2 := fun b o h nt => eN _ _ (sx _ _ (sw _ _ h)) nt
    have ht2 := eN _ _ ht (fun _ z => nomatch z)
    have cw2 := eN _ _ (sx _ _ cw) (fun _ z => nomatch z)
    have l12 : ((σ.set 11 (some (V.ref lw))).set 12 (some (.ref t))).length = 20 := by rw [List.length_set, List.length_set, hs]
    have g : ∀ v q, q ≠ 11 → q ≠ 12 → q ≠ 13 → (((σ.set 11 (some (V.ref lw))).set 12 (some (.ref t))).set 13 (some v))[q]? = σ[q]? := fun v q h1 h2 h3 => by rw [List.getElem?_set_ne (Ne.symm h3), List.getElem?_set_ne (Ne.symm h2), List.getElem?_set_ne (Ne.symm h1)]
    have g13 : ∀ v, (((σ.set 11 (some (V.ref lw))).set 12 (some (.ref t))).set 13 (some v))[13]? = some (some v) := fun v => by rw [List.getElem?_set_self (by omega)]
    have g12 : ∀ v, (((σ.set 11 (some (V.ref lw))).set 12 (some (.ref t))).set 13 (some v))[12]? = some (some (.ref t)) := fun v => by rw [List.getElem?_set_ne (by decide), List.getElem?_set_self (by rw [List.length_set]; omega)]
    have g11 : ∀ v, (((σ.set 11 (some (V.ref lw))).set 12 (some (.ref t))).set 13 (some v))[11]? = some (some (.ref lw)) := fun v => by rw [List.getElem?_set_ne (by decide), List.getElem?_set_ne (by decide), List.getElem?_set_self (by omega)]
    have g16' : ((σ.set 11 (some (V.ref lw))).set 12 (some (.ref t)))[16]? = some (some (.str z)) := by rw [List.getElem?_set_ne (by decide), List.getElem?_set_ne (by decide)]; exact h16
    -- an error: the pair that was due
    have bad : ∀ (Hy : Hp) (t2 : Addr), Same H2 Hy → Hy t2 = some (.tup [.int 0, .int v12]) → (v12 = 1 → ws ≠ []) →
        (tSeq (tIfS (tAnd (tTest (tOp (rEqD K) (tVar 12) (tTup (tCons (tC (.int 0)) (tCons (tC (.int 1)) tNil))))) (tTest (tOp rEq (tCB (rLenX K) (tCons (tVar 11) tNil)) (tC (.int 1)))))
            (tIfS (tOr (tNot (tB (tCB (rIsi K) (tCons (tVar 13) (tCons (tC (.ty "list")) tNil))))) (tOr (tTest (tOp (rNeD K) (tCall (spShown2 SU) [] L2.E0 (tCons (tOp (rIxL K) (tVar 13) (tC (.int 0))) tNil)) (tCall spTold [] L2.E0 (tCons (tVar 16) tNil))))
              (tTest (tOp rNe (tCB (rStrX SU) (tCons (tOp (rIxL K) (tVar 13) (tC (.int 0))) tNil)) (tVar 16))))) r1 tNext)
            (tIfS (tTest (tOp (rNeD K) (tVar 13) (tVar 12))) r2 tNext)) rest) D (((σ.set 11 (some (.ref lw))).set 12 (some (.ref t))).set 13 (some (.ref t2))) Hy := by
      intro Hy t2 sy h2 hw
      refine ⟨_, g12 _, (show 2 ≤ sizeLine by decide), fun t3 f3 => ?_⟩
      have s3 : Same Hy (upd Hy t3 (.tup [.int 0, .int 1])) := same_upd f3
      refine ⟨_, _, .tup (SqT.of (s3 _ _ (sy _ _ ht2))) (.cons (.int _) (.cons (.int _) .nil)), .tup (SqT.of upd_same) (.cons (.int _) (.cons (.int _) .nil)), shaped_ii _ _, shaped_ii _ _, _, rfl, ?_⟩
      rw [eqv_ii]
      have last : tIfS (tTest (tOp (rNeD K) (tVar 13) (tVar 12))) r2 tNext { D with nx := rest D } (((σ.set 11 (some (.ref lw))).set 12 (some (.ref t))).set 13 (some (.ref t2))) (upd Hy t3 (.tup [.int 0, .int 1])) := by
        refine ⟨_, g13 _, _, g12 _, _, _, .tup (SqT.of (s3 _ _ h2)) (.cons (.int _) (.cons (.int _) .nil)), .tup (SqT.of (s3 _ _ (sy _ _ ht2))) (.cons (.int _) (.cons (.int _) .nil)), shaped_ii _ _, shaped_ii _ _, _, rfl, ?_⟩
        rw [eqv_ii]
        refine ifnb (fun _ => ?_) (fun q => by simp at q)
        exact k _ _ _ _ (fun b o h nt => s3 _ _ (sy _ _ (keep _ _ h nt))) (tabs_same (tabs_same TB2 sy) s3)
      by_cases hv : v12 = 1
      · subst hv
        refine iteT ⟨_, g11 _, lw, _, rfl, .inl (SqL.of (s3 _ _ (sy _ _ cw2))), rfl, _, rfl, ?_⟩
        have : decide (V.int (((w0 :: ws).map V.str).length : Int) = V.int 1) = false := decide_eq_false fun q => by
          have q := V.int.inj q
          rw [List.length_map, List.length_cons] at q
          have := List.length_pos_iff.mpr (hw rfl)
          omega
        rw [this]
        exact iteF last
      · rw [decide_eq_false hv, Bool.and_false]
        exact iteF last
    refine ⟨rfl, _, g16', rfl, .str z, _, rfl, .str z, (fun q => nomatch q), fun z' hz' => ?_⟩
    cases hz'
    refine ⟨Nat.le_trans hz (by decide), fun w0' ws' e' => ?_⟩
    rw [e] at e'
    cases e'
    refine ⟨fun hn d H3 s3 hd => ⟨d, rfl, .inr ⟨rfl, 0, hd, fun t2 H4 s4 _ h4 => ?_⟩⟩, fun i n hin h7 => ⟨fun hw => ?_, fun hw d H3 s3 hd => ⟨d, rfl, .inr ⟨rfl, 1, hd, fun t2 H4 s4 _ h4 => ?_⟩⟩⟩⟩
    · obtain rfl := hnone hn
      exact bad H4 t2 (s3.trans s4) h4 (fun q => by cases q)
    · obtain rfl := hsome ⟨i, n, hin⟩
      obtain rfl : w0 = z := hone hw
      subst hw
      obtain ⟨h7', htl, hbl⟩ := sum_back hin
      have eT : sumT i n = w0 := ext_tl (by rw [sumT_text h7, tl_text h7]; exact htl.symm)
      intro x H3 s3 _ S3
      refine ⟨(show 1 ≤ sizeLine by decide), fun lh fh => ?_⟩
      have s4 : Same H3 (upd H3 lh (.lst [.ref x])) := same_upd fh
      have ch : upd H3 lh (.lst [.ref x]) lh = some (.lst [.ref x]) := upd_same
      generalize upd H3 lh (.lst [.ref x]) = H4 at s4 ch
      have s24 := s3.trans s4
      refine ⟨_, g12 _, (show 2 ≤ sizeLine by decide), fun t3 f3 => ?_⟩
      have s5 : Same H4 (upd H4 t3 (.tup [.int 0, .int 1])) := same_upd f3
      have c5 : upd H4 t3 (.tup [.int 0, .int 1]) t3 = some (.tup [.int 0, .int 1]) := upd_same
      generalize upd H4 t3 (.tup [.int 0, .int 1]) = H5 at s5 c5
      refine ⟨_, _, .tup (SqT.of (s5 _ _ (s24 _ _ ht2))) (.cons (.int _) (.cons (.int _) .nil)), .tup (SqT.of c5) (.cons (.int _) (.cons (.int _) .nil)), shaped_ii _ _, shaped_ii _ _, _, rfl, ?_⟩
      rw [eqv_ii]
      refine iteT ⟨_, g11 _, lw, _, rfl, .inl (SqL.of (s5 _ _ (s24 _ _ cw2))), rfl, _, rfl, iteT ?_⟩
      have S5 : SumAt SU H5 x i n := (S3.same s4).same s5
      have ch5 := s5 _ _ ch
      refine ⟨_, g13 _, _, _, .type "list", _, true, rfl, .ty "list", .base (.lst ch5), kit_ty (by decide +kernel), _, rfl, iteF ?_⟩
      refine ⟨_, g13 _, lh, _, _, .ref x, rfl, rfl, SqL.of ch5, rfl, x, i, n, rfl, S5, fun t6 H6 s6 _ h6 => ?_⟩
      have g16 : ∀ v, (((σ.set 11 (some (V.ref lw))).set 12 (some (.ref t))).set 13 (some v))[16]? = some (some (.str w0)) := fun v => (g v 16 (by decide) (by decide) (by decide)).trans h16
      refine ⟨_, g16 _, w0, rfl, Nat.le_trans hz (by decide), hok, fun i2 n2 e2 _ t7 H7 s7 _ h7 => ?_, fun q => (by rw [hin] at q; cases q)⟩
      rw [hin] at e2
      cases e2
      refine ⟨_, _, .tup (SqT.of (s7 _ _ h6)) (.cons (.str _) (.cons (.int _) .nil)), .tup (SqT.of h7) (.cons (.str _) (.cons (.int _) .nil)), shaped_one h7', shaped_one h7', _, rfl, ?_⟩
      rw [eqv_one]
      have S7 := (S5.same s6).same s7
      obtain ⟨_, dx7, hx7⟩ := id S7
      refine iteF ⟨_, g13 _, lh, _, _, .ref x, rfl, rfl, SqL.of (s7 _ _ (s6 _ _ ch5)), rfl, x, dx7, _, rfl, hx7, x, i, n, rfl, S7, behind_log hbl, fun H8 s8 => ⟨_, rfl, _, g16 _, rfl, _, rfl, ?_⟩⟩
      rw [eT, show (!decide (V.str w0 = V.str w0)) = false by simp]
      have sE := ((s5.trans s6).trans s7).trans s8
      exact iteF (k _ _ _ _ (fun b o h nt => sE _ _ (s24 _ _ (keep _ _ h nt))) (tabs_same (tabs_same TB2 s24) sE))
    · obtain rfl := hsome ⟨i, n, hin⟩
      exact bad H4 t2 (s3.trans s4) h4 (fun _ => hw)
  refine ⟨_, q11, lw, _, _, .str w0, rfl, rfl, SqL.of cw, (show atI ((w0 :: ws).map V.str) ((0 : Nat) : Int) = some (V.str w0) from atI_nat rfl), w0, rfl, Nat.le_trans hw0 (Nat.le_trans hz (by decide)), okw, fun i n hi h7 t H2 s2 ft h2 => ?_, fun hn H2 s2 => ?_⟩
  · refine ⟨rfl, _, rfl, iteF ⟨(show 2 ≤ sizeLine by decide), fun t2 f2 => ?_⟩⟩
    exact due 1 _ t2 (s2.trans (same_upd f2)) upd_same (fun z => by rw [hi] at z; cases z) (fun _ => rfl)
  · refine ⟨rfl, _, rfl, iteT ⟨(show 2 ≤ sizeLine by decide), fun t2 f2 => ?_⟩⟩
    exact due 0 _ t2 (s2.trans (same_upd f2)) upd_same (fun _ => rfl) (fun ⟨i, n, z⟩ => by rw [hn] at z; cases z)
end
end K08
set_option Elab.async false
set_option linter.all false
set_option maxRecDepth 100000
set_option maxHeartbeats 4000000
namespace K08
open PySem PySem.Spec PyProof.Rows L2 My MyX MyE TL NumText
section
variable {P : Program} {w : World} {K : PySem.W.Frag} {mg : Str → Option Value} {base : Heap} {SU nA BS BT : Addr} {TT : List (Addr × Str)}
def cNoS : V → Value → Prop := fun x _ => isS x = false
/-- Sum.read of a value of another kind -/
theorem kind_read {p o : Addr} {n i : Nat} {num : Int} {H : Hp} {σ : L2.St} {D : Ends} {r : TS} (S : SumAt SU H o i num) (PN : PenAt H p n) (hn : n ≤ 90000) (TB : LamX.Tabs TT H) (h17 : σ[17]? = some (some (.ref p))) (h15 : σ[15]? = some (some (.ref o)))
    (k : ∀ H', ExtT p H H' → PenAt H' p (n + 1) → LamX.Tabs TT H' → D.nx σ H') :
    tIfS (tTest (tOp (rNeD K) (LamX.tLam TT (TTh BS BT) fun E => tSMeth SU (spRead SU BT) E (tC (.ref SU)) (tCons (tCall spPick [] L2.E0 (tCons (tVar 17) (tCons (tLst (tCons (tC .non) (tCons (tC (.int 0)) (tCons (tC (.bl true)) (tCons (tLst (tCons (tC (.str "p")) tNil)) (tCons (tTup (tCons (tC (.str "p")) tNil)) (tCons tDNewK (tCons (tVar 15) tNil)))))))) tNil))) tNil))
      (tTup (tCons (tC (.int 0)) (tCons (tC (.int 0)) tNil))))) r tNext D σ H := by
  have np := S.nep PN
  refine ⟨TB, fun H1 eN TB1 => ?_⟩
  have P1 := PN.n eN
  have S1 : SumAt SU H1 o i num := S.extT (p := p) (.n eN) np
  obtain ⟨_, dx, ho⟩ := id S1
  refine ⟨rfl, _, h17, (show 1 ≤ sizeLine by decide), fun l1 f1 => ⟨(show 1 ≤ sizeLine by decide), fun t1 f2 => fun d1 f3 => ⟨_, h15, (show 7 ≤ sizeLine by decide), fun m1 f4 => ?_⟩⟩⟩
  obtain ⟨w1, c1, c2, c3, q1, q2, q3, q4⟩ := chain4 (W := .lst [.non, .int 0, .bl true, .ref l1, .ref t1, .ref d1, .ref o]) f1 f2 f3 f4
  have c4 : upd (upd (upd (upd H1 l1 (.lst [.str "p"])) t1 (.tup [.str "p"])) d1 (.dK [])) m1 (.lst [.non, .int 0, .bl true, .ref l1, .ref t1, .ref d1, .ref o]) m1 = some (.lst [.non, .int 0, .bl true, .ref l1, .ref t1, .ref d1, .ref o]) := upd_same
  generalize upd (upd (upd (upd H1 l1 (.lst [.str "p"])) t1 (.tup [.str "p"])) d1 (.dK [])) m1 (.lst [.non, .int 0, .bl true, .ref l1, .ref t1, .ref d1, .ref o]) = H2 at w1 c1 c2 c3 c4
  have g : ∀ x ∈ [V.non, .int 0, .bl true, .ref l1, .ref t1, .ref d1, .ref o], KVal SU p cNoS H2 x := by
    intro x hx
    simp only [List.mem_cons, List.not_mem_nil, or_false] at hx
    rcases hx with rfl | rfl | rfl | rfl | rfl | rfl | rfl
    · exact ⟨_, .non, (fun z => nomatch z), rfl⟩
    · exact ⟨_, .int _, (fun z => nomatch z), rfl⟩
    · exact ⟨_, .bl _, (fun z => nomatch z), rfl⟩
    · exact ⟨_, .lst c1, fun z => P1.ne q1 (V.ref.inj z), rfl⟩
    · exact ⟨_, .tup c2, fun z => P1.ne q2 (V.ref.inj z), rfl⟩
    · exact ⟨_, .dK c3, fun z => P1.ne q3 (V.ref.inj z), rfl⟩
    · exact ⟨_, .su (w1 _ _ ho), fun z => np (V.ref.inj z), rfl⟩
  refine ⟨p, m1, _, n, rfl, P1.ne q4, c4, (show 0 < 7 by decide), (show 7 < 1000 by decide), P1.same w1, by omega, fun j x H3 hx e3 P3 => ?_⟩
  obtain ⟨tx, kx, _, hs⟩ := (g x (List.mem_of_getElem? hx)).ext (ExtT.ext e3)
  refine ⟨x, tx, rfl, kx, fun _ d H4 s4 hd => ⟨d, rfl, .inr ⟨rfl, 0, hd, fun t2 H5 s5 _ h5 => ⟨(show 2 ≤ sizeLine by decide), fun t3 f5 => ?_⟩⟩⟩, fun z hz => by rw [hz] at hs; cases hs⟩
  have s6 : Same H5 (upd H5 t3 (.tup [.int 0, .int 0])) := same_upd f5
  refine ⟨_, _, .tup (SqT.of (s6 _ _ h5)) (.cons (.int _) (.cons (.int _) .nil)), .tup (SqT.of upd_same) (.cons (.int _) (.cons (.int _) .nil)), shaped_ii _ _, shaped_ii _ _, _, rfl, ?_⟩
  rw [eqv_ii]
  have sE := (s4.trans s5).trans s6
  obtain ⟨xs, hp⟩ := P1.there
  refine ifnb (fun _ => ?_) (fun q => by simp at q)
  exact k _ (((ExtT.n eN).trans (.ext ((Ext.of w1).trans e3))).trans (.same sE)) (P3.same sE) (tabs_same (tabs_ext TB1 hp ((Ext.of w1).trans e3).keep) sE)
end
end K08
set_option Elab.async false
set_option linter.all false
set_option maxRecDepth 100000
set_option maxHeartbeats 4000000
namespace K08
open PySem PySem.Spec PyProof.Rows L2 My MyX MyE TL NumText
theorem sum_none {i : Nat} (hi : i < 7) {r : List Nat} (h : behindL r = none) : sumL (NL.getD i [] ++ r) = none := by
  have : i = 0 ∨ i = 1 ∨ i = 2 ∨ i = 3 ∨ i = 4 ∨ i = 5 ∨ i = 6 := by omega
  rcases this with rfl | rfl | rfl | rfl | rfl | rfl | rfl <;> simp [sumL, sumFrom, NL, pre, h]
structure FarW (z : Str) : Prop where
  len : z.length ≤ 100000
  sp : 32 ∉ tl z
  no : sumL (tl z) = none
theorem farW {i : Nat} (hi : i < 7) {z : Str} {c d m : Nat} (hz : tl z = NL.getD i [] ++ c :: List.replicate m d) (hc : c = 43 ∨ c = 45) (hd : 49 ≤ d ∧ d ≤ 57) (h60 : 60 < m) (hm : m ≤ 6000) : FarW z := by
  have hN : ∀ i : Fin 7, (NL.getD i.val []).length ≤ 2 ∧ ∀ c ∈ NL.getD i.val [], c ≠ 32 := by decide +kernel
  obtain ⟨n1, n2⟩ := hN ⟨i, hi⟩
  refine ⟨?_, fun h => ?_, ?_⟩
  · rw [len_tl, hz, List.length_append, List.length_cons, List.length_replicate]
    have : (NL.getD i []).length ≤ 2 := n1
    omega
  · rw [hz] at h
    rcases List.mem_append.mp h with k | k
    · exact n2 32 k rfl
    · rcases List.mem_cons.mp k with k | k
      · omega
      · have := List.eq_of_mem_replicate k
        omega
  · rw [hz]
    refine sum_none hi (behind_none (fun e => nomatch e) (.inr (.inr (.inr (.inl ?_)))))
    rw [List.drop_succ_cons, List.drop_zero, List.length_replicate]
    exact h60
section
variable {P : Program} {w : World} {K : PySem.W.Frag} {mg : Str → Option Value} {base : Heap} {SU nA BS BT : Addr} {TT : List (Addr × Str)}
theorem far_read {H : Hp} {σ : L2.St} {D : Ends} {z : Str} {r : TS} (F : FarW z) (TB : LamX.Tabs TT H) (h18 : σ[18]? = some (some (.str z))) (k : ∀ H', LamX.ExtN H H' → LamX.Tabs TT H' → D.nx σ H') :
    tIfS (tTest (tOp (rNeD K) (LamX.tLam TT (TTh BS BT) fun E => tSMeth SU (spRead SU BT) E (tC (.ref SU)) (tCons (tVar 18) tNil)) (tTup (tCons (tC (.int 0)) (tCons (tC (.int 0)) tNil))))) r tNext D σ H := by
  refine ⟨TB, fun H1 eN TB1 => ?_⟩
  refine ⟨rfl, _, h18, .str z, _, rfl, .str z, (fun q => nomatch q), fun z' hz' => ?_⟩
  cases hz'
  refine ⟨F.len, fun w0 ws e => ?_⟩
  rw [split_plain F.sp] at e
  cases e
  refine ⟨fun _ d H3 s3 hd => ⟨d, rfl, .inr ⟨rfl, 0, hd, fun t2 H4 s4 _ h4 => ⟨(show 2 ≤ sizeLine by decide), fun t3 f5 => ?_⟩⟩⟩, fun i n hin => by rw [F.no] at hin; cases hin⟩
  have s6 : Same H4 (upd H4 t3 (.tup [.int 0, .int 0])) := same_upd f5
  refine ⟨_, _, .tup (SqT.of (s6 _ _ h4)) (.cons (.int _) (.cons (.int _) .nil)), .tup (SqT.of upd_same) (.cons (.int _) (.cons (.int _) .nil)), shaped_ii _ _, shaped_ii _ _, _, rfl, ?_⟩
  rw [eqv_ii]
  have sE := (s3.trans s4).trans s6
  refine ifnb (fun _ => ?_) (fun q => by simp at q)
  exact k _ (fun b o h nt => sE _ _ (eN _ _ h nt)) (tabs_same TB1 sE)
/-- the three declining == -/
theorem decl_read {nl o : Addr} {H : Hp} {σ : L2.St} {D : Ends} {i : Nat} {num : Int} {r : TS} (hi : i < 7) (hn : H nl = some (.lst (NS.map V.str))) (S : SumAt SU H o i num)
    (h1 : σ[1]? = some (some (.ref nl))) (h5 : σ[5]? = some (some (.int (i : Int)))) (h6 : σ[6]? = some (some (.int num))) (h15 : σ[15]? = some (some (.ref o))) (k : ∀ H', Same H H' → D.nx σ H') :
    tIfS (tOr (tTest (tOp (rEqDecl SU (spDecl SU)) (tVar 15) (tOp (rIxL K) (tVar 1) (tVar 5)))) (tOr (tTest (tOp (rEqDecl SU (spDecl SU)) (tVar 15) (tTup (tCons (tOp (rIxL K) (tVar 1) (tVar 5)) (tCons (tVar 6) tNil))))) (tTest (tOp (rEqDecl SU (spDecl SU)) (tVar 15) (tC .non))))) r tNext D σ H := by
  obtain ⟨_, dx, ho⟩ := id S
  refine ⟨_, h15, _, h1, _, h5, nl, _, _, _, rfl, rfl, SqL.of hn, atI_nat (nm_at hi), o, dx, _, rfl, ho, .inr (.inl ⟨_, rfl⟩), _, _, _, rfl, .str _, rfl, Same.refl H, _, rfl, iteF ?_⟩
  refine ⟨_, h15, _, h1, _, h5, nl, _, _, _, rfl, rfl, SqL.of hn, atI_nat (nm_at hi), _, h6, (show 2 ≤ sizeLine by decide), fun t ft => ?_⟩
  have s1 : Same H (upd H t (.tup [.str (nm i), .int num])) := same_upd ft
  refine ⟨o, dx, _, rfl, s1 _ _ ho, .inr (.inr ⟨t, _, rfl, upd_same⟩), _, _, _, rfl, .tup upd_same, rfl, Same.refl _, _, rfl, iteF ?_⟩
  exact ⟨_, h15, o, dx, _, rfl, s1 _ _ ho, .inl rfl, _, _, _, rfl, .non, rfl, Same.refl _, _, rfl, iteF (k _ s1)⟩
def NmRow (H : Hp) (v : V) (r : Nat × Int) : Prop := ∃ t, v = V.ref t ∧ H t = some (.tup [.str (nm r.1), .int r.2])
theorem NmRow.same {H H' : Hp} {v : V} {r : Nat × Int} (h : NmRow H v r) (s : Same H H') : NmRow H' v r := by
  obtain ⟨t, e, h⟩ := h
  exact ⟨t, e, s _ _ h⟩
def nmDat (rows : List (Nat × Int)) : List PyData := rows.map fun r => .tuple [.str (nm r.1), .int r.2]
theorem nmRow_dp {K : PySem.W.Frag} {H : Hp} {vs : List V} {rows : List (Nat × Int)} (h : Paired (NmRow H) vs rows) : DpAll K H vs (nmDat rows) := by
  induction h with
  | nil => exact .nil
  | cons a _ k =>
    obtain ⟨t, rfl, e⟩ := a
    exact .cons (.tup (SqT.of e) (.cons (.str _) (.cons (.int _) .nil))) k
theorem nmDat_shaped {rows : List (Nat × Int)} (h : ∀ r ∈ rows, r.1 < 7) : SeqAt.shaped (.list (nmDat rows)) = true := by
  have e1 : ∀ rows : List (Nat × Int), (∀ r ∈ rows, r.1 < 7) → PyData.canLayAll0 (nmDat rows) = true := fun rows => by
    induction rows with
    | nil => intro _; rfl
    | cons r l ih =>
      intro h
      have := ih fun q hq => h q (List.mem_cons_of_mem _ hq)
      have k := nm_ok (h r (List.mem_cons_self ..))
      unfold nmDat at this ⊢
      simp [PyData.canLayAll0, PyData.canLay0, this, k]
  have e2 : ∀ rows : List (Nat × Int), PyData.depthAll (nmDat rows) ≤ 2 := fun rows => by
    induction rows with
    | nil => simp [nmDat, PyData.depthAll]
    | cons r l ih =>
      unfold nmDat at ih ⊢
      simp [PyData.depthAll, PyData.depth]
      omega
  unfold SeqAt.shaped
  have := e2 rows
  simp [PyData.canLay0, PyData.depth, e1 rows h]
  omega
theorem nmDat_eqv (rows : List (Nat × Int)) : PyData.eqv (.list (nmDat rows)) (.list (nmDat rows)) = true := by
  have e1 : ∀ rows : List (Nat × Int), PyData.eqvAll (nmDat rows) (nmDat rows) = true := fun rows => by
    induction rows with
    | nil => rfl
    | cons r l ih =>
      unfold nmDat at ih ⊢
      simp [PyData.eqvAll, PyData.eqv, ih]
  simp [PyData.eqv, e1 rows]
theorem lc_nm {l D : Addr} {g : TG} {te : L2.TE} {vs : List Nat} {σ : L2.St} {H1 : Hp} {xs : List V} {rows : List (Nat × Int)} {Qd : Hp → Prop} (hl : H1 l = some (.lst xs)) (hlen : xs.length = rows.length) (hn : rows.length ≤ 1000) (hD : H1 D = none)
    (he : ∀ (i : Nat) (x : V) (r : Nat × Int) (Hx : Hp) (Q : VK) (R : Hp → Prop), xs[i]? = some x → rows[i]? = some r → Same H1 Hx → (∀ t H2, Same Hx H2 → Hx t = none → H2 t = some (.tup [.str (nm r.1), .int r.2]) → Q (.ref t) H2) →
      g x (wipe σ vs) Hx fun σ2 H2 => wipe σ2 vs = wipe σ vs ∧ tYes σ2 H2 fun b H3 => if b = true then te σ2 H3 Q else R H3) (hd : ∀ Hx ys, Same H1 Hx → Hx D = some (.lst ys) → Paired (NmRow Hx) ys rows → Qd Hx) :
    ∃ W : Nat → Nat → Hp → Prop, (∃ m, W 0 m (upd H1 D (.lst []))) ∧ ∀ i m H, W i m H →
      ((Itl K l).stop i H ∧ Qd H) ∨ ((Itl K l).go i H ∧ ∃ Nx : Hp → Prop, (∀ H', Nx H' → ∃ m', m' < m ∧ W (i + 1) m' H') ∧ ∀ x H', (Itl K l).yld i H x H' → g x (wipe σ vs) H' fun σ2 H2 => wipe σ2 vs = wipe σ vs ∧ tYes σ2 H2 fun b H3 =>
        if b = true then te σ2 H3 fun y H4 => ∃ acc, H4 D = some (.lst acc) ∧ acc.length < sizeLine ∧ Nx (upd H4 D (.lst (acc ++ [y]))) else Nx H3) := by
  refine lc_it (walk_list (K := K) (a := l) (xs := xs)) (fun i H => Same H1 H ∧ ∃ ys, H D = some (.lst ys) ∧ Paired (fun v r => ∃ t, v = V.ref t ∧ t ≠ D ∧ H t = some (.tup [.str (nm r.1), .int r.2])) ys (rows.take i)) ⟨same_upd hD, [], upd_same, .nil⟩ (fun i H _ q => SqL.of (q.1 _ _ hl)) (fun i x H H' hi q y => ?_) (fun H q => ?_)
  · obtain ⟨s, ys, hr, hp⟩ := q
    obtain ⟨rfl, hx⟩ := y
    have hri : i < rows.length := by omega
    have hrow : rows[i]? = some rows[i] := by simp [hri]
    refine he i x rows[i] _ _ _ hx hrow s fun t H2 s2 ft h2 => ?_
    have tD : t ≠ D := fun z => by rw [z, hr] at ft; cases ft
    have r2 := s2 _ _ hr
    refine ⟨ys, r2, ?_, same_updF (s.trans s2) hD, ys ++ [.ref t], upd_same, ?_⟩
    · have h1 := Paired.length hp
      rw [List.length_take] at h1
      exact small_line (by omega)
    · rw [List.take_add_one, hrow]
      refine paired_app (Paired.mapP hp fun v r ⟨t', e, n, h⟩ => ⟨t', e, n, ?_⟩) (.cons ⟨t, rfl, tD, ?_⟩ .nil)
      · rw [upd_ne n]
        exact s2 _ _ h
      · rw [upd_ne tD]
        exact h2
  · obtain ⟨s, ys, hr, hp⟩ := q
    rw [hlen, List.take_length] at hp
    exact hd H ys s hr (Paired.mapP hp fun v r ⟨t, e, _, h⟩ => ⟨t, e, h⟩)
end
end K08
set_option Elab.async false
set_option linter.all false
set_option maxRecDepth 100000
set_option maxHeartbeats 16000000
namespace K08
open PySem PySem.Spec PyProof.Rows L2 My MyX MyE TL NumText
section
variable {P : Program} {w : World} {K : PySem.W.Frag} {mg : Str → Option Value} {base : Heap} {SU nA BS BT Te fI fA fS fAp fG gH c PT fEq fStr fP fD fN fX fB fT fSh fV8 fR8 fO rP rG : Addr} {fdI fdAp fdG fdH fdP fdD fdN fdX fdB fdT fdSh fdV8 fdR8 fdO fdR : FuncData} {TT : List (Addr × Str)} {gr : List Value → List Value → List Value}
theorem nm_of {j : Nat} {x : V} (h : (NS.map V.str)[j]? = some x) : j < 7 ∧ x = .str (nm j) := by
  have hj : j < 7 := by
    have := (List.getElem?_eq_some_iff.mp h).1
    rw [List.length_map] at this
    exact this
  rw [nm_at hj] at h
  exact ⟨hj, (Option.some.inj h).symm⟩
theorem sign_of {j : Nat} {y : V} (h : [V.str "+", V.str "-"][j]? = some y) : ∃ (sg : Str) (c : Nat), y = .str sg ∧ tl sg = [c] ∧ (c = 43 ∨ c = 45) := by
  match j, h with
  | 0, h => exact ⟨"+", 43, (Option.some.inj h).symm, tl_p, .inl rfl⟩
  | 1, h => exact ⟨"-", 45, (Option.some.inj h).symm, tl_m, .inr rfl⟩
  | n + 2, h => simp at h
theorem scLaw : FnScope ["_law_script", "_law_names", "_law_keys", "_law_some", "_law_lap", "_law_at", "_law_number_here", "_law_step", "_law_near", "_law_apart", "_law_text_here", "_law_words", "_law_due", "_law_heard_here", "_law_far", "_law_one", "_law_bent_here", "_law_pen_here", "_law_word", "_law_many"] ["_law_script"] (defScope sLaw) := ⟨rfl, rfl, rfl, by decide +kernel, rfl, by decide +kernel, by decide +kernel⟩
theorem ok_law {f : Addr} {fd : FuncData} (F : FunL K "law" "law" sLaw f fd c) (B : Blt mg) (T : SmT K mg SU nA) (M : MkS P w K mg base SU BS fI fdI) (OBA : OpT P w K mg base SU BS "add" (· + ·) fA) (OBS : OpT P w K mg base SU BS "sub" (· - ·) fS)
    (GA : MeT P w K mg base (L2.CX P w) 4 SU "apart" fAp fdAp ["self", "other"] (spApart SU BS)) (G : FnT P w K mg base CX0 2 "_law_pick" fG fdG ["_law_pen_here", "_law_some"] spPick) (HF : HdF K mg gH fdH) (HT : HdT K mg Te BS BT) (LT : LamT base mg TT c PT "law.<locals>.<lambda>")
    (DC : DeC K SU fEq) (DE : DeclOk P w K mg base 1 fEq (spDecl SU)) (SI : StrT P w K mg base SU fStr) (SR : RdT P w K mg base SU BT rP rG fdR gr) (GP : FnT P w K mg base CX0 1 "_law_pen" fP fdP ["_law_script"] (spPen K))
    (D : FnT P w K mg base CX0 1 "_law_draw" fD fdD ["_law_pen_here", "_law_many"] spDraw) (GN : FnT P w K mg base CX0 2 "_law_number" fN fdN ["_law_pen_here"] spNumber) (GX : FnT P w K mg base CX0 1 "_law_text" fX fdX ["_law_source", "_law_number_here"] spText)
    (GB : FnT P w K mg base CX0 3 "_law_bent" fB fdB ["_law_pen_here", "_law_word"] spBent) (GT : FnT P w K mg base CX0 1 "_law_told" fT fdT ["_law_word"] spTold) (GS : FnT P w K mg base CX0 1 "_law_shown" fSh fdSh ["_law_one"] (spShown2 SU))
    (GV8 : FnT P w K mg base CX0 9 "_law_values_right" fV8 fdV8 ["_law_pen_here", "_law_one", "_law_source", "_law_number_here"] (spValR SU TT)) (GR8 : FnT P w K mg base CX0 9 "_law_refused_right" fR8 fdR8 ["_law_pen_here", "_law_one"] (spRefR SU TT))
    (GO : FnT P w K mg base CX0 4 "_law_order_right" fO fdO ["_law_keys", "_law_some"] (spOrd SU)) : FnOk P w K mg base CX0 14 f fd ["_law_script"] (spLaw K TT) := by
  obtain ⟨ds2, v2, b2⟩ := M.b2
  obtain ⟨gk, bk⟩ := M.bk
  refine F.ok scLaw (fun vs H Q E h => ?_) (fun A outer s H vs Q E hr h => ?_)
  · obtain ⟨a, ns, rfl, _⟩ := h
    rfl
  · obtain ⟨sa, ns, rfl, hS, hl, TB, k⟩ := h
    refine ⟨_, (pss_cons (ps_asg (pe_tup (pa_cons (pe_call GP.ok (hr.mono (by decide)) (by rfl) GP.g GP.kp GP.bn .nil pass0 (pa_cons (pv 0) pa_nil)) (pa_cons (pe_lst (pa_cons pe_str (pa_cons pe_str (pa_cons pe_str (pa_cons pe_str (pa_cons pe_str (pa_cons pe_str (pa_cons pe_str pa_nil)))))))) (pa_cons (pe_lst pa_nil) (pa_cons (pe_lst pa_nil) pa_nil))))) (pg_tup (by rfl) (pgs_cons (pg_name (i := 17) scLaw.nd rfl (Or.inr rfl)) (pgs_cons (pg_name (i := 1) scLaw.nd rfl (Or.inr rfl)) (pgs_cons (pg_name (i := 2) scLaw.nd rfl (Or.inl rfl)) (pgs_cons (pg_name (i := 3) scLaw.nd rfl (Or.inl rfl)) pgs_nil))))))
      (pss_cons (ps_if (PW.pt (pw_or (pt_cmpR (op_neD hr.units) (pe_callTy call_list_of (by rfl) B.list (by decide +kernel) (pa_cons (ClX.pe_cval (pe_gref rfl T.g)) pa_nil)) (pv 1) (nomark _)) (pw_or1 (pt_not (pt_val (pe_callB call_isi (by rfl) B.isinstance (by decide +kernel) (pa_cons (ClX.pe_cval (pe_gref rfl T.g)) (pa_cons (pe_bty "tuple" (by rfl) B.tuple (by decide +kernel)) pa_nil)))))))) (pss_one (ps_ret pe_bl)) pss_nil)
      (pss_cons (ps_for PassesOwn.never rfl (pi_range1 (by rfl) B.range (pa_cons pe_int pa_nil)) (pg_name (i := 4) scLaw.nd rfl (Or.inl rfl)) (pss_cons (ps_par3 (i := 5) (j := 6) (l := 7) (by rfl) scLaw.nd rfl rfl rfl (by decide) (by decide) (by decide) rfl rfl rfl (pa_cons (pe_call D.ok (hr.mono (by decide)) (by rfl) D.g D.kp D.bn .nil pass0 (pa_cons (pv 17) (pa_cons pe_int pa_nil))) (pa_cons (pe_call GN.ok (hr.mono (by decide)) (by rfl) GN.g GN.kp GN.bn .nil pass0 (pa_cons (pv 17) pa_nil)) (pa_cons (pe_call GN.ok (hr.mono (by decide)) (by rfl) GN.g GN.kp GN.bn .nil pass0 (pa_cons (pv 17) pa_nil)) pa_nil))) (by rfl))
      (pss_cons (ps_set (i := 15) scLaw.nd rfl (Or.inr rfl) (pe_ifExp (PW.pt (pw_or (pt_cmpR op_ne (pv 6) pe_int (nomark _)) (pw_or1 (pt_cmpR op_eq (pe_call D.ok (hr.mono (by decide)) (by rfl) D.g D.kp D.bn .nil pass0 (pa_cons (pv 17) (pa_cons pe_int pa_nil))) pe_int (nomark _))))) (pe_make M.cm M.ok (hr.mono (by decide)) (by rfl) T.g M.b3 .nil passQ (pa_cons (pe_ix (ix_list : IxR _ (rIxL K)) (pv 1) (pv 5) (fun _ _ => rfl)) (pa_cons (pv 6) pa_nil))) (pe_make M.cm M.ok (hr.mono (by decide)) (by rfl) T.g b2 v2 passQ (pa_cons (pe_ix (ix_list : IxR _ (rIxL K)) (pv 1) (pv 5) (fun _ _ => rfl)) pa_nil))))
      (pss_cons (ps_expr (pe_bm PySem.F.plainAttrs_list PySem.F.slot_list_append PySem.F.type_list_append mt_append (pv 2) (pa_cons (pe_tup (pa_cons (pv 5) (pa_cons (pv 6) pa_nil))) pa_nil)))
      (pss_cons (ps_expr (pe_bm PySem.F.plainAttrs_list PySem.F.slot_list_append PySem.F.type_list_append mt_append (pv 3) (pa_cons (pv 15) pa_nil)))
      (pss_cons (ps_if (pt_cmpR (op_neD hr.units) (pe_lst (pa_cons (pe_call GS.ok (hr.mono (by decide)) (by rfl) GS.g GS.kp GS.bn .nil pass0 (pa_cons (pe_op (op_binI (op := .Add) (n := 6) rfl OBA.ob OBA.fr (hr.mono (by decide)) passQ : OpR _ (binaryOp .Add) (rBinI K SU "add" (spPlus SU BS (· + ·)) L2.E0)) (pv 15) (pv 7)) pa_nil)) (pa_cons (pe_call GS.ok (hr.mono (by decide)) (by rfl) GS.g GS.kp GS.bn .nil pass0 (pa_cons (pe_op (op_binI (op := .Sub) (n := 6) rfl OBS.ob OBS.fr (hr.mono (by decide)) passQ : OpR _ (binaryOp .Sub) (rBinI K SU "sub" (spPlus SU BS (· - ·)) L2.E0)) (pv 15) (pv 7)) pa_nil)) pa_nil))) (pe_lst (pa_cons (pe_tup (pa_cons (pe_ix (ix_list : IxR _ (rIxL K)) (pv 1) (pv 5) (fun _ _ => rfl)) (pa_cons (pe_op op_add (pv 6) (pv 7)) pa_nil))) (pa_cons (pe_tup (pa_cons (pe_ix (ix_list : IxR _ (rIxL K)) (pv 1) (pv 5) (fun _ _ => rfl)) (pa_cons (pe_op op_sub (pv 6) (pv 7)) pa_nil))) pa_nil))) (nomark _)) (pss_one (ps_ret pe_bl)) pss_nil)
      (pss_cons (ps_set (i := 8) scLaw.nd rfl (Or.inl rfl) (pe_call G.ok (hr.mono (by decide)) (by rfl) G.g G.kp G.bn .nil pass0 (pa_cons (pv 17) (pa_cons (pv 2) pa_nil))))
      (pss_cons (ps_set (i := 9) scLaw.nd rfl (Or.inl rfl) (pe_meth (pv 15) T.su.cl GA.at_ GA.ok (hr.mono (by decide)) GA.bn .nil passQ (pa_cons (pe_makeK0 M.cm M.ok (hr.mono (by decide)) (by rfl) T.g bk passQ (pk_cons (pe_ix ix_tup (pv 8) pe_int (fun _ _ => rfl)) (pk_cons (pe_ix ix_list (pv 1) (pe_ix ix_tup (pv 8) pe_int (fun _ _ => rfl)) (fun _ _ => rfl)) pk_nil))) pa_nil)))
      (pss_cons (ps_if (PW.pt (pw_or (pt_cmpR op_ne (pv 9) (pe_ifExp (pt_cmpR op_eq (pe_ix ix_tup (pv 8) pe_int (fun _ _ => rfl)) (pv 5) (nomark _)) (pe_op op_sub (pv 6) (pe_ix ix_tup (pv 8) pe_int (fun _ _ => rfl))) pe_non) (nomark _)) (pw_or1 (pt_val (pe_callB call_isi (by rfl) B.isinstance (by decide +kernel) (pa_cons (pv 9) (pa_cons (pe_bty "bool" (by rfl) B.bool (by decide +kernel)) pa_nil))))))) (pss_one (ps_ret pe_bl)) pss_nil)
      (pss_cons (ps_set (i := 10) scLaw.nd rfl (Or.inl rfl) (pe_call GX.ok (hr.mono (by decide)) (by rfl) GX.g GX.kp GX.bn .nil pass0 (pa_cons (pe_ix (ix_list : IxR _ (rIxL K)) (pv 1) (pv 5) (fun _ _ => rfl)) (pa_cons (pv 6) pa_nil))))
      (pss_cons (ps_if (PW.pt (pw_or (pt_cmpR op_ne (pe_callTy (call_strI SI.at_ SI.fn SI.fr (hr.mono (by decide)) pass0) (by rfl) B.str (by decide +kernel) (pa_cons (pv 15) pa_nil)) (pv 10) (nomark _)) (pw_or1 (pt_cmpR (op_neD hr.units) (pe_call GS.ok (hr.mono (by decide)) (by rfl) GS.g GS.kp GS.bn .nil pass0 (pa_cons (pe_smeth (pe_gref rfl T.g) SR.rd SR.at_ SR.fr (hr.mono (by decide)) passQ (pa_cons (pv 10) pa_nil)) pa_nil)) (pe_tup (pa_cons (pe_ix (ix_list : IxR _ (rIxL K)) (pv 1) (pv 5) (fun _ _ => rfl)) (pa_cons (pv 6) pa_nil))) (nomark _))))) (pss_one (ps_ret pe_bl)) pss_nil)
      (pss_cons (ps_set (i := 16) scLaw.nd rfl (Or.inr rfl) (pe_call GB.ok (hr.mono (by decide)) (by rfl) GB.g GB.kp GB.bn .nil pass0 (pa_cons (pv 17) (pa_cons (pv 10) pa_nil))))
      (pss_cons (ps_set (i := 11) scLaw.nd rfl (Or.inl rfl) (pe_split (pv 16) pe_str))
      (pss_cons (ps_set (i := 12) scLaw.nd rfl (Or.inl rfl) (pe_ifExp (pt_cmpR op_isN (pe_call GT.ok (hr.mono (by decide)) (by rfl) GT.g GT.kp GT.bn .nil pass0 (pa_cons (pe_ix ix_list (pv 11) pe_int (fun _ _ => rfl)) pa_nil)) pe_non (nomark _)) (pe_tup (pa_cons pe_int (pa_cons pe_int pa_nil))) (pe_tup (pa_cons pe_int (pa_cons pe_int pa_nil)))))
      (pss_cons (ps_set (i := 13) scLaw.nd rfl (Or.inl rfl) (pe_heard (k := 8) HF B HT LT rfl (hr.mono (by decide)) (LamX.lamS_by (by show LamX.lamSB (defScope sLaw) _ = true; decide +kernel)) rfl (fun _ _ _ _ _ => rfl) (fun A outer s H E f c2 hr => (pe_smethK (pe_gref rfl T.g) SR.rd SR.at_ SR.ok (hr.mono (by decide)) SR.bk (passes_call (takes_of rfl rfl rfl rfl) (fun _ _ _ _ e => e)) (pk_cons (pv 16) pk_nil)))))
      (pss_cons (ps_if (PW.pt (pw_and (pt_cmpR (op_eqD hr.units) (pv 12) (pe_tup (pa_cons pe_int (pa_cons pe_int pa_nil))) (nomark _)) (pw_and1 (pt_cmpR op_eq (pe_callB call_len_seq (by rfl) B.len PySem.boot_len (pa_cons (pv 11) pa_nil)) pe_int (nomark _))))) (pss_one (ps_if (PW.pt (pw_or (pt_not (pt_val (pe_callB call_isi (by rfl) B.isinstance (by decide +kernel) (pa_cons (pv 13) (pa_cons (pe_bty "list" (by rfl) B.list (by decide +kernel)) pa_nil))))) (pw_or (pt_cmpR (op_neD hr.units) (pe_call GS.ok (hr.mono (by decide)) (by rfl) GS.g GS.kp GS.bn .nil pass0 (pa_cons (pe_ix ix_list (pv 13) pe_int (fun _ _ => rfl)) pa_nil)) (pe_call GT.ok (hr.mono (by decide)) (by rfl) GT.g GT.kp GT.bn .nil pass0 (pa_cons (pv 16) pa_nil)) (nomark _)) (pw_or1 (pt_cmpR op_ne (pe_callTy (call_strI SI.at_ SI.fn SI.fr (hr.mono (by decide)) pass0) (by rfl) B.str (by decide +kernel) (pa_cons (pe_ix ix_list (pv 13) pe_int (fun _ _ => rfl)) pa_nil)) (pv 16) (nomark _)))))) (pss_one (ps_ret pe_bl)) pss_nil)) (pss_one (ps_if (pt_cmpR (op_neD hr.units) (pv 13) (pv 12) (nomark _)) (pss_one (ps_ret pe_bl)) pss_nil)))
      (pss_cons (ps_if (PW.pt (pw_or (pt_not (pt_val (pe_call GV8.ok (hr.mono (by decide)) (by rfl) GV8.g GV8.kp GV8.bn .nil pass0 (pa_cons (pv 17) (pa_cons (pv 15) (pa_cons (pe_ix (ix_list : IxR _ (rIxL K)) (pv 1) (pv 5) (fun _ _ => rfl)) (pa_cons (pv 6) pa_nil))))))) (pw_or1 (pt_not (pt_val (pe_call GR8.ok (hr.mono (by decide)) (by rfl) GR8.g GR8.kp GR8.bn .nil pass0 (pa_cons (pv 17) (pa_cons (pv 15) pa_nil)))))))) (pss_one (ps_ret pe_bl)) pss_nil)
      (pss_one (ps_if (pt_cmpR (op_neD hr.units) (pe_heard (k := 8) HF B HT LT rfl (hr.mono (by decide)) (LamX.lamS_by (by show LamX.lamSB (defScope sLaw) _ = true; decide +kernel)) rfl (fun _ _ _ _ _ => rfl) (fun A outer s H E f c2 hr => (pe_smeth (pe_gref rfl T.g) SR.rd SR.at_ SR.fr (hr.mono (by decide)) (passes_call (takes_of rfl rfl rfl rfl) (fun _ _ _ _ e => e)) (pa_cons (pe_call G.ok (hr.mono (by decide)) (by rfl) G.g G.kp G.bn .nil pass0 (pa_cons (pv 17) (pa_cons (pe_lst (pa_cons pe_non (pa_cons pe_int (pa_cons pe_bl (pa_cons (pe_lst (pa_cons pe_str pa_nil)) (pa_cons (pe_tup (pa_cons pe_str pa_nil)) (pa_cons pe_dnewK (pa_cons (pv 15) pa_nil)))))))) pa_nil))) pa_nil)))) (pe_tup (pa_cons pe_int (pa_cons pe_int pa_nil))) (nomark _)) (pss_one (ps_ret pe_bl)) pss_nil)))))))))))))))))))
      (pss_cons (ps_if (PW.pt (pw_or (pt_cmpR (op_eqDecl DC DE (hr.mono (by decide))) (pv 15) (pe_ix (ix_list : IxR _ (rIxL K)) (pv 1) (pv 5) (fun _ _ => rfl)) (nomark _)) (pw_or (pt_cmpR (op_eqDecl DC DE (hr.mono (by decide))) (pv 15) (pe_tup (pa_cons (pe_ix (ix_list : IxR _ (rIxL K)) (pv 1) (pv 5) (fun _ _ => rfl)) (pa_cons (pv 6) pa_nil))) (nomark _)) (pw_or1 (pt_cmpR (op_eqDecl DC DE (hr.mono (by decide))) (pv 15) pe_non (nomark _)))))) (pss_one (ps_ret pe_bl)) pss_nil)
      (pss_cons (ps_set (i := 14) scLaw.nd rfl (Or.inl rfl) (pe_op op_add_str (pe_op op_add_str (pe_call G.ok (hr.mono (by decide)) (by rfl) G.g G.kp G.bn .nil pass0 (pa_cons (pv 17) (pa_cons (pv 1) pa_nil))) (pe_call G.ok (hr.mono (by decide)) (by rfl) G.g G.kp G.bn .nil pass0 (pa_cons (pv 17) (pa_cons (pe_lst (pa_cons pe_str (pa_cons pe_str pa_nil))) pa_nil)))) (pe_op op_mulS pe_str (pe_op op_add pe_int (pe_call D.ok (hr.mono (by decide)) (by rfl) D.g D.kp D.bn .nil pass0 (pa_cons (pv 17) (pa_cons pe_int pa_nil)))))))
      (pss_cons (ps_for PassesOwn.never rfl (pi_list (pe_lst (pa_cons (pv 14) (pa_cons (pe_op op_add_str pe_str (pe_op op_mulS pe_str pe_int)) (pa_cons (pe_op op_add_str pe_str (pe_op op_mulS pe_str pe_int)) pa_nil))))) (pg_name (i := 18) scLaw.nd rfl (Or.inr rfl)) (pss_one (ps_if (pt_cmpR (op_neD hr.units) (pe_heard (k := 8) HF B HT LT rfl (hr.mono (by decide)) (LamX.lamS_by (by show LamX.lamSB (defScope sLaw) _ = true; decide +kernel)) rfl (fun _ _ _ _ _ => rfl) (fun A outer s H E f c2 hr => (pe_smeth (pe_gref rfl T.g) SR.rd SR.at_ SR.fr (hr.mono (by decide)) (passes_call (takes_of rfl rfl rfl rfl) (fun _ _ _ _ e => e)) (pa_cons (pv 18) pa_nil)))) (pe_tup (pa_cons pe_int (pa_cons pe_int pa_nil))) (nomark _)) (pss_one (ps_ret pe_bl)) pss_nil)))
      (pss_one (ps_ret (pe_and (pe_call GO.ok (hr.mono (by decide)) (by rfl) GO.g GO.kp GO.bn .nil pass0 (pa_cons (pv 2) (pa_cons (pv 3) pa_nil))) (pe_one (pe_cmpR (op_eqD hr.units) (pe_lc (own := [("_law_one", 15)]) (g := gName 15) rfl scLaw.nd (pi_list (pv 3)) (blkOk_by (own := [("_law_one", 15)]) (N := ["_law_script", "_law_names", "_law_keys", "_law_some", "_law_lap", "_law_at", "_law_number_here", "_law_step", "_law_near", "_law_apart", "_law_text_here", "_law_words", "_law_due", "_law_heard_here", "_law_far", "_law_one", "_law_bent_here", "_law_pen_here", "_law_word", "_law_many"]) (sc := defScope sLaw) (by decide +kernel)) (fun _ _ _ _ _ => (pg_name (i := 15) scLaw.nd rfl (Or.inl rfl))) (fun _ _ _ _ _ => pts_nil) (fun _ _ _ _ _ => (pe_call GS.ok (hr.mono (by decide)) (by rfl) GS.g GS.kp GS.bn .nil pass0 (pa_cons (pv 15) pa_nil)))) (pe_lc (own := [("_law_at", 5), ("_law_many", 19)]) (g := gTup K 2 (gCons (gName 5) (gCons (gName 19) gNil))) rfl scLaw.nd (pi_list (pv 2)) (blkOk_by (own := [("_law_at", 5), ("_law_many", 19)]) (N := ["_law_script", "_law_names", "_law_keys", "_law_some", "_law_lap", "_law_at", "_law_number_here", "_law_step", "_law_near", "_law_apart", "_law_text_here", "_law_words", "_law_due", "_law_heard_here", "_law_far", "_law_one", "_law_bent_here", "_law_pen_here", "_law_word", "_law_many"]) (sc := defScope sLaw) (by decide +kernel)) (fun _ _ _ _ _ => (pg_tup (by rfl) (pgs_cons (pg_name (i := 5) scLaw.nd rfl (Or.inl rfl)) (pgs_cons (pg_name (i := 19) scLaw.nd rfl (Or.inl rfl)) pgs_nil)))) (fun _ _ _ _ _ => pts_nil) (fun _ _ _ _ _ => (pe_tup (pa_cons (pe_ix (ix_list : IxR _ (rIxL K)) (pv 1) (pv 5) (fun _ _ => rfl)) (pa_cons (pv 19) pa_nil))))) (nomark _)))))))))))), ?_⟩
    refine ⟨_, rfl, sa, ns, rfl, hS, hl, fun p H1 s1 fp PN1 => ⟨(show 7 ≤ sizeLine by decide), fun nl f1 => ⟨(show 0 ≤ sizeLine by decide), fun kl f2 => ⟨(show 0 ≤ sizeLine by decide), fun sl f3 => ⟨(show 4 ≤ sizeLine by decide), fun tt f4 => ?_⟩⟩⟩⟩⟩
    refine ⟨tt, [.ref p, .ref nl, .ref kl, .ref sl], rfl, SqT.of upd_same, rfl, _, _, rfl, _, _, rfl, _, _, rfl, _, _, rfl, rfl, ?_⟩
    obtain ⟨w1, c1, c2, c3, g1, g2, g3, g4⟩ := chain4 (W := .tup [.ref p, .ref nl, .ref kl, .ref sl]) f1 f2 f3 f4
    have n21 : kl ≠ nl := Ne.symm (ne_of_none upd_same f2)
    have n32 : sl ≠ kl := Ne.symm (ne_of_none upd_same f3)
    have n31 : sl ≠ nl := Ne.symm (ne_of_none (by rw [upd_ne (Ne.symm n21)]; exact upd_same) f3)
    obtain ⟨c0, ns0, at0, gg0, q1, q2, q3, _⟩ := PN1.ex
    have AA : LA p c0 nl kl sl := ⟨PN1.ne g1, PN1.ne g2, PN1.ne g3, Ne.symm n21, Ne.symm n31, Ne.symm n32, ne_of_none q3 g2, ne_of_none q3 g3⟩
    have PN2 := PN1.same w1
    have hpc := w1 _ _ q1
    have TB2 : LamX.Tabs TT (upd (upd (upd (upd H1 nl (.lst [.str "p", .str "z0", .str "z1", .str "z2", .str "z3", .str "o", .str "s"])) kl (.lst [])) sl (.lst [])) tt (.tup [.ref p, .ref nl, .ref kl, .ref sl])) := tabs_same (tabs_same TB s1) w1
    generalize upd (upd (upd (upd H1 nl (.lst [.str "p", .str "z0", .str "z1", .str "z2", .str "z3", .str "o", .str "s"])) kl (.lst [])) sl (.lst [])) tt (.tup [.ref p, .ref nl, .ref kl, .ref sl]) = H2 at w1 c1 c2 c3 PN2 hpc TB2
    have L2 : LS SU TT p c0 nl kl sl [] H2 := ⟨c1, ⟨[], c2, .nil⟩, ⟨[], c3, .nil⟩, (fun _ h => nomatch h), ⟨_, _, hpc⟩, TB2⟩
    clear w1 c1 c2 c3 hpc TB2 f1 f2 f3 f4 q1 q2 q3 g1 g2 g3 g4 n21 n32 n31 fp
    refine ⟨SU, _, _, _, rfl, T.nt.rd, T.nt.val, nA, _, rfl, .inr (T.nt.seq _), fun cl f5 => ⟨_, rfl, _, _, .lst (SqL.of upd_same) dp_NS, .lst (SqL.of (same_upd f5 _ _ L2.nl)) dp_NS, (by decide +kernel), (by decide +kernel), _, rfl, ?_⟩⟩
    rw [show PyData.eqv (.list (NS.map PyData.str)) (.list (NS.map PyData.str)) = true by decide +kernel]
    have L3 := L2.same AA (same_upd (o := .lst (NS.map V.str)) f5)
    have PN3 := PN2.same (same_upd (o := .lst (NS.map V.str)) f5)
    generalize upd H2 cl (.lst (NS.map V.str)) = H3 at L3 PN3
    clear L2 PN2 f5
    refine iteF ⟨SU, _, _, _, rfl, T.nt.rd, T.nt.val, _, _, _, _, true, rfl, .ty "tuple", T.nt.isTup _, kit_ty (by decide +kernel), _, rfl, iteF ?_⟩
    refine ⟨5, rfl, by decide, by decide, ?_⟩
    refine for_it (walk_range (lo := 0) (n := 5)) (fun i σ H' => ∃ rows, rows.length = i ∧ LS SU TT p c0 nl kl sl rows H' ∧ PenAt H' p (100 * i) ∧ ∃ e4 e5 e6 e7 e8 e9 e10 e11 e12 e13 e14 e15 e16 e18 e19, σ = [some (.ref sa), some (.ref nl), some (.ref kl), some (.ref sl), e4, e5, e6, e7, e8, e9, e10, e11, e12, e13, e14, e15, e16, some (.ref p), e18, e19] ∧
      (i = 0 ∨ ∃ (j : Nat) (num : Int) (o : Addr), e5 = some (.int (j : Int)) ∧ e6 = some (.int num) ∧ e15 = some (.ref o) ∧ j < 7 ∧ big num ∧ SumAt SU H' o j num)) ?_ (fun _ _ _ _ _ => trivial) (fun lap x σ H1 H2 hi q y => ?_) (fun σ H' q => ?_)
    · exact ⟨[], rfl, L3, PN3, _, _, _, _, _, _, _, _, _, _, _, _, _, _, _, rfl, .inl rfl⟩
    · obtain ⟨rows, hlen, LL, PL, e4, e5, e6, e7, e8, e9, e10, e11, e12, e13, e14, e15, e16, e18, e19, rfl, _⟩ := q
      obtain ⟨rfl, rfl⟩ := y
      have hi : lap < 5 := hi
      refine ⟨_, rfl, p, 7, 100 * lap, rfl, by decide, by decide, PL, by omega, fun d Ha d0 d1 ea pa => ⟨_, rfl, p, _, rfl, pa, by omega, fun num Hb hnum eb pb => ⟨_, rfl, p, _, rfl, pb, by omega, fun stp Hc hstp ec pc => ⟨_, _, _, rfl, ?_⟩⟩⟩⟩
      obtain ⟨at_, rfl⟩ : ∃ k : Nat, d = (k : Int) := ⟨d.toNat, by omega⟩
      have hat : at_ < 7 := by omega
      have Lc := ((LL.ext AA ea).ext AA eb).ext AA ec
      clear ea eb ec pa pb LL PL
      refine one_read rfl rfl rfl rfl hat Lc.nl AA.np pc (by omega) (fun one Hd ed pd _ S _ => ?_)
      have Ld := Lc.ext AA ed
      clear ed pc Lc
      refine app_both Ld AA pd S hat hnum (by omega) rfl rfl rfl rfl rfl (fun He Le pe Se => ?_)
      refine sums_read OBA OBS hat Le.nl Se rfl rfl rfl rfl rfl (fun Hf sf => ?_)
      have Lf := Le.same AA sf
      have pf := pe.same sf
      have Sf := Se.same sf
      clear Le pe Se sf Ld pd S
      obtain ⟨ks, hks, pks⟩ := Lf.kl
      have hkl : ks.length = lap + 1 := by rw [Paired.length pks, List.length_append, hlen]; rfl
      refine ⟨_, rfl, _, rfl, p, kl, ks, _, rfl, AA.kp, hks, by omega, by omega, pf, by omega, fun jn near Hg hnear eg pg => ?_⟩
      obtain ⟨rn, hrn, tn, rfl, htn⟩ := paired_get pks hnear
      have Lg := Lf.ext AA eg
      obtain ⟨pq1, pq2, hpq⟩ := Lf.pc
      have Sg : SumAt SU Hg one at_ num := Sf.extT (.ext eg) (ne_of Sf.2.choose_spec hpq (fun z => nomatch z))
      have htg := eg _ _ htn (ne_of htn hpq (fun z => nomatch z))
      have hrg := (Lf.good rn (List.mem_of_getElem? hrn)).1
      clear eg pf Lf Sf hks pks hnear
      refine apart_read T.su hat hrg Lg.nl Sg htg (show 9 < 20 by decide) rfl rfl rfl rfl rfl (fun va Hh sh => ?_)
      have Lh := Lg.same AA sh
      have ph := pg.same sh
      have Sh := Sg.same sh
      clear Lg pg Sg sh htg
      refine text_read hat hnum Lh.nl Sh (show 10 < 20 by decide) rfl rfl rfl rfl (fun Hi si => ?_)
      have Li := Lh.same AA si
      have pi := ph.same si
      have Si := Sh.same si
      clear Lh ph Sh si
      have t41 : (10 : Int) ^ 41 ≤ 10 ^ 42 := by decide
      have hb2 : -10 ^ 42 ≤ num ∧ num ≤ 10 ^ 42 := ⟨by have := hnum.1; omega, by have := hnum.2; omega⟩
      refine ⟨_, rfl, _, rfl, p, _, textV at_ num, rfl, pi, by omega, Nat.le_trans (text_len hat hb2) (by decide), text_ok hat num, fun z Hj hz hok ej pj => ?_⟩
      have Lj := Li.ext AA ej
      obtain ⟨pr1, pr2, hpi⟩ := Li.pc
      have Sj : SumAt SU Hj one at_ num := Si.extT (.ext ej) (ne_of Si.2.choose_spec hpi (fun z => nomatch z))
      have npj := Sj.nep pj
      clear Li pi Si hpi ej
      refine bent_read T.su hz hok Lj.tabs rfl rfl (fun v11 v12 v13 Hk eN TBk => ?_)
      have Lk := Lj.extT AA (.n eN) TBk
      have pk := pj.n eN
      have Sk : SumAt SU Hk one at_ num := Sj.extT (p := p) (.n eN) npj
      clear Lj pj Sj eN
      refine ⟨_, rfl, _, rfl, _, rfl, _, rfl, nl, _, _, _, rfl, rfl, SqL.of Lk.nl, atI_nat (nm_at hat), _, rfl, p, _, one, at_, num, rfl, Sk, pk, by omega, TBk, fun Hl el pl TBl => ⟨true, rfl, iteF ?_⟩⟩
      have Ll := Lk.extT AA el TBl
      have Sl := Sk.extT el npj
      clear Lk pk Sk el TBk
      refine ⟨_, rfl, _, rfl, p, _, one, at_, num, rfl, Sl, pl, by omega, TBl, fun Hm em pm TBm => ⟨true, rfl, iteF ?_⟩⟩
      have Lm := Ll.extT AA em TBm
      have Sm := Sl.extT em npj
      clear Ll pl Sl em TBl
      refine kind_read Sm pm (by omega) TBm rfl rfl (fun Hn en pn TBn => ?_)
      have Ln := Lm.extT AA en TBn
      have Sn := Sm.extT en npj
      refine ⟨rows ++ [(at_, num)], by rw [List.length_append, hlen]; rfl, Ln, pn.mono (by omega), _, _, _, _, _, _, _, _, _, _, _, _, _, _, _, rfl, .inr ⟨at_, num, one, rfl, rfl, rfl, hat, hnum, Sn⟩⟩
    · obtain ⟨rows, hr5, LL, PL, e4, e5, e6, e7, e8, e9, e10, e11, e12, e13, e14, e15, e16, e18, e19, rfl, hq⟩ := q
      rcases hq with hq | ⟨at_, num, one, rfl, rfl, rfl, hat, hnum, So⟩
      · cases hq
      refine decl_read hat LL.nl So rfl rfl rfl rfl (fun Ha za => ?_)
      have La := LL.same AA za
      have pa := PL.same za
      clear LL PL So za
      refine ⟨_, rfl, _, rfl, p, nl, _, _, rfl, AA.np, La.nl, (show 0 < 7 by decide), (show 7 < 1000 by decide), pa, by omega, fun j1 x Hb hx eb pb => ?_⟩
      obtain ⟨hj1, rfl⟩ := nm_of hx
      have Lb := La.ext AA eb
      refine ⟨_, rfl, (show 2 ≤ sizeLine by decide), fun ls fs => ⟨p, ls, [V.str "+", .str "-"], _, rfl, pb.ne fs, upd_same, (show 0 < 2 by decide), (show 2 < 1000 by decide), pb.same (same_upd fs), by omega, fun j2 y Hc hy ec pc => ?_⟩⟩
      obtain ⟨sg, cg, rfl, hsg, hcg⟩ := sign_of hy
      have Lc := (Lb.same AA (same_upd fs)).ext AA ec
      clear La Lb eb pb ec pa
      have t9 : tl ("9" : Str) = [57] := by decide +kernel
      have t1 : tl ("1" : Str) = [49] := by decide +kernel
      have ln1 := nm_len hj1
      have lsg : sg.length = 1 := by rw [len_tl, hsg]; rfl
      refine ⟨_, _, rfl, rfl, line_of (m := 3) (by omega), _, rfl, p, 5000, _, rfl, by decide, by decide, pc, by omega, fun d Hd d0 d1 ed pd => ?_⟩
      have l9 : (Txt.mul "9" (61 + d)).length ≤ 6000 := by rw [len_mul t9 (by omega)]; omega
      refine ⟨_, _, rfl, rfl, _, _, rfl, rfl, mul_ok t9 (by omega) (by omega), _, _, rfl, rfl, line_of (m := 6010) (by rw [strLen_append]; omega), ?_⟩
      have Ld := Lc.ext AA ed
      clear Lc ed pc
      have F0 : FarW (nm j1 ++ sg ++ Txt.mul "9" (61 + d)) := farW hj1 (c := cg) (d := 57) (m := (61 + d).toNat) (by rw [tl_append, tl_append, tl_nm hj1, hsg, tl_mul1 t9 (by omega), List.append_assoc]; rfl) hcg (by decide) (by omega) (by omega)
      generalize nm j1 ++ sg ++ Txt.mul "9" (61 + d) = far at F0
      have tp : tl ("p+" : Str) = [112, 43] := by decide +kernel
      have tz : tl ("z0-" : Str) = [122, 48, 45] := by decide +kernel
      have F1 : FarW ("p+" ++ Txt.mul "9" 5000) := farW (i := 0) (by decide) (c := 43) (d := 57) (m := 5000) (by rw [tl_append, tp, tl_mul1 t9 (by decide)]; rfl) (.inl rfl) (by decide) (by decide) (by decide)
      have F2 : FarW ("z0-" ++ Txt.mul "1" 4301) := farW (i := 1) (by decide) (c := 45) (d := 49) (m := 4301) (by rw [tl_append, tz, tl_mul1 t1 (by decide)]; rfl) (.inr rfl) (by decide) (by decide) (by decide)
      have l5 : (Txt.mul "9" 5000).length = 5000 := len_mul t9 (by decide)
      have l6 : (Txt.mul "1" 4301).length = 4301 := len_mul t1 (by decide)
      have lp2 : ("p+" : Str).length = 2 := by rw [len_tl, tp]; rfl
      have lz3 : ("z0-" : Str).length = 3 := by rw [len_tl, tz]; rfl
      refine ⟨_, rfl, _, _, rfl, rfl, mul_ok t9 (by decide) (by decide), _, _, rfl, rfl, line_of (m := 6000) (by omega), _, _, rfl, rfl, mul_ok t1 (by decide) (by decide), _, _, rfl, rfl, line_of (m := 6000) (by omega), (show 3 ≤ sizeLine by decide), fun lw fw => ⟨lw, rfl, ⟨_, SqL.of upd_same⟩, ?_⟩⟩
      have Le := Ld.same AA (same_upd (o := .lst [.str far, .str ("p+" ++ Txt.mul "9" 5000), .str ("z0-" ++ Txt.mul "1" 4301)]) fw)
      have clw : upd Hd lw (.lst [.str far, .str ("p+" ++ Txt.mul "9" 5000), .str ("z0-" ++ Txt.mul "1" 4301)]) lw = some (.lst [.str far, .str ("p+" ++ Txt.mul "9" 5000), .str ("z0-" ++ Txt.mul "1" 4301)]) := upd_same
      have allF : ∀ x ∈ [V.str far, .str ("p+" ++ Txt.mul "9" 5000), .str ("z0-" ++ Txt.mul "1" 4301)], ∃ z, x = .str z ∧ FarW z := by
        intro x hx
        simp only [List.mem_cons, List.not_mem_nil, or_false] at hx
        rcases hx with rfl | rfl | rfl
        · exact ⟨_, rfl, F0⟩
        · exact ⟨_, rfl, F1⟩
        · exact ⟨_, rfl, F2⟩
      generalize hws : [V.str far, .str ("p+" ++ Txt.mul "9" 5000), .str ("z0-" ++ Txt.mul "1" 4301)] = ws at Le clw allF
      generalize upd Hd lw (.lst ws) = He at Le clw
      clear Ld fw F0 F1 F2 l5 l6 t9 t1 tp tz
      refine for_it (walk_list (K := K) (a := lw) (xs := ws)) (fun i σ H' => LS SU TT p c0 nl kl sl rows H' ∧ H' lw = some (.lst ws) ∧ ∃ e14 e18, σ = [some (.ref sa), some (.ref nl), some (.ref kl), some (.ref sl), e4, some (.int (at_ : Int)), some (.int num), e7, e8, e9, e10, e11, e12, e13, e14, some (.ref one), e16, some (.ref p), e18, e19]) ⟨Le, clw, _, _, rfl⟩ (fun i σ H' _ q => SqL.of q.2.1) (fun i x σ H' H'' hi q y => ?_) (fun σ H' q => ?_)
      · obtain ⟨Lf, cf, _, _, rfl⟩ := q
        obtain ⟨rfl, hx⟩ := y
        obtain ⟨z, rfl, Fz⟩ := allF x (List.mem_of_getElem? hx)
        refine far_read Fz Lf.tabs rfl (fun Hg eN TBg => ?_)
        exact ⟨Lf.extT AA (.n eN) TBg, eN _ _ cf (fun _ z => nomatch z), _, _, rfl⟩
      · obtain ⟨Lf, _, _, _, rfl⟩ := q
        obtain ⟨ks, hk, pks⟩ := Lf.kl
        obtain ⟨ss, hs, pss⟩ := Lf.sl
        refine ⟨_, rfl, _, rfl, kl, sl, ks, ss, rows, rfl, hk, hs, pks, pss, fun Hg sg' => ⟨true, rfl, iteT ?_⟩⟩
        have nlg := sg' _ _ Lf.nl
        have hrl : rows.length ≤ 1000 := by omega
        refine ⟨_, rfl, sl, rfl, ⟨_, SqL.of (sg' _ _ hs)⟩, fun D1 fD1 => ?_⟩
        refine lc_nm (l := sl) (xs := ss) (rows := rows) (sg' _ _ hs) (Paired.length pss) hrl fD1 (fun i x r Hx Qx Rx hx hr sx kx => ?_) (fun Hx ys sx hys pys => ?_)
        · obtain ⟨r', hr', a', rfl, Sa⟩ := paired_get pss hx
          rw [hr] at hr'
          cases hr'
          exact ⟨rfl, tYes_if ⟨_, rfl, a', r.1, r.2, rfl, (Sa.same sg').same sx, fun t H2 s2 ft h2 => kx t H2 s2 ft h2⟩⟩
        · have sgx := sg'.trans sx
          refine ⟨_, rfl, kl, rfl, ⟨_, SqL.of (sgx _ _ hk)⟩, fun D2 fD2 => ?_⟩
          refine lc_nm (l := kl) (xs := ks) (rows := rows) (sgx _ _ hk) (Paired.length pks) hrl fD2 (fun i x r Hy Qx Rx hx hr sy kx => ?_) (fun Hy zs sy hzs pzs => ?_)
          · obtain ⟨r', hr', t', rfl, ht'⟩ := paired_get pks hx
            rw [hr] at hr'
            cases hr'
            have s2 := sgx.trans sy
            have hr7 := (Lf.good r (List.mem_of_getElem? hr)).1
            exact ⟨t', _, rfl, SqT.of (s2 _ _ ht'), rfl, _, _, rfl, _, _, rfl, rfl, rfl, tYes_if ⟨_, rfl, _, rfl, nl, _, _, _, rfl, rfl, SqL.of (s2 _ _ Lf.nl), atI_nat (nm_at hr7), _, rfl, (show 2 ≤ sizeLine by decide), fun t ft => kx t _ (same_upd ft) ft upd_same⟩⟩
          · refine ⟨_, _, .lst (SqL.of (sy _ _ hys)) (nmRow_dp (Paired.mapP pys fun v r h => h.same sy)), .lst (SqL.of hzs) (nmRow_dp pzs), nmDat_shaped (fun r hr => (Lf.good r hr).1), nmDat_shaped (fun r hr => (Lf.good r hr).1), ?_⟩
            rw [nmDat_eqv]
            exact k _
end
end K08
set_option Elab.async false
set_option linter.all false
set_option maxRecDepth 100000
set_option maxHeartbeats 8000000
namespace K08
open PySem PySem.Spec PyProof.Rows L2 My MyX MyE TL NumText
theorem glue {P : Program} {w : World} {K : PySem.W.Frag} {mg : Str → Option Value} {base : Heap} {TT : List (Addr × Str)} {TE0 BS BT CU SU nA fI pRe fIs fSh fWh fDg fSg fBs fBt fCi fAh fGo fRf fNe fAd fSb fAp fVi fEq fLt fLe fGt fGe fSt fRe fSo fSd fP fD fG fN fS2 fX fTo fBe fO fHd fVa cVa PVa fRr cRr PRr fLa cLa PLa : Addr} {fdI fdIs fdSh fdWh fdDg fdSg fdBs fdBt fdCi fdAh fdGo fdRf fdNe fdAd fdSb fdAp fdVi fdEq fdLt fdLe fdGt fdGe fdSt fdRe fdSo fdSd fdP fdD fdG fdN fdS2 fdX fdTo fdBe fdO fdHd fdVa fdRr fdLa : FuncData}
    (B : Blt mg) (gS : ∃ t, mg "SHOWN" = some (.int 1000000000000 t)) (gDig : ∃ t, mg "DIGITS" = some (.str DIG t)) (gM : ∃ t, mg "MOST_DIGITS" = some (.int 60 t)) (gPA : ∃ t, mg "PART" = some (.int 1000000000000000000 t)) (gPD : ∃ t, mg "PART_DIGITS" = some (.int 18 t)) (gNI : mg "NotImplemented" = none)
    (TT0 : TopT K mg TE0) (XS : ExT K BS fBs) (XT : ExT K BT fBt) (HT : HdT K mg TE0 BS BT) (U : CuT K CU) (gC : mg "Cursor" = some (.ref CU)) (MC : Mk K CU fCi) (T : SmT K mg SU nA) (MSU : Mk K SU fI)
    (FI : FunD K "__init__" "Sum.__init__" (defArgs sSuI) (defBody sSuI) (defScope sSuI) [.int 0] [] fI fdI) (bI3 : Binds K fdI ["self", "source", "number"] []) (bI2 : ∃ ds, Vals [V.int 0] ds ∧ Binds K fdI ["self", "source", "number"] ds) (bIk : ∃ g, KBn K fdI ["self", "source", "number"] 1 ["number", "source"] g (fun vs zs => vs ++ zs.reverse))
    (kVi : ∃ g, KBn K fdVi ["self", "numbers"] 1 ["numbers"] g (fun vs zs => vs ++ zs)) (kRe : ∃ g, KBn K fdRe ["text"] 0 ["text"] g (fun vs zs => vs ++ zs)) (SR : SMet K SU (.type "type") "read" pRe fRe)
    (oA : OwnBin K SU fAd "add") (oS : OwnBin K SU fSb "sub") (rA : ∀ T ∈ ["NoneType", "bool", "int", "str", "list", "tuple", "dict"], RightT K SU "add" (.type T)) (rS : ∀ T ∈ ["NoneType", "bool", "int", "str", "list", "tuple", "dict"], RightT K SU "sub" (.type T))
    (NC : NeC K SU fEq) (DC : DeC K SU fEq)
    (FIs : Fun K "is_integer" "is_integer" sIsInt fIs fdIs)
    (gIs : mg "is_integer" = some (.ref fIs))
    (FSh : Fun K "shown" "shown" sShown fSh fdSh)
    (gSh : mg "shown" = some (.ref fSh))
    (FWh : Fun K "whole_number" "whole_number" sWhole fWh fdWh)
    (gWh : mg "whole_number" = some (.ref fWh))
    (FDg : Fun K "digits_of" "digits_of" sDigits fDg fdDg)
    (gDg : mg "digits_of" = some (.ref fDg))
    (FSg : Fun K "signed_digits" "signed_digits" sSigned fSg fdSg)
    (gSg : mg "signed_digits" = some (.ref fSg))
    (FBs : Fun K "__init__" "BadSum.__init__" sBsI fBs fdBs)
    (FBt : Fun K "__init__" "BadText.__init__" sBtI fBt fdBt)
    (FCi : Fun K "__init__" "Cursor.__init__" sCuI fCi fdCi)
    (FAh : Fun K "ahead" "Cursor.ahead" sAhead fAh fdAh)
    (mAh : Meth K CU "ahead" fAh)
    (FGo : Fun K "go_on" "Cursor.go_on" sGoOn fGo fdGo)
    (mGo : Meth K CU "go_on" fGo)
    (FRf : Fun K "refuse" "Cursor.refuse" sRefuse fRf fdRf)
    (mRf : Meth K CU "refuse" fRf)
    (FNe : Fun K "need_end" "Cursor.need_end" sNeedEnd fNe fdNe)
    (mNe : Meth K CU "need_end" fNe)
    (FAd : Fun K "__add__" "Sum.__add__" sAdd fAd fdAd)
    (mAd : Meth K SU "__add__" fAd)
    (FSb : Fun K "__sub__" "Sum.__sub__" sSub fSb fdSb)
    (mSb : Meth K SU "__sub__" fSb)
    (FAp : Fun K "apart" "Sum.apart" sApart fAp fdAp)
    (mAp : Meth K SU "apart" fAp)
    (FVi : Fun K "value_in" "Sum.value_in" sValIn fVi fdVi)
    (mVi : Meth K SU "value_in" fVi)
    (FEq : Fun K "__eq__" "Sum.__eq__" sEq fEq fdEq)
    (mEq : Meth K SU "__eq__" fEq)
    (FLt : Fun K "__lt__" "Sum.__lt__" sLt fLt fdLt)
    (mLt : Meth K SU "__lt__" fLt)
    (FLe : Fun K "__le__" "Sum.__le__" sLe fLe fdLe)
    (mLe : Meth K SU "__le__" fLe)
    (FGt : Fun K "__gt__" "Sum.__gt__" sGt fGt fdGt)
    (mGt : Meth K SU "__gt__" fGt)
    (FGe : Fun K "__ge__" "Sum.__ge__" sGe fGe fdGe)
    (mGe : Meth K SU "__ge__" fGe)
    (FSt : Fun K "__str__" "Sum.__str__" sStr fSt fdSt)
    (mSt : Meth K SU "__str__" fSt)
    (FRe : Fun K "read" "Sum.read" sRead fRe fdRe)
    (FSo : Fun K "sum_of" "sum_of" sSumOf fSo fdSo)
    (gSo : mg "sum_of" = some (.ref fSo))
    (FSd : Fun K "sum_behind" "sum_behind" sSumBehind fSd fdSd)
    (gSd : mg "sum_behind" = some (.ref fSd))
    (FP : Fun K "_law_pen" "_law_pen" sPen fP fdP)
    (gP : mg "_law_pen" = some (.ref fP))
    (FD : Fun K "_law_draw" "_law_draw" sDraw fD fdD)
    (gD : mg "_law_draw" = some (.ref fD))
    (FG : Fun K "_law_pick" "_law_pick" sPick fG fdG)
    (gG : mg "_law_pick" = some (.ref fG))
    (FN : Fun K "_law_number" "_law_number" sNumber fN fdN)
    (gN : mg "_law_number" = some (.ref fN))
    (FS2 : Fun K "_law_shown" "_law_shown" sShown2 fS2 fdS2)
    (gS2 : mg "_law_shown" = some (.ref fS2))
    (FX : Fun K "_law_text" "_law_text" sText fX fdX)
    (gX : mg "_law_text" = some (.ref fX))
    (FTo : Fun K "_law_told" "_law_told" sTold fTo fdTo)
    (gTo : mg "_law_told" = some (.ref fTo))
    (FBe : Fun K "_law_bent" "_law_bent" sBent fBe fdBe)
    (gBe : mg "_law_bent" = some (.ref fBe))
    (FO : Fun K "_law_order_right" "_law_order_right" sOrder fO fdO)
    (gO : mg "_law_order_right" = some (.ref fO))
    (FHd : Fun K "_law_heard" "_law_heard" sHeard fHd fdHd)
    (gHd : mg "_law_heard" = some (.ref fHd))
    (FVa : FunL K "_law_values_right" "_law_values_right" sValues fVa fdVa cVa)
    (gVa : mg "_law_values_right" = some (.ref fVa)) (bVa : Binds K fdVa ["_law_pen_here", "_law_one", "_law_source", "_law_number_here"] [])
    (LVa : LamT base mg TT cVa PVa "_law_values_right.<locals>.<lambda>")
    (FRr : FunL K "_law_refused_right" "_law_refused_right" sRefused fRr fdRr cRr)
    (gRr : mg "_law_refused_right" = some (.ref fRr)) (bRr : Binds K fdRr ["_law_pen_here", "_law_one"] [])
    (LRr : LamT base mg TT cRr PRr "_law_refused_right.<locals>.<lambda>")
    (FLa : FunL K "law" "law" sLaw fLa fdLa cLa)
    (gLa : mg "law" = some (.ref fLa)) (bLa : Binds K fdLa ["_law_script"] [])
    (LLa : LamT base mg TT cLa PLa "law.<locals>.<lambda>") : FnOk P w K mg base CX0 14 fLa fdLa ["_law_script"] (spLaw K TT) := by
  have bIs := FIs.binds (ps := ["value"]) fun _ _ _ _ _ _ us hl => match us, hl with | [_], _ => rfl
  have bSh := FSh.binds (ps := ["value"]) fun _ _ _ _ _ _ us hl => match us, hl with | [_], _ => rfl
  have bWh := FWh.binds (ps := ["word"]) fun _ _ _ _ _ _ us hl => match us, hl with | [_], _ => rfl
  have bDg := FDg.binds (ps := ["number"]) fun _ _ _ _ _ _ us hl => match us, hl with | [_], _ => rfl
  have bSg := FSg.binds (ps := ["number"]) fun _ _ _ _ _ _ us hl => match us, hl with | [_], _ => rfl
  have bBs := FBs.binds (ps := ["self", "part"]) fun _ _ _ _ _ _ us hl => match us, hl with | [_, _], _ => rfl
  have bBt := FBt.binds (ps := ["self", "line", "word"]) fun _ _ _ _ _ _ us hl => match us, hl with | [_, _, _], _ => rfl
  have bCi := FCi.binds (ps := ["self", "text"]) fun _ _ _ _ _ _ us hl => match us, hl with | [_, _], _ => rfl
  have bAh := FAh.binds (ps := ["self"]) fun _ _ _ _ _ _ us hl => match us, hl with | [_], _ => rfl
  have bGo := FGo.binds (ps := ["self"]) fun _ _ _ _ _ _ us hl => match us, hl with | [_], _ => rfl
  have bRf := FRf.binds (ps := ["self"]) fun _ _ _ _ _ _ us hl => match us, hl with | [_], _ => rfl
  have bNe := FNe.binds (ps := ["self"]) fun _ _ _ _ _ _ us hl => match us, hl with | [_], _ => rfl
  have bAd := FAd.binds (ps := ["self", "other"]) fun _ _ _ _ _ _ us hl => match us, hl with | [_, _], _ => rfl
  have bSb := FSb.binds (ps := ["self", "other"]) fun _ _ _ _ _ _ us hl => match us, hl with | [_, _], _ => rfl
  have bAp := FAp.binds (ps := ["self", "other"]) fun _ _ _ _ _ _ us hl => match us, hl with | [_, _], _ => rfl
  have bVi := FVi.binds (ps := ["self", "numbers"]) fun _ _ _ _ _ _ us hl => match us, hl with | [_, _], _ => rfl
  have bEq := FEq.binds (ps := ["self", "other"]) fun _ _ _ _ _ _ us hl => match us, hl with | [_, _], _ => rfl
  have bLt := FLt.binds (ps := ["self", "other"]) fun _ _ _ _ _ _ us hl => match us, hl with | [_, _], _ => rfl
  have bLe := FLe.binds (ps := ["self", "other"]) fun _ _ _ _ _ _ us hl => match us, hl with | [_, _], _ => rfl
  have bGt := FGt.binds (ps := ["self", "other"]) fun _ _ _ _ _ _ us hl => match us, hl with | [_, _], _ => rfl
  have bGe := FGe.binds (ps := ["self", "other"]) fun _ _ _ _ _ _ us hl => match us, hl with | [_, _], _ => rfl
  have bSt := FSt.binds (ps := ["self"]) fun _ _ _ _ _ _ us hl => match us, hl with | [_], _ => rfl
  have bRe := FRe.binds (ps := ["text"]) fun _ _ _ _ _ _ us hl => match us, hl with | [_], _ => rfl
  have bSo := FSo.binds (ps := ["word"]) fun _ _ _ _ _ _ us hl => match us, hl with | [_], _ => rfl
  have bSd := FSd.binds (ps := ["source", "rest"]) fun _ _ _ _ _ _ us hl => match us, hl with | [_, _], _ => rfl
  have bP := FP.binds (ps := ["_law_script"]) fun _ _ _ _ _ _ us hl => match us, hl with | [_], _ => rfl
  have bD := FD.binds (ps := ["_law_pen_here", "_law_many"]) fun _ _ _ _ _ _ us hl => match us, hl with | [_, _], _ => rfl
  have bG := FG.binds (ps := ["_law_pen_here", "_law_some"]) fun _ _ _ _ _ _ us hl => match us, hl with | [_, _], _ => rfl
  have bN := FN.binds (ps := ["_law_pen_here"]) fun _ _ _ _ _ _ us hl => match us, hl with | [_], _ => rfl
  have bS2 := FS2.binds (ps := ["_law_one"]) fun _ _ _ _ _ _ us hl => match us, hl with | [_], _ => rfl
  have bX := FX.binds (ps := ["_law_source", "_law_number_here"]) fun _ _ _ _ _ _ us hl => match us, hl with | [_, _], _ => rfl
  have bTo := FTo.binds (ps := ["_law_word"]) fun _ _ _ _ _ _ us hl => match us, hl with | [_], _ => rfl
  have bBe := FBe.binds (ps := ["_law_pen_here", "_law_word"]) fun _ _ _ _ _ _ us hl => match us, hl with | [_, _], _ => rfl
  have bO := FO.binds (ps := ["_law_keys", "_law_some"]) fun _ _ _ _ _ _ us hl => match us, hl with | [_, _], _ => rfl
  have bHd := FHd.binds (ps := ["_law_ask"]) fun _ _ _ _ _ _ us hl => match us, hl with | [_], _ => rfl
  have TIs : FnT P w K mg base CX0 1 "is_integer" fIs fdIs ["value"] (spIsInt SU) := ⟨ok_isint FIs B T.su, bIs, gIs, FIs.kp⟩
  have TSh : FnT P w K mg base CX0 1 "shown" fSh fdSh ["value"] (spShown) := ⟨ok_shown FSh B gS, bSh, gSh, FSh.kp⟩
  have TWh : FnT P w K mg base CX0 1 "whole_number" fWh fdWh ["word"] (spWhole) := ⟨ok_whole FWh B gDig gM, bWh, gWh, FWh.kp⟩
  have TDg : FnT P w K mg base CX0 1 "digits_of" fDg fdDg ["number"] (spDigits) := ⟨ok_digits FDg B gPA gPD, bDg, gDg, FDg.kp⟩
  have TSg : FnT P w K mg base CX0 2 "signed_digits" fSg fdSg ["number"] (spSigned) := ⟨ok_signed FSg TDg, bSg, gSg, FSg.kp⟩
  have RS : RaT P w K mg base "BadSum" BS fBs fdBs ["self", "part"] (spBsI BS) := ⟨XS, ok_bsI FBs XS TT0 HT.nP gSh FSh TSh.ok bSh, bBs, HT.gS⟩
  have RT : RaT P w K mg base "BadText" BT fBt fdBt ["self", "line", "word"] (spBtI BT) := ⟨XT, ok_btI FBt XT TT0 HT.nL HT.nW gSh FSh TSh.ok bSh, bBt, HT.gT⟩
  have GCi := ok_cuI (P := P) (w := w) (base := base) FCi B T.su U RT
  have MAh : MeT P w K mg base CX0 1 CU "ahead" fAh fdAh ["self"] (spAhead CU) := ⟨ok_ahead FAh B U, bAh, mAh⟩
  have MGo : MeT P w K mg base CX0 1 CU "go_on" fGo fdGo ["self"] (spGoOn CU) := ⟨ok_goon FGo U, bGo, mGo⟩
  have MRf : MeT P w K mg base (L2.CX P w) 4 CU "refuse" fRf fdRf ["self"] (spRefuse CU BT) := ⟨ok_refuse FRf U RT, bRf, mRf⟩
  have MNe : MeT P w K mg base (L2.CX P w) 5 CU "need_end" fNe fdNe ["self"] (spNeedEnd CU BT) := ⟨ok_needend FNe U FAh MAh.ok bAh mAh FRf MRf.ok bRf mRf, bNe, mNe⟩
  have M : MkS P w K mg base SU BS fI fdI := ⟨MSU, ok_suI FI B T RS TIs, bI3, bI2, bIk⟩
  have OBA : OpT P w K mg base SU BS "add" (· + ·) fAd := ⟨oA, FnT.fr (ok_add FAd T RS TIs M) bAd, rA⟩
  have OBS : OpT P w K mg base SU BS "sub" (· - ·) fSb := ⟨oS, FnT.fr (ok_sub FSb T RS TIs M) bSb, rS⟩
  have GA : MeT P w K mg base (L2.CX P w) 4 SU "apart" fAp fdAp ["self", "other"] (spApart SU BS) := ⟨ok_apart FAp B T RS, bAp, mAp⟩
  obtain ⟨gVi, kVi⟩ := kVi
  obtain ⟨gRe, kRe⟩ := kRe
  have GVi : MekT P w K mg base (L2.CX P w) 4 SU "value_in" fVi fdVi ["self", "numbers"] ["numbers"] gVi (spValIn SU BS) := ⟨ok_valin FVi B T RS TIs, bVi, kVi, mVi⟩
  have CEq : CmpT P w K mg base SU "__eq__" (fun i n j m => decide (i = j ∧ n = m)) fEq := ⟨mEq.at_, mEq.fn, FnT.fr (ok_eq FEq B T) bEq⟩
  have CLt : CmpT P w K mg base SU "__lt__" (gOrd fun a b => decide (a < b)) fLt := ⟨mLt.at_, mLt.fn, FnT.fr (ok_lt FLt B T) bLt⟩
  have CLe : CmpT P w K mg base SU "__le__" (gOrd fun a b => decide (a ≤ b)) fLe := ⟨mLe.at_, mLe.fn, FnT.fr (ok_le FLe B T) bLe⟩
  have CGt : CmpT P w K mg base SU "__gt__" (gOrd fun a b => decide (b < a)) fGt := ⟨mGt.at_, mGt.fn, FnT.fr (ok_gt FGt B T) bGt⟩
  have CGe : CmpT P w K mg base SU "__ge__" (gOrd fun a b => decide (b ≤ a)) fGe := ⟨mGe.at_, mGe.fn, FnT.fr (ok_ge FGe B T) bGe⟩
  have DE := decl_eq (P := P) (w := w) (base := base) FEq B T gNI bEq
  have SI : StrT P w K mg base SU fSt := ⟨mSt.at_, mSt.fn, FnT.fr (ok_str FSt B T TSg) bSt⟩
  have TSd : FnT P w K mg base CX0 6 "sum_behind" fSd fdSd ["source", "rest"] (spBehind SU) := ⟨quiet (ok_behind FSd T M TWh) (fun _ _ _ _ h => h), bSd, gSd, FSd.kp⟩
  have TSo : FnT P w K mg base CX0 7 "sum_of" fSo fdSo ["word"] (spSumOf SU) := ⟨ok_sumof FSo T TSd, bSo, gSo, FSo.kp⟩
  have OR := ok_read (P := P) (w := w) (base := base) FRe T U gC MC GCi bCi MAh MGo MRf MNe TSo
  have RD : RdT P w K mg base SU BT pRe fRe fdRe gRe := ⟨T.nt.rd, SR, OR, FnT.fr OR bRe, kRe⟩
  have TP : FnT P w K mg base CX0 1 "_law_pen" fP fdP ["_law_script"] (spPen K) := ⟨ok_pen FP B, bP, gP, FP.kp⟩
  have TD : FnT P w K mg base CX0 1 "_law_draw" fD fdD ["_law_pen_here", "_law_many"] (spDraw) := ⟨ok_draw FD B, bD, gD, FD.kp⟩
  have TG : FnT P w K mg base CX0 2 "_law_pick" fG fdG ["_law_pen_here", "_law_some"] (spPick) := ⟨ok_pick FG B TD, bG, gG, FG.kp⟩
  have TN : FnT P w K mg base CX0 2 "_law_number" fN fdN ["_law_pen_here"] (spNumber) := ⟨ok_number FN TD, bN, gN, FN.kp⟩
  have TS2 : FnT P w K mg base CX0 1 "_law_shown" fS2 fdS2 ["_law_one"] (spShown2 SU) := ⟨ok_shown2 FS2 B T, bS2, gS2, FS2.kp⟩
  have TX : FnT P w K mg base CX0 1 "_law_text" fX fdX ["_law_source", "_law_number_here"] (spText) := ⟨ok_text FX B, bX, gX, FX.kp⟩
  have TTo : FnT P w K mg base CX0 1 "_law_told" fTo fdTo ["_law_word"] (spTold) := ⟨ok_told FTo B, bTo, gTo, FTo.kp⟩
  have TBe : FnT P w K mg base CX0 3 "_law_bent" fBe fdBe ["_law_pen_here", "_law_word"] (spBent) := ⟨ok_bent FBe B TD TG, bBe, gBe, FBe.kp⟩
  have TO : FnT P w K mg base CX0 4 "_law_order_right" fO fdO ["_law_keys", "_law_some"] (spOrd SU) := ⟨ok_order FO B T CEq NC CLt CLe CGt CGe, bO, gO, FO.kp⟩
  have HF : HdF K mg fHd fdHd := ⟨FHd, bHd, gHd⟩
  have TVa : FnT P w K mg base CX0 9 "_law_values_right" fVa fdVa ["_law_pen_here", "_law_one", "_law_source", "_law_number_here"] (spValR SU TT) := ⟨ok_values FVa B T GVi TN TG HF HT LVa, bVa, gVa, FVa.kp⟩
  have TRr : FnT P w K mg base CX0 9 "_law_refused_right" fRr fdRr ["_law_pen_here", "_law_one"] (spRefR SU TT) := ⟨ok_refused FRr B T M OBA OBS GA TG HF HT LRr, bRr, gRr, FRr.kp⟩
  exact ok_law FLa B T M OBA OBS GA TG HF HT LLa DC DE SI RD TP TD TN TX TBe TTo TS2 TVa TRr TO
end K08
set_option Elab.async false
set_option linter.all false
set_option maxRecDepth 100000
set_option maxHeartbeats 16000000
namespace K08
open PySem PySem.Spec PyProof.Rows L2 My MyX MyE TL NumText
theorem vals_rev {xs : List V} {us : List Value} (h : Vals xs us) : Vals xs.reverse us.reverse := by
  induction h with
  | nil => exact .nil
  | cons a _ k =>
    rw [List.reverse_cons, List.reverse_cons]
    exact Vals.append k (.cons a .nil)
theorem all_mk {P : Program} {w : World} {K : PySem.W.Frag} {h : Heap} {mg : Str → Option Value} {TT : List (Addr × Str)} {fa : Addr} (X : K.In h) (G : h.Ns mainGlobals mg) (hfa : mg "law" = some (.ref fa))
    {TE0 BS BT CU SU nA fI pRe tI fIs fSh fWh fDg fSg fBs fBt fCi fAh fGo fRf fNe fAd fSb fAp fVi fEq fLt fLe fGt fGe fSt fRe fSo fSd fP fD fG fN fS2 fX fTo fBe fO fHd fVa cVa PVa fRr cRr PRr fLa cLa PLa : Addr} {ocIs kVIs dcIs pmIs ctIs cdIs ocSh kVSh dcSh pmSh ctSh cdSh ocWh kVWh dcWh pmWh ctWh cdWh ocDg kVDg dcDg pmDg ctDg cdDg ocSg kVSg dcSg pmSg ctSg cdSg ocBs kVBs dcBs pmBs ctBs cdBs ocBt kVBt dcBt pmBt ctBt cdBt ocCi kVCi dcCi pmCi ctCi cdCi ocAh kVAh dcAh pmAh ctAh cdAh ocGo kVGo dcGo pmGo ctGo cdGo ocRf kVRf dcRf pmRf ctRf cdRf ocNe kVNe dcNe pmNe ctNe cdNe ocAd kVAd dcAd pmAd ctAd cdAd ocSb kVSb dcSb pmSb ctSb cdSb ocAp kVAp dcAp pmAp ctAp cdAp ocVi kVVi dcVi pmVi ctVi cdVi ocEq kVEq dcEq pmEq ctEq cdEq ocLt kVLt dcLt pmLt ctLt cdLt ocLe kVLe dcLe pmLe ctLe cdLe ocGt kVGt dcGt pmGt ctGt cdGt ocGe kVGe dcGe pmGe ctGe cdGe ocSt kVSt dcSt pmSt ctSt cdSt ocRe kVRe dcRe pmRe ctRe cdRe ocSo kVSo dcSo pmSo ctSo cdSo ocSd kVSd dcSd pmSd ctSd cdSd ocP kVP dcP pmP ctP cdP ocD kVD dcD pmD ctD cdD ocG kVG dcG pmG ctG cdG ocN kVN dcN pmN ctN cdN ocS2 kVS2 dcS2 pmS2 ctS2 cdS2 ocX kVX dcX pmX ctX cdX ocTo kVTo dcTo pmTo ctTo cdTo ocBe kVBe dcBe pmBe ctBe cdBe ocO kVO dcO pmO ctO cdO ocHd kVHd dcHd pmHd ctHd cdHd ocVa kVVa dcVa pmVa ctVa ocRr kVRr dcRr pmRr ctRr ocLa kVLa dcLa pmLa ctLa ocI kVI dcI pmI ctI cdI : Value} {odIs anIs odSh anSh odWh anWh odDg anDg odSg anSg odBs anBs odBt anBt odCi anCi odAh anAh odGo anGo odRf anRf odNe anNe odAd anAd odSb anSb odAp anAp odVi anVi odEq anEq odLt anLt odLe anLe odGt anGt odGe anGe odSt anSt odRe anRe odSo anSo odSd anSd odP anP odD anD odG anG odN anN odS2 anS2 odX anX odTo anTo odBe anBe odO anO odHd anHd odVa anVa odRr anRr odLa anLa odI anI odTt : Option Addr} {slIs slSh slWh slDg slSg slBs slBt slCi slAh slGo slRf slNe slAd slSb slAp slVi slEq slLt slLe slGt slGe slSt slRe slSo slSd slP slD slG slN slS2 slX slTo slBe slO slHd slVa slRr slLa slI slTt slNm : Array (Option Value)} {restRe : List Value} {tkT tk0 tk1 tk2 tk3 tk4 tk5 tk6 tS tD tM tPA tPD : Tok} {nTt nNm : Nat} {nmBS qBS : Str} {NBS : Addr} {bsBS bmBS subBS : List Value} {snBS : List Str} {abBS : Bool} {colBS : Option Bool} {ddBS : Option Addr} {k0BS k1BS k2BS k3BS k5BS : Option Value} {nmBT qBT : Str} {NBT : Addr} {bsBT bmBT subBT : List Value} {snBT : List Str} {abBT : Bool} {colBT : Option Bool} {ddBT : Option Addr} {k0BT k1BT k2BT k3BT k5BT : Option Value}
    (aTE0 : PySem.W.nsIn K mainGlobals "ToolError" = some (some (.ref TE0)))
    (aBS : PySem.W.nsIn K mainGlobals "BadSum" = some (some (.ref BS)))
    (aBT : PySem.W.nsIn K mainGlobals "BadText" = some (some (.ref BT)))
    (aCU : PySem.W.nsIn K mainGlobals "Cursor" = some (some (.ref CU)))
    (aSU : PySem.W.nsIn K mainGlobals "Sum" = some (some (.ref SU)))
    (aIs : PySem.W.nsIn K mainGlobals "is_integer" = some (some (.ref fIs)))
    (lIs : K.lookup fIs = some ⟨ocIs, odIs, .func (PySem.W.fnOf "is_integer" "is_integer" (defArgs sIsInt) (defBody sIsInt) (defScope sIsInt) .none kVIs dcIs pmIs anIs cdIs ctIs), slIs⟩)
    (c_Is : PySem.W.codeIn K cdIs "is_integer" = true)
    (kIs : PySem.W.keepIn K (.ref fIs) = true)
    (aSh : PySem.W.nsIn K mainGlobals "shown" = some (some (.ref fSh)))
    (lSh : K.lookup fSh = some ⟨ocSh, odSh, .func (PySem.W.fnOf "shown" "shown" (defArgs sShown) (defBody sShown) (defScope sShown) .none kVSh dcSh pmSh anSh cdSh ctSh), slSh⟩)
    (c_Sh : PySem.W.codeIn K cdSh "shown" = true)
    (kSh : PySem.W.keepIn K (.ref fSh) = true)
    (aWh : PySem.W.nsIn K mainGlobals "whole_number" = some (some (.ref fWh)))
    (lWh : K.lookup fWh = some ⟨ocWh, odWh, .func (PySem.W.fnOf "whole_number" "whole_number" (defArgs sWhole) (defBody sWhole) (defScope sWhole) .none kVWh dcWh pmWh anWh cdWh ctWh), slWh⟩)
    (c_Wh : PySem.W.codeIn K cdWh "whole_number" = true)
    (kWh : PySem.W.keepIn K (.ref fWh) = true)
    (aDg : PySem.W.nsIn K mainGlobals "digits_of" = some (some (.ref fDg)))
    (lDg : K.lookup fDg = some ⟨ocDg, odDg, .func (PySem.W.fnOf "digits_of" "digits_of" (defArgs sDigits) (defBody sDigits) (defScope sDigits) .none kVDg dcDg pmDg anDg cdDg ctDg), slDg⟩)
    (c_Dg : PySem.W.codeIn K cdDg "digits_of" = true)
    (kDg : PySem.W.keepIn K (.ref fDg) = true)
    (aSg : PySem.W.nsIn K mainGlobals "signed_digits" = some (some (.ref fSg)))
    (lSg : K.lookup fSg = some ⟨ocSg, odSg, .func (PySem.W.fnOf "signed_digits" "signed_digits" (defArgs sSigned) (defBody sSigned) (defScope sSigned) .none kVSg dcSg pmSg anSg cdSg ctSg), slSg⟩)
    (c_Sg : PySem.W.codeIn K cdSg "signed_digits" = true)
    (kSg : PySem.W.keepIn K (.ref fSg) = true)
    (aBs : PySem.W.findIn K (.ref BS) "__init__" = some (some (.ref fBs)))
    (lBs : K.lookup fBs = some ⟨ocBs, odBs, .func (PySem.W.fnOf "__init__" "BadSum.__init__" (defArgs sBsI) (defBody sBsI) (defScope sBsI) .none kVBs dcBs pmBs anBs cdBs ctBs), slBs⟩)
    (c_Bs : PySem.W.codeIn K cdBs "BadSum.__init__" = true)
    (kBs : PySem.W.keepIn K (.ref fBs) = true)
    (aBt : PySem.W.findIn K (.ref BT) "__init__" = some (some (.ref fBt)))
    (lBt : K.lookup fBt = some ⟨ocBt, odBt, .func (PySem.W.fnOf "__init__" "BadText.__init__" (defArgs sBtI) (defBody sBtI) (defScope sBtI) .none kVBt dcBt pmBt anBt cdBt ctBt), slBt⟩)
    (c_Bt : PySem.W.codeIn K cdBt "BadText.__init__" = true)
    (kBt : PySem.W.keepIn K (.ref fBt) = true)
    (aCi : PySem.W.findIn K (.ref CU) "__init__" = some (some (.ref fCi)))
    (lCi : K.lookup fCi = some ⟨ocCi, odCi, .func (PySem.W.fnOf "__init__" "Cursor.__init__" (defArgs sCuI) (defBody sCuI) (defScope sCuI) .none kVCi dcCi pmCi anCi cdCi ctCi), slCi⟩)
    (c_Ci : PySem.W.codeIn K cdCi "Cursor.__init__" = true)
    (kCi : PySem.W.keepIn K (.ref fCi) = true)
    (aAh : PySem.W.findIn K (.ref CU) "ahead" = some (some (.ref fAh)))
    (iAh : PySem.W.isFn K (.ref fAh) = true)
    (lAh : K.lookup fAh = some ⟨ocAh, odAh, .func (PySem.W.fnOf "ahead" "Cursor.ahead" (defArgs sAhead) (defBody sAhead) (defScope sAhead) .none kVAh dcAh pmAh anAh cdAh ctAh), slAh⟩)
    (c_Ah : PySem.W.codeIn K cdAh "Cursor.ahead" = true)
    (kAh : PySem.W.keepIn K (.ref fAh) = true)
    (aGo : PySem.W.findIn K (.ref CU) "go_on" = some (some (.ref fGo)))
    (iGo : PySem.W.isFn K (.ref fGo) = true)
    (lGo : K.lookup fGo = some ⟨ocGo, odGo, .func (PySem.W.fnOf "go_on" "Cursor.go_on" (defArgs sGoOn) (defBody sGoOn) (defScope sGoOn) .none kVGo dcGo pmGo anGo cdGo ctGo), slGo⟩)
    (c_Go : PySem.W.codeIn K cdGo "Cursor.go_on" = true)
    (kGo : PySem.W.keepIn K (.ref fGo) = true)
    (aRf : PySem.W.findIn K (.ref CU) "refuse" = some (some (.ref fRf)))
    (iRf : PySem.W.isFn K (.ref fRf) = true)
    (lRf : K.lookup fRf = some ⟨ocRf, odRf, .func (PySem.W.fnOf "refuse" "Cursor.refuse" (defArgs sRefuse) (defBody sRefuse) (defScope sRefuse) .none kVRf dcRf pmRf anRf cdRf ctRf), slRf⟩)
    (c_Rf : PySem.W.codeIn K cdRf "Cursor.refuse" = true)
    (kRf : PySem.W.keepIn K (.ref fRf) = true)
    (aNe : PySem.W.findIn K (.ref CU) "need_end" = some (some (.ref fNe)))
    (iNe : PySem.W.isFn K (.ref fNe) = true)
    (lNe : K.lookup fNe = some ⟨ocNe, odNe, .func (PySem.W.fnOf "need_end" "Cursor.need_end" (defArgs sNeedEnd) (defBody sNeedEnd) (defScope sNeedEnd) .none kVNe dcNe pmNe anNe cdNe ctNe), slNe⟩)
    (c_Ne : PySem.W.codeIn K cdNe "Cursor.need_end" = true)
    (kNe : PySem.W.keepIn K (.ref fNe) = true)
    (aAd : PySem.W.findIn K (.ref SU) "__add__" = some (some (.ref fAd)))
    (iAd : PySem.W.isFn K (.ref fAd) = true)
    (lAd : K.lookup fAd = some ⟨ocAd, odAd, .func (PySem.W.fnOf "__add__" "Sum.__add__" (defArgs sAdd) (defBody sAdd) (defScope sAdd) .none kVAd dcAd pmAd anAd cdAd ctAd), slAd⟩)
    (c_Ad : PySem.W.codeIn K cdAd "Sum.__add__" = true)
    (kAd : PySem.W.keepIn K (.ref fAd) = true)
    (aSb : PySem.W.findIn K (.ref SU) "__sub__" = some (some (.ref fSb)))
    (iSb : PySem.W.isFn K (.ref fSb) = true)
    (lSb : K.lookup fSb = some ⟨ocSb, odSb, .func (PySem.W.fnOf "__sub__" "Sum.__sub__" (defArgs sSub) (defBody sSub) (defScope sSub) .none kVSb dcSb pmSb anSb cdSb ctSb), slSb⟩)
    (c_Sb : PySem.W.codeIn K cdSb "Sum.__sub__" = true)
    (kSb : PySem.W.keepIn K (.ref fSb) = true)
    (aAp : PySem.W.findIn K (.ref SU) "apart" = some (some (.ref fAp)))
    (iAp : PySem.W.isFn K (.ref fAp) = true)
    (lAp : K.lookup fAp = some ⟨ocAp, odAp, .func (PySem.W.fnOf "apart" "Sum.apart" (defArgs sApart) (defBody sApart) (defScope sApart) .none kVAp dcAp pmAp anAp cdAp ctAp), slAp⟩)
    (c_Ap : PySem.W.codeIn K cdAp "Sum.apart" = true)
    (kAp : PySem.W.keepIn K (.ref fAp) = true)
    (aVi : PySem.W.findIn K (.ref SU) "value_in" = some (some (.ref fVi)))
    (iVi : PySem.W.isFn K (.ref fVi) = true)
    (lVi : K.lookup fVi = some ⟨ocVi, odVi, .func (PySem.W.fnOf "value_in" "Sum.value_in" (defArgs sValIn) (defBody sValIn) (defScope sValIn) .none kVVi dcVi pmVi anVi cdVi ctVi), slVi⟩)
    (c_Vi : PySem.W.codeIn K cdVi "Sum.value_in" = true)
    (kVi : PySem.W.keepIn K (.ref fVi) = true)
    (aEq : PySem.W.findIn K (.ref SU) "__eq__" = some (some (.ref fEq)))
    (iEq : PySem.W.isFn K (.ref fEq) = true)
    (lEq : K.lookup fEq = some ⟨ocEq, odEq, .func (PySem.W.fnOf "__eq__" "Sum.__eq__" (defArgs sEq) (defBody sEq) (defScope sEq) .none kVEq dcEq pmEq anEq cdEq ctEq), slEq⟩)
    (c_Eq : PySem.W.codeIn K cdEq "Sum.__eq__" = true)
    (kEq : PySem.W.keepIn K (.ref fEq) = true)
    (aLt : PySem.W.findIn K (.ref SU) "__lt__" = some (some (.ref fLt)))
    (iLt : PySem.W.isFn K (.ref fLt) = true)
    (lLt : K.lookup fLt = some ⟨ocLt, odLt, .func (PySem.W.fnOf "__lt__" "Sum.__lt__" (defArgs sLt) (defBody sLt) (defScope sLt) .none kVLt dcLt pmLt anLt cdLt ctLt), slLt⟩)
    (c_Lt : PySem.W.codeIn K cdLt "Sum.__lt__" = true)
    (kLt : PySem.W.keepIn K (.ref fLt) = true)
    (aLe : PySem.W.findIn K (.ref SU) "__le__" = some (some (.ref fLe)))
    (iLe : PySem.W.isFn K (.ref fLe) = true)
    (lLe : K.lookup fLe = some ⟨ocLe, odLe, .func (PySem.W.fnOf "__le__" "Sum.__le__" (defArgs sLe) (defBody sLe) (defScope sLe) .none kVLe dcLe pmLe anLe cdLe ctLe), slLe⟩)
    (c_Le : PySem.W.codeIn K cdLe "Sum.__le__" = true)
    (kLe : PySem.W.keepIn K (.ref fLe) = true)
    (aGt : PySem.W.findIn K (.ref SU) "__gt__" = some (some (.ref fGt)))
    (iGt : PySem.W.isFn K (.ref fGt) = true)
    (lGt : K.lookup fGt = some ⟨ocGt, odGt, .func (PySem.W.fnOf "__gt__" "Sum.__gt__" (defArgs sGt) (defBody sGt) (defScope sGt) .none kVGt dcGt pmGt anGt cdGt ctGt), slGt⟩)
    (c_Gt : PySem.W.codeIn K cdGt "Sum.__gt__" = true)
    (kGt : PySem.W.keepIn K (.ref fGt) = true)
    (aGe : PySem.W.findIn K (.ref SU) "__ge__" = some (some (.ref fGe)))
    (iGe : PySem.W.isFn K (.ref fGe) = true)
    (lGe : K.lookup fGe = some ⟨ocGe, odGe, .func (PySem.W.fnOf "__ge__" "Sum.__ge__" (defArgs sGe) (defBody sGe) (defScope sGe) .none kVGe dcGe pmGe anGe cdGe ctGe), slGe⟩)
    (c_Ge : PySem.W.codeIn K cdGe "Sum.__ge__" = true)
    (kGe : PySem.W.keepIn K (.ref fGe) = true)
    (aSt : PySem.W.findIn K (.ref SU) "__str__" = some (some (.ref fSt)))
    (iSt : PySem.W.isFn K (.ref fSt) = true)
    (lSt : K.lookup fSt = some ⟨ocSt, odSt, .func (PySem.W.fnOf "__str__" "Sum.__str__" (defArgs sStr) (defBody sStr) (defScope sStr) .none kVSt dcSt pmSt anSt cdSt ctSt), slSt⟩)
    (c_St : PySem.W.codeIn K cdSt "Sum.__str__" = true)
    (kSt : PySem.W.keepIn K (.ref fSt) = true)
    (aRe : PySem.W.findCls K (.ref SU) (.type "type") "read" = some (.get (.builtin "staticmethod.__get__") (.ref pRe) .none (.ref SU)))
    (rRe : PySem.W.recIn K pRe "staticmethod" = some (.ref fRe :: restRe))
    (lRe : K.lookup fRe = some ⟨ocRe, odRe, .func (PySem.W.fnOf "read" "Sum.read" (defArgs sRead) (defBody sRead) (defScope sRead) .none kVRe dcRe pmRe anRe cdRe ctRe), slRe⟩)
    (c_Re : PySem.W.codeIn K cdRe "Sum.read" = true)
    (kRe : PySem.W.keepIn K (.ref fRe) = true)
    (aSo : PySem.W.nsIn K mainGlobals "sum_of" = some (some (.ref fSo)))
    (lSo : K.lookup fSo = some ⟨ocSo, odSo, .func (PySem.W.fnOf "sum_of" "sum_of" (defArgs sSumOf) (defBody sSumOf) (defScope sSumOf) .none kVSo dcSo pmSo anSo cdSo ctSo), slSo⟩)
    (c_So : PySem.W.codeIn K cdSo "sum_of" = true)
    (kSo : PySem.W.keepIn K (.ref fSo) = true)
    (aSd : PySem.W.nsIn K mainGlobals "sum_behind" = some (some (.ref fSd)))
    (lSd : K.lookup fSd = some ⟨ocSd, odSd, .func (PySem.W.fnOf "sum_behind" "sum_behind" (defArgs sSumBehind) (defBody sSumBehind) (defScope sSumBehind) .none kVSd dcSd pmSd anSd cdSd ctSd), slSd⟩)
    (c_Sd : PySem.W.codeIn K cdSd "sum_behind" = true)
    (kSd : PySem.W.keepIn K (.ref fSd) = true)
    (aP : PySem.W.nsIn K mainGlobals "_law_pen" = some (some (.ref fP)))
    (lP : K.lookup fP = some ⟨ocP, odP, .func (PySem.W.fnOf "_law_pen" "_law_pen" (defArgs sPen) (defBody sPen) (defScope sPen) .none kVP dcP pmP anP cdP ctP), slP⟩)
    (c_P : PySem.W.codeIn K cdP "_law_pen" = true)
    (kP : PySem.W.keepIn K (.ref fP) = true)
    (aD : PySem.W.nsIn K mainGlobals "_law_draw" = some (some (.ref fD)))
    (lD : K.lookup fD = some ⟨ocD, odD, .func (PySem.W.fnOf "_law_draw" "_law_draw" (defArgs sDraw) (defBody sDraw) (defScope sDraw) .none kVD dcD pmD anD cdD ctD), slD⟩)
    (c_D : PySem.W.codeIn K cdD "_law_draw" = true)
    (kD : PySem.W.keepIn K (.ref fD) = true)
    (aG : PySem.W.nsIn K mainGlobals "_law_pick" = some (some (.ref fG)))
    (lG : K.lookup fG = some ⟨ocG, odG, .func (PySem.W.fnOf "_law_pick" "_law_pick" (defArgs sPick) (defBody sPick) (defScope sPick) .none kVG dcG pmG anG cdG ctG), slG⟩)
    (c_G : PySem.W.codeIn K cdG "_law_pick" = true)
    (kG : PySem.W.keepIn K (.ref fG) = true)
    (aN : PySem.W.nsIn K mainGlobals "_law_number" = some (some (.ref fN)))
    (lN : K.lookup fN = some ⟨ocN, odN, .func (PySem.W.fnOf "_law_number" "_law_number" (defArgs sNumber) (defBody sNumber) (defScope sNumber) .none kVN dcN pmN anN cdN ctN), slN⟩)
    (c_N : PySem.W.codeIn K cdN "_law_number" = true)
    (kN : PySem.W.keepIn K (.ref fN) = true)
    (aS2 : PySem.W.nsIn K mainGlobals "_law_shown" = some (some (.ref fS2)))
    (lS2 : K.lookup fS2 = some ⟨ocS2, odS2, .func (PySem.W.fnOf "_law_shown" "_law_shown" (defArgs sShown2) (defBody sShown2) (defScope sShown2) .none kVS2 dcS2 pmS2 anS2 cdS2 ctS2), slS2⟩)
    (c_S2 : PySem.W.codeIn K cdS2 "_law_shown" = true)
    (kS2 : PySem.W.keepIn K (.ref fS2) = true)
    (aX : PySem.W.nsIn K mainGlobals "_law_text" = some (some (.ref fX)))
    (lX : K.lookup fX = some ⟨ocX, odX, .func (PySem.W.fnOf "_law_text" "_law_text" (defArgs sText) (defBody sText) (defScope sText) .none kVX dcX pmX anX cdX ctX), slX⟩)
    (c_X : PySem.W.codeIn K cdX "_law_text" = true)
    (kX : PySem.W.keepIn K (.ref fX) = true)
    (aTo : PySem.W.nsIn K mainGlobals "_law_told" = some (some (.ref fTo)))
    (lTo : K.lookup fTo = some ⟨ocTo, odTo, .func (PySem.W.fnOf "_law_told" "_law_told" (defArgs sTold) (defBody sTold) (defScope sTold) .none kVTo dcTo pmTo anTo cdTo ctTo), slTo⟩)
    (c_To : PySem.W.codeIn K cdTo "_law_told" = true)
    (kTo : PySem.W.keepIn K (.ref fTo) = true)
    (aBe : PySem.W.nsIn K mainGlobals "_law_bent" = some (some (.ref fBe)))
    (lBe : K.lookup fBe = some ⟨ocBe, odBe, .func (PySem.W.fnOf "_law_bent" "_law_bent" (defArgs sBent) (defBody sBent) (defScope sBent) .none kVBe dcBe pmBe anBe cdBe ctBe), slBe⟩)
    (c_Be : PySem.W.codeIn K cdBe "_law_bent" = true)
    (kBe : PySem.W.keepIn K (.ref fBe) = true)
    (aO : PySem.W.nsIn K mainGlobals "_law_order_right" = some (some (.ref fO)))
    (lO : K.lookup fO = some ⟨ocO, odO, .func (PySem.W.fnOf "_law_order_right" "_law_order_right" (defArgs sOrder) (defBody sOrder) (defScope sOrder) .none kVO dcO pmO anO cdO ctO), slO⟩)
    (c_O : PySem.W.codeIn K cdO "_law_order_right" = true)
    (kO : PySem.W.keepIn K (.ref fO) = true)
    (aHd : PySem.W.nsIn K mainGlobals "_law_heard" = some (some (.ref fHd)))
    (lHd : K.lookup fHd = some ⟨ocHd, odHd, .func (PySem.W.fnOf "_law_heard" "_law_heard" (defArgs sHeard) (defBody sHeard) (defScope sHeard) .none kVHd dcHd pmHd anHd cdHd ctHd), slHd⟩)
    (c_Hd : PySem.W.codeIn K cdHd "_law_heard" = true)
    (kHd : PySem.W.keepIn K (.ref fHd) = true)
    (aVa : PySem.W.nsIn K mainGlobals "_law_values_right" = some (some (.ref fVa)))
    (lVa : K.lookup fVa = some ⟨ocVa, odVa, .func (PySem.W.fnOf "_law_values_right" "_law_values_right" (defArgs sValues) (defBody sValues) (defScope sValues) .none kVVa dcVa pmVa anVa (.ref cVa) ctVa), slVa⟩)
    (c_Va : PySem.W.codeIn K (.ref cVa) "_law_values_right" = true)
    (kVa : PySem.W.keepIn K (.ref fVa) = true)
    (aRr : PySem.W.nsIn K mainGlobals "_law_refused_right" = some (some (.ref fRr)))
    (lRr : K.lookup fRr = some ⟨ocRr, odRr, .func (PySem.W.fnOf "_law_refused_right" "_law_refused_right" (defArgs sRefused) (defBody sRefused) (defScope sRefused) .none kVRr dcRr pmRr anRr (.ref cRr) ctRr), slRr⟩)
    (c_Rr : PySem.W.codeIn K (.ref cRr) "_law_refused_right" = true)
    (kRr : PySem.W.keepIn K (.ref fRr) = true)
    (aLa : PySem.W.nsIn K mainGlobals "law" = some (some (.ref fLa)))
    (lLa : K.lookup fLa = some ⟨ocLa, odLa, .func (PySem.W.fnOf "law" "law" (defArgs sLaw) (defBody sLaw) (defScope sLaw) .none kVLa dcLa pmLa anLa (.ref cLa) ctLa), slLa⟩)
    (c_La : PySem.W.codeIn K (.ref cLa) "law" = true)
    (kLa : PySem.W.keepIn K (.ref fLa) = true)
    (aI : PySem.W.findIn K (.ref SU) "__init__" = some (some (.ref fI)))
    (iI : PySem.W.isFn K (.ref fI) = true)
    (lI : K.lookup fI = some ⟨ocI, odI, .func (PySem.W.fnOf "__init__" "Sum.__init__" (defArgs sSuI) (defBody sSuI) (defScope sSuI) (.ref tI) kVI dcI pmI anI cdI ctI), slI⟩)
    (c_I : PySem.W.codeIn K cdI "Sum.__init__" = true)
    (kI : PySem.W.keepIn K (.ref fI) = true)
    (dI : K.lookup tI = some ⟨.type "tuple", odTt, .seq #[.int 0 tkT] nTt, slTt⟩)
    (pgCU : PySem.W.plainGet K CU Str.empty = true)
    (hdCU : PySem.W.hasDictIn K CU = true)
    (poCU : PySem.W.plainOver K CU = true)
    (saCU : PySem.W.findIn K (.ref CU) "__setattr__" = some (some (.builtin "object.__setattr__")))
    (mkCU : PySem.W.makesIn K CU = true)
    (kcCU : PySem.W.keepIn K (.ref CU) = true)
    (pgSU : PySem.W.plainGet K SU Str.empty = true)
    (hdSU : PySem.W.hasDictIn K SU = true)
    (poSU : PySem.W.plainOver K SU = true)
    (saSU : PySem.W.findIn K (.ref SU) "__setattr__" = some (some (.builtin "object.__setattr__")))
    (mkSU : PySem.W.makesIn K SU = true)
    (kcSU : PySem.W.keepIn K (.ref SU) = true)
    (iCi : PySem.W.isFn K (.ref fCi) = true)
    (nCU_words : PySem.W.findIn K (.ref CU) "words" = some none)
    (nCU_at : PySem.W.findIn K (.ref CU) "at" = some none)
    (nSU_source : PySem.W.findIn K (.ref SU) "source" = some none)
    (nSU_number : PySem.W.findIn K (.ref SU) "number" = some none)
    (nSU_rank : PySem.W.findIn K (.ref SU) "rank" = some none)
    (nBS_part : PySem.W.findIn K (.ref BS) "part" = some none)
    (nBT_line : PySem.W.findIn K (.ref BT) "line" = some none)
    (nBT_word : PySem.W.findIn K (.ref BT) "word" = some none)
    (xBS : K.lookup BS = some (excClassObj nmBS qBS BS NBS bsBS bmBS true snBS subBS abBS colBS ddBS k0BS k1BS k2BS k3BS k5BS "ValueError.__new__"))
    (vBS : PySem.HandSPX.refsVE bmBS = true)
    (saBS : PySem.W.findIn K (.ref BS) "__setattr__" = some (some (.builtin "object.__setattr__")))
    (exBS : PySem.W.subIn K (.ref BS) (.type "BaseException") = some true)
    (tyBS : PySem.W.typeIn K (.ref BS) = some (.type "type"))
    (kcBS : PySem.W.keepIn K (.ref BS) = true)
    (gaBS : PySem.W.findIn K (.ref BS) "__getattribute__" = some (some (.builtin "BaseException.__getattribute__")))
    (ggBS : PySem.W.findIn K (.ref BS) "__getattr__" = some none)
    (hdBS : PySem.W.hasDictIn K BS = true)
    (clBS : (PySem.W.clsIn K BS).isSome = true)
    (caBS : PySem.W.findIn K (.ref BS) "__class__" = some (some (.builtin "object.__class__")))
    (mrBS : PySem.W.mroIn K BS (.type "object") = some true)
    (stBS : PySem.W.subIn K (.ref BS) (.ref TE0) = some true)
    (xBT : K.lookup BT = some (excClassObj nmBT qBT BT NBT bsBT bmBT true snBT subBT abBT colBT ddBT k0BT k1BT k2BT k3BT k5BT "ValueError.__new__"))
    (vBT : PySem.HandSPX.refsVE bmBT = true)
    (saBT : PySem.W.findIn K (.ref BT) "__setattr__" = some (some (.builtin "object.__setattr__")))
    (exBT : PySem.W.subIn K (.ref BT) (.type "BaseException") = some true)
    (tyBT : PySem.W.typeIn K (.ref BT) = some (.type "type"))
    (kcBT : PySem.W.keepIn K (.ref BT) = true)
    (gaBT : PySem.W.findIn K (.ref BT) "__getattribute__" = some (some (.builtin "BaseException.__getattribute__")))
    (ggBT : PySem.W.findIn K (.ref BT) "__getattr__" = some none)
    (hdBT : PySem.W.hasDictIn K BT = true)
    (clBT : (PySem.W.clsIn K BT).isSome = true)
    (caBT : PySem.W.findIn K (.ref BT) "__class__" = some (some (.builtin "object.__class__")))
    (mrBT : PySem.W.mroIn K BT (.type "object") = some true)
    (stBT : PySem.W.subIn K (.ref BT) (.ref TE0) = some true)
    (tBs : PySem.W.typeIn K (.ref fBs) = some (.type "function"))
    (tBt : PySem.W.typeIn K (.ref fBt) = some (.type "function"))
    (exTE : PySem.W.subIn K (.ref TE0) (.type "BaseException") = some true)
    (hdTE : PySem.W.hasDictIn K TE0 = true)
    (tyTE : PySem.W.typeIn K (.ref TE0) = some (.type "type"))
    (rdTE : PySem.W.readsIn K TE0 (.type "type") = true)
    (gsTE : PySem.W.specialIn K (.ref TE0) "__getattribute__" = some (some (.builtin "type.__getattribute__")))
    (inTE : PySem.W.findCls K (.ref TE0) (.type "type") "__init__" = some (.val (.builtin "ValueError.__init__")))
    (spO : PySem.W.specialIn K (.builtin "object.__class__") "__get__" = some (some (.builtin "getset_descriptor.__get__")))
    (tkO : PySem.W.takesIn K (.builtin "object.__class__") = some true)
    (kSS : PySem.W.kitOne K (.ref BS) (.ref BS) = some true)
    (kTS : PySem.W.kitOne K (.ref BT) (.ref BS) = some false)
    (kTT : PySem.W.kitOne K (.ref BT) (.ref BT) = some true)
    (caSU : PySem.W.findIn K (.ref SU) "__class__" = some (some (.builtin "object.__class__")))
    (mrSU : PySem.W.mroIn K SU (.type "object") = some true)
    (mtSU : PySem.W.mroIn K SU (.type "tuple") = some false)
    (ki : PySem.W.kitOne K (.ref SU) (.type "int") = some false)
    (kb : PySem.W.kitOne K (.ref SU) (.type "bool") = some false)
    (ks : PySem.W.kitOne K (.ref SU) (.type "str") = some false)
    (kd : PySem.W.kitOne K (.ref SU) (.type "dict") = some false)
    (kS : PySem.W.kitOne K (.ref SU) (.ref SU) = some true)
    (s0 : PySem.W.kitOne K (.type "NoneType") (.ref SU) = some false)
    (u0 : PySem.W.subIn K (.type "NoneType") (.ref SU) = some false)
    (s1 : PySem.W.kitOne K (.type "bool") (.ref SU) = some false)
    (u1 : PySem.W.subIn K (.type "bool") (.ref SU) = some false)
    (s2 : PySem.W.kitOne K (.type "int") (.ref SU) = some false)
    (u2 : PySem.W.subIn K (.type "int") (.ref SU) = some false)
    (s3 : PySem.W.kitOne K (.type "str") (.ref SU) = some false)
    (u3 : PySem.W.subIn K (.type "str") (.ref SU) = some false)
    (s4 : PySem.W.kitOne K (.type "list") (.ref SU) = some false)
    (u4 : PySem.W.subIn K (.type "list") (.ref SU) = some false)
    (s5 : PySem.W.kitOne K (.type "tuple") (.ref SU) = some false)
    (u5 : PySem.W.subIn K (.type "tuple") (.ref SU) = some false)
    (s6 : PySem.W.kitOne K (.type "dict") (.ref SU) = some false)
    (u6 : PySem.W.subIn K (.type "dict") (.ref SU) = some false)
    (rdSU : PySem.W.readsIn K SU (.type "type") = true)
    (gsSU : PySem.W.specialIn K (.ref SU) "__getattribute__" = some (some (.builtin "type.__getattribute__")))
    (nmSU : PySem.W.findCls K (.ref SU) (.type "type") "NAMES" = some (.val (.ref nA)))
    (lkN : K.lookup nA = some ⟨.type "tuple", none, .seq #[.str "p" tk0, .str "z0" tk1, .str "z1" tk2, .str "z2" tk3, .str "z3" tk4, .str "o" tk5, .str "s" tk6] nNm, slNm⟩)
    (sfSU : PySem.W.selfFirst K SU = true)
    (raSU : PySem.W.findIn K (.ref SU) "__radd__" = some none)
    (rsSU : PySem.W.findIn K (.ref SU) "__rsub__" = some none)
    (neSU : PySem.W.findIn K (.ref SU) "__ne__" = some (some (.builtin "object.__ne__")))
    (z_isinstance : PySem.W.nsIn K mainGlobals "isinstance" = some none)
    (z_int : PySem.W.nsIn K mainGlobals "int" = some none)
    (z_bool : PySem.W.nsIn K mainGlobals "bool" = some none)
    (z_str : PySem.W.nsIn K mainGlobals "str" = some none)
    (z_len : PySem.W.nsIn K mainGlobals "len" = some none)
    (z_all : PySem.W.nsIn K mainGlobals "all" = some none)
    (z_list : PySem.W.nsIn K mainGlobals "list" = some none)
    (z_dict : PySem.W.nsIn K mainGlobals "dict" = some none)
    (z_tuple : PySem.W.nsIn K mainGlobals "tuple" = some none)
    (z_abs : PySem.W.nsIn K mainGlobals "abs" = some none)
    (z_zip : PySem.W.nsIn K mainGlobals "zip" = some none)
    (z_range : PySem.W.nsIn K mainGlobals "range" = some none)
    (z_NotImplemented : PySem.W.nsIn K mainGlobals "NotImplemented" = some none)
    (cS : PySem.W.nsIn K mainGlobals "SHOWN" = some (some (.int 1000000000000 tS)))
    (cD : PySem.W.nsIn K mainGlobals "DIGITS" = some (some (.str DIG tD)))
    (cM : PySem.W.nsIn K mainGlobals "MOST_DIGITS" = some (some (.int 60 tM)))
    (cPA : PySem.W.nsIn K mainGlobals "PART" = some (some (.int 1000000000000000000 tPA)))
    (cPD : PySem.W.nsIn K mainGlobals "PART_DIGITS" = some (some (.int 18 tPD))) : ∃ fd : FuncData, (∀ (s : Shared) (u : Value), BindsTo s fd ⟨[u], []⟩ [("_law_script", u)]) ∧
      ∀ base : Heap, K.In base → base.Ns mainGlobals mg → LamT base mg TT cVa PVa "_law_values_right.<locals>.<lambda>" → LamT base mg TT cRr PRr "_law_refused_right.<locals>.<lambda>" → LamT base mg TT cLa PLa "law.<locals>.<lambda>" → FnOk P w K mg base L2.CX0 14 fa fd ["_law_script"] (spLaw K TT) := by
  have e := hfa.symm.trans (PySem.W.mg_of X G aLa)
  cases e
  have B : Blt mg := ⟨PySem.W.mg_none_of X G z_isinstance, PySem.W.mg_none_of X G z_int, PySem.W.mg_none_of X G z_bool, PySem.W.mg_none_of X G z_str, PySem.W.mg_none_of X G z_len, PySem.W.mg_none_of X G z_all, PySem.W.mg_none_of X G z_list, PySem.W.mg_none_of X G z_dict, PySem.W.mg_none_of X G z_tuple, PySem.W.mg_none_of X G z_abs, PySem.W.mg_none_of X G z_zip, PySem.W.mg_none_of X G z_range⟩
  have FIs := fun_mk (st := sIsInt) lIs c_Is kIs
  have FSh := fun_mk (st := sShown) lSh c_Sh kSh
  have FWh := fun_mk (st := sWhole) lWh c_Wh kWh
  have FDg := fun_mk (st := sDigits) lDg c_Dg kDg
  have FSg := fun_mk (st := sSigned) lSg c_Sg kSg
  have FBs := fun_mk (st := sBsI) lBs c_Bs kBs
  have FBt := fun_mk (st := sBtI) lBt c_Bt kBt
  have FCi := fun_mk (st := sCuI) lCi c_Ci kCi
  have FAh := fun_mk (st := sAhead) lAh c_Ah kAh
  have FGo := fun_mk (st := sGoOn) lGo c_Go kGo
  have FRf := fun_mk (st := sRefuse) lRf c_Rf kRf
  have FNe := fun_mk (st := sNeedEnd) lNe c_Ne kNe
  have FAd := fun_mk (st := sAdd) lAd c_Ad kAd
  have FSb := fun_mk (st := sSub) lSb c_Sb kSb
  have FAp := fun_mk (st := sApart) lAp c_Ap kAp
  have FVi := fun_mk (st := sValIn) lVi c_Vi kVi
  have FEq := fun_mk (st := sEq) lEq c_Eq kEq
  have FLt := fun_mk (st := sLt) lLt c_Lt kLt
  have FLe := fun_mk (st := sLe) lLe c_Le kLe
  have FGt := fun_mk (st := sGt) lGt c_Gt kGt
  have FGe := fun_mk (st := sGe) lGe c_Ge kGe
  have FSt := fun_mk (st := sStr) lSt c_St kSt
  have FRe := fun_mk (st := sRead) lRe c_Re kRe
  have FSo := fun_mk (st := sSumOf) lSo c_So kSo
  have FSd := fun_mk (st := sSumBehind) lSd c_Sd kSd
  have FP := fun_mk (st := sPen) lP c_P kP
  have FD := fun_mk (st := sDraw) lD c_D kD
  have FG := fun_mk (st := sPick) lG c_G kG
  have FN := fun_mk (st := sNumber) lN c_N kN
  have FS2 := fun_mk (st := sShown2) lS2 c_S2 kS2
  have FX := fun_mk (st := sText) lX c_X kX
  have FTo := fun_mk (st := sTold) lTo c_To kTo
  have FBe := fun_mk (st := sBent) lBe c_Be kBe
  have FO := fun_mk (st := sOrder) lO c_O kO
  have FHd := fun_mk (st := sHeard) lHd c_Hd kHd
  have bVa := (fun_mk (st := sValues) lVa c_Va kVa).binds (ps := ["_law_pen_here", "_law_one", "_law_source", "_law_number_here"]) fun _ _ _ _ _ _ us hl => match us, hl with | [_, _, _, _], _ => rfl
  have FVa : FunL K "_law_values_right" "_law_values_right" sValues fVa _ cVa := ⟨⟨_, _, _, _, _, _, _, _, rfl, lVa, c_Va⟩, kVa⟩
  have bRr := (fun_mk (st := sRefused) lRr c_Rr kRr).binds (ps := ["_law_pen_here", "_law_one"]) fun _ _ _ _ _ _ us hl => match us, hl with | [_, _], _ => rfl
  have FRr : FunL K "_law_refused_right" "_law_refused_right" sRefused fRr _ cRr := ⟨⟨_, _, _, _, _, _, _, _, rfl, lRr, c_Rr⟩, kRr⟩
  have bLa := (fun_mk (st := sLaw) lLa c_La kLa).binds (ps := ["_law_script"]) fun _ _ _ _ _ _ us hl => match us, hl with | [_], _ => rfl
  have FLa : FunL K "law" "law" sLaw fa _ cLa := ⟨⟨_, _, _, _, _, _, _, _, rfl, lLa, c_La⟩, kLa⟩
  have FI : FunD K "__init__" "Sum.__init__" (defArgs sSuI) (defBody sSuI) (defScope sSuI) [.int 0] [] fI _ := ⟨⟨_, _, _, _, _, _, _, _, _, _, rfl, lI, c_I, .inr ⟨by simp, tI, _, [.int 0 tkT], nTt, rfl, dI, rfl, .cons ⟨tkT, rfl⟩ .nil⟩, .inl rfl⟩, kI⟩
  have bI3 := FI.binds1 (ps := ["self", "source", "number"]) 3 1 (by simp) rfl (fun T kV doc pm an cdv ct us its hu hi => match us, hu, its, hi with | [_, _, _], _, [_], _ => ⟨_, rfl, rfl⟩)
  have bI2 := FI.binds1 (ps := ["self", "source", "number"]) 2 0 (by simp) rfl (fun T kV doc pm an cdv ct us its hu hi => match us, hu, its, hi with | [_, _], _, [_], _ => ⟨_, rfl, rfl⟩)
  have bIk := FI.kbindsD (ps := ["self", "source", "number"]) 1 ["number", "source"] (fun us _ ws => us ++ ws.reverse) (by simp) (fun r1 _ r3 => r1.append (vals_rev r3)) (fun T kV doc pm an cdv ct us its ws hu hi hw => match us, hu, its, hi, ws, hw with | [_], _, [_], _, [_, _], _ => ⟨_, rfl, rfl⟩)
  have XBS : ExT K BS fBs := ⟨⟨⟨_, _, _, _, _, _, _, _, _, _, _, _, _, _, _, xBS, vBS⟩, saBS, exBS, tyBS, kcBS⟩, aBs, tBs⟩
  have XBT : ExT K BT fBt := ⟨⟨⟨_, _, _, _, _, _, _, _, _, _, _, _, _, _, _, xBT, vBT⟩, saBT, exBT, tyBT, kcBT⟩, aBt, tBt⟩
  have HT : HdT K mg TE0 BS BT := ⟨PySem.W.mg_of X G aTE0, PySem.W.mg_of X G aBS, PySem.W.mg_of X G aBT, PySem.W.exm_ref exTE hdTE tyTE stBS, PySem.W.exm_ref exTE hdTE tyTE stBT, ⟨clBS, gaBS, ggBS, exBS, caBS, spO, tkO, mrBS⟩, ⟨clBT, gaBT, ggBT, exBT, caBT, spO, tkO, mrBT⟩, ⟨gaBS, ggBS, exBS, hdBS⟩, ⟨gaBT, ggBT, exBT, hdBT⟩, kSS, kTS, kTT, nBS_part, nBT_line, nBT_word⟩
  have TT0 : TopT K mg TE0 := ⟨PySem.W.mg_of X G aTE0, ⟨rdTE, gsTE⟩, inTE⟩
  have U : CuT K CU := ⟨⟨pgCU, hdCU, poCU, saCU⟩, nCU_words, nCU_at⟩
  have SUt : SuT K SU := ⟨⟨pgSU, hdSU, poSU, saSU⟩, caSU, spO, tkO, mrSU, ki, kb, ks, kd, kS, s0, s1, s2, s3, s4, s5, s6⟩
  have NT : NmT K SU nA := ⟨⟨_, _, _, lkN, rfl, rfl, rfl, (show 7 ≤ sizeLine by decide), .cons ⟨_, rfl⟩ (.cons ⟨_, rfl⟩ (.cons ⟨_, rfl⟩ (.cons ⟨_, rfl⟩ (.cons ⟨_, rfl⟩ (.cons ⟨_, rfl⟩ (.cons ⟨_, rfl⟩ .nil))))))⟩, ⟨nmSU, rfl⟩, ⟨rdSU, gsSU⟩⟩
  have T : SmT K mg SU nA := ⟨SUt, NT, nSU_source, nSU_number, nSU_rank, PySem.W.mg_of X G aSU⟩
  obtain ⟨ds3, v3, bI3⟩ := bI3
  cases v3
  obtain ⟨dk, bIk⟩ := bIk
  have r_add : ∀ T ∈ ["NoneType", "bool", "int", "str", "list", "tuple", "dict"], RightT K SU "add" (.type T) := by
    intro T hT
    simp only [List.mem_cons, List.not_mem_nil, or_false] at hT
    rcases hT with rfl | rfl | rfl | rfl | rfl | rfl | rfl
    · exact .ty (by rfl) (by rfl) u0
    · exact .ty (by rfl) (by rfl) u1
    · exact .ty (by rfl) (by rfl) u2
    · exact .ty (by rfl) (by rfl) u3
    · exact .ty (by rfl) (by rfl) u4
    · exact .ty (by rfl) (by rfl) u5
    · exact .ty (by rfl) (by rfl) u6
  have r_sub : ∀ T ∈ ["NoneType", "bool", "int", "str", "list", "tuple", "dict"], RightT K SU "sub" (.type T) := by
    intro T hT
    simp only [List.mem_cons, List.not_mem_nil, or_false] at hT
    rcases hT with rfl | rfl | rfl | rfl | rfl | rfl | rfl
    · exact .ty (by rfl) (by rfl) u0
    · exact .ty (by rfl) (by rfl) u1
    · exact .ty (by rfl) (by rfl) u2
    · exact .ty (by rfl) (by rfl) u3
    · exact .ty (by rfl) (by rfl) u4
    · exact .ty (by rfl) (by rfl) u5
    · exact .ty (by rfl) (by rfl) u6
  refine ⟨PySem.W.fnOf "law" "law" (defArgs sLaw) (defBody sLaw) (defScope sLaw) .none kVLa dcLa pmLa anLa (.ref cLa) ctLa, fun s u => .of_eq rfl, fun base _ _ LVa LRr LLa => ?_⟩
  exact glue B ⟨tS, PySem.W.mg_of X G cS⟩ ⟨tD, PySem.W.mg_of X G cD⟩ ⟨tM, PySem.W.mg_of X G cM⟩ ⟨tPA, PySem.W.mg_of X G cPA⟩ ⟨tPD, PySem.W.mg_of X G cPD⟩ (PySem.W.mg_none_of X G z_NotImplemented) TT0 XBS XBT HT U (PySem.W.mg_of X G aCU) ⟨mkCU, aCi, iCi, kcCU⟩ T ⟨mkSU, aI, iI, kcSU⟩ FI bI3 bI2 ⟨_, bIk⟩ ⟨fun us ws => us ++ ws, ⟨fun s us ws _ hu hw => match us, hu, ws, hw with | [_], _, [_], _ => .of_eq rfl, fun r1 r2 => Vals.append r1 r2⟩⟩ ⟨fun us ws => us ++ ws, ⟨fun s us ws _ hu hw => match us, hu, ws, hw with | [], _, [_], _ => .of_eq rfl, fun r1 r2 => Vals.append r1 r2⟩⟩ ⟨aRe, ⟨_, rRe⟩, kRe⟩ ⟨sfSU, aAd, iAd, raSU⟩ ⟨sfSU, aSb, iSb, rsSU⟩ r_add r_sub ⟨mrSU, neSU, aEq, iEq⟩ ⟨mtSU, aEq, iEq, u0, u3, u5⟩ FIs (PySem.W.mg_of X G aIs) FSh (PySem.W.mg_of X G aSh) FWh (PySem.W.mg_of X G aWh) FDg (PySem.W.mg_of X G aDg) FSg (PySem.W.mg_of X G aSg) FBs FBt FCi FAh ⟨aAh, iAh, kAh⟩ FGo ⟨aGo, iGo, kGo⟩ FRf ⟨aRf, iRf, kRf⟩ FNe ⟨aNe, iNe, kNe⟩ FAd ⟨aAd, iAd, kAd⟩ FSb ⟨aSb, iSb, kSb⟩ FAp ⟨aAp, iAp, kAp⟩ FVi ⟨aVi, iVi, kVi⟩ FEq ⟨aEq, iEq, kEq⟩ FLt ⟨aLt, iLt, kLt⟩ FLe ⟨aLe, iLe, kLe⟩ FGt ⟨aGt, iGt, kGt⟩ FGe ⟨aGe, iGe, kGe⟩ FSt ⟨aSt, iSt, kSt⟩ FRe FSo (PySem.W.mg_of X G aSo) FSd (PySem.W.mg_of X G aSd) FP (PySem.W.mg_of X G aP) FD (PySem.W.mg_of X G aD) FG (PySem.W.mg_of X G aG) FN (PySem.W.mg_of X G aN) FS2 (PySem.W.mg_of X G aS2) FX (PySem.W.mg_of X G aX) FTo (PySem.W.mg_of X G aTo) FBe (PySem.W.mg_of X G aBe) FO (PySem.W.mg_of X G aO) FHd (PySem.W.mg_of X G aHd) FVa (PySem.W.mg_of X G aVa) bVa LVa FRr (PySem.W.mg_of X G aRr) bRr LRr FLa hfa bLa LLa
end K08
set_option Elab.async false
set_option linter.all false
set_option maxRecDepth 100000
set_option maxHeartbeats 16000000
namespace K08
open PySem PySem.Spec PyProof.Rows L2 My MyX MyE TL NumText
theorem law_at {l : PySem.W.OpenLaw} {w : World} {K : PySem.W.Frag} {h : Heap} {mg : Str → Option Value} {ts : List Addr} {fa : Addr} (X : K.In h) (G : h.Ns mainGlobals mg) (hfa : mg "law" = some (.ref fa))
    {TE0 BS BT CU SU nA fI pRe tI fIs fSh fWh fDg fSg fBs fBt fCi fAh fGo fRf fNe fAd fSb fAp fVi fEq fLt fLe fGt fGe fSt fRe fSo fSd fP fD fG fN fS2 fX fTo fBe fO fHd fVa cVa PVa fRr cRr PRr fLa cLa PLa : Addr} {ocIs kVIs dcIs pmIs ctIs cdIs ocSh kVSh dcSh pmSh ctSh cdSh ocWh kVWh dcWh pmWh ctWh cdWh ocDg kVDg dcDg pmDg ctDg cdDg ocSg kVSg dcSg pmSg ctSg cdSg ocBs kVBs dcBs pmBs ctBs cdBs ocBt kVBt dcBt pmBt ctBt cdBt ocCi kVCi dcCi pmCi ctCi cdCi ocAh kVAh dcAh pmAh ctAh cdAh ocGo kVGo dcGo pmGo ctGo cdGo ocRf kVRf dcRf pmRf ctRf cdRf ocNe kVNe dcNe pmNe ctNe cdNe ocAd kVAd dcAd pmAd ctAd cdAd ocSb kVSb dcSb pmSb ctSb cdSb ocAp kVAp dcAp pmAp ctAp cdAp ocVi kVVi dcVi pmVi ctVi cdVi ocEq kVEq dcEq pmEq ctEq cdEq ocLt kVLt dcLt pmLt ctLt cdLt ocLe kVLe dcLe pmLe ctLe cdLe ocGt kVGt dcGt pmGt ctGt cdGt ocGe kVGe dcGe pmGe ctGe cdGe ocSt kVSt dcSt pmSt ctSt cdSt ocRe kVRe dcRe pmRe ctRe cdRe ocSo kVSo dcSo pmSo ctSo cdSo ocSd kVSd dcSd pmSd ctSd cdSd ocP kVP dcP pmP ctP cdP ocD kVD dcD pmD ctD cdD ocG kVG dcG pmG ctG cdG ocN kVN dcN pmN ctN cdN ocS2 kVS2 dcS2 pmS2 ctS2 cdS2 ocX kVX dcX pmX ctX cdX ocTo kVTo dcTo pmTo ctTo cdTo ocBe kVBe dcBe pmBe ctBe cdBe ocO kVO dcO pmO ctO cdO ocHd kVHd dcHd pmHd ctHd cdHd ocVa kVVa dcVa pmVa ctVa ocRr kVRr dcRr pmRr ctRr ocLa kVLa dcLa pmLa ctLa ocI kVI dcI pmI ctI cdI : Value} {odIs anIs odSh anSh odWh anWh odDg anDg odSg anSg odBs anBs odBt anBt odCi anCi odAh anAh odGo anGo odRf anRf odNe anNe odAd anAd odSb anSb odAp anAp odVi anVi odEq anEq odLt anLt odLe anLe odGt anGt odGe anGe odSt anSt odRe anRe odSo anSo odSd anSd odP anP odD anD odG anG odN anN odS2 anS2 odX anX odTo anTo odBe anBe odO anO odHd anHd odVa anVa odRr anRr odLa anLa odI anI odTt : Option Addr} {slIs slSh slWh slDg slSg slBs slBt slCi slAh slGo slRf slNe slAd slSb slAp slVi slEq slLt slLe slGt slGe slSt slRe slSo slSd slP slD slG slN slS2 slX slTo slBe slO slHd slVa slRr slLa slI slTt slNm : Array (Option Value)} {restRe : List Value} {tkT tk0 tk1 tk2 tk3 tk4 tk5 tk6 tS tD tM tPA tPD : Tok} {nTt nNm : Nat} {nmBS qBS : Str} {NBS : Addr} {bsBS bmBS subBS : List Value} {snBS : List Str} {abBS : Bool} {colBS : Option Bool} {ddBS : Option Addr} {k0BS k1BS k2BS k3BS k5BS : Option Value} {nmBT qBT : Str} {NBT : Addr} {bsBT bmBT subBT : List Value} {snBT : List Str} {abBT : Bool} {colBT : Option Bool} {ddBT : Option Addr} {k0BT k1BT k2BT k3BT k5BT : Option Value}
    (aTE0 : PySem.W.nsIn K mainGlobals "ToolError" = some (some (.ref TE0)))
    (aBS : PySem.W.nsIn K mainGlobals "BadSum" = some (some (.ref BS)))
    (aBT : PySem.W.nsIn K mainGlobals "BadText" = some (some (.ref BT)))
    (aCU : PySem.W.nsIn K mainGlobals "Cursor" = some (some (.ref CU)))
    (aSU : PySem.W.nsIn K mainGlobals "Sum" = some (some (.ref SU)))
    (aIs : PySem.W.nsIn K mainGlobals "is_integer" = some (some (.ref fIs)))
    (lIs : K.lookup fIs = some ⟨ocIs, odIs, .func (PySem.W.fnOf "is_integer" "is_integer" (defArgs sIsInt) (defBody sIsInt) (defScope sIsInt) .none kVIs dcIs pmIs anIs cdIs ctIs), slIs⟩)
    (c_Is : PySem.W.codeIn K cdIs "is_integer" = true)
    (kIs : PySem.W.keepIn K (.ref fIs) = true)
    (aSh : PySem.W.nsIn K mainGlobals "shown" = some (some (.ref fSh)))
    (lSh : K.lookup fSh = some ⟨ocSh, odSh, .func (PySem.W.fnOf "shown" "shown" (defArgs sShown) (defBody sShown) (defScope sShown) .none kVSh dcSh pmSh anSh cdSh ctSh), slSh⟩)
    (c_Sh : PySem.W.codeIn K cdSh "shown" = true)
    (kSh : PySem.W.keepIn K (.ref fSh) = true)
    (aWh : PySem.W.nsIn K mainGlobals "whole_number" = some (some (.ref fWh)))
    (lWh : K.lookup fWh = some ⟨ocWh, odWh, .func (PySem.W.fnOf "whole_number" "whole_number" (defArgs sWhole) (defBody sWhole) (defScope sWhole) .none kVWh dcWh pmWh anWh cdWh ctWh), slWh⟩)
    (c_Wh : PySem.W.codeIn K cdWh "whole_number" = true)
    (kWh : PySem.W.keepIn K (.ref fWh) = true)
    (aDg : PySem.W.nsIn K mainGlobals "digits_of" = some (some (.ref fDg)))
    (lDg : K.lookup fDg = some ⟨ocDg, odDg, .func (PySem.W.fnOf "digits_of" "digits_of" (defArgs sDigits) (defBody sDigits) (defScope sDigits) .none kVDg dcDg pmDg anDg cdDg ctDg), slDg⟩)
    (c_Dg : PySem.W.codeIn K cdDg "digits_of" = true)
    (kDg : PySem.W.keepIn K (.ref fDg) = true)
    (aSg : PySem.W.nsIn K mainGlobals "signed_digits" = some (some (.ref fSg)))
    (lSg : K.lookup fSg = some ⟨ocSg, odSg, .func (PySem.W.fnOf "signed_digits" "signed_digits" (defArgs sSigned) (defBody sSigned) (defScope sSigned) .none kVSg dcSg pmSg anSg cdSg ctSg), slSg⟩)
    (c_Sg : PySem.W.codeIn K cdSg "signed_digits" = true)
    (kSg : PySem.W.keepIn K (.ref fSg) = true)
    (aBs : PySem.W.findIn K (.ref BS) "__init__" = some (some (.ref fBs)))
    (lBs : K.lookup fBs = some ⟨ocBs, odBs, .func (PySem.W.fnOf "__init__" "BadSum.__init__" (defArgs sBsI) (defBody sBsI) (defScope sBsI) .none kVBs dcBs pmBs anBs cdBs ctBs), slBs⟩)
    (c_Bs : PySem.W.codeIn K cdBs "BadSum.__init__" = true)
    (kBs : PySem.W.keepIn K (.ref fBs) = true)
    (aBt : PySem.W.findIn K (.ref BT) "__init__" = some (some (.ref fBt)))
    (lBt : K.lookup fBt = some ⟨ocBt, odBt, .func (PySem.W.fnOf "__init__" "BadText.__init__" (defArgs sBtI) (defBody sBtI) (defScope sBtI) .none kVBt dcBt pmBt anBt cdBt ctBt), slBt⟩)
    (c_Bt : PySem.W.codeIn K cdBt "BadText.__init__" = true)
    (kBt : PySem.W.keepIn K (.ref fBt) = true)
    (aCi : PySem.W.findIn K (.ref CU) "__init__" = some (some (.ref fCi)))
    (lCi : K.lookup fCi = some ⟨ocCi, odCi, .func (PySem.W.fnOf "__init__" "Cursor.__init__" (defArgs sCuI) (defBody sCuI) (defScope sCuI) .none kVCi dcCi pmCi anCi cdCi ctCi), slCi⟩)
    (c_Ci : PySem.W.codeIn K cdCi "Cursor.__init__" = true)
    (kCi : PySem.W.keepIn K (.ref fCi) = true)
    (aAh : PySem.W.findIn K (.ref CU) "ahead" = some (some (.ref fAh)))
    (iAh : PySem.W.isFn K (.ref fAh) = true)
    (lAh : K.lookup fAh = some ⟨ocAh, odAh, .func (PySem.W.fnOf "ahead" "Cursor.ahead" (defArgs sAhead) (defBody sAhead) (defScope sAhead) .none kVAh dcAh pmAh anAh cdAh ctAh), slAh⟩)
    (c_Ah : PySem.W.codeIn K cdAh "Cursor.ahead" = true)
    (kAh : PySem.W.keepIn K (.ref fAh) = true)
    (aGo : PySem.W.findIn K (.ref CU) "go_on" = some (some (.ref fGo)))
    (iGo : PySem.W.isFn K (.ref fGo) = true)
    (lGo : K.lookup fGo = some ⟨ocGo, odGo, .func (PySem.W.fnOf "go_on" "Cursor.go_on" (defArgs sGoOn) (defBody sGoOn) (defScope sGoOn) .none kVGo dcGo pmGo anGo cdGo ctGo), slGo⟩)
    (c_Go : PySem.W.codeIn K cdGo "Cursor.go_on" = true)
    (kGo : PySem.W.keepIn K (.ref fGo) = true)
    (aRf : PySem.W.findIn K (.ref CU) "refuse" = some (some (.ref fRf)))
    (iRf : PySem.W.isFn K (.ref fRf) = true)
    (lRf : K.lookup fRf = some ⟨ocRf, odRf, .func (PySem.W.fnOf "refuse" "Cursor.refuse" (defArgs sRefuse) (defBody sRefuse) (defScope sRefuse) .none kVRf dcRf pmRf anRf cdRf ctRf), slRf⟩)
    (c_Rf : PySem.W.codeIn K cdRf "Cursor.refuse" = true)
    (kRf : PySem.W.keepIn K (.ref fRf) = true)
    (aNe : PySem.W.findIn K (.ref CU) "need_end" = some (some (.ref fNe)))
    (iNe : PySem.W.isFn K (.ref fNe) = true)
    (lNe : K.lookup fNe = some ⟨ocNe, odNe, .func (PySem.W.fnOf "need_end" "Cursor.need_end" (defArgs sNeedEnd) (defBody sNeedEnd) (defScope sNeedEnd) .none kVNe dcNe pmNe anNe cdNe ctNe), slNe⟩)
    (c_Ne : PySem.W.codeIn K cdNe "Cursor.need_end" = true)
    (kNe : PySem.W.keepIn K (.ref fNe) = true)
    (aAd : PySem.W.findIn K (.ref SU) "__add__" = some (some (.ref fAd)))
    (iAd : PySem.W.isFn K (.ref fAd) = true)
    (lAd : K.lookup fAd = some ⟨ocAd, odAd, .func (PySem.W.fnOf "__add__" "Sum.__add__" (defArgs sAdd) (defBody sAdd) (defScope sAdd) .none kVAd dcAd pmAd anAd cdAd ctAd), slAd⟩)
    (c_Ad : PySem.W.codeIn K cdAd "Sum.__add__" = true)
    (kAd : PySem.W.keepIn K (.ref fAd) = true)
    (aSb : PySem.W.findIn K (.ref SU) "__sub__" = some (some (.ref fSb)))
    (iSb : PySem.W.isFn K (.ref fSb) = true)
    (lSb : K.lookup fSb = some ⟨ocSb, odSb, .func (PySem.W.fnOf "__sub__" "Sum.__sub__" (defArgs sSub) (defBody sSub) (defScope sSub) .none kVSb dcSb pmSb anSb cdSb ctSb), slSb⟩)
    (c_Sb : PySem.W.codeIn K cdSb "Sum.__sub__" = true)
    (kSb : PySem.W.keepIn K (.ref fSb) = true)
    (aAp : PySem.W.findIn K (.ref SU) "apart" = some (some (.ref fAp)))
    (iAp : PySem.W.isFn K (.ref fAp) = true)
    (lAp : K.lookup fAp = some ⟨ocAp, odAp, .func (PySem.W.fnOf "apart" "Sum.apart" (defArgs sApart) (defBody sApart) (defScope sApart) .none kVAp dcAp pmAp anAp cdAp ctAp), slAp⟩)
    (c_Ap : PySem.W.codeIn K cdAp "Sum.apart" = true)
    (kAp : PySem.W.keepIn K (.ref fAp) = true)
    (aVi : PySem.W.findIn K (.ref SU) "value_in" = some (some (.ref fVi)))
    (iVi : PySem.W.isFn K (.ref fVi) = true)
    (lVi : K.lookup fVi = some ⟨ocVi, odVi, .func (PySem.W.fnOf "value_in" "Sum.value_in" (defArgs sValIn) (defBody sValIn) (defScope sValIn) .none kVVi dcVi pmVi anVi cdVi ctVi), slVi⟩)
    (c_Vi : PySem.W.codeIn K cdVi "Sum.value_in" = true)
    (kVi : PySem.W.keepIn K (.ref fVi) = true)
    (aEq : PySem.W.findIn K (.ref SU) "__eq__" = some (some (.ref fEq)))
    (iEq : PySem.W.isFn K (.ref fEq) = true)
    (lEq : K.lookup fEq = some ⟨ocEq, odEq, .func (PySem.W.fnOf "__eq__" "Sum.__eq__" (defArgs sEq) (defBody sEq) (defScope sEq) .none kVEq dcEq pmEq anEq cdEq ctEq), slEq⟩)
    (c_Eq : PySem.W.codeIn K cdEq "Sum.__eq__" = true)
    (kEq : PySem.W.keepIn K (.ref fEq) = true)
    (aLt : PySem.W.findIn K (.ref SU) "__lt__" = some (some (.ref fLt)))
    (iLt : PySem.W.isFn K (.ref fLt) = true)
    (lLt : K.lookup fLt = some ⟨ocLt, odLt, .func (PySem.W.fnOf "__lt__" "Sum.__lt__" (defArgs sLt) (defBody sLt) (defScope sLt) .none kVLt dcLt pmLt anLt cdLt ctLt), slLt⟩)
    (c_Lt : PySem.W.codeIn K cdLt "Sum.__lt__" = true)
    (kLt : PySem.W.keepIn K (.ref fLt) = true)
    (aLe : PySem.W.findIn K (.ref SU) "__le__" = some (some (.ref fLe)))
    (iLe : PySem.W.isFn K (.ref fLe) = true)
    (lLe : K.lookup fLe = some ⟨ocLe, odLe, .func (PySem.W.fnOf "__le__" "Sum.__le__" (defArgs sLe) (defBody sLe) (defScope sLe) .none kVLe dcLe pmLe anLe cdLe ctLe), slLe⟩)
    (c_Le : PySem.W.codeIn K cdLe "Sum.__le__" = true)
    (kLe : PySem.W.keepIn K (.ref fLe) = true)
    (aGt : PySem.W.findIn K (.ref SU) "__gt__" = some (some (.ref fGt)))
    (iGt : PySem.W.isFn K (.ref fGt) = true)
    (lGt : K.lookup fGt = some ⟨ocGt, odGt, .func (PySem.W.fnOf "__gt__" "Sum.__gt__" (defArgs sGt) (defBody sGt) (defScope sGt) .none kVGt dcGt pmGt anGt cdGt ctGt), slGt⟩)
    (c_Gt : PySem.W.codeIn K cdGt "Sum.__gt__" = true)
    (kGt : PySem.W.keepIn K (.ref fGt) = true)
    (aGe : PySem.W.findIn K (.ref SU) "__ge__" = some (some (.ref fGe)))
    (iGe : PySem.W.isFn K (.ref fGe) = true)
    (lGe : K.lookup fGe = some ⟨ocGe, odGe, .func (PySem.W.fnOf "__ge__" "Sum.__ge__" (defArgs sGe) (defBody sGe) (defScope sGe) .none kVGe dcGe pmGe anGe cdGe ctGe), slGe⟩)
    (c_Ge : PySem.W.codeIn K cdGe "Sum.__ge__" = true)
    (kGe : PySem.W.keepIn K (.ref fGe) = true)
    (aSt : PySem.W.findIn K (.ref SU) "__str__" = some (some (.ref fSt)))
    (iSt : PySem.W.isFn K (.ref fSt) = true)
    (lSt : K.lookup fSt = some ⟨ocSt, odSt, .func (PySem.W.fnOf "__str__" "Sum.__str__" (defArgs sStr) (defBody sStr) (defScope sStr) .none kVSt dcSt pmSt anSt cdSt ctSt), slSt⟩)
    (c_St : PySem.W.codeIn K cdSt "Sum.__str__" = true)
    (kSt : PySem.W.keepIn K (.ref fSt) = true)
    (aRe : PySem.W.findCls K (.ref SU) (.type "type") "read" = some (.get (.builtin "staticmethod.__get__") (.ref pRe) .none (.ref SU)))
    (rRe : PySem.W.recIn K pRe "staticmethod" = some (.ref fRe :: restRe))
    (lRe : K.lookup fRe = some ⟨ocRe, odRe, .func (PySem.W.fnOf "read" "Sum.read" (defArgs sRead) (defBody sRead) (defScope sRead) .none kVRe dcRe pmRe anRe cdRe ctRe), slRe⟩)
    (c_Re : PySem.W.codeIn K cdRe "Sum.read" = true)
    (kRe : PySem.W.keepIn K (.ref fRe) = true)
    (aSo : PySem.W.nsIn K mainGlobals "sum_of" = some (some (.ref fSo)))
    (lSo : K.lookup fSo = some ⟨ocSo, odSo, .func (PySem.W.fnOf "sum_of" "sum_of" (defArgs sSumOf) (defBody sSumOf) (defScope sSumOf) .none kVSo dcSo pmSo anSo cdSo ctSo), slSo⟩)
    (c_So : PySem.W.codeIn K cdSo "sum_of" = true)
    (kSo : PySem.W.keepIn K (.ref fSo) = true)
    (aSd : PySem.W.nsIn K mainGlobals "sum_behind" = some (some (.ref fSd)))
    (lSd : K.lookup fSd = some ⟨ocSd, odSd, .func (PySem.W.fnOf "sum_behind" "sum_behind" (defArgs sSumBehind) (defBody sSumBehind) (defScope sSumBehind) .none kVSd dcSd pmSd anSd cdSd ctSd), slSd⟩)
    (c_Sd : PySem.W.codeIn K cdSd "sum_behind" = true)
    (kSd : PySem.W.keepIn K (.ref fSd) = true)
    (aP : PySem.W.nsIn K mainGlobals "_law_pen" = some (some (.ref fP)))
    (lP : K.lookup fP = some ⟨ocP, odP, .func (PySem.W.fnOf "_law_pen" "_law_pen" (defArgs sPen) (defBody sPen) (defScope sPen) .none kVP dcP pmP anP cdP ctP), slP⟩)
    (c_P : PySem.W.codeIn K cdP "_law_pen" = true)
    (kP : PySem.W.keepIn K (.ref fP) = true)
    (aD : PySem.W.nsIn K mainGlobals "_law_draw" = some (some (.ref fD)))
    (lD : K.lookup fD = some ⟨ocD, odD, .func (PySem.W.fnOf "_law_draw" "_law_draw" (defArgs sDraw) (defBody sDraw) (defScope sDraw) .none kVD dcD pmD anD cdD ctD), slD⟩)
    (c_D : PySem.W.codeIn K cdD "_law_draw" = true)
    (kD : PySem.W.keepIn K (.ref fD) = true)
    (aG : PySem.W.nsIn K mainGlobals "_law_pick" = some (some (.ref fG)))
    (lG : K.lookup fG = some ⟨ocG, odG, .func (PySem.W.fnOf "_law_pick" "_law_pick" (defArgs sPick) (defBody sPick) (defScope sPick) .none kVG dcG pmG anG cdG ctG), slG⟩)
    (c_G : PySem.W.codeIn K cdG "_law_pick" = true)
    (kG : PySem.W.keepIn K (.ref fG) = true)
    (aN : PySem.W.nsIn K mainGlobals "_law_number" = some (some (.ref fN)))
    (lN : K.lookup fN = some ⟨ocN, odN, .func (PySem.W.fnOf "_law_number" "_law_number" (defArgs sNumber) (defBody sNumber) (defScope sNumber) .none kVN dcN pmN anN cdN ctN), slN⟩)
    (c_N : PySem.W.codeIn K cdN "_law_number" = true)
    (kN : PySem.W.keepIn K (.ref fN) = true)
    (aS2 : PySem.W.nsIn K mainGlobals "_law_shown" = some (some (.ref fS2)))
    (lS2 : K.lookup fS2 = some ⟨ocS2, odS2, .func (PySem.W.fnOf "_law_shown" "_law_shown" (defArgs sShown2) (defBody sShown2) (defScope sShown2) .none kVS2 dcS2 pmS2 anS2 cdS2 ctS2), slS2⟩)
    (c_S2 : PySem.W.codeIn K cdS2 "_law_shown" = true)
    (kS2 : PySem.W.keepIn K (.ref fS2) = true)
    (aX : PySem.W.nsIn K mainGlobals "_law_text" = some (some (.ref fX)))
    (lX : K.lookup fX = some ⟨ocX, odX, .func (PySem.W.fnOf "_law_text" "_law_text" (defArgs sText) (defBody sText) (defScope sText) .none kVX dcX pmX anX cdX ctX), slX⟩)
    (c_X : PySem.W.codeIn K cdX "_law_text" = true)
    (kX : PySem.W.keepIn K (.ref fX) = true)
    (aTo : PySem.W.nsIn K mainGlobals "_law_told" = some (some (.ref fTo)))
    (lTo : K.lookup fTo = some ⟨ocTo, odTo, .func (PySem.W.fnOf "_law_told" "_law_told" (defArgs sTold) (defBody sTold) (defScope sTold) .none kVTo dcTo pmTo anTo cdTo ctTo), slTo⟩)
    (c_To : PySem.W.codeIn K cdTo "_law_told" = true)
    (kTo : PySem.W.keepIn K (.ref fTo) = true)
    (aBe : PySem.W.nsIn K mainGlobals "_law_bent" = some (some (.ref fBe)))
    (lBe : K.lookup fBe = some ⟨ocBe, odBe, .func (PySem.W.fnOf "_law_bent" "_law_bent" (defArgs sBent) (defBody sBent) (defScope sBent) .none kVBe dcBe pmBe anBe cdBe ctBe), slBe⟩)
    (c_Be : PySem.W.codeIn K cdBe "_law_bent" = true)
    (kBe : PySem.W.keepIn K (.ref fBe) = true)
    (aO : PySem.W.nsIn K mainGlobals "_law_order_right" = some (some (.ref fO)))
    (lO : K.lookup fO = some ⟨ocO, odO, .func (PySem.W.fnOf "_law_order_right" "_law_order_right" (defArgs sOrder) (defBody sOrder) (defScope sOrder) .none kVO dcO pmO anO cdO ctO), slO⟩)
    (c_O : PySem.W.codeIn K cdO "_law_order_right" = true)
    (kO : PySem.W.keepIn K (.ref fO) = true)
    (aHd : PySem.W.nsIn K mainGlobals "_law_heard" = some (some (.ref fHd)))
    (lHd : K.lookup fHd = some ⟨ocHd, odHd, .func (PySem.W.fnOf "_law_heard" "_law_heard" (defArgs sHeard) (defBody sHeard) (defScope sHeard) .none kVHd dcHd pmHd anHd cdHd ctHd), slHd⟩)
    (c_Hd : PySem.W.codeIn K cdHd "_law_heard" = true)
    (kHd : PySem.W.keepIn K (.ref fHd) = true)
    (aVa : PySem.W.nsIn K mainGlobals "_law_values_right" = some (some (.ref fVa)))
    (lVa : K.lookup fVa = some ⟨ocVa, odVa, .func (PySem.W.fnOf "_law_values_right" "_law_values_right" (defArgs sValues) (defBody sValues) (defScope sValues) .none kVVa dcVa pmVa anVa (.ref cVa) ctVa), slVa⟩)
    (c_Va : PySem.W.codeIn K (.ref cVa) "_law_values_right" = true)
    (kVa : PySem.W.keepIn K (.ref fVa) = true)
    (aRr : PySem.W.nsIn K mainGlobals "_law_refused_right" = some (some (.ref fRr)))
    (lRr : K.lookup fRr = some ⟨ocRr, odRr, .func (PySem.W.fnOf "_law_refused_right" "_law_refused_right" (defArgs sRefused) (defBody sRefused) (defScope sRefused) .none kVRr dcRr pmRr anRr (.ref cRr) ctRr), slRr⟩)
    (c_Rr : PySem.W.codeIn K (.ref cRr) "_law_refused_right" = true)
    (kRr : PySem.W.keepIn K (.ref fRr) = true)
    (aLa : PySem.W.nsIn K mainGlobals "law" = some (some (.ref fLa)))
    (lLa : K.lookup fLa = some ⟨ocLa, odLa, .func (PySem.W.fnOf "law" "law" (defArgs sLaw) (defBody sLaw) (defScope sLaw) .none kVLa dcLa pmLa anLa (.ref cLa) ctLa), slLa⟩)
    (c_La : PySem.W.codeIn K (.ref cLa) "law" = true)
    (kLa : PySem.W.keepIn K (.ref fLa) = true)
    (aI : PySem.W.findIn K (.ref SU) "__init__" = some (some (.ref fI)))
    (iI : PySem.W.isFn K (.ref fI) = true)
    (lI : K.lookup fI = some ⟨ocI, odI, .func (PySem.W.fnOf "__init__" "Sum.__init__" (defArgs sSuI) (defBody sSuI) (defScope sSuI) (.ref tI) kVI dcI pmI anI cdI ctI), slI⟩)
    (c_I : PySem.W.codeIn K cdI "Sum.__init__" = true)
    (kI : PySem.W.keepIn K (.ref fI) = true)
    (dI : K.lookup tI = some ⟨.type "tuple", odTt, .seq #[.int 0 tkT] nTt, slTt⟩)
    (pgCU : PySem.W.plainGet K CU Str.empty = true)
    (hdCU : PySem.W.hasDictIn K CU = true)
    (poCU : PySem.W.plainOver K CU = true)
    (saCU : PySem.W.findIn K (.ref CU) "__setattr__" = some (some (.builtin "object.__setattr__")))
    (mkCU : PySem.W.makesIn K CU = true)
    (kcCU : PySem.W.keepIn K (.ref CU) = true)
    (pgSU : PySem.W.plainGet K SU Str.empty = true)
    (hdSU : PySem.W.hasDictIn K SU = true)
    (poSU : PySem.W.plainOver K SU = true)
    (saSU : PySem.W.findIn K (.ref SU) "__setattr__" = some (some (.builtin "object.__setattr__")))
    (mkSU : PySem.W.makesIn K SU = true)
    (kcSU : PySem.W.keepIn K (.ref SU) = true)
    (iCi : PySem.W.isFn K (.ref fCi) = true)
    (nCU_words : PySem.W.findIn K (.ref CU) "words" = some none)
    (nCU_at : PySem.W.findIn K (.ref CU) "at" = some none)
    (nSU_source : PySem.W.findIn K (.ref SU) "source" = some none)
    (nSU_number : PySem.W.findIn K (.ref SU) "number" = some none)
    (nSU_rank : PySem.W.findIn K (.ref SU) "rank" = some none)
    (nBS_part : PySem.W.findIn K (.ref BS) "part" = some none)
    (nBT_line : PySem.W.findIn K (.ref BT) "line" = some none)
    (nBT_word : PySem.W.findIn K (.ref BT) "word" = some none)
    (xBS : K.lookup BS = some (excClassObj nmBS qBS BS NBS bsBS bmBS true snBS subBS abBS colBS ddBS k0BS k1BS k2BS k3BS k5BS "ValueError.__new__"))
    (vBS : PySem.HandSPX.refsVE bmBS = true)
    (saBS : PySem.W.findIn K (.ref BS) "__setattr__" = some (some (.builtin "object.__setattr__")))
    (exBS : PySem.W.subIn K (.ref BS) (.type "BaseException") = some true)
    (tyBS : PySem.W.typeIn K (.ref BS) = some (.type "type"))
    (kcBS : PySem.W.keepIn K (.ref BS) = true)
    (gaBS : PySem.W.findIn K (.ref BS) "__getattribute__" = some (some (.builtin "BaseException.__getattribute__")))
    (ggBS : PySem.W.findIn K (.ref BS) "__getattr__" = some none)
    (hdBS : PySem.W.hasDictIn K BS = true)
    (clBS : (PySem.W.clsIn K BS).isSome = true)
    (caBS : PySem.W.findIn K (.ref BS) "__class__" = some (some (.builtin "object.__class__")))
    (mrBS : PySem.W.mroIn K BS (.type "object") = some true)
    (stBS : PySem.W.subIn K (.ref BS) (.ref TE0) = some true)
    (xBT : K.lookup BT = some (excClassObj nmBT qBT BT NBT bsBT bmBT true snBT subBT abBT colBT ddBT k0BT k1BT k2BT k3BT k5BT "ValueError.__new__"))
    (vBT : PySem.HandSPX.refsVE bmBT = true)
    (saBT : PySem.W.findIn K (.ref BT) "__setattr__" = some (some (.builtin "object.__setattr__")))
    (exBT : PySem.W.subIn K (.ref BT) (.type "BaseException") = some true)
    (tyBT : PySem.W.typeIn K (.ref BT) = some (.type "type"))
    (kcBT : PySem.W.keepIn K (.ref BT) = true)
    (gaBT : PySem.W.findIn K (.ref BT) "__getattribute__" = some (some (.builtin "BaseException.__getattribute__")))
    (ggBT : PySem.W.findIn K (.ref BT) "__getattr__" = some none)
    (hdBT : PySem.W.hasDictIn K BT = true)
    (clBT : (PySem.W.clsIn K BT).isSome = true)
    (caBT : PySem.W.findIn K (.ref BT) "__class__" = some (some (.builtin "object.__class__")))
    (mrBT : PySem.W.mroIn K BT (.type "object") = some true)
    (stBT : PySem.W.subIn K (.ref BT) (.ref TE0) = some true)
    (tBs : PySem.W.typeIn K (.ref fBs) = some (.type "function"))
    (tBt : PySem.W.typeIn K (.ref fBt) = some (.type "function"))
    (exTE : PySem.W.subIn K (.ref TE0) (.type "BaseException") = some true)
    (hdTE : PySem.W.hasDictIn K TE0 = true)
    (tyTE : PySem.W.typeIn K (.ref TE0) = some (.type "type"))
    (rdTE : PySem.W.readsIn K TE0 (.type "type") = true)
    (gsTE : PySem.W.specialIn K (.ref TE0) "__getattribute__" = some (some (.builtin "type.__getattribute__")))
    (inTE : PySem.W.findCls K (.ref TE0) (.type "type") "__init__" = some (.val (.builtin "ValueError.__init__")))
    (spO : PySem.W.specialIn K (.builtin "object.__class__") "__get__" = some (some (.builtin "getset_descriptor.__get__")))
    (tkO : PySem.W.takesIn K (.builtin "object.__class__") = some true)
    (kSS : PySem.W.kitOne K (.ref BS) (.ref BS) = some true)
    (kTS : PySem.W.kitOne K (.ref BT) (.ref BS) = some false)
    (kTT : PySem.W.kitOne K (.ref BT) (.ref BT) = some true)
    (caSU : PySem.W.findIn K (.ref SU) "__class__" = some (some (.builtin "object.__class__")))
    (mrSU : PySem.W.mroIn K SU (.type "object") = some true)
    (mtSU : PySem.W.mroIn K SU (.type "tuple") = some false)
    (ki : PySem.W.kitOne K (.ref SU) (.type "int") = some false)
    (kb : PySem.W.kitOne K (.ref SU) (.type "bool") = some false)
    (ks : PySem.W.kitOne K (.ref SU) (.type "str") = some false)
    (kd : PySem.W.kitOne K (.ref SU) (.type "dict") = some false)
    (kS : PySem.W.kitOne K (.ref SU) (.ref SU) = some true)
    (s0 : PySem.W.kitOne K (.type "NoneType") (.ref SU) = some false)
    (u0 : PySem.W.subIn K (.type "NoneType") (.ref SU) = some false)
    (s1 : PySem.W.kitOne K (.type "bool") (.ref SU) = some false)
    (u1 : PySem.W.subIn K (.type "bool") (.ref SU) = some false)
    (s2 : PySem.W.kitOne K (.type "int") (.ref SU) = some false)
    (u2 : PySem.W.subIn K (.type "int") (.ref SU) = some false)
    (s3 : PySem.W.kitOne K (.type "str") (.ref SU) = some false)
    (u3 : PySem.W.subIn K (.type "str") (.ref SU) = some false)
    (s4 : PySem.W.kitOne K (.type "list") (.ref SU) = some false)
    (u4 : PySem.W.subIn K (.type "list") (.ref SU) = some false)
    (s5 : PySem.W.kitOne K (.type "tuple") (.ref SU) = some false)
    (u5 : PySem.W.subIn K (.type "tuple") (.ref SU) = some false)
    (s6 : PySem.W.kitOne K (.type "dict") (.ref SU) = some false)
    (u6 : PySem.W.subIn K (.type "dict") (.ref SU) = some false)
    (rdSU : PySem.W.readsIn K SU (.type "type") = true)
    (gsSU : PySem.W.specialIn K (.ref SU) "__getattribute__" = some (some (.builtin "type.__getattribute__")))
    (nmSU : PySem.W.findCls K (.ref SU) (.type "type") "NAMES" = some (.val (.ref nA)))
    (lkN : K.lookup nA = some ⟨.type "tuple", none, .seq #[.str "p" tk0, .str "z0" tk1, .str "z1" tk2, .str "z2" tk3, .str "z3" tk4, .str "o" tk5, .str "s" tk6] nNm, slNm⟩)
    (sfSU : PySem.W.selfFirst K SU = true)
    (raSU : PySem.W.findIn K (.ref SU) "__radd__" = some none)
    (rsSU : PySem.W.findIn K (.ref SU) "__rsub__" = some none)
    (neSU : PySem.W.findIn K (.ref SU) "__ne__" = some (some (.builtin "object.__ne__")))
    (z_isinstance : PySem.W.nsIn K mainGlobals "isinstance" = some none)
    (z_int : PySem.W.nsIn K mainGlobals "int" = some none)
    (z_bool : PySem.W.nsIn K mainGlobals "bool" = some none)
    (z_str : PySem.W.nsIn K mainGlobals "str" = some none)
    (z_len : PySem.W.nsIn K mainGlobals "len" = some none)
    (z_all : PySem.W.nsIn K mainGlobals "all" = some none)
    (z_list : PySem.W.nsIn K mainGlobals "list" = some none)
    (z_dict : PySem.W.nsIn K mainGlobals "dict" = some none)
    (z_tuple : PySem.W.nsIn K mainGlobals "tuple" = some none)
    (z_abs : PySem.W.nsIn K mainGlobals "abs" = some none)
    (z_zip : PySem.W.nsIn K mainGlobals "zip" = some none)
    (z_range : PySem.W.nsIn K mainGlobals "range" = some none)
    (z_NotImplemented : PySem.W.nsIn K mainGlobals "NotImplemented" = some none)
    (cS : PySem.W.nsIn K mainGlobals "SHOWN" = some (some (.int 1000000000000 tS)))
    (cD : PySem.W.nsIn K mainGlobals "DIGITS" = some (some (.str DIG tD)))
    (cM : PySem.W.nsIn K mainGlobals "MOST_DIGITS" = some (some (.int 60 tM)))
    (cPA : PySem.W.nsIn K mainGlobals "PART" = some (some (.int 1000000000000000000 tPA)))
    (cPD : PySem.W.nsIn K mainGlobals "PART_DIGITS" = some (some (.int 18 tPD)))
    (hT : ∀ P ∈ ts, h.get? P = some (PySem.W.tabObj #[])) (pV : PVa ∈ ts) (pR : PRr ∈ ts) (pL : PLa ∈ ts) (kV : K.lookup PVa = none) (kR : K.lookup PRr = none) (kL : K.lookup PLa = none) (hV : PySem.W.CodeHd h cVa PVa) (hR : PySem.W.CodeHd h cRr PRr) (hL : PySem.W.CodeHd h cLa PLa)
    (nVR : PVa ≠ PRr) (nVL : PVa ≠ PLa) (nRL : PRr ≠ PLa) : LamX.LawAtS l w K L2.CX0 14 63 "_law_script" mg fa h := by
  obtain ⟨fd, hb, hF⟩ := all_mk (P := l.prog) (w := w) (TT := [(PVa, "_law_values_right.<locals>.<lambda>"), (PRr, "_law_refused_right.<locals>.<lambda>"), (PLa, "law.<locals>.<lambda>")]) (PVa := PVa) (PRr := PRr) (PLa := PLa) X G hfa aTE0 aBS aBT aCU aSU aIs lIs c_Is kIs aSh lSh c_Sh kSh aWh lWh c_Wh kWh aDg lDg c_Dg kDg aSg lSg c_Sg kSg aBs lBs c_Bs kBs aBt lBt c_Bt kBt aCi lCi c_Ci kCi aAh iAh lAh c_Ah kAh aGo iGo lGo c_Go kGo aRf iRf lRf c_Rf kRf aNe iNe lNe c_Ne kNe aAd iAd lAd c_Ad kAd aSb iSb lSb c_Sb kSb aAp iAp lAp c_Ap kAp aVi iVi lVi c_Vi kVi aEq iEq lEq c_Eq kEq aLt iLt lLt c_Lt kLt aLe iLe lLe c_Le kLe aGt iGt lGt c_Gt kGt aGe iGe lGe c_Ge kGe aSt iSt lSt c_St kSt aRe rRe lRe c_Re kRe aSo lSo c_So kSo aSd lSd c_Sd kSd aP lP c_P kP aD lD c_D kD aG lG c_G kG aN lN c_N kN aS2 lS2 c_S2 kS2 aX lX c_X kX aTo lTo c_To kTo aBe lBe c_Be kBe aO lO c_O kO aHd lHd c_Hd kHd aVa lVa c_Va kVa aRr lRr c_Rr kRr aLa lLa c_La kLa aI iI lI c_I kI dI pgCU hdCU poCU saCU mkCU kcCU pgSU hdSU poSU saSU mkSU kcSU iCi nCU_words nCU_at nSU_source nSU_number nSU_rank nBS_part nBT_line nBT_word xBS vBS saBS exBS tyBS kcBS gaBS ggBS hdBS clBS caBS mrBS stBS xBT vBT saBT exBT tyBT kcBT gaBT ggBT hdBT clBT caBT mrBT stBT tBs tBt exTE hdTE tyTE rdTE gsTE inTE spO tkO kSS kTS kTT caSU mrSU mtSU ki kb ks kd kS s0 u0 s1 u1 s2 u2 s3 u3 s4 u4 s5 u5 s6 u6 rdSU gsSU nmSU lkN sfSU raSU rsSU neSU z_isinstance z_int z_bool z_str z_len z_all z_list z_dict z_tuple z_abs z_zip z_range z_NotImplemented cS cD cM cPA cPD
  refine ⟨fd, [(cVa, PVa), (cRr, PRr), (cLa, PLa)], spLaw K [(PVa, "_law_values_right.<locals>.<lambda>"), (PRr, "_law_refused_right.<locals>.<lambda>"), (PLa, "law.<locals>.<lambda>")], ?_, ?_, ?_, hb, fun H a ns hl _ ht hs => ⟨a, ns, rfl, hs, hl, ?_, fun _ => rfl⟩, fun base b1 b2 b3 => hF base b1 b2 ?_ ?_ ?_⟩
  · simp only [List.forall_mem_cons, List.not_mem_nil, false_implies, implies_true, and_true]
    exact ⟨hT _ pV, hT _ pR, hT _ pL⟩
  · simp only [List.forall_mem_cons, List.not_mem_nil, false_implies, implies_true, and_true]
    exact ⟨kV, kR, kL⟩
  · simp only [List.forall_mem_cons, List.not_mem_nil, false_implies, implies_true, and_true]
    exact ⟨hV, hR, hL⟩
  · intro p hp
    simp only [List.mem_cons, List.not_mem_nil, or_false] at hp
    rcases hp with rfl | rfl | rfl
    · exact LamX.TabS.nil (ht (cVa, PVa) (by simp))
    · exact LamX.TabS.nil (ht (cRr, PRr) (by simp))
    · exact LamX.TabS.nil (ht (cLa, PLa) (by simp))
  · refine ⟨b3 (cVa, PVa) (by simp), by simp, fun p hp e => ?_⟩
    simp only [List.mem_cons, List.not_mem_nil, or_false] at hp
    rcases hp with rfl | rfl | rfl
    · rfl
    · exact absurd e.symm nVR
    · exact absurd e.symm nVL
  · refine ⟨b3 (cRr, PRr) (by simp), by simp, fun p hp e => ?_⟩
    simp only [List.mem_cons, List.not_mem_nil, or_false] at hp
    rcases hp with rfl | rfl | rfl
    · exact absurd e nVR
    · rfl
    · exact absurd e.symm nRL
  · refine ⟨b3 (cLa, PLa) (by simp), by simp, fun p hp e => ?_⟩
    simp only [List.mem_cons, List.not_mem_nil, or_false] at hp
    rcases hp with rfl | rfl | rfl
    · exact absurd e nVL
    · exact absurd e nRL
    · rfl
end K08
set_option Elab.async false
open PySem PySem.W PyProof.Rows
set_option maxRecDepth 100000 in
set_option maxHeartbeats 0 in
theorem PySem.Challenge.cw_takenup_k08_sums_and_their_order_holds : PySem.Challenge.rw_takenup_k08_sums_and_their_order.Holds := by
  w_on; o_law; k_head; (case hw => w_witness2)
  k_fill
  refine LamX.walk_ofTs (n := 63) (k := 14) (x := "_law_script") (CX := fun _ => L2.CX0) rfl (by decide) rfl ⟨rfl, by decide, by decide⟩ (fun w h Y => PySem.W.km_in_of Y) ?F (fun _ _ _ _ _ z => z)
  case F =>
    intro w mg fa h Y KX G hmg
    refine' K08.law_at (PVa := 376) (PRr := 381) (PLa := 386) KX G hmg ?g_aTE0 ?g_aBS ?g_aBT ?g_aCU ?g_aSU ?g_aIs ?g_lIs ?g_c_Is ?g_kIs ?g_aSh ?g_lSh ?g_c_Sh ?g_kSh ?g_aWh ?g_lWh ?g_c_Wh ?g_kWh ?g_aDg ?g_lDg ?g_c_Dg ?g_kDg ?g_aSg ?g_lSg ?g_c_Sg ?g_kSg ?g_aBs ?g_lBs ?g_c_Bs ?g_kBs ?g_aBt ?g_lBt ?g_c_Bt ?g_kBt ?g_aCi ?g_lCi ?g_c_Ci ?g_kCi ?g_aAh ?g_iAh ?g_lAh ?g_c_Ah ?g_kAh ?g_aGo ?g_iGo ?g_lGo ?g_c_Go ?g_kGo ?g_aRf ?g_iRf ?g_lRf ?g_c_Rf ?g_kRf ?g_aNe ?g_iNe ?g_lNe ?g_c_Ne ?g_kNe ?g_aAd ?g_iAd ?g_lAd ?g_c_Ad ?g_kAd ?g_aSb ?g_iSb ?g_lSb ?g_c_Sb ?g_kSb ?g_aAp ?g_iAp ?g_lAp ?g_c_Ap ?g_kAp ?g_aVi ?g_iVi ?g_lVi ?g_c_Vi ?g_kVi ?g_aEq ?g_iEq ?g_lEq ?g_c_Eq ?g_kEq ?g_aLt ?g_iLt ?g_lLt ?g_c_Lt ?g_kLt ?g_aLe ?g_iLe ?g_lLe ?g_c_Le ?g_kLe ?g_aGt ?g_iGt ?g_lGt ?g_c_Gt ?g_kGt ?g_aGe ?g_iGe ?g_lGe ?g_c_Ge ?g_kGe ?g_aSt ?g_iSt ?g_lSt ?g_c_St ?g_kSt ?g_aRe ?g_rRe ?g_lRe ?g_c_Re ?g_kRe ?g_aSo ?g_lSo ?g_c_So ?g_kSo ?g_aSd ?g_lSd ?g_c_Sd ?g_kSd ?g_aP ?g_lP ?g_c_P ?g_kP ?g_aD ?g_lD ?g_c_D ?g_kD ?g_aG ?g_lG ?g_c_G ?g_kG ?g_aN ?g_lN ?g_c_N ?g_kN ?g_aS2 ?g_lS2 ?g_c_S2 ?g_kS2 ?g_aX ?g_lX ?g_c_X ?g_kX ?g_aTo ?g_lTo ?g_c_To ?g_kTo ?g_aBe ?g_lBe ?g_c_Be ?g_kBe ?g_aO ?g_lO ?g_c_O ?g_kO ?g_aHd ?g_lHd ?g_c_Hd ?g_kHd ?g_aVa ?g_lVa ?g_c_Va ?g_kVa ?g_aRr ?g_lRr ?g_c_Rr ?g_kRr ?g_aLa ?g_lLa ?g_c_La ?g_kLa ?g_aI ?g_iI ?g_lI ?g_c_I ?g_kI ?g_dI ?g_pgCU ?g_hdCU ?g_poCU ?g_saCU ?g_mkCU ?g_kcCU ?g_pgSU ?g_hdSU ?g_poSU ?g_saSU ?g_mkSU ?g_kcSU ?g_iCi ?g_nCU_words ?g_nCU_at ?g_nSU_source ?g_nSU_number ?g_nSU_rank ?g_nBS_part ?g_nBT_line ?g_nBT_word ?g_xBS ?g_vBS ?g_saBS ?g_exBS ?g_tyBS ?g_kcBS ?g_gaBS ?g_ggBS ?g_hdBS ?g_clBS ?g_caBS ?g_mrBS ?g_stBS ?g_xBT ?g_vBT ?g_saBT ?g_exBT ?g_tyBT ?g_kcBT ?g_gaBT ?g_ggBT ?g_hdBT ?g_clBT ?g_caBT ?g_mrBT ?g_stBT ?g_tBs ?g_tBt ?g_exTE ?g_hdTE ?g_tyTE ?g_rdTE ?g_gsTE ?g_inTE ?g_spO ?g_tkO ?g_kSS ?g_kTS ?g_kTT ?g_caSU ?g_mrSU ?g_mtSU ?g_ki ?g_kb ?g_ks ?g_kd ?g_kS ?g_s0 ?g_u0 ?g_s1 ?g_u1 ?g_s2 ?g_u2 ?g_s3 ?g_u3 ?g_s4 ?g_u4 ?g_s5 ?g_u5 ?g_s6 ?g_u6 ?g_rdSU ?g_gsSU ?g_nmSU ?g_lkN ?g_sfSU ?g_raSU ?g_rsSU ?g_neSU ?g_z_isinstance ?g_z_int ?g_z_bool ?g_z_str ?g_z_len ?g_z_all ?g_z_list ?g_z_dict ?g_z_tuple ?g_z_abs ?g_z_zip ?g_z_range ?g_z_NotImplemented ?g_cS ?g_cD ?g_cM ?g_cPA ?g_cPD (PySem.W.km_tabs_of Y) (by simp) (by simp) (by simp) ?kV ?kR ?kL ?hV ?hR ?hL (by decide) (by decide) (by decide)
    case g_aTE0 => first | k_is | kernel_rfl | rfl
    case g_aBS => first | k_is | kernel_rfl | rfl
    case g_aBT => first | k_is | kernel_rfl | rfl
    case g_aCU => first | k_is | kernel_rfl | rfl
    case g_aSU => first | k_is | kernel_rfl | rfl
    case g_aIs => first | k_is | kernel_rfl | rfl
    case g_lIs => first | k_is | kernel_rfl | rfl
    case g_c_Is => first | k_is | kernel_rfl | rfl
    case g_kIs => first | k_is | kernel_rfl | rfl
    case g_aSh => first | k_is | kernel_rfl | rfl
    case g_lSh => first | k_is | kernel_rfl | rfl
    case g_c_Sh => first | k_is | kernel_rfl | rfl
    case g_kSh => first | k_is | kernel_rfl | rfl
    case g_aWh => first | k_is | kernel_rfl | rfl
    case g_lWh => first | k_is | kernel_rfl | rfl
    case g_c_Wh => first | k_is | kernel_rfl | rfl
    case g_kWh => first | k_is | kernel_rfl | rfl
    case g_aDg => first | k_is | kernel_rfl | rfl
    case g_lDg => first | k_is | kernel_rfl | rfl
    case g_c_Dg => first | k_is | kernel_rfl | rfl
    case g_kDg => first | k_is | kernel_rfl | rfl
    case g_aSg => first | k_is | kernel_rfl | rfl
    case g_lSg => first | k_is | kernel_rfl | rfl
    case g_c_Sg => first | k_is | kernel_rfl | rfl
    case g_kSg => first | k_is | kernel_rfl | rfl
    case g_aBs => first | k_is | kernel_rfl | rfl
    case g_lBs => first | k_is | kernel_rfl | rfl
    case g_c_Bs => first | k_is | kernel_rfl | rfl
    case g_kBs => first | k_is | kernel_rfl | rfl
    case g_aBt => first | k_is | kernel_rfl | rfl
    case g_lBt => first | k_is | kernel_rfl | rfl
    case g_c_Bt => first | k_is | kernel_rfl | rfl
    case g_kBt => first | k_is | kernel_rfl | rfl
    case g_aCi => first | k_is | kernel_rfl | rfl
    case g_lCi => first | k_is | kernel_rfl | rfl
    case g_c_Ci => first | k_is | kernel_rfl | rfl
    case g_kCi => first | k_is | kernel_rfl | rfl
    case g_aAh => first | k_is | kernel_rfl | rfl
    case g_iAh => first | k_is | kernel_rfl | rfl
    case g_lAh => first | k_is | kernel_rfl | rfl
    case g_c_Ah => first | k_is | kernel_rfl | rfl
    case g_kAh => first | k_is | kernel_rfl | rfl
    case g_aGo => first | k_is | kernel_rfl | rfl
    case g_iGo => first | k_is | kernel_rfl | rfl
    case g_lGo => first | k_is | kernel_rfl | rfl
    case g_c_Go => first | k_is | kernel_rfl | rfl
    case g_kGo => first | k_is | kernel_rfl | rfl
    case g_aRf => first | k_is | kernel_rfl | rfl
    case g_iRf => first | k_is | kernel_rfl | rfl
    case g_lRf => first | k_is | kernel_rfl | rfl
    case g_c_Rf => first | k_is | kernel_rfl | rfl
    case g_kRf => first | k_is | kernel_rfl | rfl
    case g_aNe => first | k_is | kernel_rfl | rfl
    case g_iNe => first | k_is | kernel_rfl | rfl
    case g_lNe => first | k_is | kernel_rfl | rfl
    case g_c_Ne => first | k_is | kernel_rfl | rfl
    case g_kNe => first | k_is | kernel_rfl | rfl
    case g_aAd => first | k_is | kernel_rfl | rfl
    case g_iAd => first | k_is | kernel_rfl | rfl
    case g_lAd => first | k_is | kernel_rfl | rfl
    case g_c_Ad => first | k_is | kernel_rfl | rfl
    case g_kAd => first | k_is | kernel_rfl | rfl
    case g_aSb => first | k_is | kernel_rfl | rfl
    case g_iSb => first | k_is | kernel_rfl | rfl
    case g_lSb => first | k_is | kernel_rfl | rfl
    case g_c_Sb => first | k_is | kernel_rfl | rfl
    case g_kSb => first | k_is | kernel_rfl | rfl
    case g_aAp => first | k_is | kernel_rfl | rfl
    case g_iAp => first | k_is | kernel_rfl | rfl
    case g_lAp => first | k_is | kernel_rfl | rfl
    case g_c_Ap => first | k_is | kernel_rfl | rfl
    case g_kAp => first | k_is | kernel_rfl | rfl
    case g_aVi => first | k_is | kernel_rfl | rfl
    case g_iVi => first | k_is | kernel_rfl | rfl
    case g_lVi => first | k_is | kernel_rfl | rfl
    case g_c_Vi => first | k_is | kernel_rfl | rfl
    case g_kVi => first | k_is | kernel_rfl | rfl
    case g_aEq => first | k_is | kernel_rfl | rfl
    case g_iEq => first | k_is | kernel_rfl | rfl
    case g_lEq => first | k_is | kernel_rfl | rfl
    case g_c_Eq => first | k_is | kernel_rfl | rfl
    case g_kEq => first | k_is | kernel_rfl | rfl
    case g_aLt => first | k_is | kernel_rfl | rfl
    case g_iLt => first | k_is | kernel_rfl | rfl
    case g_lLt => first | k_is | kernel_rfl | rfl
    case g_c_Lt => first | k_is | kernel_rfl | rfl
    case g_kLt => first | k_is | kernel_rfl | rfl
    case g_aLe => first | k_is | kernel_rfl | rfl
    case g_iLe => first | k_is | kernel_rfl | rfl
    case g_lLe => first | k_is | kernel_rfl | rfl
    case g_c_Le => first | k_is | kernel_rfl | rfl
    case g_kLe => first | k_is | kernel_rfl | rfl
    case g_aGt => first | k_is | kernel_rfl | rfl
    case g_iGt => first | k_is | kernel_rfl | rfl
    case g_lGt => first | k_is | kernel_rfl | rfl
    case g_c_Gt => first | k_is | kernel_rfl | rfl
    case g_kGt => first | k_is | kernel_rfl | rfl
    case g_aGe => first | k_is | kernel_rfl | rfl
    case g_iGe => first | k_is | kernel_rfl | rfl
    case g_lGe => first | k_is | kernel_rfl | rfl
    case g_c_Ge => first | k_is | kernel_rfl | rfl
    case g_kGe => first | k_is | kernel_rfl | rfl
    case g_aSt => first | k_is | kernel_rfl | rfl
    case g_iSt => first | k_is | kernel_rfl | rfl
    case g_lSt => first | k_is | kernel_rfl | rfl
    case g_c_St => first | k_is | kernel_rfl | rfl
    case g_kSt => first | k_is | kernel_rfl | rfl
    case g_aRe => first | k_is | kernel_rfl | rfl
    case g_rRe => first | k_is | kernel_rfl | rfl
    case g_lRe => first | k_is | kernel_rfl | rfl
    case g_c_Re => first | k_is | kernel_rfl | rfl
    case g_kRe => first | k_is | kernel_rfl | rfl
    case g_aSo => first | k_is | kernel_rfl | rfl
    case g_lSo => first | k_is | kernel_rfl | rfl
    case g_c_So => first | k_is | kernel_rfl | rfl
    case g_kSo => first | k_is | kernel_rfl | rfl
    case g_aSd => first | k_is | kernel_rfl | rfl
    case g_lSd => first | k_is | kernel_rfl | rfl
    case g_c_Sd => first | k_is | kernel_rfl | rfl
    case g_kSd => first | k_is | kernel_rfl | rfl
    case g_aP => first | k_is | kernel_rfl | rfl
    case g_lP => first | k_is | kernel_rfl | rfl
    case g_c_P => first | k_is | kernel_rfl | rfl
    case g_kP => first | k_is | kernel_rfl | rfl
    case g_aD => first | k_is | kernel_rfl | rfl
    case g_lD => first | k_is | kernel_rfl | rfl
    case g_c_D => first | k_is | kernel_rfl | rfl
    case g_kD => first | k_is | kernel_rfl | rfl
    case g_aG => first | k_is | kernel_rfl | rfl
    case g_lG => first | k_is | kernel_rfl | rfl
    case g_c_G => first | k_is | kernel_rfl | rfl
    case g_kG => first | k_is | kernel_rfl | rfl
    case g_aN => first | k_is | kernel_rfl | rfl
    case g_lN => first | k_is | kernel_rfl | rfl
    case g_c_N => first | k_is | kernel_rfl | rfl
    case g_kN => first | k_is | kernel_rfl | rfl
    case g_aS2 => first | k_is | kernel_rfl | rfl
    case g_lS2 => first | k_is | kernel_rfl | rfl
    case g_c_S2 => first | k_is | kernel_rfl | rfl
    case g_kS2 => first | k_is | kernel_rfl | rfl
    case g_aX => first | k_is | kernel_rfl | rfl
    case g_lX => first | k_is | kernel_rfl | rfl
    case g_c_X => first | k_is | kernel_rfl | rfl
    case g_kX => first | k_is | kernel_rfl | rfl
    case g_aTo => first | k_is | kernel_rfl | rfl
    case g_lTo => first | k_is | kernel_rfl | rfl
    case g_c_To => first | k_is | kernel_rfl | rfl
    case g_kTo => first | k_is | kernel_rfl | rfl
    case g_aBe => first | k_is | kernel_rfl | rfl
    case g_lBe => first | k_is | kernel_rfl | rfl
    case g_c_Be => first | k_is | kernel_rfl | rfl
    case g_kBe => first | k_is | kernel_rfl | rfl
    case g_aO => first | k_is | kernel_rfl | rfl
    case g_lO => first | k_is | kernel_rfl | rfl
    case g_c_O => first | k_is | kernel_rfl | rfl
    case g_kO => first | k_is | kernel_rfl | rfl
    case g_aHd => first | k_is | kernel_rfl | rfl
    case g_lHd => first | k_is | kernel_rfl | rfl
    case g_c_Hd => first | k_is | kernel_rfl | rfl
    case g_kHd => first | k_is | kernel_rfl | rfl
    case g_aVa => first | k_is | kernel_rfl | rfl
    case g_lVa => first | k_is | kernel_rfl | rfl
    case g_c_Va => first | k_is | kernel_rfl | rfl
    case g_kVa => first | k_is | kernel_rfl | rfl
    case g_aRr => first | k_is | kernel_rfl | rfl
    case g_lRr => first | k_is | kernel_rfl | rfl
    case g_c_Rr => first | k_is | kernel_rfl | rfl
    case g_kRr => first | k_is | kernel_rfl | rfl
    case g_aLa => first | k_is | kernel_rfl | rfl
    case g_lLa => first | k_is | kernel_rfl | rfl
    case g_c_La => first | k_is | kernel_rfl | rfl
    case g_kLa => first | k_is | kernel_rfl | rfl
    case g_aI => first | k_is | kernel_rfl | rfl
    case g_iI => first | k_is | kernel_rfl | rfl
    case g_lI => first | k_is | kernel_rfl | rfl
    case g_c_I => first | k_is | kernel_rfl | rfl
    case g_kI => first | k_is | kernel_rfl | rfl
    case g_dI => first | k_is | kernel_rfl | rfl
    case g_pgCU => first | k_is | kernel_rfl | rfl
    case g_hdCU => first | k_is | kernel_rfl | rfl
    case g_poCU => first | k_is | kernel_rfl | rfl
    case g_saCU => first | k_is | kernel_rfl | rfl
    case g_mkCU => first | k_is | kernel_rfl | rfl
    case g_kcCU => first | k_is | kernel_rfl | rfl
    case g_pgSU => first | k_is | kernel_rfl | rfl
    case g_hdSU => first | k_is | kernel_rfl | rfl
    case g_poSU => first | k_is | kernel_rfl | rfl
    case g_saSU => first | k_is | kernel_rfl | rfl
    case g_mkSU => first | k_is | kernel_rfl | rfl
    case g_kcSU => first | k_is | kernel_rfl | rfl
    case g_iCi => first | k_is | kernel_rfl | rfl
    case g_nCU_words => first | k_is | kernel_rfl | rfl
    case g_nCU_at => first | k_is | kernel_rfl | rfl
    case g_nSU_source => first | k_is | kernel_rfl | rfl
    case g_nSU_number => first | k_is | kernel_rfl | rfl
    case g_nSU_rank => first | k_is | kernel_rfl | rfl
    case g_nBS_part => first | k_is | kernel_rfl | rfl
    case g_nBT_line => first | k_is | kernel_rfl | rfl
    case g_nBT_word => first | k_is | kernel_rfl | rfl
    case g_xBS => first | k_is | kernel_rfl | rfl
    case g_vBS => first | k_is | kernel_rfl | rfl
    case g_saBS => first | k_is | kernel_rfl | rfl
    case g_exBS => first | k_is | kernel_rfl | rfl
    case g_tyBS => first | k_is | kernel_rfl | rfl
    case g_kcBS => first | k_is | kernel_rfl | rfl
    case g_gaBS => first | k_is | kernel_rfl | rfl
    case g_ggBS => first | k_is | kernel_rfl | rfl
    case g_hdBS => first | k_is | kernel_rfl | rfl
    case g_clBS => first | k_is | kernel_rfl | rfl
    case g_caBS => first | k_is | kernel_rfl | rfl
    case g_mrBS => first | k_is | kernel_rfl | rfl
    case g_stBS => first | k_is | kernel_rfl | rfl
    case g_xBT => first | k_is | kernel_rfl | rfl
    case g_vBT => first | k_is | kernel_rfl | rfl
    case g_saBT => first | k_is | kernel_rfl | rfl
    case g_exBT => first | k_is | kernel_rfl | rfl
    case g_tyBT => first | k_is | kernel_rfl | rfl
    case g_kcBT => first | k_is | kernel_rfl | rfl
    case g_gaBT => first | k_is | kernel_rfl | rfl
    case g_ggBT => first | k_is | kernel_rfl | rfl
    case g_hdBT => first | k_is | kernel_rfl | rfl
    case g_clBT => first | k_is | kernel_rfl | rfl
    case g_caBT => first | k_is | kernel_rfl | rfl
    case g_mrBT => first | k_is | kernel_rfl | rfl
    case g_stBT => first | k_is | kernel_rfl | rfl
    case g_tBs => first | k_is | kernel_rfl | rfl
    case g_tBt => first | k_is | kernel_rfl | rfl
    case g_exTE => first | k_is | kernel_rfl | rfl
    case g_hdTE => first | k_is | kernel_rfl | rfl
    case g_tyTE => first | k_is | kernel_rfl | rfl
    case g_rdTE => first | k_is | kernel_rfl | rfl
    case g_gsTE => first | k_is | kernel_rfl | rfl
    case g_inTE => first | k_is | kernel_rfl | rfl
    case g_spO => first | k_is | kernel_rfl | rfl
    case g_tkO => first | k_is | kernel_rfl | rfl
    case g_kSS => first | k_is | kernel_rfl | rfl
    case g_kTS => first | k_is | kernel_rfl | rfl
    case g_kTT => first | k_is | kernel_rfl | rfl
    case g_caSU => first | k_is | kernel_rfl | rfl
    case g_mrSU => first | k_is | kernel_rfl | rfl
    case g_mtSU => first | k_is | kernel_rfl | rfl
    case g_ki => first | k_is | kernel_rfl | rfl
    case g_kb => first | k_is | kernel_rfl | rfl
    case g_ks => first | k_is | kernel_rfl | rfl
    case g_kd => first | k_is | kernel_rfl | rfl
    case g_kS => first | k_is | kernel_rfl | rfl
    case g_s0 => first | k_is | kernel_rfl | rfl
    case g_u0 => first | k_is | kernel_rfl | rfl
    case g_s1 => first | k_is | kernel_rfl | rfl
    case g_u1 => first | k_is | kernel_rfl | rfl
    case g_s2 => first | k_is | kernel_rfl | rfl
    case g_u2 => first | k_is | kernel_rfl | rfl
    case g_s3 => first | k_is | kernel_rfl | rfl
    case g_u3 => first | k_is | kernel_rfl | rfl
    case g_s4 => first | k_is | kernel_rfl | rfl
    case g_u4 => first | k_is | kernel_rfl | rfl
    case g_s5 => first | k_is | kernel_rfl | rfl
    case g_u5 => first | k_is | kernel_rfl | rfl
    case g_s6 => first | k_is | kernel_rfl | rfl
    case g_u6 => first | k_is | kernel_rfl | rfl
    case g_rdSU => first | k_is | kernel_rfl | rfl
    case g_gsSU => first | k_is | kernel_rfl | rfl
    case g_nmSU => first | k_is | kernel_rfl | rfl
    case g_lkN => first | k_is | kernel_rfl | rfl
    case g_sfSU => first | k_is | kernel_rfl | rfl
    case g_raSU => first | k_is | kernel_rfl | rfl
    case g_rsSU => first | k_is | kernel_rfl | rfl
    case g_neSU => first | k_is | kernel_rfl | rfl
    case g_z_isinstance => first | k_is | kernel_rfl | rfl
    case g_z_int => first | k_is | kernel_rfl | rfl
    case g_z_bool => first | k_is | kernel_rfl | rfl
    case g_z_str => first | k_is | kernel_rfl | rfl
    case g_z_len => first | k_is | kernel_rfl | rfl
    case g_z_all => first | k_is | kernel_rfl | rfl
    case g_z_list => first | k_is | kernel_rfl | rfl
    case g_z_dict => first | k_is | kernel_rfl | rfl
    case g_z_tuple => first | k_is | kernel_rfl | rfl
    case g_z_abs => first | k_is | kernel_rfl | rfl
    case g_z_zip => first | k_is | kernel_rfl | rfl
    case g_z_range => first | k_is | kernel_rfl | rfl
    case g_z_NotImplemented => first | k_is | kernel_rfl | rfl
    case g_cS => first | k_is | kernel_rfl | rfl
    case g_cD => first | k_is | kernel_rfl | rfl
    case g_cM => first | k_is | kernel_rfl | rfl
    case g_cPA => first | k_is | kernel_rfl | rfl
    case g_cPD => first | k_is | kernel_rfl | rfl
    case kV => first | k_is | kernel_rfl
    case kR => first | k_is | kernel_rfl
    case kL => first | k_is | kernel_rfl
    case hV => exact PySem.W.codeHd_of_K KX (by kernel_rfl)
    case hR => exact PySem.W.codeHd_of_K KX (by kernel_rfl)
    case hL => exact PySem.W.codeHd_of_K KX (by kernel_rfl)
