import PyProof.Rows.All
import Wide.All
import OpenK.AllK
import Wide.FinOn
import HandS.ForMost
import HandS.ForExc
import HandS.ExcInit
import HandS.ExcIs
import HandS.ExcField
import HandS.ClsMeth
import HandS.SlotsOwn
import HandS.IsInst
import HandS.Lambda
import HandS.EndTab
import HandS.Defaults
import HandS.MakeKw
import HandS.MakeKwOnly
import HandS.FStr
import HandS.StrMore
import HandS.TupLe
import HandS.TupAny
import HandS.ListItems
import HandS.DictComp
import HandS.DictEq
import HandS.Wide
import HandS.Conv
import HandS.Zip
import HandS.Deep
import HandS.Flow
import HandS.Style
import HandS.Small
import HandS.Codes
import HandS.AnyAll
import HandS.NoneIn
import HandS.RaiseMore
import KE.KOpsOwn
import PyProof.FString3
import HandS.Strs
import HandS.Walk
import KE.KExcIs
import HandS.ExcValue
import KE.KFmtOwn
import PyProof.DictUpdate
import HandS.Dict
import HandS.List
import HandS.Iter
import HandS.WordsDict
import HandS.DeepEq
import HandS.OwnEq
import HandS.Star
import HandS.OwnIter
import HandS.TupLen
import HandS.IterVal
import HandS.ListEq
import PyProof.EqAt
import PyProof.EqKinds
import PyProof.TupleCall
import KE.GoesEnum
import KE.KExcPX
import PyProof.ReprRoads
import PyProof.CallFns
import PyProof.CallStr
import KE.LtData
import KE.KDictCopyH
import KE.KDictPairs
import HandS.Head0
import HandS.Head1
import HandS.Head2
import PyProof.ExcBaseAll.ValueError
import PySem.Challenge.RW_takenup_k00_errors_and_papers
set_option Elab.async false
set_option linter.all false
set_option maxRecDepth 100000
set_option maxHeartbeats 2000000
namespace My
open PySem PySem.Spec PyProof.Rows L2
section
variable {X : Cx} {o e : Expr} {es : List Expr} {to te : TE} {ta : TA} {f x : Str} {p p' p1 p2 pos : Pos} {C T : Addr} {mc : Value}
/-- T.__init__(self, ..), T an own class over ValueError without an __init__ of its own -/
theorem pe_tinit {pl : Sem Bool} (hg : Gl X x) (hm : X.mg x = some (.ref T)) (r : ClX.CRead X.K T mc) (k : PySem.W.findCls X.K (.ref T) mc "__init__" = some (.val (.builtin "ValueError.__init__"))) (ha : PA X (e :: es) ta)
    (hdb : (x == ("__debug__" : Str)) = false := by decide)
    (hc : eval (.Call (.Attribute (.Name x p1) "__init__" p2) (e :: es) [] pos) X.env = (do
      let ov ← eval (.Name x p1) X.env
      standAt p2.atName
      let (f, first) ← holding [ov] (getMethod ov "__init__" pl)
      callWith pos f first (backTo pos (starEach (e :: es) X.env)) (backToKw pos (keywordEach [] X.env))) := by rfl)
    (he : starEach (e :: es) X.env = (false, eval e X.env) :: starEach es X.env := by rfl) (hpl : (backTo pos (starEach es X.env)).any (·.1) = false := by rfl) :
    PE X (.Call (.Attribute (.Name x p1) "__init__" p2) (e :: es) [] pos) (tVeI X.K ta) := by
  refine ⟨fun pins s σ H Q I h => ?_⟩
  refine PySem.W.methodCall_KW (ld_glob I hg hm ?_ hdb) hc
  refine PySem.W.method_cls I.kIn r.ga (PySem.W.cls_value I.kIn r.rd k (by decide +kernel) ?_)
  have I0 := I.tok (s.toks + 1)
  show wpAny _ _ (callWith pos (Value.builtin "ValueError.__init__") [] (backTo pos (starEach (e :: es) X.env)) []) _ _ _
  refine PyProof.Rows.callWith_method1 (thn (ha.run pos pins _ σ H _ (I0.tok _) h) fun us s1 ⟨vs, H1, I1, r1, a, C, ws, ev, hl, T, ea, q⟩ => ?_) he hpl
  subst ev
  cases r1 with
  | @cons _ u0 _ ur ra rw' =>
    obtain rfl : u0 = Value.ref a := ra
    have hlen : ur.length ≤ sizeLine := by
      rw [← Paired.length rw', sizeLine_eq]
      omega
    exact oinit_ok T I1 ea hlen fun s' J => ⟨.non, H1, J, rfl, q⟩
end

/-! ### what a value's type looks like -/
section
variable {X : Cx} {pins : List (Addr × Obj)} {σ : L2.St} {H : Hp} {s : Shared}
theorem looks_ty {x : V} {u t : Value} (I : Inv X pins σ H s) (rx : RelV x u) (ty : TyX X.K H x t) : PySem.W.Looks (model X.prog X.w) s.heap (typeOf u) t := by
  obtain ⟨P, kx, ph, _⟩ := kit_of I rx ty
  exact kx.ty _ _ I.kIn ph
end
/-! ### own comparisons and own + and - of instances -/
section
variable {X : Cx} {CX : CXT} {C g : Addr} {n : Nat} {sp : Sp} {E : XK}
/-- x op y, x an instance of the class at C whose def for op is at g -/
def rCmpI (K : PySem.W.Frag) (C : Addr) (sp : Sp) (E : XK) : R2 := fun x y H Q => ∃ a dx fs t, x = .ref a ∧ H a = some (.ins C dx fs) ∧ TyX K H y t ∧ PySem.W.notFirst K C t = true ∧ sp [x, y] H Q E
theorem op_cmpI {op : CmpOp} (hop : ∀ a b, compareOp op a b = richCompare op a b) (hs : PySem.W.findIn X.K (.ref C) (cmpInfo op).2.1 = some (some (.ref g))) (hf : PySem.W.isFn X.K (.ref g) = true)
    (F : FnR X.prog X.w X.K X.mg X.base CX n g sp) (hr : Room n X.A) (hx : Passes CX X E) : OpR X (compareOp op) (rCmpI X.K C sp E) := by
  intro pins s σ H x y v u Q I rx ry h
  obtain ⟨a, dx, fs, t, rfl, ha, ty, hn, q⟩ := h
  cases (show v = Value.ref a from rx)
  obtain ⟨mA, O, _⟩ := ins_get I.hok ha
  obtain ⟨od, J, _⟩ := O.look
  obtain ⟨m, hF⟩ := I.fr
  rw [hop]
  refine PySem.W.cmp_K (op := op) (tb := t) hr.units0 hF I.ok.mod.kin J (looks_ty I ry ty) hn hs hf ?_
  refine wpAny_mono (wpAny_call (run_fnR (us := [.ref a, u]) (vs := [.ref a, y]) F hr hx I (.cons rfl (.cons ry .nil)) q)) (fun w s' z => ?_) fun _ _ x => x
  obtain ⟨z', H', I', rz, qz⟩ := z
  exact SlX.cmpback rz ⟨z', H', I', rz, qz⟩
/-- the right operand's type, seen from + and -: a built-in one that is told by its slots, or the same class -/
inductive RightT (K : PySem.W.Frag) (C : Addr) (nm : String) : Value → Prop where
  | same : RightT K C nm (.ref C)
  | ty {T : String} {fo ro : Option Value} (h1 : PySem.W.findIn K (.type T) (PySem.dunder nm) = some fo) (h2 : PySem.W.findIn K (.type T) (PySem.dunderR nm) = some ro) (hsub : PySem.W.subIn K (.type T) (.ref C) = some false) : RightT K C nm (.type T)
structure OwnBin (K : PySem.W.Frag) (C g : Addr) (nm : String) : Prop where
  first : PySem.W.selfFirst K C = true
  at_ : PySem.W.findIn K (.ref C) (PySem.dunder nm) = some (some (.ref g))
  fn : PySem.W.isFn K (.ref g) = true
  noR : PySem.W.findIn K (.ref C) (PySem.dunderR nm) = some none
def rBinI (K : PySem.W.Frag) (C : Addr) (nm : String) (sp : Sp) (E : XK) : R2 := fun x y H Q => ∃ a dx fs t, x = .ref a ∧ H a = some (.ins C dx fs) ∧ TyX K H y t ∧ RightT K C nm t ∧ sp [x, y] H Q E
end
section
open PySem.W
variable {prog : Program} {w : World} {A : Around} {E : Value → Shared → Prop} {s : Shared} {K : Frag} {x C L f : Addr} {h₀ : Heap} {m : Str → Option Value} {ox : Obj} {od : Option Obj} {T : String}
theorem bin_ty {op : Operator} {nm : String} {b : Value} {fo ro : Option Value} {Q : Value → Shared → Prop} (hi : op.info.2 = nm) (X : K.In s.heap) (I : InstAt s.heap x ox C od) (hb : Looks (model prog w) s.heap (typeOf b) (.type T)) (B : OwnBin K C f nm)
    (h1 : findIn K (.type T) (PySem.dunder nm) = some fo) (h2 : findIn K (.type T) (dunderR nm) = some ro) (hsub : subIn K (.type T) (.ref C) = some false)
    (h : wpAny (model prog w) A (call (.ref f) [.ref x, b]) (PySem.W.CmpBack Q) E s) : wpAny (model prog w) A (binaryOp op (.ref x) b) Q E s := by
  obtain ⟨cd, rest, hcd, hm⟩ := ksp_first B.first
  have one := ksp_try X I B.at_ B.fn h
  obtain ⟨hh, g, d, tt, os⟩ := s
  have l1 : Looks (model prog w) hh (typeOf (.ref x)) (.ref C) := I.type
  have l2 : Looks (model prog w) hh (typeOf b) (.type T) := hb
  have l3 : Looks (model prog w) hh (fillsNumberSlot (.ref C) nm) true := fills_K X hcd hm B.at_
  have l4 := ksp_fillsT (M := model prog w) X h1 h2
  have l5 : Looks (model prog w) hh (isSubtype (.type T) (.ref C)) false := looks_subIn X hsub
  have l6 : Looks (model prog w) hh (numberSlotInPython (.ref C) nm) true := ksp_inPy X B.at_ B.noR (.inl rfl)
  have l7 : Looks (model prog w) hh (numberSlotInPython (.type T) nm) false := Looks.of_pure rfl
  have l8 : Looks (model prog w) hh (typeLookup (.type T) (dunderR nm)) ro := looks_findIn X h2
  generalize ((fo.isSome && !isSeqSlot fo) || (ro.isSome && !isSeqSlot ro)) = right at l4
  have hne : (Value.ref C == Value.type T) = false := Bool.eq_false_iff.mpr fun q => nomatch beq_iff_eq.mp q
  simp only [binaryOp, hi]
  refine wpAny_holding (wpAny_bind ?_)
  unfold binaryOp1
  refine wpAny_bind (l1.at (wpAny_bind (l2.at (wpAny_bind (l3.at ?_)))))
  simp only [hne, Bool.false_eq_true, if_false]
  cases right
  all_goals
    ksp_lk
    refine wpAny_mono one (fun r s' z => ?_) fun _ _ e => e
    obtain ⟨v, rfl, hq⟩ := z
    ksp_lk
    exact hq
end
section
variable {X : Cx} {CX : CXT} {C g : Addr} {n : Nat} {sp : Sp} {E : XK}
theorem op_binI {op : Operator} {nm : String} (hi : op.info.2 = nm) (B : OwnBin X.K C g nm) (F : FnR X.prog X.w X.K X.mg X.base CX n g sp) (hr : Room n X.A) (hx : Passes CX X E) : OpR X (binaryOp op) (rBinI X.K C nm sp E) := by
  intro pins s σ H x y v u Q I rx ry h
  obtain ⟨a, dx, fs, t, rfl, ha, ty, rt, q⟩ := h
  cases (show v = Value.ref a from rx)
  obtain ⟨mA, O, _⟩ := ins_get I.hok ha
  obtain ⟨od, J, _⟩ := O.look
  obtain ⟨m, hF⟩ := I.fr
  have lt := looks_ty I ry ty
  have back : wpAny (model X.prog X.w) X.A (call (.ref g) [.ref a, u]) (PySem.W.CmpBack (EP X pins σ Q)) X.xe s := by
    refine wpAny_mono (wpAny_call (run_fnR (us := [.ref a, u]) (vs := [.ref a, y]) F hr hx I (.cons rfl (.cons ry .nil)) q)) (fun w s' z => ?_) fun _ _ x => x
    obtain ⟨z', H', I', rz, qz⟩ := z
    exact SlX.cmpback rz ⟨z', H', I', rz, qz⟩
  cases rt with
  | same =>
    have at2 : PySem.W.findIn X.K (.ref C) (PySem.dunder op.info.2) = some (some (.ref g)) := by rw [hi]; exact B.at_
    exact PySem.W.binop_K hF I.ok.mod.kin J lt B.first at2 B.fn back
  | ty h1 h2 hsub => exact bin_ty hi I.kIn J lt B h1 h2 hsub back
end
end My
namespace My
open PySem PySem.Builtin PySem.Builtin.Int PySem.Builtin.Str PyProof.Rows PySem.Builtin.Float
def pd : Str := "+d"
def plusD (a : Int) : Str := ⟨((if a < 0 then [45] else [43]) ++ (Nat.toDigits 10 a.natAbs).map Char.toNat).toArray⟩
theorem fpd : ∀ n, parseFormatSpec pd.cps.toList n 62 = .ok { sign := some 43, align := 62, type := some 100 } := fun n => rfl
def f1 : FormatSpec := { align := 62, sign := some 43, type := some 100 }
theorem text_f1 (a : Int) : intSpecText f1 a = plusD a := by
  unfold intSpecText intField' plusD
  have hp := PyProof.Rows.tDigits_len_ge 10 a.natAbs
  have hn : ((Nat.toDigits 10 a.natAbs).map fun c => (if (100 : Nat) == 88 then c.toUpper else c).toNat) = (Nat.toDigits 10 a.natAbs).map Char.toNat := by
    simp
  rw [hn]
  have h2 : ((Nat.toDigits 10 a.natAbs).map Char.toNat).isEmpty = false := by
    cases e : Nat.toDigits 10 a.natAbs with
    | nil => rw [e] at hp; simp at hp
    | cons c cs => rfl
  by_cases ha : a < 0
  · simp [f1, ha, h2]
  · simp [f1, ha, h2]
theorem dig_len {n k : Nat} (hk : 1 ≤ k) (h : n.log2 < k) : (Nat.toDigits 10 n).length ≤ k := by
  refine PyProof.Rows.digits10_le hk ?_
  have h2 : n < 2 ^ k := by
    by_cases hz : n = 0
    · rw [hz]
      exact Nat.two_pow_pos k
    · exact (Nat.log2_lt hz).mp h
  exact Nat.lt_of_lt_of_le h2 (Nat.pow_le_pow_left (by decide) k)
theorem plusD_len (a : Int) (h : a.natAbs.log2 < 1920) : (plusD a).length ≤ sizeLine := by
  have hl := dig_len (by decide) h
  unfold plusD Str.length
  rw [sizeLine_eq]
  by_cases ha : a < 0
  · simp [ha]
    omega
  · simp [ha]
    omega
theorem gives_plus (a : Int) (t u : Tok) (h : a.natAbs.log2 < 1920) : Gives («int.__format__» ⟨[.int a t, .str pd u], []⟩) (.str (plusD a)) := by
  intro prog w A R s hq
  unfold «int.__format__»
  have hne : (pd.length == 0) = false := by decide
  have hasc : ((pd.cps.toList.drop 1).any (· ≥ 128) || (pd.cps.getD 0 0 ≥ 128 && !([60, 62, 61, 94] : List Nat).contains (pd.cps.getD 1 0))) = false := by decide
  simp only [selfAndOne, noKeywords, Int.intOfSelf, asInt?, asStr?, List.isEmpty_nil, if_true, pure_bind, bind_pure, bind_assoc, hne, hasc, Bool.false_eq_true, if_false,
    show (Value.str pd u == Value.none) = false from rfl]
  refine wpAny_bind (wpAny_typeNameOf (T := "str") (typeIs_str _ _ _) (by decide) fun _ => ?_)
  first | refine wpAny_bind (wpAny_typeNameOfCut_int ?_) | refine wpAny_bind (wpAny_typeNameOf_int ?_)
  simp only [fpd, Option.getD_some]
  refine PySem.W.KFB.if_so (by decide +kernel) ?_
  show wpAny _ _ (do let r ← Builtin.overDigitLimit? a; _) _ _ _
  rw [PySem.overDigitLimit_small h]
  refine wpAny_bind (wpAny_pure ?_)
  show wpAny _ _ (retStr _) _ _ _
  refine Eq.mp (congrArg (fun z => wpAny (model prog w) A.in1 (retStr z) _ _ s) (show intSpecText f1 a = _ from ?_)) ?_
  · rw [text_f1]
    conv => rhs; whnf
    unfold plusD
    have hp := PyProof.Rows.tDigits_len_ge 10 a.natAbs
    cases e : Nat.toDigits 10 a.natAbs with
    | nil => rw [e] at hp; simp at hp
    | cons c cs =>
      by_cases ha : a < 0
      · simp [ha, e]
        omega
      · simp [ha, e]
        omega
  rw [text_f1]
  unfold retStr
  exact wpAny_bind (wpAny_mkStr (wpAny_pure hq.2) hq.1)
end My
namespace My
open PySem PySem.Spec PyProof.Rows L2
section
variable {X : Cx}
def tFmtP (te : TE) : TE := fun σ H Q => te σ H fun x H1 => ∃ i : Int, x = .int i ∧ i.natAbs.log2 < 1920 ∧ Q (.str (plusD i)) H1
theorem pe_fmtP {e : Expr} {te : TE} {k : Nat} {pos p1 p2 : Pos} (he : PE X e te) : PE X (.FormattedValue e (-1) (some (.JoinedStr [.Constant (.str "+d") k p1] p2)) pos) (tFmtP te) := by
  refine ⟨fun pins s σ H Q I h => ?_⟩
  refine PySem.wpAny_FormattedValue_spec (thn (he.run pins s σ H _ I h) fun v s1 ⟨x, H1, I1, r1, i, ex, hi, q⟩ => ?_)
  subst ex
  obtain ⟨t, rfl⟩ : ∃ t, v = Value.int i t := r1
  refine thn ((pe_joined1 pe_str).run pins s1 σ H1 (fun y H' => y = .str "+d" ∧ H' = H1) I1 ⟨rfl, rfl⟩) fun w s2 ⟨y, H2, I2, r2, ey, eh⟩ => ?_
  subst ey
  subst eh
  obtain ⟨t2, rfl⟩ : ∃ t, w = Value.str "+d" t := r2
  refine ⟨_, t2, rfl, ?_⟩
  refine PySem.wpAny_formatField_spec (by decide) (fun s' => typeIs_int s' i t) F.slot_int_format F.entry_int_format F.args_int_format_2 (fun u => gives_plus i t u hi) ⟨.str (plusD i), _, I2.tok _, ⟨_, rfl⟩, q⟩ (by decide) (plusD_len i hi)
end
end My

namespace My
open PySem PySem.Spec PyProof.Rows L2
section
variable {X : Cx} {CX : CXT} {C g : Addr} {n : Nat} {sp : Sp} {E : XK}
/-- str(x), x an instance whose class has its own __str__ -/
theorem call_strI (hs : PySem.W.findIn X.K (.ref C) "__str__" = some (some (.ref g))) (hf : PySem.W.isFn X.K (.ref g) = true) (F : FnR X.prog X.w X.K X.mg X.base CX n g sp) (hr : Room (n + 2) X.A) (hx : Passes CX X E) :
    CallR X (.type "str") (fun xs H Q => ∃ a dx fs, xs = [V.ref a] ∧ H a = some (.ins C dx fs) ∧ sp [.ref a] H (fun z H' => ∃ y, z = .str y ∧ Q z H') E) := by
  intro pins s σ H xs us Q I r h
  obtain ⟨a, dx, fs, rfl, ha, q⟩ := h
  obtain ⟨u, rfl, ru⟩ := vals1 r
  cases (show u = Value.ref a from ru)
  obtain ⟨mA, O, _⟩ := ins_get I.hok ha
  obtain ⟨od, J, _⟩ := O.look
  have hr1 : Room (n + 1) X.A.in1 := hr.in1
  have hr2 : Room n X.A.in1.in1 := hr1.in1
  refine PySem.W.kso_call hr2.units0 I.kIn J hs hf (wpAny_mono (wpAny_call (SlX.run_at (us := [.ref a]) (ws := [.ref a]) F hr2 I.env0.in1.in1 hx I (.cons rfl .nil) q)) (fun w s' z => ?_) fun _ _ x => x)
  obtain ⟨z', H', I', rz, y, ey, qz⟩ := z
  subst ey
  obtain ⟨t, rfl⟩ : ∃ t, w = Value.str y t := rz
  exact ⟨.str y, H', I', ⟨t, rfl⟩, qz⟩
end
end My
namespace My
open PySem PySem.Spec PyProof.Rows L2
/-- C.m is a staticmethod: its record at p, its def at g -/
structure SMet (K : PySem.W.Frag) (C : Addr) (mc : Value) (m : Str) (p g : Addr) : Prop where
  at_ : PySem.W.findCls K (.ref C) mc m = some (.get (.builtin "staticmethod.__get__") (.ref p) .none (.ref C))
  rc : ∃ rest, PySem.W.recIn K p "staticmethod" = some (.ref g :: rest)
  kp : PySem.W.keepIn K (.ref g) = true
def tSMeth (C : Addr) (sp : Sp) (E : XK) (ta : TE) (t : TA) : TE := fun σ H Q => ta σ H fun x H1 => x = .ref C ∧ t σ H1 fun vs H2 => sp vs H2 Q E
section
variable {X : Cx} {CX : CXT} {pins : List (Addr × Obj)} {σ : L2.St} {H : Hp} {s : Shared} {C p g : Addr} {mc : Value} {m : Str} {k n : Nat} {sp : Sp} {E : XK} {o e : Expr} {es : List Expr} {kws : List Keyword} {ta : TE} {t tk : TA} {apos pos : Pos} {fd : FuncData} {ps ks : List Str} {g' : List Value → List Value → List Value} {gV : List V → List V → List V}
theorem getsm_ok {A : Around} {E : Value → Shared → Prop} {pl : Sem Bool} {Q : Value × List Value → Shared → Prop} (I : Inv X pins σ H s) (r : ClX.CRead X.K C mc) (k : SMet X.K C mc m p g) (h : ∀ s', Inv X pins σ H s' → Q (.ref g, []) s') :
    wpAny (model X.prog X.w) A (getMethod (.ref C) m pl) Q E s := by
  obtain ⟨rest, hp⟩ := k.rc
  refine PySem.W.method_cls I.kIn r.ga (PySem.W.cls_bind I.kIn r.rd k.at_ ?_)
  exact wpAny_call (PySem.W.sm_get (s := { s with toks := s.toks + 1 }) I.kIn hp (PySem.W.handed_on rfl (h _ (I.tok _))))
/-- C.m(e, ..), m a staticmethod -/
theorem pe_smeth {pl : Sem Bool} (he : PE X o ta) (r : ClX.CRead X.K C mc) (c : SMet X.K C mc m p g) (F : FnR X.prog X.w X.K X.mg X.base CX k g sp) (hr : Room k X.A) (hx : Passes CX X E) (ha : PA X (e :: es) t)
    (hst : starEach (e :: es) X.env = (false, eval e X.env) :: starEach es X.env := by rfl) (hpl : (backTo pos (starEach es X.env)).any (·.1) = false := by rfl)
    (ht : eval (.Call (.Attribute o m apos) (e :: es) [] pos) X.env = (do
      let ov ← eval o X.env
      standAt apos.atName
      let (f, first) ← holding [ov] (getMethod ov m pl)
      callWith pos f first (backTo pos (starEach (e :: es) X.env)) (backToKw pos (keywordEach [] X.env))) := by rfl) :
    PE X (.Call (.Attribute o m apos) (e :: es) [] pos) (tSMeth C sp E ta t) := by
  refine ⟨fun pins s σ H Q I h => PySem.W.methodCall_KW (pl := pl) (thn (he.run pins s σ H _ I h) fun u s1 ⟨x, H1, I1, rx, ex, q⟩ => ?_) ht⟩
  subst ex
  obtain rfl : u = Value.ref C := rx
  refine getsm_ok I1 r c fun s' I2 => ?_
  refine PySem.W.callWith_K (first := []) (h₀ := X.base) I.ok.mod.kin c.kp (thn (ha.run pos pins s' σ H1 _ I2 q) fun us s2 ⟨vs, H2, I3, r3, q2⟩ => ⟨I3.kIn, wpAny_call (run_fnR F hr hx I3 r3 q2)⟩) hst hpl
def tSMethK (C : Addr) (m : Nat) (sp : Sp) (gV : List V → List V → List V) (E : XK) (ta : TE) (tk : TA) : TE := fun σ H Q => ta σ H fun x H1 => x = .ref C ∧ tk σ H1 fun zs H2 => zs.length = m ∧ sp (gV [] zs) H2 Q E
/-- C.m(k = v), m a staticmethod -/
theorem pe_smethK {pl : Sem Bool} (he : PE X o ta) (r : ClX.CRead X.K C mc) (c : SMet X.K C mc m p g) (F : FnOk X.prog X.w X.K X.mg X.base CX k g fd ps sp) (hr : Room k X.A) (hb : KBn X.K fd ps 0 ks g' gV) (hx : Passes CX X E) (hkw : PK X kws tk)
    (hall : (backToKw pos (keywordEach kws X.env)).all (·.1.isSome) = true := by rfl) (hks : (backToKw pos (keywordEach kws X.env)).filterMap (·.1) = ks := by rfl)
    (hpl : ((backTo pos (starEach [] X.env)).any (·.1) || (backToKw pos (keywordEach kws X.env)).any (·.1.isNone)) = false := by rfl)
    (ht : eval (.Call (.Attribute o m apos) [] kws pos) X.env = (do
      let ov ← eval o X.env
      standAt apos.atName
      let (f, first) ← holding [ov] (getMethod ov m pl)
      callWith pos f first (backTo pos (starEach [] X.env)) (backToKw pos (keywordEach kws X.env))) := by rfl) :
    PE X (.Call (.Attribute o m apos) [] kws pos) (tSMethK C ks.length sp gV E ta tk) := by
  refine ⟨fun pins s σ H Q I h => PySem.W.methodCall_KW (pl := pl) (thn (he.run pins s σ H _ I h) fun u s1 ⟨x, H1, I1, rx, ex, q⟩ => ?_) ht⟩
  subst ex
  obtain rfl : u = Value.ref C := rx
  refine getsm_ok I1 r c fun s' I2 => ?_
  refine PySem.W.callWith_KW0 (h₀ := X.base) I.ok.mod.kin c.kp hall ?_ hpl
  refine thn (hkw.run pos pins s' σ H1 _ I2 q) fun ws s2 ⟨zs, H2, I3, rz, l2, q2⟩ => ⟨I3.kIn, ?_⟩
  rw [hks]
  exact run_fnN F hr hb hx I3 .nil rz rfl l2 q2
def tMethK (C : Addr) (f : Str) (m : Nat) (sp : Sp) (gV : List V → List V → List V) (E : XK) (ta : TE) (tk : TA) : TE := fun σ H Q => ta σ H fun x H1 => ∃ a dx fs, x = .ref a ∧ H1 a = some (.ins C dx fs) ∧ fs.lookup f = none ∧ tk σ H1 fun zs H2 => zs.length = m ∧ sp (gV [x] zs) H2 Q E
/-- o.m(k = v), o an instance -/
theorem pe_methK {pl : Sem Bool} (he : PE X o ta) (c : Cls X.K C) (hm : Meth X.K C m g) (F : FnOk X.prog X.w X.K X.mg X.base CX k g fd ps sp) (hr : Room k X.A) (hb : KBn X.K fd ps 1 ks g' gV) (hx : Passes CX X E) (hkw : PK X kws tk)
    (hall : (backToKw pos (keywordEach kws X.env)).all (·.1.isSome) = true := by rfl) (hks : (backToKw pos (keywordEach kws X.env)).filterMap (·.1) = ks := by rfl)
    (hpl : ((backTo pos (starEach [] X.env)).any (·.1) || (backToKw pos (keywordEach kws X.env)).any (·.1.isNone)) = false := by rfl)
    (ht : eval (.Call (.Attribute o m apos) [] kws pos) X.env = (do
      let ov ← eval o X.env
      standAt apos.atName
      let (f, first) ← holding [ov] (getMethod ov m pl)
      callWith pos f first (backTo pos (starEach [] X.env)) (backToKw pos (keywordEach kws X.env))) := by rfl) :
    PE X (.Call (.Attribute o m apos) [] kws pos) (tMethK C m ks.length sp gV E ta tk) := by
  refine ⟨fun pins s σ H Q I h => PySem.W.methodCall_KW (pl := pl) (thn (he.run pins s σ H _ I h) fun u s1 ⟨x, H1, I1, rx, a, dx, fs, ex, ea, l, q⟩ => ?_) ht⟩
  subst ex
  obtain rfl : u = Value.ref a := rx
  refine getmeth_ok I1 ea c hm l ?_
  refine PySem.W.callWith_KW0 (first := [.ref a]) (h₀ := X.base) I.ok.mod.kin hm.kp hall ?_ hpl
  refine thn (hkw.run pos pins s1 σ H1 _ I1 q) fun ws s2 ⟨zs, H2, I3, rz, l2, q2⟩ => ⟨I3.kIn, ?_⟩
  rw [hks]
  exact run_fnN (us := [.ref a]) (vs := [.ref a]) F hr hb hx I3 (.cons rfl .nil) rz rfl l2 q2
end
end My
namespace My
open PySem PySem.Spec PyProof.Rows L2
section
variable {X : Cx} {x : Str} {pos : Pos}
/-- a built-in class as a value -/
theorem pe_bty (n : String) (hg : Gl X x) (hm : X.mg x = none) (hb : bootBuiltins x = some (.type n)) (h1 : (x == ("__debug__" : Str)) = false := by decide) (h2 : x ≠ "__name__" := by decide) : PE X (.Name x pos) (tC (.ty n)) := by
  first | exact pe_bltn hg hm hb rfl | exact pe_bltn hg hm hb rfl h1 h2 | exact pe_bltn hg hm hb rfl h2 h1
theorem pe_gint {i : Int} (hg : Gl X x) (hm : ∃ t, X.mg x = some (.int i t)) (h1 : (x == ("__debug__" : Str)) = false := by decide) : PE X (.Name x pos) (tC (.int i)) := by
  obtain ⟨t, e⟩ := hm
  exact pe_glob hg e (show RelV (.int i) (.int i t) from ⟨t, rfl⟩) h1
theorem pe_gstr {z : Str} (hg : Gl X x) (hm : ∃ t, X.mg x = some (.str z t)) (h1 : (x == ("__debug__" : Str)) = false := by decide) : PE X (.Name x pos) (tC (.str z)) := by
  obtain ⟨t, e⟩ := hm
  exact pe_glob hg e (show RelV (.str z) (.str z t) from ⟨t, rfl⟩) h1
theorem pe_gref {a : Addr} (hg : Gl X x) (hm : X.mg x = some (.ref a)) (h1 : (x == ("__debug__" : Str)) = false := by decide) : PE X (.Name x pos) (tC (.ref a)) :=
  pe_glob hg hm (show RelV (.ref a) (.ref a) from rfl) h1
end
end My
namespace My
open PySem PySem.Spec PyProof.Rows L2
/-! ### the order of two pairs of whole numbers -/
def rOrd2 (K : PySem.W.Frag) (rel : Int → Int → Bool) : R2 := fun x y H Q => ∃ (a b : Addr) (i n j m : Int), x = .ref a ∧ y = .ref b ∧ SqT K H a [.int i, .int n] ∧ SqT K H b [.int j, .int m] ∧ Q (.bl (if i = j then (if n = m then rel 0 0 else rel n m) else rel i j)) H
section
variable {X : Cx}
theorem ord2_of {op : CmpOp} {rel : Int → Int → Bool} (R : ∀ {A : Around} {s : Shared} {l b : Addr} {items items2 : Array Value} {e r : Nat → Bool}, s.heap.IsTuple l items → s.heap.IsTuple b items2 → A.units < cLine →
      (∀ j (h1 : j < items.size) (h2 : j < items2.size), SeqAt.EqAt A.in1 s items[j] items2[j] (e j)) → (∀ j (h1 : j < items.size) (h2 : j < items2.size), e j = false → Ob.RcOp op A.in1 s items[j] items2[j] (r j)) → items.size = 2 → items2.size = 2 →
      Ob.RcOp op A s (.ref l) (.ref b) (Ob.lexAt e r (rel 0 0) 0 2)) (one : ∀ {A : Around} {s : Shared} (a b : Int) (t u : Tok), Ob.RcOp op A s (.int a t) (.int b u) (rel a b))
    (hop : ∀ a b, compareOp op a b = richCompare op a b) (hu : X.A.units < cLine) : OpR X (compareOp op) (rOrd2 X.K rel) := by
  intro pins s σ H x y v u Q I rx ry h
  obtain ⟨a, b, i, n, j, m, rfl, rfl, ha, hb, q⟩ := h
  cases rx
  cases ry
  obtain ⟨its, r1, p1, _⟩ := I.tuple ha
  obtain ⟨its2, r2, p2, _⟩ := I.tuple hb
  cases r1 with
  | cons q1 r1 =>
    cases r1 with
    | cons q2 r1 =>
      cases r1
      cases r2 with
      | cons q3 r2 =>
        cases r2 with
        | cons q4 r2 =>
          cases r2
          obtain ⟨t1, rfl⟩ := q1
          obtain ⟨t2, rfl⟩ := q2
          obtain ⟨t3, rfl⟩ := q3
          obtain ⟨t4, rfl⟩ := q4
          have eqd : ∀ (c d : Int), (c == d) = decide (c = d) := fun c d => rfl
          have Z := R (A := X.A) (s := s) (e := fun k => if k = 0 then (i == j) else (n == m)) (r := fun k => if k = 0 then rel i j else rel n m) p1 p2 hu (fun k h1 h2 => by
            have : k = 0 ∨ k = 1 := by
              have h1' : k < 2 := h1
              omega
            rcases this with rfl | rfl
            · exact SeqAt.EqAt.int_int _ _ _ _
            · exact SeqAt.EqAt.int_int _ _ _ _) (fun k h1 h2 _ => by
            have : k = 0 ∨ k = 1 := by
              have h1' : k < 2 := h1
              omega
            rcases this with rfl | rfl
            · exact one _ _ _ _
            · exact one _ _ _ _) rfl rfl
          have ev : Ob.lexAt (fun k => if k = 0 then (i == j) else (n == m)) (fun k => if k = 0 then rel i j else rel n m) (rel 0 0) 0 2 = (if i = j then (if n = m then rel 0 0 else rel n m) else rel i j) := by
            rw [Ob.lexAt_succ, Ob.lexAt_succ, Ob.lexAt_zero]
            simp
          rw [ev] at Z
          rw [hop]
          exact Z X.prog X.w X.xe (EP X pins σ Q) ⟨.bl _, H, I, rfl, q⟩
theorem op_lt2 (hu : X.A.units < cLine) : OpR X (compareOp .Lt) (rOrd2 X.K fun a b => decide (a < b)) :=
  ord2_of (fun h1 h2 h3 h4 h5 e1 e2 => by have := Ob.RcOp.tuples_lt h1 h2 h3 h4 h5; rw [e1, e2] at this; exact this) (fun a b t u => Ob.RcOp.lt_int a b t u) (fun _ _ => rfl) hu
theorem op_le2 (hu : X.A.units < cLine) : OpR X (compareOp .LtE) (rOrd2 X.K fun a b => decide (a ≤ b)) :=
  ord2_of (fun h1 h2 h3 h4 h5 e1 e2 => by have := Ob.RcOp.tuples_le h1 h2 h3 h4 h5; rw [e1, e2] at this; exact this) (fun a b t u => Ob.RcOp.le_int a b t u) (fun _ _ => rfl) hu
theorem op_gt2 (hu : X.A.units < cLine) : OpR X (compareOp .Gt) (rOrd2 X.K fun a b => decide (b < a)) :=
  ord2_of (fun h1 h2 h3 h4 h5 e1 e2 => by have := Ob.RcOp.tuples_gt h1 h2 h3 h4 h5; rw [e1, e2] at this; exact this) (fun a b t u => Ob.RcOp.gt_int a b t u) (fun _ _ => rfl) hu
theorem op_ge2 (hu : X.A.units < cLine) : OpR X (compareOp .GtE) (rOrd2 X.K fun a b => decide (b ≤ a)) :=
  ord2_of (fun h1 h2 h3 h4 h5 e1 e2 => by have := Ob.RcOp.tuples_ge h1 h2 h3 h4 h5; rw [e1, e2] at this; exact this) (fun a b t u => Ob.RcOp.ge_int a b t u) (fun _ _ => rfl) hu
end
end My
namespace My
open PySem PySem.Spec PyProof.Rows L2
section
variable {X : Cx}
/-- s * n -/
theorem op_mulS : OpR X (binaryOp .Mult) (fun x y H Q => ∃ (a : Str) (k : Int), x = .str a ∧ y = .int k ∧ PySem.MulOk a k ∧ Q (.str (Txt.mul a k)) H) := by
  intro pins s σ H x y v u Q I rx ry h
  obtain ⟨a, k, rfl, rfl, ok, q⟩ := h
  obtain ⟨t, rfl⟩ := rx
  obtain ⟨t', rfl⟩ := ry
  exact PySem.SB.mul ok fun t2 k2 => ⟨.str _, H, I.tok _, ⟨_, rfl⟩, q⟩
end
end My
set_option Elab.async false
set_option linter.all false
set_option maxRecDepth 100000
set_option maxHeartbeats 2000000
/-! Rules of my own: a caught error of an own class that is kept as a value behind its except suite. -/
namespace MyX
open PySem PySem.Spec PyProof.Rows L2
/-- the error at a, of the class cls, its dict d -/
def XcO (cls : Value) (d : Option Addr) (a : Addr) : HO := .ext fun h => ∃ (oe : Obj) (vs : Array Value), h.get? a = some oe ∧ Zc cls d oe ∧ oe.data = .fields vs
theorem xcO_ok {P : Program} {w : World} {H : Hp} {h : Heap} {a : Addr} {cls : Value} {d : Option Addr} {oe : Obj} {vs : Array Value} (e : h.get? a = some oe) (z : Zc cls d oe) (hd : oe.data = .fields vs) : ObjOk P w H h a (XcO cls d a) :=
  ⟨⟨oe, vs, e, z, hd⟩, ⟨oe, e⟩, fun _ _ ⟨o, v, q, r⟩ k => ⟨o, v, k o q, r⟩⟩
section
variable {X : Cx} {pins : List (Addr × Obj)} {σ : L2.St} {H : Hp} {s : Shared}
theorem trackX {a : Addr} {oe : Obj} {cls : Value} {d : Option Addr} {vs : Array Value} (J : Inv X ((a, oe) :: pins) σ H s) (hz : Zc cls d oe) (hd : oe.data = .fields vs) (n0 : X.s_0.heap.get? a = none) (np : ∀ p ∈ X.pn ++ pins, p.1 ≠ a) :
    Inv X pins σ (upd H a (XcO cls d a)) s := by
  obtain ⟨he, na, nL, nF, nc⟩ := J.pin (a, oe) (List.mem_append_right _ List.mem_cons_self)
  have ne0 : ∀ b o, X.s_0.heap.get? b = some o → b ≠ a := fun b o e z => by rw [z, n0] at e; cases e
  refine ⟨J.ok, J.os, J.bare, ⟨J.base.keep, J.base.slot, fun b o e n hx => ?_, J.base.there, fun b xs e => ?_, fun b o u e => ?_, fun b ps e => ?_⟩, J.loc, J.cell, ?_, fun y c e => ?_, fun p hp => ?_, J.hok.laidN (fun _ _ q => q) na (xcO_ok he hz hd), J.len⟩
  · rw [upd_ne (ne0 b o e)]
    exact J.base.free b o e n hx
  · have q := J.base.tups b xs e
    rw [upd_ne (ne_of_none q na)]
    exact q
  · have q := J.base.frzs b o u e
    rw [upd_ne (ne_of_none q na)]
    exact q
  · obtain ⟨m, q⟩ := J.base.tbls b ps e
    exact ⟨m, by rw [upd_ne (ne_of_none q na)]; exact q⟩
  · rw [upd_ne (Ne.symm nL)]
    exact J.free
  · rw [upd_ne (fun z => ?_)]
    · exact J.freeC y c e
    · obtain ⟨v, o, ho, hv⟩ := J.cell y c e
      rw [z, he] at ho
      cases ho
      exact nc v hv
  · have hp' : p ∈ X.pn ++ (a, oe) :: pins := by
      rcases List.mem_append.mp hp with h | h
      · exact List.mem_append_left _ h
      · exact List.mem_append_right _ (List.mem_cons_of_mem _ h)
    obtain ⟨p1, p2, p3, p4, p5⟩ := J.pin p hp'
    exact ⟨p1, by rw [upd_ne (np p hp)]; exact p2, p3, p4, p5⟩
theorem unsuiteK {a : Addr} {q : Addr × Obj} {pn' : List (Addr × Obj)} (I : Inv (X.suite a (q :: (X.pn ++ pins))) pn' σ H s) (ok : X.Ok) : Inv X (q :: pins) σ H s :=
  ⟨ok, I.os, I.bare, I.base, I.loc, I.cell, I.free, I.freeC, fun p hp => I.pin p (List.mem_append_left _ (by
    rcases List.mem_append.mp hp with h | h
    · exact List.mem_cons_of_mem _ (List.mem_append_left _ h)
    · rcases List.mem_cons.mp h with h | h
      · rw [h]; exact List.mem_cons_self
      · exact List.mem_cons_of_mem _ (List.mem_append_right _ h))), I.hok, I.len⟩
end
/-- as wAs; behind the suite the error is tracked -/
def wAsK (L : Nat) (K : PySem.W.Frag) (c : Value) (i : Nat) (ts : Addr → Value → Option Addr → TS) (Wout : WX) (D : Ends) : WX := fun cls d σ H =>
  ∃ b, PySem.W.exmOne K cls c = some b ∧ (b = true → σ.length = L → ∀ a, H a = none → ts a cls d { nx := fun σ' H' => D.nx (σ'.set i none) (upd H' a (XcO cls d a)), rt := D.rt, bk := fun σ' H' => D.bk (σ'.set i none) H', ct := fun σ' H' => D.ct (σ'.set i none) H' } (σ.set i (some (.ref a))) H) ∧
    (b = false → Wout cls d σ H)
section
variable {X : Cx} {x n : Str} {c : Value} {i : Nat} {body suite : List Stmt} {b₀ : Stmt} {np pos pos' : Pos} {tb : WX → TS} {ts : Addr → Value → Option Addr → TS} {Wout : WX}
theorem ps_try_asK (hs : X.stack = X.env :: X.outer) (hex : X.ex = []) (hf : X.env.frame = some X.env.locals) (hN : X.N.Nodup) (hi : X.N[i]? = some n) (hln : X.env.kindOf n = some .local) (hc : Names X x c) (tk : Takes X Wout)
    (hb : ∀ (W : WX) (pn : List (Addr × Obj)) (xe : Value → Shared → Prop), Takes (X.tr pn xe) W → PassesOwn (model X.prog X.w) X.A X.env xe → PSs (X.tr pn xe) body (tb W))
    (hsu : ∀ (a : Addr) (oe : Obj) (cls : Value) (d : Option Addr) (pn : List (Addr × Obj)), Zc cls d oe → (∃ vs, oe.data = .fields vs) → PSs (X.suite a ((a, oe) :: pn)) (b₀ :: suite) (ts a cls d)) :
    PS X (.Try body [.ExceptHandler (some (.Name x np)) (some n) (b₀ :: suite) pos'] [] [] pos) (fun D σ H => tb (wAsK X.N.length X.K c i ts Wout D) D σ H) := by
  refine ⟨fun ps st τ G D J0 want => ?_⟩
  have okX := J0.ok
  have frA : X.A.frames = some (X.env :: X.outer) := by rw [okX.frames, hs]
  have locN : Loc X.env.scope n := Or.inl hln
  refine wpAny_Try_except (wpAny_mono ((hb (wAsK X.N.length X.K c i ts Wout D) (X.pn ++ ps) (fun e t1 => wpAny (model X.prog X.w) X.A (noteFrame e X.env) (fun _ t2 => wpAny (model X.prog X.w) X.A (setFlight e none) (fun _ t3 =>
    wpAny (model X.prog X.w) X.A (handleBy e X.env [.ExceptHandler (some (.Name x np)) (some n) (b₀ :: suite) pos']) (SP X ps D) X.xe t3) X.xe t2) X.xe t1) (fun u sE air => ?_) PassesOwn.looking).run [] st τ G D (J0.toTry _) want) (fun fl t1 got => ?_) (fun _ _ he => he))
  · obtain ⟨a, B, sI, pinsI, σI, HI, cls, d, rfl, JT, toB, upI, skyI, naI, osI, agI, b, hb1, hyes, hno⟩ := air
    have JI : Inv X ps σI HI sI := JT.ofTry okX
    have skyX : Sky B (X.env :: X.outer) a (Zc cls d) X.env.locals sE.heap := by rw [← hs]; exact skyI
    show wpAny (model X.prog X.w) X.A (noteFrame (.ref a) X.env) _ _ _
    refine Sky.land Zc.steady frA hf skyX fun g3 fly3 upg3 => ?_
    have K3 : Inv X ps σI HI { sE with heap := g3 } := JI.landed toB fly3.1 (upI.trans upg3) osI agI
    obtain ⟨ob3, ws3, got3, zc3, dat3⟩ := fly3.there
    have noFr : a ∉ frs (X.env :: X.outer) := fun hm => by
      obtain ⟨_, o', e', hnf⟩ := fly3.2.2.1.mem hm
      rw [got3] at e'
      cases e'
      exact hnf _ dat3
    have noLoc : a ≠ X.env.locals := fun z => noFr (List.mem_filterMap.mpr ⟨X.env, List.mem_cons_self, by rw [hf, z]⟩)
    have noFs : a ∉ X.fs := fun hm => by
      obtain ⟨e, he, q⟩ := List.mem_filterMap.mp hm
      exact noFr (List.mem_filterMap.mpr ⟨e, List.mem_cons_of_mem _ he, q⟩)
    have notI : ∀ o, sI.heap.get? a ≠ some o := fun o e => by
      have q := toB a o e (by rw [hs]; exact noFr)
      rw [fly3.2.1] at q
      cases q
    have n0 : X.s_0.heap.get? a = none := by
      cases e : X.s_0.heap.get? a with
      | none => rfl
      | some o =>
        obtain ⟨o', q⟩ := JI.base.there a o e (by rw [hex]; exact fun z => nomatch z)
        exact absurd q (notI o')
    have npn : ∀ p ∈ X.pn ++ ps, p.1 ≠ a := fun p hp z => notI p.2 (by rw [← z]; exact (JI.pin p hp).1)
    have T3 := K3.suite got3 dat3 naI noLoc noFs
    refine wpAny_handleBy_cons (codeAny_handlers_test ?_) (fun q => by cases q)
    have lookT : PySem.W.Looks (model X.prog X.w) g3 (typeOf (.ref a)) cls := fun A Q E s k q => wpAny_typeOf_ref (k _ _ got3) (by rw [zc3.1]; exact q)
    have lookM := PySem.W.exm_one (M := model X.prog X.w) (K3.kIn) lookT hb1
    have asked : ∀ {Q : Value → Shared → Prop} {E : Value → Shared → Prop}, Q c { sE with heap := g3 } → wpAny (model X.prog X.w) (X.A.mark (some (.ref a))) (eval (.Name x np) X.env) Q E { sE with heap := g3 } := fun {Q E} q => by
      obtain ⟨hg, hdbg, hm | ⟨hm, hv, hnn⟩⟩ := hc
      · exact ld_glob (X := X.suite a ((a, ob3) :: (X.pn ++ ps))) T3 hg hm q hdbg
      · exact ld_blt (X := X.suite a ((a, ob3) :: (X.pn ++ ps))) T3 hg hm hv q hnn hdbg
    refine asked (lookM.here ?_)
    cases b with
    | true =>
      refine codeAny_handlers_suite_as (HandSPX.lands_againZ fly3 fun g4 fly4 upg4 => ?_)
      have K4 : Inv X ps σI HI { sE with heap := g4 } := JI.landed toB fly4.1 ((upI.trans upg3).trans upg4) osI agI
      obtain ⟨ob4, ws4, got4, zc4, dat4⟩ := fly4.there
      refine store_ok (X := X.suite a ((a, ob4) :: (X.pn ++ ps))) (v := .ref a) (K4.suite got4 dat4 naI noLoc noFs) hN hi locN rfl (fun t5 K5 => ?_) (.inr hln)
      refine wpAny_mono ((hsu a ob4 cls d (X.pn ++ ps) zc4 ⟨_, dat4⟩).run [] t5 _ HI _ K5 (hyes rfl JI.len a naI)) (fun fl6 t6 got6 => ?_) (fun _ _ z => False.elim z)
      have quit : ∀ {σ6 : L2.St} {H6 : Hp} {Q : Shared → Prop}, Inv (X.suite a ((a, ob4) :: (X.pn ++ ps))) [] σ6 H6 t6 → (∀ t7, Inv X ((a, ob4) :: ps) (σ6.set i none) H6 t7 → Q t7) →
          wpAny (model X.prog X.w) X.A (do bindName X.env n .none; unbindBehindTheSuite X.env n pos') (fun _ t7 => Q t7) X.xe t6 := fun {σ6 H6 Q} K6 hq => gone_ok (unsuiteK K6 okX) hN hi hln hq
      have plain : ∀ {σ7 : L2.St} {H7 : Hp} {t7 : Shared}, Inv X ((a, ob4) :: ps) σ7 H7 t7 → Inv X ps σ7 H7 t7 := fun {σ7 H7 t7} K7 => ⟨K7.ok, K7.os, K7.bare, K7.base, K7.loc, K7.cell, K7.free, K7.freeC, fun p hp => K7.pin p (by
        rcases List.mem_append.mp hp with h | h
        · exact List.mem_append_left _ h
        · exact List.mem_append_right _ (List.mem_cons_of_mem _ h)), K7.hok, K7.len⟩
      cases fl6 with
      | next =>
        obtain ⟨σ6, H6, K6, q6⟩ := got6
        exact quit K6 fun t7 K7 => ⟨_, _, trackX K7 zc4 dat4 n0 npn, q6⟩
      | brk =>
        obtain ⟨σ6, H6, K6, q6⟩ := got6
        exact quit K6 fun t7 K7 => ⟨_, _, plain K7, q6⟩
      | cont =>
        obtain ⟨σ6, H6, K6, q6⟩ := got6
        exact quit K6 fun t7 K7 => ⟨_, _, plain K7, q6⟩
      | ret u =>
        obtain ⟨v6, σ6, H6, K6, r6, q6⟩ := got6
        exact quit K6 fun t7 K7 => ⟨_, _, _, plain K7, r6, q6⟩
    | false =>
      show wpAny _ X.A (handleBy (.ref a) X.env []) _ _ _
      refine wpAny_handleBy_nil ?_
      obtain ⟨k1, k2, k3, ob, ws, T, oT, ts', hgot, hzc, hdat, hat1, hr⟩ := id fly3
      unfold PySem.passOn
      refine wpAny_bind (wpAny_field hgot hdat hat1 ?_)
      rw [if_neg (by simp : ¬ ((Value.ref T == Value.none) = true))]
      have onward : wpAny (model X.prog X.w) X.A (setFlight (.ref a) X.env.frame) (fun _ t4 => wpAny (model X.prog X.w) X.A (throw (.ref a) : Sem Flow) (SP X ps D) X.xe t4) X.xe { sE with heap := g3 } := by
        rw [hf]
        refine HandSPX.setFlight_upZ fly3 fun g4 held4 upg4 => wpAny_throw (tk _ _ ?_)
        exact ⟨a, B, sI, ps, σI, HI, cls, d, rfl, JI, toB, (upI.trans upg3).trans upg4, .inr (.inr (by rw [hs]; exact held4)), naI, osI, agI, hno rfl⟩
      first
        | exact wpAny_bind (wpAny_pure (wpAny_bind onward))
        | exact wpAny_bind onward
  · cases fl with
    | next =>
      obtain ⟨τ', G', K', q⟩ := got
      exact wpAny_execs_nil ⟨τ', G', K'.ofTry okX, q⟩
    | brk =>
      obtain ⟨τ', G', K', q⟩ := got
      exact ⟨τ', G', K'.ofTry okX, q⟩
    | cont =>
      obtain ⟨τ', G', K', q⟩ := got
      exact ⟨τ', G', K'.ofTry okX, q⟩
    | ret u =>
      obtain ⟨v, τ', G', K', r, q⟩ := got
      exact ⟨v, τ', G', K'.ofTry okX, r, q⟩
end
section
variable {X : Cx}
/-- what a class says, so that isinstance asks its kept errors rightly -/
structure IsX (K : PySem.W.Frag) (C : Addr) : Prop where
  cl : (PySem.W.clsIn K C).isSome = true
  ga : PySem.W.findIn K (.ref C) "__getattribute__" = some (some (.builtin "BaseException.__getattribute__"))
  gg : PySem.W.findIn K (.ref C) "__getattr__" = some none
  sb : PySem.W.subIn K (.ref C) (.type "BaseException") = some true
  ca : PySem.W.findIn K (.ref C) "__class__" = some (some (.builtin "object.__class__"))
  sp : PySem.W.specialIn K (.builtin "object.__class__") "__get__" = some (some (.builtin "getset_descriptor.__get__"))
  tk : PySem.W.takesIn K (.builtin "object.__class__") = some true
  mr : PySem.W.mroIn K C (.type "object") = some true
/-- isinstance(x, c), x a kept error of the class at D -/
def rIsX (K : PySem.W.Frag) : List V → Hp → VK → Prop := fun xs H Q => ∃ (D a dd : Addr) (fs : List (Str × V)) (c : V) (cv : Value) (b : Bool), xs = [.ref a, c] ∧ IsX K D ∧ H a = some (XcO (.ref D) (some dd) a) ∧ H dd = some (.xd fs) ∧ (∀ u, RelV c u → u = cv) ∧ PySem.W.kitOne K (.ref D) cv = some b ∧ Q (.bl b) H
theorem inst_of {pins : List (Addr × Obj)} {σ : L2.St} {H : Hp} {s : Shared} {a D dd : Addr} {fs : List (Str × V)} (I : Inv X pins σ H s) (ha : H a = some (XcO (.ref D) (some dd) a)) (hdd : H dd = some (.xd fs)) :
    ∃ (oe od : Obj) (mA : Str → Option Value), PySem.W.InstAt s.heap a oe D (some od) ∧ (∀ f, RelO (fs.lookup f) (mA f)) ∧ ∀ n, PySem.W.lookIn n od = some (mA n) := by
  obtain ⟨⟨oe, vs, he, hz, hv⟩, _, _⟩ := I.hok a _ ha
  have hx : ObjOk X.prog X.w H s.heap dd (.xd fs) := I.hok dd _ hdd
  obtain ⟨mA, hns, hr⟩ := hx
  obtain ⟨od, ho, hl⟩ := lookIn_ns hns
  exact ⟨oe, od, mA, ⟨he, hz.1, by unfold PySem.W.notCls; rw [hv] <;> rfl, by rw [hz.2]; exact ho⟩, hr, hl⟩
theorem call_isX : CallR X (.builtin "isinstance") (rIsX X.K) := by
  intro pins s σ H xs us Q I r h
  obtain ⟨D, a, dd, fs, c, cv, b, rfl, C, ha, hdd, hcv, e, q⟩ := h
  obtain ⟨oe, od, mA, J, _, _⟩ := inst_of I ha hdd
  cases r with
  | cons rx rr =>
    cases rr with
    | cons rt rr =>
      cases rr
      cases rx
      have ec := hcv _ rt
      subst ec
      exact PySem.W.kia_one (PySem.W.kitx_exc C.cl C.ga C.gg C.sb C.ca C.sp C.tk C.mr) I.kIn J e (fun z => nomatch z) fun tk => ⟨.bl b, H, I.tok tk, rfl, q⟩
/-- x.n, x a kept error of the class at C -/
def tXk (C : Addr) (f : Str) (te : TE) : TE := fun σ H Q => te σ H fun x H1 => ∃ (a dd : Addr) (fs : List (Str × V)) (v : V), x = .ref a ∧ H1 a = some (XcO (.ref C) (some dd) a) ∧ H1 dd = some (.xd fs) ∧ fs.lookup f = some v ∧ Q v H1
theorem pe_xk {C : Addr} {e : Expr} {te : TE} {pos : Pos} {n : Str} (T : XfC X.K C) (hno : PySem.W.findIn X.K (.ref C) n = some none) (he : PE X e te) (hb : attributeBase e n X.env (eval e X.env) = eval e X.env := by rfl) :
    PE X (.Attribute e n pos) (tXk C n te) := by
  refine ⟨fun pins s σ H Q I h => attr_of hb (thn (he.run pins s σ H _ I h) fun u s1 hh => ?_)⟩
  obtain ⟨x, H1, I1, rx, a, dd, fs, v, rfl, ha, hdd, l, q⟩ := hh
  cases (show u = Value.ref a from rx)
  obtain ⟨oe, od, mA, J, hr, hl⟩ := inst_of I1 ha hdd
  obtain ⟨u, hu, ru⟩ := RelO.some_of (v := v) (o := mA n) (by rw [← l]; exact hr n)
  exact HandSPX.exc_get I1.kIn J T.ga T.gg T.exC (PySem.W.findObj_own T.hdC hno rfl (by rw [hl, hu])) (handed_of ru) ⟨v, H1, I1.tok _, ru, q⟩
end
end MyX
set_option Elab.async false
set_option linter.all false
set_option maxRecDepth 100000
set_option maxHeartbeats 4000000
/-! Rules of my own: x != y over an own __eq__; an own __eq__ that declines. -/
namespace MyE
open PySem PySem.Spec PyProof.Rows L2 My
section
open PySem.W
variable {prog : Program} {w : World} {A : Around} {E : Value → Shared → Prop} {s : Shared} {K : Frag} {x C f : Addr} {ox : Obj} {od : Option Obj} {b t : Value}
theorem ifb_ne {M : Model} {args : List Value} {Q : Option Value → Shared → Prop} (X : K.In s.heap) (I : InstAt s.heap x ox C od) (hs : findIn K (.ref C) "__ne__" = some (some (.builtin "object.__ne__")))
    (h : wpAny M A (call (.builtin "object.__ne__") (.ref x :: args)) (fun v => Q (some v)) E s) : wpAny M A (callSpecialIfBound? (.ref x) "__ne__" args) Q E s := by
  simp only [callSpecialIfBound?, bindSpecialIfBound?]
  refine wpAny_holding (wpAny_bind (wpAny_bind (wpAny_bind (I.type.here ((looks_findIn X hs).here (wpAny_bind (wpAny_askSetting (wpAny_ite ?_))))))))
  have last : wpAny M A (call (.builtin "object.__ne__") ([.ref x] ++ args) >>= fun v => pure (some v)) Q E s := wpAny_bind (wpAny_mono h (fun _ _ q => wpAny_pure q) fun _ _ q => q)
  split
  · exact wpAny_bind (wpAny_of_eq (F.cmp_object.ne.bind _) (wpAny_pure (by exact last)))
  · exact wpAny_tryCatch (wpAny_bind (wpAny_of_eq (F.cmp_object.ne.bind _) (wpAny_pure (by exact last))))
theorem ne_entry {Q : Fin → Shared → Prop} (hu : A.units < cLine) (X : K.In s.heap) (I : InstAt s.heap x ox C od) (hs : findIn K (.ref C) "__eq__" = some (some (.ref f))) (hf : isFn K (.ref f) = true)
    (hc : wpAny (model prog w) A (call (.ref f) [.ref x, b]) (fun v s' => ∃ r, v = .bool r ∧ Q (.done (.ret (.bool (!r)))) s') E s) : wpAny (model prog w) A (Builtin.«object.__ne__» ⟨[.ref x, b], []⟩) Q E s := by
  obtain ⟨h, g, d, tk, os⟩ := s
  unfold Builtin.«object.__ne__»
  repeat (first
    | with_reducible refine wpAny_cRoomFor hu ?_
    | (refine wpAny_bind (m := callSpecialIfBound? (.ref x) (Str.ofString "__eq__") [b]) (ifBound_K X I hs hf (wpAny_mono hc (fun v s' z => by
        obtain ⟨r, rfl, q⟩ := z
        repeat (first | exact q | exact wpAny_pure q | exact wpAny_truthy_bool q | (refine wpAny_bind (m := truthy (.bool _)) (wpAny_truthy_bool ?_)) | wp_step)) fun _ _ z => z)))
    | wp_step)
theorem ne_try {Q : Option Value → Shared → Prop} (hu : A.units + 1 < cLine) (X : K.In s.heap) (I : InstAt s.heap x ox C od) (hm : mroIn K C (.type "object") = some true) (hn : findIn K (.ref C) "__ne__" = some (some (.builtin "object.__ne__")))
    (hs : findIn K (.ref C) "__eq__" = some (some (.ref f))) (hf : isFn K (.ref f) = true)
    (hc : wpAny (model prog w) A.in1 (call (.ref f) [.ref x, b]) (fun v s' => ∃ r, v = .bool r ∧ Q (some (.bool (!r))) s') E s) : wpAny (model prog w) A (tryCompare (.ref x) "__ne__" b) Q E s := by
  unfold tryCompare
  refine wpAny_bind (ifb_ne X I hn ?_)
  have sub : Looks (model prog w) s.heap (isInstance (.ref x) (.type "object")) true := I.type.andThen (looks_mroIn X hm)
  refine wpAny_call (codeAny_call_builtin F.cmp_object.ne.plain F.cmpEntry_ne (check_slot F.cmpKind_ne F.cmpSplit_ne sub (F.cmpArgs_ne _ _) (ne_entry (A := A.in1) hu X I hs hf (wpAny_mono hc (fun v s' z => ?_) fun _ _ e => e))))
  obtain ⟨r, rfl, q⟩ := z
  first | exact ⟨r, rfl, wpAny_pure q⟩ | exact ⟨r, rfl, wpAny_pure (wpAny_pure q)⟩ | exact ⟨r, rfl, q⟩
theorem rc_ne {Q : Value → Shared → Prop} (hu : A.units + 1 < cLine) (X : K.In s.heap) (I : InstAt s.heap x ox C od) (hb : Looks (model prog w) s.heap (typeOf b) t) (hn : notFirst K C t = true) (hm : mroIn K C (.type "object") = some true)
    (hne : findIn K (.ref C) "__ne__" = some (some (.builtin "object.__ne__"))) (hs : findIn K (.ref C) "__eq__" = some (some (.ref f))) (hf : isFn K (.ref f) = true)
    (hc : wpAny (model prog w) A.in1 (call (.ref f) [.ref x, b]) (fun v s' => ∃ r, v = .bool r ∧ Q (.bool (!r)) s') E s) : wpAny (model prog w) A (richCompare .NotEq (.ref x) b) Q E s := by
  have one : wpAny (model prog w) A (tryCompare (.ref x) "__ne__" b) (fun r s' => ∃ v, r = some v ∧ Q v s') E s :=
    ne_try hu X I hm hne hs hf (wpAny_mono hc (fun v s' ⟨r, e, q⟩ => ⟨r, e, _, rfl, q⟩) fun _ _ e => e)
  have hu0 : A.units < cLine := by omega
  unfold richCompare
  simp only [oneThing_ref, cmpInfo_NotEq]
  refine wpAny_holding (wpAny_bind (wpAny_cRoomFor hu0 (wpAny_bind (I.type.here (wpAny_bind (hb.here ?_))))))
  split
  · rename_i q
    have e : subIn K t (.ref C) = some false := (Bool.or_eq_true_iff.mp hn).elim (fun e => by rw [beq_iff_eq.mp e] at q; simp at q) beq_iff_eq.mp
    refine wpAny_bind ((looks_subIn X e).here ?_)
    simp only [Bool.false_eq_true, if_false]
    refine wpAny_bind (wpAny_mono one (fun r s' ⟨v, hv, hq⟩ => by subst hv; exact wpAny_pure hq) fun _ _ e => e)
  · refine wpAny_bind (wpAny_pure ?_)
    simp only [Bool.false_eq_true, if_false]
    refine wpAny_bind (wpAny_mono one (fun r s' ⟨v, hv, hq⟩ => by subst hv; exact wpAny_pure hq) fun _ _ e => e)
end
section
variable {X : Cx} {CX : CXT} {C g : Addr} {n : Nat} {sp : Sp} {E : XK}
/-- x != y, x an instance of the class at C whose own __eq__ is at g -/
def rNeI (K : PySem.W.Frag) (C : Addr) (sp : Sp) (E : XK) : R2 := fun x y H Q => ∃ a dx fs t, x = .ref a ∧ H a = some (.ins C dx fs) ∧ TyX K H y t ∧ PySem.W.notFirst K C t = true ∧ sp [x, y] H (fun v H' => ∃ r, v = .bl r ∧ Q (.bl (!r)) H') E
structure NeC (K : PySem.W.Frag) (C g : Addr) : Prop where
  mr : PySem.W.mroIn K C (.type "object") = some true
  ne : PySem.W.findIn K (.ref C) "__ne__" = some (some (.builtin "object.__ne__"))
  eq : PySem.W.findIn K (.ref C) "__eq__" = some (some (.ref g))
  fn : PySem.W.isFn K (.ref g) = true
theorem op_neI (N : NeC X.K C g) (F : FnR X.prog X.w X.K X.mg X.base CX n g sp) (hr : Room (n + 1) X.A) (hx : Passes CX X E) : OpR X (compareOp .NotEq) (rNeI X.K C sp E) := by
  intro pins s σ H x y v u Q I rx ry h
  obtain ⟨a, dx, fs, t, rfl, ha, ty, hn, q⟩ := h
  cases (show v = Value.ref a from rx)
  obtain ⟨mA, O, _⟩ := ins_get I.hok ha
  obtain ⟨od, J, _⟩ := O.look
  show wpAny _ _ (richCompare .NotEq (.ref a) u) _ _ _
  refine rc_ne (t := t) (by have := hr.units; omega) I.kIn J (looks_ty I ry ty) hn N.mr N.ne N.eq N.fn ?_
  have e1 : Env0 X.prog X.w X.K X.mg X.base X.A.in1 X.stack s H := ⟨I.env0.frames, I.env0.mod, I.env0.bs, I.env0.bsz, I.env0.funs, I.env0.frf, I.env0.hok, I.env0.bare⟩
  refine wpAny_call (codeAny_mono (F X.A.in1 X.stack s H [.ref a, u] [.ref a, y] _ E hr.in1 e1 (.cons rfl (.cons ry .nil)) q) fun r s' hq => ?_)
  cases r with
  | error e => exact hx pins σ H s e s' I hq
  | ok fl =>
    cases fl with
    | ret w' =>
      obtain ⟨z', H', J', rz, r', rfl, q'⟩ := I.after hq
      cases (show w' = Value.bool r' from rz)
      exact ⟨r', rfl, .bl (!r'), H', J', rfl, q'⟩
    | next => exact False.elim hq
    | brk => exact False.elim hq
    | cont => exact False.elim hq
end
/-! ### an own __eq__ that declines -/
/-- what stands behind a call that declined -/
def Declined (outer : List Env) (P : Program) (w : World) (H : Hp) (s : Shared) (Q : Hp → Prop) (s' : Shared) : Prop := ∃ H', s'.os = s.os ∧ AllBare s'.gens ∧ Un (frs outer) [] H H' s.heap s'.heap ∧ HOk P w H' s'.heap ∧ Q H'
def DeclOk (P : Program) (w : World) (K : PySem.W.Frag) (mg : Str → Option Value) (base : Heap) (k : Nat) (f : Addr) (sp : List V → Hp → (Hp → Prop) → Prop) : Prop :=
  ∀ (A : Around) (outer : List Env) (s : Shared) (H : Hp) (us : List Value) (vs : List V) (Q : Hp → Prop), Room k A → Env0 P w K mg base A outer s H → Vals vs us → sp vs H Q →
    codeAny (model P w) A (.call (.ref f) ⟨us, []⟩) (fun r s' => r = .ok (.ret .notImplemented) ∧ Declined outer P w H s Q s') s
theorem decl_of {P : Program} {w : World} {K : PySem.W.Frag} {mg : Str → Option Value} {base : Heap} {k : Nat} {f : Addr} {name qual : Str} {params : Arguments} {body rest : List Stmt} {scope : Scope} {dV kV doc pm cdv ct oc : Value} {an od : Option Addr}
    {osl : Array (Option Value)} {N ps : List Str} {sp : List V → Hp → (Hp → Prop) → Prop} {test : Expr} {p1 p2 p3 : Pos} (lk : K.lookup f = some ⟨oc, od, .func (PySem.W.fnOf name qual params body scope dV kV doc pm an cdv ct), osl⟩) (hcd : PySem.W.codeIn K cdv qual = true) (S : FnScope N ps scope)
    (len : ∀ vs H Q, sp vs H Q → vs.length = ps.length) (hb : Binds K (PySem.W.fnOf name qual params body scope dV kV doc pm an cdv ct) ps []) (hbody : body = .If test [.Return (some (.Name "NotImplemented" p1)) p2] [] p3 :: rest)
    (gl : scope.names.lookup ("NotImplemented" : Str) = some NameKind.globalImplicit) (gm : mg "NotImplemented" = none)
    (ht : ∀ (A : Around) (outer : List Env) (s : Shared) (H : Hp) (vs : List V) (Q : Hp → Prop), Room k (A.deeper (envOfC qual scope s.heap.objs.size f cdv)) → sp vs H Q →
      ∃ tt, PT (cxOf L2.CX0 P w K mg base N qual scope f cdv A outer s H L2.E0) test tt ∧ tt (start N vs) H (fun b H' => b = true ∧ Q H')) : DeclOk P w K mg base (k + 1) f sp := by
  intro A outer s H us vs Q hr e0 r hsp
  have hl := len _ _ _ hsp
  have inK : K.In s.heap := e0.mod.kin.keeps fun b o e => (e0.bs b o e).1
  have nolim : s.heap.NoLimit := e0.mod.nolimit.keeps fun b o e => (e0.bs b o e).1
  have kinds : ∀ y ∈ ps.zip us, scope.names.lookup y.1 = some .local ∨ (scope.names.lookup y.1 = some .cell ∧ ((cellsFrom (s.heap.objs.size + 1) scope.names []).lookup y.1).isSome = true) := fun ⟨n, v⟩ hy =>
    (S.par n (List.of_mem_zip hy).1).imp id fun q => ⟨q, PySem.W.cellsFrom_some _ _ _ (.inl q)⟩
  have hbd : BindsTo s (PySem.W.fnOf name qual params body scope dV kV doc pm an cdv ct) ⟨us, []⟩ (ps.zip us) := by
    have := hb s us inK (by rw [List.append_nil, ← r.length, hl])
    rw [List.append_nil] at this
    exact this
  refine codeAny_call_function hr.depth (inK _ _ lk) rfl S.co S.gen rfl (PySem.W.codeRec_of inK hcd) (hbd _ _ _ _ (wpAny_newFunctionEnv_cells S.kind kinds fun env he s1 x => ?_))
  subst he
  refine ⟨nolim.keeps x.toInCall.keep, codeAny_func ?_⟩
  obtain ⟨tt, hT, hq⟩ := ht A outer s H vs Q (hr.deeper _) hsp
  have I : Inv (cxOf L2.CX0 P w K mg base N qual scope f cdv A outer s H L2.E0) [] (start N vs) H s1 := inv_start S hr.hd e0 hl r x
  rw [hbody]
  have run : wpAny (model P w) (A.deeper (envOfC qual scope s.heap.objs.size f cdv)) (execs (.If test [.Return (some (.Name "NotImplemented" p1)) p2] [] p3 :: rest) (envOfC qual scope s.heap.objs.size f cdv))
      (fun fl s' => fl = .ret .notImplemented ∧ Declined outer P w H s Q s') (cxOf L2.CX0 P w K mg base N qual scope f cdv A outer s H L2.E0).xe s1 := by
    refine wpAny_execs_cons (wpAny_If (thn (hT.run [] s1 (start N vs) H _ I hq) fun d s2 ⟨H1, I1, hd, q1⟩ => ?_))
    subst hd
    refine wpAny_execs_cons (wpAny_Return_some (ld_blt I1 gl gm (by rfl) ⟨rfl, H1, I1.os, I1.bare, I1.base, I1.hok, q1⟩))
  refine wpAny_mono run (fun fl s' hs => ?_) fun e s' hs => ?_
  · obtain ⟨rfl, q⟩ := hs
    exact ⟨rfl, q⟩
  · exact wpAny_mono (show wpAny _ _ _ _ _ _ from hs) (fun _ _ z => (show False from z).elim) (fun _ _ z => (show False from z).elim)
section
variable {M : Model} {A : Around} {E : Value → Shared → Prop} {prog : Program} {w : World}
theorem str_eq_inst (b : Str) (u : Tok) (l C dx : Addr) :
    Meets (Builtin.«str.__eq__» ⟨[.str b u, .ref l], []⟩) (fun _ R s => s.heap.get? l = some (PySem.W.instObj C dx) ∧ R (.ok (.ret .notImplemented)) s) :=
  .of_wp fun P v B R z k => by
    obtain ⟨hp, g, d, tk, os⟩ := z
    obtain ⟨hl, k⟩ := k
    wp_walk using wpAny_loadPart' hl, wpAny_load hl
    exact ⟨_, rfl, k⟩
theorem tup_eq_inst {s : Shared} {l x C : Addr} {ox : Obj} {od : Option Obj} {K : PySem.W.Frag} {Q : Fin → Shared → Prop} (X : K.In s.heap) (I : PySem.W.InstAt s.heap x ox C od) (hm : PySem.W.mroIn K C (.type "tuple") = some false) (h : Q (.done (.ret .notImplemented)) s) :
    wpAny (model prog w) A (Builtin.«tuple.__eq__» ⟨[.ref l, .ref x], []⟩) Q E s := by
  have sub : ∀ {E : Value → Shared → Prop} {Q : Bool → Shared → Prop}, Q false s → wpAny (model prog w) A (isInstance (.ref x) (.type "tuple")) Q E s := fun {E Q} q => by
    have L : PySem.W.Looks (model prog w) s.heap (isInstance (.ref x) (.type "tuple")) false := I.type.andThen (PySem.W.looks_mroIn X hm)
    exact L.here q
  obtain ⟨hp, g, d, tk, os⟩ := s
  wp_walk using sub
  exact h
end
section
variable {X : Cx} {C g : Addr} {n : Nat} {sp : List V → Hp → (Hp → Prop) → Prop}
/-- x == y, x an instance whose own __eq__ declines; y None, a text, a tuple -/
def rEqDecl (C : Addr) (sp : List V → Hp → (Hp → Prop) → Prop) : R2 := fun x y H Q => ∃ a dx fs, x = .ref a ∧ H a = some (.ins C dx fs) ∧ (y = .non ∨ (∃ z, y = .str z) ∨ ∃ l xs, y = .ref l ∧ H l = some (.tup xs)) ∧ sp [x, y] H (fun H' => Same H H' ∧ Q (.bl false) H')
structure DeC (K : PySem.W.Frag) (C g : Addr) : Prop where
  mt : PySem.W.mroIn K C (.type "tuple") = some false
  eq : PySem.W.findIn K (.ref C) "__eq__" = some (some (.ref g))
  fn : PySem.W.isFn K (.ref g) = true
  s0 : PySem.W.subIn K (.type "NoneType") (.ref C) = some false
  s1 : PySem.W.subIn K (.type "str") (.ref C) = some false
  s2 : PySem.W.subIn K (.type "tuple") (.ref C) = some false
theorem eqDecl_core {A : Around} {E : Value → Shared → Prop} {s : Shared} {x : Addr} {u t : Value} {Q : Value → Shared → Prop} {od : Option Obj} {ox : Obj} (hu : A.units < cLine) (XK : X.K.In s.heap) (J : PySem.W.InstAt s.heap x ox C od) (D : DeC X.K C g)
    (hb : PySem.W.Looks (model X.prog X.w) s.heap (typeOf u) t) (ht : (Value.ref C != t) = true) (hsub : PySem.W.subIn X.K t (.ref C) = some false)
    (h : wpAny (model X.prog X.w) A (call (.ref g) [.ref x, u]) (fun v s' => v = .notImplemented ∧ wpAny (model X.prog X.w) A (tryCompare u "__eq__" (.ref x)) (fun r s2 => r = none ∧ wpAny (model X.prog X.w) A (isSame (.ref x) u) (fun b s3 => b = false ∧ Q (.bool false) s3) E s2) E s') E s) :
    wpAny (model X.prog X.w) A (richCompare .Eq (.ref x) u) Q E s := by
  have one : wpAny (model X.prog X.w) A (tryCompare (.ref x) "__eq__" u) (fun r s' => r = none ∧ wpAny (model X.prog X.w) A (tryCompare u "__eq__" (.ref x)) (fun r s2 => r = none ∧ wpAny (model X.prog X.w) A (isSame (.ref x) u) (fun b s3 => b = false ∧ Q (.bool false) s3) E s2) E s') E s := by
    unfold tryCompare
    refine wpAny_bind (PySem.W.ifBound_K XK J D.eq D.fn (wpAny_mono h (fun v s' ⟨e, q⟩ => ?_) fun _ _ e => e))
    subst e
    exact wpAny_pure ⟨rfl, q⟩
  simp only [richCompare, cmpInfo_Eq, oneThing_ref]
  refine wpAny_holding (wpAny_bind (wpAny_cRoomFor hu (wpAny_bind (J.type.here (wpAny_bind (hb.here ?_))))))
  rw [if_pos ht]
  refine wpAny_bind ((PySem.W.looks_subIn XK hsub).here ?_)
  simp only [Bool.false_eq_true, if_false, Bool.not_false, if_true]
  refine wpAny_bind (m := tryCompare (.ref x) _ u) (wpAny_mono one (fun r s1 ⟨z1, z2⟩ => ?_) fun _ _ e => e)
  subst z1
  refine wpAny_bind (m := tryCompare u _ (.ref x)) (wpAny_mono z2 (fun r s2 ⟨z3, z4⟩ => ?_) fun _ _ e => e)
  subst z3
  refine wpAny_bind (wpAny_rule (wpAny_bind (wpAny_mono z4 (fun b s3 ⟨z5, z6⟩ => ?_) fun _ _ e => e)))
  subst z5
  exact wpAny_pure z6
theorem op_eqDecl (D : DeC X.K C g) (FD : DeclOk X.prog X.w X.K X.mg X.base n g sp) (hr : Room n X.A) : OpR X (compareOp .Eq) (rEqDecl C sp) := by
  intro pins s σ H x y v u Q I rx ry h
  obtain ⟨a, dx, fs, rfl, ha, ty, q⟩ := h
  cases (show v = Value.ref a from rx)
  obtain ⟨mA, O, _⟩ := ins_get I.hok ha
  obtain ⟨od, J, _⟩ := O.look
  show wpAny _ _ (richCompare .Eq (.ref a) u) _ _ _
  have after : ∀ (t : Value), (Value.ref C != t) = true → PySem.W.subIn X.K t (.ref C) = some false → PySem.W.Looks (model X.prog X.w) s.heap (typeOf u) t →
      (∀ (s' : Shared) (H' : Hp), Inv X pins σ H' s' → Same H H' → Q (.bl false) H' → wpAny (model X.prog X.w) X.A (tryCompare u "__eq__" (.ref a)) (fun r s2 => r = none ∧ wpAny (model X.prog X.w) X.A (isSame (.ref a) u) (fun b s3 => b = false ∧ EP X pins σ Q (.bool false) s3) X.xe s2) X.xe s') →
      wpAny (model X.prog X.w) X.A (richCompare .Eq (.ref a) u) (EP X pins σ Q) X.xe s := fun t h1 h2 h3 hs => by
    refine eqDecl_core hr.units0 I.kIn J D h3 h1 h2 (wpAny_call (codeAny_mono (FD X.A X.stack s H [.ref a, u] [.ref a, y] _ hr I.env0 (.cons rfl (.cons ry .nil)) q) fun r s' hq => ?_))
    obtain ⟨rfl, H', os, bare, un, hok, sm, qq⟩ := hq
    obtain ⟨hh, g', d, tk, os'⟩ := s'
    obtain rfl : os' = s.os := os
    exact ⟨rfl, hs _ H' (I.call (h' := hh) (g' := g') (d' := d) (t' := tk) (ch := []) un hok bare (fun b z => absurd z (by simp))) sm qq⟩
  rcases ty with rfl | ⟨z, rfl⟩ | ⟨l, xs, rfl, hl⟩
  · cases (show u = Value.none from ry)
    refine after (.type "NoneType") (by rfl) D.s0 (PySem.W.kitx_none.ty _ _ I.kIn True.intro) fun s' H' I' sm qq => ?_
    refine wpAny_tryCompare_declines (show s'.TypeIs .none "NoneType" from rfl) F.slot_NoneType_eq_refl (call_gives F.slot_NoneType_eq_refl rfl F.entry_NoneType_eq (F.args_NoneType_eq_2 _ _) (SeqAt.NoneType___eq___none_ref_0 a) ⟨rfl, rfl, ?_⟩)
    exact wpAny_of_eq (rfl : isSame (.ref a) .none = pure false) ⟨rfl, .bl false, H', I', rfl, qq⟩
  · obtain ⟨tk, rfl⟩ := ry
    refine after (.type "str") (by rfl) D.s1 (PySem.W.kitx_str.ty _ _ I.kIn True.intro) fun s' H' I' sm qq => ?_
    have hx : ∃ dx', s'.heap.get? a = some (PySem.W.instObj C dx') := by
      obtain ⟨_, _, _, h4, _⟩ := (show ObjOk X.prog X.w H' s'.heap a (.ins C dx fs) from I'.hok a _ (sm _ _ ha))
      exact ⟨dx, h4⟩
    obtain ⟨dx', h4⟩ := hx
    refine wpAny_tryCompare_declines (typeIs_str s' z tk) F.slot_str_eq_refl (call_meets F.slot_str_eq_refl (typeIs_str s' z tk) F.entry_str_eq (F.args_str_eq_2 _ _) (str_eq_inst z tk a C dx') ⟨h4, rfl, rfl, ?_⟩)
    exact wpAny_of_eq (rfl : isSame (.ref a) (.str z tk) = pure false) ⟨rfl, .bl false, H', I', rfl, qq⟩
  · cases (show u = Value.ref l from ry)
    obtain ⟨_, _, _, o, h1, h2, _⟩ := (show ObjOk X.prog X.w H s.heap l (.tup xs) from I.hok l _ hl)
    refine after (.type "tuple") (by rfl) D.s2 (PySem.W.kitx_tuple.ty _ _ I.kIn ⟨o, h1, h2⟩) fun s' H' I' sm qq => ?_
    obtain ⟨_, _, _, o', h1', h2', _⟩ := (show ObjOk X.prog X.w H' s'.heap l (.tup xs) from I'.hok l _ (sm _ _ hl))
    obtain ⟨mA', O', _⟩ := ins_get I'.hok (sm _ _ ha)
    obtain ⟨od', J', _⟩ := O'.look
    obtain ⟨ob', gob', cob'⟩ : ∃ ob, s'.heap.get? a = some ob ∧ ob.cls = .ref C := ⟨_, J'.1, J'.2⟩
    have hT : s'.TypeIs (.ref l) "tuple" := ⟨o', h1', h2'⟩
    have nla : a ≠ l := ne_of (sm _ _ ha) (sm _ _ hl) (fun z => nomatch z)
    refine wpAny_tryCompare_declines hT F.slot_tuple_eq_refl (wpAny_call (codeAny_call_builtin F.slot_tuple_eq_refl.plain F.entry_tuple_eq (F.slot_tuple_eq_refl.check _ _ _ _ _ _ _ _ hT (F.args_tuple_eq_2 _ _) (tup_eq_inst I'.kIn J' D.mt ⟨rfl, rfl, ?_⟩))))
    exact wpAny_isSame_ref_other nla gob' h1' (by rw [cob']; exact fun z => nomatch z) ⟨rfl, .bl false, H', I', rfl, qq⟩
end
end MyE
set_option Elab.async false
set_option linter.all false
set_option maxRecDepth 100000
set_option maxHeartbeats 2000000
namespace MyQ
open PySem PySem.SeqAt
open AutoSeq1 (wpAny_loadPart')
open MeetsSeq MeetsSeq2 MeetsSeq3 SeqRoads2
section
variable {prog : Program} {w : World} {A : Around} {R : Result → Shared → Prop}
/-- two tuples compared pair by pair, the first unlike pair ends it -/
theorem tupEq_two (l b : Addr) (xs ys : Array Value) (nx ny : Nat) (dx dy : Option Addr) (slx sly : Array (Option Value)) (J : Nat → Shared → Prop) (F : Shared → Prop)
    (step : ∀ i (h1 : i < xs.size) (h2 : i < ys.size) s, J i s → wpAny (model prog w) A.in1 (eqBool xs[i] ys[i]) (fun r s' => (r = true ∧ J (i + 1) s') ∨ (r = false ∧ F s')) (fun e s' => R (.error e) s') s)
    (all : ∀ i s, i ≤ xs.size → i ≤ ys.size → (i = xs.size ∨ i = ys.size) → J i s → R (.ok (.ret (.bool (xs.size == ys.size)))) s) (none : ∀ s, F s → R (.ok (.ret (.bool false))) s) {s : Shared}
    (h1 : s.heap.get? l = some ⟨.type "tuple", dx, .seq xs nx, slx⟩) (h2 : s.heap.get? b = some ⟨.type "tuple", dy, .seq ys ny, sly⟩) (j0 : J 0 s) :
    wpAny (model prog w) A.in1 (Builtin.«tuple.__eq__» ⟨[.ref l, .ref b], []⟩) (GQ.FinOf prog w A R) (fun e s' => R (.error e) s') s := by
  have f2 := AutoSeq1.sub_tuple_tuple
  have hz : (xs.toList.zip ys.toList).length = min xs.size ys.size := by simp
  have j1 := j0
  obtain ⟨hp, g, d, tk, os⟩ := s
  wp_walk using wpAny_loadPart' h1, wpAny_loadPart' h2, wpAny_forIn_list _ (fun rest b s' => b.1 = Option.none ∧ ∃ i, rest = (xs.toList.zip ys.toList).drop i ∧ i ≤ min xs.size ys.size ∧ J i s') _
  case turn =>
    rintro ⟨y, x⟩ rest b s' ⟨hb, i, hr, hi, hI⟩
    have lt : i < (xs.toList.zip ys.toList).length := by
      refine Nat.lt_of_not_le fun q => ?_
      rw [List.drop_of_length_le q] at hr
      cases hr
    have lx : i < xs.size := by omega
    have ly : i < ys.size := by omega
    rw [List.drop_eq_getElem_cons lt] at hr
    obtain ⟨e1, e2⟩ := List.cons.inj hr
    have ex : y = xs[i] := by simpa using congrArg Prod.fst e1
    have ey : x = ys[i] := by simpa using congrArg Prod.snd e1
    subst ex
    subst ey
    refine wpAny_bind (wpAny_mono (step i lx ly s' hI) (fun r s2 q => ?_) fun _ _ x => x)
    rcases q with ⟨rfl, q⟩ | ⟨rfl, q⟩
    · wp_walk
      exact ⟨rfl, i + 1, e2, by omega, q⟩
    · wp_walk
      exact none _ q
  case fin =>
    rintro ⟨b1, b2⟩ s' ⟨hb, i, hr, hi, hI⟩
    simp only at hb
    subst hb
    have ge : min xs.size ys.size ≤ i := by
      refine Nat.le_of_not_lt fun q => ?_
      rw [List.drop_eq_getElem_cons (by omega)] at hr
      cases hr
    have hR := all i s' (by omega) (by omega) (by omega) hI
    wp_walk
    simpa [Builtin.Tuple.tupleCompareSizes] using hR
  case h =>
    exact ⟨rfl, 0, rfl, Nat.zero_le _, j1⟩
end
section
variable {prog : Program} {w : World} {A : Around} {E : Value → Shared → Prop} {s : Shared}
/-- the same by richCompare -/
theorem tupRc_two {l b : Addr} {xs ys : Array Value} {Q : Value → Shared → Prop} (hu : A.units < cLine) (J : Nat → Shared → Prop) (G : Shared → Prop) (hl : s.heap.IsTuple l xs) (hb : s.heap.IsTuple b ys)
    (step : ∀ i (h1 : i < xs.size) (h2 : i < ys.size) s, J i s → wpAny (model prog w) A.in1 (eqBool xs[i] ys[i]) (fun r s' => (r = true ∧ J (i + 1) s') ∨ (r = false ∧ G s')) E s)
    (all : ∀ i s, i ≤ xs.size → i ≤ ys.size → (i = xs.size ∨ i = ys.size) → J i s → Q (.bool (xs.size == ys.size)) s) (none : ∀ s, G s → Q (.bool false) s) (j0 : J 0 s) :
    wpAny (model prog w) A (richCompare .Eq (.ref l) (.ref b)) Q E s := by
  obtain ⟨⟨c1, d1, t1, g1⟩, o1, k1, n1, z1⟩ := id hl
  obtain ⟨⟨c2, d2, t2, g2⟩, o2, k2, n2, z2⟩ := id hb
  simp only at k1 z1 k2 z2
  subst k1 z1 k2 z2
  refine wpAny_richCompare_same_room (op := .Eq) ⟨_, o1, rfl⟩ ⟨_, o2, rfl⟩ PySem.F.slot_tuple_eq ?_ hu
  refine GQ.call_here PySem.F.slot_tuple_eq ⟨_, o1, rfl⟩ PySem.F.entry_tuple_eq (PySem.F.args_tuple_eq_2 _ _) ?_
  exact tupEq_two (R := wants (fun v s' => v ≠ .notImplemented ∧ Q v s') E) l b xs ys n1 n2 d1 d2 g1 g2 J G step (fun i s' a1 a2 a3 q => ⟨fun x => (nomatch x), all i s' a1 a2 a3 q⟩) (fun s' q => ⟨fun x => (nomatch x), none s' q⟩) o1 o2 j0
end
end MyQ
namespace MyQ
open PySem PySem.Spec PyProof.Rows L2 My
/-- x == y answers this Bool, here and in every greater heap -/
abbrev RelB := V → V → Bool → Hp → Prop
def MonB (D : RelB) : Prop := ∀ x y r H H', L2.Ext H H' → D x y r H → D x y r H'
/-- what == does within a list or tuple -/
def EqB (X : Cx) (n : Nat) (D : RelB) : Prop := ∀ (B : Around) (pins : List (Addr × Obj)) (t : Shared) (σ : L2.St) (H : Hp) (x y : V) (r : Bool) (u v : Value), L2.Sub X n B → Inv X pins σ H t → RelV x u → RelV y v → D x y r H →
  wpAny (model X.prog X.w) B (eqBool u v) (fun q t' => q = r ∧ LoopI X pins σ H t') X.xe t
/-- what == does as an operator -/
def RcB (X : Cx) (n : Nat) (D : RelB) : Prop := ∀ (B : Around) (pins : List (Addr × Obj)) (t : Shared) (σ : L2.St) (H : Hp) (x y : V) (r : Bool) (u v : Value), L2.Sub X n B → Inv X pins σ H t → RelV x u → RelV y v → D x y r H →
  wpAny (model X.prog X.w) B (richCompare .Eq u v) (fun q t' => q = .bool r ∧ LoopI X pins σ H t') X.xe t
section
variable {X : Cx} {n m : Nat} {D D' : RelB}
theorem EqB.mono (h : EqB X n D) (hn : n ≤ m) : EqB X m D := fun B pins t σ H x y r u v sb => h B pins t σ H x y r u v (sb.mono hn)
theorem EqB.or (h : EqB X n D) (h' : EqB X n D') : EqB X n (fun x y r H => D x y r H ∨ D' x y r H) := fun B pins t σ H x y r u v sb I rx ry d =>
  d.elim (fun d => h B pins t σ H x y r u v sb I rx ry d) (fun d => h' B pins t σ H x y r u v sb I rx ry d)
def DFlatB : RelB := fun x y r _ => flatV x = true ∧ flatV y = true ∧ eqV x y = r
theorem mon_flatB : MonB DFlatB := fun _ _ _ _ _ _ d => d
theorem eqB_flat : EqB X 0 DFlatB := by
  intro B pins t σ H x y r u v _ I rx ry d
  have q := eqAt_V (A := B) (s := t) rx ry d.1 d.2.1
  rw [d.2.2] at q
  exact q X.prog X.w X.xe _ ⟨rfl, H, I, Ext.rfl'⟩
/-- two tuples, item by item -/
def DTupB (K : PySem.W.Frag) (D : RelB) : RelB := fun x y r H => ∃ a b xs ys, x = .ref a ∧ y = .ref b ∧ SqT K H a xs ∧ SqT K H b ys ∧
  ∃ f : Nat → Bool, (∀ i x y, xs[i]? = some x → ys[i]? = some y → D x y (f i) H) ∧ ((r = true ∧ xs.length = ys.length ∧ ∀ i, i < xs.length → f i = true) ∨ (r = false ∧ (xs.length ≠ ys.length ∨ ∃ i, i < xs.length ∧ f i = false)))
theorem mon_tupB {K : PySem.W.Frag} (hD : MonB D) : MonB (DTupB K D) := fun x y r H H' e d => by
  obtain ⟨a, b, xs, ys, hx, hy, h1, h2, f, hf, hr⟩ := d
  exact ⟨a, b, xs, ys, hx, hy, h1.ext e, h2.ext e, f, fun i x y p q => hD _ _ _ _ _ e (hf i x y p q), hr⟩
theorem item_at {xs : List V} {its : List Value} (r : Vals xs its) {i : Nat} (h : i < its.toArray.size) : ∃ x, xs[i]? = some x ∧ RelV x its.toArray[i] := by
  have hi : i < its.length := by simpa using h
  have k : i < xs.length := by rw [r.length]; exact hi
  obtain ⟨u, hu, ru⟩ := r.get (List.getElem?_eq_getElem k)
  refine ⟨xs[i], List.getElem?_eq_getElem k, ?_⟩
  have e : its[i]? = some its.toArray[i] := by rw [List.getElem?_eq_getElem hi] <;> simp
  rw [e] at hu
  rw [Option.some.inj hu]
  exact ru
theorem rcB_tup (hD : MonB D) (h : EqB X n D) : RcB X (n + 1) (DTupB X.K D) := by
  intro B pins t σ H x y r u v sb I rx ry d
  obtain ⟨a, b, xs, ys, rfl, rfl, ha, hb, f, hf, hr⟩ := d
  cases rx
  cases ry
  obtain ⟨i1, r1, e1, _⟩ := I.tuple ha
  obtain ⟨i2, r2, e2, _⟩ := I.tuple hb
  have l1 : i1.toArray.size = xs.length := by rw [List.size_toArray, ← r1.length]
  have l2 : i2.toArray.size = ys.length := by rw [List.size_toArray, ← r2.length]
  refine tupRc_two sb.room.units0 (fun i t' => (∀ j, j < i → f j = true) ∧ LoopI X pins σ H t') (fun t' => (∃ j, j < xs.length ∧ f j = false) ∧ LoopI X pins σ H t') e1 e2 (fun i h1 h2 t' q => ?_) (fun i t' a1 a2 a3 q => ?_) (fun t' q => ?_)
    ⟨fun j hj => absurd hj (Nat.not_lt_zero _), H, I, Ext.rfl'⟩
  · obtain ⟨q1, H1, I1, x1⟩ := q
    obtain ⟨x, gx, ux⟩ := item_at r1 h1
    obtain ⟨y, gy, uy⟩ := item_at r2 h2
    refine wpAny_mono (h B.in1 pins t' σ H1 x y (f i) _ _ sb.in1 I1 ux uy (hD _ _ _ _ _ x1 (hf i x y gx gy))) (fun r s2 q => ?_) fun _ _ z => z
    obtain ⟨rfl, H2, I2, x2⟩ := q
    cases hfi : f i
    · exact .inr ⟨rfl, ⟨i, l1 ▸ h1, hfi⟩, H2, I2, x1.trans x2⟩
    · refine .inl ⟨rfl, fun j hj => ?_, H2, I2, x1.trans x2⟩
      rcases Nat.lt_succ_iff_lt_or_eq.mp hj with hj | rfl
      · exact q1 j hj
      · exact hfi
  · obtain ⟨q1, q2⟩ := q
    rw [l1, l2] at *
    refine ⟨congrArg Value.bool ?_, q2⟩
    rcases hr with ⟨rfl, hl, _⟩ | ⟨rfl, hl⟩
    · exact beq_iff_eq.mpr hl
    · refine beq_eq_false_iff_ne.mpr fun q => ?_
      rcases hl with hl | ⟨j, hj, hfj⟩
      · exact hl q
      · have := q1 j (by omega)
        rw [hfj] at this
        cases this
  · obtain ⟨⟨j, hj, hfj⟩, q2⟩ := q
    refine ⟨congrArg Value.bool ?_, q2⟩
    rcases hr with ⟨rfl, _, hl⟩ | ⟨rfl, _⟩
    · rw [hl j hj] at hfj
      cases hfj
    · rfl
/-- instances of one class with an own ==: what R says of the two -/
def DInsB (C : Addr) (R : Addr → Addr → Bool → Hp → Prop) : RelB := fun x y r H => ∃ a b dx dy fs gs, x = .ref a ∧ y = .ref b ∧ H a = some (.ins C dx fs) ∧ H b = some (.ins C dy gs) ∧ R a b r H
theorem mon_insB {C : Addr} {R : Addr → Addr → Bool → Hp → Prop} (hR : ∀ a b r H H', L2.Ext H H' → R a b r H → R a b r H') : MonB (DInsB C R) := fun x y r H H' e d => by
  obtain ⟨a, b, dx, dy, fs, gs, hx, hy, h1, h2, z⟩ := d
  exact ⟨a, b, dx, dy, fs, gs, hx, hy, e _ _ h1, e _ _ h2, hR _ _ _ _ _ e z⟩
theorem rcB_ins {CX : CXT} {C f : Addr} {sp : Sp} {R : Addr → Addr → Bool → Hp → Prop} {E : XK} (F : FnR X.prog X.w X.K X.mg X.base CX n f sp) (hR : ∀ a b r H, R a b r H → sp [.ref a, .ref b] H (fun v H' => v = .bl r ∧ L2.Ext H H') E)
    (hs : PySem.W.findIn X.K (.ref C) "__eq__" = some (some (.ref f))) (hf : PySem.W.isFn X.K (.ref f) = true) (hx : Passes CX X E) : RcB X n (DInsB C R) := by
  intro B pins t σ H x y r u v sb I rx ry d
  obtain ⟨a, b, dx, dy, fs, gs, rfl, rfl, ha, hb, hr⟩ := d
  cases rx
  cases ry
  obtain ⟨mA, J, _⟩ := ins_get I.hok ha
  obtain ⟨mB, J', _⟩ := ins_get I.hok hb
  obtain ⟨od, J, _⟩ := J.look
  obtain ⟨od', J', _⟩ := J'.look
  obtain ⟨m, hF⟩ := I.fr
  refine PySem.W.cmp_K (op := .Eq) (tb := .ref C) sb.room.units0 hF I.ok.mod.kin J J'.type (by simp [PySem.W.notFirst]) hs hf ?_
  have e0 := I.env0
  have e1 : Env0 X.prog X.w X.K X.mg X.base B X.stack t H := ⟨by rw [sb.fr]; exact e0.frames, e0.mod, e0.bs, e0.bsz, e0.funs, e0.frf, e0.hok, e0.bare⟩
  refine wpAny_mono (wpAny_call (SlX.run_at (us := [.ref a, .ref b]) (ws := [.ref a, .ref b]) F sb.room e1 hx I (.cons rfl (.cons rfl .nil)) (hR a b r H hr))) (fun w s' z => ?_) fun _ _ x => x
  obtain ⟨z', H', I', rz, ez, ex⟩ := z
  subst ez
  cases rz
  exact ⟨rfl, H', I', ex⟩
/-- as within a list or tuple: an object equals itself -/
theorem RcB.eqB (h : RcB X n D) (hr : ∀ x y r H, D x y r H → ∃ a b, x = .ref a ∧ y = .ref b ∧ (a = b → r = true)) : EqB X n D := by
  intro B pins t σ H x y r u v sb I rx ry d
  obtain ⟨a, b, rfl, rfl, he⟩ := hr _ _ _ _ d
  cases rx
  cases ry
  by_cases hab : a = b
  · subst hab
    rw [he rfl]
    exact SeqAt.EqAt.same (A := B) (s := t) (.ref a) X.prog X.w X.xe _ ⟨rfl, H, I, Ext.rfl'⟩
  · refine GQ.eqBool_refG hab (wpAny_mono (h B pins t σ H (.ref a) (.ref b) r _ _ sb I rfl rfl d) (fun q t' z => ?_) fun _ _ x => x)
    exact ⟨r, z.1, rfl, z.2⟩
def rEqB (D : RelB) : R2 := fun x y H Q => ∃ r, D x y r H ∧ ∀ H', L2.Ext H H' → Q (.bl r) H'
theorem op_eqB (h : RcB X n D) (hr : Room n X.A) : OpR X (compareOp .Eq) (rEqB D) := by
  intro pins t σ H x y v u Q I rx ry hq
  obtain ⟨r, d, q⟩ := hq
  show wpAny (model X.prog X.w) X.A (richCompare .Eq v u) (EP X pins σ Q) X.xe t
  refine wpAny_mono (h X.A pins t σ H x y r v u ⟨hr, rfl⟩ I rx ry d) (fun z t' hz => ?_) fun _ _ x => x
  obtain ⟨rfl, H', I', e⟩ := hz
  exact ⟨.bl r, H', I', rfl, q H' e⟩
end
end MyQ
set_option Elab.async false
set_option linter.all false
set_option maxRecDepth 100000
set_option maxHeartbeats 2000000
namespace MyD
open PySem PySem.Spec PyProof.Rows
section
variable {prog : Program} {w : World} {K : Type} [DecidableEq K] {knd : KeyKind prog w K} {A : Around} {E : Value → Shared → Prop} {s : Shared}
/-- one entry laid into a dict that is being displayed -/
theorem put_one {d : Addr} {kvs : List (K × Value)} {k : K} {key v : Value} {Q : Unit → Shared → Prop} (hk : knd.is k key = true) (hm : s.heap.DictOf knd d kvs)
    (q : ∀ h', h'.DictOf knd d (stored kvs k v) → Heap.SameBut d s.heap h' → Q () { s with heap := h' }) (hz : kvs.length ≤ sizeLine) : wpAny (model prog w) A (dictPut d (knd.hash k) key v) Q E s := by
  obtain ⟨o, es, ep, g1, g2, g3, g4, g5, g6⟩ := hm
  have ez : es.size ≤ sizeLine := by
    have a := g5.length
    have b : es.toList.length = es.size := by simp
    omega
  unfold dictPut
  refine wpAny_bind (wpAny_dictFind_of hk g1 g3 g4 ?_)
  have ix : (es.findIdx? fun e => knd.is k e.key) = kvs.findIdx? fun kv => decide (kv.1 = k) := by
    rw [← g5.findIdx k]
    obtain ⟨l⟩ := es
    simp
  cases hi : es.findIdx? fun e => knd.is k e.key with
  | some i =>
    refine wpAny_updateDict g1 g3 (q _ ⟨_, _, ep, Heap.get?_update_self _ g1 (Obj.isFreed_of_dict (Obj.data_mapDict g3 _)), g2.mapDict _, Obj.data_mapDict g3 _, g4.modify _ _, ?_, ?_⟩ (Heap.SameBut.update ..))
    · rw [stored, if_pos (any_of_findIdx_some (ix ▸ hi))]
      have hl : (es.toList.findIdx? fun e => knd.is k e.key) = some i := by
        rw [← hi]
        obtain ⟨l⟩ := es
        simp
      have z := g5.modify g6 hl v
      obtain ⟨l⟩ := es
      simpa using z
    · rw [stored, if_pos (any_of_findIdx_some (ix ▸ hi)), keys_map_store]
      exact g6
  | none =>
    have no : k ∉ kvs.map (·.1) := not_mem_of_findIdx_none (ix ▸ hi)
    have na : ¬ (kvs.any fun kv => decide (kv.1 = k)) = true := fun e => by
      rw [List.any_eq_true] at e
      obtain ⟨kv, m, e⟩ := e
      exact no (List.mem_map.mpr ⟨kv, m, of_decide_eq_true e⟩)
    refine wpAny_updateDictKeys (hz := ez) g1 g3 (q _ ⟨_, _, ep + 1, Heap.get?_update_self _ g1 (Obj.isFreed_of_dict (Obj.data_mapDictKeys g3 _)), g2.mapDictKeys _, Obj.data_mapDictKeys g3 _, g4.push hk _, ?_, ?_⟩ (Heap.SameBut.update ..))
    · rw [stored, if_neg na]
      have z := g5.append hk (knd.hash k) v
      obtain ⟨l⟩ := es
      simpa using z
    · rw [stored, if_neg na, List.map_append, List.nodup_append]
      refine ⟨g6, by simp, fun a ha b hb => ?_⟩
      simp only [List.map_cons, List.map_nil, List.mem_singleton] at hb
      subst hb
      exact fun e => no (e ▸ ha)
/-- ** of a dict in a display -/
theorem merge_all {d o : Addr} {kvs more : List (K × Value)} {Q : Unit → Shared → Prop} (ne : d ≠ o) (sy : (o == sysModules) = false) (hstr : ∀ k key, knd.is k key = true → ∀ a, key ≠ .ref a) (hd : s.heap.DictOf knd d kvs) (ho : s.heap.DictOf knd o more)
    (hz : kvs.length + more.length ≤ sizeLine) (q : ∀ h', h'.DictOf knd d (merged kvs more) → Heap.SameBut d s.heap h' → Q () { s with heap := h' }) : wpAny (model prog w) A (mergeMapping d (.ref o) false) Q E s := by
  obtain ⟨o1, e1, p1, a1, a2, a3, a4, a5, a6⟩ := id hd
  obtain ⟨o2, e2, p2, b1, b2, b3, b4, b5, b6⟩ := id ho
  have ln : more.length = e2.size := by rw [← b5.length]; simp
  unfold mergeMapping
  refine wpAny_bind ?_
  refine wpAny_isInstance ho.typeIs isSubtype_dict_dict ?_
  simp only [if_true]
  refine wpAny_bind (wpAny_specialOf ho.typeIs PySem.F.slot_dict_iter.lookup ?_)
  refine wpAny_bind (wpAny_pure ?_)
  simp only [beq_self_eq_true, sy, Bool.false_eq_true, if_false]
  refine wpAny_bind (wpAny_dictEntries a1 a3 ?_)
  have loop : wpAny (model prog w) A (do
      let l ← dictEntries o
      let epoch ← dictEpoch o
      forIn (List.range l.size) PUnit.unit fun i (_ : PUnit) => (do
          let l' ← dictEntries o
          match l'[i]? with
            | some e => do
              holding [e.key, e.val] (dictPut d e.hash e.key e.val)
              let ep' ← dictEpoch o
              if (ep' != epoch) = true then do
                  unsupported "dict.changed-during-merge"
                  pure (ForInStep.yield PUnit.unit)
                else pure (ForInStep.yield PUnit.unit)
            | _ => do
              unsupported "dict.changed-during-merge"
              pure (ForInStep.yield PUnit.unit))
      pure ()) Q E s := by
    refine wpAny_bind (wpAny_dictEntries b1 b3 ?_)
    refine wpAny_bind (wpAny_dictEpoch b1 b3 ?_)
    refine wpAny_bind ?_
    refine wpAny_forIn_list _ (fun rest _ s' => ∃ h' i, s' = { s with heap := h' } ∧ rest = List.range' i (e2.size - i) ∧ i ≤ e2.size ∧ h'.DictOf knd d (merged kvs (more.take i)) ∧ h'.get? o = some o2 ∧ Heap.SameBut d s.heap h') _ ?_ ?_ _ _
      ⟨s.heap, 0, rfl, by rw [List.range_eq_range', Nat.sub_zero], Nat.zero_le _, by simpa [merged] using hd, b1, Heap.SameBut.refl _ _⟩
    · rintro x rest b s' ⟨h', i, rfl, hr, hi, hd', ho', hs'⟩
      have lt : i < e2.size := by
        refine Nat.lt_of_not_le fun q => ?_
        rw [Nat.sub_eq_zero_of_le q] at hr
        simp at hr
      obtain ⟨rfl, rfl⟩ : x = i ∧ rest = List.range' (i + 1) (e2.size - (i + 1)) := by
        rw [show e2.size - i = (e2.size - (i + 1)) + 1 by omega, List.range'_succ] at hr
        exact List.cons.inj hr
      refine wpAny_bind (wpAny_dictEntries ho' b3 ?_)
      rw [Array.getElem?_eq_getElem lt]
      have lm : x < more.length := by omega
      have hkv : more[x]? = some more[x] := List.getElem?_eq_getElem lm
      obtain ⟨key, hval⟩ := b5.get? (e := e2[x]) (by simp [lt]) hkv
      obtain ⟨k2, hk2, hh⟩ := b4 e2[x] (Array.getElem_mem lt)
      obtain rfl : k2 = more[x].1 := knd.inj _ _ _ hk2 key
      show wpAny _ _ (holding [e2[x].key, e2[x].val] (dictPut d e2[x].hash e2[x].key e2[x].val) >>= _) _ _ _
      rw [hh, hval]
      have hm : (merged kvs (more.take x)).length ≤ sizeLine := by
        have z1 := merged_length_le kvs (more.take x)
        have z2 : (more.take x).length ≤ more.length := by
          rw [List.length_take]
          omega
        omega
      refine wpAny_bind (wpAny_holding (put_one key hd' (fun h2 hd2 hs2 => ?_) hm))
      have ho2 : h2.get? o = some o2 := (hs2.2 o (Ne.symm ne)).trans ho'
      refine wpAny_bind (wpAny_dictEpoch ho2 b3 ?_)
      rw [if_neg (by simp)]
      exact wpAny_pure ⟨h2, x + 1, rfl, rfl, lt, by rw [merged_take_succ kvs more x more[x] hkv]; exact hd2, ho2, hs'.trans hs2⟩
    · rintro b s' ⟨h', i, rfl, hr, hi, hd', ho', hs'⟩
      have ei : i = e2.size := by
        refine Nat.le_antisymm hi (Nat.le_of_not_lt fun q => ?_)
        rw [show e2.size - i = (e2.size - (i + 1)) + 1 by omega, List.range'_succ] at hr
        cases hr
      rw [ei, ← ln, List.take_length] at hd'
      exact wpAny_pure (q h' hd' hs')
  split
  · refine wpAny_bind (wpAny_dictEntries b1 b3 ?_)
    refine wpAny_bind ?_
    rw [← Array.forIn_toList]
    refine wpAny_forIn_list _ (fun rest _ s' => s' = s ∧ ∀ e ∈ rest, e ∈ e2.toList) _ ?_ ?_ _ _ ⟨rfl, fun e h => h⟩
    · rintro x rest b s' ⟨rfl, hm⟩
      obtain ⟨k2, hk2, _⟩ := b4 x (by simpa using hm x (List.mem_cons_self ..))
      have nr := hstr k2 x.key hk2
      split
      · rename_i a e
        exact absurd e (nr a)
      · exact wpAny_pure ⟨rfl, fun e h => hm e (List.mem_cons_of_mem _ h)⟩
    · rintro b s' ⟨rfl, _⟩
      exact loop
  · exact loop
end
end MyD
namespace MyD
open PySem PySem.Spec PyProof.Rows L2
section
variable {X : Cx} {e1 e2 : Expr} {ta tb : TE} {pos : Pos}
/-- {**a, **b}; the new dict stands while both are made -/
def tTwo (ta tb : TE) : TE := fun σ H Q => ∀ p, H p = none → ta σ (upd H p (.dK [])) fun x H1 => ∃ a ka, x = V.ref a ∧ a ≠ p ∧ H1 a = some (.dK ka) ∧ H1 p = some (.dK []) ∧ ka.length ≤ 1000 ∧
  tb σ (upd H1 p (.dK (mergeK [] ka))) fun y H2 => ∃ b kb, y = V.ref b ∧ b ≠ p ∧ H2 b = some (.dK kb) ∧ H2 p = some (.dK (mergeK [] ka)) ∧ kb.length ≤ 1000 ∧ Q (.ref p) (upd H2 p (.dK (mergeK (mergeK [] ka) kb)))
theorem mix_str {P : Program} {w : World} (k : Key) (key : Value) (h : (mixKind P w).is k key = true) (a : Addr) : key ≠ .ref a := by
  intro e
  subst e
  cases k <;> cases h
theorem line_two {n : Nat} (h : n ≤ 3000) : n ≤ sizeLine := Nat.le_trans h (by rw [sizeLine_eq]; decide)
/-- one part of the display -/
theorem merge_in {pins : List (Addr × Obj)} {σ : L2.St} {H : Hp} {t : Shared} {p a : Addr} {kp ka : List (Key × V)} {A : Around} {E : Value → Shared → Prop} {Q : Unit → Shared → Prop} (I : Inv X pins σ H t) (ne : a ≠ p) (ha : H a = some (.dK ka)) (hp : H p = some (.dK kp)) (la : ka.length ≤ 1000) (lp : kp.length ≤ 1000)
    (q : ∀ t', Inv X pins σ (upd H p (.dK (mergeK kp ka))) t' → Q () t') : wpAny (model X.prog X.w) A (mergeMapping p (.ref a) false) Q E t := by
  obtain ⟨z1, s1, v1, r1, d1⟩ := dk_of I.hok ha
  obtain ⟨z2, s2, v2, r2, d2⟩ := dk_of I.hok hp
  have l1 : v1.length = ka.length := r1.length.symm
  have l2 : v2.length = kp.length := r2.length.symm
  refine merge_all (Ne.symm ne) s1 mix_str d2 d1 (line_two (by omega)) fun h' d' sb => q _ ?_
  have lm : (mergeK kp ka).length ≤ sizeLine := line_two (by have := length_mergeK ka kp; omega)
  exact d_write I (by rw [hp]; exact True.intro) sb (let ⟨o, _, _, ho, _⟩ := d'; ⟨o, ho⟩) (dk_new lm s2 (r1.merge r2) d')
theorem pe_two (h1 : PE X e1 ta) (h2 : PE X e2 tb) : PE X (.Dict [none, none] [e1, e2] pos) (tTwo ta tb) := by
  refine ⟨fun pins s σ H Q I q => ?_⟩
  have hn := I.hok.fresh (Nat.le_refl s.heap.objs.size)
  have I1 := I.laid (a := s.heap.objs.size) (o := .dK []) (h' := s.heap.push { cls := .type "dict", data := .dict #[] }) (t' := s.toks) (fun _ _ z => Heap.get?_push_of_some _ z) (Nat.le_refl _) (dk_empty s.heap I.big)
  have ev : eval (.Dict [none, none] [e1, e2] pos) X.env = (do
      standAt pos
      dictDisplay [(none, do let x ← eval e1 X.env; standAt pos; pure x), (none, do let x ← eval e2 X.env; standAt pos; pure x)]) := by rfl
  rw [ev]
  refine wpAny_bind (wpAny_standAt ?_)
  unfold dictDisplay
  simp only [List.forIn_cons, List.forIn_nil, List.isEmpty_nil, if_true, pure_bind, bind_assoc]
  refine wpAny_bind (wpAny_alloc ?_)
  refine wpAny_bind (wpAny_holding (wpAny_bind (thn (h1.run pins _ σ _ _ I1 (q _ hn)) fun v s1 ⟨x, H1, J1, rx, a, ka, ex, ne, ha, hp, la, q1⟩ => wpAny_bind (wpAny_standAt (wpAny_pure ?_)))))
  subst ex
  cases rx
  refine wpAny_bind (wpAny_onRaise (wpAny_tryCatch (wpAny_onRaise (wpAny_holding (merge_in J1 ne ha hp la (Nat.zero_le _) fun t1 K1 => ?_)))))
  refine wpAny_bind (wpAny_holding (wpAny_bind (thn (h2.run pins t1 σ _ _ K1 q1) fun v s2 ⟨y, H2, J2, ry, b, kb, ey, nb, hb, hp2, lb, q2⟩ => wpAny_bind (wpAny_standAt (wpAny_pure ?_)))))
  subst ey
  cases ry
  have lm : (mergeK [] ka).length ≤ 1000 := by
    have := length_mergeK ka []
    rw [List.length_nil] at this
    omega
  refine wpAny_bind (wpAny_onRaise (wpAny_tryCatch (wpAny_onRaise (wpAny_holding (merge_in J2 nb hb hp2 lb lm fun t2 K2 => ?_)))))
  exact wpAny_pure ⟨.ref s.heap.objs.size, _, K2, rfl, q2⟩
end
end MyD
set_option Elab.async false
set_option linter.all false
set_option maxRecDepth 100000
set_option maxHeartbeats 2000000
namespace MyO
open PySem PySem.Spec PyProof.Rows L2 My
/-! ### ~ of an instance -/
section
variable {X : Cx} {CX : CXT} {C g : Addr} {n : Nat} {sp : Sp} {E : XK}
def rUnI (C : Addr) (sp : Sp) (E : XK) : V → Hp → VK → Prop := fun x H Q => ∃ a dx fs, x = .ref a ∧ H a = some (.ins C dx fs) ∧ sp [.ref a] H Q E
theorem un_invI (hs : PySem.W.findIn X.K (.ref C) "__invert__" = some (some (.ref g))) (hf : PySem.W.typeIn X.K (.ref g) = some (.type "function")) (F : FnR X.prog X.w X.K X.mg X.base CX n g sp) (hr : Room n X.A) (hx : Passes CX X E) :
    UnR X (unaryOp .Invert) (rUnI C sp E) := by
  intro pins s σ H x v Q I rx h
  obtain ⟨a, dx, fs, rfl, ha, q⟩ := h
  cases rx
  obtain ⟨mA, O, _⟩ := ins_get I.hok ha
  obtain ⟨od, J, _⟩ := O.look
  unfold unaryOp
  refine wpAny_holding ?_
  dsimp only
  rw [if_neg (by decide)]
  refine wpAny_bind (PySem.W.special_fn (args := []) I.kIn J hs hf (wpAny_mono (wpAny_call (run_fnR (us := [.ref a]) (vs := [.ref a]) F hr hx I (.cons rfl .nil) q)) (fun w s' z => wpAny_pure z) fun _ _ z => z))
end
/-! ### a loop over an instance whose __iter__ hands on an iterator of a tuple -/
/-- at it an iterator over the tuple at l, at its beginning -/
def ItT (l it : Addr) : HO := .ext fun h => h.IsTupleIter it l 0
section
variable {X : Cx} {CX : CXT} {C g : Addr} {n : Nat} {sp : Sp} {E : XK}
theorem itT_ok {P : Program} {w : World} {H : Hp} {h : Heap} {l it : Addr} (e : h.IsTupleIter it l 0) : ObjOk P w H h it (ItT l it) :=
  ⟨e, (let ⟨o, ho, _⟩ := e; ⟨o, ho⟩), fun h1 h2 q k => (let ⟨o, ho, c, d⟩ := q; ⟨o, k _ ho, c, d⟩)⟩
theorem call_iterT : CallR X (.builtin "iter") (fun xs H Q => ∃ (l : Addr) (zs : List V), xs = [.ref l] ∧ SqT X.K H l zs ∧ ∀ it, H it = Option.none → (∀ m o, H m = some o → m < it) → Q (.ref it) (upd H it (ItT l it))) := by
  intro pins s σ H xs us Q I r h
  obtain ⟨l, zs, rfl, hq, q⟩ := h
  obtain ⟨u, rfl, ru⟩ := vals1 r
  cases ru
  obtain ⟨its, rv, pl, hz⟩ := I.tuple hq
  refine Calls.call_function_entry (by decide +kernel) (by decide +kernel) PySem.W.kdk_entry_iter (PySem.W.kdk_args_iter _) ?_
  unfold Builtin.«iter»
  refine wpAny_bind (m := someArgs "iter" 1 2 _) (wpAny_of_eq (a := [Value.ref l]) (by first | rfl | kernel_rfl!) ?_)
  show wpAny _ _ (pyIter (.ref l) >>= _) _ _ _
  refine wpAny_bind (wpAny_pyIter_tuple (show s.heap.IsTuple l its.toArray from pl) ?_)
  refine wpAny_pure ⟨_, rfl, ?_⟩
  exact ⟨.ref s.heap.objs.size, _, I.laid (t' := s.toks) (fun b u e => Heap.get?_push_of_some _ e) (Nat.le_refl _) (itT_ok ⟨_, Heap.get?_push_size _ rfl, rfl, rfl⟩), rfl, q _ (I.hok.fresh (Nat.le_refl _)) (fun m o e => I.hok.lt e)⟩
def iOwn (K : PySem.W.Frag) (N : Nat) (C : Addr) (sp : Sp) (E : XK) (te : TE) : TI := fun σ H R => te σ H fun x H1 => ∃ a dx fs, x = .ref a ∧ H1 a = some (.ins C dx fs) ∧
  sp [.ref a] H1 (fun v H2 => ∃ l it, v = .ref it ∧ N ≤ it ∧ H2 it = some (ItT l it) ∧ R (Itt K l) (ItX.dropH H2 it)) E
theorem pi_own {tg e : Expr} {te : TE} (he : PE X e te) (hs : PySem.W.findIn X.K (.ref C) "__iter__" = some (some (.ref g))) (hf : PySem.W.isFn X.K (.ref g) = true) (F : FnR X.prog X.w X.K X.mg X.base L2.CX0 n g sp) (hr : Room n X.A) :
    PI X tg e (iOwn X.K X.s_0.heap.objs.size C sp L2.E0 te) := by
  refine ⟨fun pins s σ H R I h => ?_⟩
  refine thn (he.run pins s σ H _ I h) fun v s1 ⟨x, H1, I1, r1, a, dx, fs, ex, ha, q⟩ => ?_
  subst ex
  cases r1
  obtain ⟨mA, O, _⟩ := ins_get I1.hok ha
  obtain ⟨od, J, _⟩ := O.look
  unfold pyIter
  refine wpAny_bind (wpAny_bind (J.type.here ((PySem.W.looks_findIn I1.kIn hs).here ?_)))
  dsimp only
  simp only [callSpecialIfBoundUnlessNone?, bindSpecialIfBound?]
  refine wpAny_bind (wpAny_holding (wpAny_bind (wpAny_bind (wpAny_bind (J.type.here ((PySem.W.looks_findIn I1.kIn hs).here ?_))))))
  refine wpAny_bind (wpAny_askSetting (wpAny_ite ?_))
  have fin : wpAny (model X.prog X.w) X.A (call (.ref g) [.ref a]) (fun it s' => wpAny (model X.prog X.w) X.A (do
      match ← specialOf it "__next__" with
      | Option.none => rule "iter.non-iterator"; raiseError "TypeError" s!"iter() returned non-iterator of type '{← typeNameOf it}'"
      | some _ => pure it) (PIE X pins σ tg R) X.xe s') X.xe s1 := by
    refine wpAny_call (codeAny_mono (F X.A X.stack s1 H1 [.ref a] [.ref a] _ _ hr I1.env0 (.cons rfl .nil) q) fun r s2 hq => ?_)
    cases r with
    | error e => exact pass0 pins σ H1 s1 e s2 I1 hq
    | ok fl =>
      cases fl with
      | ret w =>
        have hq0 : CE X.stack X.prog X.w H1 s1 _ w s2 := hq
        obtain ⟨v9, H2, I2, r2, l9, it, ev9, big, h29, q9⟩ := I1.after hq0
        subst ev9
        cases r2
        have st : s2.heap.IsTupleIter it l9 0 := (I2.hok it _ h29).1
        refine wpAny_bind (wpAny_specialOf (T := "tuple_iterator") (let ⟨o, ho, c, _⟩ := st; ⟨o, ho, c⟩) PySem.F.slot_tuple_iterator_next.lookup (wpAny_pure ?_))
        have h29' := h29
        unfold ItT at h29'
        refine ⟨it, [it], _, _, ItX.dropH H2 it, rfl, ItX.inv_drop I2 h29', turn_tuple l9 it, st, fun b hb => ?_, q9⟩
        have e : b = it := by simpa using hb
        rw [e]
        exact ItX.inv_fp I2 h29 big
      | next => exact hq.elim
      | brk => exact hq.elim
      | cont => exact hq.elim
  split
  · refine wpAny_bind ((PySem.W.bind_fn I1.kIn _ (beq_iff_eq.mp hf)).here (wpAny_pure ?_))
    dsimp only
    rw [if_neg (by simp)]
    exact wpAny_bind (wpAny_mono fin (fun it s' z => wpAny_pure z) fun _ _ z => z)
  · refine wpAny_tryCatch (wpAny_bind ((PySem.W.bind_fn I1.kIn _ (beq_iff_eq.mp hf)).here (wpAny_pure ?_)))
    dsimp only
    rw [if_neg (by simp)]
    exact wpAny_bind (wpAny_mono fin (fun it s' z => wpAny_pure z) fun _ _ z => z)
/-- {}, and where it lies -/
theorem pe_dnewN {pos : Pos} : PE X (.Dict [] [] pos) (fun _ H Q => ∀ p, H p = Option.none → X.s_0.heap.objs.size ≤ p → Q (.ref p) (upd H p (.dK []))) := by
  refine ⟨fun pins s σ H Q I q => ?_⟩
  have hn := I.hok.fresh (Nat.le_refl s.heap.objs.size)
  have I1 := I.laid (a := s.heap.objs.size) (o := .dK []) (h' := s.heap.push { cls := .type "dict", data := .dict #[] }) (t' := s.toks) (fun _ _ z => Heap.get?_push_of_some _ z) (Nat.le_refl _) (dk_empty s.heap I.big)
  have ev : eval (.Dict [] [] pos) X.env = (do
      standAt pos
      dictDisplay []) := by rfl
  rw [ev]
  refine wpAny_bind (wpAny_standAt ?_)
  unfold dictDisplay
  simp only [List.forIn_nil, List.isEmpty_nil, if_true, pure_bind]
  unfold newDict
  refine wpAny_bind (wpAny_alloc (wpAny_pure ?_))
  exact ⟨.ref s.heap.objs.size, _, I1, rfl, q _ hn I.sz⟩
/-- {x} in a text, x an instance with an own __str__ -/
theorem pe_fmtI {e : Expr} {te : TE} {pos : Pos} (he : PE X e te) (hfm : PySem.W.findIn X.K (.ref C) "__format__" = some (some (.builtin "object.__format__"))) (hm : PySem.W.mroIn X.K C (.type "object") = some true)
    (hs : PySem.W.findIn X.K (.ref C) "__str__" = some (some (.ref g))) (hf : PySem.W.isFn X.K (.ref g) = true) (F : FnR X.prog X.w X.K X.mg X.base CX n g sp) (hr : Room (n + 1) X.A) (hx : Passes CX X E) :
    PE X (.FormattedValue e (-1) Option.none pos) (fun σ H Q => te σ H fun x H1 => ∃ a dx fs, x = .ref a ∧ H1 a = some (.ins C dx fs) ∧ sp [.ref a] H1 (fun z H' => ∃ y, z = .str y ∧ Q z H') E) := by
  refine ⟨fun pins s σ H Q I h => ?_⟩
  refine wpAny_FormattedValue_plain (thn (he.run pins s σ H _ I h) fun v s1 ⟨x, H1, I1, r1, a, dx, fs, ex, ha, q⟩ => ?_)
  subst ex
  cases r1
  obtain ⟨mA, O, _⟩ := ins_get I1.hok ha
  obtain ⟨od, J, _⟩ := O.look
  have r1 : Room n X.A.in1 := hr.in1
  have I2 := I1.tok (s1.toks + 1)
  refine PySem.W.kfo_fieldS r1.units0 I1.kIn J hfm hm hs hf (wpAny_mono (wpAny_call (SlX.run_at (us := [.ref a]) (ws := [.ref a]) F r1 I2.env0.in1 hx I2 (.cons rfl .nil) q)) (fun w s' z => ?_) fun _ _ z => z)
  obtain ⟨z', H', I', rz, y, ey, qz⟩ := z
  subst ey
  obtain ⟨t, rfl⟩ : ∃ t, w = Value.str y t := rz
  exact ⟨.str y, H', I', ⟨t, rfl⟩, qz⟩
end
end MyO
set_option Elab.async false
set_option linter.all false
set_option maxRecDepth 100000
set_option maxHeartbeats 2000000
namespace MyU
open PySem PySem.Spec PyProof.Rows L2 My
/-! ### enumerate over a tuple -/
section
variable {prog : Program} {w : World} {A : Around} {E : Value → Shared → Prop} {s : Shared}
theorem enum_at0 {t : Addr} {items : Array Value} : Meets (Builtin.«enumerate.__new__» ⟨[.type "enumerate", .ref t], []⟩) (fun _ R s => s.heap.IsTuple t items ∧
      R (.ok (.ret (.ref (s.heap.push { cls := .type "tuple_iterator", data := .fields #[.ref t, .int 0 0] }).objs.size)))
        { s with heap := (s.heap.push { cls := .type "tuple_iterator", data := .fields #[.ref t, .int 0 0] }).push { cls := .type "enumerate", data := .fields #[.none, .bool false, .ref s.heap.objs.size, rawInt 0, .none, .none] } }) :=
  .of_wp fun prog w A R s h => by
    obtain ⟨hp, g, d, tk, os⟩ := s; obtain ⟨h1, h⟩ := h
    have hsub := sub_enumerate
    have q1 : ∀ {A' : Around} {E : Value → Shared → Prop} {Q : Value → Shared → Prop}, Q (.ref hp.objs.size) ⟨hp.push { cls := .type "tuple_iterator", data := .fields #[.ref t, .int 0 0] }, g, d, tk, os⟩ → wpAny (model prog w) A' (pyIter (.ref t)) Q E ⟨hp, g, d, tk, os⟩ :=
      fun q => wpAny_pyIter_tuple h1 q
    wp_walk using q1
    refine wpAny_stack_any fun st => wpAny_pure ?_
    split
    · rename_i c _ _ _ _ _
      cases (c == Value.type "enumerate")
      · wp_walk using q1
        exact ⟨_, rfl, h⟩
      · wp_walk using q1
        exact ⟨_, rfl, h⟩
    · wp_walk using q1
      exact ⟨_, rfl, h⟩
theorem call_enumT {l : Addr} {items : Array Value} {Q : Value → Shared → Prop} (hL : s.heap.IsTuple l items)
    (h : ∀ h', IsEnum h' (s.heap.objs.size + 1) s.heap.objs.size 0 .none → h'.IsTupleIter s.heap.objs.size l 0 →
      (∀ b o, s.heap.get? b = some o → h'.get? b = some o) → Q (.ref (s.heap.objs.size + 1)) { s with heap := h' }) :
    wpAny (model prog w) A (call (.type "enumerate") [.ref l]) Q E s := by
  refine callType_new F.called_enumerate (by decide) (F.typeCall_enumerate_1 _) (F.newCall_enumerate_1 _) (fun obj => F.args_object_init_2 obj _) F.entry_enumerate_new
    (enum_at0 (t := l) (items := items)) ⟨hL, ?_⟩
  have hz : (s.heap.push { cls := .type "tuple_iterator", data := .fields #[.ref l, .int 0 0] }).objs.size = s.heap.objs.size + 1 := Heap.size_push ..
  show _ ∧ _
  rw [hz]
  have he := Heap.get?_push_size (s.heap.push { cls := .type "tuple_iterator", data := .fields #[.ref l, .int 0 0] }) (o := { cls := .type "enumerate", data := .fields #[.none, .bool false, .ref s.heap.objs.size, rawInt 0, .none, .none] }) rfl
  rw [hz] at he
  exact ⟨⟨_, he, rfl⟩, h _ he ⟨_, Heap.get?_push_of_some _ (Heap.get?_push_size _ rfl), rfl, rfl⟩ fun b o x => Heap.get?_push_of_some _ (Heap.get?_push_of_some _ x)⟩
end
/-- the tuple at a, each member in a new pair behind its place -/
def IteT (K : PySem.W.Frag) (a : Addr) : It :=
  ⟨fun i H => ∃ (xs : List V) (x : V), SqT K H a xs ∧ xs[i]? = some x, fun i H v H' => ∃ T x, v = .ref T ∧ H T = none ∧ H' = upd H T (.tup [.int (i : Nat), x]) ∧ ∀ xs, SqT K H a xs → xs[i]? = some x, fun i H => ∃ xs : List V, SqT K H a xs ∧ xs.length ≤ i⟩
theorem tup_enum {h : Heap} {a e : Addr} {its : Array Value} {it : Addr} {c : Int} {old : Value} (ht : h.IsTuple a its) (he : IsEnum h e it c old) : e ≠ a := fun q => by
  subst q
  obtain ⟨o, ho, hc, _⟩ := ht
  have he' : h.get? e = some _ := he
  rw [he'] at ho
  cases ho
  exact absurd (show Value.type "enumerate" = .type "tuple" from hc) (by decide)
theorem tup_iter {h : Heap} {a it l : Addr} {its : Array Value} {i : Nat} (ht : h.IsTuple a its) (hi : h.IsTupleIter it l i) : a ≠ it := fun q => by
  subst q
  obtain ⟨o, ho, hc, _⟩ := ht
  obtain ⟨o2, ho2, hc2, _⟩ := hi
  rw [ho] at ho2
  cases ho2
  rw [hc] at hc2
  exact absurd hc2 (by decide)
theorem turn_enumT {P : Program} {w : World} {K : PySem.W.Frag} {elts : List Expr} {kk : Nat} {tpos : Pos} (a e it : Addr) :
    Turn P w K (.Tuple elts kk tpos) (IteT K a) [e, it] e (fun i h => (∃ old, IsEnum h e it ((i : Nat) : Int) old) ∧ h.IsTupleIter it a i ∧ e ≠ it) where
  mem := by simp
  obj := fun i h st b hb => by
    obtain ⟨⟨old, he⟩, ⟨o, ho, hc, hd⟩, _⟩ := st
    have e' : b = e ∨ b = it := by simpa using hb
    rcases e' with z | z
    · rw [z]; exact ⟨_, he, fun v q => nomatch q⟩
    · rw [z]; exact ⟨o, ho, fun v q => by rw [hd] at q; cases q⟩
  keep := fun i h h' st k => let ⟨⟨old, he⟩, hi, hne⟩ := st; ⟨⟨old, k e (by simp) _ he⟩, hi.at fun o q => k it (by simp) o q, hne⟩
  item := by
    intro X hP hw hK hc i pins s σ H E I hf st hg
    subst hP hw hK
    obtain ⟨⟨old, he⟩, hit, hne⟩ := st
    obtain ⟨xs, x, hq, hx⟩ := hg
    obtain ⟨its, rv, p, hz⟩ := I.tuple hq
    have p' : s.heap.IsTuple a its.toArray := p
    obtain ⟨u, hu, ru⟩ := rv.get hx
    have hel : e < s.heap.objs.size := Heap.lt_size he
    have hil : it < s.heap.objs.size := by obtain ⟨_, q, _⟩ := hit; exact Heap.lt_size q
    have ne1 := tup_enum p' he
    have ne2 := tup_iter p' hit
    have D := Draws.tuple (prog := X.prog) (w := X.w) (A := X.A.in1) (show X.A.in1.handled = none from I.ok.hd hc) it a ne2 its.toArray
    have hu' : its[i]? = some u := hu
    have hlt : i < its.toArray.size := by
      rw [List.size_toArray]
      exact (List.getElem?_eq_some_iff.mp hu').1
    refine wpAny_pyNext_enum_itemC D he ⟨hit, p'⟩ hlt hne (by simp [hne, ne1]) fun x' h' tk hP ho hs' hT hsz hk => ?_
    have ex : x' = u := by
      have z : its.toArray[i]? = some x' := hP
      rw [List.getElem?_toArray, hu'] at z
      exact (Option.some.inj z).symm
    subst ex
    refine ⟨_, rfl, wpAny_letOwnedTupleGo_enum (s := { s with heap := h', toks := tk + 1 }) ho fun h'' he' sb => ?_⟩
    have hT2 : h''.get? s.heap.objs.size = some { cls := .type "tuple", data := .seq #[.int i tk, x'] } := (sb.2 _ (Nat.ne_of_gt hel)).trans hT
    have new : ObjOk X.prog X.w (upd H s.heap.objs.size (.tup [.int (i : Nat), x])) h'' s.heap.objs.size (.tup [.int (i : Nat), x]) :=
      ⟨by show 2 ≤ sizeLine; decide, [.int i tk, x'], .cons ⟨_, rfl⟩ (.cons ru .nil), ⟨_, hT2, rfl, _, rfl⟩⟩
    have I1 : Inv X pins σ (upd H s.heap.objs.size (.tup [.int (i : Nat), x])) { s with heap := h'', toks := tk + 1 } :=
      I.turnedNew (ch := [e, it]) (fun b ob hb q => (sb.2 b (fun z => hb (by simp [z]))).trans (hk b ob (fun z => hb (by simp [z])) (fun z => hb (by simp [z])) q)) hf (Nat.le_refl _) new
    refine ⟨.ref s.heap.objs.size, _, I1, rfl, ⟨_, x, rfl, I.hok.fresh (Nat.le_refl _), rfl, fun ys hy => by rw [I.tuple_inj hy hq]; exact hx⟩, ⟨⟨x', ?_⟩, hs'.1.at fun o q => (sb.2 it (Ne.symm hne)).trans q, hne⟩, fun b hb => ?_⟩
    · have e1 : ((i + 1 : Nat) : Int) = (i : Int) + 1 := by omega
      rw [e1]; exact he'
    · have hb' : b < s.heap.objs.size := by
        have e' : b = e ∨ b = it := by simpa using hb
        rcases e' with z | z
        · rw [z]; exact hel
        · rw [z]; exact hil
      rw [upd_ne (Nat.ne_of_lt hb')]
      exact (hf b hb).1
  done := by
    intro X hP hw hK hc i pins s σ H E I hf st hg
    subst hP hw hK
    obtain ⟨⟨old, he⟩, hit, hne⟩ := st
    obtain ⟨xs, hq, hx⟩ := hg
    obtain ⟨its, rv, p, hz⟩ := I.tuple hq
    have p' : s.heap.IsTuple a its.toArray := p
    obtain ⟨f0, f1, f2, f3, f4, f5⟩ := hf it (by simp)
    have hl := rv.length
    have ne2 := tup_iter p' hit
    have hx' : its.toArray[i]? = none := by
      rw [List.getElem?_toArray]
      exact List.getElem?_eq_none (by omega)
    have hT : s.TypeIs (.ref e) "enumerate" := ⟨_, he, rfl⟩
    unfold pyNext
    refine wpAny_bind (wpAny_attempt (wpAny_callSpecial?_slot (name := Str.ofString "__next__") hT F.slot_enumerate_next
      (wpAny_call_entry F.slot_enumerate_next hT F.entry_enumerate_next ?_ (F.args_enumerate_next_1 _))))
    show wpAny _ _ (field (.ref e) 2 >>= _) _ _ _
    refine wpAny_bind (wpAny_field he rfl (x := .ref it) rfl ?_)
    refine wpAny_bind (wpAny_nextOf_tuple_end (show X.A.in1.handled = none from I.ok.hd hc) hit p' hx' fun h' x eb hx'' => ?_)
    obtain ⟨o, ho, hcl⟩ := hx''
    refine wpAny_bind (wpAny_isInstance (T := "StopIteration") (b := true) ⟨o, ho, hcl⟩ isSubtype_stop ?_)
    exact wpAny_pure ⟨rfl, I.turned (t' := s.toks) (fun b o hb q => eb b o hb q) f0 f1 f3 f4 f5⟩
  self := fun A i s Q E st h => let ⟨⟨_, he⟩, _⟩ := st; wpAny_pyIter_enum he h
def iEnumT (K : PySem.W.Frag) (ta : TA) : TI := fun σ H R => ta σ H fun vs H1 => ∃ a xs, vs = [.ref a] ∧ SqT K H1 a xs ∧ R (IteT K a) H1
theorem pi_enumT {X : Cx} {e : Expr} {ta : TA} {p pos tpos : Pos} {elts : List Expr} {kk : Nat} (hg : Gl X "enumerate") (hm : X.mg "enumerate" = none) (ha : PA X [e] ta) (hs : starEach [e] X.env = [(false, eval e X.env)] := by rfl) :
    PI X (.Tuple elts kk tpos) (.Call (.Name "enumerate" p) [e] [] pos) (iEnumT X.K ta) := by
  refine ⟨fun pins s σ H R I h => ?_⟩
  refine Call_ (ld_blt I hg hm boot_enumerate (PyProof.Rows.callWith_type1 (thn (ha.run pos pins s σ H _ I h) fun us s1 ⟨vs, H1, I1, r1, q1⟩ => ?_) hs rfl))
  obtain ⟨a, xs, ex, hq, q⟩ := q1
  subst ex
  cases r1 with
  | cons r rr =>
    cases rr
    cases r
    obtain ⟨its, rv, p', hz⟩ := I1.tuple hq
    refine call_enumT (items := its.toArray) (show s1.heap.IsTuple a its.toArray from p') fun h' he hit hk => wpAny_pyIter_enum he ?_
    have I2 : Inv X pins σ H1 { s1 with heap := h' } := I1.kept (t' := s1.toks) hk
    refine ⟨s1.heap.objs.size + 1, [s1.heap.objs.size + 1, s1.heap.objs.size], _, _, H1, rfl, I2, turn_enumT a (s1.heap.objs.size + 1) s1.heap.objs.size, ⟨⟨.none, he⟩, hit, Nat.succ_ne_self _⟩, fun b hb => ?_, q⟩
    have e' : b = s1.heap.objs.size + 1 ∨ b = s1.heap.objs.size := by simpa using hb
    have hle : s1.heap.objs.size ≤ b := by
      rcases e' with z | z
      · rw [z]; exact Nat.le_add_right _ _
      · rw [z]; exact Nat.le_refl _
    exact I1.fpOk hle (I1.hok.fresh hle)
end MyU
set_option Elab.async false
set_option linter.all false
set_option maxRecDepth 100000
set_option maxHeartbeats 2000000
namespace MyV
open PySem PySem.Spec PyProof.Rows L2
/-- two values that compare as their data do -/
def SameD (K : PySem.W.Frag) (H : Hp) (x y : V) : Prop := ∃ d e, Dp K H x d ∧ Dp K H y e ∧ SeqAt.shaped d = true ∧ SeqAt.shaped e = true ∧ PyData.eqv d e = true
section
variable {X : Cx} {pins : List (Addr × Obj)} {σ : L2.St} {H : Hp} {s : Shared}
theorem hits_same (I : Inv X pins σ H s) {A : Around} (hu : A.units + 64 < cLine) {ls : List (Key × V)} {vb : List (Key × Value)} (rb : KV ls vb) {ks : List (Key × V)} {va : List (Key × Value)} (ra : KV ks va) :
    (∀ p ∈ ks, ∃ u, valV ls p.1 = some u ∧ SameD X.K H p.2 u) → PySem.W.KeqHits A s vb va true := by
  unfold KV at ra
  induction ra with
  | nil => intro _; exact .nil
  | @cons p q ps qs h t ih =>
    intro hp
    obtain ⟨h1, h2⟩ := h
    obtain ⟨u, e, d1, d2, hd, he, sd, se, hv⟩ := hp p List.mem_cons_self
    have rr : RelO (some u) (valueAt vb p.1) := by rw [← e]; exact rb.val p.1
    obtain ⟨y, hy, ry⟩ := rr.some_of
    obtain ⟨k, v⟩ := q
    have h1' : p.1 = k := h1
    rw [h1'] at hy
    obtain ⟨as, r1⟩ := Dp.reads I d1 p.2 v hd h2
    obtain ⟨bs, r2⟩ := Dp.reads I d2 u y he ry
    have q1 := SeqAt.eqAt_reads d1 d2 A s v y as bs r1 r2 (SeqAt.canLay_of_shaped sd) (SeqAt.canLay_of_shaped se) (SeqAt.room_of_shaped sd hu)
    rw [hv] at q1
    show PySem.W.KeqHits A s vb ((k, v) :: qs) (true && true)
    exact .hit hy q1 (ih fun p' hm => hp p' (List.mem_cons_of_mem _ hm))
end
section
variable {X : Cx}
def rSameD (K : PySem.W.Frag) (b : Bool) : R2 := fun x y H Q => ∃ p q ks ls, x = .ref p ∧ y = .ref q ∧ H p = some (.dK ks) ∧ H q = some (.dK ls) ∧ ks.length = ls.length ∧ (∀ z ∈ ks, ∃ u, valV ls z.1 = some u ∧ SameD K H z.2 u) ∧ Q (.bl b) H
/-- == of two dicts that hold the same -/
theorem op_eqDD (hu : X.A.units + 66 < cLine) : OpR X (compareOp .Eq) (rSameD X.K true) := by
  intro pins s σ H x y v u Q I rx ry h
  obtain ⟨a, b, ks, ls, rfl, rfl, ea, eb, hlen, hp, q⟩ := h
  obtain rfl : v = Value.ref a := rx
  obtain rfl : u = Value.ref b := ry
  obtain ⟨_, ya, va, ra, da⟩ := (show ObjOk X.prog X.w H s.heap a (.dK ks) from I.hok a _ ea)
  obtain ⟨_, yb, vb, rb, db⟩ := (show ObjOk X.prog X.w H s.heap b (.dK ls) from I.hok b _ eb)
  have hl : va.length = vb.length := by rw [← ra.length, ← rb.length]; exact hlen
  exact PySem.W.keq_eq (knd := mixKind X.prog X.w) (r := true) ya yb da db (by omega) (fun _ => hits_same I (by show X.A.units + 1 + 64 < cLine; omega) rb ra hp) (fin_bl I q (by simp [hl]))
theorem op_neDD (hu : X.A.units + 66 < cLine) : OpR X (compareOp .NotEq) (rSameD X.K false) := by
  intro pins s σ H x y v u Q I rx ry h
  obtain ⟨a, b, ks, ls, rfl, rfl, ea, eb, hlen, hp, q⟩ := h
  obtain rfl : v = Value.ref a := rx
  obtain rfl : u = Value.ref b := ry
  obtain ⟨_, ya, va, ra, da⟩ := (show ObjOk X.prog X.w H s.heap a (.dK ks) from I.hok a _ ea)
  obtain ⟨_, yb, vb, rb, db⟩ := (show ObjOk X.prog X.w H s.heap b (.dK ls) from I.hok b _ eb)
  have hl : va.length = vb.length := by rw [← ra.length, ← rb.length]; exact hlen
  exact PySem.W.keq_ne (knd := mixKind X.prog X.w) (r := true) ya yb da db (by omega) (fun _ => hits_same I (by show X.A.units + 1 + 64 < cLine; omega) rb ra hp) (fin_bl I q (by simp [hl]))
end
end MyV
set_option Elab.async false
set_option linter.all false
set_option maxRecDepth 100000
set_option maxHeartbeats 2000000
namespace MyN
open PySem PySem.Spec PyProof.Rows L2 My
/-- a promise that is kept where no text of an object is under way -/
structure FnG (P : Program) (w : World) (K : PySem.W.Frag) (mg : Str → Option Value) (base : Heap) (CX : CXT) (k : Nat) (f : Addr) (fd : FuncData) (ps : List Str) (sp : Sp) : Prop where
  len : ∀ vs H Q E, sp vs H Q E → vs.length = ps.length
  run : ∀ (A : Around) (outer : List Env) (s : Shared) (H : Hp) (args : Args) (us : List Value) (vs : List V) (Q : VK) (E : XK), A.guards = some [] → Room k A → Env0 P w K mg base A outer s H → BindsTo s fd args (ps.zip us) → Vals vs us → sp vs H Q E →
    codeAny (model P w) A (.call (.ref f) args) (CR CX outer P w H s Q E) s
section
variable {P : Program} {w : World} {K : PySem.W.Frag} {mg : Str → Option Value} {base : Heap} {CX : CXT}
theorem fn_ofG {k : Nat} {f : Addr} {name qual : Str} {params : Arguments} {body : List Stmt} {scope : Scope} {dV kV doc pm cdv ct oc : Value} {an od : Option Addr} {osl : Array (Option Value)} {N ps : List Str} {sp : Sp}
    (lk : K.lookup f = some ⟨oc, od, .func (PySem.W.fnOf name qual params body scope dV kV doc pm an cdv ct), osl⟩) (hcd : PySem.W.codeIn K cdv qual = true) (S : FnScope N ps scope) (len : ∀ vs H Q E, sp vs H Q E → vs.length = ps.length)
    (hbody : ∀ (A : Around) (outer : List Env) (s : Shared) (H : Hp) (vs : List V) (Q : VK) (E : XK), (A.deeper (envOfC qual scope s.heap.objs.size f cdv)).guards = some [] → Room k (A.deeper (envOfC qual scope s.heap.objs.size f cdv)) → sp vs H Q E →
      ∃ t, PSs (cxOf CX P w K mg base N qual scope f cdv A outer s H E) body t ∧ t { nx := fun _ H' => Q .non H', rt := Q } (start N vs) H) :
    FnG P w K mg base CX (k + 1) f (PySem.W.fnOf name qual params body scope dV kV doc pm an cdv ct) ps sp := by
  refine ⟨len, fun A outer s H args us vs Q E hgd hr e0 hb r hsp => ?_⟩
  have ln := len _ _ _ _ hsp
  have KS : K.In s.heap := e0.mod.kin.keeps fun b o e => (e0.bs b o e).1
  have NL : s.heap.NoLimit := e0.mod.nolimit.keeps fun b o e => (e0.bs b o e).1
  have kinds : ∀ y ∈ ps.zip us, scope.names.lookup y.1 = some .local ∨ (scope.names.lookup y.1 = some .cell ∧ ((cellsFrom (s.heap.objs.size + 1) scope.names []).lookup y.1).isSome = true) := fun y hy => (S.par y.1 (List.of_mem_zip (a := y.1) (b := y.2) hy).1).elim .inl fun q => .inr ⟨q, PySem.W.cellsFrom_some _ _ _ (.inl q)⟩
  refine codeAny_call_function hr.depth (KS _ _ lk) rfl S.co S.gen rfl (PySem.W.codeRec_of KS hcd) (hb _ _ _ _ (wpAny_newFunctionEnv_cells S.kind kinds fun env he s1 x => ?_))
  subst he
  obtain ⟨t, ht, hq⟩ := hbody A outer s H vs Q E hgd (hr.deeper _) hsp
  refine ⟨NL.keeps x.toInCall.keep, codeAny_func (wpAny_mono (ht.run [] s1 (start N vs) H _ (inv_start S hr.hd e0 ln r x) hq) (fun fl s' hs => ?_) fun e s' hs => hs)⟩
  match fl, hs with
  | .ret u, ⟨v, σ', H', J, rv, q⟩ => exact ⟨v, H', J.os, J.bare, J.base, J.hok, rv, q⟩
  | .next, ⟨σ', H', J, q⟩ => exact ⟨V.non, H', J.os, J.bare, J.base, J.hok, rfl, q⟩
  | .brk, ⟨_, _, _, q⟩ => exact q.elim
  | .cont, ⟨_, _, _, q⟩ => exact q.elim
end
section
variable {X : Cx} {CX : CXT} {k : Nat} {f : Addr} {fd : FuncData} {ps : List Str} {sp : Sp} {E : XK} {ds : List Value} {dvs : List V} {x : Str} {p pos : Pos} {e : Expr} {es : List Expr} {t : TA}
theorem pe_callG (F : FnG X.prog X.w X.K X.mg X.base CX k f fd ps sp) (hgd : X.A.guards = some []) (hr : Room k X.A) (hg : Gl X x) (hm : X.mg x = some (.ref f)) (hk : PySem.W.keepIn X.K (.ref f) = true) (hb : Binds X.K fd ps ds) (hd : Vals dvs ds) (hx : Passes CX X E)
    (ha : PA X (e :: es) t) (hdb : (x == ("__debug__" : Str)) = false := by decide) (he : starEach (e :: es) X.env = (false, eval e X.env) :: starEach es X.env := by rfl) (hpl : (backTo pos (starEach es X.env)).any (·.1) = false := by rfl) :
    PE X (.Call (.Name x p) (e :: es) [] pos) (tCall sp dvs E t) := by
  refine ⟨fun pins s σ H Q I h => wpAny_Call_Name_kw (ld_glob I hg hm (PySem.W.callWith_K (h₀ := X.base) I.ok.mod.kin hk (thn (ha.run pos pins s σ H _ I h) fun us s1 ⟨vs, H1, I1, r, q⟩ => ⟨I1.kIn, ?_⟩) he hpl) hdb)⟩
  have r2 : Vals (vs ++ dvs) (us ++ ds) := r.append hd
  have ln : (us ++ ds).length = ps.length := by rw [← r2.length]; exact F.len _ _ _ _ q
  refine wpAny_call (codeAny_mono (F.run X.A X.stack s1 H1 ⟨us, []⟩ (us ++ ds) (vs ++ dvs) Q E hgd hr I1.env0 (hb s1 us I1.kIn ln) r2 q) fun r s' z => ?_)
  match r, z with
  | .error e, z => exact hx pins σ H1 s1 e s' I1 z
  | .ok (.ret u), z => exact I1.after z
  | .ok .next, z => exact z.elim
  | .ok .brk, z => exact z.elim
  | .ok .cont, z => exact z.elim
end
end MyN
set_option Elab.async false
set_option linter.all false
set_option maxRecDepth 100000
set_option maxHeartbeats 2000000
namespace MyL
open PySem PySem.Spec PyProof.Rows L2 My
section
variable {X : Cx} {CX : CXT} {k : Nat} {f : Addr} {fd : FuncData} {ps ks : List Str} {sp : Sp} {E : XK} {kws : List Keyword} {tk : TA} {x : Str} {p pos : Pos} {g : List Value → List Value → List Value} {gV : List V → List V → List V}
/-- f(k = v, ..), f a def -/
def tCallK0 (m : Nat) (sp : Sp) (gV : List V → List V → List V) (E : XK) (tk : TA) : TE := fun σ H Q => tk σ H fun zs H1 => zs.length = m ∧ sp (gV [] zs) H1 Q E
theorem pe_callK0 (F : FnOk X.prog X.w X.K X.mg X.base CX k f fd ps sp) (hr : Room k X.A) (hg : Gl X x) (hm : X.mg x = some (.ref f)) (hk : PySem.W.keepIn X.K (.ref f) = true) (hb : KBn X.K fd ps 0 ks g gV) (hx : Passes CX X E) (hkw : PK X kws tk)
    (hall : (backToKw pos (keywordEach kws X.env)).all (·.1.isSome) = true := by rfl) (hks : (backToKw pos (keywordEach kws X.env)).filterMap (·.1) = ks := by rfl) (hdb : (x == ("__debug__" : Str)) = false := by decide)
    (hpl : ((backTo pos (starEach [] X.env)).any (·.1) || (backToKw pos (keywordEach kws X.env)).any (·.1.isNone)) = false := by rfl) : PE X (.Call (.Name x p) [] kws pos) (tCallK0 ks.length sp gV E tk) := by
  refine ⟨fun pins s σ H Q I h => wpAny_Call_Name_kw (ld_glob I hg hm (PySem.W.callWith_KW0 (h₀ := X.base) I.ok.mod.kin hk hall (thn (hkw.run pos pins s σ H _ I h) fun ws s2 ⟨zs, H2, I3, rz, l2, q2⟩ => ⟨I3.kIn, ?_⟩) hpl) hdb)⟩
  rw [hks]
  exact run_fnN F hr hb hx I3 .nil rz rfl l2 q2
end
end MyL
set_option Elab.async false
set_option linter.all false
set_option maxRecDepth 100000
set_option maxHeartbeats 2000000
namespace MyA
open PySem PySem.Spec PyProof.Rows L2 My LamX
/-- the abstract heap at the law's head: its tables, empty, and the script, if the image does not know it -/
def headH (K : PySem.W.Frag) (a : Addr) (o : Obj) (xs : List V) (ts : List Addr) : Hp := fun b => if b ∈ ts then some (.tbl #[]) else if b = a ∧ K.lookup a = none then some (.frz o (.lst xs)) else none
section
variable {K : PySem.W.Frag} {a : Addr} {o : Obj} {xs : List V} {ts : List Addr}
theorem headH_tab {b : Addr} (h : b ∈ ts) : headH K a o xs ts b = some (.tbl #[]) := if_pos h
theorem headH_inv {b : Addr} {u : HO} (h : headH K a o xs ts b = some u) : (b ∈ ts ∧ u = .tbl #[]) ∨ (b = a ∧ K.lookup a = none ∧ u = .frz o (.lst xs)) := by
  unfold headH at h
  by_cases h1 : b ∈ ts
  · rw [if_pos h1] at h
    exact .inl ⟨h1, (Option.some.inj h).symm⟩
  · rw [if_neg h1] at h
    by_cases h2 : b = a ∧ K.lookup a = none
    · rw [if_pos h2] at h
      exact .inr ⟨h2.1, h2.2, (Option.some.inj h).symm⟩
    · rw [if_neg h2] at h
      cases h
end
/-- the law called where no text of an object is under way -/
theorem law_callG {P : Program} {w : World} {K : PySem.W.Frag} {mg mb : Str → Option Value} {CX : CXT} {k : Nat} {fa a : Addr} {cs : List (Addr × Addr)} {fd : FuncData} {x : Str} {sp : Sp} {s₁ : Shared} {vs : List Value} {ns : List Int}
    (KX : K.In s₁.heap) (hns : s₁.heap.Ns mainGlobals mg) (hb : s₁.heap.Ns builtinsNs mb) (hbb : ∀ x : Str, x ≠ "__name__" → mb x = bootBuiltins x) (hlim : s₁.heap.NoLimit) (hg : s₁.gens = #[])
    (hT : ∀ p ∈ cs, s₁.heap.get? p.2 = some { cls := .none, data := .fields #[] }) (nT : ∀ p ∈ cs, K.lookup p.2 = none) (C : ∀ p ∈ cs, PySem.W.CodeHd s₁.heap p.1 p.2)
    (hbm : ∃ (bm : Addr) (ob : Obj), mg "__builtins__" = some (.ref bm) ∧ bm ≠ builtinsNs ∧ s₁.heap.get? bm = some ob ∧ ob.cls = .type "module" ∧ ob.dict = some builtinsNs ∧ ob.data = .plain)
    (ha : s₁.heap.get? a = some { cls := .type "list", data := .seq vs.toArray }) (hi : IntsAre vs ns) (hl : ns.length ≤ sizeLine) (hr : Room k callerA)
    (F : ∀ base : Heap, K.In base → base.Ns mainGlobals mg → (∀ p ∈ cs, TabB base mg p.1 p.2) → MyN.FnG P w K mg base CX k fa fd [x] sp) (hbind : ∀ (s : Shared) (u : Value), BindsTo s fd ⟨[u], []⟩ [(x, u)])
    (hsp : ∀ H : Hp, (∀ p ∈ cs, H p.2 = some (.tbl #[])) → SqL K H a (ns.map V.int) → sp [.ref a] H (fun v _ => v = .bl true) fun _ _ _ => False)
    (hCX : ∀ H e s', CX [] H s₁ (fun _ _ _ => False) e s' → False) :
    codeAny (model P w) callerA (.call (.ref fa) ⟨[.ref a], []⟩) (fun r s' => r = .ok (.ret (.bool true)) ∧ OldK s₁.heap s'.heap ∧ s'.os = s₁.os ∧ AllBare s'.gens) s₁ := by
  have rv := vals_ints hi
  obtain ⟨ts, ets⟩ : ∃ ts, ts = cs.map (·.2) := ⟨_, rfl⟩
  have inT : ∀ p ∈ cs, p.2 ∈ ts := fun p hp => by rw [ets]; exact List.mem_map.mpr ⟨p, hp, rfl⟩
  have ofT : ∀ b ∈ ts, ∃ p ∈ cs, p.2 = b := fun b hb => by rw [ets] at hb; exact List.mem_map.mp hb
  have atT : ∀ b ∈ ts, s₁.heap.get? b = some { cls := .none, data := .fields #[] } := fun b hb => by
    obtain ⟨p, hp, rfl⟩ := ofT b hb
    exact hT p hp
  have naT : a ∉ ts := fun z => by
    have q := (atT a z).symm.trans ha
    cases Option.some.inj q
  obtain ⟨H, eH⟩ : ∃ H, H = headH K a { cls := .type "list", data := .seq vs.toArray } (ns.map V.int) ts := ⟨_, rfl⟩
  have tab : ∀ p ∈ cs, H p.2 = some (.tbl #[]) := fun p hp => by rw [eH]; exact headH_tab (inT p hp)
  have inv : ∀ b u, H b = some u → (b ∈ ts ∧ u = .tbl #[]) ∨ (b = a ∧ K.lookup a = none ∧ u = .frz { cls := .type "list", data := .seq vs.toArray } (.lst (ns.map V.int))) := fun b u h => headH_inv (by rw [← eH]; exact h)
  have sq : SqL K H a (ns.map V.int) := by
    cases hk : K.lookup a with
    | none => exact .inl (.inr ⟨{ cls := .type "list", data := .seq vs.toArray }, by rw [eH]; unfold headH; rw [if_neg naT, if_pos ⟨rfl, hk⟩]⟩)
    | some o =>
      have e := (KX a o hk).symm.trans ha
      cases Option.some.inj e
      exact .inr ⟨_, vs.toArray, _, hk, rfl, rfl, rfl, by rw [List.size_toArray, hi.length]; exact hl, by simpa using rv⟩
  have hok : HOk P w H s₁.heap := fun b u z => by
    rcases inv b u z with ⟨h1, rfl⟩ | ⟨rfl, _, rfl⟩
    · exact atT b h1
    · exact ⟨ha, by rw [List.length_map]; exact hl, vs, _, rv, ha⟩
  -- what the abstract heap leaves alone
  have out : ∀ {b : Addr} {o : Obj}, s₁.heap.get? b = some o → (∀ us n, o.data ≠ .seq us n) → o.data ≠ .fields #[] → H b = none := fun {b o} e h1 h2 => by
    cases q : H b with
    | none => rfl
    | some u =>
      rcases inv b u q with ⟨h3, _⟩ | ⟨rfl, _, _⟩
      · cases Option.some.inj (e.symm.trans (atT b h3))
        exact (h2 rfl).elim
      · cases Option.some.inj (e.symm.trans ha)
        exact (h1 _ _ rfl).elim
  have outD : ∀ {b : Addr} {o : Obj} {es : Array DictEntry} {ep : Nat}, s₁.heap.get? b = some o → o.data = .dict es ep → H b = none := fun e d => out e (fun _ _ z => nomatch d.symm.trans z) fun z => nomatch d.symm.trans z
  have nsH : ∀ {b : Addr} {m : Str → Option Value}, s₁.heap.Ns b m → (hidT s₁.heap H).Ns b m := fun ⟨o, es, ep, e, d, r⟩ => ⟨o, es, ep, hidT_get e (outD e d), d, r⟩
  have kH : K.In (hidT s₁.heap H) := fun b o e => hidT_get (KX b o e) (by
    cases q : H b with
    | none => rfl
    | some u =>
      rcases inv b u q with ⟨h3, _⟩ | ⟨rfl, h3, _⟩
      · obtain ⟨p, hp, rfl⟩ := ofT b h3
        rw [nT p hp] at e
        cases e
      · rw [h3] at e
        cases e)
  have M : L2.Mod K mg (hidT s₁.heap H) := ⟨kH, nsH hns, ⟨mb, nsH hb, hbb⟩, let ⟨mc, h1, h2⟩ := hlim; ⟨mc, nsH h1, h2⟩⟩
  have TB : ∀ p ∈ cs, TabB (hidT s₁.heap H) mg p.1 p.2 := fun p hp => by
    have nG : mainGlobals ≠ p.2 := fun z => by
      obtain ⟨o, es, ep, e, d, _⟩ := hns
      rw [z] at e
      cases Option.some.inj (e.symm.trans (hT p hp))
      cases d
    refine ⟨?_, ?_, nG⟩
    · obtain ⟨o, us, file, tf, flags, tg, inF, text, tt, e1, r1, r2, r3, rest⟩ := C p hp
      refine ⟨o, us, file, tf, flags, tg, inF, text, tt, hidT_get e1 (out e1 (fun _ _ z => nomatch r2.symm.trans z) fun z => ?_), r1, r2, r3, rest⟩
      rw [r2] at z
      cases z
      simp at r3
    · obtain ⟨bm, ob, b1, b2, b3, b4, b5, b6⟩ := hbm
      refine ⟨bm, ob, b1, b2, fun q => ?_, fun q => ?_, hidT_get b3 (out b3 (fun _ _ z => nomatch b6.symm.trans z) fun z => nomatch b6.symm.trans z), b4, b5, b6⟩
      · obtain ⟨o, es, ep, e, d, _⟩ := hns
        rw [q] at b3
        cases Option.some.inj (b3.symm.trans e)
        exact nomatch d.symm.trans b6
      · rw [q] at b3
        cases Option.some.inj (b3.symm.trans (hT p hp))
        cases b6
  have e0 : Env0 P w K mg (hidT s₁.heap H) callerA [] s₁ H := ⟨rfl, M, fun b o e => of_hidT e, Nat.le_of_eq (hidT_size _ _), trivial, fun b hb => absurd (show b ∈ ([] : List Addr) from hb) (by simp), hok, .of_eq hg⟩
  refine codeAny_mono ((F _ kH (nsH hns) TB).run callerA [] s₁ H ⟨[.ref a], []⟩ [.ref a] [.ref a] _ _ rfl hr e0 (hbind s₁ (.ref a)) (.cons rfl .nil) (hsp H tab sq)) fun r s' h => ?_
  match r, h with
  | .error e, h => exact (hCX H e s' h).elim
  | .ok .next, h => exact h.elim
  | .ok .brk, h => exact h.elim
  | .ok .cont, h => exact h.elim
  | .ok (.ret u), ⟨v, H', os, bare, un, hok', ru, q⟩ =>
    have q : v = .bl true := q
    subst q
    have ru : u = Value.bool true := ru
    subst ru
    have grown : ∀ b ∈ ts, ∃ more : Array Value, s'.heap.get? b = some { cls := .none, data := .fields more } := fun b hb => by
      obtain ⟨p, hp, rfl⟩ := ofT b hb
      obtain ⟨more, z⟩ := un.tbls p.2 #[] (tab p hp)
      exact ⟨_, hok' p.2 _ z⟩
    have kept : ∀ b o, b ∉ ts → s₁.heap.get? b = some o → s'.heap.get? b = some o := fun b o nb e => by
      cases q : H b with
      | none => exact un.keep b o e q (by intro z; exact absurd (show b ∈ ([] : List Addr) from z) (by simp)) (by simp)
      | some u =>
        rcases inv b u q with ⟨z, _⟩ | ⟨rfl, _, rfl⟩
        · exact absurd z nb
        · obtain ⟨e2, _⟩ := hok' b _ (un.frzs b _ _ q)
          cases Option.some.inj (e.symm.trans ha)
          exact e2
    refine ⟨rfl, ⟨fun b o e => ?_, fun b o e => ?_⟩, os, bare⟩
    · by_cases hb : b ∈ ts
      · obtain ⟨more, hm⟩ := grown b hb
        obtain ⟨p, hp, rfl⟩ := ofT b hb
        cases Option.some.inj (e.symm.trans (hT p hp))
        exact .inr (.inl ⟨((C p hp).tab (hT p hp)).isCodeTable, rfl, #[], more, rfl, by rw [Array.empty_append]; exact hm⟩)
      · exact .inl (kept b o hb e)
    · by_cases hb : b ∈ ts
      · obtain ⟨more, hm⟩ := grown b hb
        exact ⟨_, hm⟩
      · exact ⟨o, kept b o hb e⟩
/-- what is known of the law at the head's heap h -/
def LawAtG (l : PySem.W.OpenLaw) (w : World) (K : PySem.W.Frag) (CX : CXT) (k n : Nat) (x : Str) (mg : Str → Option Value) (fa : Addr) (h : Heap) : Prop :=
  ∃ (fd : FuncData) (cs : List (Addr × Addr)) (sp : Sp), (∀ p ∈ cs, h.get? p.2 = some { cls := .none, data := .fields #[] }) ∧ (∀ p ∈ cs, K.lookup p.2 = none) ∧ (∀ p ∈ cs, PySem.W.CodeHd h p.1 p.2) ∧ (∀ (s : Shared) (u : Value), BindsTo s fd ⟨[u], []⟩ [(x, u)]) ∧
    (∀ (H : Hp) (a : Addr) (ns : List Int), ns.length ≤ n → (∀ p ∈ cs, H p.2 = some (.tbl #[])) → SqL K H a (ns.map V.int) → sp [.ref a] H (fun v _ => v = .bl true) fun _ _ _ => False) ∧
    ∀ base : Heap, K.In base → base.Ns mainGlobals mg → (∀ p ∈ cs, TabB base mg p.1 p.2) → MyN.FnG l.prog w K mg base CX k fa fd [x] sp
theorem walk_ofG {l : PySem.W.OpenLaw} {n k : Nat} {q : Program} {loose : List Str} {XP : (Str → Option Value) → Heap → Prop} {YP : World → Heap → Prop} {d : DefRec} {K : Params → PySem.W.Frag} {CX : World → CXT} {x : Str}
    (hn : l.most = some n) (hn2 : n ≤ sizeLine) (hdf : d.params.defaults = []) (hr : Room k callerA) (hY : ∀ (w : World) (h : Heap), YP w h → (K w.params).In h)
    (F : ∀ (w : World) (mg : Str → Option Value) (fa : Addr) (h : Heap), YP w h → (K w.params).In h → h.Ns mainGlobals mg → mg d.name = some (.ref fa) → LawAtG l w (K w.params) (CX w) k n x mg fa h)
    (hCX : ∀ (w : World) (H : Hp) (s : Shared) (e : Value) (s' : Shared), CX w [] H s (fun _ _ _ => False) e s' → False) :
    PySem.W.WalkO q loose XP YP l.row.toRowW d [] (fun f vs => PySem.call f vs) := by
  refine Att.attach_callB hn hdf fun w s₀ s₁ mg mb fa o pm cd doc a vs ns G Y ho hd hcd hmg hobj hints hlen hbits hg => ?_
  have KX := hY w _ Y
  obtain ⟨fd, cs, sp, hT, nT, C, hb, hsp, hF⟩ := F w mg fa _ Y KX G.T.g hmg
  exact law_callG KX G.T.g G.T.b G.T.builtins G.T.nolimit hg hT nT C G.T.bmain hobj hints (Nat.le_trans hlen hn2) hr hF hb (fun H hH hS => hsp H a ns hlen hH hS) fun H e s' => hCX w H s₁ e s'
end MyA
set_option Elab.async false
set_option linter.all false
set_option maxRecDepth 100000
set_option maxHeartbeats 2000000
namespace MyZ
open PySem PySem.Spec PyProof.Rows L2 My
/-! dicts with texts, ints and None as keys -/
def toL : Option Key → Leaf
  | none => .none
  | some (.inl i) => .num i
  | some (.inr x) => .text x
theorem toL_inj : ∀ {a b : Option Key}, toL a = toL b → a = b
  | none, none, _ => rfl
  | none, some (.inl _), e => nomatch e
  | none, some (.inr _), e => nomatch e
  | some (.inl _), none, e => nomatch e
  | some (.inr _), none, e => nomatch e
  | some (.inl i), some (.inl j), e => by
    injection e with e
    rw [e]
  | some (.inr i), some (.inr j), e => by
    injection e with e
    rw [e]
  | some (.inl _), some (.inr _), e => nomatch e
  | some (.inr _), some (.inl _), e => nomatch e
def lkIs : Option Key → Value → Bool
  | none, .none => true
  | none, _ => false
  | some k, v => keyIs k v
theorem lk_none {v : Value} (h : lkIs none v = true) : v = .none := by
  cases v <;> first | rfl | exact absurd h Bool.false_ne_true
theorem lk_leaf {k : Option Key} {v : Value} (h : lkIs k v = true) : Leaf.isOf (toL k) v = true := by
  cases k with
  | none =>
    rw [lk_none h]
    rfl
  | some k =>
    rcases keyIs_shape h with ⟨i, t, rfl, rfl⟩ | ⟨x, t, rfl, rfl⟩
    · exact decide_eq_true rfl
    · show Value.isStrOf x (.str x t) = true
      simp [Value.isStrOf]
def lkKind (P : Program) (w : World) : PySem.KeyKind P w (Option Key) where
  is := lkIs
  hash := fun k => (leafKind P w).hash (toL k)
  inj := fun v a b ha hb => toL_inj ((leafKind P w).inj v _ _ (lk_leaf ha) (lk_leaf hb))
  byValue := fun k v h => (leafKind P w).byValue _ v (lk_leaf h)
  pyHash := fun hv h => (leafKind P w).pyHash (lk_leaf hv) h
  eqBool := fun {A E s a b u v Q} hu hv h => (leafKind P w).eqBool (lk_leaf hu) (lk_leaf hv) (by
    have e : decide (toL a = toL b) = decide (a = b) := decide_eq_decide.mpr ⟨toL_inj, fun e => by rw [e]⟩
    rw [e]
    exact h)
  «strs» := fun k x t v h => by
    cases k with
    | none => exact absurd (lk_none h) (fun z => nomatch z)
    | some k => exact (mixKind P w).strs k x t v h
def kL : Option Key → V
  | none => .non
  | some k => kV k
theorem relL {k : Option Key} {u : Value} (h : lkIs k u = true) : RelV (kL k) u := by
  cases k with
  | none =>
    rw [lk_none h]
    rfl
  | some k => exact relV_key h
theorem kL_is {P : Program} {w : World} {k : Option Key} {u : Value} (r : RelV (kL k) u) : (lkKind P w).is k u = true := by
  cases k with
  | none =>
    cases (show u = Value.none from r)
    rfl
  | some k => exact kV_is (P := P) (w := w) r
def lfO (P : Program) (w : World) (a : Addr) (kvs : List (Option Key × V)) : HO :=
  .ext fun h => (a == sysModules) = false ∧ kvs.length ≤ sizeLine ∧ ∃ vs, KV kvs vs ∧ h.DictOf (lkKind P w) a vs
theorem lf_new {P : Program} {w : World} {H : Hp} {h : Heap} {a : Addr} {kvs : List (Option Key × V)} {vs : List (Option Key × Value)} (hd : (a == sysModules) = false) (z : kvs.length ≤ sizeLine) (rel : KV kvs vs) (dd : h.DictOf (lkKind P w) a vs) : ObjOk P w H h a (lfO P w a kvs) := by
  refine ⟨⟨hd, z, vs, rel, dd⟩, ?_, fun h1 h2 p e => ?_⟩
  · obtain ⟨o, es, ep, ho, _⟩ := dd
    exact ⟨o, ho⟩
  · obtain ⟨q1, q2, vs', q3, q4⟩ := p
    exact ⟨q1, q2, vs', q3, q4.at e⟩
theorem lf_rd {P : Program} {w : World} {H : Hp} {h : Heap} {a : Addr} {kvs : List (Option Key × V)} (ok : HOk P w H h) (e : Rd H a (lfO P w a kvs)) : (a == sysModules) = false ∧ kvs.length ≤ sizeLine ∧ ∃ vs, KV kvs vs ∧ h.DictOf (lkKind P w) a vs := by
  obtain ⟨p, _⟩ := (show ObjOk P w H h a (lfO P w a kvs) from e.ok ok)
  exact p
/-! ### dict(list of pairs) -/
def mergeG {κ : Type} [DecidableEq κ] (kvs more : List (κ × V)) : List (κ × V) := more.foldl (fun acc kv => putK acc kv.1 kv.2) kvs
theorem mergeG_kv {κ : Type} [DecidableEq κ] : ∀ {more : List (κ × V)} {rs : List (κ × Value)} {kvs : List (κ × V)} {vs : List (κ × Value)}, KV more rs → KV kvs vs → KV (mergeG kvs more) (merged vs rs)
  | [], _, _, _, .nil, r => r
  | _ :: _, _, _, _, .cons (b := q) h t, r => by
    obtain ⟨e, rv⟩ := h
    have z := r.put q.1 rv
    rw [← e] at z
    have z2 := mergeG_kv t z
    rw [e] at z2
    show KV (mergeG (putK _ _ _) _) (merged (stored _ _ _) _)
    rw [e]
    exact z2
theorem mergeG_len {κ : Type} [DecidableEq κ] : ∀ (more kvs : List (κ × V)), (mergeG kvs more).length ≤ kvs.length + more.length
  | [], kvs => Nat.le_refl _
  | p :: r, kvs => by
    have h1 := mergeG_len r (putK kvs p.1 p.2)
    have h2 := length_putK kvs p.1 p.2
    show (mergeG (putK kvs p.1 p.2) r).length ≤ _
    rw [List.length_cons]
    omega
section
variable {X : Cx}
theorem pairs_ofL {pins : List (Addr × Obj)} {σ : L2.St} {H : Hp} {s : Shared} (I : Inv X pins σ H s) : ∀ {ps : List Addr} {kvs : List (Option Key × V)}, Paired (fun p kv => SqT X.K H p [kL kv.1, kv.2]) ps kvs →
    ∃ (prs : List (Option Key × Value)) (qs : List (Value × Value)), KV kvs prs ∧ prs.length = ps.length ∧ qs.length = ps.length ∧ ∀ (j : Nat) (b : Addr), ps[j]? = some b → ∃ k u v, prs[j]? = some (k, v) ∧ qs[j]? = some (u, v) ∧ IsTup s.heap b #[u, v] ∧ lkIs k u = true
  | _, _, .nil => ⟨[], [], .nil, rfl, rfl, fun j q e => by simp at e⟩
  | _, _, .cons (a := p) (b := kv) h t => by
    obtain ⟨prs, qs, r, hl, hq, hp⟩ := pairs_ofL I t
    obtain ⟨its, rv, ht, _⟩ := I.tuple h
    obtain ⟨u, y, ei, ru, ry⟩ := vals2 rv
    subst ei
    refine ⟨(kv.1, y) :: prs, (u, y) :: qs, .cons ⟨rfl, ry⟩ r, by rw [List.length_cons, List.length_cons, hl], by rw [List.length_cons, List.length_cons, hq], fun j b e => ?_⟩
    cases j with
    | zero =>
      have e' : p = b := Option.some.inj e
      subst e'
      exact ⟨kv.1, u, y, rfl, rfl, ht, kL_is (P := X.prog) (w := X.w) ru⟩
    | succ j =>
      obtain ⟨k, u', v, e1, e2, e3⟩ := hp j b (by simpa using e)
      exact ⟨k, u', v, by simpa using e1, by simpa using e2, e3⟩
theorem call_dictL (hcalm : X.calm = true) : CallR X (.type "dict") (fun xs H Q => ∃ (a : Addr) (ps : List Addr) (kvs : List (Option Key × V)), xs = [.ref a] ∧ SqL X.K H a (ps.map V.ref) ∧ Paired (fun p kv => SqT X.K H p [kL kv.1, kv.2]) ps kvs ∧
    ∀ p, H p = none → Q (.ref p) (upd H p (lfO X.prog X.w p (mergeG [] kvs)))) := by
  intro pins s σ H xs us Q I r q
  obtain ⟨a, ps, kvs, ex, hq, hp, q⟩ := q
  subst ex
  obtain ⟨u, eu, rx⟩ := vals1 r
  subst eu
  cases rx
  obtain ⟨its, rv, pl, hz⟩ := I.list hq
  have ei := refs_at rv
  subst ei
  rw [List.length_map] at hz
  obtain ⟨prs, qs, rel, hl, hql, hpr⟩ := pairs_ofL I hp
  obtain ⟨o, n, ho, hc, hd, hdat⟩ := pl
  have ok : PlainSeq "list" s.heap a (ps.map Value.ref).toArray ∧ PairItems s.heap (ps.map Value.ref).toArray (fun j => ps.getD j 0) qs := by
    refine ⟨⟨o, n, ho, hc, hd, hdat⟩, by simp [hql], fun j k v e => ?_⟩
    have hj : j < ps.length := by
      rw [← hql]
      exact (List.getElem?_eq_some_iff.mp e).1
    have ej : ps[j]? = some ps[j] := List.getElem?_eq_getElem hj
    obtain ⟨k', u, v', e1, e2, e3, e4⟩ := hpr j _ ej
    rw [e] at e2
    cases e2
    refine ⟨by simp [List.getD, ej], .inl ?_⟩
    show Heap.IsTuple s.heap (ps.getD j 0) _
    rw [show ps.getD j 0 = ps[j] by simp [List.getD, ej]]
    exact e3
  refine PySem.call_dict_pairs (knd := lkKind X.prog X.w) (kvs := prs) (PairArg.list a (ps.map Value.ref).toArray (fun j => ps.getD j 0) qs) (I.ok.hd hcalm) ok ⟨by rw [hl, hql], fun i key v e => ?_⟩ (by rw [hql]; exact hz) fun h' tk hd' k => ?_
  · have hi : i < ps.length := by
      rw [← hql]
      exact (List.getElem?_eq_some_iff.mp e).1
    obtain ⟨k', u, v', e1, e2, e3, e4⟩ := hpr i _ (List.getElem?_eq_getElem hi)
    rw [show qs[i]? = some (key, v) from e] at e2
    cases e2
    exact ⟨k', e1, e4⟩
  · have hm : (s.heap.objs.size == sysModules) = false := beq_eq_false_iff_ne.mpr (Nat.ne_of_gt I.big)
    have hlen : (mergeG [] kvs).length ≤ sizeLine := by
      refine Nat.le_trans (mergeG_len kvs []) ?_
      rw [List.length_nil, Nat.zero_add, rel.length, hl]
      exact hz
    exact ⟨.ref s.heap.objs.size, upd H s.heap.objs.size (lfO X.prog X.w s.heap.objs.size (mergeG [] kvs)), I.laid (t' := tk) (fun b o e => k b o (by simp) e) (Nat.le_refl _) (lf_new hm hlen (mergeG_kv rel .nil) hd'), rfl, q _ (I.hok.fresh (Nat.le_refl _))⟩
theorem call_dictLE {P : Program} {w : World} (hP : X.prog = P) (hw : X.w = w) (hcalm : X.calm = true) : CallR X (.type "dict") (fun xs H Q => ∃ (a : Addr) (ps : List Addr) (kvs : List (Option Key × V)), xs = [.ref a] ∧ SqL X.K H a (ps.map V.ref) ∧ Paired (fun p kv => SqT X.K H p [kL kv.1, kv.2]) ps kvs ∧
    ∀ p, H p = none → Q (.ref p) (upd H p (lfO P w p (mergeG [] kvs)))) := by
  subst hP hw
  exact call_dictL hcalm
theorem call_dictLK {P : Program} {w : World} {K : PySem.W.Frag} (hP : X.prog = P) (hw : X.w = w) (hK : X.K = K) (hcalm : X.calm = true) : CallR X (.type "dict") (fun xs H Q => ∃ (a : Addr) (ps : List Addr) (kvs : List (Option Key × V)), xs = [.ref a] ∧ SqL K H a (ps.map V.ref) ∧ Paired (fun p kv => SqT K H p [kL kv.1, kv.2]) ps kvs ∧
    ∀ p, H p = none → Q (.ref p) (upd H p (lfO P w p (mergeG [] kvs)))) := by
  subst hP hw hK
  exact call_dictL hcalm
theorem call_dictPE {K : PySem.W.Frag} (hK : X.K = K) (hcalm : X.calm = true) : CallR X (.type "dict") (fun xs H Q => ∃ (a : Addr) (ps : List Addr) (kvs : List (Key × V)), xs = [.ref a] ∧ SqL K H a (ps.map V.ref) ∧ Paired (fun p kv => SqT K H p [kV kv.1, kv.2]) ps kvs ∧
    ∀ p, H p = none → Q (.ref p) (upd H p (.dK (mergeK [] kvs)))) := by
  subst hK
  exact call_dictP hcalm
/-- both readings of dict(list of pairs) -/
theorem call_or {c : Value} {R1 R2 : List V → Hp → VK → Prop} (h1 : CallR X c R1) (h2 : CallR X c R2) : CallR X c (fun xs H Q => R1 xs H Q ∨ R2 xs H Q) := by
  intro pins s σ H xs us Q I r q
  rcases q with q | q
  · exact h1 pins s σ H xs us Q I r q
  · exact h2 pins s σ H xs us Q I r q
/-! ### isinstance(d, dict), len(d) -/
theorem call_isiL : CallR X (.builtin "isinstance") (fun xs H Q => ∃ (a : Addr) (kvs : List (Option Key × V)), xs = [.ref a, .ty "dict"] ∧ H a = some (lfO X.prog X.w a kvs) ∧ Q (.bl true) H) := by
  intro pins s σ H xs us Q I r h
  obtain ⟨a, kvs, rfl, ha, q⟩ := h
  obtain ⟨u1, u2, rfl, r1, r2⟩ := vals2 r
  cases (show u1 = Value.ref a from r1)
  cases (show u2 = Value.type "dict" from r2)
  obtain ⟨_, _, vs, _, o, es, ep, h1, h2, _⟩ := lf_rd I.hok (.inl ha)
  exact PySem.W.kia_one PySem.W.kitx_dict I.kIn ⟨o, h1, h2.1⟩ (kit_ty (by decide +kernel)) (fun z => nomatch z) fun tk => ⟨.bl true, H, I.tok tk, rfl, q⟩
theorem call_lenL : CallR X (.builtin "len") (fun xs H Q => ∃ (a : Addr) (kvs : List (Option Key × V)), xs = [.ref a] ∧ H a = some (lfO X.prog X.w a kvs) ∧ Q (.int kvs.length) H) := by
  intro pins s σ H xs us Q I r h
  obtain ⟨a, kvs, rfl, ha, q⟩ := h
  obtain ⟨u, rfl, ru⟩ := vals1 r
  cases ru
  obtain ⟨hd, z, vs, rel, dd⟩ := lf_rd I.hok (.inl ha)
  refine call_len_dict hd dd (by rw [← rel.length]; rw [sizeLine_eq] at z; omega) ?_
  rw [← rel.length]
  exact ⟨.int kvs.length, H, I.tok _, ⟨_, rfl⟩, q⟩
end
/-! ### d[y] -/
section
variable {X : Cx} {o i : Expr} {pos : Pos} {td ty : TE}
def tDGetL (P : Program) (w : World) (td ty : TE) : TE := fun σ H Q => td σ H fun x H1 => ty σ H1 fun y H2 => ∃ a, x = .ref a ∧ ((∃ v, DGet H2 a y (some v) ∧ Q v H2) ∨ ∃ (kvs : List (Option Key × V)) (k : Option Key) (v : V), Rd H2 a (lfO P w a kvs) ∧ y = kL k ∧ valV kvs k = some v ∧ Q v H2)
theorem pe_dgetL (hu : X.A.units + 1 < cLine) (ho : PE X o td) (hi : PE X i ty) (hs : NoSl i) : PE X (.Subscript o i pos) (tDGetL X.prog X.w td ty) := by
  refine ⟨fun pins s σ H Q I h => ?_⟩
  refine subD_of PySem.F.slot_dict_getitem.lookup hs (thn (ho.run pins s σ H _ I h) fun u s1 ⟨x, H1, I1, rx, q1⟩ => thn (hi.run pins s1 σ H1 _ I1 q1) fun iv s2 ⟨y, H2, I2, ry, a, ex, g⟩ => ?_)
  subst ex
  obtain rfl : u = Value.ref a := rx
  rcases g with ⟨v, g, q2⟩ | ⟨kvs, k, v, e, rfl, l, q2⟩
  · exact ⟨dict_typeIs I2 g, d_getItem hu I2 g ry fun w' s3 I3 rw' => ⟨v, H2, I3, rw', q2⟩⟩
  · obtain ⟨hd, z, vs, rel, dd⟩ := lf_rd I2.hok e
    refine ⟨dd.typeIs, ?_⟩
    obtain ⟨w', hw, rw'⟩ := RelO.some_of (v := v) (o := valueAt vs k) (by rw [← l]; exact rel.val k)
    exact wpAny_getItem_of (kL_is ry) dd.mapOf hw ⟨v, H2, I2.tok _, rw', q2⟩
end
theorem pe_dgetLE {X : Cx} {o i : Expr} {pos : Pos} {td ty : TE} {P : Program} {w : World} (hP : X.prog = P) (hw : X.w = w) (hu : X.A.units + 1 < cLine) (ho : PE X o td) (hi : PE X i ty) (hs : NoSl i) : PE X (.Subscript o i pos) (tDGetL P w td ty) := by
  subst hP hw
  exact pe_dgetL hu ho hi hs
/-! ### for k in d -/
def ItkL (P : Program) (w : World) (d : Addr) (o : Obj) (kvs : List (Option Key × V)) : It :=
  ⟨fun i H => H d = some (.frz o (lfO P w d kvs)) ∧ i < kvs.length, fun i H x H' => H' = H ∧ ∃ k v, kvs[i]? = some (k, v) ∧ x = kL k, fun i H => H d = some (.frz o (lfO P w d kvs)) ∧ kvs.length ≤ i⟩
theorem walk_keysL {P : Program} {w : World} {d : Addr} {o : Obj} {kvs : List (Option Key × V)} : Walk (ItkL P w d o kvs) kvs.length (fun H => H d = some (.frz o (lfO P w d kvs))) (fun i H x H' => H' = H ∧ ∃ k v, kvs[i]? = some (k, v) ∧ x = kL k) :=
  ⟨fun _ _ hi q => ⟨q, hi⟩, fun _ q => ⟨q, Nat.le_refl _⟩, fun _ _ _ _ _ _ y => y⟩
theorem frzL {X : Cx} {pins : List (Addr × Obj)} {σ : L2.St} {H : Hp} {s : Shared} {d : Addr} {o : Obj} {kvs : List (Option Key × V)} (I : Inv X pins σ H s) (h : H d = some (.frz o (lfO X.prog X.w d kvs))) :
    (d == sysModules) = false ∧ s.heap.get? d = some o ∧ o.ExactDict ∧ ∃ (es : Array DictEntry) (ep : Nat) (vs : List (Option Key × Value)), o.data = .dict es ep ∧ es.size = kvs.length ∧ KV kvs vs ∧ s.heap.DictAt (lkKind X.prog X.w) d vs ep := by
  obtain ⟨ho, hok⟩ := (show ObjOk X.prog X.w H s.heap d (.frz o (lfO X.prog X.w d kvs)) from I.hok d _ h)
  obtain ⟨⟨hd, z, vs, kv, o', es, ep, ho', hx, hdt, r⟩, _⟩ := (show ObjOk X.prog X.w H s.heap d (lfO X.prog X.w d kvs) from hok)
  rw [ho] at ho'
  obtain rfl := Option.some.inj ho'
  refine ⟨hd, ho, hx, es, ep, vs, hdt, ?_, kv, ⟨_, _, ho, hx, hdt, r⟩⟩
  have l1 : kvs.length = vs.length := Paired.length kv
  have l2 := r.2.1.length
  rw [l1, ← l2]
  exact Array.length_toList.symm
section
variable {P : Program} {w : World} {K : PySem.W.Frag} {tg : Expr} {d : Addr} {o : Obj} {es : Array DictEntry} {ep : Nat}
theorem turn_keysL {kvs : List (Option Key × V)} (it : Addr) (hod : o.data = .dict es ep) : Turn P w K tg (ItkL P w d o kvs) [it] it (fun i h => h.IsKeyIter it d i kvs.length ep) where
  mem := by simp
  obj := fun i h st b hb => by
    have e : b = it := by simpa using hb
    subst e
    obtain ⟨oi, e, c, dd⟩ := st
    exact ⟨oi, e, fun v z => by rw [dd] at z; cases z⟩
  keep := fun i h h' st k => st.at fun oi e => k it (by simp) oi e
  item := by
    intro X hP hw hK hc i pins s σ H E I hf st hg
    subst hP hw hK
    obtain ⟨hd, hi⟩ := hg
    obtain ⟨f0, f1, f2, f3, f4, f5⟩ := hf it (by simp)
    obtain ⟨hs, hgd, hx, es', ep', vs, hdt, hsz, kv, hm⟩ := frzL I hd
    obtain ⟨rfl, rfl⟩ := dict_ep hod hdt
    obtain ⟨⟨k, v⟩, hkv⟩ : ∃ p, kvs[i]? = some p := ⟨kvs[i], List.getElem?_eq_getElem hi⟩
    obtain ⟨u, hu, ru⟩ := kv_get kv hkv
    have hl : kvs.length = vs.length := Paired.length kv
    rw [hl] at st
    refine wpAny_pyNext_dict_item st hm hu fun key h' hkey st' sb => ?_
    have I1 : Inv X pins σ H { s with heap := h' } := I.turned (t' := s.toks) (fun b ob hb e => (sb.2 b hb).trans e) f0 f1 f3 f4 f5
    obtain ⟨oi, e, c, dd⟩ := id st'
    refine ⟨key, rfl, go_of (s := { s with heap := h' }) e c dd (by decide) ⟨kL k, H, I1, relL (show lkIs k key = true from hkey), ⟨rfl, k, v, hkv, rfl⟩, ?_, fun b hb => (hf b hb).1⟩⟩
    show h'.IsKeyIter it d (i + 1) kvs.length _
    rw [hl]
    exact st'
  done := by
    intro X hP hw hK hc i pins s σ H E I hf st hg
    subst hP hw hK
    obtain ⟨hd, hi⟩ := hg
    obtain ⟨f0, f1, f2, f3, f4, f5⟩ := hf it (by simp)
    obtain ⟨hs, hgd, hx, es', ep', vs, hdt, hsz, kv, hm⟩ := frzL I hd
    obtain ⟨rfl, rfl⟩ := dict_ep hod hdt
    exact next_key_end (I.ok.hd hc) st hgd hdt hsz hi fun h' eb => ⟨rfl, I.turned (t' := s.toks) (fun b ob hb e => eb b ob hb e) f0 f1 f3 f4 f5⟩
  self := fun A i s Q E st h => wpAny_pyIter_keyiter st h
end
def iKeysL (P : Program) (w : World) (td : TE) : TI := fun σ H R => td σ H fun x H1 => ∃ d o, x = .ref d ∧ ((∃ kvs, H1 d = some (.frz o (.dK kvs)) ∧ R (Itk d o kvs) H1) ∨ ∃ kvs, H1 d = some (.frz o (lfO P w d kvs)) ∧ R (ItkL P w d o kvs) H1)
theorem pi_keysL {X : Cx} {tg e : Expr} {td : TE} (he : PE X e td) : PI X tg e (iKeysL X.prog X.w td) := by
  refine ⟨fun pins s σ H R I h => ?_⟩
  refine thn (he.run pins s σ H _ I h) fun u s1 ⟨x, H1, I1, rx, d, o, ex, q⟩ => ?_
  subst ex
  obtain rfl : u = Value.ref d := rx
  rcases q with ⟨kvs, hd, q⟩ | ⟨kvs, hd, q⟩
  · obtain ⟨hs, hgd, hx, es, ep, vs, hdt, hsz, kv, hm⟩ := I1.frzK hd
    refine iter_keys hs hgd hx hdt (pi_one (tk := s1.toks) I1 _ (turn_keys _ hdt) ⟨_, Heap.get?_push_size _ rfl, rfl, ?_⟩ q)
    rw [hsz] <;> rfl
  · obtain ⟨hs, hgd, hx, es, ep, vs, hdt, hsz, kv, hm⟩ := frzL I1 hd
    refine iter_keys hs hgd hx hdt (pi_one (tk := s1.toks) I1 _ (turn_keysL _ hdt) ⟨_, Heap.get?_push_size _ rfl, rfl, ?_⟩ q)
    rw [hsz] <;> rfl
end MyZ
set_option Elab.async false
set_option linter.all false
set_option maxRecDepth 100000
set_option maxHeartbeats 2000000
namespace PySem.W
open Lean Elab Tactic Meta PySem PySem.Calls PyProof.Rows
section
variable {prog : Program} {w : World} {M : Model} {A : Around} {E : Value → Shared → Prop} {s : Shared} {K : Frag} {x C D L f : Addr} {h₀ : Heap} {m : Str → Option Value} {ox : Obj} {od : Option Obj} {nm : String}
theorem my_noFills {h : Heap} {cd : ClassData} (X : K.In h) (hc : clsIn K D = some cd) (hm : cd.mro = [.ref D, .type "object"]) (h1 : findIn K (.ref D) (PySem.dunder nm) = some none) (h2 : findIn K (.ref D) (dunderR nm) = some none)
    (h3 : findIn K (.type "object") (PySem.dunder nm) = some none) (h4 : findIn K (.type "object") (dunderR nm) = some none) : Looks M h (fillsNumberSlot (.ref D) nm) false := by
  intro A Q E s k q
  have X' : K.In s.heap := X.keeps k
  have l1 : Looks M s.heap (typeLookup (.ref D) (PySem.dunder nm)) none := looks_findIn X' h1
  have l2 : Looks M s.heap (typeLookup (.ref D) (dunderR nm)) none := looks_findIn X' h2
  have l3 : Looks M s.heap (typeLookup (.type "object") (PySem.dunder nm)) none := looks_findIn X' h3
  have l4 : Looks M s.heap (typeLookup (.type "object") (dunderR nm)) none := looks_findIn X' h4
  have kk : ∀ b o, s.heap.get? b = some o → s.heap.get? b = some o := fun _ _ e => e
  unfold fillsNumberSlot
  refine wpAny_bind ((looks_clsIn X hc).andThen (f := fun cd => pure cd.mro) .now A _ E s k ?_)
  rw [hm, List.anyM_cons]
  refine wpAny_bind ?_
  show wpAny M A (List.anyM _ [PySem.dunder nm, dunderR nm]) _ _ _
  rw [List.anyM_cons]
  refine wpAny_bind (wpAny_bind (l1 A _ E s kk ?_))
  refine wpAny_pure ?_
  rw [if_neg (by decide), List.anyM_cons]
  refine wpAny_bind (wpAny_bind (l2 A _ E s kk ?_))
  refine wpAny_pure ?_
  rw [if_neg (by decide)]
  refine wpAny_pure ?_
  rw [if_neg (by decide), List.anyM_cons]
  refine wpAny_bind (wpAny_bind (l3 A _ E s kk (wpAny_bind (l4 A _ E s kk (wpAny_pure ?_)))))
  exact wpAny_pure q
end
end PySem.W
namespace MyJ
open PySem PySem.Spec PyProof.Rows L2 My
open PySem.W
/-- another own class that knows nothing of the operation -/
structure OthN (K : PySem.W.Frag) (C D : Addr) (nm : String) : Prop where
  ne : C ≠ D
  mro : ∃ cd, clsIn K D = some cd ∧ cd.mro = [.ref D, .type "object"]
  n1 : findIn K (.ref D) (PySem.dunder nm) = some none
  n2 : findIn K (.ref D) (PySem.dunderR nm) = some none
  n3 : findIn K (.type "object") (PySem.dunder nm) = some none
  n4 : findIn K (.type "object") (PySem.dunderR nm) = some none
section
variable {prog : Program} {w : World} {A : Around} {E : Value → Shared → Prop} {s : Shared} {K : Frag} {x C D L f : Addr} {h₀ : Heap} {m : Str → Option Value} {ox : Obj} {od : Option Obj}
theorem bin_oth {op : Operator} {nm : String} {b : Value} {Q : Value → Shared → Prop} (hi : op.info.2 = nm) (X : K.In s.heap) (I : InstAt s.heap x ox C od) (hb : Looks (model prog w) s.heap (typeOf b) (.ref D)) (B : OwnBin K C f nm) (O : OthN K C D nm)
    (h : wpAny (model prog w) A (call (.ref f) [.ref x, b]) (PySem.W.CmpBack Q) E s) : wpAny (model prog w) A (binaryOp op (.ref x) b) Q E s := by
  obtain ⟨cd, rest, hcd, hm⟩ := ksp_first B.first
  obtain ⟨cd2, hcd2, hm2⟩ := O.mro
  have one := ksp_try X I B.at_ B.fn h
  have l4 : Looks (model prog w) s.heap (fillsNumberSlot (.ref D) nm) false := PySem.W.my_noFills X hcd2 hm2 O.n1 O.n2 O.n3 O.n4
  obtain ⟨hh, g, d, tt, os⟩ := s
  have l1 : Looks (model prog w) hh (typeOf (.ref x)) (.ref C) := I.type
  have l2 : Looks (model prog w) hh (typeOf b) (.ref D) := hb
  have l3 : Looks (model prog w) hh (fillsNumberSlot (.ref C) nm) true := fills_K X hcd hm B.at_
  have hne : (Value.ref C == Value.ref D) = false := Bool.eq_false_iff.mpr fun q => O.ne (Value.ref.inj (beq_iff_eq.mp q))
  simp only [binaryOp, hi]
  refine wpAny_holding (wpAny_bind ?_)
  unfold binaryOp1
  refine wpAny_bind (l1.at (wpAny_bind (l2.at (wpAny_bind (l3.at ?_)))))
  simp only [hne, Bool.false_eq_true, if_false]
  ksp_lk
  refine wpAny_mono one (fun r s' z => ?_) fun _ _ e => e
  obtain ⟨v, rfl, hq⟩ := z
  ksp_lk
  exact hq
end
section
variable {X : Cx} {CX : CXT} {C D g : Addr} {n : Nat} {sp : Sp} {E : XK}
/-- x op y, both ways -/
def rBinO (K : PySem.W.Frag) (C D : Addr) (nm : String) (sp : Sp) (E : XK) : R2 := fun x y H Q => rBinI K C nm sp E x y H Q ∨ ∃ a dx fs, x = .ref a ∧ H a = some (.ins C dx fs) ∧ TyX K H y (.ref D) ∧ sp [x, y] H Q E
theorem op_binO {op : Operator} {nm : String} (hi : op.info.2 = nm) (B : OwnBin X.K C g nm) (O : OthN X.K C D nm) (F : FnR X.prog X.w X.K X.mg X.base CX n g sp) (hr : Room n X.A) (hx : Passes CX X E) : OpR X (binaryOp op) (rBinO X.K C D nm sp E) := by
  intro pins s σ H x y v u Q I rx ry h
  rcases h with h | ⟨a, dx, fs, rfl, ha, ty, q⟩
  · exact op_binI hi B F hr hx pins s σ H x y v u Q I rx ry h
  · cases (show v = Value.ref a from rx)
    obtain ⟨mA, O', _⟩ := ins_get I.hok ha
    obtain ⟨od, J, _⟩ := O'.look
    have lt := looks_ty I ry ty
    refine bin_oth hi I.kIn J lt B O ?_
    refine wpAny_mono (wpAny_call (run_fnR (us := [.ref a, u]) (vs := [.ref a, y]) F hr hx I (.cons rfl (.cons ry .nil)) q)) (fun w s' z => ?_) fun _ _ x => x
    obtain ⟨z', H', I', rz, qz⟩ := z
    exact SlX.cmpback rz ⟨z', H', I', rz, qz⟩
end
section
variable {X : Cx} {CX : CXT} {C g : Addr} {k : Nat} {sp : Sp} {E : XK} {fe e : Expr} {es : List Expr} {tf : TE} {t : TA} {pos : Pos}
/-- f(e, ..), f an instance of C; nothing of the place is said -/
def tCallE (C : Addr) (sp : Sp) (E : XK) (tf : TE) (t : TA) : TE := fun σ H Q => tf σ H fun y H1 => ∃ a, y = V.ref a ∧ t σ H1 fun vs H2 => (∃ dx fs, H2 a = some (.ins C dx fs)) ∧ sp (V.ref a :: vs) H2 Q E
theorem pe_callE (hf : PE X fe tf) (c : StX.CallO X.K C g) (F : FnR X.prog X.w X.K X.mg X.base CX k g sp) (hr : Room k X.A) (hx : Passes CX X E) (ha : PA X (e :: es) t)
    (ht : eval (.Call fe (e :: es) [] pos) X.env = (do callWith pos (← eval fe X.env) [] (backTo pos (starEach (e :: es) X.env)) (backToKw pos (keywordEach [] X.env))) := by rfl)
    (he : starEach (e :: es) X.env = (false, eval e X.env) :: starEach es X.env := by rfl) (hpl : (backTo pos (starEach es X.env)).any (·.1) = false := by rfl) : PE X (.Call fe (e :: es) [] pos) (tCallE C sp E tf t) := by
  refine ⟨fun pins s σ H Q I h => ?_⟩
  refine Call_ (thn (hf.run pins s σ H _ I h) fun u s1 ⟨y, H1, I1, ry, a, ey, q⟩ => ?_) ht
  subst ey
  obtain rfl : u = Value.ref a := ry
  refine StX.callO_with (thn (ha.run pos pins s1 σ H1 _ I1 q) fun us s2 ⟨vs, H2, I2, r, hi, q2⟩ => ?_) he hpl
  have hi' : StX.InsC X H2 a C := .inr hi
  obtain ⟨ox, od, J, hd⟩ := StX.insC_at I2 hi'
  exact ⟨⟨C, ox, od, J, hd⟩, StX.run_callO c F hr hx I2 hi' r q2⟩
end
/-- list(d), and where it lies -/
theorem call_list_dKN {X : Cx} (hc : X.calm = true) : CallR X (.type "list") (fun xs H Q => ∃ p kvs, xs = [V.ref p] ∧ H p = some (.dK kvs) ∧ ∀ q, H q = Option.none → X.s_0.heap.objs.size ≤ q → Q (.ref q) (upd H q (.lst (kvs.map fun kv => kV kv.1)))) := by
  intro pins s σ H xs us Q I r h
  obtain ⟨p, kvs, e, hk, q⟩ := h
  subst e
  obtain ⟨u, eu, rx⟩ := vals1 r
  subst eu
  obtain rfl : u = Value.ref p := rx
  obtain ⟨z, lo, vs, rk, hd⟩ := (show ObjOk X.prog X.w H s.heap p (.dK kvs) from I.hok p _ hk)
  obtain ⟨ep, hat⟩ := hd.dictAt
  have hl : kvs.length = vs.length := Paired.length rk
  refine PySem.W.kdl_call (PySem.W.kdl_dict (knd := mixKind X.prog X.w) (kvs := vs) (ep := ep) lo) (I.ok.hd hc) hat (by rw [← hl]; exact z) fun h' tk acc' c' hkeep hS hacc => ?_
  refine ⟨.ref s.heap.objs.size, upd H s.heap.objs.size (.lst (kvs.map fun kv => kV kv.1)), I.laid hkeep (Nat.le_refl _) (show ObjOk X.prog X.w _ _ _ (.lst (kvs.map fun kv => kV kv.1)) from ⟨?_, acc'.toList, c', ?_, ?_⟩), rfl, q _ (I.hok.fresh (Nat.le_refl _)) I.sz⟩
  · rw [List.length_map]; exact z
  · have el : acc'.toList.length = acc'.size := by simp
    refine vals_of_at (by rw [List.length_map, el, hacc.1, hl]) fun j x w h1 h2 => ?_
    obtain ⟨k, y, hky, hi⟩ := hacc.2 j w (by rw [← Array.getElem?_toList]; exact h2)
    have e1 : (kvs.map (·.1))[j]? = some k := by
      rw [KV.keys rk, List.getElem?_map, hky] <;> rfl
    have e2 : (kvs.map fun kv => kV kv.1)[j]? = some (kV k) := by
      have e3 : (kvs.map fun kv => kV kv.1) = (kvs.map (·.1)).map kV := by rw [List.map_map] <;> rfl
      rw [e3, List.getElem?_map, e1] <;> rfl
    rw [e2] at h1
    cases h1
    exact keyIs_rel hi
  · rw [Array.toArray_toList]; exact hS
end MyJ
set_option Elab.async false
set_option linter.all false
set_option maxRecDepth 100000
set_option maxHeartbeats 2000000
namespace MyF
open PySem PySem.Spec PySem.HandSPX
/-! ### an own exception made by a call with keywords -/
section
variable {M : Model} {A : Around} {E : Value → Shared → Prop} {h : Heap} {g : Array GenState} {d : Drawn} {t : Nat} {os : OsState} {kws : List (Str × Value)}
variable {nm q : Str} {C N : Addr} {bs bm bmB : List Value} {hdct : Bool} {sn : List Str} {sub : List Value} {ab : Bool} {col : Option Bool} {dd : Option Addr} {k0 k1 k2 k3 k5 : Option Value} {B newId initId : String}
theorem check_new_kw (F : ExcBaseFacts B newId initId bmB) (hT : ∀ X : String, bm.contains (.type X) = bmB.contains (.type X)) {rest : List Value} {Q : Unit → Shared → Prop}
    (hC : h.get? C = some (excClassObj nm q C N bs bm hdct sn sub ab col dd k0 k1 k2 k3 k5 newId)) (hq : Q () ⟨h, g, d, t, os⟩) : wpAny M A (checkBuiltinCall newId ⟨.ref C :: rest, kws⟩) Q E ⟨h, g, d, t, os⟩ := by
  have hcont : (Value.ref C :: bm).contains (.type B) = true := by rw [List.contains_cons, hT, F.hasB, Bool.or_true]
  have hstar := F.noStar
  simp only [checkBuiltinCall, F.newKind, F.newSplit, F.newRow]
  repeat (first | refine wpAny_loadPart_at hC ?_ | (refine wpAny_isSubtype_exc hC ?_; rw [hcont]) | refine wpAny_staticBase_exc hC ?_ | refine wpAny_madeBy_exc hC ?_ | simp only [bne_self_eq_false, Bool.false_eq_true, if_false] | wp_step)
  exact hq
end
section
variable {prog : Program} {w : World} {A : Around} {E : Value → Shared → Prop} {R : Result → Shared → Prop} {h : Heap} {g : Array GenState} {d : Drawn} {t : Nat} {os : OsState} {kws : List (Str × Value)}
variable {nm q : Str} {C N : Addr} {bs bm bmB : List Value} {hdct : Bool} {sn : List Str} {sub : List Value} {ab : Bool} {col : Option Bool} {dd : Option Addr} {k0 k1 k2 k3 k5 : Option Value} {B newId initId : String}
theorem new_kw (F : ExcBaseFacts B newId initId bmB) (hT : ∀ X : String, bm.contains (.type X) = bmB.contains (.type X)) {rest : List Value}
    (hC : h.get? C = some (excClassObj nm q C N bs bm hdct sn sub ab col dd k0 k1 k2 k3 k5 newId))
    (hq : R (.ok (.ret (.ref (h.objs.size + 1)))) ⟨(h.push { cls := .type "tuple", data := .seq rest.toArray }).push { cls := .ref C, data := .fields #[.ref h.objs.size, .none, .none, .none, .bool false, .none] }, g, d, t, os⟩) (hrest : rest.length ≤ sizeLine) :
    codeAny (model prog w) A (.builtin newId ⟨.ref C :: rest, kws⟩) R ⟨h, g, d, t, os⟩ := by
  have hends := F.ends
  have hcB : (Value.ref C :: bm).contains (.type B) = true := by rw [List.contains_cons, hT, F.hasB, Bool.or_true]
  have hcA : (Value.ref C :: bm).contains (.type "AttributeError") = false := by rw [List.contains_cons, hT, F.noAttr]; rfl
  have hcN : (Value.ref C :: bm).contains (.type "NameError") = false := by rw [List.contains_cons, hT, F.noName]; rfl
  refine codeAny_builtinAt F.entry ?_
  unfold Builtin.«BaseException.__new__»
  refine wpAt_bind ?_
  show wpAt _ _ _ (stack >>= _) _ _ _
  refine wpAt_bind (wpAt_stack fun p below => wpAt_of_wpAny ?_)
  wp_walk
  refine wpAt_of_wpAny ?_
  rw [F.owner]
  repeat (first | with_reducible refine wpAny_madeHere_exc F.canon hC ?_ | with_reducible refine wpAny_loadPart_at hC ?_ | (with_reducible refine wpAny_isSubtype_exc hC ?_; first | rw [hcB] | rw [hcA] | rw [hcN]) | wp_step)
  show R _ _
  rw [Heap.size_push]
  exact hq
theorem type_call_kw (F : ExcBaseFacts B newId initId bmB) (hT : ∀ X : String, bm.contains (.type X) = bmB.contains (.type X)) {rest : List Value} {fI : Addr} {Q : Fin → Shared → Prop}
    (hC : h.get? C = some (excClassObj nm q C N bs bm hdct sn sub ab col dd k0 k1 k2 k3 k5 newId))
    (hi : W.Looks (model prog w) h (typeLookup (.ref C) "__init__") (some (.ref fI))) (hb : ∀ self, W.Looks (model prog w) h (bindSpecial (.ref fI) self) (.ref fI, [self])) (hrest : rest.length ≤ sizeLine)
    (hq : codeAny (model prog w) A (.call (.ref fI) ⟨.ref (h.objs.size + 1) :: rest, kws⟩)
      (fun r s' => match r with | .ok (.ret v) => v = .none ∧ Q (.done (.ret (.ref (h.objs.size + 1)))) s' | .ok _ => False | .error e => E e s')
      ⟨(h.push (W.kdv_tup rest)).push (excO C h.objs.size), g, d, t, os⟩) :
    wpAny (model prog w) A (Builtin.«type.__call__» ⟨.ref C :: rest, kws⟩) Q E ⟨h, g, d, t, os⟩ := by
  repeat (first | with_reducible refine wpAny_loadPart_at hC ?_ | with_reducible refine wpAny_madeBy_exc hC ?_ | wp_step)
  refine codeAny_call_builtin_code (Code.quiet_builtin _ F.quiet) (check_new_kw F hT hC ?_)
  refine new_kw F hT hC ?_ hrest
  show wpAny _ _ _ _ _ _
  have k : ∀ b o, h.get? b = some o → ((h.push (W.kdv_tup rest)).push (excO C h.objs.size)).get? b = some o := fun b o e => Heap.get?_push_of_some _ (Heap.get?_push_of_some _ e)
  have hC₁ := k _ _ hC
  have hget : ((h.push (W.kdv_tup rest)).push (excO C h.objs.size)).get? (h.objs.size + 1) = some (excO C h.objs.size) := by heap_get
  have hcC : (Value.ref C :: bm).contains (.ref C) = true := by simp
  have i1 := hi.keeps k
  have b1 := (hb (.ref (h.objs.size + 1))).keeps k
  unfold isInstance
  repeat (first | with_reducible refine wpAny_loadPart_at hget ?_ | (with_reducible refine wpAny_isSubtype_exc hC₁ ?_; rw [hcC]) | wp_step)
  show wpAny _ _ (typeLookup (.ref C) _) _ _ _
  refine i1.at ?_
  refine wpAny_holding (wpAny_bind (b1.at ?_))
  refine wpAny_bind (wpAny_call (codeAny_mono hq fun r s' z => ?_))
  rcases r with e | (v | _ | _ | _) <;> first | exact z | exact z.elim | skip
  obtain ⟨rfl, z⟩ := z
  first
    | exact wpAny_pure (wpAny_pure z)
    | (wp_walk; exact z)
theorem call_kw (F : ExcBaseFacts B newId initId bmB) (hT : ∀ X : String, bm.contains (.type X) = bmB.contains (.type X)) {rest : List Value} {fI : Addr}
    (hC : h.get? C = some (excClassObj nm q C N bs bm hdct sn sub ab col dd k0 k1 k2 k3 k5 newId))
    (hi : W.Looks (model prog w) h (typeLookup (.ref C) "__init__") (some (.ref fI))) (hb : ∀ self, W.Looks (model prog w) h (bindSpecial (.ref fI) self) (.ref fI, [self])) (hrest : rest.length ≤ sizeLine)
    (hq : codeAny (model prog w) (A.under (.builtin "type.__call__" ⟨.ref C :: rest, kws⟩)) (.call (.ref fI) ⟨.ref (h.objs.size + 1) :: rest, kws⟩) (W.InitBack (h.objs.size + 1) R)
      ⟨(h.push (W.kdv_tup rest)).push (excO C h.objs.size), g, d, t, os⟩) :
    codeAny (model prog w) A (.call (.ref C) ⟨rest, kws⟩) R ⟨h, g, d, t, os⟩ := by
  have f1 := tc_lookup
  have f2 := tc_bind (.ref C)
  have hTy : (⟨h, g, d, t, os⟩ : Shared).TypeIs (.ref C) "type" := ⟨_, hC, rfl⟩
  refine codeAny_of_tree ?_
  show wpAny _ _ (callAny (.ref C) _) _ _ _
  repeat (any_goals (first | assumption | with_reducible refine wpAny_loadPart_at hC ?_ | wp_step))
  refine ⟨rfl, ?_⟩
  refine codeAny_call_builtin_at (Code.quiet_builtin _ (by decide +kernel)) entry_typeCall (wpAny_check_type_call_sub hC (type_call_kw F hT hC hi hb hrest ?_))
  refine codeAny_mono hq fun r s' z => ?_
  rcases r with e | (v | _ | _ | _) <;> exact z
end
end MyF
set_option Elab.async false
set_option linter.all false
set_option maxRecDepth 100000
set_option maxHeartbeats 2000000
namespace MyC
open PySem PySem.Spec PyProof.Rows L2 My
section
variable {X : Cx} {CX : CXT} {k n : Nat} {C fI : Addr} {fd : FuncData} {ps ks : List Str} {sp : Sp} {x : Str} {p pos : Pos} {e : Expr} {es : List Expr} {kws : List Keyword} {t tk : TA} {g : List Value → List Value → List Value} {gV : List V → List V → List V}
/-! ### own exceptions as values -/
theorem run_mkO {pins : List (Addr × Obj)} {σ : L2.St} {H : Hp} {s : Shared} {Q : VK} {us bs : List Value} {kw : List (Str × Value)} {as : List V} (T : OexC X.K C) (iC : PySem.W.findIn X.K (.ref C) "__init__" = some (some (.ref fI))) (tI : PySem.W.typeIn X.K (.ref fI) = some (.type "function"))
    (F1 : FnOk X.prog X.w X.K X.mg X.base CX k fI fd ps sp) (hr : Room (k + 1) X.A) (hx : Passes CX X (fun _ _ _ => False)) (I : Inv X pins σ H s) (hus : us.length ≤ sizeLine)
    (hb : ∀ s' : Shared, X.K.In s'.heap → BindsTo s' fd ⟨Value.ref (s.heap.objs.size + 1) :: us, kw⟩ (ps.zip bs)) (r : Vals as bs)
    (hq : sp as (upd H (s.heap.objs.size + 1) (exo (s.heap.objs.size + 1) C none)) (fun v H2 => v = .non ∧ Q (.ref (s.heap.objs.size + 1)) H2) (fun _ _ _ => False)) :
    wpAny (model X.prog X.w) X.A (call (.ref C) us kw) (EP X pins σ Q) X.xe s := by
  obtain ⟨nm, q, N, bs', bm, sn, sub, ab, col, dd, k0, k1, k2, k3, k5, hC, hbm⟩ := T.cls
  obtain ⟨hp, gs, dr, tk, os⟩ := s
  have hsz : hp.objs.size ≤ hp.objs.size + 1 := Nat.le_succ _
  have kk : ∀ b o, hp.get? b = some o → ((hp.push (PySem.W.kdv_tup us)).push (PySem.HandSPX.excO C hp.objs.size)).get? b = some o := fun b o e => Heap.get?_push_of_some _ (Heap.get?_push_of_some _ e)
  have hget : ((hp.push (PySem.W.kdv_tup us)).push (PySem.HandSPX.excO C hp.objs.size)).get? (hp.objs.size + 1) = some (PySem.HandSPX.excO C hp.objs.size) := by heap_get
  have I2 : Inv X pins σ (upd H (hp.objs.size + 1) (exo (hp.objs.size + 1) C none)) ⟨(hp.push (PySem.W.kdv_tup us)).push (PySem.HandSPX.excO C hp.objs.size), gs, dr, tk, os⟩ :=
    I.laid (t' := tk) (a := hp.objs.size + 1) (o := exo (hp.objs.size + 1) C none) (h' := (hp.push (PySem.W.kdv_tup us)).push (PySem.HandSPX.excO C hp.objs.size)) kk hsz (exo_ok hget)
  refine wpAny_call (MyF.call_kw F.excBase_ValueError (fun Y => PySem.HandSPX.refsVE_contains Y bm hbm) (I.kIn _ _ hC) (PySem.W.looks_findIn I.kIn iC) (fun self => PySem.W.bind_fn I.kIn self tI) hus
    (codeAny_mono (F1.run _ X.stack _ _ ⟨Value.ref (hp.objs.size + 1) :: us, kw⟩ bs as _ (fun _ _ _ => False) (hr.make C us kw) (I2.env0.make C us kw) (hb _ I2.kIn) r hq) fun r s' hq' => ?_))
  cases r with
  | error er => exact hx pins σ _ _ er s' I2 hq'
  | ok fl =>
    cases fl with
    | ret u =>
      obtain ⟨v, H', I3, rv, ev, q3⟩ := I2.after hq'
      subst ev
      exact ⟨rv, ⟨V.ref (hp.objs.size + 1), H', I3, rfl, q3⟩⟩
    | next => exact False.elim hq'
    | brk => exact False.elim hq'
    | cont => exact False.elim hq'
/-- C(e, ..), C an own exception with its own __init__, as a value -/
def tMkP (C : Addr) (sp : Sp) (ta : TA) : TE := fun σ H Q => ta σ H fun vs H1 => vs.length ≤ 1000 ∧ ∀ a, H1 a = none → sp (.ref a :: vs) (upd H1 a (exo a C none)) (fun v H2 => v = .non ∧ Q (.ref a) H2) (fun _ _ _ => False)
theorem pe_mkP (T : OexC X.K C) (iC : PySem.W.findIn X.K (.ref C) "__init__" = some (some (.ref fI))) (tI : PySem.W.typeIn X.K (.ref fI) = some (.type "function")) (F1 : FnOk X.prog X.w X.K X.mg X.base CX k fI fd ps sp) (hr : Room (k + 1) X.A)
    (hb : Binds X.K fd ps []) (hx : Passes CX X (fun _ _ _ => False)) (hg : Gl X x) (hm : X.mg x = some (.ref C)) (ha : PA X (e :: es) t)
    (hdb : (x == ("__debug__" : Str)) = false := by decide) (he : starEach (e :: es) X.env = (false, eval e X.env) :: starEach es X.env := by rfl) (hpl : (backTo pos (starEach es X.env)).any (·.1) = false := by rfl) :
    PE X (.Call (.Name x p) (e :: es) [] pos) (tMkP C sp t) := by
  refine ⟨fun pins s σ H Q I h => ?_⟩
  refine wpAny_Call_Name_kw (ld_glob I hg hm ?_ hdb)
  refine PySem.W.callWith_K (h₀ := X.base) I.ok.mod.kin T.kC (thn (ha.run pos pins s σ H _ I h) fun us s1 ⟨vs, H1, I1, r1, hz, q1⟩ => ⟨I1.kIn, ?_⟩) he hpl
  have hq := q1 (s1.heap.objs.size + 1) (I1.hok.fresh (Nat.le_succ _))
  have r2 : Vals (V.ref (s1.heap.objs.size + 1) :: vs) (Value.ref (s1.heap.objs.size + 1) :: us) := .cons rfl r1
  have hl : (Value.ref (s1.heap.objs.size + 1) :: us).length = ps.length := by
    rw [← r2.length]
    exact F1.len _ _ _ _ hq
  refine run_mkO (us := us) (kw := []) T iC tI F1 hr hx I1 ?_ (fun s' K' => ?_) r2 hq
  · rw [← Paired.length r1, sizeLine_eq]
    omega
  · have := hb s' (Value.ref (s1.heap.objs.size + 1) :: us) K' (by simpa using hl)
    simpa using this
/-- C(k = v, ..) -/
def tMkK (C : Addr) (m : Nat) (sp : Sp) (gV : List V → List V → List V) (tk : TA) : TE := fun σ H Q => tk σ H fun zs H1 => zs.length = m ∧ ∀ a, H1 a = none → sp (gV [.ref a] zs) (upd H1 a (exo a C none)) (fun v H2 => v = .non ∧ Q (.ref a) H2) (fun _ _ _ => False)
theorem pe_mkK (T : OexC X.K C) (iC : PySem.W.findIn X.K (.ref C) "__init__" = some (some (.ref fI))) (tI : PySem.W.typeIn X.K (.ref fI) = some (.type "function")) (F1 : FnOk X.prog X.w X.K X.mg X.base CX k fI fd ps sp) (hr : Room (k + 1) X.A)
    (hb : KBn X.K fd ps 1 ks g gV) (hx : Passes CX X (fun _ _ _ => False)) (hg : Gl X x) (hm : X.mg x = some (.ref C)) (hkw : PK X kws tk)
    (hall : (backToKw pos (keywordEach kws X.env)).all (·.1.isSome) = true := by rfl) (hks : (backToKw pos (keywordEach kws X.env)).filterMap (·.1) = ks := by rfl) (hdb : (x == ("__debug__" : Str)) = false := by decide)
    (hpl : ((backTo pos (starEach [] X.env)).any (·.1) || (backToKw pos (keywordEach kws X.env)).any (·.1.isNone)) = false := by rfl) :
    PE X (.Call (.Name x p) [] kws pos) (tMkK C ks.length sp gV tk) := by
  refine ⟨fun pins s σ H Q I h => ?_⟩
  refine wpAny_Call_Name_kw (ld_glob I hg hm ?_ hdb)
  refine PySem.W.callWith_KW0 (h₀ := X.base) I.ok.mod.kin T.kC hall ?_ hpl
  refine thn (hkw.run pos pins s σ H _ I h) fun ws s2 ⟨zs, H2, I2, rz, l2, q2⟩ => ⟨I2.kIn, ?_⟩
  rw [hks]
  have hq := q2 (s2.heap.objs.size + 1) (I2.hok.fresh (Nat.le_succ _))
  have r1 : Vals [V.ref (s2.heap.objs.size + 1)] [Value.ref (s2.heap.objs.size + 1)] := .cons rfl .nil
  exact run_mkO (us := []) (kw := ks.zip ws) T iC tI F1 hr hx I2 (by show 0 ≤ sizeLine; omega) (fun s' K' => hb.to s' _ ws K' rfl (rz.length.symm.trans l2)) (hb.rel r1 rz) hq
/-- e.f, e an exception that is held -/
def tFldE (K : PySem.W.Frag) (f : Str) (te : TE) : TE := fun σ H Q => te σ H fun x H1 => ∃ (a C d : Addr) (fs : List (Str × V)) (v : V), x = .ref a ∧ XfC K C ∧ PySem.W.findIn K (.ref C) f = some none ∧ H1 a = some (exo a C (some d)) ∧ H1 d = some (exd d fs) ∧ fs.lookup f = some v ∧ Q v H1
theorem pe_fldE {te : TE} {n : Str} (he : PE X e te) (hb : attributeBase e n X.env (eval e X.env) = eval e X.env := by rfl) : PE X (.Attribute e n pos) (tFldE X.K n te) := by
  refine ⟨fun pins s σ H Q I h => ?_⟩
  refine attr_of hb (thn (he.run pins s σ H _ I h) fun u s1 hh => ?_)
  obtain ⟨x, H1, I1, rx, a, C, d, fs, v, ex, T, hno, ea, ed, l, q⟩ := hh
  subst ex
  obtain rfl : u = Value.ref a := rx
  obtain ⟨t1, ha⟩ := exo_at I1.hok ea
  obtain ⟨mA, hns, hr⟩ := exd_at I1.hok ed
  obtain ⟨od, ho, hl⟩ := lookIn_ns hns
  obtain ⟨u, hu, ru⟩ := RelO.some_of (v := v) (o := mA n) (by rw [← l]; exact hr n)
  have J : PySem.W.InstAt s1.heap a ({ cls := .ref C, dict := some d, data := .fields #[.ref t1, .none, .none, .none, .bool false, .none] } : Obj) C (some od) := ⟨ha, rfl, rfl, ho⟩
  exact HandSPX.exc_get I1.kIn J T.ga T.gg T.exC (PySem.W.findObj_own T.hdC hno rfl (by rw [hl, hu])) (handed_of ru) ⟨v, H1, I1.tok _, ru, q⟩
/-- an exception of the class at C with these fields -/
def ErA (H : Hp) (a C : Addr) (fs : List (Str × V)) : Prop := (∃ d, H a = some (exo a C (some d)) ∧ H d = some (exd d fs)) ∨ (fs = [] ∧ H a = some (ExO (.ref C) a))
theorem ErA.same {H H' : Hp} {a C : Addr} {fs : List (Str × V)} (h : ErA H a C fs) (s : Same H H') : ErA H' a C fs := by
  rcases h with ⟨d, h1, h2⟩ | ⟨h1, h2⟩
  · exact .inl ⟨d, s _ _ h1, s _ _ h2⟩
  · exact .inr ⟨h1, s _ _ h2⟩
theorem er_inst {pins : List (Addr × Obj)} {σ : L2.St} {H : Hp} {s : Shared} {a C : Addr} {fs : List (Str × V)} (I : Inv X pins σ H s) (h : ErA H a C fs) : ∃ (oe : Obj) (od : Option Obj), PySem.W.InstAt s.heap a oe C od := by
  rcases h with ⟨d, h1, h2⟩ | ⟨_, h2⟩
  · obtain ⟨t1, ha⟩ := exo_at I.hok h1
    obtain ⟨mA, hns, _⟩ := exd_at I.hok h2
    obtain ⟨od, ho, _⟩ := lookIn_ns hns
    exact ⟨_, some od, ha, rfl, rfl, ho⟩
  · obtain ⟨⟨oe, vs, he, hz, hv, _⟩, _, _⟩ := I.hok a _ h2
    exact ⟨oe, none, he, hz.1, by unfold PySem.W.notCls; rw [hv] <;> rfl, by rw [hz.2]; trivial⟩
theorem call_isEr : CallR X (.builtin "isinstance") (fun xs H Q => ∃ (D a : Addr) (fs : List (Str × V)) (c : V) (cv : Value) (b : Bool), xs = [.ref a, c] ∧ MyX.IsX X.K D ∧ ErA H a D fs ∧ (∀ u, RelV c u → u = cv) ∧ PySem.W.kitOne X.K (.ref D) cv = some b ∧ Q (.bl b) H) := by
  intro pins s σ H xs us Q I r h
  obtain ⟨D, a, fs, c, cv, b, rfl, C, ha, hcv, e, q⟩ := h
  obtain ⟨oe, od, J⟩ := er_inst I ha
  obtain ⟨u1, u2, rfl, r1, r2⟩ := vals2 r
  cases r1
  have ec := hcv _ r2
  subst ec
  exact PySem.W.kia_one (PySem.W.kitx_exc C.cl C.ga C.gg C.sb C.ca C.sp C.tk C.mr) I.kIn J e (fun z => nomatch z) fun tk => ⟨.bl b, H, I.tok tk, rfl, q⟩
theorem call_isErT : CallR X (.builtin "isinstance") (fun xs H Q => ∃ (D a tp : Addr) (fs : List (Str × V)) (cs : List V) (ws : List Value) (b : Bool), xs = [.ref a, .ref tp] ∧ MyX.IsX X.K D ∧ ErA H a D fs ∧ H tp = some (.tup cs) ∧ Paired ClsV cs ws ∧ PySem.W.kitAny X.K (.ref D) ws = some b ∧ Q (.bl b) H) := by
  intro pins s σ H xs us Q I r h
  obtain ⟨D, a, tp, fs, cs, ws, b, rfl, C, ha, hT, k, e, q⟩ := h
  obtain ⟨oe, od, J⟩ := er_inst I ha
  obtain ⟨u1, u2, rfl, r1, r2⟩ := vals2 r
  cases r1
  cases (show u2 = Value.ref tp from r2)
  obtain ⟨_, its, rv, o, h1, h2, n, h3⟩ := (show ObjOk X.prog X.w H s.heap tp (.tup cs) from I.hok tp _ hT)
  have e3 := ClsV.all k rv
  subst e3
  obtain ⟨oc, od, dt, sl⟩ := o
  simp only at h2 h3
  subst h2 h3
  exact PySem.W.kia_tup (PySem.W.kitx_exc C.cl C.ga C.gg C.sb C.ca C.sp C.tk C.mr) I.kIn J h1 e (fun z => nomatch z) fun tk => ⟨.bl b, H, I.tok tk, rfl, q⟩
/-- C(), C an own exception without an __init__ of its own -/
theorem pe_mkN {bmB : List Value} {B newId initId : String} (F : ExcBaseFacts B newId initId bmB) (q : PySem.W.excIn X.K C bmB newId = true) (gC : X.mg x = some (.ref C)) (kC : PySem.W.keepIn X.K (.ref C) = true) (hg : Gl X x) (hdb : (x == ("__debug__" : Str)) = false := by decide) :
    PE X (.Call (.Name x p) [] [] pos) (fun _ H Q => ∀ a, H a = none → Q (.ref a) (upd H a (ExO (.ref C) a))) := by
  refine ⟨fun pins s σ H Q I h => ?_⟩
  refine wpAny_Call_Name_kw (ld_glob I hg gC ?_ hdb)
  refine PySem.W.callWith_K0 I.kIn kC ?_
  show wpAny _ _ (call (.ref C) []) _ _ _
  obtain ⟨bm, N, nm, qn, bs, hdct, sn, sub, ab, col, dd, k0, k1, k2, k3, k5, mN, hC, hN, hni, T⟩ := exc_obj I.kIn q
  refine wpAny_call_exc_subT F T hC hN hni (fun h' a hm => ?_) (by show 0 ≤ sizeLine; omega)
  have hn : H a = none := I.hok.gone hm.new
  obtain ⟨t, ht, _, _⟩ := hm.there
  exact ⟨.ref a, upd H a (ExO (.ref C) a), I.laidN hm.keeps hm.new hn (exO_ok ht ⟨rfl, rfl⟩ rfl rfl rfl (show 4 < 6 by decide)), rfl, h a hn⟩
end
end MyC
set_option Elab.async false
set_option linter.all false
set_option maxRecDepth 100000
set_option maxHeartbeats 2000000
namespace MyRd
open PySem PySem.Spec PyProof.Rows L2 My
/-! ### nested values: what repr shows of them -/
def kD : Key → PyData
  | .inl i => .int i
  | .inr z => .str z
mutual
/-- a value of lists, tuples and dicts within one another, as data -/
inductive Db (H : Hp) : V → PyData → Prop where
  | non : Db H .non .none
  | bl (b : Bool) : Db H (.bl b) (.bool b)
  | int (i : Int) : Db H (.int i) (.int i)
  | str (z : Str) : Db H (.str z) (.str z)
  | lst {a : Addr} {xs : List V} {ds : List PyData} : H a = some (.lst xs) → DbAll H xs ds → Db H (.ref a) (.list ds)
  | tup {a : Addr} {xs : List V} {ds : List PyData} : H a = some (.tup xs) → DbAll H xs ds → Db H (.ref a) (.tuple ds)
  | dic {a : Addr} {kvs : List (Key × V)} {es : List (PyData × PyData)} : H a = some (.dK kvs) → DbKv H kvs es → Db H (.ref a) (.dict es)
inductive DbAll (H : Hp) : List V → List PyData → Prop where
  | nil : DbAll H [] []
  | cons {x : V} {d : PyData} {xs : List V} {ds : List PyData} : Db H x d → DbAll H xs ds → DbAll H (x :: xs) (d :: ds)
inductive DbKv (H : Hp) : List (Key × V) → List (PyData × PyData) → Prop where
  | nil : DbKv H [] []
  | cons {k : Key} {x : V} {d : PyData} {kvs : List (Key × V)} {es : List (PyData × PyData)} : Db H x d → DbKv H kvs es → DbKv H ((k, x) :: kvs) ((kD k, d) :: es)
end
section
variable {X : Cx} {pins : List (Addr × Obj)} {σ : L2.St} {H : Hp} {s : Shared}
theorem key_reads {k : Key} {v : Value} {h : Heap} (e : keyIs k v = true) : Reads h v (kD k) [] := by
  rcases keyIs_shape e with ⟨i, t, rfl, rfl⟩ | ⟨x, t, rfl, rfl⟩
  · exact .int i t
  · exact .str x t
theorem one_ne {a : Addr} {u : HO} (h1 : H sysModules = none) (e : H a = some u) : sysModules ≠ a := fun q => by
  rw [q, e] at h1
  cases h1
mutual
theorem Db.reads (I : Inv X pins σ H s) (h1 : H sysModules = none) : ∀ {v : V} {d : PyData} {u : Value}, Db H v d → RelV v u → ∃ as, Reads s.heap u d as ∧ sysModules ∉ as
  | _, _, _, .non, r => by
    cases r
    exact ⟨_, .none, List.not_mem_nil⟩
  | _, _, _, .bl b, r => by
    cases r
    exact ⟨_, .bool b, List.not_mem_nil⟩
  | _, _, _, .int i, r => by
    obtain ⟨t, rfl⟩ := r
    exact ⟨_, .int i t, List.not_mem_nil⟩
  | _, _, _, .str z, r => by
    obtain ⟨t, rfl⟩ := r
    exact ⟨_, .str z t, List.not_mem_nil⟩
  | _, _, _, .lst (a := a) e h, r => by
    cases r
    obtain ⟨_, its, n, rv, ho⟩ := (show ObjOk X.prog X.w H s.heap a (.lst _) from I.hok a _ e)
    obtain ⟨as, hr, hm⟩ := DbAll.reads I h1 h rv
    exact ⟨_, .list ho rfl rfl hr, fun q => by
      rcases List.mem_cons.mp q with q | q
      · exact one_ne h1 e q
      · exact hm q⟩
  | _, _, _, .tup (a := a) e h, r => by
    cases r
    obtain ⟨_, its, rv, o, ho, hc, n, hd⟩ := (show ObjOk X.prog X.w H s.heap a (.tup _) from I.hok a _ e)
    obtain ⟨as, hr, hm⟩ := DbAll.reads I h1 h rv
    exact ⟨_, .tuple ho hc hd hr, hm⟩
  | _, _, _, .dic (a := a) (kvs := kvs) e h, r => by
    cases r
    obtain ⟨_, _, vs, kv, o, es, ep, ho, hc, hd, _, hp, _⟩ := (show ObjOk X.prog X.w H s.heap a (.dK kvs) from I.hok a _ e)
    obtain ⟨as, bs, r1, r2, m1, m2⟩ := DbKv.reads I h1 h kv hp
    exact ⟨_, .dict ho hc.1 hd r1 r2, fun q => by
      rcases List.mem_append.mp q with q | q
      · rcases List.mem_cons.mp q with q | q
        · exact one_ne h1 e q
        · exact m1 q
      · exact m2 q⟩
theorem DbAll.reads (I : Inv X pins σ H s) (h1 : H sysModules = none) : ∀ {vs : List V} {ds : List PyData} {us : List Value}, DbAll H vs ds → Vals vs us → ∃ as, ReadsAll s.heap us ds as ∧ sysModules ∉ as
  | _, _, _, .nil, r => by
    cases r
    exact ⟨_, .nil, List.not_mem_nil⟩
  | _, _, _, .cons h t, r => by
    cases r with
    | cons r1 r2 =>
      obtain ⟨as, q1, m1⟩ := Db.reads I h1 h r1
      obtain ⟨bs, q2, m2⟩ := DbAll.reads I h1 t r2
      exact ⟨_, .cons q1 q2, fun q => (List.mem_append.mp q).elim m1 m2⟩
theorem DbKv.reads (I : Inv X pins σ H s) (h1 : H sysModules = none) : ∀ {kvs : List (Key × V)} {es : List (PyData × PyData)} {vs : List (Key × Value)} {ds : List DictEntry}, DbKv H kvs es → KV kvs vs → Pairs (mixKind X.prog X.w) ds vs →
    ∃ as bs, ReadsAll s.heap (ds.map (·.key)) (es.map (·.1)) as ∧ ReadsAll s.heap (ds.map (·.val)) (es.map (·.2)) bs ∧ sysModules ∉ as ∧ sysModules ∉ bs
  | _, _, _, _, .nil, kv, hp => by
    cases kv
    cases hp
    exact ⟨_, _, .nil, .nil, List.not_mem_nil, List.not_mem_nil⟩
  | _, _, _, _, .cons h t, kv, hp => by
    cases kv with
    | cons k1 k2 =>
      cases hp with
      | cons e1 e2 p2 =>
        obtain ⟨ek, rv⟩ := k1
        simp only at ek
        obtain ⟨as, q1, m1⟩ := Db.reads I h1 h rv
        obtain ⟨cs, bs, q2, q3, m2, m3⟩ := DbKv.reads I h1 t k2 p2
        refine ⟨_, _, .cons (key_reads (by rw [ek]; exact e1)) q2, .cons (by show Reads s.heap (DictEntry.val _) _ _; rw [e2]; exact q1) q3, fun q => ?_, fun q => ?_⟩
        · exact (List.mem_append.mp q).elim (fun z => absurd z List.not_mem_nil) m2
        · exact (List.mem_append.mp q).elim m1 m3
end
/-- the table of modules stands, and is none of ours -/
def NoMod (H : Hp) (s : Shared) : Prop := H sysModules = none ∧ ∃ o, s.heap.get? sysModules = some o
theorem NoMod.now (hM : NoMod X.H_0 X.s_0) (hx : X.ex = []) (I : Inv X pins σ H s) : NoMod H s := by
  obtain ⟨h0, o, ho⟩ := hM
  have nx : sysModules ∉ X.ex := by
    rw [hx]
    exact List.not_mem_nil
  exact ⟨I.base.free _ o ho h0 nx, I.base.there _ o ho nx⟩
/-- repr of a nested value -/
theorem call_reprD (hg : X.A.guards = some []) (hu : X.A.units + 70 < cLine) (hM : NoMod X.H_0 X.s_0) (hx : X.ex = []) : CallR X (.builtin "repr") (fun xs H Q => ∃ x d, xs = [x] ∧ Db H x d ∧ d.showable = true ∧ d.depth ≤ 60 ∧ d.shown.length ≤ sizeLine ∧ Q (.str d.shown) H) := by
  intro pins s σ H xs us Q I r h
  obtain ⟨x, d, rfl, db, sh, dd, hl, q⟩ := h
  obtain ⟨u, rfl, ru⟩ := vals1 r
  have go : ∀ {a : Addr}, x = .ref a → wpAny (model X.prog X.w) X.A (call (.builtin "repr") [u]) (EP X pins σ Q) X.xe s := fun {a} ex => by
    subst ex
    obtain ⟨as, rd, hm⟩ := Db.reads I (hM.now hx I).1 db ru
    cases ru
    refine repr_of_reads' rd sh (fun _ => hm) hg (by omega) (fun b o e => e) (fun h' u tk hk => ?_) hl
    exact ⟨.str _, H, I.kept (t' := tk) hk, ⟨_, rfl⟩, q⟩
  cases db with
  | non =>
    cases ru
    exact PySem.P.repr_of_none ⟨.str _, H, I.tok _, ⟨_, rfl⟩, q⟩
  | bl b =>
    cases ru
    cases b <;> exact PySem.P.repr_of_bool ⟨.str _, H, I.tok _, ⟨_, rfl⟩, q⟩
  | int i =>
    obtain ⟨t, rfl⟩ := ru
    refine PySem.P.repr_of_int ?_ ⟨.str _, H, I.tok _, ⟨_, rfl⟩, q⟩
    simpa [PyData.showable] using sh
  | str z =>
    obtain ⟨t, rfl⟩ := ru
    exact PySem.P.repr_of_str (hsz := hl) ⟨.str _, H, I.tok _, ⟨_, rfl⟩, q⟩
  | lst _ _ => exact go rfl
  | tup _ _ => exact go rfl
  | dic _ _ => exact go rfl
end
end MyRd
set_option Elab.async false
set_option linter.all false
set_option maxRecDepth 100000
set_option maxHeartbeats 2000000
namespace MyM
open PySem PySem.Spec PyProof.Rows L2 My
/-- a promise that is kept where no text of an object is under way, and the table of modules is none of ours -/
structure FnM (P : Program) (w : World) (K : PySem.W.Frag) (mg : Str → Option Value) (base : Heap) (CX : CXT) (k : Nat) (f : Addr) (fd : FuncData) (ps : List Str) (sp : Sp) : Prop where
  len : ∀ vs H Q E, sp vs H Q E → vs.length = ps.length
  run : ∀ (A : Around) (outer : List Env) (s : Shared) (H : Hp) (args : Args) (us : List Value) (vs : List V) (Q : VK) (E : XK), A.guards = some [] → MyRd.NoMod H s → Room k A → Env0 P w K mg base A outer s H → BindsTo s fd args (ps.zip us) → Vals vs us → sp vs H Q E →
    codeAny (model P w) A (.call (.ref f) args) (CR CX outer P w H s Q E) s
section
variable {P : Program} {w : World} {K : PySem.W.Frag} {mg : Str → Option Value} {base : Heap} {CX : CXT}
theorem fn_ofM {k : Nat} {f : Addr} {name qual : Str} {params : Arguments} {body : List Stmt} {scope : Scope} {dV kV doc pm cdv ct oc : Value} {an od : Option Addr} {osl : Array (Option Value)} {N ps : List Str} {sp : Sp}
    (lk : K.lookup f = some ⟨oc, od, .func (PySem.W.fnOf name qual params body scope dV kV doc pm an cdv ct), osl⟩) (hcd : PySem.W.codeIn K cdv qual = true) (S : FnScope N ps scope) (len : ∀ vs H Q E, sp vs H Q E → vs.length = ps.length)
    (hbody : ∀ (A : Around) (outer : List Env) (s : Shared) (H : Hp) (vs : List V) (Q : VK) (E : XK), (A.deeper (envOfC qual scope s.heap.objs.size f cdv)).guards = some [] → MyRd.NoMod H s → Room k (A.deeper (envOfC qual scope s.heap.objs.size f cdv)) → sp vs H Q E →
      ∃ t, PSs (cxOf CX P w K mg base N qual scope f cdv A outer s H E) body t ∧ t { nx := fun _ H' => Q .non H', rt := Q } (start N vs) H) :
    FnM P w K mg base CX (k + 1) f (PySem.W.fnOf name qual params body scope dV kV doc pm an cdv ct) ps sp := by
  refine ⟨len, fun A outer s H args us vs Q E hgd hmo hr e0 hb r hsp => ?_⟩
  have ln := len _ _ _ _ hsp
  have KS : K.In s.heap := e0.mod.kin.keeps fun b o e => (e0.bs b o e).1
  have NL : s.heap.NoLimit := e0.mod.nolimit.keeps fun b o e => (e0.bs b o e).1
  have kinds : ∀ y ∈ ps.zip us, scope.names.lookup y.1 = some .local ∨ (scope.names.lookup y.1 = some .cell ∧ ((cellsFrom (s.heap.objs.size + 1) scope.names []).lookup y.1).isSome = true) := fun y hy => (S.par y.1 (List.of_mem_zip (a := y.1) (b := y.2) hy).1).elim .inl fun q => .inr ⟨q, PySem.W.cellsFrom_some _ _ _ (.inl q)⟩
  refine codeAny_call_function hr.depth (KS _ _ lk) rfl S.co S.gen rfl (PySem.W.codeRec_of KS hcd) (hb _ _ _ _ (wpAny_newFunctionEnv_cells S.kind kinds fun env he s1 x => ?_))
  subst he
  obtain ⟨t, ht, hq⟩ := hbody A outer s H vs Q E hgd hmo (hr.deeper _) hsp
  refine ⟨NL.keeps x.toInCall.keep, codeAny_func (wpAny_mono (ht.run [] s1 (start N vs) H _ (inv_start S hr.hd e0 ln r x) hq) (fun fl s' hs => ?_) fun e s' hs => hs)⟩
  match fl, hs with
  | .ret u, ⟨v, σ', H', J, rv, q⟩ => exact ⟨v, H', J.os, J.bare, J.base, J.hok, rv, q⟩
  | .next, ⟨σ', H', J, q⟩ => exact ⟨V.non, H', J.os, J.bare, J.base, J.hok, rfl, q⟩
  | .brk, ⟨_, _, _, q⟩ => exact q.elim
  | .cont, ⟨_, _, _, q⟩ => exact q.elim
end
section
variable {X : Cx} {CX : CXT} {k : Nat} {f : Addr} {fd : FuncData} {ps : List Str} {sp : Sp} {E : XK} {ds : List Value} {dvs : List V} {x : Str} {p pos : Pos} {e : Expr} {es : List Expr} {t : TA}
theorem pe_callM (F : FnM X.prog X.w X.K X.mg X.base CX k f fd ps sp) (hgd : X.A.guards = some []) (hM : MyRd.NoMod X.H_0 X.s_0) (hex : X.ex = []) (hr : Room k X.A) (hg : Gl X x) (hm : X.mg x = some (.ref f)) (hk : PySem.W.keepIn X.K (.ref f) = true) (hb : Binds X.K fd ps ds) (hd : Vals dvs ds) (hx : Passes CX X E)
    (ha : PA X (e :: es) t) (hdb : (x == ("__debug__" : Str)) = false := by decide) (he : starEach (e :: es) X.env = (false, eval e X.env) :: starEach es X.env := by rfl) (hpl : (backTo pos (starEach es X.env)).any (·.1) = false := by rfl) :
    PE X (.Call (.Name x p) (e :: es) [] pos) (tCall sp dvs E t) := by
  refine ⟨fun pins s σ H Q I h => wpAny_Call_Name_kw (ld_glob I hg hm (PySem.W.callWith_K (h₀ := X.base) I.ok.mod.kin hk (thn (ha.run pos pins s σ H _ I h) fun us s1 ⟨vs, H1, I1, r, q⟩ => ⟨I1.kIn, ?_⟩) he hpl) hdb)⟩
  have r2 : Vals (vs ++ dvs) (us ++ ds) := r.append hd
  have ln : (us ++ ds).length = ps.length := by rw [← r2.length]; exact F.len _ _ _ _ q
  refine wpAny_call (codeAny_mono (F.run X.A X.stack s1 H1 ⟨us, []⟩ (us ++ ds) (vs ++ dvs) Q E hgd (hM.now hex I1) hr I1.env0 (hb s1 us I1.kIn ln) r2 q) fun r s' z => ?_)
  match r, z with
  | .error e, z => exact hx pins σ H1 s1 e s' I1 z
  | .ok (.ret u), z => exact I1.after z
  | .ok .next, z => exact z.elim
  | .ok .brk, z => exact z.elim
  | .ok .cont, z => exact z.elim
end
end MyM
set_option Elab.async false
set_option linter.all false
set_option maxRecDepth 100000
set_option maxHeartbeats 2000000
namespace MyLt
open PySem PySem.Spec PyProof.Rows L2 My
/-! ### an int and a truth value by <, str of a truth value -/
section
variable {prog : Program} {w : World} {A : Around} {E : Value → Shared → Prop} {s : Shared} {Q : Value → Shared → Prop}
theorem gt_bool_int (b : Bool) (a : Int) (t : Tok) : Gives (Builtin.«int.__gt__» ⟨[.bool b, .int a t], []⟩) (.val (Value.bool (decide (a < (if b = true then (1 : Int) else 0))))) :=
  .of_wp fun M A E s Q h => by obtain ⟨hp, g, d, tk, os⟩ := s; cases b <;> wp_walk <;> exact ⟨_, rfl, h⟩
theorem lt_bool_int (b : Bool) (a : Int) (t : Tok) : Gives (Builtin.«int.__lt__» ⟨[.bool b, .int a t], []⟩) (.val (Value.bool (decide ((if b = true then (1 : Int) else 0) < a)))) :=
  .of_wp fun M A E s Q h => by obtain ⟨hp, g, d, tk, os⟩ := s; cases b <;> wp_walk <;> exact ⟨_, rfl, h⟩
theorem lt_ib {a : Int} {t : Tok} {b : Bool} (h : Q (.bool (decide (a < (if b = true then (1 : Int) else 0)))) s) : wpAny (model prog w) A (compareOp .Lt (.int a t) (.bool b)) Q E s := by
  show wpAny _ _ (richCompare .Lt (.int a t) (.bool b)) _ _ _
  simp only [richCompare, cmpInfo, (typeIs_int s a t).oneThing_none]
  refine wpAny_holding ?_
  refine wpAny_bind (wpAny_cRoomFor_byValue rfl ?_)
  refine wpAny_bind (wpAny_typeOf (typeIs_int s a t) (wpAny_bind (wpAny_typeOf (typeIs_bool' s b) ?_)))
  rw [show (Value.type "int" != Value.type "bool") = true by decide]
  simp only [if_true]
  rw [show isSubtype (.type "bool") (.type "int") = pure true by kernel_rfl]
  refine wpAny_bind (wpAny_pure ?_)
  simp only [if_true]
  exact wpAny_bind (wpAny_tryCompare_slot (typeIs_bool' s b) F.slot_bool_gt (wpAny_mono (call_gives F.slot_bool_gt (typeIs_bool' s b) F.entry_int_gt (F.args_int_gt_2 _ _) (gt_bool_int b a t) (Made.post_and (fun z => nomatch z) h)) (fun v s' h' => ⟨h'.1, wpAny_bind (wpAny_rule (wpAny_pure h'.2))⟩) fun _ _ x => x))
theorem lt_bi {a : Int} {t : Tok} {b : Bool} (h : Q (.bool (decide ((if b = true then (1 : Int) else 0) < a))) s) : wpAny (model prog w) A (compareOp .Lt (.bool b) (.int a t)) Q E s := by
  show wpAny _ _ (richCompare .Lt (.bool b) (.int a t)) _ _ _
  simp only [richCompare, cmpInfo, (typeIs_bool' s b).oneThing_none]
  refine wpAny_holding ?_
  refine wpAny_bind (wpAny_cRoomFor_byValue rfl ?_)
  refine wpAny_bind (wpAny_typeOf (typeIs_bool' s b) (wpAny_bind (wpAny_typeOf (typeIs_int s a t) ?_)))
  rw [show (Value.type "bool" != Value.type "int") = true by decide]
  simp only [if_true]
  rw [show isSubtype (.type "int") (.type "bool") = pure false by kernel_rfl]
  refine wpAny_bind (wpAny_pure ?_)
  simp only [Bool.false_eq_true, if_false]
  exact wpAny_bind (wpAny_tryCompare_slot (typeIs_bool' s b) F.slot_bool_lt (wpAny_mono (call_gives F.slot_bool_lt (typeIs_bool' s b) F.entry_int_lt (F.args_int_lt_2 _ _) (lt_bool_int b a t) (Made.post_and (fun z => nomatch z) h)) (fun v s' h' => ⟨h'.1, wpAny_pure h'.2⟩) fun _ _ x => x))
end
section
variable {X : Cx}
def iB (b : Bool) : Int := if b = true then 1 else 0
/-- the number that an int or a truth value is -/
def numV : V → Option Int
  | .int i => some i
  | .bl b => some (iB b)
  | _ => none
/-- x < y, one of them an int at the least -/
def rLtB : R2 := fun x y H Q => (∃ i j, x = .int i ∧ y = .int j ∧ Q (.bl (decide (i < j))) H) ∨ (∃ i b, x = .int i ∧ y = .bl b ∧ Q (.bl (decide (i < iB b))) H) ∨ ∃ b j, x = .bl b ∧ y = .int j ∧ Q (.bl (decide (iB b < j))) H
theorem op_ltB : OpR X (compareOp .Lt) rLtB := by
  intro pins s σ H x y v u Q I rx ry h
  rcases h with ⟨i, j, rfl, rfl, q⟩ | ⟨i, b, rfl, rfl, q⟩ | ⟨b, j, rfl, rfl, q⟩
  · obtain ⟨t, rfl⟩ := rx
    obtain ⟨t', rfl⟩ := ry
    exact PyProof.Rows.lt_int (fin_bl I q rfl)
  · obtain ⟨t, rfl⟩ := rx
    cases ry
    exact lt_ib (fin_bl I q rfl)
  · obtain ⟨t', rfl⟩ := ry
    cases rx
    exact lt_bi (fin_bl I q rfl)
theorem call_str_bl : CallR X (.type "str") (fun xs H Q => ∃ b, xs = [.bl b] ∧ Q (.str (if b = true then "True" else "False")) H) := by
  intro pins s σ H xs us Q I r h
  obtain ⟨b, rfl, q⟩ := h
  obtain ⟨u, rfl, ru⟩ := vals1 r
  cases ru
  cases b <;> exact PySem.P.str_of_bool ⟨.str _, H, I.tok _, ⟨_, rfl⟩, q⟩
end
end MyLt
set_option Elab.async false
set_option linter.all false
set_option maxRecDepth 100000
set_option maxHeartbeats 2000000
namespace MyPa
open PySem PySem.Spec PyProof.Rows L2 My
section
open PySem.W
variable {prog : Program} {w : World} {A : Around} {E : Value → Shared → Prop} {s : Shared} {K : Frag} {x y C D L f : Addr} {h₀ : Heap} {m : Str → Option Value} {ox oy : Obj} {od oe : Option Obj}
/-- x == y where the class of y stands below that of x: y is asked first -/
theorem cmp_KR {Q : Value → Shared → Prop} (hu : A.units < cLine) (F : Fr h₀ L s.heap m) (X₀ : K.In h₀) (I : InstAt s.heap x ox C od) (J : InstAt s.heap y oy D oe) (ne : C ≠ D) (sub : subIn K (.ref D) (.ref C) = some true)
    (hs : findIn K (.ref D) "__eq__" = some (some (.ref f))) (hf : isFn K (.ref f) = true)
    (h : wpAny (model prog w) A (call (.ref f) [.ref y, .ref x]) (PySem.W.CmpBack Q) E s) : wpAny (model prog w) A (richCompare .Eq (.ref x) (.ref y)) Q E s := by
  have X := X₀.keeps F.keep
  have one : wpAny (model prog w) A (tryCompare (.ref y) "__eq__" (.ref x)) (fun r s' => ∃ v, r = some v ∧ Q v s') E s := by
    unfold tryCompare
    refine wpAny_bind (ifBound_K X J hs hf (wpAny_mono h (fun v s' hv => ?_) fun _ _ e => e))
    cases v <;> first | exact hv.elim | exact wpAny_pure ⟨_, rfl, hv⟩
  have q : (Value.ref C != Value.ref D) = true := by
    simp [ne]
  unfold richCompare
  simp only [oneThing_ref]
  refine wpAny_holding (wpAny_bind (wpAny_cRoomFor hu ?_))
  refine wpAny_bind (I.type.here (wpAny_bind (J.type.here ?_)))
  rw [if_pos q]
  refine wpAny_bind ((looks_subIn X sub).here ?_)
  simp only [if_true]
  refine wpAny_bind (wpAny_mono one (fun r s' z => ?_) fun _ _ e => e)
  obtain ⟨v, rfl, hq⟩ := z
  exact wpAny_bind (wpAny_rule (wpAny_pure hq))
end
section
variable {X : Cx} {CX : CXT} {C D g : Addr} {n : Nat} {sp : Sp} {E : XK}
/-- x == y, y an instance of a class below that of x, with an own __eq__ at g -/
def rEqR (C D : Addr) (sp : Sp) (E : XK) : R2 := fun x y H Q => ∃ a dx fs b dy gs, x = .ref a ∧ y = .ref b ∧ H a = some (.ins C dx fs) ∧ H b = some (.ins D dy gs) ∧ sp [y, x] H Q E
theorem op_eqR (ne : C ≠ D) (sub : PySem.W.subIn X.K (.ref D) (.ref C) = some true) (hs : PySem.W.findIn X.K (.ref D) "__eq__" = some (some (.ref g))) (hf : PySem.W.isFn X.K (.ref g) = true)
    (F : FnR X.prog X.w X.K X.mg X.base CX n g sp) (hr : Room n X.A) (hx : Passes CX X E) : OpR X (compareOp .Eq) (rEqR C D sp E) := by
  intro pins s σ H x y v u Q I rx ry h
  obtain ⟨a, dx, fs, b, dy, gs, rfl, rfl, ha, hb, q⟩ := h
  cases (show v = Value.ref a from rx)
  cases (show u = Value.ref b from ry)
  obtain ⟨mA, O, _⟩ := ins_get I.hok ha
  obtain ⟨od, J, _⟩ := O.look
  obtain ⟨mB, O2, _⟩ := ins_get I.hok hb
  obtain ⟨oe, J2, _⟩ := O2.look
  obtain ⟨m, hF⟩ := I.fr
  show wpAny _ _ (richCompare .Eq (.ref a) (.ref b)) _ _ _
  refine cmp_KR hr.units0 hF I.ok.mod.kin J J2 ne sub hs hf ?_
  refine wpAny_mono (wpAny_call (run_fnR (us := [.ref b, .ref a]) (vs := [.ref b, .ref a]) F hr hx I (.cons rfl (.cons rfl .nil)) q)) (fun w s' z => ?_) fun _ _ x => x
  obtain ⟨z', H', I', rz, qz⟩ := z
  exact SlX.cmpback rz ⟨z', H', I', rz, qz⟩
theorem op_or {op : Value → Value → Sem Value} {R1 R2 : L2.R2} (h1 : OpR X op R1) (h2 : OpR X op R2) : OpR X op (fun x y H Q => R1 x y H Q ∨ R2 x y H Q) := by
  intro pins s σ H x y v u Q I rx ry h
  rcases h with h | h
  · exact h1 pins s σ H x y v u Q I rx ry h
  · exact h2 pins s σ H x y v u Q I rx ry h
end
section
theorem starcall3_of {M : Model} {A : Around} {E : Value → Shared → Prop} {s : Shared} {env : Env} {o e1 e2 e3 : Expr} {m : Str} {p apos pos : Pos} {Q : Value → Shared → Prop} (hbase : attributeBase o m env (eval o env) = eval o env)
    (hst : starEach [e1, e2, .Starred e3 p] env = [(false, eval e1 env), (false, eval e2 env), (true, eval e3 env)])
    (h : wpAny M A (eval o env) (fun ov s₁ => wpAny M A (getAttr ov m true) (fun f s₂ => wpAny M A (callWith pos f [] (backTo pos (starEach [e1, e2, .Starred e3 p] env)) []) Q E s₂) E s₁) E s) :
    wpAny M A (eval (.Call (.Attribute o m apos) [e1, e2, .Starred e3 p] [] pos) env) Q E s := by
  have hke : backToKw pos (keywordEach [] env) = [] := rfl
  have hform : methodCallForm ([e1, e2, Expr.Starred e3 p].length + ([] : List Keyword).length) (backTo pos [(false, eval e1 env), (false, eval e2 env), (true, eval e3 env)]) [] = false := rfl
  have hpos : methodCallPos false o env apos pos = pure pos := rfl
  have hcal : ∀ ov, calleeOf false o env ov m = (getAttr ov m true >>= fun v => pure (v, [])) := fun _ => rfl
  rw [hst] at h
  rw [arm_eval_Call, hbase, hst, hke]
  refine wpAny_bind (wpAny_mono h (fun ov s₁ h₁ => ?_) fun _ _ x => x)
  refine wpAny_bind (wpAny_standAt ?_)
  unfold methodCall
  rw [hform, hpos, hcal]
  refine wpAny_bind (wpAny_holding (wpAny_bind (wpAny_mono h₁ (fun f s₂ h₂ => wpAny_pure ?_) fun _ _ x => x)))
  exact wpAny_bind (wpAny_pure h₂)
variable {X : Cx} {CX : CXT} {k : Nat} {T g : Addr} {sp : Sp} {E : XK} {mc : Value} {m : Str} {o e1 e2 e3 : Expr} {ta : TE} {t : TA} {apos pos p : Pos}
/-- C.m(e, e, *y), m a def of the class at C -/
theorem pe_cmethS (he : PE X o ta) (r : ClX.CRead X.K T mc) (c : PySem.W.findCls X.K (.ref T) mc m = some (.val (.ref g))) (kp : PySem.W.keepIn X.K (.ref g) = true)
    (F : FnR X.prog X.w X.K X.mg X.base CX k g sp) (hr : Room k X.A) (hx : Passes CX X E) (ha : PA X [e1, e2, .Starred e3 p] t)
    (hbase : attributeBase o m X.env (eval o X.env) = eval o X.env := by rfl) (hst3 : starEach [e1, e2, .Starred e3 p] X.env = [(false, eval e1 X.env), (false, eval e2 X.env), (true, eval e3 X.env)] := by rfl)
    (hst : starEach [e1, e2, .Starred e3 p] X.env = (false, eval e1 X.env) :: starEach [e2, .Starred e3 p] X.env := by rfl) (hpl : (backTo pos (starEach [e2, .Starred e3 p] X.env)).any (·.1) = true := by rfl) :
    PE X (.Call (.Attribute o m apos) [e1, e2, .Starred e3 p] [] pos) (tSMeth T sp E ta t) := by
  refine ⟨fun pins s σ H Q I h => starcall3_of hbase hst3 (thn (he.run pins s σ H _ I h) fun u s1 ⟨x, H1, I1, rx, ex, q⟩ => ?_)⟩
  subst ex
  obtain rfl : u = Value.ref T := rx
  refine PySem.W.cls_value I1.kIn r.rd c rfl ?_
  have I2 := I1.tok (s1.toks + 1)
  refine PySem.W.callWith_S2 (first := []) (h₀ := X.base) I2.ok.mod.kin kp (thn (ha.run pos pins _ σ H1 _ I2 q) fun us s2 ⟨vs, H2, I3, r3, q2⟩ => ⟨I3.kIn, wpAny_call (run_fnR F hr hx I3 r3 q2)⟩) hst hpl
end
end MyPa
set_option Elab.async false
set_option linter.all false
set_option maxRecDepth 100000
set_option maxHeartbeats 2000000
namespace MyBo
open PySem PySem.Spec PyProof.Rows L2 My
section
variable {prog : Program} {w : World} {A : Around} {E : Value → Shared → Prop} {s : Shared} {K : PySem.W.Frag} {x C f : Addr} {ox : Obj} {odd : Option Obj} {h₀ : Heap} {L : Addr} {m : Str → Option Value}
/-- bool(x) by an own __bool__ -/
theorem bool_own {Q : Value → Shared → Prop} (F : Fr h₀ L s.heap m) (X₀ : K.In h₀) (I : PySem.W.InstAt s.heap x ox C odd) (hs : PySem.W.findIn K (.ref C) "__bool__" = some (some (.ref f))) (hf : PySem.W.isFn K (.ref f) = true)
    (h : wpAny (model prog w) A.in1.in1 (call (.ref f) [.ref x]) (PySem.W.BoolBack fun b s' => Q (.bool b) s') E s) : wpAny (model prog w) A (call (.type "bool") [.ref x]) Q E s := by
  refine callType_codes (T := "bool") (Bi := Builtin.«object.__init__») (Q₁ := fun r s₁ => ∃ b, r = Value.bool b ∧ Q r s₁) PySem.F.called_bool (PySem.F.typeCall_bool_1 _) PySem.F.entry_object_init ?_ ?_
  · refine codeAny_of_tree ?_
    show wpAny _ A.in1.in1 (do checkBuiltinCall "bool.__new__" ⟨[.type "bool", .ref x], []⟩; again (.builtin "bool.__new__" ⟨[.type "bool", .ref x], []⟩)) _ _ s
    refine wpAny_bind (wpAny_of_eq (PySem.F.newCall_bool_1 _) (wpAny_pure ⟨plainId_quiet (by decide +kernel) _, codeAny_builtin PySem.F.entry_bool_new ?_⟩))
    rw [Around.under_plainId (by decide +kernel) _]
    unfold Builtin.«bool.__new__»
    refine wpAny_bind (wpAny_of_eq (a := true) rfl ?_)
    refine PySem.W.KFB.if_not rfl ?_
    refine wpAny_bind (wpAny_of_eq (a := true) PySem.F.conv_sub_bool ?_)
    refine PySem.W.KFB.if_not rfl ?_
    refine wpAny_bind (wpAny_of_eq (a := [Value.ref x]) rfl ?_)
    refine wpAny_bind (PySem.W.truthy_K F X₀ I hs hf (wpAny_mono h (fun r s₁ hr => ?_) fun _ _ y => y))
    cases r <;> first | exact hr.elim | skip
    exact wpAny_pure ⟨_, rfl, hr⟩
  · rintro obj s₁ ⟨b, rfl, hq⟩
    exact ⟨PySem.typeIs_bool _ _, PySem.F.args_object_init_2 _ _, object_init_meets PySem.F.called_bool.init.lookup PySem.F.called_bool.made (by decide) prog w A.in1 _ s₁ ⟨PySem.typeIs_bool _ _, rfl, hq⟩⟩
end
section
variable {X : Cx} {CX : CXT} {C g : Addr} {n : Nat} {sp : Sp} {E : XK}
def rBoolI (C : Addr) (sp : Sp) (E : XK) : List V → Hp → VK → Prop := fun xs H Q => ∃ a dx fs, xs = [V.ref a] ∧ H a = some (.ins C dx fs) ∧ sp [.ref a] H (fun z H' => ∃ b, z = .bl b ∧ Q z H') E
theorem call_boolI (hs : PySem.W.findIn X.K (.ref C) "__bool__" = some (some (.ref g))) (hf : PySem.W.isFn X.K (.ref g) = true) (F : FnR X.prog X.w X.K X.mg X.base CX n g sp) (hr : Room (n + 2) X.A) (hx : Passes CX X E) : CallR X (.type "bool") (rBoolI C sp E) := by
  intro pins s σ H xs us Q I r h
  obtain ⟨a, dx, fs, rfl, ha, q⟩ := h
  obtain ⟨u, rfl, ru⟩ := r.one
  cases (show u = Value.ref a from ru)
  obtain ⟨mA, O, _⟩ := ins_get I.hok ha
  obtain ⟨od, J, _⟩ := O.look
  obtain ⟨m, hF⟩ := I.fr
  have hr2 : Room n X.A.in1.in1 := (show Room (n + 1) X.A.in1 from Room.in1 hr).in1
  refine bool_own hF I.ok.mod.kin J hs hf (wpAny_mono (wpAny_call (SlX.run_at (us := [.ref a]) (ws := [.ref a]) F hr2 I.env0.in1.in1 hx I (.cons rfl .nil) q)) (fun w s' z => ?_) fun _ _ x => x)
  obtain ⟨z', H', I', rz, b, ei, qz⟩ := z
  subst ei
  cases (show w = Value.bool b from rz)
  exact ⟨.bl b, H', I', rfl, qz⟩
end
end MyBo
set_option Elab.async false
set_option linter.all false
set_option maxRecDepth 100000
set_option maxHeartbeats 2000000
namespace MyAM
open PySem PySem.Spec PyProof.Rows L2 My LamX MyA
/-- the law called where no text of an object is under way -/
theorem law_callM {P : Program} {w : World} {K : PySem.W.Frag} {mg mb : Str → Option Value} {CX : CXT} {k : Nat} {fa a : Addr} {cs : List (Addr × Addr)} {fd : FuncData} {x : Str} {sp : Sp} {s₁ : Shared} {vs : List Value} {ns : List Int}
    (KX : K.In s₁.heap) (hns : s₁.heap.Ns mainGlobals mg) (hb : s₁.heap.Ns builtinsNs mb) (hbb : ∀ x : Str, x ≠ "__name__" → mb x = bootBuiltins x) (hlim : s₁.heap.NoLimit) (hmods : ∃ mm, s₁.heap.Ns sysModules mm) (hg : s₁.gens = #[])
    (hT : ∀ p ∈ cs, s₁.heap.get? p.2 = some { cls := .none, data := .fields #[] }) (nT : ∀ p ∈ cs, K.lookup p.2 = none) (C : ∀ p ∈ cs, PySem.W.CodeHd s₁.heap p.1 p.2)
    (hbm : ∃ (bm : Addr) (ob : Obj), mg "__builtins__" = some (.ref bm) ∧ bm ≠ builtinsNs ∧ s₁.heap.get? bm = some ob ∧ ob.cls = .type "module" ∧ ob.dict = some builtinsNs ∧ ob.data = .plain)
    (ha : s₁.heap.get? a = some { cls := .type "list", data := .seq vs.toArray }) (hi : IntsAre vs ns) (hl : ns.length ≤ sizeLine) (hr : Room k callerA)
    (F : ∀ base : Heap, K.In base → base.Ns mainGlobals mg → (∀ p ∈ cs, TabB base mg p.1 p.2) → MyM.FnM P w K mg base CX k fa fd [x] sp) (hbind : ∀ (s : Shared) (u : Value), BindsTo s fd ⟨[u], []⟩ [(x, u)])
    (hsp : ∀ H : Hp, (∀ p ∈ cs, H p.2 = some (.tbl #[])) → SqL K H a (ns.map V.int) → sp [.ref a] H (fun v _ => v = .bl true) fun _ _ _ => False)
    (hCX : ∀ H e s', CX [] H s₁ (fun _ _ _ => False) e s' → False) :
    codeAny (model P w) callerA (.call (.ref fa) ⟨[.ref a], []⟩) (fun r s' => r = .ok (.ret (.bool true)) ∧ OldK s₁.heap s'.heap ∧ s'.os = s₁.os ∧ AllBare s'.gens) s₁ := by
  have rv := vals_ints hi
  obtain ⟨ts, ets⟩ : ∃ ts, ts = cs.map (·.2) := ⟨_, rfl⟩
  have inT : ∀ p ∈ cs, p.2 ∈ ts := fun p hp => by rw [ets]; exact List.mem_map.mpr ⟨p, hp, rfl⟩
  have ofT : ∀ b ∈ ts, ∃ p ∈ cs, p.2 = b := fun b hb => by rw [ets] at hb; exact List.mem_map.mp hb
  have atT : ∀ b ∈ ts, s₁.heap.get? b = some { cls := .none, data := .fields #[] } := fun b hb => by
    obtain ⟨p, hp, rfl⟩ := ofT b hb
    exact hT p hp
  have naT : a ∉ ts := fun z => by
    have q := (atT a z).symm.trans ha
    cases Option.some.inj q
  obtain ⟨H, eH⟩ : ∃ H, H = headH K a { cls := .type "list", data := .seq vs.toArray } (ns.map V.int) ts := ⟨_, rfl⟩
  have tab : ∀ p ∈ cs, H p.2 = some (.tbl #[]) := fun p hp => by rw [eH]; exact headH_tab (inT p hp)
  have inv : ∀ b u, H b = some u → (b ∈ ts ∧ u = .tbl #[]) ∨ (b = a ∧ K.lookup a = none ∧ u = .frz { cls := .type "list", data := .seq vs.toArray } (.lst (ns.map V.int))) := fun b u h => headH_inv (by rw [← eH]; exact h)
  have sq : SqL K H a (ns.map V.int) := by
    cases hk : K.lookup a with
    | none => exact .inl (.inr ⟨{ cls := .type "list", data := .seq vs.toArray }, by rw [eH]; unfold headH; rw [if_neg naT, if_pos ⟨rfl, hk⟩]⟩)
    | some o =>
      have e := (KX a o hk).symm.trans ha
      cases Option.some.inj e
      exact .inr ⟨_, vs.toArray, _, hk, rfl, rfl, rfl, by rw [List.size_toArray, hi.length]; exact hl, by simpa using rv⟩
  have hok : HOk P w H s₁.heap := fun b u z => by
    rcases inv b u z with ⟨h1, rfl⟩ | ⟨rfl, _, rfl⟩
    · exact atT b h1
    · exact ⟨ha, by rw [List.length_map]; exact hl, vs, _, rv, ha⟩
  -- what the abstract heap leaves alone
  have out : ∀ {b : Addr} {o : Obj}, s₁.heap.get? b = some o → (∀ us n, o.data ≠ .seq us n) → o.data ≠ .fields #[] → H b = none := fun {b o} e h1 h2 => by
    cases q : H b with
    | none => rfl
    | some u =>
      rcases inv b u q with ⟨h3, _⟩ | ⟨rfl, _, _⟩
      · cases Option.some.inj (e.symm.trans (atT b h3))
        exact (h2 rfl).elim
      · cases Option.some.inj (e.symm.trans ha)
        exact (h1 _ _ rfl).elim
  have outD : ∀ {b : Addr} {o : Obj} {es : Array DictEntry} {ep : Nat}, s₁.heap.get? b = some o → o.data = .dict es ep → H b = none := fun e d => out e (fun _ _ z => nomatch d.symm.trans z) fun z => nomatch d.symm.trans z
  have nsH : ∀ {b : Addr} {m : Str → Option Value}, s₁.heap.Ns b m → (hidT s₁.heap H).Ns b m := fun ⟨o, es, ep, e, d, r⟩ => ⟨o, es, ep, hidT_get e (outD e d), d, r⟩
  have kH : K.In (hidT s₁.heap H) := fun b o e => hidT_get (KX b o e) (by
    cases q : H b with
    | none => rfl
    | some u =>
      rcases inv b u q with ⟨h3, _⟩ | ⟨rfl, h3, _⟩
      · obtain ⟨p, hp, rfl⟩ := ofT b h3
        rw [nT p hp] at e
        cases e
      · rw [h3] at e
        cases e)
  have M : L2.Mod K mg (hidT s₁.heap H) := ⟨kH, nsH hns, ⟨mb, nsH hb, hbb⟩, let ⟨mc, h1, h2⟩ := hlim; ⟨mc, nsH h1, h2⟩⟩
  have TB : ∀ p ∈ cs, TabB (hidT s₁.heap H) mg p.1 p.2 := fun p hp => by
    have nG : mainGlobals ≠ p.2 := fun z => by
      obtain ⟨o, es, ep, e, d, _⟩ := hns
      rw [z] at e
      cases Option.some.inj (e.symm.trans (hT p hp))
      cases d
    refine ⟨?_, ?_, nG⟩
    · obtain ⟨o, us, file, tf, flags, tg, inF, text, tt, e1, r1, r2, r3, rest⟩ := C p hp
      refine ⟨o, us, file, tf, flags, tg, inF, text, tt, hidT_get e1 (out e1 (fun _ _ z => nomatch r2.symm.trans z) fun z => ?_), r1, r2, r3, rest⟩
      rw [r2] at z
      cases z
      simp at r3
    · obtain ⟨bm, ob, b1, b2, b3, b4, b5, b6⟩ := hbm
      refine ⟨bm, ob, b1, b2, fun q => ?_, fun q => ?_, hidT_get b3 (out b3 (fun _ _ z => nomatch b6.symm.trans z) fun z => nomatch b6.symm.trans z), b4, b5, b6⟩
      · obtain ⟨o, es, ep, e, d, _⟩ := hns
        rw [q] at b3
        cases Option.some.inj (b3.symm.trans e)
        exact nomatch d.symm.trans b6
      · rw [q] at b3
        cases Option.some.inj (b3.symm.trans (hT p hp))
        cases b6
  have e0 : Env0 P w K mg (hidT s₁.heap H) callerA [] s₁ H := ⟨rfl, M, fun b o e => of_hidT e, Nat.le_of_eq (hidT_size _ _), trivial, fun b hb => absurd (show b ∈ ([] : List Addr) from hb) (by simp), hok, .of_eq hg⟩
  have noM : MyRd.NoMod H s₁ := by
    obtain ⟨mm, o, es, ep, e, d, _⟩ := hmods
    exact ⟨outD e d, o, e⟩
  refine codeAny_mono ((F _ kH (nsH hns) TB).run callerA [] s₁ H ⟨[.ref a], []⟩ [.ref a] [.ref a] _ _ rfl noM hr e0 (hbind s₁ (.ref a)) (.cons rfl .nil) (hsp H tab sq)) fun r s' h => ?_
  match r, h with
  | .error e, h => exact (hCX H e s' h).elim
  | .ok .next, h => exact h.elim
  | .ok .brk, h => exact h.elim
  | .ok .cont, h => exact h.elim
  | .ok (.ret u), ⟨v, H', os, bare, un, hok', ru, q⟩ =>
    have q : v = .bl true := q
    subst q
    have ru : u = Value.bool true := ru
    subst ru
    have grown : ∀ b ∈ ts, ∃ more : Array Value, s'.heap.get? b = some { cls := .none, data := .fields more } := fun b hb => by
      obtain ⟨p, hp, rfl⟩ := ofT b hb
      obtain ⟨more, z⟩ := un.tbls p.2 #[] (tab p hp)
      exact ⟨_, hok' p.2 _ z⟩
    have kept : ∀ b o, b ∉ ts → s₁.heap.get? b = some o → s'.heap.get? b = some o := fun b o nb e => by
      cases q : H b with
      | none => exact un.keep b o e q (by intro z; exact absurd (show b ∈ ([] : List Addr) from z) (by simp)) (by simp)
      | some u =>
        rcases inv b u q with ⟨z, _⟩ | ⟨rfl, _, rfl⟩
        · exact absurd z nb
        · obtain ⟨e2, _⟩ := hok' b _ (un.frzs b _ _ q)
          cases Option.some.inj (e.symm.trans ha)
          exact e2
    refine ⟨rfl, ⟨fun b o e => ?_, fun b o e => ?_⟩, os, bare⟩
    · by_cases hb : b ∈ ts
      · obtain ⟨more, hm⟩ := grown b hb
        obtain ⟨p, hp, rfl⟩ := ofT b hb
        cases Option.some.inj (e.symm.trans (hT p hp))
        exact .inr (.inl ⟨((C p hp).tab (hT p hp)).isCodeTable, rfl, #[], more, rfl, by rw [Array.empty_append]; exact hm⟩)
      · exact .inl (kept b o hb e)
    · by_cases hb : b ∈ ts
      · obtain ⟨more, hm⟩ := grown b hb
        exact ⟨_, hm⟩
      · exact ⟨o, kept b o hb e⟩
/-- what is known of the law at the head's heap h -/
def LawAtM (l : PySem.W.OpenLaw) (w : World) (K : PySem.W.Frag) (CX : CXT) (k n : Nat) (x : Str) (mg : Str → Option Value) (fa : Addr) (h : Heap) : Prop :=
  ∃ (fd : FuncData) (cs : List (Addr × Addr)) (sp : Sp), (∀ p ∈ cs, h.get? p.2 = some { cls := .none, data := .fields #[] }) ∧ (∀ p ∈ cs, K.lookup p.2 = none) ∧ (∀ p ∈ cs, PySem.W.CodeHd h p.1 p.2) ∧ (∀ (s : Shared) (u : Value), BindsTo s fd ⟨[u], []⟩ [(x, u)]) ∧
    (∀ (H : Hp) (a : Addr) (ns : List Int), ns.length ≤ n → (∀ p ∈ cs, H p.2 = some (.tbl #[])) → SqL K H a (ns.map V.int) → sp [.ref a] H (fun v _ => v = .bl true) fun _ _ _ => False) ∧
    ∀ base : Heap, K.In base → base.Ns mainGlobals mg → (∀ p ∈ cs, TabB base mg p.1 p.2) → MyM.FnM l.prog w K mg base CX k fa fd [x] sp
theorem walk_ofM {l : PySem.W.OpenLaw} {n k : Nat} {q : Program} {loose : List Str} {XP : (Str → Option Value) → Heap → Prop} {YP : World → Heap → Prop} {d : DefRec} {K : Params → PySem.W.Frag} {CX : World → CXT} {x : Str}
    (hi : importsNone q = true) (hn : l.most = some n) (hn2 : n ≤ sizeLine) (hdf : d.params.defaults = []) (hr : Room k callerA) (hY : ∀ (w : World) (h : Heap), YP w h → (K w.params).In h)
    (F : ∀ (w : World) (mg : Str → Option Value) (fa : Addr) (h : Heap), YP w h → (K w.params).In h → h.Ns mainGlobals mg → mg d.name = some (.ref fa) → LawAtM l w (K w.params) (CX w) k n x mg fa h)
    (hCX : ∀ (w : World) (H : Hp) (s : Shared) (e : Value) (s' : Shared), CX w [] H s (fun _ _ _ => False) e s' → False) :
    PySem.W.WalkO q loose XP YP l.row.toRowW d [] (fun f vs => PySem.call f vs) := by
  refine Att.attach_callB hn hdf fun w s₀ s₁ mg mb fa o pm cd doc a vs ns G Y ho hd hcd hmg hobj hints hlen hbits hg => ?_
  have KX := hY w _ Y
  obtain ⟨fd, cs, sp, hT, nT, C, hb, hsp, hF⟩ := F w mg fa _ Y KX G.T.g hmg
  exact law_callM KX G.T.g G.T.b G.T.builtins G.T.nolimit (let ⟨mm, h1, _⟩ := (G.T.seer hi).mods; ⟨mm, h1⟩) hg hT nT C G.T.bmain hobj hints (Nat.le_trans hlen hn2) hr hF hb (fun H hH hS => hsp H a ns hlen hH hS) fun H e s' => hCX w H s₁ e s'
end MyAM
set_option Elab.async false
set_option linter.all false
set_option maxRecDepth 100000
set_option maxHeartbeats 2000000
namespace MyHk
open PySem PySem.W PySem.Calls PyProof.Rows
/-- what kHook sees, off the tree -/
noncomputable def kOb (as : List Addr) (s : SharedT) : List (Option Obj) := as.map (HandSHeadRun.getT s)
theorem kOb_eq (K : Params → Frag) (as : List Addr) (e : ∀ P, as = (K P).map (·.1)) (s : SharedT) : kOb as s = (kHook K as e).obs s.abs := by
  have h : HandSHeadRun.getT s = s.abs.heap.get? := funext fun a => HandSHeadRun.getT_eq s a
  show as.map (HandSHeadRun.getT s) = as.map s.abs.heap.get?
  rw [h]
end MyHk
set_option Elab.async false
set_option linter.all false
set_option maxRecDepth 100000
set_option maxHeartbeats 2000000
namespace K00
open PySem PySem.Spec PyProof.Rows L2 My
/-! ### the text by places -/
def top (i : Nat) : Stmt := PySem.Challenge.pw_takenup_k00_errors_and_papers.main.body.getD i (.Pass ⟨0, 0, 0, 0⟩)
abbrev sShown : Stmt := top 7
/-- built-in names that the module leaves alone -/
structure Blt (mg : Str → Option Value) : Prop where
  isinstance : mg "isinstance" = none
  int : mg "int" = none
  bool : mg "bool" = none
  str : mg "str" = none
  len : mg "len" = none
  list : mg "list" = none
  dict : mg "dict" = none
  tuple : mg "tuple" = none
  abs : mg "abs" = none
  range : mg "range" = none
  repr : mg "repr" = none
  sorted : mg "sorted" = none
/-! ### tools -/
theorem ifd {p : Prop} [Decidable p] {A B : Prop} (h1 : p → A) (h2 : ¬ p → B) : if decide p = true then A else B := by
  by_cases h : p
  · rw [decide_eq_true h]
    exact iteT (h1 h)
  · rw [decide_eq_false h]
    exact iteF (h2 h)
theorem ifnb {b : Bool} {A B : Prop} (h1 : b = true → B) (h2 : b = false → A) : if (!b) = true then A else B := by
  cases b
  · exact iteT (h2 rfl)
  · exact iteF (h1 rfl)
theorem same_upd {H : Hp} {a : Addr} {o : HO} (h : H a = none) : Same H (upd H a o) := fun b u e => by rw [upd_ne (ne_of_none e h)]; exact e
theorem paired_app {α β : Type} {F : α → β → Prop} {xs ys : List α} {us vs : List β} (h : Paired F xs us) (h' : Paired F ys vs) : Paired F (xs ++ ys) (us ++ vs) := by
  induction h with
  | nil => exact h'
  | cons a _ k => exact .cons a k
theorem same_updF {H G : Hp} {a : Addr} {o : HO} (s : Same H G) (h : H a = none) : Same H (upd G a o) := fun b u e => by
  rw [upd_ne (ne_of_none e h)]
  exact s b u e
theorem paired_at {A B : Type} {R : A → B → Prop} : ∀ {xs : List A} {ys : List B}, Paired R xs ys → ∀ {i : Nat} {x : A}, xs[i]? = some x → ∃ y, ys[i]? = some y ∧ R x y
  | _, _, .nil, i, x, h => by simp at h
  | _, _, .cons h t, 0, x, hx => by
    simp at hx
    subst hx
    exact ⟨_, rfl, h⟩
  | _, _, .cons h t, i + 1, x, hx => by
    simp at hx
    obtain ⟨y, hy, r⟩ := paired_at t hx
    exact ⟨y, by simpa using hy, r⟩
theorem paired_at' {A B : Type} {R : A → B → Prop} : ∀ {xs : List A} {ys : List B}, Paired R xs ys → ∀ {i : Nat} {y : B}, ys[i]? = some y → ∃ x, xs[i]? = some x ∧ R x y
  | _, _, .nil, i, x, h => by simp at h
  | _, _, .cons h t, 0, x, hx => by
    simp at hx
    subst hx
    exact ⟨_, rfl, h⟩
  | _, _, .cons h t, i + 1, x, hx => by
    simp at hx
    obtain ⟨y, hy, r⟩ := paired_at' t hx
    exact ⟨y, by simpa using hy, r⟩
def KT (H H' : Hp) : Prop := ∀ t xs, H t = some (.tup xs) → H' t = some (.tup xs)
theorem KT.refl (H : Hp) : KT H H := fun _ _ e => e
theorem KT.trans {A B C : Hp} (h : KT A B) (g : KT B C) : KT A C := fun t xs e => g t xs (h t xs e)
theorem KT.of {A B : Hp} (s : Same A B) : KT A B := fun t xs e => s _ _ e
theorem KT.updD {A : Hp} {d : Addr} {ks : List (Key × V)} {o : HO} (h : A d = some (.dK ks)) : KT A (upd A d o) := fun t xs e => by
  rw [upd_ne (ne_of e h (fun z => nomatch z))]
  exact e
theorem KT.updL {A : Hp} {d : Addr} {ks : List V} {o : HO} (h : A d = some (.lst ks)) : KT A (upd A d o) := fun t xs e => by
  rw [upd_ne (ne_of e h (fun z => nomatch z))]
  exact e
theorem KT.new {A : Hp} {d : Addr} {o : HO} (h : A d = none) : KT A (upd A d o) := .of (same_upd h)
/-! ### the kinds of values that the law hands in -/
inductive Kd (H : Hp) : V → String → Prop where
  | non : Kd H .non "NoneType"
  | bl (b : Bool) : Kd H (.bl b) "bool"
  | int (i : Int) : Kd H (.int i) "int"
  | str (s : Str) : Kd H (.str s) "str"
  | lst {a : Addr} {xs : List V} (e : H a = some (.lst xs)) : Kd H (.ref a) "list"
  | tup {a : Addr} {xs : List V} (e : H a = some (.tup xs)) : Kd H (.ref a) "tuple"
  | dK {a : Addr} {kvs : List (Key × V)} (e : H a = some (.dK kvs)) : Kd H (.ref a) "dict"
theorem Kd.tyX {K : PySem.W.Frag} {H : Hp} {x : V} {t : String} (h : Kd H x t) : TyX K H x (.type t) := by
  cases h with
  | non => exact .base .non
  | bl b => exact .base (.bl b)
  | int i => exact .base (.int i)
  | str s => exact .base (.str s)
  | lst e => exact .base (.lst e)
  | tup e => exact .base (.tup e)
  | dK e => exact .base (.dK e)
theorem Kd.same {H H' : Hp} {x : V} {t : String} (h : Kd H x t) (s : Same H H') : Kd H' x t := by
  cases h with
  | non => exact .non
  | bl b => exact .bl b
  | int i => exact .int i
  | str z => exact .str z
  | lst e => exact .lst (s _ _ e)
  | tup e => exact .tup (s _ _ e)
  | dK e => exact .dK (s _ _ e)
def isI : V → Bool | .int _ => true | .bl _ => true | _ => false
def isS : V → Bool | .str _ => true | _ => false
theorem kit_int {K : PySem.W.Frag} {H : Hp} {x : V} {t : String} (h : Kd H x t) : PySem.W.kitOne K (.type t) (.type "int") = some (isI x) := by
  cases h <;> first | exact kit_ty (r := true) (by decide +kernel) | exact kit_ty (r := false) (by decide +kernel)
theorem kit_str {K : PySem.W.Frag} {H : Hp} {x : V} {t : String} (h : Kd H x t) : PySem.W.kitOne K (.type t) (.type "str") = some (isS x) := by
  cases h <;> first | exact kit_ty (r := true) (by decide +kernel) | exact kit_ty (r := false) (by decide +kernel)
section
variable {P : Program} {w : World} {K : PySem.W.Frag} {mg : Str → Option Value} {base : Heap}
/-! ### shown -/
def spShown : Sp := fun vs H Q _ => ∃ x t, vs = [x] ∧ Kd H x t ∧ (∀ z, x = .str z → z.length ≤ 1000) ∧ ∀ r : Str, r.length ≤ 3000 → Q (.str r) H
theorem scShown : FnScope ["value"] ["value"] (defScope sShown) := ⟨rfl, rfl, rfl, by decide +kernel, rfl, by decide +kernel, by decide +kernel⟩
theorem small_log {i : Int} (h0 : -1000000000000 < i) (h1 : i < 1000000000000) : i.natAbs.log2 < 1920 := by
  have h2 : i.natAbs < 2 ^ 40 := by
    have : (2 : Nat) ^ 40 = 1099511627776 := by decide
    omega
  by_cases hz : i.natAbs = 0
  · rw [hz]
    decide
  · exact Nat.lt_trans ((Nat.log2_lt hz).mpr h2) (by decide)
theorem ok_shown {f : Addr} {fd : FuncData} (F : Fun K "shown" "shown" sShown f fd) (B : Blt mg) (gS : ∃ t, mg "SHOWN" = some (.int 1000000000000 t)) : FnOk P w K mg base CX0 1 f fd ["value"] spShown := by
  refine F.ok scShown (fun vs H Q E h => ?_) (fun cdv A outer s H vs Q E hr h => ?_)
  · obtain ⟨x, t, rfl, _⟩ := h
    rfl
  · obtain ⟨x, t, rfl, hx, hz, k⟩ := h
    refine ⟨_, pss_cons (ps_if (pt_val (pe_callB call_isi (by rfl) B.isinstance (by decide +kernel) (pa_cons (pv 0) (pa_cons (pe_bty "str" (by rfl) B.str (by decide +kernel)) pa_nil)))) (pss_one (ps_ret (pe_slice sl_str (pv 0) po_none (po_some pe_int)))) pss_nil)
      (pss_cons (ps_if (PW.pt (pw_and (pt_val (pe_callB call_isi (by rfl) B.isinstance (by decide +kernel) (pa_cons (pv 0) (pa_cons (pe_bty "int" (by rfl) B.int (by decide +kernel)) pa_nil))))
          (pw_and1 (pt_chain MyLt.op_ltB MyLt.op_ltB (pe_un un_neg (pe_gint rfl gS)) (pv 0) (pe_gint rfl gS))))) (pss_one (ps_ret (pe_callTy (MyZ.call_or call_str_int MyLt.call_str_bl) (by rfl) B.str (by decide +kernel) (pa_cons (pv 0) pa_nil)))) pss_nil)
      (pss_one (ps_ret pe_str))), ?_⟩
    refine ⟨_, rfl, _, _, _, _, isS x, rfl, .ty _, hx.tyX, kit_str hx, isS x, rfl, ?_⟩
    cases es : isS x with
    | true =>
      obtain ⟨z, rfl⟩ : ∃ z, x = .str z := by
        cases x <;> first | exact ⟨_, rfl⟩ | cases es
      refine iteT ⟨_, rfl, 80, rfl, z, rfl, Nat.le_trans (hz z rfl) (by rw [sizeLine_eq]; decide), k _ ?_⟩
      exact Nat.le_trans (cutS_length z _ _) (Nat.le_trans (hz z rfl) (by decide))
    | false =>
      refine iteF ⟨_, rfl, _, _, _, _, isI x, rfl, .ty _, hx.tyX, kit_int hx, isI x, rfl, ?_⟩
      cases ei : isI x with
      | false => exact iteF (k _ (by decide))
      | true =>
        refine iteT ?_
        cases hx with
        | int i =>
          refine ⟨_, rfl, _, rfl, .inl ⟨_, _, rfl, rfl, decide (-1000000000000 < i), rfl, ?_⟩⟩
          by_cases h0 : -1000000000000 < i
          · rw [decide_eq_true h0]
            refine iteT (.inl ⟨_, _, rfl, rfl, decide (i < 1000000000000), rfl, ?_⟩)
            by_cases h1 : i < 1000000000000
            · rw [decide_eq_true h1]
              refine iteT ⟨_, rfl, .inl ⟨_, rfl, small_log h0 h1, k _ ?_⟩⟩
              rw [PySem.ofString_length]
              have e := int_text_length_le (k := 1920) (by decide) (small_log h0 h1)
              omega
            · rw [decide_eq_false h1]
              exact iteF (k _ (by decide))
          · rw [decide_eq_false h0]
            exact iteF ⟨_, rfl, iteF (k _ (by decide))⟩
        | bl b =>
          refine ⟨_, rfl, _, rfl, .inr (.inl ⟨_, b, rfl, rfl, true, congrArg V.bl (by cases b <;> decide), iteT (.inr (.inr ⟨b, _, rfl, rfl, true, congrArg V.bl (by cases b <;> decide), iteT ⟨_, rfl, .inr ⟨b, rfl, k _ (by cases b <;> decide)⟩⟩⟩))⟩)⟩
        | _ => cases ei
end
end K00
set_option Elab.async false
set_option linter.all false
set_option maxRecDepth 100000
set_option maxHeartbeats 2000000
namespace K00
open PySem PySem.Spec PyProof.Rows L2 My
/-! ### errors, made -/
/-- behind an __init__ of an error: its fields -/
def PostX (H : Hp) (a C : Addr) (fs : List (Str × V)) (Q : VK) : Prop := ∀ dx H', H dx = none → dx ≠ a → H' a = some (exo a C (some dx)) → H' dx = some (exd dx fs) → (∀ b, b ≠ a → b ≠ dx → H' b = H b) → Q .non H'
/-- what the text says of an error's class -/
structure ExT (K : PySem.W.Frag) (C fI : Addr) : Prop where
  oex : OexC K C
  init : PySem.W.findIn K (.ref C) "__init__" = some (some (.ref fI))
  tI : PySem.W.typeIn K (.ref fI) = some (.type "function")
structure TopT (K : PySem.W.Frag) (mg : Str → Option Value) (nm : Str) (TE : Addr) : Prop where
  g : mg nm = some (.ref TE)
  rd : ClX.CRead K TE (.type "type")
  init : PySem.W.findCls K (.ref TE) (.type "type") "__init__" = some (.val (.builtin "ValueError.__init__"))
/-- a value that can be shown -/
def ShV (H : Hp) (x : V) : Prop := ∃ t, Kd H x t ∧ ∀ z, x = .str z → z.length ≤ 1000
theorem ShV.same {H H' : Hp} {x : V} (h : ShV H x) (s : Same H H') : ShV H' x := by
  obtain ⟨t, h1, h2⟩ := h
  exact ⟨t, h1.same s, h2⟩
def spE1 (C : Addr) (f : Str) : Sp := fun vs H Q _ => ∃ (a : Addr) (x : V), vs = [.ref a, x] ∧ ShV H x ∧ H a = some (exo a C none) ∧ PostX H a C [(f, x)] Q
def spE2 (C : Addr) (f g : Str) : Sp := fun vs H Q _ => ∃ (a : Addr) (x y : V), vs = [.ref a, x, y] ∧ ShV H x ∧ ShV H y ∧ H a = some (exo a C none) ∧ PostX H a C [(g, y), (f, x)] Q
theorem app_len (x y : Str) : (x ++ y).length = x.length + y.length := by
  show (x.cps ++ y.cps).size = _
  rw [Array.size_append]
  rfl
theorem line_of {n m : Nat} (h : n ≤ m) (hm : m ≤ 1000000 := by decide) : n ≤ sizeLine := Nat.le_trans h (Nat.le_trans hm (by rw [sizeLine_eq]; decide))
section
variable {P : Program} {w : World} {K : PySem.W.Frag} {mg : Str → Option Value} {base : Heap} {TE C fS : Addr} {fdS : FuncData}
abbrev sI_BadMachine : Stmt := inClass (top 9) 0
theorem sc_BadMachine : FnScope ["self", "part"] ["self", "part"] (defScope sI_BadMachine) := ⟨rfl, rfl, rfl, by decide +kernel, rfl, by decide +kernel, by decide +kernel⟩
theorem ok_BadMachine {f : Addr} {fd : FuncData} (F : Fun K "__init__" "BadMachine.__init__" sI_BadMachine f fd) (X : ExT K C f) (T : TopT K mg "ToolError" TE) (n0 : PySem.W.findIn K (.ref C) "part" = some none)
    (gS : mg "shown" = some (.ref fS)) (FS : Fun K "shown" "shown" sShown fS fdS) (GS : FnOk P w K mg base CX0 1 fS fdS ["value"] spShown) (bS : Binds K fdS ["value"] []) : FnOk P w K mg base CX0 2 f fd ["self", "part"] (spE1 C "part") := by
  refine F.ok sc_BadMachine (fun vs H Q E h => ?_) (fun cdv A outer s H vs Q E hr h => ?_)
  · obtain ⟨a, x, rfl, _⟩ := h
    rfl
  · obtain ⟨a, x, rfl, ⟨tx, kx, zx⟩, ha, k⟩ := h
    refine ⟨_, (pss_cons (ps_expr (pe_tinit (by rfl) T.g T.rd T.init (pa_cons (pv 0) (pa_cons (pe_joined (.cons pe_str (.cons (pe_fmt (pe_call GS hr rfl gS FS.kp bS .nil pass0 (pa_cons (pv 1) pa_nil))) .nil))) pa_nil))))
      (pss_one (ps_ost (pv 0) (pv 1)))), ?_⟩
    refine ⟨_, rfl, _, rfl, (by decide), _, rfl, _, _, rfl, kx, zx, fun r hr' => .inl ⟨r, rfl, line_of hr', r, rfl, ?_, ?_⟩⟩
    · rw [app_len, app_len]
      exact line_of (m := 5000) (by rw [show (Str.empty : Str).length = 0 from rfl, show (("bad machine: " : Str)).length = 13 by decide]; omega)
    · refine ⟨a, C, [_], rfl, (show 1 ≤ 1000 by decide), X.oex, ha, ?_⟩
      refine ⟨_, rfl, _, rfl, a, C, rfl, X.oex, n0, .inl ⟨ha, fun dx n1 n2 => k dx _ n1 n2 upd_same ?_ fun b n3 n4 => ?_⟩⟩
      · rw [upd_ne n2, upd_same]
      · rw [upd_ne n3, upd_ne n4]
abbrev sI_BadWords : Stmt := inClass (top 10) 0
theorem sc_BadWords : FnScope ["self", "part"] ["self", "part"] (defScope sI_BadWords) := ⟨rfl, rfl, rfl, by decide +kernel, rfl, by decide +kernel, by decide +kernel⟩
theorem ok_BadWords {f : Addr} {fd : FuncData} (F : Fun K "__init__" "BadWords.__init__" sI_BadWords f fd) (X : ExT K C f) (T : TopT K mg "ToolError" TE) (n0 : PySem.W.findIn K (.ref C) "part" = some none)
    (gS : mg "shown" = some (.ref fS)) (FS : Fun K "shown" "shown" sShown fS fdS) (GS : FnOk P w K mg base CX0 1 fS fdS ["value"] spShown) (bS : Binds K fdS ["value"] []) : FnOk P w K mg base CX0 2 f fd ["self", "part"] (spE1 C "part") := by
  refine F.ok sc_BadWords (fun vs H Q E h => ?_) (fun cdv A outer s H vs Q E hr h => ?_)
  · obtain ⟨a, x, rfl, _⟩ := h
    rfl
  · obtain ⟨a, x, rfl, ⟨tx, kx, zx⟩, ha, k⟩ := h
    refine ⟨_, (pss_cons (ps_expr (pe_tinit (by rfl) T.g T.rd T.init (pa_cons (pv 0) (pa_cons (pe_joined (.cons pe_str (.cons (pe_fmt (pe_call GS hr rfl gS FS.kp bS .nil pass0 (pa_cons (pv 1) pa_nil))) .nil))) pa_nil))))
      (pss_one (ps_ost (pv 0) (pv 1)))), ?_⟩
    refine ⟨_, rfl, _, rfl, (by decide), _, rfl, _, _, rfl, kx, zx, fun r hr' => .inl ⟨r, rfl, line_of hr', r, rfl, ?_, ?_⟩⟩
    · rw [app_len, app_len]
      exact line_of (m := 5000) (by rw [show (Str.empty : Str).length = 0 from rfl, show (("bad words: " : Str)).length = 11 by decide]; omega)
    · refine ⟨a, C, [_], rfl, (show 1 ≤ 1000 by decide), X.oex, ha, ?_⟩
      refine ⟨_, rfl, _, rfl, a, C, rfl, X.oex, n0, .inl ⟨ha, fun dx n1 n2 => k dx _ n1 n2 upd_same ?_ fun b n3 n4 => ?_⟩⟩
      · rw [upd_ne n2, upd_same]
      · rw [upd_ne n3, upd_ne n4]
abbrev sI_BadBlock : Stmt := inClass (top 11) 0
theorem sc_BadBlock : FnScope ["self", "part"] ["self", "part"] (defScope sI_BadBlock) := ⟨rfl, rfl, rfl, by decide +kernel, rfl, by decide +kernel, by decide +kernel⟩
theorem ok_BadBlock {f : Addr} {fd : FuncData} (F : Fun K "__init__" "BadBlock.__init__" sI_BadBlock f fd) (X : ExT K C f) (T : TopT K mg "ToolError" TE) (n0 : PySem.W.findIn K (.ref C) "part" = some none)
    (gS : mg "shown" = some (.ref fS)) (FS : Fun K "shown" "shown" sShown fS fdS) (GS : FnOk P w K mg base CX0 1 fS fdS ["value"] spShown) (bS : Binds K fdS ["value"] []) : FnOk P w K mg base CX0 2 f fd ["self", "part"] (spE1 C "part") := by
  refine F.ok sc_BadBlock (fun vs H Q E h => ?_) (fun cdv A outer s H vs Q E hr h => ?_)
  · obtain ⟨a, x, rfl, _⟩ := h
    rfl
  · obtain ⟨a, x, rfl, ⟨tx, kx, zx⟩, ha, k⟩ := h
    refine ⟨_, (pss_cons (ps_expr (pe_tinit (by rfl) T.g T.rd T.init (pa_cons (pv 0) (pa_cons (pe_joined (.cons pe_str (.cons (pe_fmt (pe_call GS hr rfl gS FS.kp bS .nil pass0 (pa_cons (pv 1) pa_nil))) .nil))) pa_nil))))
      (pss_one (ps_ost (pv 0) (pv 1)))), ?_⟩
    refine ⟨_, rfl, _, rfl, (by decide), _, rfl, _, _, rfl, kx, zx, fun r hr' => .inl ⟨r, rfl, line_of hr', r, rfl, ?_, ?_⟩⟩
    · rw [app_len, app_len]
      exact line_of (m := 5000) (by rw [show (Str.empty : Str).length = 0 from rfl, show (("bad block: " : Str)).length = 11 by decide]; omega)
    · refine ⟨a, C, [_], rfl, (show 1 ≤ 1000 by decide), X.oex, ha, ?_⟩
      refine ⟨_, rfl, _, rfl, a, C, rfl, X.oex, n0, .inl ⟨ha, fun dx n1 n2 => k dx _ n1 n2 upd_same ?_ fun b n3 n4 => ?_⟩⟩
      · rw [upd_ne n2, upd_same]
      · rw [upd_ne n3, upd_ne n4]
abbrev sI_BadProgram : Stmt := inClass (top 12) 0
theorem sc_BadProgram : FnScope ["self", "part"] ["self", "part"] (defScope sI_BadProgram) := ⟨rfl, rfl, rfl, by decide +kernel, rfl, by decide +kernel, by decide +kernel⟩
theorem ok_BadProgram {f : Addr} {fd : FuncData} (F : Fun K "__init__" "BadProgram.__init__" sI_BadProgram f fd) (X : ExT K C f) (T : TopT K mg "ToolError" TE) (n0 : PySem.W.findIn K (.ref C) "part" = some none)
    (gS : mg "shown" = some (.ref fS)) (FS : Fun K "shown" "shown" sShown fS fdS) (GS : FnOk P w K mg base CX0 1 fS fdS ["value"] spShown) (bS : Binds K fdS ["value"] []) : FnOk P w K mg base CX0 2 f fd ["self", "part"] (spE1 C "part") := by
  refine F.ok sc_BadProgram (fun vs H Q E h => ?_) (fun cdv A outer s H vs Q E hr h => ?_)
  · obtain ⟨a, x, rfl, _⟩ := h
    rfl
  · obtain ⟨a, x, rfl, ⟨tx, kx, zx⟩, ha, k⟩ := h
    refine ⟨_, (pss_cons (ps_expr (pe_tinit (by rfl) T.g T.rd T.init (pa_cons (pv 0) (pa_cons (pe_joined (.cons pe_str (.cons (pe_fmt (pe_call GS hr rfl gS FS.kp bS .nil pass0 (pa_cons (pv 1) pa_nil))) .nil))) pa_nil))))
      (pss_one (ps_ost (pv 0) (pv 1)))), ?_⟩
    refine ⟨_, rfl, _, rfl, (by decide), _, rfl, _, _, rfl, kx, zx, fun r hr' => .inl ⟨r, rfl, line_of hr', r, rfl, ?_, ?_⟩⟩
    · rw [app_len, app_len]
      exact line_of (m := 5000) (by rw [show (Str.empty : Str).length = 0 from rfl, show (("bad program: " : Str)).length = 13 by decide]; omega)
    · refine ⟨a, C, [_], rfl, (show 1 ≤ 1000 by decide), X.oex, ha, ?_⟩
      refine ⟨_, rfl, _, rfl, a, C, rfl, X.oex, n0, .inl ⟨ha, fun dx n1 n2 => k dx _ n1 n2 upd_same ?_ fun b n3 n4 => ?_⟩⟩
      · rw [upd_ne n2, upd_same]
      · rw [upd_ne n3, upd_ne n4]
abbrev sI_BadSum : Stmt := inClass (top 13) 0
theorem sc_BadSum : FnScope ["self", "part"] ["self", "part"] (defScope sI_BadSum) := ⟨rfl, rfl, rfl, by decide +kernel, rfl, by decide +kernel, by decide +kernel⟩
theorem ok_BadSum {f : Addr} {fd : FuncData} (F : Fun K "__init__" "BadSum.__init__" sI_BadSum f fd) (X : ExT K C f) (T : TopT K mg "ToolError" TE) (n0 : PySem.W.findIn K (.ref C) "part" = some none)
    (gS : mg "shown" = some (.ref fS)) (FS : Fun K "shown" "shown" sShown fS fdS) (GS : FnOk P w K mg base CX0 1 fS fdS ["value"] spShown) (bS : Binds K fdS ["value"] []) : FnOk P w K mg base CX0 2 f fd ["self", "part"] (spE1 C "part") := by
  refine F.ok sc_BadSum (fun vs H Q E h => ?_) (fun cdv A outer s H vs Q E hr h => ?_)
  · obtain ⟨a, x, rfl, _⟩ := h
    rfl
  · obtain ⟨a, x, rfl, ⟨tx, kx, zx⟩, ha, k⟩ := h
    refine ⟨_, (pss_cons (ps_expr (pe_tinit (by rfl) T.g T.rd T.init (pa_cons (pv 0) (pa_cons (pe_joined (.cons pe_str (.cons (pe_fmt (pe_call GS hr rfl gS FS.kp bS .nil pass0 (pa_cons (pv 1) pa_nil))) .nil))) pa_nil))))
      (pss_one (ps_ost (pv 0) (pv 1)))), ?_⟩
    refine ⟨_, rfl, _, rfl, (by decide), _, rfl, _, _, rfl, kx, zx, fun r hr' => .inl ⟨r, rfl, line_of hr', r, rfl, ?_, ?_⟩⟩
    · rw [app_len, app_len]
      exact line_of (m := 5000) (by rw [show (Str.empty : Str).length = 0 from rfl, show (("bad sum: " : Str)).length = 9 by decide]; omega)
    · refine ⟨a, C, [_], rfl, (show 1 ≤ 1000 by decide), X.oex, ha, ?_⟩
      refine ⟨_, rfl, _, rfl, a, C, rfl, X.oex, n0, .inl ⟨ha, fun dx n1 n2 => k dx _ n1 n2 upd_same ?_ fun b n3 n4 => ?_⟩⟩
      · rw [upd_ne n2, upd_same]
      · rw [upd_ne n3, upd_ne n4]
abbrev sI_BadMap : Stmt := inClass (top 14) 0
theorem sc_BadMap : FnScope ["self", "part"] ["self", "part"] (defScope sI_BadMap) := ⟨rfl, rfl, rfl, by decide +kernel, rfl, by decide +kernel, by decide +kernel⟩
theorem ok_BadMap {f : Addr} {fd : FuncData} (F : Fun K "__init__" "BadMap.__init__" sI_BadMap f fd) (X : ExT K C f) (T : TopT K mg "ToolError" TE) (n0 : PySem.W.findIn K (.ref C) "part" = some none)
    (gS : mg "shown" = some (.ref fS)) (FS : Fun K "shown" "shown" sShown fS fdS) (GS : FnOk P w K mg base CX0 1 fS fdS ["value"] spShown) (bS : Binds K fdS ["value"] []) : FnOk P w K mg base CX0 2 f fd ["self", "part"] (spE1 C "part") := by
  refine F.ok sc_BadMap (fun vs H Q E h => ?_) (fun cdv A outer s H vs Q E hr h => ?_)
  · obtain ⟨a, x, rfl, _⟩ := h
    rfl
  · obtain ⟨a, x, rfl, ⟨tx, kx, zx⟩, ha, k⟩ := h
    refine ⟨_, (pss_cons (ps_expr (pe_tinit (by rfl) T.g T.rd T.init (pa_cons (pv 0) (pa_cons (pe_joined (.cons pe_str (.cons (pe_fmt (pe_call GS hr rfl gS FS.kp bS .nil pass0 (pa_cons (pv 1) pa_nil))) .nil))) pa_nil))))
      (pss_one (ps_ost (pv 0) (pv 1)))), ?_⟩
    refine ⟨_, rfl, _, rfl, (by decide), _, rfl, _, _, rfl, kx, zx, fun r hr' => .inl ⟨r, rfl, line_of hr', r, rfl, ?_, ?_⟩⟩
    · rw [app_len, app_len]
      exact line_of (m := 5000) (by rw [show (Str.empty : Str).length = 0 from rfl, show (("bad shift: " : Str)).length = 11 by decide]; omega)
    · refine ⟨a, C, [_], rfl, (show 1 ≤ 1000 by decide), X.oex, ha, ?_⟩
      refine ⟨_, rfl, _, rfl, a, C, rfl, X.oex, n0, .inl ⟨ha, fun dx n1 n2 => k dx _ n1 n2 upd_same ?_ fun b n3 n4 => ?_⟩⟩
      · rw [upd_ne n2, upd_same]
      · rw [upd_ne n3, upd_ne n4]
abbrev sI_BadStand : Stmt := inClass (top 15) 0
theorem sc_BadStand : FnScope ["self", "part"] ["self", "part"] (defScope sI_BadStand) := ⟨rfl, rfl, rfl, by decide +kernel, rfl, by decide +kernel, by decide +kernel⟩
theorem ok_BadStand {f : Addr} {fd : FuncData} (F : Fun K "__init__" "BadStand.__init__" sI_BadStand f fd) (X : ExT K C f) (T : TopT K mg "ToolError" TE) (n0 : PySem.W.findIn K (.ref C) "part" = some none)
    (gS : mg "shown" = some (.ref fS)) (FS : Fun K "shown" "shown" sShown fS fdS) (GS : FnOk P w K mg base CX0 1 fS fdS ["value"] spShown) (bS : Binds K fdS ["value"] []) : FnOk P w K mg base CX0 2 f fd ["self", "part"] (spE1 C "part") := by
  refine F.ok sc_BadStand (fun vs H Q E h => ?_) (fun cdv A outer s H vs Q E hr h => ?_)
  · obtain ⟨a, x, rfl, _⟩ := h
    rfl
  · obtain ⟨a, x, rfl, ⟨tx, kx, zx⟩, ha, k⟩ := h
    refine ⟨_, (pss_cons (ps_expr (pe_tinit (by rfl) T.g T.rd T.init (pa_cons (pv 0) (pa_cons (pe_joined (.cons pe_str (.cons (pe_fmt (pe_call GS hr rfl gS FS.kp bS .nil pass0 (pa_cons (pv 1) pa_nil))) .nil))) pa_nil))))
      (pss_one (ps_ost (pv 0) (pv 1)))), ?_⟩
    refine ⟨_, rfl, _, rfl, (by decide), _, rfl, _, _, rfl, kx, zx, fun r hr' => .inl ⟨r, rfl, line_of hr', r, rfl, ?_, ?_⟩⟩
    · rw [app_len, app_len]
      exact line_of (m := 5000) (by rw [show (Str.empty : Str).length = 0 from rfl, show (("bad stand: " : Str)).length = 11 by decide]; omega)
    · refine ⟨a, C, [_], rfl, (show 1 ≤ 1000 by decide), X.oex, ha, ?_⟩
      refine ⟨_, rfl, _, rfl, a, C, rfl, X.oex, n0, .inl ⟨ha, fun dx n1 n2 => k dx _ n1 n2 upd_same ?_ fun b n3 n4 => ?_⟩⟩
      · rw [upd_ne n2, upd_same]
      · rw [upd_ne n3, upd_ne n4]
abbrev sI_BadTarget : Stmt := inClass (top 16) 0
theorem sc_BadTarget : FnScope ["self", "part"] ["self", "part"] (defScope sI_BadTarget) := ⟨rfl, rfl, rfl, by decide +kernel, rfl, by decide +kernel, by decide +kernel⟩
theorem ok_BadTarget {f : Addr} {fd : FuncData} (F : Fun K "__init__" "BadTarget.__init__" sI_BadTarget f fd) (X : ExT K C f) (T : TopT K mg "ToolError" TE) (n0 : PySem.W.findIn K (.ref C) "part" = some none)
    (gS : mg "shown" = some (.ref fS)) (FS : Fun K "shown" "shown" sShown fS fdS) (GS : FnOk P w K mg base CX0 1 fS fdS ["value"] spShown) (bS : Binds K fdS ["value"] []) : FnOk P w K mg base CX0 2 f fd ["self", "part"] (spE1 C "part") := by
  refine F.ok sc_BadTarget (fun vs H Q E h => ?_) (fun cdv A outer s H vs Q E hr h => ?_)
  · obtain ⟨a, x, rfl, _⟩ := h
    rfl
  · obtain ⟨a, x, rfl, ⟨tx, kx, zx⟩, ha, k⟩ := h
    refine ⟨_, (pss_cons (ps_expr (pe_tinit (by rfl) T.g T.rd T.init (pa_cons (pv 0) (pa_cons (pe_joined (.cons pe_str (.cons (pe_fmt (pe_call GS hr rfl gS FS.kp bS .nil pass0 (pa_cons (pv 1) pa_nil))) .nil))) pa_nil))))
      (pss_one (ps_ost (pv 0) (pv 1)))), ?_⟩
    refine ⟨_, rfl, _, rfl, (by decide), _, rfl, _, _, rfl, kx, zx, fun r hr' => .inl ⟨r, rfl, line_of hr', r, rfl, ?_, ?_⟩⟩
    · rw [app_len, app_len]
      exact line_of (m := 5000) (by rw [show (Str.empty : Str).length = 0 from rfl, show (("bad target: " : Str)).length = 12 by decide]; omega)
    · refine ⟨a, C, [_], rfl, (show 1 ≤ 1000 by decide), X.oex, ha, ?_⟩
      refine ⟨_, rfl, _, rfl, a, C, rfl, X.oex, n0, .inl ⟨ha, fun dx n1 n2 => k dx _ n1 n2 upd_same ?_ fun b n3 n4 => ?_⟩⟩
      · rw [upd_ne n2, upd_same]
      · rw [upd_ne n3, upd_ne n4]
abbrev sI_BadPaper : Stmt := inClass (top 17) 0
theorem sc_BadPaper : FnScope ["self", "part"] ["self", "part"] (defScope sI_BadPaper) := ⟨rfl, rfl, rfl, by decide +kernel, rfl, by decide +kernel, by decide +kernel⟩
theorem ok_BadPaper {f : Addr} {fd : FuncData} (F : Fun K "__init__" "BadPaper.__init__" sI_BadPaper f fd) (X : ExT K C f) (T : TopT K mg "ToolError" TE) (n0 : PySem.W.findIn K (.ref C) "part" = some none)
    (gS : mg "shown" = some (.ref fS)) (FS : Fun K "shown" "shown" sShown fS fdS) (GS : FnOk P w K mg base CX0 1 fS fdS ["value"] spShown) (bS : Binds K fdS ["value"] []) : FnOk P w K mg base CX0 2 f fd ["self", "part"] (spE1 C "part") := by
  refine F.ok sc_BadPaper (fun vs H Q E h => ?_) (fun cdv A outer s H vs Q E hr h => ?_)
  · obtain ⟨a, x, rfl, _⟩ := h
    rfl
  · obtain ⟨a, x, rfl, ⟨tx, kx, zx⟩, ha, k⟩ := h
    refine ⟨_, (pss_cons (ps_expr (pe_tinit (by rfl) T.g T.rd T.init (pa_cons (pv 0) (pa_cons (pe_joined (.cons pe_str (.cons (pe_fmt (pe_call GS hr rfl gS FS.kp bS .nil pass0 (pa_cons (pv 1) pa_nil))) .nil))) pa_nil))))
      (pss_one (ps_ost (pv 0) (pv 1)))), ?_⟩
    refine ⟨_, rfl, _, rfl, (by decide), _, rfl, _, _, rfl, kx, zx, fun r hr' => .inl ⟨r, rfl, line_of hr', r, rfl, ?_, ?_⟩⟩
    · rw [app_len, app_len]
      exact line_of (m := 5000) (by rw [show (Str.empty : Str).length = 0 from rfl, show (("bad paper: " : Str)).length = 11 by decide]; omega)
    · refine ⟨a, C, [_], rfl, (show 1 ≤ 1000 by decide), X.oex, ha, ?_⟩
      refine ⟨_, rfl, _, rfl, a, C, rfl, X.oex, n0, .inl ⟨ha, fun dx n1 n2 => k dx _ n1 n2 upd_same ?_ fun b n3 n4 => ?_⟩⟩
      · rw [upd_ne n2, upd_same]
      · rw [upd_ne n3, upd_ne n4]
abbrev sI_BadControl : Stmt := inClass (top 18) 0
theorem sc_BadControl : FnScope ["self", "part"] ["self", "part"] (defScope sI_BadControl) := ⟨rfl, rfl, rfl, by decide +kernel, rfl, by decide +kernel, by decide +kernel⟩
theorem ok_BadControl {f : Addr} {fd : FuncData} (F : Fun K "__init__" "BadControl.__init__" sI_BadControl f fd) (X : ExT K C f) (T : TopT K mg "ToolError" TE) (n0 : PySem.W.findIn K (.ref C) "part" = some none)
    (gS : mg "shown" = some (.ref fS)) (FS : Fun K "shown" "shown" sShown fS fdS) (GS : FnOk P w K mg base CX0 1 fS fdS ["value"] spShown) (bS : Binds K fdS ["value"] []) : FnOk P w K mg base CX0 2 f fd ["self", "part"] (spE1 C "part") := by
  refine F.ok sc_BadControl (fun vs H Q E h => ?_) (fun cdv A outer s H vs Q E hr h => ?_)
  · obtain ⟨a, x, rfl, _⟩ := h
    rfl
  · obtain ⟨a, x, rfl, ⟨tx, kx, zx⟩, ha, k⟩ := h
    refine ⟨_, (pss_cons (ps_expr (pe_tinit (by rfl) T.g T.rd T.init (pa_cons (pv 0) (pa_cons (pe_joined (.cons pe_str (.cons (pe_fmt (pe_call GS hr rfl gS FS.kp bS .nil pass0 (pa_cons (pv 1) pa_nil))) .nil))) pa_nil))))
      (pss_one (ps_ost (pv 0) (pv 1)))), ?_⟩
    refine ⟨_, rfl, _, rfl, (by decide), _, rfl, _, _, rfl, kx, zx, fun r hr' => .inl ⟨r, rfl, line_of hr', r, rfl, ?_, ?_⟩⟩
    · rw [app_len, app_len]
      exact line_of (m := 5000) (by rw [show (Str.empty : Str).length = 0 from rfl, show (("bad control: " : Str)).length = 13 by decide]; omega)
    · refine ⟨a, C, [_], rfl, (show 1 ≤ 1000 by decide), X.oex, ha, ?_⟩
      refine ⟨_, rfl, _, rfl, a, C, rfl, X.oex, n0, .inl ⟨ha, fun dx n1 n2 => k dx _ n1 n2 upd_same ?_ fun b n3 n4 => ?_⟩⟩
      · rw [upd_ne n2, upd_same]
      · rw [upd_ne n3, upd_ne n4]
abbrev sI_NoAxis : Stmt := inClass (top 20) 0
theorem sc_NoAxis : FnScope ["self", "axis"] ["self", "axis"] (defScope sI_NoAxis) := ⟨rfl, rfl, rfl, by decide +kernel, rfl, by decide +kernel, by decide +kernel⟩
theorem ok_NoAxis {f : Addr} {fd : FuncData} (F : Fun K "__init__" "NoAxis.__init__" sI_NoAxis f fd) (X : ExT K C f) (T : TopT K mg "Missing" TE) (n0 : PySem.W.findIn K (.ref C) "axis" = some none)
    (gS : mg "shown" = some (.ref fS)) (FS : Fun K "shown" "shown" sShown fS fdS) (GS : FnOk P w K mg base CX0 1 fS fdS ["value"] spShown) (bS : Binds K fdS ["value"] []) : FnOk P w K mg base CX0 2 f fd ["self", "axis"] (spE1 C "axis") := by
  refine F.ok sc_NoAxis (fun vs H Q E h => ?_) (fun cdv A outer s H vs Q E hr h => ?_)
  · obtain ⟨a, x, rfl, _⟩ := h
    rfl
  · obtain ⟨a, x, rfl, ⟨tx, kx, zx⟩, ha, k⟩ := h
    refine ⟨_, (pss_cons (ps_expr (pe_tinit (by rfl) T.g T.rd T.init (pa_cons (pv 0) (pa_cons (pe_joined (.cons pe_str (.cons (pe_fmt (pe_call GS hr rfl gS FS.kp bS .nil pass0 (pa_cons (pv 1) pa_nil))) .nil))) pa_nil))))
      (pss_one (ps_ost (pv 0) (pv 1)))), ?_⟩
    refine ⟨_, rfl, _, rfl, (by decide), _, rfl, _, _, rfl, kx, zx, fun r hr' => .inl ⟨r, rfl, line_of hr', r, rfl, ?_, ?_⟩⟩
    · rw [app_len, app_len]
      exact line_of (m := 5000) (by rw [show (Str.empty : Str).length = 0 from rfl, show (("no such axis: " : Str)).length = 14 by decide]; omega)
    · refine ⟨a, C, [_], rfl, (show 1 ≤ 1000 by decide), X.oex, ha, ?_⟩
      refine ⟨_, rfl, _, rfl, a, C, rfl, X.oex, n0, .inl ⟨ha, fun dx n1 n2 => k dx _ n1 n2 upd_same ?_ fun b n3 n4 => ?_⟩⟩
      · rw [upd_ne n2, upd_same]
      · rw [upd_ne n3, upd_ne n4]
abbrev sI_NoRegister : Stmt := inClass (top 21) 0
theorem sc_NoRegister : FnScope ["self", "name"] ["self", "name"] (defScope sI_NoRegister) := ⟨rfl, rfl, rfl, by decide +kernel, rfl, by decide +kernel, by decide +kernel⟩
theorem ok_NoRegister {f : Addr} {fd : FuncData} (F : Fun K "__init__" "NoRegister.__init__" sI_NoRegister f fd) (X : ExT K C f) (T : TopT K mg "Missing" TE) (n0 : PySem.W.findIn K (.ref C) "name" = some none)
    (gS : mg "shown" = some (.ref fS)) (FS : Fun K "shown" "shown" sShown fS fdS) (GS : FnOk P w K mg base CX0 1 fS fdS ["value"] spShown) (bS : Binds K fdS ["value"] []) : FnOk P w K mg base CX0 2 f fd ["self", "name"] (spE1 C "name") := by
  refine F.ok sc_NoRegister (fun vs H Q E h => ?_) (fun cdv A outer s H vs Q E hr h => ?_)
  · obtain ⟨a, x, rfl, _⟩ := h
    rfl
  · obtain ⟨a, x, rfl, ⟨tx, kx, zx⟩, ha, k⟩ := h
    refine ⟨_, (pss_cons (ps_expr (pe_tinit (by rfl) T.g T.rd T.init (pa_cons (pv 0) (pa_cons (pe_joined (.cons pe_str (.cons (pe_fmt (pe_call GS hr rfl gS FS.kp bS .nil pass0 (pa_cons (pv 1) pa_nil))) .nil))) pa_nil))))
      (pss_one (ps_ost (pv 0) (pv 1)))), ?_⟩
    refine ⟨_, rfl, _, rfl, (by decide), _, rfl, _, _, rfl, kx, zx, fun r hr' => .inl ⟨r, rfl, line_of hr', r, rfl, ?_, ?_⟩⟩
    · rw [app_len, app_len]
      exact line_of (m := 5000) (by rw [show (Str.empty : Str).length = 0 from rfl, show (("no such name: " : Str)).length = 14 by decide]; omega)
    · refine ⟨a, C, [_], rfl, (show 1 ≤ 1000 by decide), X.oex, ha, ?_⟩
      refine ⟨_, rfl, _, rfl, a, C, rfl, X.oex, n0, .inl ⟨ha, fun dx n1 n2 => k dx _ n1 n2 upd_same ?_ fun b n3 n4 => ?_⟩⟩
      · rw [upd_ne n2, upd_same]
      · rw [upd_ne n3, upd_ne n4]
abbrev sI_NoPlace : Stmt := inClass (top 22) 0
theorem sc_NoPlace : FnScope ["self", "place"] ["self", "place"] (defScope sI_NoPlace) := ⟨rfl, rfl, rfl, by decide +kernel, rfl, by decide +kernel, by decide +kernel⟩
theorem ok_NoPlace {f : Addr} {fd : FuncData} (F : Fun K "__init__" "NoPlace.__init__" sI_NoPlace f fd) (X : ExT K C f) (T : TopT K mg "Missing" TE) (n0 : PySem.W.findIn K (.ref C) "place" = some none)
    (gS : mg "shown" = some (.ref fS)) (FS : Fun K "shown" "shown" sShown fS fdS) (GS : FnOk P w K mg base CX0 1 fS fdS ["value"] spShown) (bS : Binds K fdS ["value"] []) : FnOk P w K mg base CX0 2 f fd ["self", "place"] (spE1 C "place") := by
  refine F.ok sc_NoPlace (fun vs H Q E h => ?_) (fun cdv A outer s H vs Q E hr h => ?_)
  · obtain ⟨a, x, rfl, _⟩ := h
    rfl
  · obtain ⟨a, x, rfl, ⟨tx, kx, zx⟩, ha, k⟩ := h
    refine ⟨_, (pss_cons (ps_expr (pe_tinit (by rfl) T.g T.rd T.init (pa_cons (pv 0) (pa_cons (pe_joined (.cons pe_str (.cons (pe_fmt (pe_call GS hr rfl gS FS.kp bS .nil pass0 (pa_cons (pv 1) pa_nil))) .nil))) pa_nil))))
      (pss_one (ps_ost (pv 0) (pv 1)))), ?_⟩
    refine ⟨_, rfl, _, rfl, (by decide), _, rfl, _, _, rfl, kx, zx, fun r hr' => .inl ⟨r, rfl, line_of hr', r, rfl, ?_, ?_⟩⟩
    · rw [app_len, app_len]
      exact line_of (m := 5000) (by rw [show (Str.empty : Str).length = 0 from rfl, show (("no such place: " : Str)).length = 15 by decide]; omega)
    · refine ⟨a, C, [_], rfl, (show 1 ≤ 1000 by decide), X.oex, ha, ?_⟩
      refine ⟨_, rfl, _, rfl, a, C, rfl, X.oex, n0, .inl ⟨ha, fun dx n1 n2 => k dx _ n1 n2 upd_same ?_ fun b n3 n4 => ?_⟩⟩
      · rw [upd_ne n2, upd_same]
      · rw [upd_ne n3, upd_ne n4]
abbrev sI_NoNode : Stmt := inClass (top 23) 0
theorem sc_NoNode : FnScope ["self", "place", "words"] ["self", "place", "words"] (defScope sI_NoNode) := ⟨rfl, rfl, rfl, by decide +kernel, rfl, by decide +kernel, by decide +kernel⟩
theorem ok_NoNode {f : Addr} {fd : FuncData} (F : Fun K "__init__" "NoNode.__init__" sI_NoNode f fd) (X : ExT K C f) (T : TopT K mg "Missing" TE) (n0 : PySem.W.findIn K (.ref C) "place" = some none) (n1 : PySem.W.findIn K (.ref C) "words" = some none)
    (gS : mg "shown" = some (.ref fS)) (FS : Fun K "shown" "shown" sShown fS fdS) (GS : FnOk P w K mg base CX0 1 fS fdS ["value"] spShown) (bS : Binds K fdS ["value"] []) : FnOk P w K mg base CX0 2 f fd ["self", "place", "words"] (spE2 C "place" "words") := by
  refine F.ok sc_NoNode (fun vs H Q E h => ?_) (fun cdv A outer s H vs Q E hr h => ?_)
  · obtain ⟨a, x, y, rfl, _⟩ := h
    rfl
  · obtain ⟨a, x, y, rfl, ⟨tx, kx, zx⟩, ⟨ty, ky, zy⟩, ha, k⟩ := h
    refine ⟨_, (pss_cons (ps_expr (pe_tinit (by rfl) T.g T.rd T.init (pa_cons (pv 0) (pa_cons (pe_joined (.cons pe_str (.cons (pe_fmt (pe_call GS hr rfl gS FS.kp bS .nil pass0 (pa_cons (pv 1) pa_nil))) .nil))) pa_nil))))
      (pss_cons (ps_ost (pv 0) (pv 1)) (pss_one (ps_ost (pv 0) (pv 2))))), ?_⟩
    refine ⟨_, rfl, _, rfl, (by decide), _, rfl, _, _, rfl, kx, zx, fun r hr' => .inl ⟨r, rfl, line_of hr', r, rfl, ?_, ?_⟩⟩
    · rw [app_len, app_len]
      exact line_of (m := 5000) (by rw [show (Str.empty : Str).length = 0 from rfl, show (("no such words at place: " : Str)).length = 24 by decide]; omega)
    · refine ⟨a, C, [_], rfl, (show 1 ≤ 1000 by decide), X.oex, ha, ?_⟩
      refine ⟨_, rfl, _, rfl, a, C, rfl, X.oex, n0, .inl ⟨ha, fun dx m1 m2 => ?_⟩⟩
      refine ⟨_, rfl, _, rfl, a, C, rfl, X.oex, n1, .inr ⟨dx, [("place", x)], upd_same, (by rw [upd_ne m2, upd_same]), (show 1 ≤ 900 by decide), ?_⟩⟩
      refine k dx _ m1 m2 (by rw [upd_ne (Ne.symm m2), upd_same]) upd_same fun b n3 n4 => ?_
      rw [upd_ne n4, upd_ne n3, upd_ne n4]
abbrev sI_BadRun : Stmt := inClass (top 24) 0
theorem sc_BadRun : FnScope ["self", "at"] ["self", "at"] (defScope sI_BadRun) := ⟨rfl, rfl, rfl, by decide +kernel, rfl, by decide +kernel, by decide +kernel⟩
theorem ok_BadRun {f : Addr} {fd : FuncData} (F : Fun K "__init__" "BadRun.__init__" sI_BadRun f fd) (X : ExT K C f) (T : TopT K mg "ToolError" TE) (n0 : PySem.W.findIn K (.ref C) "at" = some none)
    (gS : mg "shown" = some (.ref fS)) (FS : Fun K "shown" "shown" sShown fS fdS) (GS : FnOk P w K mg base CX0 1 fS fdS ["value"] spShown) (bS : Binds K fdS ["value"] []) : FnOk P w K mg base CX0 2 f fd ["self", "at"] (spE1 C "at") := by
  refine F.ok sc_BadRun (fun vs H Q E h => ?_) (fun cdv A outer s H vs Q E hr h => ?_)
  · obtain ⟨a, x, rfl, _⟩ := h
    rfl
  · obtain ⟨a, x, rfl, ⟨tx, kx, zx⟩, ha, k⟩ := h
    refine ⟨_, (pss_cons (ps_expr (pe_tinit (by rfl) T.g T.rd T.init (pa_cons (pv 0) (pa_cons (pe_joined (.cons pe_str (.cons (pe_fmt (pe_call GS hr rfl gS FS.kp bS .nil pass0 (pa_cons (pv 1) pa_nil))) .nil))) pa_nil))))
      (pss_one (ps_ost (pv 0) (pv 1)))), ?_⟩
    refine ⟨_, rfl, _, rfl, (by decide), _, rfl, _, _, rfl, kx, zx, fun r hr' => .inl ⟨r, rfl, line_of hr', r, rfl, ?_, ?_⟩⟩
    · rw [app_len, app_len]
      exact line_of (m := 5000) (by rw [show (Str.empty : Str).length = 0 from rfl, show (("no run, from item on: " : Str)).length = 22 by decide]; omega)
    · refine ⟨a, C, [_], rfl, (show 1 ≤ 1000 by decide), X.oex, ha, ?_⟩
      refine ⟨_, rfl, _, rfl, a, C, rfl, X.oex, n0, .inl ⟨ha, fun dx n1 n2 => k dx _ n1 n2 upd_same ?_ fun b n3 n4 => ?_⟩⟩
      · rw [upd_ne n2, upd_same]
      · rw [upd_ne n3, upd_ne n4]
abbrev sI_BadPreamble : Stmt := inClass (top 25) 0
theorem sc_BadPreamble : FnScope ["self", "at"] ["self", "at"] (defScope sI_BadPreamble) := ⟨rfl, rfl, rfl, by decide +kernel, rfl, by decide +kernel, by decide +kernel⟩
theorem ok_BadPreamble {f : Addr} {fd : FuncData} (F : Fun K "__init__" "BadPreamble.__init__" sI_BadPreamble f fd) (X : ExT K C f) (T : TopT K mg "ToolError" TE) (n0 : PySem.W.findIn K (.ref C) "at" = some none)
    (gS : mg "shown" = some (.ref fS)) (FS : Fun K "shown" "shown" sShown fS fdS) (GS : FnOk P w K mg base CX0 1 fS fdS ["value"] spShown) (bS : Binds K fdS ["value"] []) : FnOk P w K mg base CX0 2 f fd ["self", "at"] (spE1 C "at") := by
  refine F.ok sc_BadPreamble (fun vs H Q E h => ?_) (fun cdv A outer s H vs Q E hr h => ?_)
  · obtain ⟨a, x, rfl, _⟩ := h
    rfl
  · obtain ⟨a, x, rfl, ⟨tx, kx, zx⟩, ha, k⟩ := h
    refine ⟨_, (pss_cons (ps_expr (pe_tinit (by rfl) T.g T.rd T.init (pa_cons (pv 0) (pa_cons (pe_joined (.cons pe_str (.cons (pe_fmt (pe_call GS hr rfl gS FS.kp bS .nil pass0 (pa_cons (pv 1) pa_nil))) .nil))) pa_nil))))
      (pss_one (ps_ost (pv 0) (pv 1)))), ?_⟩
    refine ⟨_, rfl, _, rfl, (by decide), _, rfl, _, _, rfl, kx, zx, fun r hr' => .inl ⟨r, rfl, line_of hr', r, rfl, ?_, ?_⟩⟩
    · rw [app_len, app_len]
      exact line_of (m := 5000) (by rw [show (Str.empty : Str).length = 0 from rfl, show (("no preamble, from block on: " : Str)).length = 28 by decide]; omega)
    · refine ⟨a, C, [_], rfl, (show 1 ≤ 1000 by decide), X.oex, ha, ?_⟩
      refine ⟨_, rfl, _, rfl, a, C, rfl, X.oex, n0, .inl ⟨ha, fun dx n1 n2 => k dx _ n1 n2 upd_same ?_ fun b n3 n4 => ?_⟩⟩
      · rw [upd_ne n2, upd_same]
      · rw [upd_ne n3, upd_ne n4]
abbrev sI_Stopped : Stmt := inClass (top 26) 0
theorem sc_Stopped : FnScope ["self", "place"] ["self", "place"] (defScope sI_Stopped) := ⟨rfl, rfl, rfl, by decide +kernel, rfl, by decide +kernel, by decide +kernel⟩
theorem ok_Stopped {f : Addr} {fd : FuncData} (F : Fun K "__init__" "Stopped.__init__" sI_Stopped f fd) (X : ExT K C f) (T : TopT K mg "ToolError" TE) (n0 : PySem.W.findIn K (.ref C) "place" = some none)
    (gS : mg "shown" = some (.ref fS)) (FS : Fun K "shown" "shown" sShown fS fdS) (GS : FnOk P w K mg base CX0 1 fS fdS ["value"] spShown) (bS : Binds K fdS ["value"] []) : FnOk P w K mg base CX0 2 f fd ["self", "place"] (spE1 C "place") := by
  refine F.ok sc_Stopped (fun vs H Q E h => ?_) (fun cdv A outer s H vs Q E hr h => ?_)
  · obtain ⟨a, x, rfl, _⟩ := h
    rfl
  · obtain ⟨a, x, rfl, ⟨tx, kx, zx⟩, ha, k⟩ := h
    refine ⟨_, (pss_cons (ps_expr (pe_tinit (by rfl) T.g T.rd T.init (pa_cons (pv 0) (pa_cons (pe_joined (.cons pe_str (.cons (pe_fmt (pe_call GS hr rfl gS FS.kp bS .nil pass0 (pa_cons (pv 1) pa_nil))) .nil))) pa_nil))))
      (pss_one (ps_ost (pv 0) (pv 1)))), ?_⟩
    refine ⟨_, rfl, _, rfl, (by decide), _, rfl, _, _, rfl, kx, zx, fun r hr' => .inl ⟨r, rfl, line_of hr', r, rfl, ?_, ?_⟩⟩
    · rw [app_len, app_len]
      exact line_of (m := 5000) (by rw [show (Str.empty : Str).length = 0 from rfl, show (("the control is broken at place: " : Str)).length = 32 by decide]; omega)
    · refine ⟨a, C, [_], rfl, (show 1 ≤ 1000 by decide), X.oex, ha, ?_⟩
      refine ⟨_, rfl, _, rfl, a, C, rfl, X.oex, n0, .inl ⟨ha, fun dx n1 n2 => k dx _ n1 n2 upd_same ?_ fun b n3 n4 => ?_⟩⟩
      · rw [upd_ne n2, upd_same]
      · rw [upd_ne n3, upd_ne n4]
abbrev sI_Running : Stmt := inClass (top 27) 0
theorem sc_Running : FnScope ["self", "place"] ["self", "place"] (defScope sI_Running) := ⟨rfl, rfl, rfl, by decide +kernel, rfl, by decide +kernel, by decide +kernel⟩
theorem ok_Running {f : Addr} {fd : FuncData} (F : Fun K "__init__" "Running.__init__" sI_Running f fd) (X : ExT K C f) (T : TopT K mg "ToolError" TE) (n0 : PySem.W.findIn K (.ref C) "place" = some none)
    (gS : mg "shown" = some (.ref fS)) (FS : Fun K "shown" "shown" sShown fS fdS) (GS : FnOk P w K mg base CX0 1 fS fdS ["value"] spShown) (bS : Binds K fdS ["value"] []) : FnOk P w K mg base CX0 2 f fd ["self", "place"] (spE1 C "place") := by
  refine F.ok sc_Running (fun vs H Q E h => ?_) (fun cdv A outer s H vs Q E hr h => ?_)
  · obtain ⟨a, x, rfl, _⟩ := h
    rfl
  · obtain ⟨a, x, rfl, ⟨tx, kx, zx⟩, ha, k⟩ := h
    refine ⟨_, (pss_cons (ps_expr (pe_tinit (by rfl) T.g T.rd T.init (pa_cons (pv 0) (pa_cons (pe_joined (.cons pe_str (.cons (pe_fmt (pe_call GS hr rfl gS FS.kp bS .nil pass0 (pa_cons (pv 1) pa_nil))) .nil))) pa_nil))))
      (pss_one (ps_ost (pv 0) (pv 1)))), ?_⟩
    refine ⟨_, rfl, _, rfl, (by decide), _, rfl, _, _, rfl, kx, zx, fun r hr' => .inl ⟨r, rfl, line_of hr', r, rfl, ?_, ?_⟩⟩
    · rw [app_len, app_len]
      exact line_of (m := 5000) (by rw [show (Str.empty : Str).length = 0 from rfl, show (("the control is running at place: " : Str)).length = 33 by decide]; omega)
    · refine ⟨a, C, [_], rfl, (show 1 ≤ 1000 by decide), X.oex, ha, ?_⟩
      refine ⟨_, rfl, _, rfl, a, C, rfl, X.oex, n0, .inl ⟨ha, fun dx n1 n2 => k dx _ n1 n2 upd_same ?_ fun b n3 n4 => ?_⟩⟩
      · rw [upd_ne n2, upd_same]
      · rw [upd_ne n3, upd_ne n4]
abbrev sI_TooMany : Stmt := inClass (top 29) 0
theorem sc_TooMany : FnScope ["self", "what", "most"] ["self", "what", "most"] (defScope sI_TooMany) := ⟨rfl, rfl, rfl, by decide +kernel, rfl, by decide +kernel, by decide +kernel⟩
theorem ok_TooMany {f : Addr} {fd : FuncData} (F : Fun K "__init__" "TooMany.__init__" sI_TooMany f fd) (X : ExT K C f) (T : TopT K mg "ToolError" TE) (n0 : PySem.W.findIn K (.ref C) "what" = some none) (n1 : PySem.W.findIn K (.ref C) "most" = some none)
    (gS : mg "shown" = some (.ref fS)) (FS : Fun K "shown" "shown" sShown fS fdS) (GS : FnOk P w K mg base CX0 1 fS fdS ["value"] spShown) (bS : Binds K fdS ["value"] []) : FnOk P w K mg base CX0 2 f fd ["self", "what", "most"] (spE2 C "what" "most") := by
  refine F.ok sc_TooMany (fun vs H Q E h => ?_) (fun cdv A outer s H vs Q E hr h => ?_)
  · obtain ⟨a, x, y, rfl, _⟩ := h
    rfl
  · obtain ⟨a, x, y, rfl, ⟨tx, kx, zx⟩, ⟨ty, ky, zy⟩, ha, k⟩ := h
    refine ⟨_, (pss_cons (ps_expr (pe_tinit (by rfl) T.g T.rd T.init (pa_cons (pv 0) (pa_cons (pe_joined (.cons pe_str (.cons (pe_fmt (pe_call GS hr rfl gS FS.kp bS .nil pass0 (pa_cons (pv 1) pa_nil))) (.cons pe_str (.cons (pe_fmt (pe_call GS hr rfl gS FS.kp bS .nil pass0 (pa_cons (pv 2) pa_nil))) .nil))))) pa_nil))))
      (pss_cons (ps_ost (pv 0) (pv 1)) (pss_one (ps_ost (pv 0) (pv 2))))), ?_⟩
    refine ⟨_, rfl, _, rfl, (by decide), _, rfl, _, _, rfl, kx, zx, fun r hr' => .inl ⟨r, rfl, line_of hr', r, rfl, ?_, _, rfl, ?_, _, rfl, _, _, rfl, ky, zy, fun r2 hr2 => .inl ⟨r2, rfl, line_of hr2, r2, rfl, ?_, ?_⟩⟩⟩
    · rw [app_len, app_len]
      exact line_of (m := 5000) (by rw [show (Str.empty : Str).length = 0 from rfl, show (("too many: " : Str)).length = 10 by decide]; omega)
    · rw [app_len, app_len, app_len]
      exact line_of (m := 5000) (by rw [show (Str.empty : Str).length = 0 from rfl, show (("too many: " : Str)).length = 10 by decide, show ((", most: " : Str)).length = 8 by decide]; omega)
    · rw [app_len, app_len, app_len, app_len]
      exact line_of (m := 10000) (by rw [show (Str.empty : Str).length = 0 from rfl, show (("too many: " : Str)).length = 10 by decide, show ((", most: " : Str)).length = 8 by decide]; omega)
    · refine ⟨a, C, [_], rfl, (show 1 ≤ 1000 by decide), X.oex, ha, ?_⟩
      refine ⟨_, rfl, _, rfl, a, C, rfl, X.oex, n0, .inl ⟨ha, fun dx m1 m2 => ?_⟩⟩
      refine ⟨_, rfl, _, rfl, a, C, rfl, X.oex, n1, .inr ⟨dx, [("what", x)], upd_same, (by rw [upd_ne m2, upd_same]), (show 1 ≤ 900 by decide), ?_⟩⟩
      refine k dx _ m1 m2 (by rw [upd_ne (Ne.symm m2), upd_same]) upd_same fun b n3 n4 => ?_
      rw [upd_ne n4, upd_ne n3, upd_ne n4]
abbrev sI_BadText : Stmt := inClass (top 30) 0
theorem sc_BadText : FnScope ["self", "line", "word"] ["self", "line", "word"] (defScope sI_BadText) := ⟨rfl, rfl, rfl, by decide +kernel, rfl, by decide +kernel, by decide +kernel⟩
theorem ok_BadText {f : Addr} {fd : FuncData} (F : Fun K "__init__" "BadText.__init__" sI_BadText f fd) (X : ExT K C f) (T : TopT K mg "ToolError" TE) (n0 : PySem.W.findIn K (.ref C) "line" = some none) (n1 : PySem.W.findIn K (.ref C) "word" = some none)
    (gS : mg "shown" = some (.ref fS)) (FS : Fun K "shown" "shown" sShown fS fdS) (GS : FnOk P w K mg base CX0 1 fS fdS ["value"] spShown) (bS : Binds K fdS ["value"] []) : FnOk P w K mg base CX0 2 f fd ["self", "line", "word"] (spE2 C "line" "word") := by
  refine F.ok sc_BadText (fun vs H Q E h => ?_) (fun cdv A outer s H vs Q E hr h => ?_)
  · obtain ⟨a, x, y, rfl, _⟩ := h
    rfl
  · obtain ⟨a, x, y, rfl, ⟨tx, kx, zx⟩, ⟨ty, ky, zy⟩, ha, k⟩ := h
    refine ⟨_, (pss_cons (ps_expr (pe_tinit (by rfl) T.g T.rd T.init (pa_cons (pv 0) (pa_cons (pe_joined (.cons pe_str (.cons (pe_fmt (pe_call GS hr rfl gS FS.kp bS .nil pass0 (pa_cons (pv 1) pa_nil))) (.cons pe_str (.cons (pe_fmt (pe_call GS hr rfl gS FS.kp bS .nil pass0 (pa_cons (pv 2) pa_nil))) .nil))))) pa_nil))))
      (pss_cons (ps_ost (pv 0) (pv 1)) (pss_one (ps_ost (pv 0) (pv 2))))), ?_⟩
    refine ⟨_, rfl, _, rfl, (by decide), _, rfl, _, _, rfl, kx, zx, fun r hr' => .inl ⟨r, rfl, line_of hr', r, rfl, ?_, _, rfl, ?_, _, rfl, _, _, rfl, ky, zy, fun r2 hr2 => .inl ⟨r2, rfl, line_of hr2, r2, rfl, ?_, ?_⟩⟩⟩
    · rw [app_len, app_len]
      exact line_of (m := 5000) (by rw [show (Str.empty : Str).length = 0 from rfl, show (("line: " : Str)).length = 6 by decide]; omega)
    · rw [app_len, app_len, app_len]
      exact line_of (m := 5000) (by rw [show (Str.empty : Str).length = 0 from rfl, show (("line: " : Str)).length = 6 by decide, show ((", wrong from word: " : Str)).length = 19 by decide]; omega)
    · rw [app_len, app_len, app_len, app_len]
      exact line_of (m := 10000) (by rw [show (Str.empty : Str).length = 0 from rfl, show (("line: " : Str)).length = 6 by decide, show ((", wrong from word: " : Str)).length = 19 by decide]; omega)
    · refine ⟨a, C, [_], rfl, (show 1 ≤ 1000 by decide), X.oex, ha, ?_⟩
      refine ⟨_, rfl, _, rfl, a, C, rfl, X.oex, n0, .inl ⟨ha, fun dx m1 m2 => ?_⟩⟩
      refine ⟨_, rfl, _, rfl, a, C, rfl, X.oex, n1, .inr ⟨dx, [("line", x)], upd_same, (by rw [upd_ne m2, upd_same]), (show 1 ≤ 900 by decide), ?_⟩⟩
      refine k dx _ m1 m2 (by rw [upd_ne (Ne.symm m2), upd_same]) upd_same fun b n3 n4 => ?_
      rw [upd_ne n4, upd_ne n3, upd_ne n4]
abbrev sI_BadLine : Stmt := inClass (top 31) 0
theorem sc_BadLine : FnScope ["self", "line", "error"] ["self", "line", "error"] (defScope sI_BadLine) := ⟨rfl, rfl, rfl, by decide +kernel, rfl, by decide +kernel, by decide +kernel⟩
theorem ok_BadLine {f : Addr} {fd : FuncData} (F : Fun K "__init__" "BadLine.__init__" sI_BadLine f fd) (X : ExT K C f) (T : TopT K mg "ToolError" TE) (n0 : PySem.W.findIn K (.ref C) "line" = some none) (n1 : PySem.W.findIn K (.ref C) "error" = some none)
    (gS : mg "shown" = some (.ref fS)) (FS : Fun K "shown" "shown" sShown fS fdS) (GS : FnOk P w K mg base CX0 1 fS fdS ["value"] spShown) (bS : Binds K fdS ["value"] []) : FnOk P w K mg base CX0 2 f fd ["self", "line", "error"] (spE2 C "line" "error") := by
  refine F.ok sc_BadLine (fun vs H Q E h => ?_) (fun cdv A outer s H vs Q E hr h => ?_)
  · obtain ⟨a, x, y, rfl, _⟩ := h
    rfl
  · obtain ⟨a, x, y, rfl, ⟨tx, kx, zx⟩, ⟨ty, ky, zy⟩, ha, k⟩ := h
    refine ⟨_, (pss_cons (ps_expr (pe_tinit (by rfl) T.g T.rd T.init (pa_cons (pv 0) (pa_cons (pe_joined (.cons pe_str (.cons (pe_fmt (pe_call GS hr rfl gS FS.kp bS .nil pass0 (pa_cons (pv 1) pa_nil))) .nil))) pa_nil))))
      (pss_cons (ps_ost (pv 0) (pv 1)) (pss_one (ps_ost (pv 0) (pv 2))))), ?_⟩
    refine ⟨_, rfl, _, rfl, (by decide), _, rfl, _, _, rfl, kx, zx, fun r hr' => .inl ⟨r, rfl, line_of hr', r, rfl, ?_, ?_⟩⟩
    · rw [app_len, app_len]
      exact line_of (m := 5000) (by rw [show (Str.empty : Str).length = 0 from rfl, show (("this line cannot be done: " : Str)).length = 26 by decide]; omega)
    · refine ⟨a, C, [_], rfl, (show 1 ≤ 1000 by decide), X.oex, ha, ?_⟩
      refine ⟨_, rfl, _, rfl, a, C, rfl, X.oex, n0, .inl ⟨ha, fun dx m1 m2 => ?_⟩⟩
      refine ⟨_, rfl, _, rfl, a, C, rfl, X.oex, n1, .inr ⟨dx, [("line", x)], upd_same, (by rw [upd_ne m2, upd_same]), (show 1 ≤ 900 by decide), ?_⟩⟩
      refine k dx _ m1 m2 (by rw [upd_ne (Ne.symm m2), upd_same]) upd_same fun b n3 n4 => ?_
      rw [upd_ne n4, upd_ne n3, upd_ne n4]
end
end K00
set_option Elab.async false
set_option linter.all false
set_option maxRecDepth 100000
set_option maxHeartbeats 2000000
namespace K00
open PySem PySem.Spec PyProof.Rows L2 My
abbrev sByP : Stmt := top 36
abbrev sByN : Stmt := top 37
/-- an error's class, as the law calls it -/
structure RaT (P : Program) (w : World) (K : PySem.W.Frag) (mg : Str → Option Value) (base : Heap) (x : Str) (C fI : Addr) (fd : FuncData) (ps : List Str) (sp : Sp) : Prop where
  ex : ExT K C fI
  ok : FnOk P w K mg base CX0 2 fI fd ps sp
  bn : Binds K fd ps []
  g : mg x = some (.ref C)
def Ec1 (P : Program) (w : World) (K : PySem.W.Frag) (mg : Str → Option Value) (base : Heap) (x : Str) (C : Addr) (f : Str) : Prop := ∃ fI fd, RaT P w K mg base x C fI fd ["self", f] (spE1 C f) ∧ ∃ g, KBn K fd ["self", f] 1 [f] g (fun vs zs => vs ++ zs)
def Ec2 (P : Program) (w : World) (K : PySem.W.Frag) (mg : Str → Option Value) (base : Heap) (x : Str) (C : Addr) (f g : Str) : Prop := ∃ fI fd, RaT P w K mg base x C fI fd ["self", f, g] (spE2 C f g) ∧ ∃ h, KBn K fd ["self", f, g] 1 [g, f] h (fun vs zs => vs ++ zs.reverse)
/-- the names of the classes, in the law's order -/
def nms : List Str := ["BadMachine", "BadWords", "BadBlock", "BadProgram", "BadSum", "BadMap", "BadStand", "BadTarget", "BadPaper", "BadControl", "NoAxis", "NoRegister", "NoPlace", "NoNode", "BadRun", "BadPreamble", "Stopped", "Running", "Nothing", "TooMany", "BadText", "BadLine"]
/-- the fields of the j-th, the last one first -/
def flds (j : Nat) (x y : V) : List (Str × V) := match j with
  | 0 => [("part", x)]
  | 1 => [("part", x)]
  | 2 => [("part", x)]
  | 3 => [("part", x)]
  | 4 => [("part", x)]
  | 5 => [("part", x)]
  | 6 => [("part", x)]
  | 7 => [("part", x)]
  | 8 => [("part", x)]
  | 9 => [("part", x)]
  | 10 => [("axis", x)]
  | 11 => [("name", x)]
  | 12 => [("place", x)]
  | 13 => [("words", y), ("place", x)]
  | 14 => [("at", x)]
  | 15 => [("at", x)]
  | 16 => [("place", x)]
  | 17 => [("place", x)]
  | 19 => [("most", y), ("what", x)]
  | 20 => [("word", y), ("line", x)]
  | 21 => [("error", y), ("line", x)]
  | _ => []
structure Errs (P : Program) (w : World) (K : PySem.W.Frag) (mg : Str → Option Value) (base : Heap) (cs : Nat → Addr) : Prop where
  e0 : Ec1 P w K mg base "BadMachine" (cs 0) "part"
  e1 : Ec1 P w K mg base "BadWords" (cs 1) "part"
  e2 : Ec1 P w K mg base "BadBlock" (cs 2) "part"
  e3 : Ec1 P w K mg base "BadProgram" (cs 3) "part"
  e4 : Ec1 P w K mg base "BadSum" (cs 4) "part"
  e5 : Ec1 P w K mg base "BadMap" (cs 5) "part"
  e6 : Ec1 P w K mg base "BadStand" (cs 6) "part"
  e7 : Ec1 P w K mg base "BadTarget" (cs 7) "part"
  e8 : Ec1 P w K mg base "BadPaper" (cs 8) "part"
  e9 : Ec1 P w K mg base "BadControl" (cs 9) "part"
  e10 : Ec1 P w K mg base "NoAxis" (cs 10) "axis"
  e11 : Ec1 P w K mg base "NoRegister" (cs 11) "name"
  e12 : Ec1 P w K mg base "NoPlace" (cs 12) "place"
  e13 : Ec2 P w K mg base "NoNode" (cs 13) "place" "words"
  e14 : Ec1 P w K mg base "BadRun" (cs 14) "at"
  e15 : Ec1 P w K mg base "BadPreamble" (cs 15) "at"
  e16 : Ec1 P w K mg base "Stopped" (cs 16) "place"
  e17 : Ec1 P w K mg base "Running" (cs 17) "place"
  e19 : Ec2 P w K mg base "TooMany" (cs 19) "what" "most"
  e20 : Ec2 P w K mg base "BadText" (cs 20) "line" "word"
  e21 : Ec2 P w K mg base "BadLine" (cs 21) "line" "error"
  bm : ∃ bmB initId, ExcBaseFacts "ValueError" "ValueError.__new__" initId bmB ∧ PySem.W.excIn K (cs 18) bmB "ValueError.__new__" = true
  g18 : mg "Nothing" = some (.ref (cs 18))
  k18 : PySem.W.keepIn K (.ref (cs 18)) = true
/-- what C(..) gives, of one field and of two -/
theorem mk1 {H : Hp} {C : Addr} {f : Str} {x : V} {Q : VK} (sh : ShV H x) (q : ∀ a H', Same H H' → H a = none → MyC.ErA H' a C [(f, x)] → Q (.ref a) H') (a : Addr) (ha : H a = none) :
    spE1 C f [.ref a, x] (upd H a (exo a C none)) (fun v H2 => v = .non ∧ Q (.ref a) H2) (fun _ _ _ => False) := by
  have sa := same_upd (o := exo a C none) ha
  refine ⟨a, x, rfl, sh.same sa, upd_same, fun dx H' h1 h2 e1 e2 keep => ⟨rfl, q a H' (fun b o e => ?_) ha (.inl ⟨dx, e1, e2⟩)⟩⟩
  have nb : b ≠ a := ne_of_none e ha
  have nd : b ≠ dx := ne_of_none (sa _ _ e) h1
  rw [keep b nb nd]
  exact sa _ _ e
theorem mk2 {H : Hp} {C : Addr} {f g : Str} {x y : V} {Q : VK} (sx : ShV H x) (sy : ShV H y) (q : ∀ a H', Same H H' → H a = none → MyC.ErA H' a C [(g, y), (f, x)] → Q (.ref a) H') (a : Addr) (ha : H a = none) :
    spE2 C f g [.ref a, x, y] (upd H a (exo a C none)) (fun v H2 => v = .non ∧ Q (.ref a) H2) (fun _ _ _ => False) := by
  have sa := same_upd (o := exo a C none) ha
  refine ⟨a, x, y, rfl, sx.same sa, sy.same sa, upd_same, fun dx H' h1 h2 e1 e2 keep => ⟨rfl, q a H' (fun b o e => ?_) ha (.inl ⟨dx, e1, e2⟩)⟩⟩
  have nb : b ≠ a := ne_of_none e ha
  have nd : b ≠ dx := ne_of_none (sa _ _ e) h1
  rw [keep b nb nd]
  exact sa _ _ e
def spBy (cs : Nat → Addr) : Sp := fun vs H Q _ => ∃ (j : Nat) (nm : Str) (x y : V), vs = [.str nm, x, y] ∧ nms[j]? = some nm ∧ ShV H x ∧ ShV H y ∧ ∀ a H', Same H H' → H a = none → MyC.ErA H' a (cs j) (flds j x y) → Q (.ref a) H'
abbrev byN : List Str := ["_law_name", "_law_one", "_law_two"]
theorem scByP : FnScope byN byN (defScope sByP) := ⟨rfl, rfl, rfl, by decide +kernel, rfl, by decide +kernel, by decide +kernel⟩
theorem scByN : FnScope byN byN (defScope sByN) := ⟨rfl, rfl, rfl, by decide +kernel, rfl, by decide +kernel, by decide +kernel⟩
section
variable {P : Program} {w : World} {K : PySem.W.Frag} {mg : Str → Option Value} {base : Heap} {cs : Nat → Addr}
theorem ok_byplace {f : Addr} {fd : FuncData} (F : Fun K "_law_by_place" "_law_by_place" sByP f fd) (R : Errs P w K mg base cs) : FnOk P w K mg base CX0 4 f fd byN (spBy cs) := by
  refine F.ok scByP (fun vs H Q E h => ?_) (fun cdv A outer s H vs Q E hr h => ?_)
  · obtain ⟨j, nm, x, y, rfl, _⟩ := h
    rfl
  · obtain ⟨j, nm, x, y, rfl, hj, sx, sy, k⟩ := h
    obtain ⟨f0, d0, r0, g0, b0⟩ := R.e0
    obtain ⟨f1, d1, r1, g1, b1⟩ := R.e1
    obtain ⟨f2, d2, r2, g2, b2⟩ := R.e2
    obtain ⟨f3, d3, r3, g3, b3⟩ := R.e3
    obtain ⟨f4, d4, r4, g4, b4⟩ := R.e4
    obtain ⟨f5, d5, r5, g5, b5⟩ := R.e5
    obtain ⟨f6, d6, r6, g6, b6⟩ := R.e6
    obtain ⟨f7, d7, r7, g7, b7⟩ := R.e7
    obtain ⟨f8, d8, r8, g8, b8⟩ := R.e8
    obtain ⟨f9, d9, r9, g9, b9⟩ := R.e9
    obtain ⟨f10, d10, r10, g10, b10⟩ := R.e10
    obtain ⟨f11, d11, r11, g11, b11⟩ := R.e11
    obtain ⟨f12, d12, r12, g12, b12⟩ := R.e12
    obtain ⟨f13, d13, r13, g13, b13⟩ := R.e13
    obtain ⟨f14, d14, r14, g14, b14⟩ := R.e14
    obtain ⟨f15, d15, r15, g15, b15⟩ := R.e15
    obtain ⟨f16, d16, r16, g16, b16⟩ := R.e16
    obtain ⟨f17, d17, r17, g17, b17⟩ := R.e17
    obtain ⟨f19, d19, r19, g19, b19⟩ := R.e19
    obtain ⟨f20, d20, r20, g20, b20⟩ := R.e20
    obtain ⟨f21, d21, r21, g21, b21⟩ := R.e21
    obtain ⟨bmB, ini, fb, q18⟩ := R.bm
    refine ⟨_, (pss_cons (ps_if (pt_cmpR op_eq (pv 0) pe_str (nomark _)) (pss_one (ps_ret (MyC.pe_mkP r0.ex.oex r0.ex.init r0.ex.tI r0.ok (hr.mono (by decide)) r0.bn pass0 (by rfl) r0.g (pa_cons (pv 1) pa_nil)))) pss_nil)
      (pss_cons (ps_if (pt_cmpR op_eq (pv 0) pe_str (nomark _)) (pss_one (ps_ret (MyC.pe_mkP r1.ex.oex r1.ex.init r1.ex.tI r1.ok (hr.mono (by decide)) r1.bn pass0 (by rfl) r1.g (pa_cons (pv 1) pa_nil)))) pss_nil)
       (pss_cons (ps_if (pt_cmpR op_eq (pv 0) pe_str (nomark _)) (pss_one (ps_ret (MyC.pe_mkP r2.ex.oex r2.ex.init r2.ex.tI r2.ok (hr.mono (by decide)) r2.bn pass0 (by rfl) r2.g (pa_cons (pv 1) pa_nil)))) pss_nil)
        (pss_cons (ps_if (pt_cmpR op_eq (pv 0) pe_str (nomark _)) (pss_one (ps_ret (MyC.pe_mkP r3.ex.oex r3.ex.init r3.ex.tI r3.ok (hr.mono (by decide)) r3.bn pass0 (by rfl) r3.g (pa_cons (pv 1) pa_nil)))) pss_nil)
         (pss_cons (ps_if (pt_cmpR op_eq (pv 0) pe_str (nomark _)) (pss_one (ps_ret (MyC.pe_mkP r4.ex.oex r4.ex.init r4.ex.tI r4.ok (hr.mono (by decide)) r4.bn pass0 (by rfl) r4.g (pa_cons (pv 1) pa_nil)))) pss_nil)
          (pss_cons (ps_if (pt_cmpR op_eq (pv 0) pe_str (nomark _)) (pss_one (ps_ret (MyC.pe_mkP r5.ex.oex r5.ex.init r5.ex.tI r5.ok (hr.mono (by decide)) r5.bn pass0 (by rfl) r5.g (pa_cons (pv 1) pa_nil)))) pss_nil)
           (pss_cons (ps_if (pt_cmpR op_eq (pv 0) pe_str (nomark _)) (pss_one (ps_ret (MyC.pe_mkP r6.ex.oex r6.ex.init r6.ex.tI r6.ok (hr.mono (by decide)) r6.bn pass0 (by rfl) r6.g (pa_cons (pv 1) pa_nil)))) pss_nil)
            (pss_cons (ps_if (pt_cmpR op_eq (pv 0) pe_str (nomark _)) (pss_one (ps_ret (MyC.pe_mkP r7.ex.oex r7.ex.init r7.ex.tI r7.ok (hr.mono (by decide)) r7.bn pass0 (by rfl) r7.g (pa_cons (pv 1) pa_nil)))) pss_nil)
             (pss_cons (ps_if (pt_cmpR op_eq (pv 0) pe_str (nomark _)) (pss_one (ps_ret (MyC.pe_mkP r8.ex.oex r8.ex.init r8.ex.tI r8.ok (hr.mono (by decide)) r8.bn pass0 (by rfl) r8.g (pa_cons (pv 1) pa_nil)))) pss_nil)
              (pss_cons (ps_if (pt_cmpR op_eq (pv 0) pe_str (nomark _)) (pss_one (ps_ret (MyC.pe_mkP r9.ex.oex r9.ex.init r9.ex.tI r9.ok (hr.mono (by decide)) r9.bn pass0 (by rfl) r9.g (pa_cons (pv 1) pa_nil)))) pss_nil)
               (pss_cons (ps_if (pt_cmpR op_eq (pv 0) pe_str (nomark _)) (pss_one (ps_ret (MyC.pe_mkP r10.ex.oex r10.ex.init r10.ex.tI r10.ok (hr.mono (by decide)) r10.bn pass0 (by rfl) r10.g (pa_cons (pv 1) pa_nil)))) pss_nil)
                (pss_cons (ps_if (pt_cmpR op_eq (pv 0) pe_str (nomark _)) (pss_one (ps_ret (MyC.pe_mkP r11.ex.oex r11.ex.init r11.ex.tI r11.ok (hr.mono (by decide)) r11.bn pass0 (by rfl) r11.g (pa_cons (pv 1) pa_nil)))) pss_nil)
                 (pss_cons (ps_if (pt_cmpR op_eq (pv 0) pe_str (nomark _)) (pss_one (ps_ret (MyC.pe_mkP r12.ex.oex r12.ex.init r12.ex.tI r12.ok (hr.mono (by decide)) r12.bn pass0 (by rfl) r12.g (pa_cons (pv 1) pa_nil)))) pss_nil)
                  (pss_cons (ps_if (pt_cmpR op_eq (pv 0) pe_str (nomark _)) (pss_one (ps_ret (MyC.pe_mkP r13.ex.oex r13.ex.init r13.ex.tI r13.ok (hr.mono (by decide)) r13.bn pass0 (by rfl) r13.g (pa_cons (pv 1) (pa_cons (pv 2) pa_nil))))) pss_nil)
                   (pss_cons (ps_if (pt_cmpR op_eq (pv 0) pe_str (nomark _)) (pss_one (ps_ret (MyC.pe_mkP r14.ex.oex r14.ex.init r14.ex.tI r14.ok (hr.mono (by decide)) r14.bn pass0 (by rfl) r14.g (pa_cons (pv 1) pa_nil)))) pss_nil)
                    (pss_cons (ps_if (pt_cmpR op_eq (pv 0) pe_str (nomark _)) (pss_one (ps_ret (MyC.pe_mkP r15.ex.oex r15.ex.init r15.ex.tI r15.ok (hr.mono (by decide)) r15.bn pass0 (by rfl) r15.g (pa_cons (pv 1) pa_nil)))) pss_nil)
                     (pss_cons (ps_if (pt_cmpR op_eq (pv 0) pe_str (nomark _)) (pss_one (ps_ret (MyC.pe_mkP r16.ex.oex r16.ex.init r16.ex.tI r16.ok (hr.mono (by decide)) r16.bn pass0 (by rfl) r16.g (pa_cons (pv 1) pa_nil)))) pss_nil)
                      (pss_cons (ps_if (pt_cmpR op_eq (pv 0) pe_str (nomark _)) (pss_one (ps_ret (MyC.pe_mkP r17.ex.oex r17.ex.init r17.ex.tI r17.ok (hr.mono (by decide)) r17.bn pass0 (by rfl) r17.g (pa_cons (pv 1) pa_nil)))) pss_nil)
                       (pss_cons (ps_if (pt_cmpR op_eq (pv 0) pe_str (nomark _)) (pss_one (ps_ret (MyC.pe_mkP r19.ex.oex r19.ex.init r19.ex.tI r19.ok (hr.mono (by decide)) r19.bn pass0 (by rfl) r19.g (pa_cons (pv 1) (pa_cons (pv 2) pa_nil))))) pss_nil)
                        (pss_cons (ps_if (pt_cmpR op_eq (pv 0) pe_str (nomark _)) (pss_one (ps_ret (MyC.pe_mkP r20.ex.oex r20.ex.init r20.ex.tI r20.ok (hr.mono (by decide)) r20.bn pass0 (by rfl) r20.g (pa_cons (pv 1) (pa_cons (pv 2) pa_nil))))) pss_nil)
                         (pss_one (ps_ret (pe_ifExp (pt_cmpR op_eq (pv 0) pe_str (nomark _)) (MyC.pe_mkP r21.ex.oex r21.ex.init r21.ex.tI r21.ok (hr.mono (by decide)) r21.bn pass0 (by rfl) r21.g (pa_cons (pv 1) (pa_cons (pv 2) pa_nil))) (MyC.pe_mkN fb q18 R.g18 R.k18 (by rfl))))))))))))))))))))))))), ?_⟩
    have hj22 : j < 22 := (List.getElem?_eq_some_iff.mp hj).1
    match j, hj22, hj, k with
    | 0, _, hj, k =>
      cases Option.some.inj hj
      refine ⟨_, rfl, rfl, _, rfl, ifd (fun _ => ?_) fun h => absurd (by decide +kernel) h⟩
      exact ⟨_, rfl, (show 1 ≤ 1000 by decide), fun a ha => mk1 sx (fun a H' s h e => k a H' s h e) a ha⟩
    | 1, _, hj, k =>
      cases Option.some.inj hj
      refine ⟨_, rfl, rfl, _, rfl, ifd (fun h => absurd h (by decide +kernel)) fun _ => ?_⟩
      refine ⟨_, rfl, rfl, _, rfl, ifd (fun _ => ?_) fun h => absurd (by decide +kernel) h⟩
      exact ⟨_, rfl, (show 1 ≤ 1000 by decide), fun a ha => mk1 sx (fun a H' s h e => k a H' s h e) a ha⟩
    | 2, _, hj, k =>
      cases Option.some.inj hj
      refine ⟨_, rfl, rfl, _, rfl, ifd (fun h => absurd h (by decide +kernel)) fun _ => ?_⟩
      refine ⟨_, rfl, rfl, _, rfl, ifd (fun h => absurd h (by decide +kernel)) fun _ => ?_⟩
      refine ⟨_, rfl, rfl, _, rfl, ifd (fun _ => ?_) fun h => absurd (by decide +kernel) h⟩
      exact ⟨_, rfl, (show 1 ≤ 1000 by decide), fun a ha => mk1 sx (fun a H' s h e => k a H' s h e) a ha⟩
    | 3, _, hj, k =>
      cases Option.some.inj hj
      refine ⟨_, rfl, rfl, _, rfl, ifd (fun h => absurd h (by decide +kernel)) fun _ => ?_⟩
      refine ⟨_, rfl, rfl, _, rfl, ifd (fun h => absurd h (by decide +kernel)) fun _ => ?_⟩
      refine ⟨_, rfl, rfl, _, rfl, ifd (fun h => absurd h (by decide +kernel)) fun _ => ?_⟩
      refine ⟨_, rfl, rfl, _, rfl, ifd (fun _ => ?_) fun h => absurd (by decide +kernel) h⟩
      exact ⟨_, rfl, (show 1 ≤ 1000 by decide), fun a ha => mk1 sx (fun a H' s h e => k a H' s h e) a ha⟩
    | 4, _, hj, k =>
      cases Option.some.inj hj
      refine ⟨_, rfl, rfl, _, rfl, ifd (fun h => absurd h (by decide +kernel)) fun _ => ?_⟩
      refine ⟨_, rfl, rfl, _, rfl, ifd (fun h => absurd h (by decide +kernel)) fun _ => ?_⟩
      refine ⟨_, rfl, rfl, _, rfl, ifd (fun h => absurd h (by decide +kernel)) fun _ => ?_⟩
      refine ⟨_, rfl, rfl, _, rfl, ifd (fun h => absurd h (by decide +kernel)) fun _ => ?_⟩
      refine ⟨_, rfl, rfl, _, rfl, ifd (fun _ => ?_) fun h => absurd (by decide +kernel) h⟩
      exact ⟨_, rfl, (show 1 ≤ 1000 by decide), fun a ha => mk1 sx (fun a H' s h e => k a H' s h e) a ha⟩
    | 5, _, hj, k =>
      cases Option.some.inj hj
      refine ⟨_, rfl, rfl, _, rfl, ifd (fun h => absurd h (by decide +kernel)) fun _ => ?_⟩
      refine ⟨_, rfl, rfl, _, rfl, ifd (fun h => absurd h (by decide +kernel)) fun _ => ?_⟩
      refine ⟨_, rfl, rfl, _, rfl, ifd (fun h => absurd h (by decide +kernel)) fun _ => ?_⟩
      refine ⟨_, rfl, rfl, _, rfl, ifd (fun h => absurd h (by decide +kernel)) fun _ => ?_⟩
      refine ⟨_, rfl, rfl, _, rfl, ifd (fun h => absurd h (by decide +kernel)) fun _ => ?_⟩
      refine ⟨_, rfl, rfl, _, rfl, ifd (fun _ => ?_) fun h => absurd (by decide +kernel) h⟩
      exact ⟨_, rfl, (show 1 ≤ 1000 by decide), fun a ha => mk1 sx (fun a H' s h e => k a H' s h e) a ha⟩
    | 6, _, hj, k =>
      cases Option.some.inj hj
      refine ⟨_, rfl, rfl, _, rfl, ifd (fun h => absurd h (by decide +kernel)) fun _ => ?_⟩
      refine ⟨_, rfl, rfl, _, rfl, ifd (fun h => absurd h (by decide +kernel)) fun _ => ?_⟩
      refine ⟨_, rfl, rfl, _, rfl, ifd (fun h => absurd h (by decide +kernel)) fun _ => ?_⟩
      refine ⟨_, rfl, rfl, _, rfl, ifd (fun h => absurd h (by decide +kernel)) fun _ => ?_⟩
      refine ⟨_, rfl, rfl, _, rfl, ifd (fun h => absurd h (by decide +kernel)) fun _ => ?_⟩
      refine ⟨_, rfl, rfl, _, rfl, ifd (fun h => absurd h (by decide +kernel)) fun _ => ?_⟩
      refine ⟨_, rfl, rfl, _, rfl, ifd (fun _ => ?_) fun h => absurd (by decide +kernel) h⟩
      exact ⟨_, rfl, (show 1 ≤ 1000 by decide), fun a ha => mk1 sx (fun a H' s h e => k a H' s h e) a ha⟩
    | 7, _, hj, k =>
      cases Option.some.inj hj
      refine ⟨_, rfl, rfl, _, rfl, ifd (fun h => absurd h (by decide +kernel)) fun _ => ?_⟩
      refine ⟨_, rfl, rfl, _, rfl, ifd (fun h => absurd h (by decide +kernel)) fun _ => ?_⟩
      refine ⟨_, rfl, rfl, _, rfl, ifd (fun h => absurd h (by decide +kernel)) fun _ => ?_⟩
      refine ⟨_, rfl, rfl, _, rfl, ifd (fun h => absurd h (by decide +kernel)) fun _ => ?_⟩
      refine ⟨_, rfl, rfl, _, rfl, ifd (fun h => absurd h (by decide +kernel)) fun _ => ?_⟩
      refine ⟨_, rfl, rfl, _, rfl, ifd (fun h => absurd h (by decide +kernel)) fun _ => ?_⟩
      refine ⟨_, rfl, rfl, _, rfl, ifd (fun h => absurd h (by decide +kernel)) fun _ => ?_⟩
      refine ⟨_, rfl, rfl, _, rfl, ifd (fun _ => ?_) fun h => absurd (by decide +kernel) h⟩
      exact ⟨_, rfl, (show 1 ≤ 1000 by decide), fun a ha => mk1 sx (fun a H' s h e => k a H' s h e) a ha⟩
    | 8, _, hj, k =>
      cases Option.some.inj hj
      refine ⟨_, rfl, rfl, _, rfl, ifd (fun h => absurd h (by decide +kernel)) fun _ => ?_⟩
      refine ⟨_, rfl, rfl, _, rfl, ifd (fun h => absurd h (by decide +kernel)) fun _ => ?_⟩
      refine ⟨_, rfl, rfl, _, rfl, ifd (fun h => absurd h (by decide +kernel)) fun _ => ?_⟩
      refine ⟨_, rfl, rfl, _, rfl, ifd (fun h => absurd h (by decide +kernel)) fun _ => ?_⟩
      refine ⟨_, rfl, rfl, _, rfl, ifd (fun h => absurd h (by decide +kernel)) fun _ => ?_⟩
      refine ⟨_, rfl, rfl, _, rfl, ifd (fun h => absurd h (by decide +kernel)) fun _ => ?_⟩
      refine ⟨_, rfl, rfl, _, rfl, ifd (fun h => absurd h (by decide +kernel)) fun _ => ?_⟩
      refine ⟨_, rfl, rfl, _, rfl, ifd (fun h => absurd h (by decide +kernel)) fun _ => ?_⟩
      refine ⟨_, rfl, rfl, _, rfl, ifd (fun _ => ?_) fun h => absurd (by decide +kernel) h⟩
      exact ⟨_, rfl, (show 1 ≤ 1000 by decide), fun a ha => mk1 sx (fun a H' s h e => k a H' s h e) a ha⟩
    | 9, _, hj, k =>
      cases Option.some.inj hj
      refine ⟨_, rfl, rfl, _, rfl, ifd (fun h => absurd h (by decide +kernel)) fun _ => ?_⟩
      refine ⟨_, rfl, rfl, _, rfl, ifd (fun h => absurd h (by decide +kernel)) fun _ => ?_⟩
      refine ⟨_, rfl, rfl, _, rfl, ifd (fun h => absurd h (by decide +kernel)) fun _ => ?_⟩
      refine ⟨_, rfl, rfl, _, rfl, ifd (fun h => absurd h (by decide +kernel)) fun _ => ?_⟩
      refine ⟨_, rfl, rfl, _, rfl, ifd (fun h => absurd h (by decide +kernel)) fun _ => ?_⟩
      refine ⟨_, rfl, rfl, _, rfl, ifd (fun h => absurd h (by decide +kernel)) fun _ => ?_⟩
      refine ⟨_, rfl, rfl, _, rfl, ifd (fun h => absurd h (by decide +kernel)) fun _ => ?_⟩
      refine ⟨_, rfl, rfl, _, rfl, ifd (fun h => absurd h (by decide +kernel)) fun _ => ?_⟩
      refine ⟨_, rfl, rfl, _, rfl, ifd (fun h => absurd h (by decide +kernel)) fun _ => ?_⟩
      refine ⟨_, rfl, rfl, _, rfl, ifd (fun _ => ?_) fun h => absurd (by decide +kernel) h⟩
      exact ⟨_, rfl, (show 1 ≤ 1000 by decide), fun a ha => mk1 sx (fun a H' s h e => k a H' s h e) a ha⟩
    | 10, _, hj, k =>
      cases Option.some.inj hj
      refine ⟨_, rfl, rfl, _, rfl, ifd (fun h => absurd h (by decide +kernel)) fun _ => ?_⟩
      refine ⟨_, rfl, rfl, _, rfl, ifd (fun h => absurd h (by decide +kernel)) fun _ => ?_⟩
      refine ⟨_, rfl, rfl, _, rfl, ifd (fun h => absurd h (by decide +kernel)) fun _ => ?_⟩
      refine ⟨_, rfl, rfl, _, rfl, ifd (fun h => absurd h (by decide +kernel)) fun _ => ?_⟩
      refine ⟨_, rfl, rfl, _, rfl, ifd (fun h => absurd h (by decide +kernel)) fun _ => ?_⟩
      refine ⟨_, rfl, rfl, _, rfl, ifd (fun h => absurd h (by decide +kernel)) fun _ => ?_⟩
      refine ⟨_, rfl, rfl, _, rfl, ifd (fun h => absurd h (by decide +kernel)) fun _ => ?_⟩
      refine ⟨_, rfl, rfl, _, rfl, ifd (fun h => absurd h (by decide +kernel)) fun _ => ?_⟩
      refine ⟨_, rfl, rfl, _, rfl, ifd (fun h => absurd h (by decide +kernel)) fun _ => ?_⟩
      refine ⟨_, rfl, rfl, _, rfl, ifd (fun h => absurd h (by decide +kernel)) fun _ => ?_⟩
      refine ⟨_, rfl, rfl, _, rfl, ifd (fun _ => ?_) fun h => absurd (by decide +kernel) h⟩
      exact ⟨_, rfl, (show 1 ≤ 1000 by decide), fun a ha => mk1 sx (fun a H' s h e => k a H' s h e) a ha⟩
    | 11, _, hj, k =>
      cases Option.some.inj hj
      refine ⟨_, rfl, rfl, _, rfl, ifd (fun h => absurd h (by decide +kernel)) fun _ => ?_⟩
      refine ⟨_, rfl, rfl, _, rfl, ifd (fun h => absurd h (by decide +kernel)) fun _ => ?_⟩
      refine ⟨_, rfl, rfl, _, rfl, ifd (fun h => absurd h (by decide +kernel)) fun _ => ?_⟩
      refine ⟨_, rfl, rfl, _, rfl, ifd (fun h => absurd h (by decide +kernel)) fun _ => ?_⟩
      refine ⟨_, rfl, rfl, _, rfl, ifd (fun h => absurd h (by decide +kernel)) fun _ => ?_⟩
      refine ⟨_, rfl, rfl, _, rfl, ifd (fun h => absurd h (by decide +kernel)) fun _ => ?_⟩
      refine ⟨_, rfl, rfl, _, rfl, ifd (fun h => absurd h (by decide +kernel)) fun _ => ?_⟩
      refine ⟨_, rfl, rfl, _, rfl, ifd (fun h => absurd h (by decide +kernel)) fun _ => ?_⟩
      refine ⟨_, rfl, rfl, _, rfl, ifd (fun h => absurd h (by decide +kernel)) fun _ => ?_⟩
      refine ⟨_, rfl, rfl, _, rfl, ifd (fun h => absurd h (by decide +kernel)) fun _ => ?_⟩
      refine ⟨_, rfl, rfl, _, rfl, ifd (fun h => absurd h (by decide +kernel)) fun _ => ?_⟩
      refine ⟨_, rfl, rfl, _, rfl, ifd (fun _ => ?_) fun h => absurd (by decide +kernel) h⟩
      exact ⟨_, rfl, (show 1 ≤ 1000 by decide), fun a ha => mk1 sx (fun a H' s h e => k a H' s h e) a ha⟩
    | 12, _, hj, k =>
      cases Option.some.inj hj
      refine ⟨_, rfl, rfl, _, rfl, ifd (fun h => absurd h (by decide +kernel)) fun _ => ?_⟩
      refine ⟨_, rfl, rfl, _, rfl, ifd (fun h => absurd h (by decide +kernel)) fun _ => ?_⟩
      refine ⟨_, rfl, rfl, _, rfl, ifd (fun h => absurd h (by decide +kernel)) fun _ => ?_⟩
      refine ⟨_, rfl, rfl, _, rfl, ifd (fun h => absurd h (by decide +kernel)) fun _ => ?_⟩
      refine ⟨_, rfl, rfl, _, rfl, ifd (fun h => absurd h (by decide +kernel)) fun _ => ?_⟩
      refine ⟨_, rfl, rfl, _, rfl, ifd (fun h => absurd h (by decide +kernel)) fun _ => ?_⟩
      refine ⟨_, rfl, rfl, _, rfl, ifd (fun h => absurd h (by decide +kernel)) fun _ => ?_⟩
      refine ⟨_, rfl, rfl, _, rfl, ifd (fun h => absurd h (by decide +kernel)) fun _ => ?_⟩
      refine ⟨_, rfl, rfl, _, rfl, ifd (fun h => absurd h (by decide +kernel)) fun _ => ?_⟩
      refine ⟨_, rfl, rfl, _, rfl, ifd (fun h => absurd h (by decide +kernel)) fun _ => ?_⟩
      refine ⟨_, rfl, rfl, _, rfl, ifd (fun h => absurd h (by decide +kernel)) fun _ => ?_⟩
      refine ⟨_, rfl, rfl, _, rfl, ifd (fun h => absurd h (by decide +kernel)) fun _ => ?_⟩
      refine ⟨_, rfl, rfl, _, rfl, ifd (fun _ => ?_) fun h => absurd (by decide +kernel) h⟩
      exact ⟨_, rfl, (show 1 ≤ 1000 by decide), fun a ha => mk1 sx (fun a H' s h e => k a H' s h e) a ha⟩
    | 13, _, hj, k =>
      cases Option.some.inj hj
      refine ⟨_, rfl, rfl, _, rfl, ifd (fun h => absurd h (by decide +kernel)) fun _ => ?_⟩
      refine ⟨_, rfl, rfl, _, rfl, ifd (fun h => absurd h (by decide +kernel)) fun _ => ?_⟩
      refine ⟨_, rfl, rfl, _, rfl, ifd (fun h => absurd h (by decide +kernel)) fun _ => ?_⟩
      refine ⟨_, rfl, rfl, _, rfl, ifd (fun h => absurd h (by decide +kernel)) fun _ => ?_⟩
      refine ⟨_, rfl, rfl, _, rfl, ifd (fun h => absurd h (by decide +kernel)) fun _ => ?_⟩
      refine ⟨_, rfl, rfl, _, rfl, ifd (fun h => absurd h (by decide +kernel)) fun _ => ?_⟩
      refine ⟨_, rfl, rfl, _, rfl, ifd (fun h => absurd h (by decide +kernel)) fun _ => ?_⟩
      refine ⟨_, rfl, rfl, _, rfl, ifd (fun h => absurd h (by decide +kernel)) fun _ => ?_⟩
      refine ⟨_, rfl, rfl, _, rfl, ifd (fun h => absurd h (by decide +kernel)) fun _ => ?_⟩
      refine ⟨_, rfl, rfl, _, rfl, ifd (fun h => absurd h (by decide +kernel)) fun _ => ?_⟩
      refine ⟨_, rfl, rfl, _, rfl, ifd (fun h => absurd h (by decide +kernel)) fun _ => ?_⟩
      refine ⟨_, rfl, rfl, _, rfl, ifd (fun h => absurd h (by decide +kernel)) fun _ => ?_⟩
      refine ⟨_, rfl, rfl, _, rfl, ifd (fun h => absurd h (by decide +kernel)) fun _ => ?_⟩
      refine ⟨_, rfl, rfl, _, rfl, ifd (fun _ => ?_) fun h => absurd (by decide +kernel) h⟩
      exact ⟨_, rfl, _, rfl, (show 2 ≤ 1000 by decide), fun a ha => mk2 sx sy (fun a H' s h e => k a H' s h e) a ha⟩
    | 14, _, hj, k =>
      cases Option.some.inj hj
      refine ⟨_, rfl, rfl, _, rfl, ifd (fun h => absurd h (by decide +kernel)) fun _ => ?_⟩
      refine ⟨_, rfl, rfl, _, rfl, ifd (fun h => absurd h (by decide +kernel)) fun _ => ?_⟩
      refine ⟨_, rfl, rfl, _, rfl, ifd (fun h => absurd h (by decide +kernel)) fun _ => ?_⟩
      refine ⟨_, rfl, rfl, _, rfl, ifd (fun h => absurd h (by decide +kernel)) fun _ => ?_⟩
      refine ⟨_, rfl, rfl, _, rfl, ifd (fun h => absurd h (by decide +kernel)) fun _ => ?_⟩
      refine ⟨_, rfl, rfl, _, rfl, ifd (fun h => absurd h (by decide +kernel)) fun _ => ?_⟩
      refine ⟨_, rfl, rfl, _, rfl, ifd (fun h => absurd h (by decide +kernel)) fun _ => ?_⟩
      refine ⟨_, rfl, rfl, _, rfl, ifd (fun h => absurd h (by decide +kernel)) fun _ => ?_⟩
      refine ⟨_, rfl, rfl, _, rfl, ifd (fun h => absurd h (by decide +kernel)) fun _ => ?_⟩
      refine ⟨_, rfl, rfl, _, rfl, ifd (fun h => absurd h (by decide +kernel)) fun _ => ?_⟩
      refine ⟨_, rfl, rfl, _, rfl, ifd (fun h => absurd h (by decide +kernel)) fun _ => ?_⟩
      refine ⟨_, rfl, rfl, _, rfl, ifd (fun h => absurd h (by decide +kernel)) fun _ => ?_⟩
      refine ⟨_, rfl, rfl, _, rfl, ifd (fun h => absurd h (by decide +kernel)) fun _ => ?_⟩
      refine ⟨_, rfl, rfl, _, rfl, ifd (fun h => absurd h (by decide +kernel)) fun _ => ?_⟩
      refine ⟨_, rfl, rfl, _, rfl, ifd (fun _ => ?_) fun h => absurd (by decide +kernel) h⟩
      exact ⟨_, rfl, (show 1 ≤ 1000 by decide), fun a ha => mk1 sx (fun a H' s h e => k a H' s h e) a ha⟩
    | 15, _, hj, k =>
      cases Option.some.inj hj
      refine ⟨_, rfl, rfl, _, rfl, ifd (fun h => absurd h (by decide +kernel)) fun _ => ?_⟩
      refine ⟨_, rfl, rfl, _, rfl, ifd (fun h => absurd h (by decide +kernel)) fun _ => ?_⟩
      refine ⟨_, rfl, rfl, _, rfl, ifd (fun h => absurd h (by decide +kernel)) fun _ => ?_⟩
      refine ⟨_, rfl, rfl, _, rfl, ifd (fun h => absurd h (by decide +kernel)) fun _ => ?_⟩
      refine ⟨_, rfl, rfl, _, rfl, ifd (fun h => absurd h (by decide +kernel)) fun _ => ?_⟩
      refine ⟨_, rfl, rfl, _, rfl, ifd (fun h => absurd h (by decide +kernel)) fun _ => ?_⟩
      refine ⟨_, rfl, rfl, _, rfl, ifd (fun h => absurd h (by decide +kernel)) fun _ => ?_⟩
      refine ⟨_, rfl, rfl, _, rfl, ifd (fun h => absurd h (by decide +kernel)) fun _ => ?_⟩
      refine ⟨_, rfl, rfl, _, rfl, ifd (fun h => absurd h (by decide +kernel)) fun _ => ?_⟩
      refine ⟨_, rfl, rfl, _, rfl, ifd (fun h => absurd h (by decide +kernel)) fun _ => ?_⟩
      refine ⟨_, rfl, rfl, _, rfl, ifd (fun h => absurd h (by decide +kernel)) fun _ => ?_⟩
      refine ⟨_, rfl, rfl, _, rfl, ifd (fun h => absurd h (by decide +kernel)) fun _ => ?_⟩
      refine ⟨_, rfl, rfl, _, rfl, ifd (fun h => absurd h (by decide +kernel)) fun _ => ?_⟩
      refine ⟨_, rfl, rfl, _, rfl, ifd (fun h => absurd h (by decide +kernel)) fun _ => ?_⟩
      refine ⟨_, rfl, rfl, _, rfl, ifd (fun h => absurd h (by decide +kernel)) fun _ => ?_⟩
      refine ⟨_, rfl, rfl, _, rfl, ifd (fun _ => ?_) fun h => absurd (by decide +kernel) h⟩
      exact ⟨_, rfl, (show 1 ≤ 1000 by decide), fun a ha => mk1 sx (fun a H' s h e => k a H' s h e) a ha⟩
    | 16, _, hj, k =>
      cases Option.some.inj hj
      refine ⟨_, rfl, rfl, _, rfl, ifd (fun h => absurd h (by decide +kernel)) fun _ => ?_⟩
      refine ⟨_, rfl, rfl, _, rfl, ifd (fun h => absurd h (by decide +kernel)) fun _ => ?_⟩
      refine ⟨_, rfl, rfl, _, rfl, ifd (fun h => absurd h (by decide +kernel)) fun _ => ?_⟩
      refine ⟨_, rfl, rfl, _, rfl, ifd (fun h => absurd h (by decide +kernel)) fun _ => ?_⟩
      refine ⟨_, rfl, rfl, _, rfl, ifd (fun h => absurd h (by decide +kernel)) fun _ => ?_⟩
      refine ⟨_, rfl, rfl, _, rfl, ifd (fun h => absurd h (by decide +kernel)) fun _ => ?_⟩
      refine ⟨_, rfl, rfl, _, rfl, ifd (fun h => absurd h (by decide +kernel)) fun _ => ?_⟩
      refine ⟨_, rfl, rfl, _, rfl, ifd (fun h => absurd h (by decide +kernel)) fun _ => ?_⟩
      refine ⟨_, rfl, rfl, _, rfl, ifd (fun h => absurd h (by decide +kernel)) fun _ => ?_⟩
      refine ⟨_, rfl, rfl, _, rfl, ifd (fun h => absurd h (by decide +kernel)) fun _ => ?_⟩
      refine ⟨_, rfl, rfl, _, rfl, ifd (fun h => absurd h (by decide +kernel)) fun _ => ?_⟩
      refine ⟨_, rfl, rfl, _, rfl, ifd (fun h => absurd h (by decide +kernel)) fun _ => ?_⟩
      refine ⟨_, rfl, rfl, _, rfl, ifd (fun h => absurd h (by decide +kernel)) fun _ => ?_⟩
      refine ⟨_, rfl, rfl, _, rfl, ifd (fun h => absurd h (by decide +kernel)) fun _ => ?_⟩
      refine ⟨_, rfl, rfl, _, rfl, ifd (fun h => absurd h (by decide +kernel)) fun _ => ?_⟩
      refine ⟨_, rfl, rfl, _, rfl, ifd (fun h => absurd h (by decide +kernel)) fun _ => ?_⟩
      refine ⟨_, rfl, rfl, _, rfl, ifd (fun _ => ?_) fun h => absurd (by decide +kernel) h⟩
      exact ⟨_, rfl, (show 1 ≤ 1000 by decide), fun a ha => mk1 sx (fun a H' s h e => k a H' s h e) a ha⟩
    | 17, _, hj, k =>
      cases Option.some.inj hj
      refine ⟨_, rfl, rfl, _, rfl, ifd (fun h => absurd h (by decide +kernel)) fun _ => ?_⟩
      refine ⟨_, rfl, rfl, _, rfl, ifd (fun h => absurd h (by decide +kernel)) fun _ => ?_⟩
      refine ⟨_, rfl, rfl, _, rfl, ifd (fun h => absurd h (by decide +kernel)) fun _ => ?_⟩
      refine ⟨_, rfl, rfl, _, rfl, ifd (fun h => absurd h (by decide +kernel)) fun _ => ?_⟩
      refine ⟨_, rfl, rfl, _, rfl, ifd (fun h => absurd h (by decide +kernel)) fun _ => ?_⟩
      refine ⟨_, rfl, rfl, _, rfl, ifd (fun h => absurd h (by decide +kernel)) fun _ => ?_⟩
      refine ⟨_, rfl, rfl, _, rfl, ifd (fun h => absurd h (by decide +kernel)) fun _ => ?_⟩
      refine ⟨_, rfl, rfl, _, rfl, ifd (fun h => absurd h (by decide +kernel)) fun _ => ?_⟩
      refine ⟨_, rfl, rfl, _, rfl, ifd (fun h => absurd h (by decide +kernel)) fun _ => ?_⟩
      refine ⟨_, rfl, rfl, _, rfl, ifd (fun h => absurd h (by decide +kernel)) fun _ => ?_⟩
      refine ⟨_, rfl, rfl, _, rfl, ifd (fun h => absurd h (by decide +kernel)) fun _ => ?_⟩
      refine ⟨_, rfl, rfl, _, rfl, ifd (fun h => absurd h (by decide +kernel)) fun _ => ?_⟩
      refine ⟨_, rfl, rfl, _, rfl, ifd (fun h => absurd h (by decide +kernel)) fun _ => ?_⟩
      refine ⟨_, rfl, rfl, _, rfl, ifd (fun h => absurd h (by decide +kernel)) fun _ => ?_⟩
      refine ⟨_, rfl, rfl, _, rfl, ifd (fun h => absurd h (by decide +kernel)) fun _ => ?_⟩
      refine ⟨_, rfl, rfl, _, rfl, ifd (fun h => absurd h (by decide +kernel)) fun _ => ?_⟩
      refine ⟨_, rfl, rfl, _, rfl, ifd (fun h => absurd h (by decide +kernel)) fun _ => ?_⟩
      refine ⟨_, rfl, rfl, _, rfl, ifd (fun _ => ?_) fun h => absurd (by decide +kernel) h⟩
      exact ⟨_, rfl, (show 1 ≤ 1000 by decide), fun a ha => mk1 sx (fun a H' s h e => k a H' s h e) a ha⟩
    | 18, _, hj, k =>
      cases Option.some.inj hj
      refine ⟨_, rfl, rfl, _, rfl, ifd (fun h => absurd h (by decide +kernel)) fun _ => ?_⟩
      refine ⟨_, rfl, rfl, _, rfl, ifd (fun h => absurd h (by decide +kernel)) fun _ => ?_⟩
      refine ⟨_, rfl, rfl, _, rfl, ifd (fun h => absurd h (by decide +kernel)) fun _ => ?_⟩
      refine ⟨_, rfl, rfl, _, rfl, ifd (fun h => absurd h (by decide +kernel)) fun _ => ?_⟩
      refine ⟨_, rfl, rfl, _, rfl, ifd (fun h => absurd h (by decide +kernel)) fun _ => ?_⟩
      refine ⟨_, rfl, rfl, _, rfl, ifd (fun h => absurd h (by decide +kernel)) fun _ => ?_⟩
      refine ⟨_, rfl, rfl, _, rfl, ifd (fun h => absurd h (by decide +kernel)) fun _ => ?_⟩
      refine ⟨_, rfl, rfl, _, rfl, ifd (fun h => absurd h (by decide +kernel)) fun _ => ?_⟩
      refine ⟨_, rfl, rfl, _, rfl, ifd (fun h => absurd h (by decide +kernel)) fun _ => ?_⟩
      refine ⟨_, rfl, rfl, _, rfl, ifd (fun h => absurd h (by decide +kernel)) fun _ => ?_⟩
      refine ⟨_, rfl, rfl, _, rfl, ifd (fun h => absurd h (by decide +kernel)) fun _ => ?_⟩
      refine ⟨_, rfl, rfl, _, rfl, ifd (fun h => absurd h (by decide +kernel)) fun _ => ?_⟩
      refine ⟨_, rfl, rfl, _, rfl, ifd (fun h => absurd h (by decide +kernel)) fun _ => ?_⟩
      refine ⟨_, rfl, rfl, _, rfl, ifd (fun h => absurd h (by decide +kernel)) fun _ => ?_⟩
      refine ⟨_, rfl, rfl, _, rfl, ifd (fun h => absurd h (by decide +kernel)) fun _ => ?_⟩
      refine ⟨_, rfl, rfl, _, rfl, ifd (fun h => absurd h (by decide +kernel)) fun _ => ?_⟩
      refine ⟨_, rfl, rfl, _, rfl, ifd (fun h => absurd h (by decide +kernel)) fun _ => ?_⟩
      refine ⟨_, rfl, rfl, _, rfl, ifd (fun h => absurd h (by decide +kernel)) fun _ => ?_⟩
      refine ⟨_, rfl, rfl, _, rfl, ifd (fun h => absurd h (by decide +kernel)) fun _ => ?_⟩
      refine ⟨_, rfl, rfl, _, rfl, ifd (fun h => absurd h (by decide +kernel)) fun _ => ?_⟩
      refine ⟨_, rfl, rfl, _, rfl, ifd (fun h => absurd h (by decide +kernel)) fun _ => ?_⟩
      exact fun a ha => k a _ (same_upd ha) ha (.inr ⟨rfl, upd_same⟩)
    | 19, _, hj, k =>
      cases Option.some.inj hj
      refine ⟨_, rfl, rfl, _, rfl, ifd (fun h => absurd h (by decide +kernel)) fun _ => ?_⟩
      refine ⟨_, rfl, rfl, _, rfl, ifd (fun h => absurd h (by decide +kernel)) fun _ => ?_⟩
      refine ⟨_, rfl, rfl, _, rfl, ifd (fun h => absurd h (by decide +kernel)) fun _ => ?_⟩
      refine ⟨_, rfl, rfl, _, rfl, ifd (fun h => absurd h (by decide +kernel)) fun _ => ?_⟩
      refine ⟨_, rfl, rfl, _, rfl, ifd (fun h => absurd h (by decide +kernel)) fun _ => ?_⟩
      refine ⟨_, rfl, rfl, _, rfl, ifd (fun h => absurd h (by decide +kernel)) fun _ => ?_⟩
      refine ⟨_, rfl, rfl, _, rfl, ifd (fun h => absurd h (by decide +kernel)) fun _ => ?_⟩
      refine ⟨_, rfl, rfl, _, rfl, ifd (fun h => absurd h (by decide +kernel)) fun _ => ?_⟩
      refine ⟨_, rfl, rfl, _, rfl, ifd (fun h => absurd h (by decide +kernel)) fun _ => ?_⟩
      refine ⟨_, rfl, rfl, _, rfl, ifd (fun h => absurd h (by decide +kernel)) fun _ => ?_⟩
      refine ⟨_, rfl, rfl, _, rfl, ifd (fun h => absurd h (by decide +kernel)) fun _ => ?_⟩
      refine ⟨_, rfl, rfl, _, rfl, ifd (fun h => absurd h (by decide +kernel)) fun _ => ?_⟩
      refine ⟨_, rfl, rfl, _, rfl, ifd (fun h => absurd h (by decide +kernel)) fun _ => ?_⟩
      refine ⟨_, rfl, rfl, _, rfl, ifd (fun h => absurd h (by decide +kernel)) fun _ => ?_⟩
      refine ⟨_, rfl, rfl, _, rfl, ifd (fun h => absurd h (by decide +kernel)) fun _ => ?_⟩
      refine ⟨_, rfl, rfl, _, rfl, ifd (fun h => absurd h (by decide +kernel)) fun _ => ?_⟩
      refine ⟨_, rfl, rfl, _, rfl, ifd (fun h => absurd h (by decide +kernel)) fun _ => ?_⟩
      refine ⟨_, rfl, rfl, _, rfl, ifd (fun h => absurd h (by decide +kernel)) fun _ => ?_⟩
      refine ⟨_, rfl, rfl, _, rfl, ifd (fun _ => ?_) fun h => absurd (by decide +kernel) h⟩
      exact ⟨_, rfl, _, rfl, (show 2 ≤ 1000 by decide), fun a ha => mk2 sx sy (fun a H' s h e => k a H' s h e) a ha⟩
    | 20, _, hj, k =>
      cases Option.some.inj hj
      refine ⟨_, rfl, rfl, _, rfl, ifd (fun h => absurd h (by decide +kernel)) fun _ => ?_⟩
      refine ⟨_, rfl, rfl, _, rfl, ifd (fun h => absurd h (by decide +kernel)) fun _ => ?_⟩
      refine ⟨_, rfl, rfl, _, rfl, ifd (fun h => absurd h (by decide +kernel)) fun _ => ?_⟩
      refine ⟨_, rfl, rfl, _, rfl, ifd (fun h => absurd h (by decide +kernel)) fun _ => ?_⟩
      refine ⟨_, rfl, rfl, _, rfl, ifd (fun h => absurd h (by decide +kernel)) fun _ => ?_⟩
      refine ⟨_, rfl, rfl, _, rfl, ifd (fun h => absurd h (by decide +kernel)) fun _ => ?_⟩
      refine ⟨_, rfl, rfl, _, rfl, ifd (fun h => absurd h (by decide +kernel)) fun _ => ?_⟩
      refine ⟨_, rfl, rfl, _, rfl, ifd (fun h => absurd h (by decide +kernel)) fun _ => ?_⟩
      refine ⟨_, rfl, rfl, _, rfl, ifd (fun h => absurd h (by decide +kernel)) fun _ => ?_⟩
      refine ⟨_, rfl, rfl, _, rfl, ifd (fun h => absurd h (by decide +kernel)) fun _ => ?_⟩
      refine ⟨_, rfl, rfl, _, rfl, ifd (fun h => absurd h (by decide +kernel)) fun _ => ?_⟩
      refine ⟨_, rfl, rfl, _, rfl, ifd (fun h => absurd h (by decide +kernel)) fun _ => ?_⟩
      refine ⟨_, rfl, rfl, _, rfl, ifd (fun h => absurd h (by decide +kernel)) fun _ => ?_⟩
      refine ⟨_, rfl, rfl, _, rfl, ifd (fun h => absurd h (by decide +kernel)) fun _ => ?_⟩
      refine ⟨_, rfl, rfl, _, rfl, ifd (fun h => absurd h (by decide +kernel)) fun _ => ?_⟩
      refine ⟨_, rfl, rfl, _, rfl, ifd (fun h => absurd h (by decide +kernel)) fun _ => ?_⟩
      refine ⟨_, rfl, rfl, _, rfl, ifd (fun h => absurd h (by decide +kernel)) fun _ => ?_⟩
      refine ⟨_, rfl, rfl, _, rfl, ifd (fun h => absurd h (by decide +kernel)) fun _ => ?_⟩
      refine ⟨_, rfl, rfl, _, rfl, ifd (fun h => absurd h (by decide +kernel)) fun _ => ?_⟩
      refine ⟨_, rfl, rfl, _, rfl, ifd (fun _ => ?_) fun h => absurd (by decide +kernel) h⟩
      exact ⟨_, rfl, _, rfl, (show 2 ≤ 1000 by decide), fun a ha => mk2 sx sy (fun a H' s h e => k a H' s h e) a ha⟩
    | 21, _, hj, k =>
      cases Option.some.inj hj
      refine ⟨_, rfl, rfl, _, rfl, ifd (fun h => absurd h (by decide +kernel)) fun _ => ?_⟩
      refine ⟨_, rfl, rfl, _, rfl, ifd (fun h => absurd h (by decide +kernel)) fun _ => ?_⟩
      refine ⟨_, rfl, rfl, _, rfl, ifd (fun h => absurd h (by decide +kernel)) fun _ => ?_⟩
      refine ⟨_, rfl, rfl, _, rfl, ifd (fun h => absurd h (by decide +kernel)) fun _ => ?_⟩
      refine ⟨_, rfl, rfl, _, rfl, ifd (fun h => absurd h (by decide +kernel)) fun _ => ?_⟩
      refine ⟨_, rfl, rfl, _, rfl, ifd (fun h => absurd h (by decide +kernel)) fun _ => ?_⟩
      refine ⟨_, rfl, rfl, _, rfl, ifd (fun h => absurd h (by decide +kernel)) fun _ => ?_⟩
      refine ⟨_, rfl, rfl, _, rfl, ifd (fun h => absurd h (by decide +kernel)) fun _ => ?_⟩
      refine ⟨_, rfl, rfl, _, rfl, ifd (fun h => absurd h (by decide +kernel)) fun _ => ?_⟩
      refine ⟨_, rfl, rfl, _, rfl, ifd (fun h => absurd h (by decide +kernel)) fun _ => ?_⟩
      refine ⟨_, rfl, rfl, _, rfl, ifd (fun h => absurd h (by decide +kernel)) fun _ => ?_⟩
      refine ⟨_, rfl, rfl, _, rfl, ifd (fun h => absurd h (by decide +kernel)) fun _ => ?_⟩
      refine ⟨_, rfl, rfl, _, rfl, ifd (fun h => absurd h (by decide +kernel)) fun _ => ?_⟩
      refine ⟨_, rfl, rfl, _, rfl, ifd (fun h => absurd h (by decide +kernel)) fun _ => ?_⟩
      refine ⟨_, rfl, rfl, _, rfl, ifd (fun h => absurd h (by decide +kernel)) fun _ => ?_⟩
      refine ⟨_, rfl, rfl, _, rfl, ifd (fun h => absurd h (by decide +kernel)) fun _ => ?_⟩
      refine ⟨_, rfl, rfl, _, rfl, ifd (fun h => absurd h (by decide +kernel)) fun _ => ?_⟩
      refine ⟨_, rfl, rfl, _, rfl, ifd (fun h => absurd h (by decide +kernel)) fun _ => ?_⟩
      refine ⟨_, rfl, rfl, _, rfl, ifd (fun h => absurd h (by decide +kernel)) fun _ => ?_⟩
      refine ⟨_, rfl, rfl, _, rfl, ifd (fun h => absurd h (by decide +kernel)) fun _ => ?_⟩
      refine ⟨_, rfl, rfl, _, rfl, ifd (fun _ => ?_) fun h => absurd (by decide +kernel) h⟩
      exact ⟨_, rfl, _, rfl, (show 2 ≤ 1000 by decide), fun a ha => mk2 sx sy (fun a H' s h e => k a H' s h e) a ha⟩
end
end K00
set_option Elab.async false
set_option linter.all false
set_option maxRecDepth 100000
set_option maxHeartbeats 2000000
namespace K00
open PySem PySem.Spec PyProof.Rows L2 My
section
variable {P : Program} {w : World} {K : PySem.W.Frag} {mg : Str → Option Value} {base : Heap} {cs : Nat → Addr}
theorem ok_byname {f : Addr} {fd : FuncData} (F : Fun K "_law_by_name" "_law_by_name" sByN f fd) (R : Errs P w K mg base cs) : FnOk P w K mg base CX0 4 f fd byN (spBy cs) := by
  refine F.ok scByN (fun vs H Q E h => ?_) (fun cdv A outer s H vs Q E hr h => ?_)
  · obtain ⟨j, nm, x, y, rfl, _⟩ := h
    rfl
  · obtain ⟨j, nm, x, y, rfl, hj, sx, sy, k⟩ := h
    obtain ⟨f0, d0, r0, g0, b0⟩ := R.e0
    obtain ⟨f1, d1, r1, g1, b1⟩ := R.e1
    obtain ⟨f2, d2, r2, g2, b2⟩ := R.e2
    obtain ⟨f3, d3, r3, g3, b3⟩ := R.e3
    obtain ⟨f4, d4, r4, g4, b4⟩ := R.e4
    obtain ⟨f5, d5, r5, g5, b5⟩ := R.e5
    obtain ⟨f6, d6, r6, g6, b6⟩ := R.e6
    obtain ⟨f7, d7, r7, g7, b7⟩ := R.e7
    obtain ⟨f8, d8, r8, g8, b8⟩ := R.e8
    obtain ⟨f9, d9, r9, g9, b9⟩ := R.e9
    obtain ⟨f10, d10, r10, g10, b10⟩ := R.e10
    obtain ⟨f11, d11, r11, g11, b11⟩ := R.e11
    obtain ⟨f12, d12, r12, g12, b12⟩ := R.e12
    obtain ⟨f13, d13, r13, g13, b13⟩ := R.e13
    obtain ⟨f14, d14, r14, g14, b14⟩ := R.e14
    obtain ⟨f15, d15, r15, g15, b15⟩ := R.e15
    obtain ⟨f16, d16, r16, g16, b16⟩ := R.e16
    obtain ⟨f17, d17, r17, g17, b17⟩ := R.e17
    obtain ⟨f19, d19, r19, g19, b19⟩ := R.e19
    obtain ⟨f20, d20, r20, g20, b20⟩ := R.e20
    obtain ⟨f21, d21, r21, g21, b21⟩ := R.e21
    obtain ⟨bmB, ini, fb, q18⟩ := R.bm
    refine ⟨_, (pss_cons (ps_if (pt_cmpR op_eq (pv 0) pe_str (nomark _)) (pss_one (ps_ret (MyC.pe_mkK r0.ex.oex r0.ex.init r0.ex.tI r0.ok (hr.mono (by decide)) b0 pass0 (by rfl) r0.g (pk_cons (pv 1) pk_nil)))) pss_nil)
      (pss_cons (ps_if (pt_cmpR op_eq (pv 0) pe_str (nomark _)) (pss_one (ps_ret (MyC.pe_mkK r1.ex.oex r1.ex.init r1.ex.tI r1.ok (hr.mono (by decide)) b1 pass0 (by rfl) r1.g (pk_cons (pv 1) pk_nil)))) pss_nil)
       (pss_cons (ps_if (pt_cmpR op_eq (pv 0) pe_str (nomark _)) (pss_one (ps_ret (MyC.pe_mkK r2.ex.oex r2.ex.init r2.ex.tI r2.ok (hr.mono (by decide)) b2 pass0 (by rfl) r2.g (pk_cons (pv 1) pk_nil)))) pss_nil)
        (pss_cons (ps_if (pt_cmpR op_eq (pv 0) pe_str (nomark _)) (pss_one (ps_ret (MyC.pe_mkK r3.ex.oex r3.ex.init r3.ex.tI r3.ok (hr.mono (by decide)) b3 pass0 (by rfl) r3.g (pk_cons (pv 1) pk_nil)))) pss_nil)
         (pss_cons (ps_if (pt_cmpR op_eq (pv 0) pe_str (nomark _)) (pss_one (ps_ret (MyC.pe_mkK r4.ex.oex r4.ex.init r4.ex.tI r4.ok (hr.mono (by decide)) b4 pass0 (by rfl) r4.g (pk_cons (pv 1) pk_nil)))) pss_nil)
          (pss_cons (ps_if (pt_cmpR op_eq (pv 0) pe_str (nomark _)) (pss_one (ps_ret (MyC.pe_mkK r5.ex.oex r5.ex.init r5.ex.tI r5.ok (hr.mono (by decide)) b5 pass0 (by rfl) r5.g (pk_cons (pv 1) pk_nil)))) pss_nil)
           (pss_cons (ps_if (pt_cmpR op_eq (pv 0) pe_str (nomark _)) (pss_one (ps_ret (MyC.pe_mkK r6.ex.oex r6.ex.init r6.ex.tI r6.ok (hr.mono (by decide)) b6 pass0 (by rfl) r6.g (pk_cons (pv 1) pk_nil)))) pss_nil)
            (pss_cons (ps_if (pt_cmpR op_eq (pv 0) pe_str (nomark _)) (pss_one (ps_ret (MyC.pe_mkK r7.ex.oex r7.ex.init r7.ex.tI r7.ok (hr.mono (by decide)) b7 pass0 (by rfl) r7.g (pk_cons (pv 1) pk_nil)))) pss_nil)
             (pss_cons (ps_if (pt_cmpR op_eq (pv 0) pe_str (nomark _)) (pss_one (ps_ret (MyC.pe_mkK r8.ex.oex r8.ex.init r8.ex.tI r8.ok (hr.mono (by decide)) b8 pass0 (by rfl) r8.g (pk_cons (pv 1) pk_nil)))) pss_nil)
              (pss_cons (ps_if (pt_cmpR op_eq (pv 0) pe_str (nomark _)) (pss_one (ps_ret (MyC.pe_mkK r9.ex.oex r9.ex.init r9.ex.tI r9.ok (hr.mono (by decide)) b9 pass0 (by rfl) r9.g (pk_cons (pv 1) pk_nil)))) pss_nil)
               (pss_cons (ps_if (pt_cmpR op_eq (pv 0) pe_str (nomark _)) (pss_one (ps_ret (MyC.pe_mkK r10.ex.oex r10.ex.init r10.ex.tI r10.ok (hr.mono (by decide)) b10 pass0 (by rfl) r10.g (pk_cons (pv 1) pk_nil)))) pss_nil)
                (pss_cons (ps_if (pt_cmpR op_eq (pv 0) pe_str (nomark _)) (pss_one (ps_ret (MyC.pe_mkK r11.ex.oex r11.ex.init r11.ex.tI r11.ok (hr.mono (by decide)) b11 pass0 (by rfl) r11.g (pk_cons (pv 1) pk_nil)))) pss_nil)
                 (pss_cons (ps_if (pt_cmpR op_eq (pv 0) pe_str (nomark _)) (pss_one (ps_ret (MyC.pe_mkK r12.ex.oex r12.ex.init r12.ex.tI r12.ok (hr.mono (by decide)) b12 pass0 (by rfl) r12.g (pk_cons (pv 1) pk_nil)))) pss_nil)
                  (pss_cons (ps_if (pt_cmpR op_eq (pv 0) pe_str (nomark _)) (pss_one (ps_ret (MyC.pe_mkK r13.ex.oex r13.ex.init r13.ex.tI r13.ok (hr.mono (by decide)) b13 pass0 (by rfl) r13.g (pk_cons (pv 2) (pk_cons (pv 1) pk_nil))))) pss_nil)
                   (pss_cons (ps_if (pt_cmpR op_eq (pv 0) pe_str (nomark _)) (pss_one (ps_ret (MyC.pe_mkK r14.ex.oex r14.ex.init r14.ex.tI r14.ok (hr.mono (by decide)) b14 pass0 (by rfl) r14.g (pk_cons (pv 1) pk_nil)))) pss_nil)
                    (pss_cons (ps_if (pt_cmpR op_eq (pv 0) pe_str (nomark _)) (pss_one (ps_ret (MyC.pe_mkK r15.ex.oex r15.ex.init r15.ex.tI r15.ok (hr.mono (by decide)) b15 pass0 (by rfl) r15.g (pk_cons (pv 1) pk_nil)))) pss_nil)
                     (pss_cons (ps_if (pt_cmpR op_eq (pv 0) pe_str (nomark _)) (pss_one (ps_ret (MyC.pe_mkK r16.ex.oex r16.ex.init r16.ex.tI r16.ok (hr.mono (by decide)) b16 pass0 (by rfl) r16.g (pk_cons (pv 1) pk_nil)))) pss_nil)
                      (pss_cons (ps_if (pt_cmpR op_eq (pv 0) pe_str (nomark _)) (pss_one (ps_ret (MyC.pe_mkK r17.ex.oex r17.ex.init r17.ex.tI r17.ok (hr.mono (by decide)) b17 pass0 (by rfl) r17.g (pk_cons (pv 1) pk_nil)))) pss_nil)
                       (pss_cons (ps_if (pt_cmpR op_eq (pv 0) pe_str (nomark _)) (pss_one (ps_ret (MyC.pe_mkK r19.ex.oex r19.ex.init r19.ex.tI r19.ok (hr.mono (by decide)) b19 pass0 (by rfl) r19.g (pk_cons (pv 2) (pk_cons (pv 1) pk_nil))))) pss_nil)
                        (pss_cons (ps_if (pt_cmpR op_eq (pv 0) pe_str (nomark _)) (pss_one (ps_ret (MyC.pe_mkK r20.ex.oex r20.ex.init r20.ex.tI r20.ok (hr.mono (by decide)) b20 pass0 (by rfl) r20.g (pk_cons (pv 2) (pk_cons (pv 1) pk_nil))))) pss_nil)
                         (pss_one (ps_ret (pe_ifExp (pt_cmpR op_eq (pv 0) pe_str (nomark _)) (MyC.pe_mkK r21.ex.oex r21.ex.init r21.ex.tI r21.ok (hr.mono (by decide)) b21 pass0 (by rfl) r21.g (pk_cons (pv 2) (pk_cons (pv 1) pk_nil))) (MyC.pe_mkN fb q18 R.g18 R.k18 (by rfl))))))))))))))))))))))))), ?_⟩
    have hj22 : j < 22 := (List.getElem?_eq_some_iff.mp hj).1
    match j, hj22, hj, k with
    | 0, _, hj, k =>
      cases Option.some.inj hj
      refine ⟨_, rfl, rfl, _, rfl, ifd (fun _ => ?_) fun h => absurd (by decide +kernel) h⟩
      exact ⟨_, rfl, rfl, fun a ha => mk1 sx (fun a H' s h e => k a H' s h e) a ha⟩
    | 1, _, hj, k =>
      cases Option.some.inj hj
      refine ⟨_, rfl, rfl, _, rfl, ifd (fun h => absurd h (by decide +kernel)) fun _ => ?_⟩
      refine ⟨_, rfl, rfl, _, rfl, ifd (fun _ => ?_) fun h => absurd (by decide +kernel) h⟩
      exact ⟨_, rfl, rfl, fun a ha => mk1 sx (fun a H' s h e => k a H' s h e) a ha⟩
    | 2, _, hj, k =>
      cases Option.some.inj hj
      refine ⟨_, rfl, rfl, _, rfl, ifd (fun h => absurd h (by decide +kernel)) fun _ => ?_⟩
      refine ⟨_, rfl, rfl, _, rfl, ifd (fun h => absurd h (by decide +kernel)) fun _ => ?_⟩
      refine ⟨_, rfl, rfl, _, rfl, ifd (fun _ => ?_) fun h => absurd (by decide +kernel) h⟩
      exact ⟨_, rfl, rfl, fun a ha => mk1 sx (fun a H' s h e => k a H' s h e) a ha⟩
    | 3, _, hj, k =>
      cases Option.some.inj hj
      refine ⟨_, rfl, rfl, _, rfl, ifd (fun h => absurd h (by decide +kernel)) fun _ => ?_⟩
      refine ⟨_, rfl, rfl, _, rfl, ifd (fun h => absurd h (by decide +kernel)) fun _ => ?_⟩
      refine ⟨_, rfl, rfl, _, rfl, ifd (fun h => absurd h (by decide +kernel)) fun _ => ?_⟩
      refine ⟨_, rfl, rfl, _, rfl, ifd (fun _ => ?_) fun h => absurd (by decide +kernel) h⟩
      exact ⟨_, rfl, rfl, fun a ha => mk1 sx (fun a H' s h e => k a H' s h e) a ha⟩
    | 4, _, hj, k =>
      cases Option.some.inj hj
      refine ⟨_, rfl, rfl, _, rfl, ifd (fun h => absurd h (by decide +kernel)) fun _ => ?_⟩
      refine ⟨_, rfl, rfl, _, rfl, ifd (fun h => absurd h (by decide +kernel)) fun _ => ?_⟩
      refine ⟨_, rfl, rfl, _, rfl, ifd (fun h => absurd h (by decide +kernel)) fun _ => ?_⟩
      refine ⟨_, rfl, rfl, _, rfl, ifd (fun h => absurd h (by decide +kernel)) fun _ => ?_⟩
      refine ⟨_, rfl, rfl, _, rfl, ifd (fun _ => ?_) fun h => absurd (by decide +kernel) h⟩
      exact ⟨_, rfl, rfl, fun a ha => mk1 sx (fun a H' s h e => k a H' s h e) a ha⟩
    | 5, _, hj, k =>
      cases Option.some.inj hj
      refine ⟨_, rfl, rfl, _, rfl, ifd (fun h => absurd h (by decide +kernel)) fun _ => ?_⟩
      refine ⟨_, rfl, rfl, _, rfl, ifd (fun h => absurd h (by decide +kernel)) fun _ => ?_⟩
      refine ⟨_, rfl, rfl, _, rfl, ifd (fun h => absurd h (by decide +kernel)) fun _ => ?_⟩
      refine ⟨_, rfl, rfl, _, rfl, ifd (fun h => absurd h (by decide +kernel)) fun _ => ?_⟩
      refine ⟨_, rfl, rfl, _, rfl, ifd (fun h => absurd h (by decide +kernel)) fun _ => ?_⟩
      refine ⟨_, rfl, rfl, _, rfl, ifd (fun _ => ?_) fun h => absurd (by decide +kernel) h⟩
      exact ⟨_, rfl, rfl, fun a ha => mk1 sx (fun a H' s h e => k a H' s h e) a ha⟩
    | 6, _, hj, k =>
      cases Option.some.inj hj
      refine ⟨_, rfl, rfl, _, rfl, ifd (fun h => absurd h (by decide +kernel)) fun _ => ?_⟩
      refine ⟨_, rfl, rfl, _, rfl, ifd (fun h => absurd h (by decide +kernel)) fun _ => ?_⟩
      refine ⟨_, rfl, rfl, _, rfl, ifd (fun h => absurd h (by decide +kernel)) fun _ => ?_⟩
      refine ⟨_, rfl, rfl, _, rfl, ifd (fun h => absurd h (by decide +kernel)) fun _ => ?_⟩
      refine ⟨_, rfl, rfl, _, rfl, ifd (fun h => absurd h (by decide +kernel)) fun _ => ?_⟩
      refine ⟨_, rfl, rfl, _, rfl, ifd (fun h => absurd h (by decide +kernel)) fun _ => ?_⟩
      refine ⟨_, rfl, rfl, _, rfl, ifd (fun _ => ?_) fun h => absurd (by decide +kernel) h⟩
      exact ⟨_, rfl, rfl, fun a ha => mk1 sx (fun a H' s h e => k a H' s h e) a ha⟩
    | 7, _, hj, k =>
      cases Option.some.inj hj
      refine ⟨_, rfl, rfl, _, rfl, ifd (fun h => absurd h (by decide +kernel)) fun _ => ?_⟩
      refine ⟨_, rfl, rfl, _, rfl, ifd (fun h => absurd h (by decide +kernel)) fun _ => ?_⟩
      refine ⟨_, rfl, rfl, _, rfl, ifd (fun h => absurd h (by decide +kernel)) fun _ => ?_⟩
      refine ⟨_, rfl, rfl, _, rfl, ifd (fun h => absurd h (by decide +kernel)) fun _ => ?_⟩
      refine ⟨_, rfl, rfl, _, rfl, ifd (fun h => absurd h (by decide +kernel)) fun _ => ?_⟩
      refine ⟨_, rfl, rfl, _, rfl, ifd (fun h => absurd h (by decide +kernel)) fun _ => ?_⟩
      refine ⟨_, rfl, rfl, _, rfl, ifd (fun h => absurd h (by decide +kernel)) fun _ => ?_⟩
      refine ⟨_, rfl, rfl, _, rfl, ifd (fun _ => ?_) fun h => absurd (by decide +kernel) h⟩
      exact ⟨_, rfl, rfl, fun a ha => mk1 sx (fun a H' s h e => k a H' s h e) a ha⟩
    | 8, _, hj, k =>
      cases Option.some.inj hj
      refine ⟨_, rfl, rfl, _, rfl, ifd (fun h => absurd h (by decide +kernel)) fun _ => ?_⟩
      refine ⟨_, rfl, rfl, _, rfl, ifd (fun h => absurd h (by decide +kernel)) fun _ => ?_⟩
      refine ⟨_, rfl, rfl, _, rfl, ifd (fun h => absurd h (by decide +kernel)) fun _ => ?_⟩
      refine ⟨_, rfl, rfl, _, rfl, ifd (fun h => absurd h (by decide +kernel)) fun _ => ?_⟩
      refine ⟨_, rfl, rfl, _, rfl, ifd (fun h => absurd h (by decide +kernel)) fun _ => ?_⟩
      refine ⟨_, rfl, rfl, _, rfl, ifd (fun h => absurd h (by decide +kernel)) fun _ => ?_⟩
      refine ⟨_, rfl, rfl, _, rfl, ifd (fun h => absurd h (by decide +kernel)) fun _ => ?_⟩
      refine ⟨_, rfl, rfl, _, rfl, ifd (fun h => absurd h (by decide +kernel)) fun _ => ?_⟩
      refine ⟨_, rfl, rfl, _, rfl, ifd (fun _ => ?_) fun h => absurd (by decide +kernel) h⟩
      exact ⟨_, rfl, rfl, fun a ha => mk1 sx (fun a H' s h e => k a H' s h e) a ha⟩
    | 9, _, hj, k =>
      cases Option.some.inj hj
      refine ⟨_, rfl, rfl, _, rfl, ifd (fun h => absurd h (by decide +kernel)) fun _ => ?_⟩
      refine ⟨_, rfl, rfl, _, rfl, ifd (fun h => absurd h (by decide +kernel)) fun _ => ?_⟩
      refine ⟨_, rfl, rfl, _, rfl, ifd (fun h => absurd h (by decide +kernel)) fun _ => ?_⟩
      refine ⟨_, rfl, rfl, _, rfl, ifd (fun h => absurd h (by decide +kernel)) fun _ => ?_⟩
      refine ⟨_, rfl, rfl, _, rfl, ifd (fun h => absurd h (by decide +kernel)) fun _ => ?_⟩
      refine ⟨_, rfl, rfl, _, rfl, ifd (fun h => absurd h (by decide +kernel)) fun _ => ?_⟩
      refine ⟨_, rfl, rfl, _, rfl, ifd (fun h => absurd h (by decide +kernel)) fun _ => ?_⟩
      refine ⟨_, rfl, rfl, _, rfl, ifd (fun h => absurd h (by decide +kernel)) fun _ => ?_⟩
      refine ⟨_, rfl, rfl, _, rfl, ifd (fun h => absurd h (by decide +kernel)) fun _ => ?_⟩
      refine ⟨_, rfl, rfl, _, rfl, ifd (fun _ => ?_) fun h => absurd (by decide +kernel) h⟩
      exact ⟨_, rfl, rfl, fun a ha => mk1 sx (fun a H' s h e => k a H' s h e) a ha⟩
    | 10, _, hj, k =>
      cases Option.some.inj hj
      refine ⟨_, rfl, rfl, _, rfl, ifd (fun h => absurd h (by decide +kernel)) fun _ => ?_⟩
      refine ⟨_, rfl, rfl, _, rfl, ifd (fun h => absurd h (by decide +kernel)) fun _ => ?_⟩
      refine ⟨_, rfl, rfl, _, rfl, ifd (fun h => absurd h (by decide +kernel)) fun _ => ?_⟩
      refine ⟨_, rfl, rfl, _, rfl, ifd (fun h => absurd h (by decide +kernel)) fun _ => ?_⟩
      refine ⟨_, rfl, rfl, _, rfl, ifd (fun h => absurd h (by decide +kernel)) fun _ => ?_⟩
      refine ⟨_, rfl, rfl, _, rfl, ifd (fun h => absurd h (by decide +kernel)) fun _ => ?_⟩
      refine ⟨_, rfl, rfl, _, rfl, ifd (fun h => absurd h (by decide +kernel)) fun _ => ?_⟩
      refine ⟨_, rfl, rfl, _, rfl, ifd (fun h => absurd h (by decide +kernel)) fun _ => ?_⟩
      refine ⟨_, rfl, rfl, _, rfl, ifd (fun h => absurd h (by decide +kernel)) fun _ => ?_⟩
      refine ⟨_, rfl, rfl, _, rfl, ifd (fun h => absurd h (by decide +kernel)) fun _ => ?_⟩
      refine ⟨_, rfl, rfl, _, rfl, ifd (fun _ => ?_) fun h => absurd (by decide +kernel) h⟩
      exact ⟨_, rfl, rfl, fun a ha => mk1 sx (fun a H' s h e => k a H' s h e) a ha⟩
    | 11, _, hj, k =>
      cases Option.some.inj hj
      refine ⟨_, rfl, rfl, _, rfl, ifd (fun h => absurd h (by decide +kernel)) fun _ => ?_⟩
      refine ⟨_, rfl, rfl, _, rfl, ifd (fun h => absurd h (by decide +kernel)) fun _ => ?_⟩
      refine ⟨_, rfl, rfl, _, rfl, ifd (fun h => absurd h (by decide +kernel)) fun _ => ?_⟩
      refine ⟨_, rfl, rfl, _, rfl, ifd (fun h => absurd h (by decide +kernel)) fun _ => ?_⟩
      refine ⟨_, rfl, rfl, _, rfl, ifd (fun h => absurd h (by decide +kernel)) fun _ => ?_⟩
      refine ⟨_, rfl, rfl, _, rfl, ifd (fun h => absurd h (by decide +kernel)) fun _ => ?_⟩
      refine ⟨_, rfl, rfl, _, rfl, ifd (fun h => absurd h (by decide +kernel)) fun _ => ?_⟩
      refine ⟨_, rfl, rfl, _, rfl, ifd (fun h => absurd h (by decide +kernel)) fun _ => ?_⟩
      refine ⟨_, rfl, rfl, _, rfl, ifd (fun h => absurd h (by decide +kernel)) fun _ => ?_⟩
      refine ⟨_, rfl, rfl, _, rfl, ifd (fun h => absurd h (by decide +kernel)) fun _ => ?_⟩
      refine ⟨_, rfl, rfl, _, rfl, ifd (fun h => absurd h (by decide +kernel)) fun _ => ?_⟩
      refine ⟨_, rfl, rfl, _, rfl, ifd (fun _ => ?_) fun h => absurd (by decide +kernel) h⟩
      exact ⟨_, rfl, rfl, fun a ha => mk1 sx (fun a H' s h e => k a H' s h e) a ha⟩
    | 12, _, hj, k =>
      cases Option.some.inj hj
      refine ⟨_, rfl, rfl, _, rfl, ifd (fun h => absurd h (by decide +kernel)) fun _ => ?_⟩
      refine ⟨_, rfl, rfl, _, rfl, ifd (fun h => absurd h (by decide +kernel)) fun _ => ?_⟩
      refine ⟨_, rfl, rfl, _, rfl, ifd (fun h => absurd h (by decide +kernel)) fun _ => ?_⟩
      refine ⟨_, rfl, rfl, _, rfl, ifd (fun h => absurd h (by decide +kernel)) fun _ => ?_⟩
      refine ⟨_, rfl, rfl, _, rfl, ifd (fun h => absurd h (by decide +kernel)) fun _ => ?_⟩
      refine ⟨_, rfl, rfl, _, rfl, ifd (fun h => absurd h (by decide +kernel)) fun _ => ?_⟩
      refine ⟨_, rfl, rfl, _, rfl, ifd (fun h => absurd h (by decide +kernel)) fun _ => ?_⟩
      refine ⟨_, rfl, rfl, _, rfl, ifd (fun h => absurd h (by decide +kernel)) fun _ => ?_⟩
      refine ⟨_, rfl, rfl, _, rfl, ifd (fun h => absurd h (by decide +kernel)) fun _ => ?_⟩
      refine ⟨_, rfl, rfl, _, rfl, ifd (fun h => absurd h (by decide +kernel)) fun _ => ?_⟩
      refine ⟨_, rfl, rfl, _, rfl, ifd (fun h => absurd h (by decide +kernel)) fun _ => ?_⟩
      refine ⟨_, rfl, rfl, _, rfl, ifd (fun h => absurd h (by decide +kernel)) fun _ => ?_⟩
      refine ⟨_, rfl, rfl, _, rfl, ifd (fun _ => ?_) fun h => absurd (by decide +kernel) h⟩
      exact ⟨_, rfl, rfl, fun a ha => mk1 sx (fun a H' s h e => k a H' s h e) a ha⟩
    | 13, _, hj, k =>
      cases Option.some.inj hj
      refine ⟨_, rfl, rfl, _, rfl, ifd (fun h => absurd h (by decide +kernel)) fun _ => ?_⟩
      refine ⟨_, rfl, rfl, _, rfl, ifd (fun h => absurd h (by decide +kernel)) fun _ => ?_⟩
      refine ⟨_, rfl, rfl, _, rfl, ifd (fun h => absurd h (by decide +kernel)) fun _ => ?_⟩
      refine ⟨_, rfl, rfl, _, rfl, ifd (fun h => absurd h (by decide +kernel)) fun _ => ?_⟩
      refine ⟨_, rfl, rfl, _, rfl, ifd (fun h => absurd h (by decide +kernel)) fun _ => ?_⟩
      refine ⟨_, rfl, rfl, _, rfl, ifd (fun h => absurd h (by decide +kernel)) fun _ => ?_⟩
      refine ⟨_, rfl, rfl, _, rfl, ifd (fun h => absurd h (by decide +kernel)) fun _ => ?_⟩
      refine ⟨_, rfl, rfl, _, rfl, ifd (fun h => absurd h (by decide +kernel)) fun _ => ?_⟩
      refine ⟨_, rfl, rfl, _, rfl, ifd (fun h => absurd h (by decide +kernel)) fun _ => ?_⟩
      refine ⟨_, rfl, rfl, _, rfl, ifd (fun h => absurd h (by decide +kernel)) fun _ => ?_⟩
      refine ⟨_, rfl, rfl, _, rfl, ifd (fun h => absurd h (by decide +kernel)) fun _ => ?_⟩
      refine ⟨_, rfl, rfl, _, rfl, ifd (fun h => absurd h (by decide +kernel)) fun _ => ?_⟩
      refine ⟨_, rfl, rfl, _, rfl, ifd (fun h => absurd h (by decide +kernel)) fun _ => ?_⟩
      refine ⟨_, rfl, rfl, _, rfl, ifd (fun _ => ?_) fun h => absurd (by decide +kernel) h⟩
      exact ⟨_, rfl, _, rfl, rfl, fun a ha => mk2 sx sy (fun a H' s h e => k a H' s h e) a ha⟩
    | 14, _, hj, k =>
      cases Option.some.inj hj
      refine ⟨_, rfl, rfl, _, rfl, ifd (fun h => absurd h (by decide +kernel)) fun _ => ?_⟩
      refine ⟨_, rfl, rfl, _, rfl, ifd (fun h => absurd h (by decide +kernel)) fun _ => ?_⟩
      refine ⟨_, rfl, rfl, _, rfl, ifd (fun h => absurd h (by decide +kernel)) fun _ => ?_⟩
      refine ⟨_, rfl, rfl, _, rfl, ifd (fun h => absurd h (by decide +kernel)) fun _ => ?_⟩
      refine ⟨_, rfl, rfl, _, rfl, ifd (fun h => absurd h (by decide +kernel)) fun _ => ?_⟩
      refine ⟨_, rfl, rfl, _, rfl, ifd (fun h => absurd h (by decide +kernel)) fun _ => ?_⟩
      refine ⟨_, rfl, rfl, _, rfl, ifd (fun h => absurd h (by decide +kernel)) fun _ => ?_⟩
      refine ⟨_, rfl, rfl, _, rfl, ifd (fun h => absurd h (by decide +kernel)) fun _ => ?_⟩
      refine ⟨_, rfl, rfl, _, rfl, ifd (fun h => absurd h (by decide +kernel)) fun _ => ?_⟩
      refine ⟨_, rfl, rfl, _, rfl, ifd (fun h => absurd h (by decide +kernel)) fun _ => ?_⟩
      refine ⟨_, rfl, rfl, _, rfl, ifd (fun h => absurd h (by decide +kernel)) fun _ => ?_⟩
      refine ⟨_, rfl, rfl, _, rfl, ifd (fun h => absurd h (by decide +kernel)) fun _ => ?_⟩
      refine ⟨_, rfl, rfl, _, rfl, ifd (fun h => absurd h (by decide +kernel)) fun _ => ?_⟩
      refine ⟨_, rfl, rfl, _, rfl, ifd (fun h => absurd h (by decide +kernel)) fun _ => ?_⟩
      refine ⟨_, rfl, rfl, _, rfl, ifd (fun _ => ?_) fun h => absurd (by decide +kernel) h⟩
      exact ⟨_, rfl, rfl, fun a ha => mk1 sx (fun a H' s h e => k a H' s h e) a ha⟩
    | 15, _, hj, k =>
      cases Option.some.inj hj
      refine ⟨_, rfl, rfl, _, rfl, ifd (fun h => absurd h (by decide +kernel)) fun _ => ?_⟩
      refine ⟨_, rfl, rfl, _, rfl, ifd (fun h => absurd h (by decide +kernel)) fun _ => ?_⟩
      refine ⟨_, rfl, rfl, _, rfl, ifd (fun h => absurd h (by decide +kernel)) fun _ => ?_⟩
      refine ⟨_, rfl, rfl, _, rfl, ifd (fun h => absurd h (by decide +kernel)) fun _ => ?_⟩
      refine ⟨_, rfl, rfl, _, rfl, ifd (fun h => absurd h (by decide +kernel)) fun _ => ?_⟩
      refine ⟨_, rfl, rfl, _, rfl, ifd (fun h => absurd h (by decide +kernel)) fun _ => ?_⟩
      refine ⟨_, rfl, rfl, _, rfl, ifd (fun h => absurd h (by decide +kernel)) fun _ => ?_⟩
      refine ⟨_, rfl, rfl, _, rfl, ifd (fun h => absurd h (by decide +kernel)) fun _ => ?_⟩
      refine ⟨_, rfl, rfl, _, rfl, ifd (fun h => absurd h (by decide +kernel)) fun _ => ?_⟩
      refine ⟨_, rfl, rfl, _, rfl, ifd (fun h => absurd h (by decide +kernel)) fun _ => ?_⟩
      refine ⟨_, rfl, rfl, _, rfl, ifd (fun h => absurd h (by decide +kernel)) fun _ => ?_⟩
      refine ⟨_, rfl, rfl, _, rfl, ifd (fun h => absurd h (by decide +kernel)) fun _ => ?_⟩
      refine ⟨_, rfl, rfl, _, rfl, ifd (fun h => absurd h (by decide +kernel)) fun _ => ?_⟩
      refine ⟨_, rfl, rfl, _, rfl, ifd (fun h => absurd h (by decide +kernel)) fun _ => ?_⟩
      refine ⟨_, rfl, rfl, _, rfl, ifd (fun h => absurd h (by decide +kernel)) fun _ => ?_⟩
      refine ⟨_, rfl, rfl, _, rfl, ifd (fun _ => ?_) fun h => absurd (by decide +kernel) h⟩
      exact ⟨_, rfl, rfl, fun a ha => mk1 sx (fun a H' s h e => k a H' s h e) a ha⟩
    | 16, _, hj, k =>
      cases Option.some.inj hj
      refine ⟨_, rfl, rfl, _, rfl, ifd (fun h => absurd h (by decide +kernel)) fun _ => ?_⟩
      refine ⟨_, rfl, rfl, _, rfl, ifd (fun h => absurd h (by decide +kernel)) fun _ => ?_⟩
      refine ⟨_, rfl, rfl, _, rfl, ifd (fun h => absurd h (by decide +kernel)) fun _ => ?_⟩
      refine ⟨_, rfl, rfl, _, rfl, ifd (fun h => absurd h (by decide +kernel)) fun _ => ?_⟩
      refine ⟨_, rfl, rfl, _, rfl, ifd (fun h => absurd h (by decide +kernel)) fun _ => ?_⟩
      refine ⟨_, rfl, rfl, _, rfl, ifd (fun h => absurd h (by decide +kernel)) fun _ => ?_⟩
      refine ⟨_, rfl, rfl, _, rfl, ifd (fun h => absurd h (by decide +kernel)) fun _ => ?_⟩
      refine ⟨_, rfl, rfl, _, rfl, ifd (fun h => absurd h (by decide +kernel)) fun _ => ?_⟩
      refine ⟨_, rfl, rfl, _, rfl, ifd (fun h => absurd h (by decide +kernel)) fun _ => ?_⟩
      refine ⟨_, rfl, rfl, _, rfl, ifd (fun h => absurd h (by decide +kernel)) fun _ => ?_⟩
      refine ⟨_, rfl, rfl, _, rfl, ifd (fun h => absurd h (by decide +kernel)) fun _ => ?_⟩
      refine ⟨_, rfl, rfl, _, rfl, ifd (fun h => absurd h (by decide +kernel)) fun _ => ?_⟩
      refine ⟨_, rfl, rfl, _, rfl, ifd (fun h => absurd h (by decide +kernel)) fun _ => ?_⟩
      refine ⟨_, rfl, rfl, _, rfl, ifd (fun h => absurd h (by decide +kernel)) fun _ => ?_⟩
      refine ⟨_, rfl, rfl, _, rfl, ifd (fun h => absurd h (by decide +kernel)) fun _ => ?_⟩
      refine ⟨_, rfl, rfl, _, rfl, ifd (fun h => absurd h (by decide +kernel)) fun _ => ?_⟩
      refine ⟨_, rfl, rfl, _, rfl, ifd (fun _ => ?_) fun h => absurd (by decide +kernel) h⟩
      exact ⟨_, rfl, rfl, fun a ha => mk1 sx (fun a H' s h e => k a H' s h e) a ha⟩
    | 17, _, hj, k =>
      cases Option.some.inj hj
      refine ⟨_, rfl, rfl, _, rfl, ifd (fun h => absurd h (by decide +kernel)) fun _ => ?_⟩
      refine ⟨_, rfl, rfl, _, rfl, ifd (fun h => absurd h (by decide +kernel)) fun _ => ?_⟩
      refine ⟨_, rfl, rfl, _, rfl, ifd (fun h => absurd h (by decide +kernel)) fun _ => ?_⟩
      refine ⟨_, rfl, rfl, _, rfl, ifd (fun h => absurd h (by decide +kernel)) fun _ => ?_⟩
      refine ⟨_, rfl, rfl, _, rfl, ifd (fun h => absurd h (by decide +kernel)) fun _ => ?_⟩
      refine ⟨_, rfl, rfl, _, rfl, ifd (fun h => absurd h (by decide +kernel)) fun _ => ?_⟩
      refine ⟨_, rfl, rfl, _, rfl, ifd (fun h => absurd h (by decide +kernel)) fun _ => ?_⟩
      refine ⟨_, rfl, rfl, _, rfl, ifd (fun h => absurd h (by decide +kernel)) fun _ => ?_⟩
      refine ⟨_, rfl, rfl, _, rfl, ifd (fun h => absurd h (by decide +kernel)) fun _ => ?_⟩
      refine ⟨_, rfl, rfl, _, rfl, ifd (fun h => absurd h (by decide +kernel)) fun _ => ?_⟩
      refine ⟨_, rfl, rfl, _, rfl, ifd (fun h => absurd h (by decide +kernel)) fun _ => ?_⟩
      refine ⟨_, rfl, rfl, _, rfl, ifd (fun h => absurd h (by decide +kernel)) fun _ => ?_⟩
      refine ⟨_, rfl, rfl, _, rfl, ifd (fun h => absurd h (by decide +kernel)) fun _ => ?_⟩
      refine ⟨_, rfl, rfl, _, rfl, ifd (fun h => absurd h (by decide +kernel)) fun _ => ?_⟩
      refine ⟨_, rfl, rfl, _, rfl, ifd (fun h => absurd h (by decide +kernel)) fun _ => ?_⟩
      refine ⟨_, rfl, rfl, _, rfl, ifd (fun h => absurd h (by decide +kernel)) fun _ => ?_⟩
      refine ⟨_, rfl, rfl, _, rfl, ifd (fun h => absurd h (by decide +kernel)) fun _ => ?_⟩
      refine ⟨_, rfl, rfl, _, rfl, ifd (fun _ => ?_) fun h => absurd (by decide +kernel) h⟩
      exact ⟨_, rfl, rfl, fun a ha => mk1 sx (fun a H' s h e => k a H' s h e) a ha⟩
    | 18, _, hj, k =>
      cases Option.some.inj hj
      refine ⟨_, rfl, rfl, _, rfl, ifd (fun h => absurd h (by decide +kernel)) fun _ => ?_⟩
      refine ⟨_, rfl, rfl, _, rfl, ifd (fun h => absurd h (by decide +kernel)) fun _ => ?_⟩
      refine ⟨_, rfl, rfl, _, rfl, ifd (fun h => absurd h (by decide +kernel)) fun _ => ?_⟩
      refine ⟨_, rfl, rfl, _, rfl, ifd (fun h => absurd h (by decide +kernel)) fun _ => ?_⟩
      refine ⟨_, rfl, rfl, _, rfl, ifd (fun h => absurd h (by decide +kernel)) fun _ => ?_⟩
      refine ⟨_, rfl, rfl, _, rfl, ifd (fun h => absurd h (by decide +kernel)) fun _ => ?_⟩
      refine ⟨_, rfl, rfl, _, rfl, ifd (fun h => absurd h (by decide +kernel)) fun _ => ?_⟩
      refine ⟨_, rfl, rfl, _, rfl, ifd (fun h => absurd h (by decide +kernel)) fun _ => ?_⟩
      refine ⟨_, rfl, rfl, _, rfl, ifd (fun h => absurd h (by decide +kernel)) fun _ => ?_⟩
      refine ⟨_, rfl, rfl, _, rfl, ifd (fun h => absurd h (by decide +kernel)) fun _ => ?_⟩
      refine ⟨_, rfl, rfl, _, rfl, ifd (fun h => absurd h (by decide +kernel)) fun _ => ?_⟩
      refine ⟨_, rfl, rfl, _, rfl, ifd (fun h => absurd h (by decide +kernel)) fun _ => ?_⟩
      refine ⟨_, rfl, rfl, _, rfl, ifd (fun h => absurd h (by decide +kernel)) fun _ => ?_⟩
      refine ⟨_, rfl, rfl, _, rfl, ifd (fun h => absurd h (by decide +kernel)) fun _ => ?_⟩
      refine ⟨_, rfl, rfl, _, rfl, ifd (fun h => absurd h (by decide +kernel)) fun _ => ?_⟩
      refine ⟨_, rfl, rfl, _, rfl, ifd (fun h => absurd h (by decide +kernel)) fun _ => ?_⟩
      refine ⟨_, rfl, rfl, _, rfl, ifd (fun h => absurd h (by decide +kernel)) fun _ => ?_⟩
      refine ⟨_, rfl, rfl, _, rfl, ifd (fun h => absurd h (by decide +kernel)) fun _ => ?_⟩
      refine ⟨_, rfl, rfl, _, rfl, ifd (fun h => absurd h (by decide +kernel)) fun _ => ?_⟩
      refine ⟨_, rfl, rfl, _, rfl, ifd (fun h => absurd h (by decide +kernel)) fun _ => ?_⟩
      refine ⟨_, rfl, rfl, _, rfl, ifd (fun h => absurd h (by decide +kernel)) fun _ => ?_⟩
      exact fun a ha => k a _ (same_upd ha) ha (.inr ⟨rfl, upd_same⟩)
    | 19, _, hj, k =>
      cases Option.some.inj hj
      refine ⟨_, rfl, rfl, _, rfl, ifd (fun h => absurd h (by decide +kernel)) fun _ => ?_⟩
      refine ⟨_, rfl, rfl, _, rfl, ifd (fun h => absurd h (by decide +kernel)) fun _ => ?_⟩
      refine ⟨_, rfl, rfl, _, rfl, ifd (fun h => absurd h (by decide +kernel)) fun _ => ?_⟩
      refine ⟨_, rfl, rfl, _, rfl, ifd (fun h => absurd h (by decide +kernel)) fun _ => ?_⟩
      refine ⟨_, rfl, rfl, _, rfl, ifd (fun h => absurd h (by decide +kernel)) fun _ => ?_⟩
      refine ⟨_, rfl, rfl, _, rfl, ifd (fun h => absurd h (by decide +kernel)) fun _ => ?_⟩
      refine ⟨_, rfl, rfl, _, rfl, ifd (fun h => absurd h (by decide +kernel)) fun _ => ?_⟩
      refine ⟨_, rfl, rfl, _, rfl, ifd (fun h => absurd h (by decide +kernel)) fun _ => ?_⟩
      refine ⟨_, rfl, rfl, _, rfl, ifd (fun h => absurd h (by decide +kernel)) fun _ => ?_⟩
      refine ⟨_, rfl, rfl, _, rfl, ifd (fun h => absurd h (by decide +kernel)) fun _ => ?_⟩
      refine ⟨_, rfl, rfl, _, rfl, ifd (fun h => absurd h (by decide +kernel)) fun _ => ?_⟩
      refine ⟨_, rfl, rfl, _, rfl, ifd (fun h => absurd h (by decide +kernel)) fun _ => ?_⟩
      refine ⟨_, rfl, rfl, _, rfl, ifd (fun h => absurd h (by decide +kernel)) fun _ => ?_⟩
      refine ⟨_, rfl, rfl, _, rfl, ifd (fun h => absurd h (by decide +kernel)) fun _ => ?_⟩
      refine ⟨_, rfl, rfl, _, rfl, ifd (fun h => absurd h (by decide +kernel)) fun _ => ?_⟩
      refine ⟨_, rfl, rfl, _, rfl, ifd (fun h => absurd h (by decide +kernel)) fun _ => ?_⟩
      refine ⟨_, rfl, rfl, _, rfl, ifd (fun h => absurd h (by decide +kernel)) fun _ => ?_⟩
      refine ⟨_, rfl, rfl, _, rfl, ifd (fun h => absurd h (by decide +kernel)) fun _ => ?_⟩
      refine ⟨_, rfl, rfl, _, rfl, ifd (fun _ => ?_) fun h => absurd (by decide +kernel) h⟩
      exact ⟨_, rfl, _, rfl, rfl, fun a ha => mk2 sx sy (fun a H' s h e => k a H' s h e) a ha⟩
    | 20, _, hj, k =>
      cases Option.some.inj hj
      refine ⟨_, rfl, rfl, _, rfl, ifd (fun h => absurd h (by decide +kernel)) fun _ => ?_⟩
      refine ⟨_, rfl, rfl, _, rfl, ifd (fun h => absurd h (by decide +kernel)) fun _ => ?_⟩
      refine ⟨_, rfl, rfl, _, rfl, ifd (fun h => absurd h (by decide +kernel)) fun _ => ?_⟩
      refine ⟨_, rfl, rfl, _, rfl, ifd (fun h => absurd h (by decide +kernel)) fun _ => ?_⟩
      refine ⟨_, rfl, rfl, _, rfl, ifd (fun h => absurd h (by decide +kernel)) fun _ => ?_⟩
      refine ⟨_, rfl, rfl, _, rfl, ifd (fun h => absurd h (by decide +kernel)) fun _ => ?_⟩
      refine ⟨_, rfl, rfl, _, rfl, ifd (fun h => absurd h (by decide +kernel)) fun _ => ?_⟩
      refine ⟨_, rfl, rfl, _, rfl, ifd (fun h => absurd h (by decide +kernel)) fun _ => ?_⟩
      refine ⟨_, rfl, rfl, _, rfl, ifd (fun h => absurd h (by decide +kernel)) fun _ => ?_⟩
      refine ⟨_, rfl, rfl, _, rfl, ifd (fun h => absurd h (by decide +kernel)) fun _ => ?_⟩
      refine ⟨_, rfl, rfl, _, rfl, ifd (fun h => absurd h (by decide +kernel)) fun _ => ?_⟩
      refine ⟨_, rfl, rfl, _, rfl, ifd (fun h => absurd h (by decide +kernel)) fun _ => ?_⟩
      refine ⟨_, rfl, rfl, _, rfl, ifd (fun h => absurd h (by decide +kernel)) fun _ => ?_⟩
      refine ⟨_, rfl, rfl, _, rfl, ifd (fun h => absurd h (by decide +kernel)) fun _ => ?_⟩
      refine ⟨_, rfl, rfl, _, rfl, ifd (fun h => absurd h (by decide +kernel)) fun _ => ?_⟩
      refine ⟨_, rfl, rfl, _, rfl, ifd (fun h => absurd h (by decide +kernel)) fun _ => ?_⟩
      refine ⟨_, rfl, rfl, _, rfl, ifd (fun h => absurd h (by decide +kernel)) fun _ => ?_⟩
      refine ⟨_, rfl, rfl, _, rfl, ifd (fun h => absurd h (by decide +kernel)) fun _ => ?_⟩
      refine ⟨_, rfl, rfl, _, rfl, ifd (fun h => absurd h (by decide +kernel)) fun _ => ?_⟩
      refine ⟨_, rfl, rfl, _, rfl, ifd (fun _ => ?_) fun h => absurd (by decide +kernel) h⟩
      exact ⟨_, rfl, _, rfl, rfl, fun a ha => mk2 sx sy (fun a H' s h e => k a H' s h e) a ha⟩
    | 21, _, hj, k =>
      cases Option.some.inj hj
      refine ⟨_, rfl, rfl, _, rfl, ifd (fun h => absurd h (by decide +kernel)) fun _ => ?_⟩
      refine ⟨_, rfl, rfl, _, rfl, ifd (fun h => absurd h (by decide +kernel)) fun _ => ?_⟩
      refine ⟨_, rfl, rfl, _, rfl, ifd (fun h => absurd h (by decide +kernel)) fun _ => ?_⟩
      refine ⟨_, rfl, rfl, _, rfl, ifd (fun h => absurd h (by decide +kernel)) fun _ => ?_⟩
      refine ⟨_, rfl, rfl, _, rfl, ifd (fun h => absurd h (by decide +kernel)) fun _ => ?_⟩
      refine ⟨_, rfl, rfl, _, rfl, ifd (fun h => absurd h (by decide +kernel)) fun _ => ?_⟩
      refine ⟨_, rfl, rfl, _, rfl, ifd (fun h => absurd h (by decide +kernel)) fun _ => ?_⟩
      refine ⟨_, rfl, rfl, _, rfl, ifd (fun h => absurd h (by decide +kernel)) fun _ => ?_⟩
      refine ⟨_, rfl, rfl, _, rfl, ifd (fun h => absurd h (by decide +kernel)) fun _ => ?_⟩
      refine ⟨_, rfl, rfl, _, rfl, ifd (fun h => absurd h (by decide +kernel)) fun _ => ?_⟩
      refine ⟨_, rfl, rfl, _, rfl, ifd (fun h => absurd h (by decide +kernel)) fun _ => ?_⟩
      refine ⟨_, rfl, rfl, _, rfl, ifd (fun h => absurd h (by decide +kernel)) fun _ => ?_⟩
      refine ⟨_, rfl, rfl, _, rfl, ifd (fun h => absurd h (by decide +kernel)) fun _ => ?_⟩
      refine ⟨_, rfl, rfl, _, rfl, ifd (fun h => absurd h (by decide +kernel)) fun _ => ?_⟩
      refine ⟨_, rfl, rfl, _, rfl, ifd (fun h => absurd h (by decide +kernel)) fun _ => ?_⟩
      refine ⟨_, rfl, rfl, _, rfl, ifd (fun h => absurd h (by decide +kernel)) fun _ => ?_⟩
      refine ⟨_, rfl, rfl, _, rfl, ifd (fun h => absurd h (by decide +kernel)) fun _ => ?_⟩
      refine ⟨_, rfl, rfl, _, rfl, ifd (fun h => absurd h (by decide +kernel)) fun _ => ?_⟩
      refine ⟨_, rfl, rfl, _, rfl, ifd (fun h => absurd h (by decide +kernel)) fun _ => ?_⟩
      refine ⟨_, rfl, rfl, _, rfl, ifd (fun h => absurd h (by decide +kernel)) fun _ => ?_⟩
      refine ⟨_, rfl, rfl, _, rfl, ifd (fun _ => ?_) fun h => absurd (by decide +kernel) h⟩
      exact ⟨_, rfl, _, rfl, rfl, fun a ha => mk2 sx sy (fun a H' s h e => k a H' s h e) a ha⟩
end
end K00
set_option Elab.async false
set_option linter.all false
set_option maxRecDepth 100000
set_option maxHeartbeats 2000000
namespace K00
open PySem PySem.Spec PyProof.Rows L2 My
abbrev sKi : Stmt := top 38
theorem PE.imp {X : Cx} {e : Expr} {t t' : TE} (h : PE X e t) (k : ∀ σ H Q, t' σ H Q → t σ H Q) : PE X e t' := ⟨fun pins s σ H Q I q => h.run pins s σ H Q I (k σ H Q q)⟩
def rp (b : Bool) (x : Str) : List V := if b = true then [.str x] else []
/-- [x] * int(isinstance(e, C)) -/
def tKind (K : PySem.W.Frag) (i : Nat) (x : Str) (C : Addr) : TE := fun σ H Q => ∃ (D a : Addr) (fs : List (Str × V)) (b : Bool), σ[i]? = some (some (.ref a)) ∧ MyX.IsX K D ∧ MyC.ErA H a D fs ∧ PySem.W.kitOne K (.ref D) (.ref C) = some b ∧ ∀ p H', Same H H' → H p = none → H' p = some (.lst (rp b x)) → Q (.ref p) H'
theorem pe_kind {X : Cx} {x y : Str} {C : Addr} {i : Nat} {j0 : Nat} {p1 p2 p3 p4 p5 p6 p7 p8 p9 : Pos} (m1 : X.mg "isinstance" = none) (m2 : X.mg "int" = none) (g1 : Gl X "isinstance") (g2 : Gl X "int") (g3 : Gl X x) (he : PE X (.Name y p9) (tVar i)) (hm : X.mg x = some (.ref C))
    (hx : (x == ("__debug__" : Str)) = false := by decide) :
    PE X (.BinOp (.List [.Constant (.str x) j0 p1] p2) .Mult (.Call (.Name "int" p5) [.Call (.Name "isinstance" p4) [.Name y p9, .Name x p3] [] p6] [] p7) p8) (tKind X.K i x C) := by
  refine PE.imp (pe_op op_rep (pe_lst (pa_cons pe_str pa_nil)) (pe_callTy call_int1 g2 m2 (by decide +kernel) (pa_cons (pe_callB MyC.call_isEr g1 m1 (by decide +kernel) (pa_cons he (pa_cons (pe_gref g3 hm hx) pa_nil))) pa_nil))) (fun σ H Q h => ?_)
  obtain ⟨D, a, fs, b, hs, hi, er, kk, q⟩ := h
  refine ⟨(show 1 ≤ sizeLine by decide), fun l fl => ?_⟩
  have sl := same_upd (o := .lst [.str x]) fl
  refine ⟨_, hs, D, a, fs, _, _, b, rfl, hi, er.same sl, fun u r => r, kk, .inr ⟨b, rfl, l, _, [.str x], rfl, rfl, upd_same, ?_, ?_, ?_, fun p fp => q p _ (Same.trans sl (same_upd fp)) ?_ ?_⟩⟩
  · cases b <;> decide
  · cases b <;> decide
  · cases b
    · exact (show 0 ≤ sizeLine by decide)
    · exact (show 1 ≤ sizeLine by decide)
  · exact sl.free fp
  · rw [upd_same]
    cases b <;> rfl
def catK (j : Nat) : List V := (((((((((((((((((((((rp (decide (0 = j)) "BadMachine" ++ rp (decide (1 = j)) "BadWords") ++ rp (decide (2 = j)) "BadBlock") ++ rp (decide (5 = j)) "BadMap") ++ rp (decide (3 = j)) "BadProgram") ++ rp (decide (4 = j)) "BadSum") ++ rp (decide (6 = j)) "BadStand") ++ rp (decide (14 = j)) "BadRun") ++ rp (decide (7 = j)) "BadTarget") ++ rp (decide (10 = j)) "NoAxis") ++ rp (decide (8 = j)) "BadPaper") ++ rp (decide (12 = j)) "NoPlace") ++ rp (decide (9 = j)) "BadControl") ++ rp (decide (13 = j)) "NoNode") ++ rp (decide (11 = j)) "NoRegister") ++ rp (decide (18 = j)) "Nothing") ++ rp (decide (15 = j)) "BadPreamble") ++ rp (decide (20 = j)) "BadText") ++ rp (decide (16 = j)) "Stopped") ++ rp (decide (17 = j)) "Running") ++ rp (decide (19 = j)) "TooMany") ++ rp (decide (21 = j)) "BadLine")
theorem catK_eq : ∀ j : Fin 22, catK j.val = [.str (nms.getD j.val "")] := by decide +kernel
def spKi (cs : Nat → Addr) : Sp := fun vs H Q _ => ∃ (j a : Addr) (fs : List (Str × V)), vs = [.ref a] ∧ j < 22 ∧ MyC.ErA H a (cs j) fs ∧ ∀ p H', Same H H' → H p = none → H' p = some (.lst [.str (nms.getD j "")]) → Q (.ref p) H'
/-- what the classes say of one another -/
structure KiT (K : PySem.W.Frag) (mg : Str → Option Value) (cs : Nat → Addr) : Prop where
  isx : ∀ j, j < 22 → MyX.IsX K (cs j)
  kk : ∀ i j, i < 22 → j < 22 → PySem.W.kitOne K (.ref (cs j)) (.ref (cs i)) = some (decide (i = j))
  g0 : mg "BadMachine" = some (.ref (cs 0))
  g1 : mg "BadWords" = some (.ref (cs 1))
  g2 : mg "BadBlock" = some (.ref (cs 2))
  g3 : mg "BadProgram" = some (.ref (cs 3))
  g4 : mg "BadSum" = some (.ref (cs 4))
  g5 : mg "BadMap" = some (.ref (cs 5))
  g6 : mg "BadStand" = some (.ref (cs 6))
  g7 : mg "BadTarget" = some (.ref (cs 7))
  g8 : mg "BadPaper" = some (.ref (cs 8))
  g9 : mg "BadControl" = some (.ref (cs 9))
  g10 : mg "NoAxis" = some (.ref (cs 10))
  g11 : mg "NoRegister" = some (.ref (cs 11))
  g12 : mg "NoPlace" = some (.ref (cs 12))
  g13 : mg "NoNode" = some (.ref (cs 13))
  g14 : mg "BadRun" = some (.ref (cs 14))
  g15 : mg "BadPreamble" = some (.ref (cs 15))
  g16 : mg "Stopped" = some (.ref (cs 16))
  g17 : mg "Running" = some (.ref (cs 17))
  g18 : mg "Nothing" = some (.ref (cs 18))
  g19 : mg "TooMany" = some (.ref (cs 19))
  g20 : mg "BadText" = some (.ref (cs 20))
  g21 : mg "BadLine" = some (.ref (cs 21))
abbrev kiN : List Str := ["_law_error", "_law_found"]
theorem scKi : FnScope kiN ["_law_error"] (defScope sKi) := ⟨rfl, rfl, rfl, by decide +kernel, rfl, by decide +kernel, by decide +kernel⟩
theorem ok_kinds {P : Program} {w : World} {K : PySem.W.Frag} {mg : Str → Option Value} {base : Heap} {cs : Nat → Addr} {f : Addr} {fd : FuncData} (F : Fun K "_law_kinds" "_law_kinds" sKi f fd) (B : Blt mg) (R : KiT K mg cs) : FnOk P w K mg base CX0 1 f fd ["_law_error"] (spKi cs) := by
  refine F.ok scKi (fun vs H Q E h => ?_) (fun cdv A outer s H vs Q E hr h => ?_)
  · obtain ⟨j, a, fs, rfl, _⟩ := h
    rfl
  · obtain ⟨j, a, fs, rfl, hj, er, k⟩ := h
    refine ⟨_, (pss_cons (ps_set (i := 1) scKi.nd rfl (Or.inl rfl) (pe_op op_cat (pe_kind (i := 0) B.isinstance B.int (by rfl) (by rfl) (by rfl) (pv 0) (R.g0)) (pe_kind (i := 0) B.isinstance B.int (by rfl) (by rfl) (by rfl) (pv 0) (R.g1))))
      (pss_cons (ps_set (i := 1) scKi.nd rfl (Or.inl rfl) (pe_op op_cat (pe_op op_cat (pv 1) (pe_kind (i := 0) B.isinstance B.int (by rfl) (by rfl) (by rfl) (pv 0) (R.g2))) (pe_kind (i := 0) B.isinstance B.int (by rfl) (by rfl) (by rfl) (pv 0) (R.g5))))
       (pss_cons (ps_set (i := 1) scKi.nd rfl (Or.inl rfl) (pe_op op_cat (pe_op op_cat (pv 1) (pe_kind (i := 0) B.isinstance B.int (by rfl) (by rfl) (by rfl) (pv 0) (R.g3))) (pe_kind (i := 0) B.isinstance B.int (by rfl) (by rfl) (by rfl) (pv 0) (R.g4))))
        (pss_cons (ps_set (i := 1) scKi.nd rfl (Or.inl rfl) (pe_op op_cat (pe_op op_cat (pv 1) (pe_kind (i := 0) B.isinstance B.int (by rfl) (by rfl) (by rfl) (pv 0) (R.g6))) (pe_kind (i := 0) B.isinstance B.int (by rfl) (by rfl) (by rfl) (pv 0) (R.g14))))
         (pss_cons (ps_set (i := 1) scKi.nd rfl (Or.inl rfl) (pe_op op_cat (pe_op op_cat (pv 1) (pe_kind (i := 0) B.isinstance B.int (by rfl) (by rfl) (by rfl) (pv 0) (R.g7))) (pe_kind (i := 0) B.isinstance B.int (by rfl) (by rfl) (by rfl) (pv 0) (R.g10))))
          (pss_cons (ps_set (i := 1) scKi.nd rfl (Or.inl rfl) (pe_op op_cat (pe_op op_cat (pv 1) (pe_kind (i := 0) B.isinstance B.int (by rfl) (by rfl) (by rfl) (pv 0) (R.g8))) (pe_kind (i := 0) B.isinstance B.int (by rfl) (by rfl) (by rfl) (pv 0) (R.g12))))
           (pss_cons (ps_set (i := 1) scKi.nd rfl (Or.inl rfl) (pe_op op_cat (pe_op op_cat (pv 1) (pe_kind (i := 0) B.isinstance B.int (by rfl) (by rfl) (by rfl) (pv 0) (R.g9))) (pe_kind (i := 0) B.isinstance B.int (by rfl) (by rfl) (by rfl) (pv 0) (R.g13))))
            (pss_cons (ps_set (i := 1) scKi.nd rfl (Or.inl rfl) (pe_op op_cat (pe_op op_cat (pv 1) (pe_kind (i := 0) B.isinstance B.int (by rfl) (by rfl) (by rfl) (pv 0) (R.g11))) (pe_kind (i := 0) B.isinstance B.int (by rfl) (by rfl) (by rfl) (pv 0) (R.g18))))
             (pss_cons (ps_set (i := 1) scKi.nd rfl (Or.inl rfl) (pe_op op_cat (pe_op op_cat (pv 1) (pe_kind (i := 0) B.isinstance B.int (by rfl) (by rfl) (by rfl) (pv 0) (R.g15))) (pe_kind (i := 0) B.isinstance B.int (by rfl) (by rfl) (by rfl) (pv 0) (R.g20))))
              (pss_cons (ps_set (i := 1) scKi.nd rfl (Or.inl rfl) (pe_op op_cat (pe_op op_cat (pv 1) (pe_kind (i := 0) B.isinstance B.int (by rfl) (by rfl) (by rfl) (pv 0) (R.g16))) (pe_kind (i := 0) B.isinstance B.int (by rfl) (by rfl) (by rfl) (pv 0) (R.g17))))
               (pss_one (ps_ret (pe_op op_cat (pe_op op_cat (pv 1) (pe_kind (i := 0) B.isinstance B.int (by rfl) (by rfl) (by rfl) (pv 0) (R.g19))) (pe_kind (i := 0) B.isinstance B.int (by rfl) (by rfl) (by rfl) (pv 0) (R.g21))))))))))))))), ?_⟩
    have hi := R.isx j hj
    have kk : ∀ i, i < 22 → PySem.W.kitOne K (.ref (cs j)) (.ref (cs i)) = some (decide (i = j)) := fun i h => R.kk i j h hj
    have ln : ∀ n, n ≤ 100 → n ≤ sizeLine := fun n h => Nat.le_trans h (by rw [sizeLine_eq]; decide)
    have r1 : ∀ (b : Bool) (x : Str), (rp b x).length ≤ 1 := fun b x => by cases b <;> simp [rp]
    refine ⟨cs j, a, fs, _, rfl, hi, er, kk 0 (by decide), fun p0 H0 s0 f0 e0 => ⟨cs j, a, fs, _, rfl, hi, er.same s0, kk 1 (by decide), fun p1 H1 s1 f1 e1 => ⟨p0, p1, _, _, rfl, rfl, s1 _ _ e0, e1, ln _ ?_, fun q0 g0 => ?_⟩⟩⟩
    · have := r1 (decide (0 = j)) "BadMachine"; have := r1 (decide (1 = j)) "BadWords"; omega
    have t0 := Same.trans (Same.trans s0 s1) (same_upd (o := .lst (rp (decide (0 = j)) "BadMachine" ++ rp (decide (1 = j)) "BadWords")) g0)
    obtain ⟨L0, hL0, lL0, w0⟩ : ∃ L : List V, upd H1 q0 (.lst (rp (decide (0 = j)) "BadMachine" ++ rp (decide (1 = j)) "BadWords")) q0 = some (.lst L) ∧ L.length ≤ 2 ∧ L = (rp (decide (0 = j)) "BadMachine" ++ rp (decide (1 = j)) "BadWords") := ⟨_, upd_same, by have := r1 (decide (0 = j)) "BadMachine"; have := r1 (decide (1 = j)) "BadWords"; rw [List.length_append]; omega, rfl⟩
    generalize upd H1 q0 (.lst (rp (decide (0 = j)) "BadMachine" ++ rp (decide (1 = j)) "BadWords")) = G0 at t0 hL0
    clear s0 f0 e0 s1 f1 e1 g0
    refine ⟨_, rfl, cs j, a, fs, _, rfl, hi, er.same t0, kk 2 (by decide), fun p0 H0 s0 f0 e0 => ⟨q0, p0, _, _, rfl, rfl, s0 _ _ hL0, e0, ln _ ?_, fun q0 g0 => ⟨cs j, a, fs, _, rfl, hi, (er.same (Same.trans t0 s0)).same (same_upd g0), kk 5 (by decide), fun p1 H1 s1 f1 e1 => ⟨q0, p1, _, _, rfl, rfl, s1 _ _ upd_same, e1, ln _ ?_, fun q1 g1 => ?_⟩⟩⟩⟩
    · have := r1 (decide (2 = j)) "BadBlock"; omega
    · have := r1 (decide (2 = j)) "BadBlock"; have := r1 (decide (5 = j)) "BadMap"; rw [List.length_append]; omega
    have t1 := Same.trans (Same.trans (Same.trans t0 s0) (Same.trans (same_upd (o := .lst (L0 ++ rp (decide (2 = j)) "BadBlock")) g0) s1)) (same_upd (o := .lst ((L0 ++ rp (decide (2 = j)) "BadBlock") ++ rp (decide (5 = j)) "BadMap")) g1)
    obtain ⟨L1, hL1, lL1, w1⟩ : ∃ L : List V, upd H1 q1 (.lst ((L0 ++ rp (decide (2 = j)) "BadBlock") ++ rp (decide (5 = j)) "BadMap")) q1 = some (.lst L) ∧ L.length ≤ 4 ∧ L = (((rp (decide (0 = j)) "BadMachine" ++ rp (decide (1 = j)) "BadWords") ++ rp (decide (2 = j)) "BadBlock") ++ rp (decide (5 = j)) "BadMap") := ⟨_, upd_same, by have := r1 (decide (2 = j)) "BadBlock"; have := r1 (decide (5 = j)) "BadMap"; rw [List.length_append, List.length_append]; omega, by rw [w0]⟩
    generalize upd H1 q1 (.lst ((L0 ++ rp (decide (2 = j)) "BadBlock") ++ rp (decide (5 = j)) "BadMap")) = G1 at t1 hL1
    clear s0 f0 e0 s1 f1 e1 g0 g1 t0 hL0 lL0
    refine ⟨_, rfl, cs j, a, fs, _, rfl, hi, er.same t1, kk 3 (by decide), fun p0 H0 s0 f0 e0 => ⟨q1, p0, _, _, rfl, rfl, s0 _ _ hL1, e0, ln _ ?_, fun q0 g0 => ⟨cs j, a, fs, _, rfl, hi, (er.same (Same.trans t1 s0)).same (same_upd g0), kk 4 (by decide), fun p1 H1 s1 f1 e1 => ⟨q0, p1, _, _, rfl, rfl, s1 _ _ upd_same, e1, ln _ ?_, fun q1 g1 => ?_⟩⟩⟩⟩
    · have := r1 (decide (3 = j)) "BadProgram"; omega
    · have := r1 (decide (3 = j)) "BadProgram"; have := r1 (decide (4 = j)) "BadSum"; rw [List.length_append]; omega
    have t2 := Same.trans (Same.trans (Same.trans t1 s0) (Same.trans (same_upd (o := .lst (L1 ++ rp (decide (3 = j)) "BadProgram")) g0) s1)) (same_upd (o := .lst ((L1 ++ rp (decide (3 = j)) "BadProgram") ++ rp (decide (4 = j)) "BadSum")) g1)
    obtain ⟨L2, hL2, lL2, w2⟩ : ∃ L : List V, upd H1 q1 (.lst ((L1 ++ rp (decide (3 = j)) "BadProgram") ++ rp (decide (4 = j)) "BadSum")) q1 = some (.lst L) ∧ L.length ≤ 6 ∧ L = (((((rp (decide (0 = j)) "BadMachine" ++ rp (decide (1 = j)) "BadWords") ++ rp (decide (2 = j)) "BadBlock") ++ rp (decide (5 = j)) "BadMap") ++ rp (decide (3 = j)) "BadProgram") ++ rp (decide (4 = j)) "BadSum") := ⟨_, upd_same, by have := r1 (decide (3 = j)) "BadProgram"; have := r1 (decide (4 = j)) "BadSum"; rw [List.length_append, List.length_append]; omega, by rw [w1]⟩
    generalize upd H1 q1 (.lst ((L1 ++ rp (decide (3 = j)) "BadProgram") ++ rp (decide (4 = j)) "BadSum")) = G2 at t2 hL2
    clear s0 f0 e0 s1 f1 e1 g0 g1 t1 hL1 lL1
    refine ⟨_, rfl, cs j, a, fs, _, rfl, hi, er.same t2, kk 6 (by decide), fun p0 H0 s0 f0 e0 => ⟨q1, p0, _, _, rfl, rfl, s0 _ _ hL2, e0, ln _ ?_, fun q0 g0 => ⟨cs j, a, fs, _, rfl, hi, (er.same (Same.trans t2 s0)).same (same_upd g0), kk 14 (by decide), fun p1 H1 s1 f1 e1 => ⟨q0, p1, _, _, rfl, rfl, s1 _ _ upd_same, e1, ln _ ?_, fun q1 g1 => ?_⟩⟩⟩⟩
    · have := r1 (decide (6 = j)) "BadStand"; omega
    · have := r1 (decide (6 = j)) "BadStand"; have := r1 (decide (14 = j)) "BadRun"; rw [List.length_append]; omega
    have t3 := Same.trans (Same.trans (Same.trans t2 s0) (Same.trans (same_upd (o := .lst (L2 ++ rp (decide (6 = j)) "BadStand")) g0) s1)) (same_upd (o := .lst ((L2 ++ rp (decide (6 = j)) "BadStand") ++ rp (decide (14 = j)) "BadRun")) g1)
    obtain ⟨L3, hL3, lL3, w3⟩ : ∃ L : List V, upd H1 q1 (.lst ((L2 ++ rp (decide (6 = j)) "BadStand") ++ rp (decide (14 = j)) "BadRun")) q1 = some (.lst L) ∧ L.length ≤ 8 ∧ L = (((((((rp (decide (0 = j)) "BadMachine" ++ rp (decide (1 = j)) "BadWords") ++ rp (decide (2 = j)) "BadBlock") ++ rp (decide (5 = j)) "BadMap") ++ rp (decide (3 = j)) "BadProgram") ++ rp (decide (4 = j)) "BadSum") ++ rp (decide (6 = j)) "BadStand") ++ rp (decide (14 = j)) "BadRun") := ⟨_, upd_same, by have := r1 (decide (6 = j)) "BadStand"; have := r1 (decide (14 = j)) "BadRun"; rw [List.length_append, List.length_append]; omega, by rw [w2]⟩
    generalize upd H1 q1 (.lst ((L2 ++ rp (decide (6 = j)) "BadStand") ++ rp (decide (14 = j)) "BadRun")) = G3 at t3 hL3
    clear s0 f0 e0 s1 f1 e1 g0 g1 t2 hL2 lL2
    refine ⟨_, rfl, cs j, a, fs, _, rfl, hi, er.same t3, kk 7 (by decide), fun p0 H0 s0 f0 e0 => ⟨q1, p0, _, _, rfl, rfl, s0 _ _ hL3, e0, ln _ ?_, fun q0 g0 => ⟨cs j, a, fs, _, rfl, hi, (er.same (Same.trans t3 s0)).same (same_upd g0), kk 10 (by decide), fun p1 H1 s1 f1 e1 => ⟨q0, p1, _, _, rfl, rfl, s1 _ _ upd_same, e1, ln _ ?_, fun q1 g1 => ?_⟩⟩⟩⟩
    · have := r1 (decide (7 = j)) "BadTarget"; omega
    · have := r1 (decide (7 = j)) "BadTarget"; have := r1 (decide (10 = j)) "NoAxis"; rw [List.length_append]; omega
    have t4 := Same.trans (Same.trans (Same.trans t3 s0) (Same.trans (same_upd (o := .lst (L3 ++ rp (decide (7 = j)) "BadTarget")) g0) s1)) (same_upd (o := .lst ((L3 ++ rp (decide (7 = j)) "BadTarget") ++ rp (decide (10 = j)) "NoAxis")) g1)
    obtain ⟨L4, hL4, lL4, w4⟩ : ∃ L : List V, upd H1 q1 (.lst ((L3 ++ rp (decide (7 = j)) "BadTarget") ++ rp (decide (10 = j)) "NoAxis")) q1 = some (.lst L) ∧ L.length ≤ 10 ∧ L = (((((((((rp (decide (0 = j)) "BadMachine" ++ rp (decide (1 = j)) "BadWords") ++ rp (decide (2 = j)) "BadBlock") ++ rp (decide (5 = j)) "BadMap") ++ rp (decide (3 = j)) "BadProgram") ++ rp (decide (4 = j)) "BadSum") ++ rp (decide (6 = j)) "BadStand") ++ rp (decide (14 = j)) "BadRun") ++ rp (decide (7 = j)) "BadTarget") ++ rp (decide (10 = j)) "NoAxis") := ⟨_, upd_same, by have := r1 (decide (7 = j)) "BadTarget"; have := r1 (decide (10 = j)) "NoAxis"; rw [List.length_append, List.length_append]; omega, by rw [w3]⟩
    generalize upd H1 q1 (.lst ((L3 ++ rp (decide (7 = j)) "BadTarget") ++ rp (decide (10 = j)) "NoAxis")) = G4 at t4 hL4
    clear s0 f0 e0 s1 f1 e1 g0 g1 t3 hL3 lL3
    refine ⟨_, rfl, cs j, a, fs, _, rfl, hi, er.same t4, kk 8 (by decide), fun p0 H0 s0 f0 e0 => ⟨q1, p0, _, _, rfl, rfl, s0 _ _ hL4, e0, ln _ ?_, fun q0 g0 => ⟨cs j, a, fs, _, rfl, hi, (er.same (Same.trans t4 s0)).same (same_upd g0), kk 12 (by decide), fun p1 H1 s1 f1 e1 => ⟨q0, p1, _, _, rfl, rfl, s1 _ _ upd_same, e1, ln _ ?_, fun q1 g1 => ?_⟩⟩⟩⟩
    · have := r1 (decide (8 = j)) "BadPaper"; omega
    · have := r1 (decide (8 = j)) "BadPaper"; have := r1 (decide (12 = j)) "NoPlace"; rw [List.length_append]; omega
    have t5 := Same.trans (Same.trans (Same.trans t4 s0) (Same.trans (same_upd (o := .lst (L4 ++ rp (decide (8 = j)) "BadPaper")) g0) s1)) (same_upd (o := .lst ((L4 ++ rp (decide (8 = j)) "BadPaper") ++ rp (decide (12 = j)) "NoPlace")) g1)
    obtain ⟨L5, hL5, lL5, w5⟩ : ∃ L : List V, upd H1 q1 (.lst ((L4 ++ rp (decide (8 = j)) "BadPaper") ++ rp (decide (12 = j)) "NoPlace")) q1 = some (.lst L) ∧ L.length ≤ 12 ∧ L = (((((((((((rp (decide (0 = j)) "BadMachine" ++ rp (decide (1 = j)) "BadWords") ++ rp (decide (2 = j)) "BadBlock") ++ rp (decide (5 = j)) "BadMap") ++ rp (decide (3 = j)) "BadProgram") ++ rp (decide (4 = j)) "BadSum") ++ rp (decide (6 = j)) "BadStand") ++ rp (decide (14 = j)) "BadRun") ++ rp (decide (7 = j)) "BadTarget") ++ rp (decide (10 = j)) "NoAxis") ++ rp (decide (8 = j)) "BadPaper") ++ rp (decide (12 = j)) "NoPlace") := ⟨_, upd_same, by have := r1 (decide (8 = j)) "BadPaper"; have := r1 (decide (12 = j)) "NoPlace"; rw [List.length_append, List.length_append]; omega, by rw [w4]⟩
    generalize upd H1 q1 (.lst ((L4 ++ rp (decide (8 = j)) "BadPaper") ++ rp (decide (12 = j)) "NoPlace")) = G5 at t5 hL5
    clear s0 f0 e0 s1 f1 e1 g0 g1 t4 hL4 lL4
    refine ⟨_, rfl, cs j, a, fs, _, rfl, hi, er.same t5, kk 9 (by decide), fun p0 H0 s0 f0 e0 => ⟨q1, p0, _, _, rfl, rfl, s0 _ _ hL5, e0, ln _ ?_, fun q0 g0 => ⟨cs j, a, fs, _, rfl, hi, (er.same (Same.trans t5 s0)).same (same_upd g0), kk 13 (by decide), fun p1 H1 s1 f1 e1 => ⟨q0, p1, _, _, rfl, rfl, s1 _ _ upd_same, e1, ln _ ?_, fun q1 g1 => ?_⟩⟩⟩⟩
    · have := r1 (decide (9 = j)) "BadControl"; omega
    · have := r1 (decide (9 = j)) "BadControl"; have := r1 (decide (13 = j)) "NoNode"; rw [List.length_append]; omega
    have t6 := Same.trans (Same.trans (Same.trans t5 s0) (Same.trans (same_upd (o := .lst (L5 ++ rp (decide (9 = j)) "BadControl")) g0) s1)) (same_upd (o := .lst ((L5 ++ rp (decide (9 = j)) "BadControl") ++ rp (decide (13 = j)) "NoNode")) g1)
    obtain ⟨L6, hL6, lL6, w6⟩ : ∃ L : List V, upd H1 q1 (.lst ((L5 ++ rp (decide (9 = j)) "BadControl") ++ rp (decide (13 = j)) "NoNode")) q1 = some (.lst L) ∧ L.length ≤ 14 ∧ L = (((((((((((((rp (decide (0 = j)) "BadMachine" ++ rp (decide (1 = j)) "BadWords") ++ rp (decide (2 = j)) "BadBlock") ++ rp (decide (5 = j)) "BadMap") ++ rp (decide (3 = j)) "BadProgram") ++ rp (decide (4 = j)) "BadSum") ++ rp (decide (6 = j)) "BadStand") ++ rp (decide (14 = j)) "BadRun") ++ rp (decide (7 = j)) "BadTarget") ++ rp (decide (10 = j)) "NoAxis") ++ rp (decide (8 = j)) "BadPaper") ++ rp (decide (12 = j)) "NoPlace") ++ rp (decide (9 = j)) "BadControl") ++ rp (decide (13 = j)) "NoNode") := ⟨_, upd_same, by have := r1 (decide (9 = j)) "BadControl"; have := r1 (decide (13 = j)) "NoNode"; rw [List.length_append, List.length_append]; omega, by rw [w5]⟩
    generalize upd H1 q1 (.lst ((L5 ++ rp (decide (9 = j)) "BadControl") ++ rp (decide (13 = j)) "NoNode")) = G6 at t6 hL6
    clear s0 f0 e0 s1 f1 e1 g0 g1 t5 hL5 lL5
    refine ⟨_, rfl, cs j, a, fs, _, rfl, hi, er.same t6, kk 11 (by decide), fun p0 H0 s0 f0 e0 => ⟨q1, p0, _, _, rfl, rfl, s0 _ _ hL6, e0, ln _ ?_, fun q0 g0 => ⟨cs j, a, fs, _, rfl, hi, (er.same (Same.trans t6 s0)).same (same_upd g0), kk 18 (by decide), fun p1 H1 s1 f1 e1 => ⟨q0, p1, _, _, rfl, rfl, s1 _ _ upd_same, e1, ln _ ?_, fun q1 g1 => ?_⟩⟩⟩⟩
    · have := r1 (decide (11 = j)) "NoRegister"; omega
    · have := r1 (decide (11 = j)) "NoRegister"; have := r1 (decide (18 = j)) "Nothing"; rw [List.length_append]; omega
    have t7 := Same.trans (Same.trans (Same.trans t6 s0) (Same.trans (same_upd (o := .lst (L6 ++ rp (decide (11 = j)) "NoRegister")) g0) s1)) (same_upd (o := .lst ((L6 ++ rp (decide (11 = j)) "NoRegister") ++ rp (decide (18 = j)) "Nothing")) g1)
    obtain ⟨L7, hL7, lL7, w7⟩ : ∃ L : List V, upd H1 q1 (.lst ((L6 ++ rp (decide (11 = j)) "NoRegister") ++ rp (decide (18 = j)) "Nothing")) q1 = some (.lst L) ∧ L.length ≤ 16 ∧ L = (((((((((((((((rp (decide (0 = j)) "BadMachine" ++ rp (decide (1 = j)) "BadWords") ++ rp (decide (2 = j)) "BadBlock") ++ rp (decide (5 = j)) "BadMap") ++ rp (decide (3 = j)) "BadProgram") ++ rp (decide (4 = j)) "BadSum") ++ rp (decide (6 = j)) "BadStand") ++ rp (decide (14 = j)) "BadRun") ++ rp (decide (7 = j)) "BadTarget") ++ rp (decide (10 = j)) "NoAxis") ++ rp (decide (8 = j)) "BadPaper") ++ rp (decide (12 = j)) "NoPlace") ++ rp (decide (9 = j)) "BadControl") ++ rp (decide (13 = j)) "NoNode") ++ rp (decide (11 = j)) "NoRegister") ++ rp (decide (18 = j)) "Nothing") := ⟨_, upd_same, by have := r1 (decide (11 = j)) "NoRegister"; have := r1 (decide (18 = j)) "Nothing"; rw [List.length_append, List.length_append]; omega, by rw [w6]⟩
    generalize upd H1 q1 (.lst ((L6 ++ rp (decide (11 = j)) "NoRegister") ++ rp (decide (18 = j)) "Nothing")) = G7 at t7 hL7
    clear s0 f0 e0 s1 f1 e1 g0 g1 t6 hL6 lL6
    refine ⟨_, rfl, cs j, a, fs, _, rfl, hi, er.same t7, kk 15 (by decide), fun p0 H0 s0 f0 e0 => ⟨q1, p0, _, _, rfl, rfl, s0 _ _ hL7, e0, ln _ ?_, fun q0 g0 => ⟨cs j, a, fs, _, rfl, hi, (er.same (Same.trans t7 s0)).same (same_upd g0), kk 20 (by decide), fun p1 H1 s1 f1 e1 => ⟨q0, p1, _, _, rfl, rfl, s1 _ _ upd_same, e1, ln _ ?_, fun q1 g1 => ?_⟩⟩⟩⟩
    · have := r1 (decide (15 = j)) "BadPreamble"; omega
    · have := r1 (decide (15 = j)) "BadPreamble"; have := r1 (decide (20 = j)) "BadText"; rw [List.length_append]; omega
    have t8 := Same.trans (Same.trans (Same.trans t7 s0) (Same.trans (same_upd (o := .lst (L7 ++ rp (decide (15 = j)) "BadPreamble")) g0) s1)) (same_upd (o := .lst ((L7 ++ rp (decide (15 = j)) "BadPreamble") ++ rp (decide (20 = j)) "BadText")) g1)
    obtain ⟨L8, hL8, lL8, w8⟩ : ∃ L : List V, upd H1 q1 (.lst ((L7 ++ rp (decide (15 = j)) "BadPreamble") ++ rp (decide (20 = j)) "BadText")) q1 = some (.lst L) ∧ L.length ≤ 18 ∧ L = (((((((((((((((((rp (decide (0 = j)) "BadMachine" ++ rp (decide (1 = j)) "BadWords") ++ rp (decide (2 = j)) "BadBlock") ++ rp (decide (5 = j)) "BadMap") ++ rp (decide (3 = j)) "BadProgram") ++ rp (decide (4 = j)) "BadSum") ++ rp (decide (6 = j)) "BadStand") ++ rp (decide (14 = j)) "BadRun") ++ rp (decide (7 = j)) "BadTarget") ++ rp (decide (10 = j)) "NoAxis") ++ rp (decide (8 = j)) "BadPaper") ++ rp (decide (12 = j)) "NoPlace") ++ rp (decide (9 = j)) "BadControl") ++ rp (decide (13 = j)) "NoNode") ++ rp (decide (11 = j)) "NoRegister") ++ rp (decide (18 = j)) "Nothing") ++ rp (decide (15 = j)) "BadPreamble") ++ rp (decide (20 = j)) "BadText") := ⟨_, upd_same, by have := r1 (decide (15 = j)) "BadPreamble"; have := r1 (decide (20 = j)) "BadText"; rw [List.length_append, List.length_append]; omega, by rw [w7]⟩
    generalize upd H1 q1 (.lst ((L7 ++ rp (decide (15 = j)) "BadPreamble") ++ rp (decide (20 = j)) "BadText")) = G8 at t8 hL8
    clear s0 f0 e0 s1 f1 e1 g0 g1 t7 hL7 lL7
    refine ⟨_, rfl, cs j, a, fs, _, rfl, hi, er.same t8, kk 16 (by decide), fun p0 H0 s0 f0 e0 => ⟨q1, p0, _, _, rfl, rfl, s0 _ _ hL8, e0, ln _ ?_, fun q0 g0 => ⟨cs j, a, fs, _, rfl, hi, (er.same (Same.trans t8 s0)).same (same_upd g0), kk 17 (by decide), fun p1 H1 s1 f1 e1 => ⟨q0, p1, _, _, rfl, rfl, s1 _ _ upd_same, e1, ln _ ?_, fun q1 g1 => ?_⟩⟩⟩⟩
    · have := r1 (decide (16 = j)) "Stopped"; omega
    · have := r1 (decide (16 = j)) "Stopped"; have := r1 (decide (17 = j)) "Running"; rw [List.length_append]; omega
    have t9 := Same.trans (Same.trans (Same.trans t8 s0) (Same.trans (same_upd (o := .lst (L8 ++ rp (decide (16 = j)) "Stopped")) g0) s1)) (same_upd (o := .lst ((L8 ++ rp (decide (16 = j)) "Stopped") ++ rp (decide (17 = j)) "Running")) g1)
    obtain ⟨L9, hL9, lL9, w9⟩ : ∃ L : List V, upd H1 q1 (.lst ((L8 ++ rp (decide (16 = j)) "Stopped") ++ rp (decide (17 = j)) "Running")) q1 = some (.lst L) ∧ L.length ≤ 20 ∧ L = (((((((((((((((((((rp (decide (0 = j)) "BadMachine" ++ rp (decide (1 = j)) "BadWords") ++ rp (decide (2 = j)) "BadBlock") ++ rp (decide (5 = j)) "BadMap") ++ rp (decide (3 = j)) "BadProgram") ++ rp (decide (4 = j)) "BadSum") ++ rp (decide (6 = j)) "BadStand") ++ rp (decide (14 = j)) "BadRun") ++ rp (decide (7 = j)) "BadTarget") ++ rp (decide (10 = j)) "NoAxis") ++ rp (decide (8 = j)) "BadPaper") ++ rp (decide (12 = j)) "NoPlace") ++ rp (decide (9 = j)) "BadControl") ++ rp (decide (13 = j)) "NoNode") ++ rp (decide (11 = j)) "NoRegister") ++ rp (decide (18 = j)) "Nothing") ++ rp (decide (15 = j)) "BadPreamble") ++ rp (decide (20 = j)) "BadText") ++ rp (decide (16 = j)) "Stopped") ++ rp (decide (17 = j)) "Running") := ⟨_, upd_same, by have := r1 (decide (16 = j)) "Stopped"; have := r1 (decide (17 = j)) "Running"; rw [List.length_append, List.length_append]; omega, by rw [w8]⟩
    generalize upd H1 q1 (.lst ((L8 ++ rp (decide (16 = j)) "Stopped") ++ rp (decide (17 = j)) "Running")) = G9 at t9 hL9
    clear s0 f0 e0 s1 f1 e1 g0 g1 t8 hL8 lL8
    refine ⟨_, rfl, cs j, a, fs, _, rfl, hi, er.same t9, kk 19 (by decide), fun p0 H0 s0 f0 e0 => ⟨q1, p0, _, _, rfl, rfl, s0 _ _ hL9, e0, ln _ ?_, fun q0 g0 => ⟨cs j, a, fs, _, rfl, hi, (er.same (Same.trans t9 s0)).same (same_upd g0), kk 21 (by decide), fun p1 H1 s1 f1 e1 => ⟨q0, p1, _, _, rfl, rfl, s1 _ _ upd_same, e1, ln _ ?_, fun q1 g1 => ?_⟩⟩⟩⟩
    · have := r1 (decide (19 = j)) "TooMany"; omega
    · have := r1 (decide (19 = j)) "TooMany"; have := r1 (decide (21 = j)) "BadLine"; rw [List.length_append]; omega
    have t10 := Same.trans (Same.trans (Same.trans t9 s0) (Same.trans (same_upd (o := .lst (L9 ++ rp (decide (19 = j)) "TooMany")) g0) s1)) (same_upd (o := .lst ((L9 ++ rp (decide (19 = j)) "TooMany") ++ rp (decide (21 = j)) "BadLine")) g1)
    obtain ⟨L10, hL10, lL10, w10⟩ : ∃ L : List V, upd H1 q1 (.lst ((L9 ++ rp (decide (19 = j)) "TooMany") ++ rp (decide (21 = j)) "BadLine")) q1 = some (.lst L) ∧ L.length ≤ 22 ∧ L = (((((((((((((((((((((rp (decide (0 = j)) "BadMachine" ++ rp (decide (1 = j)) "BadWords") ++ rp (decide (2 = j)) "BadBlock") ++ rp (decide (5 = j)) "BadMap") ++ rp (decide (3 = j)) "BadProgram") ++ rp (decide (4 = j)) "BadSum") ++ rp (decide (6 = j)) "BadStand") ++ rp (decide (14 = j)) "BadRun") ++ rp (decide (7 = j)) "BadTarget") ++ rp (decide (10 = j)) "NoAxis") ++ rp (decide (8 = j)) "BadPaper") ++ rp (decide (12 = j)) "NoPlace") ++ rp (decide (9 = j)) "BadControl") ++ rp (decide (13 = j)) "NoNode") ++ rp (decide (11 = j)) "NoRegister") ++ rp (decide (18 = j)) "Nothing") ++ rp (decide (15 = j)) "BadPreamble") ++ rp (decide (20 = j)) "BadText") ++ rp (decide (16 = j)) "Stopped") ++ rp (decide (17 = j)) "Running") ++ rp (decide (19 = j)) "TooMany") ++ rp (decide (21 = j)) "BadLine") := ⟨_, upd_same, by have := r1 (decide (19 = j)) "TooMany"; have := r1 (decide (21 = j)) "BadLine"; rw [List.length_append, List.length_append]; omega, by rw [w9]⟩
    refine k q1 _ t10 ?_ (by rw [hL10, w10]; exact congrArg (fun l => some (HO.lst l)) (catK_eq ⟨j, hj⟩))
    exact (Same.trans (Same.trans t9 s0) (Same.trans (same_upd (o := .lst (L9 ++ rp (decide (19 = j)) "TooMany")) g0) s1)).free g1
end K00
set_option Elab.async false
set_option linter.all false
set_option maxRecDepth 100000
set_option maxHeartbeats 2000000
namespace K00
open PySem PySem.Spec PyProof.Rows L2 My
abbrev sFl : Stmt := top 39
abbrev sNa : Stmt := top 40
theorem ifF {c : Bool} {A B : Prop} (h : c = false) (b : B) : if c = true then A else B := by
  rw [h]
  exact b
theorem ifT {c : Bool} {A B : Prop} (h : c = true) (a : A) : if c = true then A else B := by
  rw [h]
  exact a
/-- what the law takes out of the j-th -/
def outs (j : Nat) (x y : V) : List V := match j with
  | 13 => [x, y]
  | 19 => [x, y]
  | 20 => [x, y]
  | 21 => [x, y]
  | 18 => []
  | _ => [x]
structure FlT (K : PySem.W.Frag) (cs : Nat → Addr) : Prop where
  xf : ∀ j, j < 22 → XfC K (cs j)
  no : ∀ j, j < 22 → ∀ z ∈ flds j .non .non, PySem.W.findIn K (.ref (cs j)) z.1 = some none
def spFl (cs : Nat → Addr) : Sp := fun vs H Q _ => ∃ (j a : Nat) (nm : Str) (x y : V), vs = [.str nm, .ref a] ∧ nms[j]? = some nm ∧ MyC.ErA H a (cs j) (flds j x y) ∧ ∀ p H', Same H H' → H p = none → H' p = some (.lst (outs j x y)) → Q (.ref p) H'
abbrev flN : List Str := ["_law_name", "_law_error"]
theorem scFl : FnScope flN flN (defScope sFl) := ⟨rfl, rfl, rfl, by decide +kernel, rfl, by decide +kernel, by decide +kernel⟩
theorem ok_fields {P : Program} {w : World} {K : PySem.W.Frag} {mg : Str → Option Value} {base : Heap} {cs : Nat → Addr} {f : Addr} {fd : FuncData} (F : Fun K "_law_fields" "_law_fields" sFl f fd) (R : FlT K cs) : FnOk P w K mg base CX0 1 f fd flN (spFl cs) := by
  refine F.ok scFl (fun vs H Q E h => ?_) (fun cdv A outer s H vs Q E hr h => ?_)
  · obtain ⟨j, a, nm, x, y, rfl, _⟩ := h
    rfl
  · obtain ⟨j, a, nm, x, y, rfl, hj, er, k⟩ := h
    refine ⟨_, (pss_cons (ps_if (pt_cmpR op_eq (pv 0) pe_str (nomark _)) (pss_one (ps_ret (pe_lst (pa_cons (MyC.pe_fldE (pv 1)) pa_nil)))) pss_nil)
      (pss_cons (ps_if (pt_cmpR op_eq (pv 0) pe_str (nomark _)) (pss_one (ps_ret (pe_lst (pa_cons (MyC.pe_fldE (pv 1)) pa_nil)))) pss_nil)
       (pss_cons (ps_if (pt_cmpR op_in_seq (pv 0) (pe_tup (pa_cons pe_str (pa_cons pe_str (pa_cons pe_str pa_nil)))) (by rfl)) (pss_one (ps_ret (pe_lst (pa_cons (MyC.pe_fldE (pv 1)) pa_nil)))) pss_nil)
        (pss_cons (ps_if (pt_cmpR op_eq (pv 0) pe_str (nomark _)) (pss_one (ps_ret (pe_lst (pa_cons (MyC.pe_fldE (pv 1)) (pa_cons (MyC.pe_fldE (pv 1)) pa_nil))))) pss_nil)
         (pss_cons (ps_if (pt_cmpR op_in_seq (pv 0) (pe_tup (pa_cons pe_str (pa_cons pe_str pa_nil))) (by rfl)) (pss_one (ps_ret (pe_lst (pa_cons (MyC.pe_fldE (pv 1)) pa_nil)))) pss_nil)
          (pss_cons (ps_if (pt_cmpR op_eq (pv 0) pe_str (nomark _)) (pss_one (ps_ret (pe_lst (pa_cons (MyC.pe_fldE (pv 1)) (pa_cons (MyC.pe_fldE (pv 1)) pa_nil))))) pss_nil)
           (pss_cons (ps_if (pt_cmpR op_eq (pv 0) pe_str (nomark _)) (pss_one (ps_ret (pe_lst (pa_cons (MyC.pe_fldE (pv 1)) (pa_cons (MyC.pe_fldE (pv 1)) pa_nil))))) pss_nil)
            (pss_cons (ps_if (pt_cmpR op_eq (pv 0) pe_str (nomark _)) (pss_one (ps_ret (pe_lst (pa_cons (MyC.pe_fldE (pv 1)) (pa_cons (MyC.pe_fldE (pv 1)) pa_nil))))) pss_nil)
             (pss_one (ps_ret (pe_ifExp (pt_cmpR op_eq (pv 0) pe_str (nomark _)) (pe_lst pa_nil) (pe_lst (pa_cons (MyC.pe_fldE (pv 1)) pa_nil))))))))))))), ?_⟩
    have hj22 : j < 22 := (List.getElem?_eq_some_iff.mp hj).1
    have xf := R.xf j hj22
    have no := R.no j hj22
    have er0 : ∀ {H' : Hp} {C : Addr} {z : Str × V} {zs : List (Str × V)}, MyC.ErA H' a C (z :: zs) → ∃ d, H' a = some (exo a C (some d)) ∧ H' d = some (exd d (z :: zs)) := fun h => by
      rcases h with ⟨d, h1, h2⟩ | ⟨h1, _⟩
      · exact ⟨d, h1, h2⟩
      · cases h1
    match j, hj22, hj, er, k, xf, no with
    | 0, _, hj, er, k, xf, no =>
      cases Option.some.inj hj
      refine ⟨_, rfl, rfl, _, rfl, ifd (fun h => absurd h (by decide +kernel)) fun _ => ?_⟩
      refine ⟨_, rfl, rfl, _, rfl, ifd (fun h => absurd h (by decide +kernel)) fun _ => ?_⟩
      refine ⟨_, rfl, (show 3 ≤ sizeLine by decide), fun p0 f0 => ⟨p0, _, rfl, .inr (SqT.of upd_same), rfl, rfl, _, rfl, ifF (by decide +kernel) ?_⟩⟩
      have s0 := same_upd (o := .tup [.str "NoPlace", .str "Stopped", .str "Running"]) f0
      generalize upd H p0 (.tup [.str "NoPlace", .str "Stopped", .str "Running"]) = G0 at s0 ⊢
      refine ⟨_, rfl, rfl, _, rfl, ifd (fun h => absurd h (by decide +kernel)) fun _ => ?_⟩
      refine ⟨_, rfl, (show 2 ≤ sizeLine by decide), fun p1 f1 => ⟨p1, _, rfl, .inr (SqT.of upd_same), rfl, rfl, _, rfl, ifF (by decide +kernel) ?_⟩⟩
      have s1 := same_upd (o := .tup [.str "BadRun", .str "BadPreamble"]) f1
      generalize upd G0 p1 (.tup [.str "BadRun", .str "BadPreamble"]) = G1 at s1 ⊢
      refine ⟨_, rfl, rfl, _, rfl, ifd (fun h => absurd h (by decide +kernel)) fun _ => ?_⟩
      refine ⟨_, rfl, rfl, _, rfl, ifd (fun h => absurd h (by decide +kernel)) fun _ => ?_⟩
      refine ⟨_, rfl, rfl, _, rfl, ifd (fun h => absurd h (by decide +kernel)) fun _ => ?_⟩
      refine ⟨_, rfl, rfl, _, rfl, ifd (fun h => absurd h (by decide +kernel)) fun _ => ?_⟩
      obtain ⟨d, ea, ed⟩ := er0 (er.same (Same.trans s0 s1))
      exact ⟨_, rfl, a, _, d, _, _, rfl, xf, no _ (List.mem_cons_self ..), ea, ed, rfl, (show 1 ≤ sizeLine by decide), fun p fp => k p _ (Same.trans (Same.trans s0 s1) (same_upd fp)) (Same.free (Same.trans s0 s1) fp) upd_same⟩
    | 1, _, hj, er, k, xf, no =>
      cases Option.some.inj hj
      refine ⟨_, rfl, rfl, _, rfl, ifd (fun h => absurd h (by decide +kernel)) fun _ => ?_⟩
      refine ⟨_, rfl, rfl, _, rfl, ifd (fun h => absurd h (by decide +kernel)) fun _ => ?_⟩
      refine ⟨_, rfl, (show 3 ≤ sizeLine by decide), fun p0 f0 => ⟨p0, _, rfl, .inr (SqT.of upd_same), rfl, rfl, _, rfl, ifF (by decide +kernel) ?_⟩⟩
      have s0 := same_upd (o := .tup [.str "NoPlace", .str "Stopped", .str "Running"]) f0
      generalize upd H p0 (.tup [.str "NoPlace", .str "Stopped", .str "Running"]) = G0 at s0 ⊢
      refine ⟨_, rfl, rfl, _, rfl, ifd (fun h => absurd h (by decide +kernel)) fun _ => ?_⟩
      refine ⟨_, rfl, (show 2 ≤ sizeLine by decide), fun p1 f1 => ⟨p1, _, rfl, .inr (SqT.of upd_same), rfl, rfl, _, rfl, ifF (by decide +kernel) ?_⟩⟩
      have s1 := same_upd (o := .tup [.str "BadRun", .str "BadPreamble"]) f1
      generalize upd G0 p1 (.tup [.str "BadRun", .str "BadPreamble"]) = G1 at s1 ⊢
      refine ⟨_, rfl, rfl, _, rfl, ifd (fun h => absurd h (by decide +kernel)) fun _ => ?_⟩
      refine ⟨_, rfl, rfl, _, rfl, ifd (fun h => absurd h (by decide +kernel)) fun _ => ?_⟩
      refine ⟨_, rfl, rfl, _, rfl, ifd (fun h => absurd h (by decide +kernel)) fun _ => ?_⟩
      refine ⟨_, rfl, rfl, _, rfl, ifd (fun h => absurd h (by decide +kernel)) fun _ => ?_⟩
      obtain ⟨d, ea, ed⟩ := er0 (er.same (Same.trans s0 s1))
      exact ⟨_, rfl, a, _, d, _, _, rfl, xf, no _ (List.mem_cons_self ..), ea, ed, rfl, (show 1 ≤ sizeLine by decide), fun p fp => k p _ (Same.trans (Same.trans s0 s1) (same_upd fp)) (Same.free (Same.trans s0 s1) fp) upd_same⟩
    | 2, _, hj, er, k, xf, no =>
      cases Option.some.inj hj
      refine ⟨_, rfl, rfl, _, rfl, ifd (fun h => absurd h (by decide +kernel)) fun _ => ?_⟩
      refine ⟨_, rfl, rfl, _, rfl, ifd (fun h => absurd h (by decide +kernel)) fun _ => ?_⟩
      refine ⟨_, rfl, (show 3 ≤ sizeLine by decide), fun p0 f0 => ⟨p0, _, rfl, .inr (SqT.of upd_same), rfl, rfl, _, rfl, ifF (by decide +kernel) ?_⟩⟩
      have s0 := same_upd (o := .tup [.str "NoPlace", .str "Stopped", .str "Running"]) f0
      generalize upd H p0 (.tup [.str "NoPlace", .str "Stopped", .str "Running"]) = G0 at s0 ⊢
      refine ⟨_, rfl, rfl, _, rfl, ifd (fun h => absurd h (by decide +kernel)) fun _ => ?_⟩
      refine ⟨_, rfl, (show 2 ≤ sizeLine by decide), fun p1 f1 => ⟨p1, _, rfl, .inr (SqT.of upd_same), rfl, rfl, _, rfl, ifF (by decide +kernel) ?_⟩⟩
      have s1 := same_upd (o := .tup [.str "BadRun", .str "BadPreamble"]) f1
      generalize upd G0 p1 (.tup [.str "BadRun", .str "BadPreamble"]) = G1 at s1 ⊢
      refine ⟨_, rfl, rfl, _, rfl, ifd (fun h => absurd h (by decide +kernel)) fun _ => ?_⟩
      refine ⟨_, rfl, rfl, _, rfl, ifd (fun h => absurd h (by decide +kernel)) fun _ => ?_⟩
      refine ⟨_, rfl, rfl, _, rfl, ifd (fun h => absurd h (by decide +kernel)) fun _ => ?_⟩
      refine ⟨_, rfl, rfl, _, rfl, ifd (fun h => absurd h (by decide +kernel)) fun _ => ?_⟩
      obtain ⟨d, ea, ed⟩ := er0 (er.same (Same.trans s0 s1))
      exact ⟨_, rfl, a, _, d, _, _, rfl, xf, no _ (List.mem_cons_self ..), ea, ed, rfl, (show 1 ≤ sizeLine by decide), fun p fp => k p _ (Same.trans (Same.trans s0 s1) (same_upd fp)) (Same.free (Same.trans s0 s1) fp) upd_same⟩
    | 3, _, hj, er, k, xf, no =>
      cases Option.some.inj hj
      refine ⟨_, rfl, rfl, _, rfl, ifd (fun h => absurd h (by decide +kernel)) fun _ => ?_⟩
      refine ⟨_, rfl, rfl, _, rfl, ifd (fun h => absurd h (by decide +kernel)) fun _ => ?_⟩
      refine ⟨_, rfl, (show 3 ≤ sizeLine by decide), fun p0 f0 => ⟨p0, _, rfl, .inr (SqT.of upd_same), rfl, rfl, _, rfl, ifF (by decide +kernel) ?_⟩⟩
      have s0 := same_upd (o := .tup [.str "NoPlace", .str "Stopped", .str "Running"]) f0
      generalize upd H p0 (.tup [.str "NoPlace", .str "Stopped", .str "Running"]) = G0 at s0 ⊢
      refine ⟨_, rfl, rfl, _, rfl, ifd (fun h => absurd h (by decide +kernel)) fun _ => ?_⟩
      refine ⟨_, rfl, (show 2 ≤ sizeLine by decide), fun p1 f1 => ⟨p1, _, rfl, .inr (SqT.of upd_same), rfl, rfl, _, rfl, ifF (by decide +kernel) ?_⟩⟩
      have s1 := same_upd (o := .tup [.str "BadRun", .str "BadPreamble"]) f1
      generalize upd G0 p1 (.tup [.str "BadRun", .str "BadPreamble"]) = G1 at s1 ⊢
      refine ⟨_, rfl, rfl, _, rfl, ifd (fun h => absurd h (by decide +kernel)) fun _ => ?_⟩
      refine ⟨_, rfl, rfl, _, rfl, ifd (fun h => absurd h (by decide +kernel)) fun _ => ?_⟩
      refine ⟨_, rfl, rfl, _, rfl, ifd (fun h => absurd h (by decide +kernel)) fun _ => ?_⟩
      refine ⟨_, rfl, rfl, _, rfl, ifd (fun h => absurd h (by decide +kernel)) fun _ => ?_⟩
      obtain ⟨d, ea, ed⟩ := er0 (er.same (Same.trans s0 s1))
      exact ⟨_, rfl, a, _, d, _, _, rfl, xf, no _ (List.mem_cons_self ..), ea, ed, rfl, (show 1 ≤ sizeLine by decide), fun p fp => k p _ (Same.trans (Same.trans s0 s1) (same_upd fp)) (Same.free (Same.trans s0 s1) fp) upd_same⟩
    | 4, _, hj, er, k, xf, no =>
      cases Option.some.inj hj
      refine ⟨_, rfl, rfl, _, rfl, ifd (fun h => absurd h (by decide +kernel)) fun _ => ?_⟩
      refine ⟨_, rfl, rfl, _, rfl, ifd (fun h => absurd h (by decide +kernel)) fun _ => ?_⟩
      refine ⟨_, rfl, (show 3 ≤ sizeLine by decide), fun p0 f0 => ⟨p0, _, rfl, .inr (SqT.of upd_same), rfl, rfl, _, rfl, ifF (by decide +kernel) ?_⟩⟩
      have s0 := same_upd (o := .tup [.str "NoPlace", .str "Stopped", .str "Running"]) f0
      generalize upd H p0 (.tup [.str "NoPlace", .str "Stopped", .str "Running"]) = G0 at s0 ⊢
      refine ⟨_, rfl, rfl, _, rfl, ifd (fun h => absurd h (by decide +kernel)) fun _ => ?_⟩
      refine ⟨_, rfl, (show 2 ≤ sizeLine by decide), fun p1 f1 => ⟨p1, _, rfl, .inr (SqT.of upd_same), rfl, rfl, _, rfl, ifF (by decide +kernel) ?_⟩⟩
      have s1 := same_upd (o := .tup [.str "BadRun", .str "BadPreamble"]) f1
      generalize upd G0 p1 (.tup [.str "BadRun", .str "BadPreamble"]) = G1 at s1 ⊢
      refine ⟨_, rfl, rfl, _, rfl, ifd (fun h => absurd h (by decide +kernel)) fun _ => ?_⟩
      refine ⟨_, rfl, rfl, _, rfl, ifd (fun h => absurd h (by decide +kernel)) fun _ => ?_⟩
      refine ⟨_, rfl, rfl, _, rfl, ifd (fun h => absurd h (by decide +kernel)) fun _ => ?_⟩
      refine ⟨_, rfl, rfl, _, rfl, ifd (fun h => absurd h (by decide +kernel)) fun _ => ?_⟩
      obtain ⟨d, ea, ed⟩ := er0 (er.same (Same.trans s0 s1))
      exact ⟨_, rfl, a, _, d, _, _, rfl, xf, no _ (List.mem_cons_self ..), ea, ed, rfl, (show 1 ≤ sizeLine by decide), fun p fp => k p _ (Same.trans (Same.trans s0 s1) (same_upd fp)) (Same.free (Same.trans s0 s1) fp) upd_same⟩
    | 5, _, hj, er, k, xf, no =>
      cases Option.some.inj hj
      refine ⟨_, rfl, rfl, _, rfl, ifd (fun h => absurd h (by decide +kernel)) fun _ => ?_⟩
      refine ⟨_, rfl, rfl, _, rfl, ifd (fun h => absurd h (by decide +kernel)) fun _ => ?_⟩
      refine ⟨_, rfl, (show 3 ≤ sizeLine by decide), fun p0 f0 => ⟨p0, _, rfl, .inr (SqT.of upd_same), rfl, rfl, _, rfl, ifF (by decide +kernel) ?_⟩⟩
      have s0 := same_upd (o := .tup [.str "NoPlace", .str "Stopped", .str "Running"]) f0
      generalize upd H p0 (.tup [.str "NoPlace", .str "Stopped", .str "Running"]) = G0 at s0 ⊢
      refine ⟨_, rfl, rfl, _, rfl, ifd (fun h => absurd h (by decide +kernel)) fun _ => ?_⟩
      refine ⟨_, rfl, (show 2 ≤ sizeLine by decide), fun p1 f1 => ⟨p1, _, rfl, .inr (SqT.of upd_same), rfl, rfl, _, rfl, ifF (by decide +kernel) ?_⟩⟩
      have s1 := same_upd (o := .tup [.str "BadRun", .str "BadPreamble"]) f1
      generalize upd G0 p1 (.tup [.str "BadRun", .str "BadPreamble"]) = G1 at s1 ⊢
      refine ⟨_, rfl, rfl, _, rfl, ifd (fun h => absurd h (by decide +kernel)) fun _ => ?_⟩
      refine ⟨_, rfl, rfl, _, rfl, ifd (fun h => absurd h (by decide +kernel)) fun _ => ?_⟩
      refine ⟨_, rfl, rfl, _, rfl, ifd (fun h => absurd h (by decide +kernel)) fun _ => ?_⟩
      refine ⟨_, rfl, rfl, _, rfl, ifd (fun h => absurd h (by decide +kernel)) fun _ => ?_⟩
      obtain ⟨d, ea, ed⟩ := er0 (er.same (Same.trans s0 s1))
      exact ⟨_, rfl, a, _, d, _, _, rfl, xf, no _ (List.mem_cons_self ..), ea, ed, rfl, (show 1 ≤ sizeLine by decide), fun p fp => k p _ (Same.trans (Same.trans s0 s1) (same_upd fp)) (Same.free (Same.trans s0 s1) fp) upd_same⟩
    | 6, _, hj, er, k, xf, no =>
      cases Option.some.inj hj
      refine ⟨_, rfl, rfl, _, rfl, ifd (fun h => absurd h (by decide +kernel)) fun _ => ?_⟩
      refine ⟨_, rfl, rfl, _, rfl, ifd (fun h => absurd h (by decide +kernel)) fun _ => ?_⟩
      refine ⟨_, rfl, (show 3 ≤ sizeLine by decide), fun p0 f0 => ⟨p0, _, rfl, .inr (SqT.of upd_same), rfl, rfl, _, rfl, ifF (by decide +kernel) ?_⟩⟩
      have s0 := same_upd (o := .tup [.str "NoPlace", .str "Stopped", .str "Running"]) f0
      generalize upd H p0 (.tup [.str "NoPlace", .str "Stopped", .str "Running"]) = G0 at s0 ⊢
      refine ⟨_, rfl, rfl, _, rfl, ifd (fun h => absurd h (by decide +kernel)) fun _ => ?_⟩
      refine ⟨_, rfl, (show 2 ≤ sizeLine by decide), fun p1 f1 => ⟨p1, _, rfl, .inr (SqT.of upd_same), rfl, rfl, _, rfl, ifF (by decide +kernel) ?_⟩⟩
      have s1 := same_upd (o := .tup [.str "BadRun", .str "BadPreamble"]) f1
      generalize upd G0 p1 (.tup [.str "BadRun", .str "BadPreamble"]) = G1 at s1 ⊢
      refine ⟨_, rfl, rfl, _, rfl, ifd (fun h => absurd h (by decide +kernel)) fun _ => ?_⟩
      refine ⟨_, rfl, rfl, _, rfl, ifd (fun h => absurd h (by decide +kernel)) fun _ => ?_⟩
      refine ⟨_, rfl, rfl, _, rfl, ifd (fun h => absurd h (by decide +kernel)) fun _ => ?_⟩
      refine ⟨_, rfl, rfl, _, rfl, ifd (fun h => absurd h (by decide +kernel)) fun _ => ?_⟩
      obtain ⟨d, ea, ed⟩ := er0 (er.same (Same.trans s0 s1))
      exact ⟨_, rfl, a, _, d, _, _, rfl, xf, no _ (List.mem_cons_self ..), ea, ed, rfl, (show 1 ≤ sizeLine by decide), fun p fp => k p _ (Same.trans (Same.trans s0 s1) (same_upd fp)) (Same.free (Same.trans s0 s1) fp) upd_same⟩
    | 7, _, hj, er, k, xf, no =>
      cases Option.some.inj hj
      refine ⟨_, rfl, rfl, _, rfl, ifd (fun h => absurd h (by decide +kernel)) fun _ => ?_⟩
      refine ⟨_, rfl, rfl, _, rfl, ifd (fun h => absurd h (by decide +kernel)) fun _ => ?_⟩
      refine ⟨_, rfl, (show 3 ≤ sizeLine by decide), fun p0 f0 => ⟨p0, _, rfl, .inr (SqT.of upd_same), rfl, rfl, _, rfl, ifF (by decide +kernel) ?_⟩⟩
      have s0 := same_upd (o := .tup [.str "NoPlace", .str "Stopped", .str "Running"]) f0
      generalize upd H p0 (.tup [.str "NoPlace", .str "Stopped", .str "Running"]) = G0 at s0 ⊢
      refine ⟨_, rfl, rfl, _, rfl, ifd (fun h => absurd h (by decide +kernel)) fun _ => ?_⟩
      refine ⟨_, rfl, (show 2 ≤ sizeLine by decide), fun p1 f1 => ⟨p1, _, rfl, .inr (SqT.of upd_same), rfl, rfl, _, rfl, ifF (by decide +kernel) ?_⟩⟩
      have s1 := same_upd (o := .tup [.str "BadRun", .str "BadPreamble"]) f1
      generalize upd G0 p1 (.tup [.str "BadRun", .str "BadPreamble"]) = G1 at s1 ⊢
      refine ⟨_, rfl, rfl, _, rfl, ifd (fun h => absurd h (by decide +kernel)) fun _ => ?_⟩
      refine ⟨_, rfl, rfl, _, rfl, ifd (fun h => absurd h (by decide +kernel)) fun _ => ?_⟩
      refine ⟨_, rfl, rfl, _, rfl, ifd (fun h => absurd h (by decide +kernel)) fun _ => ?_⟩
      refine ⟨_, rfl, rfl, _, rfl, ifd (fun h => absurd h (by decide +kernel)) fun _ => ?_⟩
      obtain ⟨d, ea, ed⟩ := er0 (er.same (Same.trans s0 s1))
      exact ⟨_, rfl, a, _, d, _, _, rfl, xf, no _ (List.mem_cons_self ..), ea, ed, rfl, (show 1 ≤ sizeLine by decide), fun p fp => k p _ (Same.trans (Same.trans s0 s1) (same_upd fp)) (Same.free (Same.trans s0 s1) fp) upd_same⟩
    | 8, _, hj, er, k, xf, no =>
      cases Option.some.inj hj
      refine ⟨_, rfl, rfl, _, rfl, ifd (fun h => absurd h (by decide +kernel)) fun _ => ?_⟩
      refine ⟨_, rfl, rfl, _, rfl, ifd (fun h => absurd h (by decide +kernel)) fun _ => ?_⟩
      refine ⟨_, rfl, (show 3 ≤ sizeLine by decide), fun p0 f0 => ⟨p0, _, rfl, .inr (SqT.of upd_same), rfl, rfl, _, rfl, ifF (by decide +kernel) ?_⟩⟩
      have s0 := same_upd (o := .tup [.str "NoPlace", .str "Stopped", .str "Running"]) f0
      generalize upd H p0 (.tup [.str "NoPlace", .str "Stopped", .str "Running"]) = G0 at s0 ⊢
      refine ⟨_, rfl, rfl, _, rfl, ifd (fun h => absurd h (by decide +kernel)) fun _ => ?_⟩
      refine ⟨_, rfl, (show 2 ≤ sizeLine by decide), fun p1 f1 => ⟨p1, _, rfl, .inr (SqT.of upd_same), rfl, rfl, _, rfl, ifF (by decide +kernel) ?_⟩⟩
      have s1 := same_upd (o := .tup [.str "BadRun", .str "BadPreamble"]) f1
      generalize upd G0 p1 (.tup [.str "BadRun", .str "BadPreamble"]) = G1 at s1 ⊢
      refine ⟨_, rfl, rfl, _, rfl, ifd (fun h => absurd h (by decide +kernel)) fun _ => ?_⟩
      refine ⟨_, rfl, rfl, _, rfl, ifd (fun h => absurd h (by decide +kernel)) fun _ => ?_⟩
      refine ⟨_, rfl, rfl, _, rfl, ifd (fun h => absurd h (by decide +kernel)) fun _ => ?_⟩
      refine ⟨_, rfl, rfl, _, rfl, ifd (fun h => absurd h (by decide +kernel)) fun _ => ?_⟩
      obtain ⟨d, ea, ed⟩ := er0 (er.same (Same.trans s0 s1))
      exact ⟨_, rfl, a, _, d, _, _, rfl, xf, no _ (List.mem_cons_self ..), ea, ed, rfl, (show 1 ≤ sizeLine by decide), fun p fp => k p _ (Same.trans (Same.trans s0 s1) (same_upd fp)) (Same.free (Same.trans s0 s1) fp) upd_same⟩
    | 9, _, hj, er, k, xf, no =>
      cases Option.some.inj hj
      refine ⟨_, rfl, rfl, _, rfl, ifd (fun h => absurd h (by decide +kernel)) fun _ => ?_⟩
      refine ⟨_, rfl, rfl, _, rfl, ifd (fun h => absurd h (by decide +kernel)) fun _ => ?_⟩
      refine ⟨_, rfl, (show 3 ≤ sizeLine by decide), fun p0 f0 => ⟨p0, _, rfl, .inr (SqT.of upd_same), rfl, rfl, _, rfl, ifF (by decide +kernel) ?_⟩⟩
      have s0 := same_upd (o := .tup [.str "NoPlace", .str "Stopped", .str "Running"]) f0
      generalize upd H p0 (.tup [.str "NoPlace", .str "Stopped", .str "Running"]) = G0 at s0 ⊢
      refine ⟨_, rfl, rfl, _, rfl, ifd (fun h => absurd h (by decide +kernel)) fun _ => ?_⟩
      refine ⟨_, rfl, (show 2 ≤ sizeLine by decide), fun p1 f1 => ⟨p1, _, rfl, .inr (SqT.of upd_same), rfl, rfl, _, rfl, ifF (by decide +kernel) ?_⟩⟩
      have s1 := same_upd (o := .tup [.str "BadRun", .str "BadPreamble"]) f1
      generalize upd G0 p1 (.tup [.str "BadRun", .str "BadPreamble"]) = G1 at s1 ⊢
      refine ⟨_, rfl, rfl, _, rfl, ifd (fun h => absurd h (by decide +kernel)) fun _ => ?_⟩
      refine ⟨_, rfl, rfl, _, rfl, ifd (fun h => absurd h (by decide +kernel)) fun _ => ?_⟩
      refine ⟨_, rfl, rfl, _, rfl, ifd (fun h => absurd h (by decide +kernel)) fun _ => ?_⟩
      refine ⟨_, rfl, rfl, _, rfl, ifd (fun h => absurd h (by decide +kernel)) fun _ => ?_⟩
      obtain ⟨d, ea, ed⟩ := er0 (er.same (Same.trans s0 s1))
      exact ⟨_, rfl, a, _, d, _, _, rfl, xf, no _ (List.mem_cons_self ..), ea, ed, rfl, (show 1 ≤ sizeLine by decide), fun p fp => k p _ (Same.trans (Same.trans s0 s1) (same_upd fp)) (Same.free (Same.trans s0 s1) fp) upd_same⟩
    | 10, _, hj, er, k, xf, no =>
      cases Option.some.inj hj
      refine ⟨_, rfl, rfl, _, rfl, ifd (fun h => absurd h (by decide +kernel)) fun _ => ?_⟩
      refine ⟨_, rfl, rfl, _, rfl, ifd (fun _ => ?_) fun h => absurd (by decide +kernel) h⟩
      obtain ⟨d, ea, ed⟩ := er0 (er.same (Same.refl _))
      exact ⟨_, rfl, a, _, d, _, _, rfl, xf, no _ (List.mem_cons_self ..), ea, ed, rfl, (show 1 ≤ sizeLine by decide), fun p fp => k p _ (Same.trans (Same.refl _) (same_upd fp)) (Same.free (Same.refl _) fp) upd_same⟩
    | 11, _, hj, er, k, xf, no =>
      cases Option.some.inj hj
      refine ⟨_, rfl, rfl, _, rfl, ifd (fun _ => ?_) fun h => absurd (by decide +kernel) h⟩
      obtain ⟨d, ea, ed⟩ := er0 (er.same (Same.refl _))
      exact ⟨_, rfl, a, _, d, _, _, rfl, xf, no _ (List.mem_cons_self ..), ea, ed, rfl, (show 1 ≤ sizeLine by decide), fun p fp => k p _ (Same.trans (Same.refl _) (same_upd fp)) (Same.free (Same.refl _) fp) upd_same⟩
    | 12, _, hj, er, k, xf, no =>
      cases Option.some.inj hj
      refine ⟨_, rfl, rfl, _, rfl, ifd (fun h => absurd h (by decide +kernel)) fun _ => ?_⟩
      refine ⟨_, rfl, rfl, _, rfl, ifd (fun h => absurd h (by decide +kernel)) fun _ => ?_⟩
      refine ⟨_, rfl, (show 3 ≤ sizeLine by decide), fun p0 f0 => ⟨p0, _, rfl, .inr (SqT.of upd_same), rfl, rfl, _, rfl, ifT (by decide +kernel) ?_⟩⟩
      have s0 := same_upd (o := .tup [.str "NoPlace", .str "Stopped", .str "Running"]) f0
      generalize upd H p0 (.tup [.str "NoPlace", .str "Stopped", .str "Running"]) = G0 at s0 ⊢
      obtain ⟨d, ea, ed⟩ := er0 (er.same s0)
      exact ⟨_, rfl, a, _, d, _, _, rfl, xf, no _ (List.mem_cons_self ..), ea, ed, rfl, (show 1 ≤ sizeLine by decide), fun p fp => k p _ (Same.trans s0 (same_upd fp)) (Same.free s0 fp) upd_same⟩
    | 13, _, hj, er, k, xf, no =>
      cases Option.some.inj hj
      refine ⟨_, rfl, rfl, _, rfl, ifd (fun h => absurd h (by decide +kernel)) fun _ => ?_⟩
      refine ⟨_, rfl, rfl, _, rfl, ifd (fun h => absurd h (by decide +kernel)) fun _ => ?_⟩
      refine ⟨_, rfl, (show 3 ≤ sizeLine by decide), fun p0 f0 => ⟨p0, _, rfl, .inr (SqT.of upd_same), rfl, rfl, _, rfl, ifF (by decide +kernel) ?_⟩⟩
      have s0 := same_upd (o := .tup [.str "NoPlace", .str "Stopped", .str "Running"]) f0
      generalize upd H p0 (.tup [.str "NoPlace", .str "Stopped", .str "Running"]) = G0 at s0 ⊢
      refine ⟨_, rfl, rfl, _, rfl, ifd (fun _ => ?_) fun h => absurd (by decide +kernel) h⟩
      obtain ⟨d, ea, ed⟩ := er0 (er.same s0)
      exact ⟨_, rfl, a, _, d, _, _, rfl, xf, no _ (List.mem_cons_of_mem _ (List.mem_cons_self ..)), ea, ed, rfl, _, rfl, a, _, d, _, _, rfl, xf, no _ (List.mem_cons_self ..), ea, ed, rfl, (show 2 ≤ sizeLine by decide), fun p fp => k p _ (Same.trans s0 (same_upd fp)) (Same.free s0 fp) upd_same⟩
    | 14, _, hj, er, k, xf, no =>
      cases Option.some.inj hj
      refine ⟨_, rfl, rfl, _, rfl, ifd (fun h => absurd h (by decide +kernel)) fun _ => ?_⟩
      refine ⟨_, rfl, rfl, _, rfl, ifd (fun h => absurd h (by decide +kernel)) fun _ => ?_⟩
      refine ⟨_, rfl, (show 3 ≤ sizeLine by decide), fun p0 f0 => ⟨p0, _, rfl, .inr (SqT.of upd_same), rfl, rfl, _, rfl, ifF (by decide +kernel) ?_⟩⟩
      have s0 := same_upd (o := .tup [.str "NoPlace", .str "Stopped", .str "Running"]) f0
      generalize upd H p0 (.tup [.str "NoPlace", .str "Stopped", .str "Running"]) = G0 at s0 ⊢
      refine ⟨_, rfl, rfl, _, rfl, ifd (fun h => absurd h (by decide +kernel)) fun _ => ?_⟩
      refine ⟨_, rfl, (show 2 ≤ sizeLine by decide), fun p1 f1 => ⟨p1, _, rfl, .inr (SqT.of upd_same), rfl, rfl, _, rfl, ifT (by decide +kernel) ?_⟩⟩
      have s1 := same_upd (o := .tup [.str "BadRun", .str "BadPreamble"]) f1
      generalize upd G0 p1 (.tup [.str "BadRun", .str "BadPreamble"]) = G1 at s1 ⊢
      obtain ⟨d, ea, ed⟩ := er0 (er.same (Same.trans s0 s1))
      exact ⟨_, rfl, a, _, d, _, _, rfl, xf, no _ (List.mem_cons_self ..), ea, ed, rfl, (show 1 ≤ sizeLine by decide), fun p fp => k p _ (Same.trans (Same.trans s0 s1) (same_upd fp)) (Same.free (Same.trans s0 s1) fp) upd_same⟩
    | 15, _, hj, er, k, xf, no =>
      cases Option.some.inj hj
      refine ⟨_, rfl, rfl, _, rfl, ifd (fun h => absurd h (by decide +kernel)) fun _ => ?_⟩
      refine ⟨_, rfl, rfl, _, rfl, ifd (fun h => absurd h (by decide +kernel)) fun _ => ?_⟩
      refine ⟨_, rfl, (show 3 ≤ sizeLine by decide), fun p0 f0 => ⟨p0, _, rfl, .inr (SqT.of upd_same), rfl, rfl, _, rfl, ifF (by decide +kernel) ?_⟩⟩
      have s0 := same_upd (o := .tup [.str "NoPlace", .str "Stopped", .str "Running"]) f0
      generalize upd H p0 (.tup [.str "NoPlace", .str "Stopped", .str "Running"]) = G0 at s0 ⊢
      refine ⟨_, rfl, rfl, _, rfl, ifd (fun h => absurd h (by decide +kernel)) fun _ => ?_⟩
      refine ⟨_, rfl, (show 2 ≤ sizeLine by decide), fun p1 f1 => ⟨p1, _, rfl, .inr (SqT.of upd_same), rfl, rfl, _, rfl, ifT (by decide +kernel) ?_⟩⟩
      have s1 := same_upd (o := .tup [.str "BadRun", .str "BadPreamble"]) f1
      generalize upd G0 p1 (.tup [.str "BadRun", .str "BadPreamble"]) = G1 at s1 ⊢
      obtain ⟨d, ea, ed⟩ := er0 (er.same (Same.trans s0 s1))
      exact ⟨_, rfl, a, _, d, _, _, rfl, xf, no _ (List.mem_cons_self ..), ea, ed, rfl, (show 1 ≤ sizeLine by decide), fun p fp => k p _ (Same.trans (Same.trans s0 s1) (same_upd fp)) (Same.free (Same.trans s0 s1) fp) upd_same⟩
    | 16, _, hj, er, k, xf, no =>
      cases Option.some.inj hj
      refine ⟨_, rfl, rfl, _, rfl, ifd (fun h => absurd h (by decide +kernel)) fun _ => ?_⟩
      refine ⟨_, rfl, rfl, _, rfl, ifd (fun h => absurd h (by decide +kernel)) fun _ => ?_⟩
      refine ⟨_, rfl, (show 3 ≤ sizeLine by decide), fun p0 f0 => ⟨p0, _, rfl, .inr (SqT.of upd_same), rfl, rfl, _, rfl, ifT (by decide +kernel) ?_⟩⟩
      have s0 := same_upd (o := .tup [.str "NoPlace", .str "Stopped", .str "Running"]) f0
      generalize upd H p0 (.tup [.str "NoPlace", .str "Stopped", .str "Running"]) = G0 at s0 ⊢
      obtain ⟨d, ea, ed⟩ := er0 (er.same s0)
      exact ⟨_, rfl, a, _, d, _, _, rfl, xf, no _ (List.mem_cons_self ..), ea, ed, rfl, (show 1 ≤ sizeLine by decide), fun p fp => k p _ (Same.trans s0 (same_upd fp)) (Same.free s0 fp) upd_same⟩
    | 17, _, hj, er, k, xf, no =>
      cases Option.some.inj hj
      refine ⟨_, rfl, rfl, _, rfl, ifd (fun h => absurd h (by decide +kernel)) fun _ => ?_⟩
      refine ⟨_, rfl, rfl, _, rfl, ifd (fun h => absurd h (by decide +kernel)) fun _ => ?_⟩
      refine ⟨_, rfl, (show 3 ≤ sizeLine by decide), fun p0 f0 => ⟨p0, _, rfl, .inr (SqT.of upd_same), rfl, rfl, _, rfl, ifT (by decide +kernel) ?_⟩⟩
      have s0 := same_upd (o := .tup [.str "NoPlace", .str "Stopped", .str "Running"]) f0
      generalize upd H p0 (.tup [.str "NoPlace", .str "Stopped", .str "Running"]) = G0 at s0 ⊢
      obtain ⟨d, ea, ed⟩ := er0 (er.same s0)
      exact ⟨_, rfl, a, _, d, _, _, rfl, xf, no _ (List.mem_cons_self ..), ea, ed, rfl, (show 1 ≤ sizeLine by decide), fun p fp => k p _ (Same.trans s0 (same_upd fp)) (Same.free s0 fp) upd_same⟩
    | 18, _, hj, er, k, xf, no =>
      cases Option.some.inj hj
      refine ⟨_, rfl, rfl, _, rfl, ifd (fun h => absurd h (by decide +kernel)) fun _ => ?_⟩
      refine ⟨_, rfl, rfl, _, rfl, ifd (fun h => absurd h (by decide +kernel)) fun _ => ?_⟩
      refine ⟨_, rfl, (show 3 ≤ sizeLine by decide), fun p0 f0 => ⟨p0, _, rfl, .inr (SqT.of upd_same), rfl, rfl, _, rfl, ifF (by decide +kernel) ?_⟩⟩
      have s0 := same_upd (o := .tup [.str "NoPlace", .str "Stopped", .str "Running"]) f0
      generalize upd H p0 (.tup [.str "NoPlace", .str "Stopped", .str "Running"]) = G0 at s0 ⊢
      refine ⟨_, rfl, rfl, _, rfl, ifd (fun h => absurd h (by decide +kernel)) fun _ => ?_⟩
      refine ⟨_, rfl, (show 2 ≤ sizeLine by decide), fun p1 f1 => ⟨p1, _, rfl, .inr (SqT.of upd_same), rfl, rfl, _, rfl, ifF (by decide +kernel) ?_⟩⟩
      have s1 := same_upd (o := .tup [.str "BadRun", .str "BadPreamble"]) f1
      generalize upd G0 p1 (.tup [.str "BadRun", .str "BadPreamble"]) = G1 at s1 ⊢
      refine ⟨_, rfl, rfl, _, rfl, ifd (fun h => absurd h (by decide +kernel)) fun _ => ?_⟩
      refine ⟨_, rfl, rfl, _, rfl, ifd (fun h => absurd h (by decide +kernel)) fun _ => ?_⟩
      refine ⟨_, rfl, rfl, _, rfl, ifd (fun h => absurd h (by decide +kernel)) fun _ => ?_⟩
      refine ⟨_, rfl, rfl, _, rfl, ifd (fun _ => ?_) fun h => absurd (by decide +kernel) h⟩
      exact ⟨(show 0 ≤ sizeLine by decide), fun p fp => k p _ (Same.trans (Same.trans s0 s1) (same_upd fp)) (Same.free (Same.trans s0 s1) fp) upd_same⟩
    | 19, _, hj, er, k, xf, no =>
      cases Option.some.inj hj
      refine ⟨_, rfl, rfl, _, rfl, ifd (fun h => absurd h (by decide +kernel)) fun _ => ?_⟩
      refine ⟨_, rfl, rfl, _, rfl, ifd (fun h => absurd h (by decide +kernel)) fun _ => ?_⟩
      refine ⟨_, rfl, (show 3 ≤ sizeLine by decide), fun p0 f0 => ⟨p0, _, rfl, .inr (SqT.of upd_same), rfl, rfl, _, rfl, ifF (by decide +kernel) ?_⟩⟩
      have s0 := same_upd (o := .tup [.str "NoPlace", .str "Stopped", .str "Running"]) f0
      generalize upd H p0 (.tup [.str "NoPlace", .str "Stopped", .str "Running"]) = G0 at s0 ⊢
      refine ⟨_, rfl, rfl, _, rfl, ifd (fun h => absurd h (by decide +kernel)) fun _ => ?_⟩
      refine ⟨_, rfl, (show 2 ≤ sizeLine by decide), fun p1 f1 => ⟨p1, _, rfl, .inr (SqT.of upd_same), rfl, rfl, _, rfl, ifF (by decide +kernel) ?_⟩⟩
      have s1 := same_upd (o := .tup [.str "BadRun", .str "BadPreamble"]) f1
      generalize upd G0 p1 (.tup [.str "BadRun", .str "BadPreamble"]) = G1 at s1 ⊢
      refine ⟨_, rfl, rfl, _, rfl, ifd (fun _ => ?_) fun h => absurd (by decide +kernel) h⟩
      obtain ⟨d, ea, ed⟩ := er0 (er.same (Same.trans s0 s1))
      exact ⟨_, rfl, a, _, d, _, _, rfl, xf, no _ (List.mem_cons_of_mem _ (List.mem_cons_self ..)), ea, ed, rfl, _, rfl, a, _, d, _, _, rfl, xf, no _ (List.mem_cons_self ..), ea, ed, rfl, (show 2 ≤ sizeLine by decide), fun p fp => k p _ (Same.trans (Same.trans s0 s1) (same_upd fp)) (Same.free (Same.trans s0 s1) fp) upd_same⟩
    | 20, _, hj, er, k, xf, no =>
      cases Option.some.inj hj
      refine ⟨_, rfl, rfl, _, rfl, ifd (fun h => absurd h (by decide +kernel)) fun _ => ?_⟩
      refine ⟨_, rfl, rfl, _, rfl, ifd (fun h => absurd h (by decide +kernel)) fun _ => ?_⟩
      refine ⟨_, rfl, (show 3 ≤ sizeLine by decide), fun p0 f0 => ⟨p0, _, rfl, .inr (SqT.of upd_same), rfl, rfl, _, rfl, ifF (by decide +kernel) ?_⟩⟩
      have s0 := same_upd (o := .tup [.str "NoPlace", .str "Stopped", .str "Running"]) f0
      generalize upd H p0 (.tup [.str "NoPlace", .str "Stopped", .str "Running"]) = G0 at s0 ⊢
      refine ⟨_, rfl, rfl, _, rfl, ifd (fun h => absurd h (by decide +kernel)) fun _ => ?_⟩
      refine ⟨_, rfl, (show 2 ≤ sizeLine by decide), fun p1 f1 => ⟨p1, _, rfl, .inr (SqT.of upd_same), rfl, rfl, _, rfl, ifF (by decide +kernel) ?_⟩⟩
      have s1 := same_upd (o := .tup [.str "BadRun", .str "BadPreamble"]) f1
      generalize upd G0 p1 (.tup [.str "BadRun", .str "BadPreamble"]) = G1 at s1 ⊢
      refine ⟨_, rfl, rfl, _, rfl, ifd (fun h => absurd h (by decide +kernel)) fun _ => ?_⟩
      refine ⟨_, rfl, rfl, _, rfl, ifd (fun _ => ?_) fun h => absurd (by decide +kernel) h⟩
      obtain ⟨d, ea, ed⟩ := er0 (er.same (Same.trans s0 s1))
      exact ⟨_, rfl, a, _, d, _, _, rfl, xf, no _ (List.mem_cons_of_mem _ (List.mem_cons_self ..)), ea, ed, rfl, _, rfl, a, _, d, _, _, rfl, xf, no _ (List.mem_cons_self ..), ea, ed, rfl, (show 2 ≤ sizeLine by decide), fun p fp => k p _ (Same.trans (Same.trans s0 s1) (same_upd fp)) (Same.free (Same.trans s0 s1) fp) upd_same⟩
    | 21, _, hj, er, k, xf, no =>
      cases Option.some.inj hj
      refine ⟨_, rfl, rfl, _, rfl, ifd (fun h => absurd h (by decide +kernel)) fun _ => ?_⟩
      refine ⟨_, rfl, rfl, _, rfl, ifd (fun h => absurd h (by decide +kernel)) fun _ => ?_⟩
      refine ⟨_, rfl, (show 3 ≤ sizeLine by decide), fun p0 f0 => ⟨p0, _, rfl, .inr (SqT.of upd_same), rfl, rfl, _, rfl, ifF (by decide +kernel) ?_⟩⟩
      have s0 := same_upd (o := .tup [.str "NoPlace", .str "Stopped", .str "Running"]) f0
      generalize upd H p0 (.tup [.str "NoPlace", .str "Stopped", .str "Running"]) = G0 at s0 ⊢
      refine ⟨_, rfl, rfl, _, rfl, ifd (fun h => absurd h (by decide +kernel)) fun _ => ?_⟩
      refine ⟨_, rfl, (show 2 ≤ sizeLine by decide), fun p1 f1 => ⟨p1, _, rfl, .inr (SqT.of upd_same), rfl, rfl, _, rfl, ifF (by decide +kernel) ?_⟩⟩
      have s1 := same_upd (o := .tup [.str "BadRun", .str "BadPreamble"]) f1
      generalize upd G0 p1 (.tup [.str "BadRun", .str "BadPreamble"]) = G1 at s1 ⊢
      refine ⟨_, rfl, rfl, _, rfl, ifd (fun h => absurd h (by decide +kernel)) fun _ => ?_⟩
      refine ⟨_, rfl, rfl, _, rfl, ifd (fun h => absurd h (by decide +kernel)) fun _ => ?_⟩
      refine ⟨_, rfl, rfl, _, rfl, ifd (fun _ => ?_) fun h => absurd (by decide +kernel) h⟩
      obtain ⟨d, ea, ed⟩ := er0 (er.same (Same.trans s0 s1))
      exact ⟨_, rfl, a, _, d, _, _, rfl, xf, no _ (List.mem_cons_of_mem _ (List.mem_cons_self ..)), ea, ed, rfl, _, rfl, a, _, d, _, _, rfl, xf, no _ (List.mem_cons_self ..), ea, ed, rfl, (show 2 ≤ sizeLine by decide), fun p fp => k p _ (Same.trans (Same.trans s0 s1) (same_upd fp)) (Same.free (Same.trans s0 s1) fp) upd_same⟩
/-- the law's names -/
def spNa : Sp := fun vs H Q _ => vs = [] ∧ ∀ l H', Same H H' → H l = none → H' l = some (.lst (nms.map V.str)) → Q (.ref l) H'
theorem scNa : FnScope ["_law_some"] [] (defScope sNa) := ⟨rfl, rfl, rfl, by decide +kernel, rfl, by decide +kernel, by decide +kernel⟩
theorem ok_lnames {P : Program} {w : World} {K : PySem.W.Frag} {mg : Str → Option Value} {base : Heap} {f : Addr} {fd : FuncData} (F : Fun K "_law_names" "_law_names" sNa f fd) : FnOk P w K mg base CX0 1 f fd [] spNa := by
  refine F.ok scNa (fun vs H Q E h => ?_) (fun cdv A outer s H vs Q E hr h => ?_)
  · obtain ⟨rfl, _⟩ := h
    rfl
  · obtain ⟨rfl, k⟩ := h
    refine ⟨_, (pss_cons (ps_set (i := 0) scNa.nd rfl (Or.inl rfl) (pe_lst (pa_cons pe_str (pa_cons pe_str (pa_cons pe_str (pa_cons pe_str (pa_cons pe_str (pa_cons pe_str (pa_cons pe_str (pa_cons pe_str pa_nil)))))))))) (pss_cons (ps_set (i := 0) scNa.nd rfl (Or.inl rfl) (pe_op op_cat (pv 0) (pe_lst (pa_cons pe_str (pa_cons pe_str (pa_cons pe_str (pa_cons pe_str (pa_cons pe_str (pa_cons pe_str (pa_cons pe_str (pa_cons pe_str pa_nil))))))))))) (pss_one (ps_ret (pe_op op_cat (pv 0) (pe_lst (pa_cons pe_str (pa_cons pe_str (pa_cons pe_str (pa_cons pe_str (pa_cons pe_str (pa_cons pe_str pa_nil)))))))))))), ?_⟩
    refine ⟨(show 8 ≤ sizeLine by decide), fun a0 f0 => ⟨_, rfl, (show 8 ≤ sizeLine by decide), fun a1 f1 => ⟨a0, a1, _, _, rfl, rfl, same_upd f1 _ _ upd_same, upd_same, (show 16 ≤ sizeLine by decide), fun a2 f2 => ⟨_, rfl, (show 6 ≤ sizeLine by decide), fun a3 f3 => ⟨a2, a3, _, _, rfl, rfl, same_upd f3 _ _ upd_same, upd_same, (show 22 ≤ sizeLine by decide), fun a4 f4 => ?_⟩⟩⟩⟩⟩
    exact k a4 _ (Same.trans (Same.trans (Same.trans (Same.trans (same_upd f0) (same_upd f1)) (same_upd f2)) (same_upd f3)) (same_upd f4)) (Same.free (Same.trans (Same.trans (Same.trans (same_upd f0) (same_upd f1)) (same_upd f2)) (same_upd f3)) f4) upd_same
end K00
set_option Elab.async false
set_option linter.all false
set_option maxRecDepth 100000
set_option maxHeartbeats 2000000
namespace K00
open PySem PySem.Spec PyProof.Rows L2 My MyRd
abbrev sIr : Stmt := top 41
structure FnT (P : Program) (w : World) (K : PySem.W.Frag) (mg : Str → Option Value) (base : Heap) (CX : CXT) (k : Nat) (x : Str) (f : Addr) (fd : FuncData) (ps : List Str) (sp : Sp) : Prop where
  ok : FnOk P w K mg base CX k f fd ps sp
  bn : Binds K fd ps []
  g : mg x = some (.ref f)
  kp : PySem.W.keepIn K (.ref f) = true
structure FnTM (P : Program) (w : World) (K : PySem.W.Frag) (mg : Str → Option Value) (base : Heap) (CX : CXT) (k : Nat) (x : Str) (f : Addr) (fd : FuncData) (ps : List Str) (sp : Sp) : Prop where
  ok : MyM.FnM P w K mg base CX k f fd ps sp
  bn : Binds K fd ps []
  g : mg x = some (.ref f)
  kp : PySem.W.keepIn K (.ref f) = true
theorem fun_okM {P : Program} {w : World} {K : PySem.W.Frag} {mg : Str → Option Value} {base : Heap} {x qual : Str} {st : Stmt} {f : Addr} {fd : FuncData} {N ps : List Str} {k : Nat} {sp : Sp} (F : Fun K x qual st f fd) (S : FnScope N ps (defScope st)) (len : ∀ vs H Q E, sp vs H Q E → vs.length = ps.length)
    (hbody : ∀ (cdv : Value) (A : Around) (outer : List Env) (s : Shared) (H : Hp) (vs : List V) (Q : VK) (E : XK), (A.deeper (envOfC qual (defScope st) s.heap.objs.size f cdv)).guards = some [] → NoMod H s → Room k (A.deeper (envOfC qual (defScope st) s.heap.objs.size f cdv)) → sp vs H Q E →
      ∃ t, PSs (cxOf L2.CX0 P w K mg base N qual (defScope st) f cdv A outer s H E).nox (defBody st) t ∧ t { nx := fun _ H' => Q .non H', rt := Q } (start N vs) H) : MyM.FnM P w K mg base L2.CX0 (k + 1) f fd ps sp := by
  obtain ⟨oc, od, kV, doc, pm, an, cdv, ct, osl, rfl, lk, hcd⟩ := F.ex
  refine MyM.fn_ofM lk hcd S len fun A outer s H vs Q E hgd hmo hr hsp => ?_
  obtain ⟨t, h, q⟩ := hbody cdv A outer s H vs Q E hgd hmo hr hsp
  exact ⟨t, h.nox, q⟩
mutual
theorem Db.same {H H' : Hp} (s : Same H H') : ∀ {x : V} {d : PyData}, Db H x d → Db H' x d
  | _, _, .non => .non
  | _, _, .bl b => .bl b
  | _, _, .int i => .int i
  | _, _, .str z => .str z
  | _, _, .lst e h => .lst (s _ _ e) (DbAll.same s h)
  | _, _, .tup e h => .tup (s _ _ e) (DbAll.same s h)
  | _, _, .dic e h => .dic (s _ _ e) (DbKv.same s h)
theorem DbAll.same {H H' : Hp} (s : Same H H') : ∀ {x : List V} {d : List PyData}, DbAll H x d → DbAll H' x d
  | _, _, .nil => .nil
  | _, _, .cons h t => .cons (Db.same s h) (DbAll.same s t)
theorem DbKv.same {H H' : Hp} (s : Same H H') : ∀ {x : List (Key × V)} {d : List (PyData × PyData)}, DbKv H x d → DbKv H' x d
  | _, _, .nil => .nil
  | _, _, .cons h t => .cons (Db.same s h) (DbKv.same s t)
end
/-- what the classes say of those above them -/
structure UpT (K : PySem.W.Frag) (mg : Str → Option Value) (cs : Nat → Addr) (TE MI : Addr) : Prop where
  gT : mg "ToolError" = some (.ref TE)
  gM : mg "Missing" = some (.ref MI)
  kT : ∀ j, j < 22 → PySem.W.kitOne K (.ref (cs j)) (.ref TE) = some true
  kM : ∀ j, j < 22 → PySem.W.kitOne K (.ref (cs j)) (.ref MI) = some (decide (10 ≤ j ∧ j ≤ 13))
  kV : ∀ j, j < 22 → PySem.W.kitOne K (.ref (cs j)) (.type "ValueError") = some true
  kL : ∀ j, j < 22 → PySem.W.kitAny K (.ref (cs j)) [.type "LookupError", .type "ArithmeticError", .type "TypeError"] = some false
/-- built-in errors that the module leaves alone -/
structure BltE (mg : Str → Option Value) : Prop where
  v : mg "ValueError" = none
  l : mg "LookupError" = none
  a : mg "ArithmeticError" = none
  t : mg "TypeError" = none
theorem nm_shaped : ∀ j : Fin 22, SeqAt.shaped (.list [.str (nms.getD j.val "")]) = true := by decide +kernel
theorem nm_in : ∀ j : Fin 22, inV (.str (nms.getD j.val "")) [V.str "NoAxis", V.str "NoRegister", V.str "NoPlace", V.str "NoNode"] = decide (10 ≤ j.val ∧ j.val ≤ 13) := by decide +kernel
def spIr (cs : Nat → Addr) : Sp := fun vs H Q _ => ∃ (j a u : Nat) (nm : Str) (x y : V) (ds : List PyData), vs = [.str nm, .ref a, .ref u] ∧ nms[j]? = some nm ∧ MyC.ErA H a (cs j) (flds j x y) ∧ H u = some (.lst (outs j x y)) ∧ DbAll H (outs j x y) ds ∧ (PyData.list ds).showable = true ∧ (PyData.list ds).depth ≤ 60 ∧ (PyData.list ds).shown.length ≤ sizeLine ∧
  ∀ H', Same H H' → Q (.bl true) H'
abbrev irN : List Str := ["_law_name", "_law_error", "_law_due"]
theorem scIr : FnScope irN irN (defScope sIr) := ⟨rfl, rfl, rfl, by decide +kernel, rfl, by decide +kernel, by decide +kernel⟩
theorem hu70 {k : Nat} {A : Around} (hr : Room k A) : A.units + 70 < cLine := by
  have := hr.un
  omega
theorem ok_isright {P : Program} {w : World} {K : PySem.W.Frag} {mg : Str → Option Value} {base : Heap} {cs : Nat → Addr} {TE MI : Addr} {f fKi fFl : Addr} {fd fdKi fdFl : FuncData} (F : Fun K "_law_is_right" "_law_is_right" sIr f fd) (B : Blt mg) (BE : BltE mg) (R : KiT K mg cs) (U : UpT K mg cs TE MI)
    (KI : FnT P w K mg base CX0 1 "_law_kinds" fKi fdKi ["_law_error"] (spKi cs)) (FL : FnT P w K mg base CX0 1 "_law_fields" fFl fdFl flN (spFl cs)) : MyM.FnM P w K mg base CX0 4 f fd irN (spIr cs) := by
  refine fun_okM F (k := 3) scIr (fun vs H Q E h => ?_) (fun cdv A outer s H vs Q E hgd hmo hr h => ?_)
  · obtain ⟨j, a, u, nm, x, y, ds, rfl, _⟩ := h
    rfl
  · obtain ⟨j, a, u, nm, x, y, ds, rfl, hj, er, hu, db, sh, dp, ln, k⟩ := h
    refine ⟨_, pss_cons (ps_if (PW.pt (pw_or (pt_cmpR (op_neD hr.units) (pe_call KI.ok (hr.mono (by decide)) (by rfl) KI.g KI.kp KI.bn .nil pass0 (pa_cons (pv 1) pa_nil)) (pe_lst (pa_cons (pv 0) pa_nil)) (nomark _))
        (pw_or (pt_not (pt_val (pe_callB MyC.call_isEr (by rfl) B.isinstance (by decide +kernel) (pa_cons (pv 1) (pa_cons (pe_gref (by rfl) U.gT) pa_nil)))))
          (pw_or1 (pt_not (pt_val (pe_callB MyC.call_isEr (by rfl) B.isinstance (by decide +kernel) (pa_cons (pv 1) (pa_cons (pe_bty "ValueError" (by rfl) BE.v (by decide +kernel)) pa_nil))))))))) (pss_one (ps_ret pe_bl)) pss_nil)
      (pss_cons (ps_if (pt_cmpR op_ne (pe_callB MyC.call_isEr (by rfl) B.isinstance (by decide +kernel) (pa_cons (pv 1) (pa_cons (pe_gref (by rfl) U.gM) pa_nil))) (pe_cmpR op_in_seq (pv 0) (pe_lst (pa_cons pe_str (pa_cons pe_str (pa_cons pe_str (pa_cons pe_str pa_nil))))) (by rfl)) (nomark _)) (pss_one (ps_ret pe_bl)) pss_nil)
      (pss_one (ps_ret (pe_and (pe_cmpR op_eq (pe_callB (call_reprD hgd (hu70 hr) hmo rfl) (by rfl) B.repr (by decide +kernel) (pa_cons (pe_call FL.ok (hr.mono (by decide)) (by rfl) FL.g FL.kp FL.bn .nil pass0 (pa_cons (pv 0) (pa_cons (pv 1) pa_nil))) pa_nil)) (pe_callB (call_reprD hgd (hu70 hr) hmo rfl) (by rfl) B.repr (by decide +kernel) (pa_cons (pv 2) pa_nil)) (nomark _))
        (pe_one (pe_not (pe_callB MyC.call_isErT (by rfl) B.isinstance (by decide +kernel) (pa_cons (pv 1) (pa_cons (pe_tup (pa_cons (pe_bty "LookupError" (by rfl) BE.l (by decide +kernel)) (pa_cons (pe_bty "ArithmeticError" (by rfl) BE.a (by decide +kernel)) (pa_cons (pe_bty "TypeError" (by rfl) BE.t (by decide +kernel)) pa_nil)))) pa_nil))))))))), ?_⟩
    have hj22 : j < 22 := (List.getElem?_eq_some_iff.mp hj).1
    have en : nms.getD j "" = nm := by
      rw [List.getD_eq_getElem?_getD, hj]
      rfl
    have ix := R.isx j hj22
    refine ⟨_, rfl, j, a, _, rfl, hj22, er, fun p H1 s1 f1 e1 => ⟨_, rfl, (show 1 ≤ sizeLine by decide), fun q fq => ?_⟩⟩
    have s2 := Same.trans s1 (same_upd (o := .lst [.str nm]) fq)
    have shn := nm_shaped ⟨j, hj22⟩
    refine ⟨_, _, .lst (SqL.of (same_upd fq _ _ e1)) (.cons (.str _) .nil), .lst (SqL.of upd_same) (.cons (.str _) .nil), shn, by rw [← en]; exact shn, _, rfl, ?_⟩
    rw [en, SeqAt.eqv_refl _ (SeqAt.canLay_of_shaped (by rw [← en]; exact shn))]
    refine iteF ?_
    generalize upd H1 q (.lst [.str nm]) = H2 at s2
    clear s1 f1 e1 fq
    refine ⟨_, rfl, cs j, a, _, _, _, true, rfl, ix, er.same s2, fun u r => r, U.kT j hj22, _, rfl, iteF ?_⟩
    refine ⟨_, rfl, cs j, a, _, _, _, true, rfl, ix, er.same s2, fun u r => r, U.kV j hj22, _, rfl, iteF ?_⟩
    refine ⟨_, rfl, cs j, a, _, _, _, _, rfl, ix, er.same s2, fun u r => r, U.kM j hj22, _, rfl, (show 4 ≤ sizeLine by decide), fun l fl => ⟨l, _, rfl, .inl (SqL.of upd_same), rfl, rfl, ?_⟩⟩
    rw [if_neg Bool.false_ne_true, ← en, nm_in ⟨j, hj22⟩]
    refine ⟨rfl, _, rfl, ?_⟩
    rw [decide_eq_true (rfl : V.bl (decide (10 ≤ j ∧ j ≤ 13)) = V.bl (decide (10 ≤ j ∧ j ≤ 13)))]
    refine iteF ?_
    rw [en]
    have s3 := Same.trans s2 (same_upd (o := .lst [.str "NoAxis", .str "NoRegister", .str "NoPlace", .str "NoNode"]) fl)
    generalize upd H2 l (.lst [.str "NoAxis", .str "NoRegister", .str "NoPlace", .str "NoNode"]) = H3 at s3
    clear s2 fl
    refine ⟨_, rfl, _, rfl, j, a, nm, x, y, rfl, hj, er.same s3, fun p H4 s4 f4 e4 => ?_⟩
    have s34 := Same.trans s3 s4
    have db4 := DbAll.same s34 db
    refine ⟨_, _, rfl, .lst e4 db4, sh, dp, ln, _, rfl, _, _, rfl, .lst (s34 _ _ hu) db4, sh, dp, ln, rfl, ?_⟩
    rw [decide_eq_true (rfl : V.str (PyData.list ds).shown = V.str (PyData.list ds).shown)]
    refine ⟨_, rfl, iteT ?_⟩
    refine ⟨_, rfl, (show 3 ≤ sizeLine by decide), fun t ft => ⟨cs j, a, t, _, _, _, false, rfl, ix, er.same (Same.trans s34 (same_upd ft)), upd_same, .cons (.ty _) (.cons (.ty _) (.cons (.ty _) .nil)), U.kL j hj22, _, rfl, k _ (Same.trans s34 (same_upd ft))⟩⟩
end K00
set_option Elab.async false
set_option linter.all false
set_option maxRecDepth 100000
set_option maxHeartbeats 2000000
namespace K00
open PySem PySem.Spec PyProof.Rows L2 My MyRd
abbrev sPen : Stmt := top 33
abbrev sDraw : Stmt := top 34
abbrev sPick : Stmt := top 35
/-- all but the pen stays -/
structure Ext (p : Addr) (H H' : Hp) : Prop where
  keep : ∀ b u, H b = some u → b ≠ p → H' b = some u
  pen : ∀ (c : Addr) (x y : V), H p = some (.lst [.ref c, x, y]) → ∃ x' y', H' p = some (.lst [.ref c, x', y'])
instance {p : Addr} {H H' : Hp} : CoeFun (Ext p H H') (fun _ => ∀ b u, H b = some u → b ≠ p → H' b = some u) := ⟨Ext.keep⟩
theorem Ext.refl (p : Addr) (H : Hp) : Ext p H H := ⟨fun _ _ e _ => e, fun _ x y h => ⟨x, y, h⟩⟩
theorem Ext.trans {p : Addr} {H H1 H2 : Hp} (a : Ext p H H1) (b : Ext p H1 H2) : Ext p H H2 := ⟨fun c u e n => b.keep c u (a.keep c u e n) n, fun c x y h => by
  obtain ⟨x', y', h'⟩ := a.pen c x y h
  exact b.pen c x' y' h'⟩
theorem Ext.of {p : Addr} {H H1 : Hp} (s : Same H H1) : Ext p H H1 := ⟨fun c u e _ => s c u e, fun _ x y h => ⟨x, y, s _ _ h⟩⟩
theorem Ext.updp {p c : Addr} {H : Hp} {x y x' y' : V} (h : H p = some (.lst [.ref c, x, y])) : Ext p H (upd H p (.lst [.ref c, x', y'])) := ⟨fun d u e n => by rw [upd_ne n]; exact e, fun d u v k => by
  rw [h] at k
  cases k
  exact ⟨x', y', upd_same⟩⟩
theorem Ext.new {p a : Addr} {H : Hp} {o : HO} (h : H a = none) : Ext p H (upd H a o) := .of (same_upd h)
structure PenAt (H : Hp) (p : Addr) (n : Nat) : Prop where
  ex : ∃ (c : Addr) (ns : List Int) (at_ g : Int), H p = some (.lst [.ref c, .int at_, .int g]) ∧ c ≠ p ∧ H c = some (.lst (ns.map V.int)) ∧ ns.length ≤ 63 ∧ 0 ≤ at_ ∧ at_ ≤ (n : Int)
theorem PenAt.same {H H' : Hp} {p : Addr} {n : Nat} (P : PenAt H p n) (s : Same H H') : PenAt H' p n := by
  obtain ⟨c, ns, a, g, h1, h2, h3, h4, h5, h6⟩ := P.ex
  exact ⟨c, ns, a, g, s _ _ h1, h2, s _ _ h3, h4, h5, h6⟩
theorem PenAt.mono {H : Hp} {p : Addr} {n m : Nat} (P : PenAt H p n) (h : n ≤ m) : PenAt H p m := by
  obtain ⟨c, ns, a, g, h1, h2, h3, h4, h5, h6⟩ := P.ex
  exact ⟨c, ns, a, g, h1, h2, h3, h4, h5, by omega⟩
theorem PenAt.there {H : Hp} {p : Addr} {n : Nat} (P : PenAt H p n) : ∃ xs, H p = some (.lst xs) := by
  obtain ⟨c, ns, a, g, h1, _⟩ := P.ex
  exact ⟨_, h1⟩
theorem PenAt.ne {H : Hp} {p a : Addr} {n : Nat} (P : PenAt H p n) (h : H a = none) : a ≠ p := fun e => by
  obtain ⟨xs, h1⟩ := P.there
  rw [e, h1] at h
  cases h
theorem canLay_ints (ns : List Int) : PyData.canLayAll0 (ns.map PyData.int) = true := by
  induction ns with
  | nil => rfl
  | cons n ns ih => simp [PyData.canLayAll0, PyData.canLay0, ih]
theorem depth_ints (ns : List Int) : PyData.depthAll (ns.map PyData.int) ≤ 1 := by
  induction ns with
  | nil => simp [PyData.depthAll]
  | cons n ns ih =>
    simp [PyData.depthAll, PyData.depth]
    omega
theorem shaped_ints (ns : List Int) : SeqAt.shaped (.list (ns.map PyData.int)) = true := by
  unfold SeqAt.shaped
  have := depth_ints ns
  simp [PyData.canLay0, PyData.depth, canLay_ints]
  omega
theorem dpAll_ints {K : PySem.W.Frag} {H : Hp} : ∀ ns : List Int, DpAll K H (ns.map V.int) (ns.map PyData.int)
  | [] => .nil
  | n :: ns => .cons (.int n) (dpAll_ints ns)
theorem eqv_empty (ns : List Int) : PyData.eqv (.list (ns.map PyData.int)) (.list []) = ns.isEmpty := by
  cases ns <;> simp [PyData.eqv, PyData.eqvAll]
theorem nat_lt {z : Int} (h1 : -18446744073709551616 < z) (h2 : z < 18446744073709551616) : z.natAbs < 2 ^ 64 := by
  have : (2 : Nat) ^ 64 = 18446744073709551616 := by decide
  omega
theorem mix1 {z a : Int} (h5 : 0 ≤ a) (h6 : a ≤ 100000) : (z % 2147483629 + 71287 * a + 1511).natAbs < 2 ^ 64 := by
  refine nat_lt ?_ ?_ <;> omega
theorem mix2 {y : Int} (z : Int) : CMul (z % 2147483587) y := by
  refine .inl ⟨?_, ?_⟩
  · have : (2 : Int) ^ 64 = 18446744073709551616 := by decide
    omega
  · have : (2 : Int) ^ 64 = 18446744073709551616 := by decide
    omega
theorem mix3 {y a : Int} (h5 : 0 ≤ a) (h6 : a ≤ 100000) : CMul (69857 * a) y := by
  refine .inl ⟨?_, ?_⟩
  · have : (2 : Int) ^ 64 = 18446744073709551616 := by decide
    omega
  · have : (2 : Int) ^ 64 = 18446744073709551616 := by decide
    omega
theorem mix4 {a : Int} (h5 : 0 ≤ a) (h6 : a ≤ 100000) (z : Int) : (z % 2147483587 * (2 * a + 373) + 69857 * a * a + 733).natAbs < 2 ^ 64 := by
  have e1 : 0 ≤ z % 2147483587 ∧ z % 2147483587 < 2147483587 := by omega
  generalize z % 2147483587 = y at e1
  have e2 : 0 ≤ y * (2 * a + 373) := Int.mul_nonneg e1.1 (by omega)
  have e3 : y * (2 * a + 373) ≤ 2147483587 * (2 * a + 373) := Int.mul_le_mul_of_nonneg_right (by omega) (by omega)
  have e4 : 0 ≤ 69857 * a * a := Int.mul_nonneg (by omega) h5
  have e5 : 69857 * a * a ≤ 6985700000 * a := Int.mul_le_mul_of_nonneg_right (by omega) h5
  refine nat_lt ?_ ?_ <;> omega
section
variable {P : Program} {w : World} {K : PySem.W.Frag} {mg : Str → Option Value} {base : Heap} {fD : Addr} {fdD : FuncData}
/-! ### the pen -/
def spPen (K : PySem.W.Frag) : Sp := fun vs H Q _ => ∃ (a : Addr) (ns : List Int), vs = [.ref a] ∧ SqL K H a (ns.map V.int) ∧ ns.length ≤ 63 ∧ ∀ p H', Same H H' → H p = none → PenAt H' p 0 → Q (.ref p) H'
theorem scPen : FnScope ["_law_script"] ["_law_script"] (defScope sPen) := ⟨rfl, rfl, rfl, by decide +kernel, rfl, by decide +kernel, by decide +kernel⟩
theorem ok_pen {f : Addr} {fd : FuncData} (F : Fun K "_law_pen" "_law_pen" sPen f fd) (B : Blt mg) : FnOk P w K mg base CX0 1 f fd ["_law_script"] (spPen K) := by
  refine F.ok scPen (fun vs H Q E h => ?_) (fun cdv A outer s H vs Q E hr h => ?_)
  · obtain ⟨a, ns, rfl, _⟩ := h
    rfl
  · obtain ⟨a, ns, rfl, hS, hl, k⟩ := h
    refine ⟨_, pss_one (ps_ret (pe_lst (pa_cons (pe_callTy call_list_of (by rfl) B.list PyProof.Rows.boot_list (pa_cons (pe_slice sl_list (pv 0) po_none (po_some pe_int)) pa_nil)) (pa_cons pe_int (pa_cons pe_int pa_nil))))), ?_⟩
    refine ⟨_, rfl, 63, rfl, a, _, rfl, hS, fun p1 h1 => ?_⟩
    have e1 : cutV (ns.map V.int) none (some 63) = ns.map V.int := by
      unfold cutV
      rw [HT.sIx_none, show HT.sIx (ns.map V.int).length (ns.map V.int).length (some 63) = min 63 (ns.map V.int).length from HT.sIx_nat _ _ 63, List.drop_zero, List.take_of_length_le]
      rw [List.length_map]
      omega
    rw [e1]
    refine ⟨p1, _, rfl, .inl (SqL.of upd_same), fun c h2 => ⟨(show 3 ≤ sizeLine by decide), fun p h3 => ?_⟩⟩
    have s1 : Same H (upd H p1 (.lst (ns.map V.int))) := same_upd h1
    have s2 := same_upd (o := .lst (ns.map V.int)) h2
    have s3 := same_upd (o := .lst [.ref c, .int 0, .int 0]) h3
    refine k p _ ((s1.trans s2).trans s3) ((s1.trans s2).free h3) ⟨c, ns, 0, 0, upd_same, ?_, ?_, hl, by decide, by decide⟩
    · exact ne_of_none upd_same h3
    · rw [upd_ne (ne_of_none upd_same h3)]
      exact upd_same
/-! ### a draw -/
def spDraw : Sp := fun vs H Q _ => ∃ (p : Addr) (m : Int) (n : Nat), vs = [.ref p, .int m] ∧ 0 < m ∧ m < 1073741824 ∧ PenAt H p n ∧ n ≤ 100000 ∧ ∀ d H', 0 ≤ d → d < m → Ext p H H' → PenAt H' p (n + 1) → Q (.int d) H'
theorem scDraw : FnScope ["_law_pen_here", "_law_many", "_law_digit", "_law_spot", "_law_cell", "_law_great", "_law_mixed"] ["_law_pen_here", "_law_many"] (defScope sDraw) := ⟨rfl, rfl, rfl, by decide +kernel, rfl, by decide +kernel, by decide +kernel⟩
theorem ok_draw {f : Addr} {fd : FuncData} (F : Fun K "_law_draw" "_law_draw" sDraw f fd) (B : Blt mg) : FnOk P w K mg base CX0 1 f fd ["_law_pen_here", "_law_many"] spDraw := by
  refine F.ok scDraw (fun vs H Q E h => ?_) (fun cdv A outer s H vs Q E hr h => ?_)
  · obtain ⟨p, m, n, rfl, _⟩ := h
    rfl
  · obtain ⟨p, m, n, rfl, hm, hm2, PN, hn, k⟩ := h
    refine ⟨_, (pss_cons (ps_if (pt_cmpR op_gt (pe_ix ix_list (pv 0) pe_int (fun _ _ => rfl)) pe_int (nomark _)) (pss_cons (ps_set (i := 2) scDraw.nd rfl (Or.inl rfl) (pe_op op_mod (pe_callTy call_int1 (by rfl) B.int (by decide +kernel) (pa_cons (pe_ix ix_list (pv 0) pe_int (fun _ _ => rfl)) pa_nil)) (pv 1)))
      (pss_cons (ps_asg (pe_op op_fdiv (pe_callTy call_int1 (by rfl) B.int (by decide +kernel) (pa_cons (pe_ix ix_list (pv 0) pe_int (fun _ _ => rfl)) pa_nil)) (pv 1)) (pg_sub (pv 0) pe_int set_list))
      (pss_one (ps_ret (pv 2))))) pss_nil)
      (pss_cons (ps_set (i := 3) scDraw.nd rfl (Or.inl rfl) (pe_ix ix_list (pv 0) pe_int (fun _ _ => rfl)))
      (pss_cons (ps_asg (pe_op op_add (pv 3) pe_int) (pg_sub (pv 0) pe_int set_list))
      (pss_cons (ps_set (i := 4) scDraw.nd rfl (Or.inl rfl) (pe_op op_add (pe_op op_mul pe_int (pv 3)) pe_int))
      (pss_cons (ps_if (pt_cmpR (op_neD hr.units) (pe_ix ix_list (pv 0) pe_int (fun _ _ => rfl)) (pe_lst pa_nil) (nomark _)) (pss_one (ps_set (i := 4) scDraw.nd rfl (Or.inl rfl) (pe_ix ix_list (pe_ix ix_list (pv 0) pe_int (fun _ _ => rfl)) (pe_op op_mod (pe_callTy call_int1 (by rfl) B.int (by decide +kernel) (pa_cons (pv 3) pa_nil)) (pe_callB call_len_seq (by rfl) B.len PySem.boot_len (pa_cons (pe_ix ix_list (pv 0) pe_int (fun _ _ => rfl)) pa_nil))) (fun _ _ => rfl)))) pss_nil)
      (pss_cons (ps_if (PW.pt (pw_and (pt_cmpR op_lt (pv 3) (pe_callB call_len_seq (by rfl) B.len PySem.boot_len (pa_cons (pe_ix ix_list (pv 0) pe_int (fun _ _ => rfl)) pa_nil)) (nomark _)) (pw_and1 (pt_cmpR op_ge (pe_callB call_abs (by rfl) B.abs (by decide +kernel) (pa_cons (pv 4) pa_nil)) (pe_op op_pow pe_int pe_int) (nomark _))))) (pss_cons (ps_set (i := 5) scDraw.nd rfl (Or.inl rfl) (pe_op op_sub (pe_callB call_abs (by rfl) B.abs (by decide +kernel) (pa_cons (pv 4) pa_nil)) (pe_op op_pow pe_int pe_int)))
      (pss_cons (ps_asg (pe_op op_fdiv (pe_callTy call_int1 (by rfl) B.int (by decide +kernel) (pa_cons (pv 5) pa_nil)) (pv 1)) (pg_sub (pv 0) pe_int set_list))
      (pss_one (ps_ret (pe_op op_mod (pe_callTy call_int1 (by rfl) B.int (by decide +kernel) (pa_cons (pv 5) pa_nil)) (pv 1)))))) pss_nil)
      (pss_cons (ps_set (i := 6) scDraw.nd rfl (Or.inl rfl) (pe_op op_mod (pe_callTy call_int1 (by rfl) B.int (by decide +kernel) (pa_cons (pe_op op_pow (pe_op op_add (pe_op op_add (pe_op op_mod (pe_callTy call_int1 (by rfl) B.int (by decide +kernel) (pa_cons (pv 4) pa_nil)) pe_int) (pe_op op_mul pe_int (pv 3))) pe_int) pe_int) pa_nil)) pe_int))
      (pss_cons (ps_set (i := 6) scDraw.nd rfl (Or.inl rfl) (pe_op op_mod (pe_callTy call_int1 (by rfl) B.int (by decide +kernel) (pa_cons (pe_op op_pow (pe_op op_add (pe_op op_add (pe_op op_mul (pv 6) (pe_op op_add (pe_op op_mul pe_int (pv 3)) pe_int)) (pe_op op_mul (pe_op op_mul pe_int (pv 3)) (pv 3))) pe_int) pe_int) pa_nil)) pe_int))
      (pss_one (ps_ret (pe_op op_mod (pe_callTy call_int1 (by rfl) B.int (by decide +kernel) (pa_cons (pe_op op_fdiv (pv 6) pe_int) pa_nil)) (pv 1)))))))))))), ?_⟩
    obtain ⟨c, ns, at_, g, h1, h2, h3, h4, h5, h6⟩ := PN.ex
    have i0 : ∀ a g, atI [V.ref c, .int a, .int g] 0 = some (.ref c) := fun _ _ => rfl
    have i1 : ∀ a g, atI [V.ref c, .int a, .int g] 1 = some (.int a) := fun _ _ => rfl
    have i2 : ∀ a g, atI [V.ref c, .int a, .int g] 2 = some (.int g) := fun _ _ => rfl
    refine ⟨_, rfl, p, _, _, _, rfl, rfl, SqL.of h1, i2 _ _, _, _, rfl, rfl, _, rfl, ifd (fun hg => ?_) (fun hg => ?_)⟩
    · refine ⟨_, rfl, p, _, _, _, rfl, rfl, SqL.of h1, i2 _ _, .inl ⟨_, rfl, _, rfl, _, _, rfl, rfl, hm, ?_⟩⟩
      refine ⟨_, rfl, p, _, _, _, rfl, rfl, SqL.of h1, i2 _ _, .inl ⟨_, rfl, _, rfl, _, _, rfl, rfl, ⟨hm, hm2⟩, ?_⟩⟩
      refine ⟨_, rfl, p, _, _, 2, rfl, rfl, h1, rfl, ?_⟩
      refine ⟨_, rfl, ?_⟩
      refine k _ _ (Int.emod_nonneg _ (by omega)) (Int.emod_lt_of_pos _ hm) (Ext.updp h1) ⟨c, ns, at_, _, upd_same, h2, ?_, h4, h5, by omega⟩
      rw [upd_ne h2]
      exact h3
    · have hat : at_ ≤ 100000 := by omega
      refine ⟨_, rfl, p, _, _, _, rfl, rfl, SqL.of h1, i1 _ _, ?_⟩
      refine ⟨_, rfl, _, _, rfl, rfl, _, rfl, p, _, _, 1, rfl, rfl, h1, rfl, ?_⟩
      have e1 : ([V.ref c, .int at_, .int g] : List V).set 1 (.int (at_ + 1)) = [V.ref c, .int (at_ + 1), .int g] := rfl
      rw [e1]
      generalize hH1 : upd H p (.lst [V.ref c, .int (at_ + 1), .int g]) = H1
      have p1 : H1 p = some (.lst [V.ref c, .int (at_ + 1), .int g]) := by rw [← hH1]; exact upd_same
      have c1 : H1 c = some (.lst (ns.map V.int)) := by rw [← hH1, upd_ne h2]; exact h3
      have x1 : Ext p H H1 := by rw [← hH1]; exact Ext.updp h1
      refine ⟨_, rfl, _, _, rfl, rfl, .inl ⟨by decide, by decide⟩, _, _, rfl, rfl, ?_⟩
      refine ⟨_, rfl, p, _, _, _, rfl, rfl, SqL.of p1, i0 _ _, (show 0 ≤ sizeLine by decide), fun q hq => ?_⟩
      have s2 : Same H1 (upd H1 q (.lst [])) := same_upd hq
      have d1 : Dp K (upd H1 q (.lst [])) (.ref c) (.list (ns.map PyData.int)) := .lst (SqL.of (s2 _ _ c1)) (dpAll_ints ns)
      have d2 : Dp K (upd H1 q (.lst [])) (.ref q) (.list []) := .lst (SqL.of upd_same) .nil
      refine ⟨_, _, d1, d2, shaped_ints ns, rfl, _, rfl, ?_⟩
      rw [eqv_empty]
      generalize hH2 : upd H1 q (.lst []) = H2 at s2
      have p2 := s2 _ _ p1
      have c2 := s2 _ _ c1
      have x2 : Ext p H H2 := x1.trans (.of s2)
      refine ifnb (fun he => ?g1) (fun he => ?g2)
      case' g1 =>
        have hz : True := trivial
      case' g2 =>
        have hl : 0 < (ns.length : Int) := by
          cases ns with
          | nil => cases he
          | cons a r => rw [List.length_cons]; omega
        obtain ⟨k0, hk0, ek⟩ : ∃ k0 : Nat, k0 < ns.length ∧ at_ % (ns.length : Int) = (k0 : Int) := by
          have a1 := Int.emod_nonneg at_ (show (ns.length : Int) ≠ 0 by omega)
          have a2 := Int.emod_lt_of_pos at_ hl
          exact ⟨(at_ % (ns.length : Int)).toNat, by omega, by omega⟩
        have hix : atI (ns.map V.int) (at_ % (ns.length : Int)) = some (.int ns[k0]) := by
          rw [ek]
          refine atI_nat ?_
          simp [hk0]
        refine ⟨_, rfl, p, _, _, _, rfl, rfl, SqL.of p2, i0 _ _, _, rfl, .inl ⟨_, rfl, _, rfl, p, _, _, _, rfl, rfl, SqL.of p2, i0 _ _, c, _, rfl, .inl (SqL.of c2), _, _, rfl, rfl, (by rw [List.length_map]; exact hl), c, _, _, _, rfl, rfl, SqL.of c2, (by rw [List.length_map]; exact hix), ?_⟩⟩
      all_goals
        have last : ∀ d o, 0 ≤ d → d < m → (∃ g', o = HO.lst [V.ref c, .int (at_ + 1), .int g']) → Q (.int d) (upd H2 p o) := fun d o hd1 hd2 ⟨g', e⟩ => by
          subst e
          refine k d _ hd1 hd2 (x2.trans (Ext.updp p2)) ⟨c, ns, at_ + 1, g', upd_same, h2, ?_, h4, by omega, by omega⟩
          rw [upd_ne h2]
          exact c2
        have last0 : ∀ d, 0 ≤ d → d < m → Q (.int d) H2 := fun d hd1 hd2 => k d _ hd1 hd2 x2 ⟨c, ns, at_ + 1, g, p2, h2, c2, h4, by omega, by omega⟩
        refine ⟨_, rfl, _, rfl, p, _, _, _, rfl, rfl, SqL.of p2, i0 _ _, c, _, rfl, .inl (SqL.of c2), _, _, rfl, rfl, _, rfl, ifd (fun a1 => ?_) (fun a1 => ?_)⟩
        refine ⟨_, rfl, _, rfl, _, _, rfl, rfl, ⟨by decide, by decide, by decide⟩, _, _, rfl, rfl, _, rfl, ifd (fun a2 => ?_) (fun a2 => ?_)⟩
        · refine ⟨_, rfl, _, rfl, _, _, rfl, rfl, ⟨by decide, by decide, by decide⟩, _, _, rfl, rfl, ?_⟩
          refine ⟨_, rfl, .inl ⟨_, rfl, _, rfl, _, _, rfl, rfl, ⟨hm, hm2⟩, _, rfl, p, _, _, 2, rfl, rfl, p2, rfl, ?_⟩⟩
          refine ⟨_, rfl, .inl ⟨_, rfl, _, rfl, _, _, rfl, rfl, hm, ?_⟩⟩
          exact last _ _ (Int.emod_nonneg _ (by omega)) (Int.emod_lt_of_pos _ hm) ⟨_, rfl⟩
        all_goals
          refine ⟨_, rfl, .inl ⟨_, rfl, _, _, rfl, rfl, (show (0 : Int) < 2147483629 by decide), _, rfl, _, _, rfl, rfl, .inl ⟨by decide, by decide⟩, _, _, rfl, rfl, _, _, rfl, rfl, _, _, rfl, rfl, ⟨by decide, by decide, ?_⟩, .inl ⟨_, rfl, _, _, rfl, rfl, (show (0 : Int) < 2147483587 by decide), ?_⟩⟩⟩
          · exact mix1 h5 hat
          · refine ⟨_, rfl, _, rfl, _, _, rfl, rfl, .inl ⟨by decide, by decide⟩, _, _, rfl, rfl, _, _, rfl, rfl, mix2 _, _, rfl, _, _, rfl, rfl, .inl ⟨by decide, by decide⟩, _, rfl, _, _, rfl, rfl, mix3 h5 hat, _, _, rfl, rfl, _, _, rfl, rfl, _, _, rfl, rfl, ⟨by decide, by decide, mix4 h5 hat _⟩, .inl ⟨_, rfl, _, _, rfl, rfl, (show (0 : Int) < 2147483549 by decide), ?_⟩⟩
            refine ⟨_, rfl, _, _, rfl, rfl, ⟨by decide, by decide⟩, .inl ⟨_, rfl, _, rfl, _, _, rfl, rfl, hm, ?_⟩⟩
            exact last0 _ (Int.emod_nonneg _ (by omega)) (Int.emod_lt_of_pos _ hm)
end
end K00
set_option Elab.async false
set_option linter.all false
set_option maxRecDepth 100000
set_option maxHeartbeats 2000000
namespace K00
open PySem PySem.Spec PyProof.Rows L2 My MyRd
section
variable {P : Program} {w : World} {K : PySem.W.Frag} {mg : Str → Option Value} {base : Heap} {SU nA fD fG : Addr} {fdD fdG : FuncData}
/-! ### pick -/
def spPick : Sp := fun vs H Q _ => ∃ (p l : Addr) (xs : List V) (n : Nat), vs = [.ref p, .ref l] ∧ l ≠ p ∧ H l = some (.lst xs) ∧ 0 < xs.length ∧ xs.length < 1000 ∧ PenAt H p n ∧ n ≤ 100000 ∧
  ∀ (i : Nat) x H', xs[i]? = some x → Ext p H H' → PenAt H' p (n + 1) → Q x H'
theorem scPick : FnScope ["_law_pen_here", "_law_some"] ["_law_pen_here", "_law_some"] (defScope sPick) := ⟨rfl, rfl, rfl, by decide +kernel, rfl, by decide +kernel, by decide +kernel⟩
theorem ok_pick {f : Addr} {fd : FuncData} (F : Fun K "_law_pick" "_law_pick" sPick f fd) (B : Blt mg) (D : FnT P w K mg base CX0 1 "_law_draw" fD fdD ["_law_pen_here", "_law_many"] spDraw) : FnOk P w K mg base CX0 2 f fd ["_law_pen_here", "_law_some"] spPick := by
  refine F.ok scPick (fun vs H Q E h => ?_) (fun cdv A outer s H vs Q E hr h => ?_)
  · obtain ⟨p, l, xs, n, rfl, _⟩ := h
    rfl
  · obtain ⟨p, l, xs, n, rfl, hne, hl, h0, h1, PN, hn, k⟩ := h
    refine ⟨_, (pss_one (ps_ret (pe_ix ix_list (pv 1) (pe_call D.ok (hr.mono (by decide)) (by rfl) D.g D.kp D.bn .nil pass0 (pa_cons (pv 0) (pa_cons (pe_callB call_len_seq (by rfl) B.len PySem.boot_len (pa_cons (pv 1) pa_nil)) pa_nil))) (fun _ _ => rfl)))), ?_⟩
    refine ⟨_, rfl, _, rfl, _, rfl, l, _, rfl, .inl (SqL.of hl), p, _, n, rfl, by omega, by omega, PN, hn, fun d H' d0 d1 e pn => ?_⟩
    obtain ⟨i, rfl⟩ : ∃ i : Nat, d = (i : Int) := ⟨d.toNat, by omega⟩
    have hi : i < xs.length := by omega
    have hx : xs[i]? = some xs[i] := by simp [hi]
    exact ⟨l, xs, _, xs[i], rfl, rfl, SqL.of (e _ _ hl hne), atI_nat hx, k i _ H' hx e pn⟩
end
end K00
set_option Elab.async false
set_option linter.all false
set_option maxRecDepth 100000
set_option maxHeartbeats 2000000
namespace K00
open PySem PySem.Spec PyProof.Rows L2 My MyRd
/-- a comprehension without a test, step by step -/
theorem lc_gen {J : It} {n : Nat} {G : Hp → Prop} {Y : Nat → Hp → V → Hp → Prop} (w : Walk J n G Y) {g : L2.TG} {te : L2.TE} {vs : List Nat} {σ : L2.St} {H1 : Hp} {D : Addr} {Qd : Hp → Prop} (Pv : Nat → Hp → Prop) (h0 : Pv 0 (upd H1 D (.lst [])))
    (hG : ∀ i H, i ≤ n → Pv i H → G H)
    (hs : ∀ i x H H', i < n → Pv i H → Y i H x H' → g x (wipe σ vs) H' fun σ2 H2 => wipe σ2 vs = wipe σ vs ∧ te σ2 H2 fun y H4 => ∃ acc, H4 D = some (.lst acc) ∧ acc.length < sizeLine ∧ Pv (i + 1) (upd H4 D (.lst (acc ++ [y])))) (hd : ∀ H, Pv n H → Qd H) :
    ∃ W : Nat → Nat → Hp → Prop, (∃ m, W 0 m (upd H1 D (.lst []))) ∧ ∀ i m H, W i m H →
      (J.stop i H ∧ Qd H) ∨ (J.go i H ∧ ∃ Nx : Hp → Prop, (∀ H', Nx H' → ∃ m', m' < m ∧ W (i + 1) m' H') ∧ ∀ x H', J.yld i H x H' → g x (wipe σ vs) H' fun σ2 H2 => wipe σ2 vs = wipe σ vs ∧ tYes σ2 H2 fun b H3 =>
        if b = true then te σ2 H3 fun y H4 => ∃ acc, H4 D = some (.lst acc) ∧ acc.length < sizeLine ∧ Nx (upd H4 D (.lst (acc ++ [y]))) else Nx H3) := by
  refine lc_it w Pv h0 hG (fun i x H H' hi p y => ?_) hd
  have z := hs i x H H' hi p y
  unfold tYes
  simp only [if_true]
  exact z
section
variable {P : Program} {w : World} {K : PySem.W.Frag} {mg : Str → Option Value} {base : Heap}
/-! ### ascending_keys -/
abbrev sAsc : Stmt := top 2
def kInt : Key → Option Int
  | .inl i => some i
  | .inr _ => none
def kStr : Key → Option Str
  | .inr z => some z
  | .inl _ => none
def spAsc : Sp := fun vs H Q _ => ∃ (d : Addr) (kvs : List (Key × V)), vs = [.ref d] ∧ H d = some (.dK kvs) ∧ kvs.length ≤ 10 ∧ ∀ (ns : List Int) (ss : List Str) l H', ns.Perm ((kvs.map (·.1)).filterMap kInt) → ns.Pairwise (· ≤ ·) → ss.Perm ((kvs.map (·.1)).filterMap kStr) → sortedS ss = true →
  Same H H' → H l = none → H' l = some (.lst (ns.map V.int ++ ss.map V.str)) → Q (.ref l) H'
abbrev asN : List Str := ["table", "numbers", "names", "key"]
theorem scAsc : FnScope asN ["table"] (defScope sAsc) := ⟨rfl, rfl, rfl, by decide +kernel, rfl, by decide +kernel, by decide +kernel⟩
theorem ok_asc {f : Addr} {fd : FuncData} (F : Fun K "ascending_keys" "ascending_keys" sAsc f fd) (B : Blt mg) : FnOk P w K mg base CX0 1 f fd ["table"] spAsc := by
  refine F.ok scAsc (fun vs H Q E h => ?_) (fun cdv A outer s H vs Q E hr h => ?_)
  · obtain ⟨d, kvs, rfl, _⟩ := h
    rfl
  · obtain ⟨d, kvs, rfl, hd, hl, q⟩ := h
    refine ⟨_, pss_cons (ps_set (i := 1) scAsc.nd rfl (Or.inl rfl) (pe_callB cr_sorted (by rfl) B.sorted (by decide +kernel) (pa_cons (pe_lock (pe_lc (own := [("key", 3)]) (g := gName 3) rfl scAsc.nd (pi_keys (pv 0)) (blkOk_by (own := [("key", 3)]) (N := asN) (sc := defScope sAsc) (by decide +kernel)) (fun _ _ _ _ _ => pg_name (i := 3) scAsc.nd rfl (Or.inl rfl))
          (fun _ _ _ _ _ => pts_one (pt_val (pe_callB (call_isi : CallR _ (.builtin "isinstance") (rIsi K)) (by rfl) B.isinstance (by decide +kernel) (pa_cons (pv 3) (pa_cons (pe_bty "int" (by rfl) B.int (by decide +kernel)) pa_nil))))) (fun _ _ _ _ _ => pe_callTy call_int1 (by rfl) B.int (by decide +kernel) (pa_cons (pv 3) pa_nil)))) pa_nil)))
      (pss_cons (ps_set (i := 2) scAsc.nd rfl (Or.inl rfl) (pe_callB cr_sortedS (by rfl) B.sorted (by decide +kernel) (pa_cons (pe_lock (pe_lc (own := [("key", 3)]) (g := gName 3) rfl scAsc.nd (pi_keys (pv 0)) (blkOk_by (own := [("key", 3)]) (N := asN) (sc := defScope sAsc) (by decide +kernel)) (fun _ _ _ _ _ => pg_name (i := 3) scAsc.nd rfl (Or.inl rfl))
          (fun _ _ _ _ _ => pts_one (pt_val (pe_callB (call_isi : CallR _ (.builtin "isinstance") (rIsi K)) (by rfl) B.isinstance (by decide +kernel) (pa_cons (pv 3) (pa_cons (pe_bty "str" (by rfl) B.str (by decide +kernel)) pa_nil))))) (fun _ _ _ _ _ => pe_callTy SkE.call_str_str (by rfl) B.str (by decide +kernel) (pa_cons (pv 3) pa_nil)))) pa_nil)))
      (pss_one (ps_ret (pe_op op_cat (pv 1) (pv 2))))), ?_⟩
    have fit : ∀ {k : Nat}, k ≤ 20 → k < sizeLine := fun h => Nat.lt_of_le_of_lt h (by rw [sizeLine_eq]; decide)
    have fm : ∀ {β : Type} (g : Key → Option β) i, (((kvs.map (·.1)).take i).filterMap g).length ≤ 10 := fun g i => Nat.le_trans (List.length_filterMap_le _ _) (by rw [List.length_take, List.length_map]; omega)
    refine ⟨d, .dK kvs, hd, trivial, fun od => ⟨_, rfl, d, od, rfl, .inl ⟨_, upd_same, fun D fD => ?_⟩⟩⟩
    have lk : ∀ {b : Addr} {o : HO}, b ≠ d → H b = some o → upd H d (.frz od (.dK kvs)) b = some o := fun nb e => by
      rw [upd_ne nb]
      exact e
    have hz : upd H d (.frz od (.dK kvs)) d = some (.frz od (.dK kvs)) := upd_same
    generalize upd H d (.frz od (.dK kvs)) = H1 at lk hz fD
    have unl : ∀ {H2 : Hp}, (∀ b o, b ≠ D → H1 b = some o → H2 b = some o) → Same H (upd H2 d (.dK kvs)) := fun {H2} s2 b o e => by
      by_cases nb : b = d
      · rw [nb] at e ⊢
        rw [hd] at e
        rw [upd_same]
        exact e
      · rw [upd_ne nb]
        exact s2 _ _ (ne_of_none (lk nb e) fD) (lk nb e)
    have nD : D ≠ d := fun q => by
      rw [q, hz] at fD
      cases fD
    have fl : H D = none := by
      cases e : H D with
      | none => rfl
      | some o =>
        rw [lk nD e] at fD
        cases fD
    refine lc_it (g := gName 3) (walk_keys (d := d) (o := od) (kvs := kvs)) (fun i H' => (∀ b o, b ≠ D → H1 b = some o → H' b = some o) ∧ H' D = some (.lst ((((kvs.map (·.1)).take i).filterMap kInt).map V.int))) ⟨fun b o nb e => by rw [upd_ne nb]; exact e, upd_same⟩ (fun i H' _ p => p.1 _ _ (Ne.symm nD) hz) (fun i x2 H2 H3 hi p y => ?_) (fun H2 p => ?_)
    · obtain ⟨rfl, key, v', hx, rfl⟩ := y
      obtain ⟨s2, hD⟩ := p
      have hk : (kvs.map (·.1))[i]? = some key := by rw [List.getElem?_map, hx]; rfl
      have tk : ((kvs.map (·.1)).take (i + 1)).filterMap kInt = ((kvs.map (·.1)).take i).filterMap kInt ++ (kInt key).toList := by
        rw [List.take_succ, hk, List.filterMap_append]
        cases key <;> rfl
      cases key with
      | inl k =>
        refine ⟨rfl, _, rfl, _, _, .type "int", _, true, rfl, .ty _, .base (.int _), kit_ty (by decide +kernel), _, rfl, iteT ?_⟩
        refine ⟨_, rfl, .inl ⟨k, rfl, _, hD, ?_, fun b o nb e => ?_, ?_⟩⟩
        · rw [List.length_map]
          exact fit (Nat.le_trans (fm kInt i) (by decide))
        · rw [upd_ne nb]
          exact s2 b o nb e
        · rw [upd_same, tk, List.map_append]
          rfl
      | inr z =>
        refine ⟨rfl, _, rfl, _, _, .type "str", _, false, rfl, .ty _, .base (.str _), kit_ty (by decide +kernel), _, rfl, iteF ⟨s2, ?_⟩⟩
        rw [tk, hD]
        simp [kInt]
    obtain ⟨s2, hD⟩ := p
    rw [show kvs.length = (kvs.map (·.1)).length from (List.length_map _).symm, List.take_length] at hD
    have s3 := unl s2
    refine ⟨s2 _ _ (Ne.symm nD) hz, ?_⟩
    have hD3 : upd H2 d (.dK kvs) D = some (.lst (((kvs.map (·.1)).filterMap kInt).map V.int)) := by
      rw [upd_ne nD]
      exact hD
    have hd3 : upd H2 d (.dK kvs) d = some (.dK kvs) := upd_same
    generalize upd H2 d (.dK kvs) = H3 at s3 hD3 hd3
    have fm0 : ∀ {β : Type} (g : Key → Option β), ((kvs.map (·.1)).filterMap g).length ≤ 10 := fun g => Nat.le_trans (List.length_filterMap_le _ _) (by rw [List.length_map]; exact hl)
    refine ⟨D, _, rfl, SqL.of hD3, Nat.lt_of_le_of_lt (fm0 kInt) (by decide), fun ns' p hp hpw fp => ?_⟩
    have s4 := same_upd (o := .lst (ns'.map V.int)) fp
    have hp4 : upd H3 p (.lst (ns'.map V.int)) p = some (.lst (ns'.map V.int)) := upd_same
    have hd4 := s4 _ _ hd3
    have s34 := s3.trans s4
    generalize upd H3 p (.lst (ns'.map V.int)) = H4 at s34 hp4 hd4
    clear hD3 s3 s4 fD hD nD s2 hz lk unl fp hd3 fl
    refine ⟨d, .dK kvs, hd4, trivial, fun od2 => ⟨_, rfl, d, od2, rfl, .inl ⟨_, upd_same, fun D2 fD2 => ?_⟩⟩⟩
    have lk : ∀ {b : Addr} {o : HO}, b ≠ d → H4 b = some o → upd H4 d (.frz od2 (.dK kvs)) b = some o := fun nb e => by
      rw [upd_ne nb]
      exact e
    have hz : upd H4 d (.frz od2 (.dK kvs)) d = some (.frz od2 (.dK kvs)) := upd_same
    generalize upd H4 d (.frz od2 (.dK kvs)) = H5 at lk hz fD2
    have unl : ∀ {H2 : Hp}, (∀ b o, b ≠ D2 → H5 b = some o → H2 b = some o) → Same H4 (upd H2 d (.dK kvs)) := fun {H2} s2 b o e => by
      by_cases nb : b = d
      · rw [nb] at e ⊢
        rw [hd4] at e
        rw [upd_same]
        exact e
      · rw [upd_ne nb]
        exact s2 _ _ (ne_of_none (lk nb e) fD2) (lk nb e)
    have nD2 : D2 ≠ d := fun q => by
      rw [q, hz] at fD2
      cases fD2
    refine lc_it (g := gName 3) (walk_keys (d := d) (o := od2) (kvs := kvs)) (fun i H' => (∀ b o, b ≠ D2 → H5 b = some o → H' b = some o) ∧ H' D2 = some (.lst ((((kvs.map (·.1)).take i).filterMap kStr).map V.str))) ⟨fun b o nb e => by rw [upd_ne nb]; exact e, upd_same⟩ (fun i H' _ p => p.1 _ _ (Ne.symm nD2) hz) (fun i x2 H2 H3 hi p y => ?_) (fun H2 p => ?_)
    · obtain ⟨rfl, key, v', hx, rfl⟩ := y
      obtain ⟨s2, hD⟩ := p
      have hk : (kvs.map (·.1))[i]? = some key := by rw [List.getElem?_map, hx]; rfl
      have tk : ((kvs.map (·.1)).take (i + 1)).filterMap kStr = ((kvs.map (·.1)).take i).filterMap kStr ++ (kStr key).toList := by
        rw [List.take_succ, hk, List.filterMap_append]
        cases key <;> rfl
      cases key with
      | inr k =>
        refine ⟨rfl, _, rfl, _, _, .type "str", _, true, rfl, .ty _, .base (.str _), kit_ty (by decide +kernel), _, rfl, iteT ?_⟩
        refine ⟨_, rfl, _, rfl, _, hD, ?_, fun b o nb e => ?_, ?_⟩
        · rw [List.length_map]
          exact fit (Nat.le_trans (fm kStr i) (by decide))
        · rw [upd_ne nb]
          exact s2 b o nb e
        · rw [upd_same, tk, List.map_append]
          rfl
      | inl z =>
        refine ⟨rfl, _, rfl, _, _, .type "int", _, false, rfl, .ty _, .base (.int _), kit_ty (by decide +kernel), _, rfl, iteF ⟨s2, ?_⟩⟩
        rw [tk, hD]
        simp [kStr]
    · obtain ⟨s2, hD⟩ := p
      rw [show kvs.length = (kvs.map (·.1)).length from (List.length_map _).symm, List.take_length] at hD
      have s3 := unl s2
      have hD3 : upd H2 d (.dK kvs) D2 = some (.lst (((kvs.map (·.1)).filterMap kStr).map V.str)) := by
        rw [upd_ne nD2]
        exact hD
      refine ⟨s2 _ _ (Ne.symm nD2) hz, ?_⟩
      have hp5 := s3 _ _ hp4
      have s35 := s34.trans s3
      generalize upd H2 d (.dK kvs) = H6 at s35 hD3 hp5
      refine ⟨D2, _, rfl, SqL.of hD3, Nat.lt_of_le_of_lt (fm0 kStr) (by decide), fun ys p2 hp2 hs2 fp => ?_⟩
      have s6 := same_upd (o := .lst (ys.map V.str)) fp
      refine ⟨_, rfl, _, rfl, p, p2, _, _, rfl, rfl, s6 _ _ hp5, upd_same, ?_, fun r fr => ?_⟩
      · rw [List.length_map, List.length_map, hp.length_eq, hp2.length_eq]
        have a1 := fm0 kInt
        have a2 := fm0 kStr
        exact Nat.le_of_lt (fit (by omega))
      · have s7 := same_upd (o := .lst (ns'.map V.int ++ ys.map V.str)) fr
        exact q ns' ys r _ hp hpw hp2 hs2 ((s35.trans s6).trans s7) ((s35.trans s6).free fr) upd_same
end
end K00
set_option Elab.async false
set_option linter.all false
set_option maxRecDepth 100000
set_option maxHeartbeats 2000000
namespace K00
open PySem PySem.Spec PyProof.Rows L2 My MyRd
/-! ### values, and what fixed gives of them -/
mutual
inductive FxT (H : Hp) : V → PyData → Prop where
  | non : FxT H .non .none
  | bl (b : Bool) : FxT H (.bl b) (.bool b)
  | int (i : Int) : FxT H (.int i) (.int i)
  | str (z : Str) : FxT H (.str z) (.str z)
  | tup {a : Addr} {xs : List V} {ds : List PyData} : H a = some (.tup xs) → FxTs H xs ds → FxT H (.ref a) (.tuple ds)
inductive FxTs (H : Hp) : List V → List PyData → Prop where
  | nil : FxTs H [] []
  | cons {x : V} {d : PyData} {xs : List V} {ds : List PyData} : FxT H x d → FxTs H xs ds → FxTs H (x :: xs) (d :: ds)
end
mutual
theorem FxT.kt {H H' : Hp} (k : KT H H') : ∀ {x : V} {d : PyData}, FxT H x d → FxT H' x d
  | _, _, .non => .non
  | _, _, .bl b => .bl b
  | _, _, .int i => .int i
  | _, _, .str z => .str z
  | _, _, .tup h t => .tup (k _ _ h) (t.kt k)
theorem FxTs.kt {H H' : Hp} (k : KT H H') : ∀ {x : List V} {d : List PyData}, FxTs H x d → FxTs H' x d
  | _, _, .nil => .nil
  | _, _, .cons h t => .cons (h.kt k) (t.kt k)
end
mutual
theorem FxT.db {H : Hp} : ∀ {x : V} {d : PyData}, FxT H x d → Db H x d
  | _, _, .non => .non
  | _, _, .bl b => .bl b
  | _, _, .int i => .int i
  | _, _, .str z => .str z
  | _, _, .tup h t => .tup h t.db
theorem FxTs.db {H : Hp} : ∀ {x : List V} {d : List PyData}, FxTs H x d → DbAll H x d
  | _, _, .nil => .nil
  | _, _, .cons h t => .cons h.db t.db
end
mutual
theorem FxT.dp {K : PySem.W.Frag} {H : Hp} : ∀ {x : V} {d : PyData}, FxT H x d → Dp K H x d
  | _, _, .non => .non
  | _, _, .bl b => .bl b
  | _, _, .int i => .int i
  | _, _, .str z => .str z
  | _, _, .tup h t => .tup (SqT.of h) t.dp
theorem FxTs.dp {K : PySem.W.Frag} {H : Hp} : ∀ {x : List V} {d : List PyData}, FxTs H x d → DpAll K H x d
  | _, _, .nil => .nil
  | _, _, .cons h t => .cons h.dp t.dp
end
theorem FxTs.app {H : Hp} : ∀ {xs : List V} {ds : List PyData} {y : V} {e : PyData}, FxTs H xs ds → FxT H y e → FxTs H (xs ++ [y]) (ds ++ [e])
  | _, _, _, _, .nil, h => .cons h .nil
  | _, _, _, _, .cons a t, h => .cons a (t.app h)
theorem FxTs.len {H : Hp} : ∀ {xs : List V} {ds : List PyData}, FxTs H xs ds → xs.length = ds.length
  | _, _, .nil => rfl
  | _, _, .cons _ t => congrArg (· + 1) t.len
/-- the keys of a dict as they ascend -/
def Asc (kvs : List (Key × V)) (ks : List Key) : Prop := ∀ (ns : List Int) (ss : List Str), ns.Perm ((kvs.map (·.1)).filterMap kInt) → ns.Pairwise (· ≤ ·) → ss.Perm ((kvs.map (·.1)).filterMap kStr) → sortedS ss = true → ns.map V.int ++ ss.map V.str = ks.map kV
theorem PenAt.noT {p c a : Nat} {H : Hp} {xs : List V} (P : PenAt H p c) (h : H a = some (.tup xs)) : a ≠ p := fun q => by
  obtain ⟨ys, e⟩ := P.there
  rw [q, e] at h
  cases h
theorem PenAt.noD {p c a : Nat} {H : Hp} {xs : List (Key × V)} (P : PenAt H p c) (h : H a = some (.dK xs)) : a ≠ p := fun q => by
  obtain ⟨ys, e⟩ := P.there
  rw [q, e] at h
  cases h
theorem KT.ext {p c : Nat} {A B : Hp} (e : Ext p A B) (P : PenAt A p c) : KT A B := fun _ _ h => e.keep _ _ h (P.noT h)
theorem Ext.freeP {p l : Addr} {H H' : Hp} {n : Nat} (e : Ext p H H') (P : PenAt H' p n) (h : H' l = none) : H l = none := by
  cases q : H l with
  | none => rfl
  | some u =>
    have := e.keep l u q (P.ne h)
    rw [h] at this
    cases this
theorem ext_updF {p a : Addr} {H G : Hp} {o : HO} (e : Ext p H G) (h : H a = none) (na : a ≠ p) : Ext p H (upd G a o) := ⟨fun b u k n => by
  rw [upd_ne (ne_of_none k h)]
  exact e.keep b u k n, fun c x y k => by
  obtain ⟨x', y', k'⟩ := e.pen c x y k
  exact ⟨x', y', by rw [upd_ne na.symm]; exact k'⟩⟩
theorem pen_updF {p a : Addr} {H G : Hp} {o : HO} {n m : Nat} (P0 : PenAt H p m) (e : Ext p H G) (h : H a = none) (P : PenAt G p n) : PenAt (upd G a o) p n := by
  obtain ⟨c0, ns0, a0, g0, k1, k2, k3, _⟩ := P0.ex
  obtain ⟨c, ns, at_, g, h1, h2, h3, h4, h5, h6⟩ := P.ex
  obtain ⟨x1, y1, q1⟩ := e.pen _ _ _ k1
  rw [h1] at q1
  cases q1
  have na : p ≠ a := fun z => by rw [z, h] at k1; cases k1
  have nc : c0 ≠ a := fun z => by rw [z, h] at k3; cases k3
  exact ⟨c0, ns, at_, g, by rw [upd_ne na]; exact h1, h2, by rw [upd_ne nc]; exact h3, h4, h5, h6⟩
mutual
/-- a value: a bound of its depth, its data, what fixed gives of it -/
inductive Vd (av : Addr → Prop) (H : Hp) : Nat → V → PyData → PyData → Prop where
  | non {n : Nat} : Vd av H n .non .none .none
  | bl {n : Nat} (b : Bool) : Vd av H n (.bl b) (.bool b) (.bool b)
  | int {n : Nat} (i : Int) : Vd av H n (.int i) (.int i) (.int i)
  | str {n : Nat} (z : Str) : Vd av H n (.str z) (.str z) (.str z)
  | lst {n : Nat} {a : Addr} {xs : List V} {ds es : List PyData} : ¬ av a → H a = some (.lst xs) → xs.length ≤ 10 → Vds av H n xs ds es → Vd av H (n + 1) (.ref a) (.list ds) (.tuple es)
  | tup {n : Nat} {a : Addr} {xs : List V} {ds es : List PyData} : H a = some (.tup xs) → xs.length ≤ 10 → Vds av H n xs ds es → Vd av H (n + 1) (.ref a) (.tuple ds) (.tuple es)
  | dic {n : Nat} {a : Addr} {kvs : List (Key × V)} {ks : List Key} {es : List (PyData × PyData)} {fs : List PyData} : H a = some (.dK kvs) → kvs.length ≤ 10 → VdKv av H n kvs es → Asc kvs ks → ks.length ≤ 10 → VdKs av H n kvs ks fs → Vd av H (n + 1) (.ref a) (.dict es) (.tuple fs)
inductive Vds (av : Addr → Prop) (H : Hp) : Nat → List V → List PyData → List PyData → Prop where
  | nil {n : Nat} : Vds av H n [] [] []
  | cons {n : Nat} {x : V} {d e : PyData} {xs : List V} {ds es : List PyData} : Vd av H n x d e → Vds av H n xs ds es → Vds av H n (x :: xs) (d :: ds) (e :: es)
inductive VdKv (av : Addr → Prop) (H : Hp) : Nat → List (Key × V) → List (PyData × PyData) → Prop where
  | nil {n : Nat} : VdKv av H n [] []
  | cons {n : Nat} {k : Key} {x : V} {d e : PyData} {kvs : List (Key × V)} {es : List (PyData × PyData)} : Vd av H n x d e → VdKv av H n kvs es → VdKv av H n ((k, x) :: kvs) ((kD k, d) :: es)
inductive VdKs (av : Addr → Prop) (H : Hp) : Nat → List (Key × V) → List Key → List PyData → Prop where
  | nil {n : Nat} {kvs : List (Key × V)} : VdKs av H n kvs [] []
  | cons {n : Nat} {kvs : List (Key × V)} {k : Key} {x : V} {d e : PyData} {ks : List Key} {fs : List PyData} : valV kvs k = some x → Vd av H n x d e → VdKs av H n kvs ks fs → VdKs av H n kvs (k :: ks) (.tuple [kD k, e] :: fs)
end
mutual
theorem Vd.same {av : Addr → Prop} {H H' : Hp} (s : Same H H') : ∀ {n : Nat} {x : V} {d e : PyData}, Vd av H n x d e → Vd av H' n x d e
  | _, _, _, _, .non => .non
  | _, _, _, _, .bl b => .bl b
  | _, _, _, _, .int i => .int i
  | _, _, _, _, .str z => .str z
  | _, _, _, _, .lst z h l t => .lst z (s _ _ h) l (t.same s)
  | _, _, _, _, .tup h l t => .tup (s _ _ h) l (t.same s)
  | _, _, _, _, .dic h l t a m u => .dic (s _ _ h) l (t.same s) a m (u.same s)
theorem Vds.same {av : Addr → Prop} {H H' : Hp} (s : Same H H') : ∀ {n : Nat} {x : List V} {d e : List PyData}, Vds av H n x d e → Vds av H' n x d e
  | _, _, _, _, .nil => .nil
  | _, _, _, _, .cons h t => .cons (h.same s) (t.same s)
theorem VdKv.same {av : Addr → Prop} {H H' : Hp} (s : Same H H') : ∀ {n : Nat} {x : List (Key × V)} {d : List (PyData × PyData)}, VdKv av H n x d → VdKv av H' n x d
  | _, _, _, .nil => .nil
  | _, _, _, .cons h t => .cons (h.same s) (t.same s)
theorem VdKs.same {av : Addr → Prop} {H H' : Hp} (s : Same H H') : ∀ {n : Nat} {kvs : List (Key × V)} {ks : List Key} {d : List PyData}, VdKs av H n kvs ks d → VdKs av H' n kvs ks d
  | _, _, _, _, .nil => .nil
  | _, _, _, _, .cons a h t => .cons a (h.same s) (t.same s)
end
mutual
theorem Vd.db {av : Addr → Prop} {H : Hp} : ∀ {n : Nat} {x : V} {d e : PyData}, Vd av H n x d e → Db H x d
  | _, _, _, _, .non => .non
  | _, _, _, _, .bl b => .bl b
  | _, _, _, _, .int i => .int i
  | _, _, _, _, .str z => .str z
  | _, _, _, _, .lst _ h _ t => .lst h t.db
  | _, _, _, _, .tup h _ t => .tup h t.db
  | _, _, _, _, .dic h _ t _ _ _ => .dic h t.db
theorem Vds.db {av : Addr → Prop} {H : Hp} : ∀ {n : Nat} {x : List V} {d e : List PyData}, Vds av H n x d e → DbAll H x d
  | _, _, _, _, .nil => .nil
  | _, _, _, _, .cons h t => .cons h.db t.db
theorem VdKv.db {av : Addr → Prop} {H : Hp} : ∀ {n : Nat} {x : List (Key × V)} {d : List (PyData × PyData)}, VdKv av H n x d → DbKv H x d
  | _, _, _, .nil => .nil
  | _, _, _, .cons h t => .cons h.db t.db
end
theorem Vds.len {av : Addr → Prop} {H : Hp} {n : Nat} : ∀ {xs : List V} {ds es : List PyData}, Vds av H n xs ds es → xs.length = es.length ∧ xs.length = ds.length
  | _, _, _, .nil => ⟨rfl, rfl⟩
  | _, _, _, .cons _ t => ⟨congrArg (· + 1) t.len.1, congrArg (· + 1) t.len.2⟩
theorem Vds.at {av : Addr → Prop} {H : Hp} {n : Nat} : ∀ {xs : List V} {ds es : List PyData}, Vds av H n xs ds es → ∀ {i : Nat} {x : V}, xs[i]? = some x → ∃ d e, es[i]? = some e ∧ Vd av H n x d e
  | _, _, _, .nil, _, _, h => by cases h
  | _, _, _, .cons a t, 0, _, h => by
    cases Option.some.inj h
    exact ⟨_, _, rfl, a⟩
  | _, _, _, .cons a t, i + 1, _, h => t.at (i := i) h
theorem VdKs.len {av : Addr → Prop} {H : Hp} {n : Nat} {kvs : List (Key × V)} : ∀ {ks : List Key} {fs : List PyData}, VdKs av H n kvs ks fs → ks.length = fs.length
  | _, _, .nil => rfl
  | _, _, .cons _ _ t => congrArg (· + 1) t.len
theorem VdKs.at {av : Addr → Prop} {H : Hp} {n : Nat} {kvs : List (Key × V)} : ∀ {ks : List Key} {fs : List PyData}, VdKs av H n kvs ks fs → ∀ {i : Nat} {k : Key}, ks[i]? = some k → ∃ x d e, fs[i]? = some (.tuple [kD k, e]) ∧ valV kvs k = some x ∧ Vd av H n x d e
  | _, _, .nil, _, _, h => by cases h
  | _, _, .cons a b t, 0, _, h => by
    cases Option.some.inj h
    exact ⟨_, _, _, rfl, a, b⟩
  | _, _, .cons a b t, i + 1, _, h => t.at (i := i) h
/-- all stays but the lists that are avoided -/
def Kv (av : Addr → Prop) (H H' : Hp) : Prop := ∀ b o, H b = some o → ((∀ xs, o ≠ .lst xs) ∨ ¬ av b) → H' b = some o
theorem Kv.ext {av : Addr → Prop} {p c : Nat} {H H' : Hp} (e : Ext p H H') (P : PenAt H p c) (hp : av p) : Kv av H H' := fun b o h k => e.keep b o h fun q => by
  subst q
  rcases k with k | k
  · obtain ⟨ys, e2⟩ := P.there
    rw [h] at e2
    exact k ys (Option.some.inj e2)
  · exact k hp
theorem Kv.of {av : Addr → Prop} {H H' : Hp} (s : Same H H') : Kv av H H' := fun b o h _ => s b o h
theorem Kv.updL {av : Addr → Prop} {H : Hp} {D : Addr} {ys : List V} {o : HO} (h : H D = some (.lst ys)) (hd : av D) : Kv av H (upd H D o) := fun b u e k => by
  have nb : b ≠ D := fun q => by
    subst q
    rw [h] at e
    cases Option.some.inj e
    rcases k with k | k
    · exact k ys rfl
    · exact k hd
  rw [upd_ne nb]
  exact e
theorem Kv.trans {av : Addr → Prop} {A B C : Hp} (h : Kv av A B) (k : Kv av B C) : Kv av A C := fun b o e x => k b o (h b o e x) x
theorem Kv.kt {av : Addr → Prop} {A B : Hp} (h : Kv av A B) : KT A B := fun t xs e => h _ _ e (.inl fun _ z => nomatch z)
mutual
theorem Vd.kv {av : Addr → Prop} {H H' : Hp} (s : Kv av H H') : ∀ {n : Nat} {x : V} {d e : PyData}, Vd av H n x d e → Vd av H' n x d e
  | _, _, _, _, .non => .non
  | _, _, _, _, .bl b => .bl b
  | _, _, _, _, .int i => .int i
  | _, _, _, _, .str z => .str z
  | _, _, _, _, .lst z h l t => .lst z (s _ _ h (.inr z)) l (t.kv s)
  | _, _, _, _, .tup h l t => .tup (s _ _ h (.inl fun _ z => nomatch z)) l (t.kv s)
  | _, _, _, _, .dic h l t a m u => .dic (s _ _ h (.inl fun _ z => nomatch z)) l (t.kv s) a m (u.kv s)
theorem Vds.kv {av : Addr → Prop} {H H' : Hp} (s : Kv av H H') : ∀ {n : Nat} {x : List V} {d e : List PyData}, Vds av H n x d e → Vds av H' n x d e
  | _, _, _, _, .nil => .nil
  | _, _, _, _, .cons h t => .cons (h.kv s) (t.kv s)
theorem VdKv.kv {av : Addr → Prop} {H H' : Hp} (s : Kv av H H') : ∀ {n : Nat} {x : List (Key × V)} {d : List (PyData × PyData)}, VdKv av H n x d → VdKv av H' n x d
  | _, _, _, .nil => .nil
  | _, _, _, .cons h t => .cons (h.kv s) (t.kv s)
theorem VdKs.kv {av : Addr → Prop} {H H' : Hp} (s : Kv av H H') : ∀ {n : Nat} {kvs : List (Key × V)} {ks : List Key} {d : List PyData}, VdKs av H n kvs ks d → VdKs av H' n kvs ks d
  | _, _, _, _, .nil => .nil
  | _, _, _, _, .cons a h t => .cons a (h.kv s) (t.kv s)
end
mutual
theorem Vd.wk {av av' : Addr → Prop} {H : Hp} (s : ∀ b, av' b → av b) : ∀ {n : Nat} {x : V} {d e : PyData}, Vd av H n x d e → Vd av' H n x d e
  | _, _, _, _, .non => .non
  | _, _, _, _, .bl b => .bl b
  | _, _, _, _, .int i => .int i
  | _, _, _, _, .str z => .str z
  | _, _, _, _, .lst z h l t => .lst (fun q => z (s _ q)) h l (t.wk s)
  | _, _, _, _, .tup h l t => .tup h l (t.wk s)
  | _, _, _, _, .dic h l t a m u => .dic h l (t.wk s) a m (u.wk s)
theorem Vds.wk {av av' : Addr → Prop} {H : Hp} (s : ∀ b, av' b → av b) : ∀ {n : Nat} {x : List V} {d e : List PyData}, Vds av H n x d e → Vds av' H n x d e
  | _, _, _, _, .nil => .nil
  | _, _, _, _, .cons h t => .cons (h.wk s) (t.wk s)
theorem VdKv.wk {av av' : Addr → Prop} {H : Hp} (s : ∀ b, av' b → av b) : ∀ {n : Nat} {x : List (Key × V)} {d : List (PyData × PyData)}, VdKv av H n x d → VdKv av' H n x d
  | _, _, _, .nil => .nil
  | _, _, _, .cons h t => .cons (h.wk s) (t.wk s)
theorem VdKs.wk {av av' : Addr → Prop} {H : Hp} (s : ∀ b, av' b → av b) : ∀ {n : Nat} {kvs : List (Key × V)} {ks : List Key} {d : List PyData}, VdKs av H n kvs ks d → VdKs av' H n kvs ks d
  | _, _, _, _, .nil => .nil
  | _, _, _, _, .cons a h t => .cons a (h.wk s) (t.wk s)
end
theorem kV_fx {H : Hp} (k : Key) : FxT H (kV k) (kD k) := by
  cases k with
  | inl i => exact .int i
  | inr z => exact .str z
end K00
set_option Elab.async false
set_option linter.all false
set_option maxRecDepth 100000
set_option maxHeartbeats 2000000
namespace K00
open PySem PySem.Spec PyProof.Rows L2 My MyRd
section
variable {P : Program} {w : World} {K : PySem.W.Frag} {mg : Str → Option Value} {base : Heap} {fAk fFx : Addr} {fdAk fdFx : FuncData}
/-! ### fixed -/
/-- what does not run -/
theorem pss_dead {X : Cx} {body : List Stmt} : PSs X body (fun _ _ _ => False) := by
  constructor
  intros
  exact False.elim (by assumption)
abbrev sFixed : Stmt := top 1
def spFixed (n : Nat) : Sp := fun vs H Q _ => ∃ (av : Addr → Prop) (x : V) (d e : PyData), vs = [x] ∧ Vd av H n x d e ∧ ∀ y H', Same H H' → FxT H' y e → Q y H'
abbrev fxN : List Str := ["value", "item", "key"]
theorem scFixed : FnScope fxN ["value"] (defScope sFixed) := ⟨rfl, rfl, rfl, by decide +kernel, rfl, by decide +kernel, by decide +kernel⟩
theorem hu_of {k : Nat} {A : Around} (hr : Room k A) : A.units + 1 < cLine := by
  have := hr.un
  omega
/-- isinstance(x, (list, tuple)), isinstance(x, dict) of the kinds -/
theorem any2 {t : String} {b1 b2 : Bool} (h1 : PySem.W.kitOne K (.type t) (.type "list") = some b1) (h2 : PySem.W.kitOne K (.type t) (.type "tuple") = some b2) : PySem.W.kitAny K (.type t) [.type "list", .type "tuple"] = some (b1 || b2) := by
  unfold PySem.W.kitAny
  rw [h1]
  cases b1 with
  | true => rfl
  | false =>
    show PySem.W.kitAny K (.type t) [.type "tuple"] = _
    unfold PySem.W.kitAny
    rw [h2]
    cases b2 <;> rfl
theorem fx_leaf {f : Addr} {cdv : Value} {A : Around} {outer : List Env} {s : Shared} {H : Hp} {E : XK} {Q : VK} {x : V} {t : String} (B : Blt mg) (hx : Kd H x t) (h1 : t ≠ "list") (h2 : t ≠ "tuple") (h3 : t ≠ "dict") (q : ∀ H', Same H H' → Q x H') :
    ∃ t, PSs (cxOf CX0 P w K mg base fxN "fixed" (defScope sFixed) f cdv A outer s H E).nox (defBody sFixed) t ∧ t { nx := fun _ H' => Q .non H', rt := Q } (start fxN [x]) H := by
  have k1 : PySem.W.kitOne K (.type t) (.type "list") = some false := by cases hx <;> first | exact kit_ty (by decide +kernel) | exact absurd rfl h1
  have k2 : PySem.W.kitOne K (.type t) (.type "tuple") = some false := by cases hx <;> first | exact kit_ty (by decide +kernel) | exact absurd rfl h2
  have k3 : PySem.W.kitOne K (.type t) (.type "dict") = some false := by cases hx <;> first | exact kit_ty (by decide +kernel) | exact absurd rfl h3
  refine ⟨_, pss_cons (ps_if (pt_val (pe_callB call_isiT (by rfl) B.isinstance (by decide +kernel) (pa_cons (pv 0) (pa_cons (pe_tup (pa_cons (pe_bty "list" (by rfl) B.list (by decide +kernel)) (pa_cons (pe_bty "tuple" (by rfl) B.tuple (by decide +kernel)) pa_nil))) pa_nil)))) pss_dead pss_nil)
    (pss_cons (ps_if (pt_val (pe_callB call_isi (by rfl) B.isinstance (by decide +kernel) (pa_cons (pv 0) (pa_cons (pe_bty "dict" (by rfl) B.dict (by decide +kernel)) pa_nil)))) pss_dead pss_nil)
    (pss_one (ps_ret (pv 0)))), ?_⟩
  refine ⟨_, rfl, (show 2 ≤ sizeLine by decide), fun p fp => ⟨_, p, _, .type t, _, false, rfl, upd_same, .cons (.ty _) (.cons (.ty _) .nil), (hx.same (same_upd fp)).tyX, any2 (b1 := false) (b2 := false) k1 k2, _, rfl, iteF ?_⟩⟩
  exact ⟨_, rfl, _, _, .type t, _, false, rfl, .ty _, (hx.same (same_upd fp)).tyX, k3, _, rfl, iteF ⟨_, rfl, q _ (same_upd fp)⟩⟩
theorem ok_fixed {f : Addr} {fd : FuncData} (F : Fun K "fixed" "fixed" sFixed f fd) (B : Blt mg) (g : mg "fixed" = some (.ref f)) (bn : Binds K fd ["value"] []) (AK : FnT P w K mg base CX0 1 "ascending_keys" fAk fdAk ["table"] spAsc) :
    ∀ n : Nat, FnOk P w K mg base CX0 (n + 2) f fd ["value"] (spFixed n) := by
  intro n
  induction n with
  | zero =>
    refine F.ok scFixed (fun vs H Q E h => ?_) (fun cdv A outer s H vs Q E hr h => ?_)
    · obtain ⟨pn, x, d, e, rfl, _⟩ := h
      rfl
    · obtain ⟨pn, x, d, e, rfl, fx, q⟩ := h
      cases fx with
      | non => exact fx_leaf B .non (by decide) (by decide) (by decide) fun H' s => q _ _ s .non
      | bl b => exact fx_leaf B (.bl b) (by decide) (by decide) (by decide) fun H' s => q _ _ s (.bl b)
      | int i => exact fx_leaf B (.int i) (by decide) (by decide) (by decide) fun H' s => q _ _ s (.int i)
      | str z => exact fx_leaf B (.str z) (by decide) (by decide) (by decide) fun H' s => q _ _ s (.str z)
  | succ n ih =>
    refine F.ok scFixed (fun vs H Q E h => ?_) (fun cdv A outer s H vs Q E hr h => ?_)
    · obtain ⟨pn, x, d, e, rfl, _⟩ := h
      rfl
    obtain ⟨pn, x, d, e, rfl, fx, q⟩ := h
    cases fx with
    | non => exact fx_leaf B .non (by decide) (by decide) (by decide) fun H' s => q _ _ s .non
    | bl b => exact fx_leaf B (.bl b) (by decide) (by decide) (by decide) fun H' s => q _ _ s (.bl b)
    | int i => exact fx_leaf B (.int i) (by decide) (by decide) (by decide) fun H' s => q _ _ s (.int i)
    | str z => exact fx_leaf B (.str z) (by decide) (by decide) (by decide) fun H' s => q _ _ s (.str z)
    | @lst _ a xs ds es _ ha hl fxs =>
      refine ⟨_, pss_cons (ps_if (pt_val (pe_callB call_isiT (by rfl) B.isinstance (by decide +kernel) (pa_cons (pv 0) (pa_cons (pe_tup (pa_cons (pe_bty "list" (by rfl) B.list (by decide +kernel)) (pa_cons (pe_bty "tuple" (by rfl) B.tuple (by decide +kernel)) pa_nil))) pa_nil)))) (pss_one (ps_ret (pe_callTy call_tuple_of (by rfl) B.tuple (by decide +kernel) (pa_cons (pe_lc (own := [("item", 1)]) (g := gName 1) rfl scFixed.nd (pi_list (pv 0)) (blkOk_by (own := [("item", 1)]) (N := fxN) (sc := defScope sFixed) (by decide +kernel)) (fun _ _ _ _ _ => pg_name (i := 1) scFixed.nd rfl (Or.inl rfl)) (fun _ _ _ _ _ => pts_nil)
              (fun _ _ _ _ _ => pe_call ih (hr.mono (by omega)) (by rfl) g F.kp bn .nil pass0 (pa_cons (pv 1) pa_nil))) pa_nil)))) pss_nil) pss_dead, ?_⟩
      refine ⟨_, rfl, (show 2 ≤ sizeLine by decide), fun p fp => ⟨_, p, _, .type "list", _, true, rfl, upd_same, .cons (.ty _) (.cons (.ty _) .nil), .base (.lst (by rw [upd_ne (ne_of_none ha fp)]; exact ha)), any2 (b1 := true) (b2 := false) (kit_ty (by decide +kernel)) (kit_ty (by decide +kernel)), _, rfl, iteT ?_⟩⟩
      have ha1 : upd H p (.tup [.ty "list", .ty "tuple"]) a = some (.lst xs) := by rw [upd_ne (ne_of_none ha fp)]; exact ha
      have s1 : Same H (upd H p (.tup [.ty "list", .ty "tuple"])) := same_upd fp
      generalize upd H p (.tup [.ty "list", .ty "tuple"]) = H1 at s1 ha1
      refine ⟨_, rfl, a, rfl, ⟨_, SqL.of ha1⟩, fun D fD => ?_⟩
      refine lc_gen (g := gName 1) (walk_list (K := K) (a := a) (xs := xs)) (fun i H' => Same H1 H' ∧ ∃ ys, H' D = some (.lst ys) ∧ FxTs H' ys (es.take i)) ⟨same_upd fD, [], upd_same, .nil⟩ (fun i H' _ p => SqL.of (p.1 _ _ ha1)) (fun i x H2 H3 hi p y => ?_) (fun H2 p => ?_)
      · obtain ⟨rfl, hx⟩ := y
        obtain ⟨s2, ys, hD, ft⟩ := p
        obtain ⟨d, e, hz, fd'⟩ := fxs.at hx
        refine ⟨rfl, _, rfl, pn, x, d, e, rfl, fd'.same (s1.trans s2), fun y H4 s4 fy => ?_⟩
        have hD4 := s4 _ _ hD
        have l1 := ft.len
        rw [List.length_take] at l1
        have l2 := fxs.len.1
        refine ⟨ys, hD4, Nat.lt_of_le_of_lt (m := 10) (by omega) (by rw [sizeLine_eq]; decide), same_updF (s2.trans s4) fD, ys ++ [y], upd_same, ?_⟩
        rw [List.take_succ, hz]
        exact (ft.kt ((KT.of s4).trans (KT.updL hD4))).app (fy.kt (KT.updL hD4))
      · obtain ⟨s2, ys, hD, ft⟩ := p
        rw [fxs.len.1, List.take_length] at ft
        exact ⟨D, ys, rfl, .inl ⟨SqL.of hD, fun l fl => q _ _ ((s1.trans s2).trans (same_upd fl)) (.tup upd_same (ft.kt (KT.new fl)))⟩⟩
    | @tup _ a xs ds es ha hl fxs =>
      refine ⟨_, pss_cons (ps_if (pt_val (pe_callB call_isiT (by rfl) B.isinstance (by decide +kernel) (pa_cons (pv 0) (pa_cons (pe_tup (pa_cons (pe_bty "list" (by rfl) B.list (by decide +kernel)) (pa_cons (pe_bty "tuple" (by rfl) B.tuple (by decide +kernel)) pa_nil))) pa_nil)))) (pss_one (ps_ret (pe_callTy call_tuple_of (by rfl) B.tuple (by decide +kernel) (pa_cons (pe_lc (own := [("item", 1)]) (g := gName 1) rfl scFixed.nd (pi_tup (pv 0)) (blkOk_by (own := [("item", 1)]) (N := fxN) (sc := defScope sFixed) (by decide +kernel)) (fun _ _ _ _ _ => pg_name (i := 1) scFixed.nd rfl (Or.inl rfl)) (fun _ _ _ _ _ => pts_nil)
              (fun _ _ _ _ _ => pe_call ih (hr.mono (by omega)) (by rfl) g F.kp bn .nil pass0 (pa_cons (pv 1) pa_nil))) pa_nil)))) pss_nil) pss_dead, ?_⟩
      refine ⟨_, rfl, (show 2 ≤ sizeLine by decide), fun p fp => ⟨_, p, _, .type "tuple", _, true, rfl, upd_same, .cons (.ty _) (.cons (.ty _) .nil), .base (.tup (by rw [upd_ne (ne_of_none ha fp)]; exact ha)), any2 (b1 := false) (b2 := true) (kit_ty (by decide +kernel)) (kit_ty (by decide +kernel)), _, rfl, iteT ?_⟩⟩
      have ha1 : upd H p (.tup [.ty "list", .ty "tuple"]) a = some (.tup xs) := by rw [upd_ne (ne_of_none ha fp)]; exact ha
      have s1 : Same H (upd H p (.tup [.ty "list", .ty "tuple"])) := same_upd fp
      generalize upd H p (.tup [.ty "list", .ty "tuple"]) = H1 at s1 ha1
      refine ⟨_, rfl, a, rfl, ⟨_, SqT.of ha1⟩, fun D fD => ?_⟩
      refine lc_gen (g := gName 1) (walk_tup (K := K) (a := a) (xs := xs)) (fun i H' => Same H1 H' ∧ ∃ ys, H' D = some (.lst ys) ∧ FxTs H' ys (es.take i)) ⟨same_upd fD, [], upd_same, .nil⟩ (fun i H' _ p => SqT.of (p.1 _ _ ha1)) (fun i x H2 H3 hi p y => ?_) (fun H2 p => ?_)
      · obtain ⟨rfl, hx⟩ := y
        obtain ⟨s2, ys, hD, ft⟩ := p
        obtain ⟨d, e, hz, fd'⟩ := fxs.at hx
        refine ⟨rfl, _, rfl, pn, x, d, e, rfl, fd'.same (s1.trans s2), fun y H4 s4 fy => ?_⟩
        have hD4 := s4 _ _ hD
        have l1 := ft.len
        rw [List.length_take] at l1
        have l2 := fxs.len.1
        refine ⟨ys, hD4, Nat.lt_of_le_of_lt (m := 10) (by omega) (by rw [sizeLine_eq]; decide), same_updF (s2.trans s4) fD, ys ++ [y], upd_same, ?_⟩
        rw [List.take_succ, hz]
        exact (ft.kt ((KT.of s4).trans (KT.updL hD4))).app (fy.kt (KT.updL hD4))
      · obtain ⟨s2, ys, hD, ft⟩ := p
        rw [fxs.len.1, List.take_length] at ft
        exact ⟨D, ys, rfl, .inl ⟨SqL.of hD, fun l fl => q _ _ ((s1.trans s2).trans (same_upd fl)) (.tup upd_same (ft.kt (KT.new fl)))⟩⟩
    | @dic _ a kvs ks es fs ha hl vk asc hk vks =>
      refine ⟨_, pss_cons (ps_if (pt_val (pe_callB call_isiT (by rfl) B.isinstance (by decide +kernel) (pa_cons (pv 0) (pa_cons (pe_tup (pa_cons (pe_bty "list" (by rfl) B.list (by decide +kernel)) (pa_cons (pe_bty "tuple" (by rfl) B.tuple (by decide +kernel)) pa_nil))) pa_nil)))) pss_dead pss_nil)
        (pss_cons (ps_if (pt_val (pe_callB call_isi (by rfl) B.isinstance (by decide +kernel) (pa_cons (pv 0) (pa_cons (pe_bty "dict" (by rfl) B.dict (by decide +kernel)) pa_nil)))) (pss_one (ps_ret (pe_callTy call_tuple_of (by rfl) B.tuple (by decide +kernel) (pa_cons (pe_lc (own := [("key", 2)]) (g := gName 2) rfl scFixed.nd (pi_list (pe_call AK.ok (hr.mono (by omega)) (by rfl) AK.g AK.kp AK.bn .nil pass0 (pa_cons (pv 0) pa_nil))) (blkOk_by (own := [("key", 2)]) (N := fxN) (sc := defScope sFixed) (by decide +kernel)) (fun _ _ _ _ _ => pg_name (i := 2) scFixed.nd rfl (Or.inl rfl)) (fun _ _ _ _ _ => pts_nil)
              (fun _ _ _ _ _ => pe_tup (pa_cons (pv 2) (pa_cons (pe_call ih (hr.mono (by omega)) (by rfl) g F.kp bn .nil pass0 (pa_cons (pe_dget (hu_of hr) (pv 0) (pv 2) (fun _ _ => rfl)) pa_nil)) pa_nil)))) pa_nil)))) pss_nil) pss_dead), ?_⟩
      have a0 : ∀ {p : Addr}, H p = none → upd H p (.tup [.ty "list", .ty "tuple"]) a = some (.dK kvs) := fun fp => by rw [upd_ne (ne_of_none ha fp)]; exact ha
      refine ⟨_, rfl, (show 2 ≤ sizeLine by decide), fun p fp => ⟨_, p, _, .type "dict", _, false, rfl, upd_same, .cons (.ty _) (.cons (.ty _) .nil), .base (.dK (a0 fp)), any2 (b1 := false) (b2 := false) (kit_ty (by decide +kernel)) (kit_ty (by decide +kernel)), _, rfl, iteF ?_⟩⟩
      refine ⟨_, rfl, _, _, .type "dict", _, true, rfl, .ty _, .base (.dK (a0 fp)), kit_ty (by decide +kernel), _, rfl, iteT ?_⟩
      have ha1 := a0 fp
      have s1 : Same H (upd H p (.tup [.ty "list", .ty "tuple"])) := same_upd fp
      generalize upd H p (.tup [.ty "list", .ty "tuple"]) = H1 at s1 ha1
      refine ⟨_, rfl, a, kvs, rfl, ha1, hl, fun ns ss l H2 p1 p2 p3 p4 s2 fl hl2 => ⟨l, rfl, ⟨_, SqL.of hl2⟩, fun D fD => ?_⟩⟩
      rw [asc ns ss p1 p2 p3 p4] at hl2
      have s12 := s1.trans s2
      refine lc_gen (g := gName 2) (walk_list (K := K) (a := l) (xs := ks.map kV)) (fun i H' => Same H2 H' ∧ ∃ ys, H' D = some (.lst ys) ∧ FxTs H' ys (fs.take i)) ⟨same_upd fD, [], upd_same, .nil⟩ (fun i H' _ p => SqL.of (p.1 _ _ hl2)) (fun i x H3 H4 hi p y => ?_) (fun H3 p => ?_)
      · obtain ⟨rfl, hx⟩ := y
        obtain ⟨s3, ys, hD, ft⟩ := p
        rw [List.getElem?_map] at hx
        obtain ⟨k, hkk, rfl⟩ := Option.map_eq_some_iff.mp hx
        obtain ⟨v, d0, e, hz, hv, fv⟩ := vks.at hkk
        have ha4 := (s12.trans s3) _ _ ha
        have dg : DGet H4 a (kV k) (some v) := by
          have e := DGet.k (k := k) ha4
          rw [hv] at e
          exact e
        refine ⟨rfl, _, rfl, _, rfl, _, rfl, a, _, rfl, dg, pn, v, d0, e, rfl, fv.same (s12.trans s3), fun y H5 s5 fy => ?_⟩
        refine ⟨(show 2 ≤ sizeLine by decide), fun t ft5 => ?_⟩
        have s6 := same_upd (o := .tup [kV k, y]) ft5
        have hD6 := s6 _ _ (s5 _ _ hD)
        have l0 := ft.len
        rw [List.length_take] at l0
        have l2 := vks.len
        refine ⟨ys, hD6, Nat.lt_of_le_of_lt (m := 10) (by omega) (by rw [sizeLine_eq]; decide), same_updF ((s3.trans s5).trans s6) fD, ys ++ [.ref t], upd_same, ?_⟩
        have kD' := KT.updL (o := .lst (ys ++ [.ref t])) hD6
        rw [List.take_succ, hz]
        exact (ft.kt (((KT.of s5).trans (KT.of s6)).trans kD')).app (.tup (kD' _ _ upd_same) (.cons (kV_fx k) (.cons (fy.kt ((KT.of s6).trans kD')) .nil)))
      · obtain ⟨s3, ys, hD, ft⟩ := p
        rw [List.length_map, vks.len, List.take_length] at ft
        exact ⟨D, ys, rfl, .inl ⟨SqL.of hD, fun r fr => q _ _ ((s12.trans s3).trans (same_upd fr)) (.tup upd_same (FxTs.kt (KT.new fr) ft))⟩⟩
end
end K00
set_option Elab.async false
set_option linter.all false
set_option maxRecDepth 100000
set_option maxHeartbeats 2000000
namespace K00
open PySem PySem.Spec PyProof.Rows L2 My MyRd
theorem valV_mem {κ : Type} [DecidableEq κ] : ∀ {kvs : List (κ × V)}, (kvs.map (·.1)).Nodup → ∀ {kv : κ × V}, kv ∈ kvs → valV kvs kv.1 = some kv.2
  | [], _, _, h => nomatch h
  | q :: r, hn, kv, h => by
    rw [List.map_cons, List.nodup_cons] at hn
    rcases List.mem_cons.mp h with rfl | h
    · exact valV_pos rfl
    · rw [valV_neg (fun e => hn.1 (by rw [e]; exact List.mem_map.mpr ⟨kv, h, rfl⟩))]
      exact valV_mem hn.2 h
/-! ### what spoil changes: the lists and dicts of a value -/
mutual
inductive Ft (H : Hp) : Nat → V → List Addr → Prop where
  | non {n : Nat} : Ft H n .non []
  | bl {n : Nat} (b : Bool) : Ft H n (.bl b) []
  | int {n : Nat} (i : Int) : Ft H n (.int i) []
  | str {n : Nat} (z : Str) : Ft H n (.str z) []
  | lst {n : Nat} {a : Addr} {xs : List V} {fp : List Addr} : H a = some (.lst xs) → xs.length ≤ 10 → Fts H n xs fp → Ft H (n + 1) (.ref a) (a :: fp)
  | tup {n : Nat} {a : Addr} {xs : List V} {fp : List Addr} : H a = some (.tup xs) → xs.length ≤ 10 → Fts H n xs fp → Ft H (n + 1) (.ref a) fp
  | dic {n : Nat} {a : Addr} {kvs : List (Key × V)} {fp : List Addr} : H a = some (.dK kvs) → kvs.length ≤ 10 → (kvs.map (·.1)).Nodup → Fts H n (kvs.map (·.2)) fp → Ft H (n + 1) (.ref a) (a :: fp)
inductive Fts (H : Hp) : Nat → List V → List Addr → Prop where
  | nil {n : Nat} : Fts H n [] []
  | cons {n : Nat} {x : V} {xs : List V} {f g : List Addr} : Ft H n x f → Fts H n xs g → Fts H n (x :: xs) (f ++ g)
end
/-- all but these stays -/
def Fr (A B : Hp) (g : List Addr) : Prop := ∀ b o, b ∉ g → A b = some o → B b = some o
theorem Fr.refl (A : Hp) (g : List Addr) : Fr A A g := fun _ _ _ e => e
theorem Fr.of {A B : Hp} (s : Same A B) (g : List Addr) : Fr A B g := fun _ _ _ e => s _ _ e
theorem Fr.mono {A B : Hp} {f g : List Addr} (h : Fr A B f) (s : ∀ b ∈ f, b ∈ g) : Fr A B g := fun b o n e => h b o (fun q => n (s b q)) e
theorem Fr.trans {A B C : Hp} {g : List Addr} (h : Fr A B g) (k : Fr B C g) : Fr A C g := fun b o n e => k b o n (h b o n e)
mutual
theorem Ft.ltd {H : Hp} : ∀ {n : Nat} {x : V} {fp : List Addr}, Ft H n x fp → ∀ b ∈ fp, ∃ o, H b = some o ∧ ∀ xs, o ≠ .tup xs
  | _, _, _, .non, _, h => by cases h
  | _, _, _, .bl _, _, h => by cases h
  | _, _, _, .int _, _, h => by cases h
  | _, _, _, .str _, _, h => by cases h
  | _, _, _, .lst e _ t, b, h => by
    rcases List.mem_cons.mp h with rfl | h
    · exact ⟨_, e, fun _ z => nomatch z⟩
    · exact t.ltd b h
  | _, _, _, .tup _ _ t, b, h => t.ltd b h
  | _, _, _, .dic e _ _ t, b, h => by
    rcases List.mem_cons.mp h with rfl | h
    · exact ⟨_, e, fun _ z => nomatch z⟩
    · exact t.ltd b h
theorem Fts.ltd {H : Hp} : ∀ {n : Nat} {x : List V} {fp : List Addr}, Fts H n x fp → ∀ b ∈ fp, ∃ o, H b = some o ∧ ∀ xs, o ≠ .tup xs
  | _, _, _, .nil, _, h => by cases h
  | _, _, _, .cons a t, b, h => by
    rcases List.mem_append.mp h with h | h
    · exact a.ltd b h
    · exact t.ltd b h
end
mutual
theorem Ft.fr {A B : Hp} {g : List Addr} (F : Fr A B g) (nt : ∀ b ∈ g, ∀ xs, A b ≠ some (.tup xs)) : ∀ {n : Nat} {x : V} {fp : List Addr}, Ft A n x fp → (∀ b ∈ fp, b ∉ g) → Ft B n x fp
  | _, _, _, .non, _ => .non
  | _, _, _, .bl b, _ => .bl b
  | _, _, _, .int i, _ => .int i
  | _, _, _, .str z, _ => .str z
  | _, _, _, .lst e l t, d => .lst (F _ _ (d _ (List.mem_cons_self ..)) e) l (t.fr F nt fun b h => d b (List.mem_cons_of_mem _ h))
  | _, _, _, .tup e l t, d => .tup (F _ _ (fun q => nt _ q _ e) e) l (t.fr F nt d)
  | _, _, _, .dic e l m t, d => .dic (F _ _ (d _ (List.mem_cons_self ..)) e) l m (t.fr F nt fun b h => d b (List.mem_cons_of_mem _ h))
theorem Fts.fr {A B : Hp} {g : List Addr} (F : Fr A B g) (nt : ∀ b ∈ g, ∀ xs, A b ≠ some (.tup xs)) : ∀ {n : Nat} {x : List V} {fp : List Addr}, Fts A n x fp → (∀ b ∈ fp, b ∉ g) → Fts B n x fp
  | _, _, _, .nil, _ => .nil
  | _, _, _, .cons a t, d => .cons (a.fr F nt fun b h => d b (List.mem_append_left _ h)) (t.fr F nt fun b h => d b (List.mem_append_right _ h))
end
theorem Ft.same {A B : Hp} (s : Same A B) {n : Nat} {x : V} {fp : List Addr} (h : Ft A n x fp) : Ft B n x fp := h.fr (g := []) (.of s _) (fun _ q => by cases q) fun _ _ q => by cases q
theorem Fts.same {A B : Hp} (s : Same A B) {n : Nat} {x : List V} {fp : List Addr} (h : Fts A n x fp) : Fts B n x fp := h.fr (g := []) (.of s _) (fun _ q => by cases q) fun _ _ q => by cases q
/-- while a row is gone through: what is done, and what is still whole -/
def Gone (H1 : Hp) (n : Nat) (xs : List V) (fp : List Addr) (i : Nat) (H : Hp) : Prop := ∃ f1 f2, f1 ++ f2 = fp ∧ Fts H n (xs.drop i) f2 ∧ Fr H1 H f1
theorem Gone.step {H1 H : Hp} {n i : Nat} {xs : List V} {fp : List Addr} {x : V} (G : Gone H1 n xs fp i H) (nd : fp.Nodup) (hx : xs[i]? = some x) : ∃ g, Ft H n x g ∧ (∀ b ∈ g, b ∈ fp) ∧ g.Nodup ∧ ∀ H', Fr H H' g → Gone H1 n xs fp (i + 1) H' := by
  obtain ⟨f1, f2, e, ft, fr⟩ := G
  have hd : xs.drop i = x :: xs.drop (i + 1) := by
    obtain ⟨h, e2⟩ := List.getElem?_eq_some_iff.mp hx
    rw [← e2]
    exact List.drop_eq_getElem_cons h
  rw [hd] at ft
  cases ft with
  | @cons _ _ _ g g' a t =>
    subst e
    have n2 := (List.nodup_append.mp nd).2.1
    have n3 := List.nodup_append.mp n2
    refine ⟨g, a, fun b h => List.mem_append_right _ (List.mem_append_left _ h), n3.1, fun H' F => ⟨f1 ++ g, g', by rw [List.append_assoc], ?_, ?_⟩⟩
    · exact t.fr F (fun b hb ys q => by
        obtain ⟨o, e1, e2⟩ := a.ltd b hb
        rw [e1] at q
        exact e2 ys (Option.some.inj q)) fun b hb hg => n3.2.2 b hg b hb rfl
    · exact (fr.mono fun b h => List.mem_append_left _ h).trans (F.mono fun b h => List.mem_append_right _ h)
section
variable {P : Program} {w : World} {K : PySem.W.Frag} {mg : Str → Option Value} {base : Heap}
abbrev sSp : Stmt := top 43
def spSp (n : Nat) : Sp := fun vs H Q _ => ∃ (x : V) (fp : List Addr), vs = [x] ∧ Ft H n x fp ∧ fp.Nodup ∧ ∀ H', Fr H H' fp → Q .non H'
abbrev spN : List Str := ["_law_value_here", "_law_item", "_law_key"]
theorem scSp : FnScope spN ["_law_value_here"] (defScope sSp) := ⟨rfl, rfl, rfl, by decide +kernel, rfl, by decide +kernel, by decide +kernel⟩
theorem sp_leaf {f : Addr} {cdv : Value} {A : Around} {outer : List Env} {s : Shared} {H : Hp} {E : XK} {Q : VK} {x : V} {t : String} (B : Blt mg) (hx : Kd H x t) (h1 : t ≠ "list") (h2 : t ≠ "tuple") (h3 : t ≠ "dict") (q : ∀ H', Same H H' → Q .non H') :
    ∃ t, PSs (cxOf CX0 P w K mg base spN "_law_spoil" (defScope sSp) f cdv A outer s H E).nox (defBody sSp) t ∧ t { nx := fun _ H' => Q .non H', rt := Q } (start spN [x]) H := by
  have k1 : PySem.W.kitOne K (.type t) (.type "list") = some false := by cases hx <;> first | exact kit_ty (by decide +kernel) | exact absurd rfl h1
  have k2 : PySem.W.kitOne K (.type t) (.type "tuple") = some false := by cases hx <;> first | exact kit_ty (by decide +kernel) | exact absurd rfl h2
  have k3 : PySem.W.kitOne K (.type t) (.type "dict") = some false := by cases hx <;> first | exact kit_ty (by decide +kernel) | exact absurd rfl h3
  refine ⟨_, pss_cons (ps_if (pt_val (pe_callB call_isiT (by rfl) B.isinstance (by decide +kernel) (pa_cons (pv 0) (pa_cons (pe_tup (pa_cons (pe_bty "list" (by rfl) B.list (by decide +kernel)) (pa_cons (pe_bty "tuple" (by rfl) B.tuple (by decide +kernel)) pa_nil))) pa_nil)))) pss_dead pss_nil) (pss_cons (ps_if (pt_val (pe_callB call_isi (by rfl) B.isinstance (by decide +kernel) (pa_cons (pv 0) (pa_cons (pe_bty "dict" (by rfl) B.dict (by decide +kernel)) pa_nil)))) pss_dead pss_nil) (pss_one (ps_if (pt_val (pe_callB call_isi (by rfl) B.isinstance (by decide +kernel) (pa_cons (pv 0) (pa_cons (pe_bty "list" (by rfl) B.list (by decide +kernel)) pa_nil)))) pss_dead pss_nil))), ?_⟩
  refine ⟨_, rfl, (show 2 ≤ sizeLine by decide), fun p fp => ⟨_, p, _, .type t, _, false, rfl, upd_same, .cons (.ty _) (.cons (.ty _) .nil), (hx.same (same_upd fp)).tyX, any2 (b1 := false) (b2 := false) k1 k2, _, rfl, iteF ?_⟩⟩
  refine ⟨_, rfl, _, _, .type t, _, false, rfl, .ty _, (hx.same (same_upd fp)).tyX, k3, _, rfl, iteF ?_⟩
  exact ⟨_, rfl, _, _, .type t, _, false, rfl, .ty _, (hx.same (same_upd fp)).tyX, k1, _, rfl, iteF (q _ (same_upd fp))⟩
theorem ok_spoil {f : Addr} {fd : FuncData} (F : Fun K "_law_spoil" "_law_spoil" sSp f fd) (B : Blt mg) (g : mg "_law_spoil" = some (.ref f)) (bn : Binds K fd ["_law_value_here"] []) :
    ∀ n : Nat, FnOk P w K mg base CX0 (n + 1) f fd ["_law_value_here"] (spSp n) := by
  intro n
  induction n with
  | zero =>
    refine F.ok scSp (fun vs H Q E h => ?_) (fun cdv A outer s H vs Q E hr h => ?_)
    · obtain ⟨x, fp, rfl, _⟩ := h
      rfl
    · obtain ⟨x, fp, rfl, fx, nd, q⟩ := h
      cases fx with
      | non => exact sp_leaf B .non (by decide) (by decide) (by decide) fun H' s => q _ (.of s _)
      | bl b => exact sp_leaf B (.bl b) (by decide) (by decide) (by decide) fun H' s => q _ (.of s _)
      | int i => exact sp_leaf B (.int i) (by decide) (by decide) (by decide) fun H' s => q _ (.of s _)
      | str z => exact sp_leaf B (.str z) (by decide) (by decide) (by decide) fun H' s => q _ (.of s _)
  | succ n ih =>
    refine F.ok scSp (fun vs H Q E h => ?_) (fun cdv A outer s H vs Q E hr h => ?_)
    · obtain ⟨x, fp, rfl, _⟩ := h
      rfl
    obtain ⟨x, fp, rfl, fx, nd, q⟩ := h
    have fit : ∀ {k : Nat}, k ≤ 20 → k < sizeLine := fun h => Nat.lt_of_le_of_lt h (by rw [sizeLine_eq]; decide)
    cases fx with
    | non => exact sp_leaf B .non (by decide) (by decide) (by decide) fun H' s => q _ (.of s _)
    | bl b => exact sp_leaf B (.bl b) (by decide) (by decide) (by decide) fun H' s => q _ (.of s _)
    | int i => exact sp_leaf B (.int i) (by decide) (by decide) (by decide) fun H' s => q _ (.of s _)
    | str z => exact sp_leaf B (.str z) (by decide) (by decide) (by decide) fun H' s => q _ (.of s _)
    | @lst _ a xs fp ha hl fts =>
      refine ⟨_, pss_cons (ps_if (pt_val (pe_callB call_isiT (by rfl) B.isinstance (by decide +kernel) (pa_cons (pv 0) (pa_cons (pe_tup (pa_cons (pe_bty "list" (by rfl) B.list (by decide +kernel)) (pa_cons (pe_bty "tuple" (by rfl) B.tuple (by decide +kernel)) pa_nil))) pa_nil)))) (pss_one (ps_for PassesOwn.never rfl (pi_list (pe_callTy call_list_of (by rfl) B.list (by decide +kernel) (pa_cons (pv 0) pa_nil))) (pg_name (i := 1) scSp.nd rfl (Or.inl rfl)) (pss_one (ps_expr (pe_call ih (hr.mono (by omega)) (by rfl) g F.kp bn .nil pass0 (pa_cons (pv 1) pa_nil)))))) pss_nil) (pss_cons (ps_if (pt_val (pe_callB call_isi (by rfl) B.isinstance (by decide +kernel) (pa_cons (pv 0) (pa_cons (pe_bty "dict" (by rfl) B.dict (by decide +kernel)) pa_nil)))) pss_dead pss_nil) (pss_one (ps_if (pt_val (pe_callB call_isi (by rfl) B.isinstance (by decide +kernel) (pa_cons (pv 0) (pa_cons (pe_bty "list" (by rfl) B.list (by decide +kernel)) pa_nil)))) (pss_one (ps_expr (pe_bm PySem.F.plainAttrs_list PySem.F.slot_list_append PySem.F.type_list_append mt_append (pv 0) (pa_cons pe_str pa_nil)))) pss_nil))), ?_⟩
      have ndf : fp.Nodup := (List.nodup_cons.mp nd).2
      refine ⟨_, rfl, (show 2 ≤ sizeLine by decide), fun p fp0 => ⟨_, p, _, .type "list", _, true, rfl, upd_same, .cons (.ty _) (.cons (.ty _) .nil), .base (.lst (by rw [upd_ne (ne_of_none ha fp0)]; exact ha)), any2 (b1 := true) (b2 := false) (kit_ty (by decide +kernel)) (kit_ty (by decide +kernel)), _, rfl, iteT ?_⟩⟩
      have s1 : Same H (upd H p (.tup [.ty "list", .ty "tuple"])) := same_upd fp0
      generalize upd H p (.tup [.ty "list", .ty "tuple"]) = H1 at s1
      refine ⟨_, rfl, a, xs, rfl, .inl (SqL.of (s1 _ _ ha)), fun l fl => ⟨l, rfl, ⟨_, SqL.of upd_same⟩, ?_⟩⟩
      have s2 := Same.trans s1 (same_upd (o := .lst xs) fl)
      have el : upd H1 l (.lst xs) l = some (.lst xs) := upd_same
      have nl : l ∉ fp := fun h => by
        obtain ⟨o, e, _⟩ := fts.ltd l h
        have := s1 _ _ e
        rw [fl] at this
        cases this
      generalize upd H1 l (.lst xs) = H2 at s2 el
      have fts2 := fts.same s2
      refine for_it (walk_list (K := K) (a := l) (xs := xs)) (fun i σ H' => Gone H2 n xs fp i H' ∧ ∃ y1 y2, σ = [some (.ref a), y1, y2]) ⟨⟨[], fp, rfl, fts2, Fr.refl _ _⟩, _, _, rfl⟩ (fun i σ H' hi p => ?_) (fun i x σ H3 H4 hi p y => ?_) (fun σ H3 p => ?_)
      · obtain ⟨⟨f1, f2, e, _, fr⟩, _⟩ := p
        exact SqL.of (fr _ _ (fun h => nl (by rw [← e]; exact List.mem_append_left _ h)) el)
      · obtain ⟨rfl, hx⟩ := y
        obtain ⟨G, y1, y2, rfl⟩ := p
        obtain ⟨g0, ft0, sub, nd0, stp⟩ := G.step ndf hx
        exact ⟨_, rfl, x, g0, rfl, ft0, nd0, fun H5 F5 => ⟨stp H5 F5, _, _, rfl⟩⟩
      obtain ⟨⟨f1, f2, e, _, fr⟩, y1, y2, rfl⟩ := p
      have fr := fr.mono (g := fp) fun b h => by rw [← e]; exact List.mem_append_left _ h
      have na : a ∉ fp := (List.nodup_cons.mp nd).1
      have ha3 := fr _ _ na (s2 _ _ ha)
      refine ⟨_, rfl, _, _, .type "list", _, false, rfl, .ty _, .base (.lst ha3), kit_ty (by decide +kernel), _, rfl, iteF ?_⟩
      refine ⟨_, rfl, _, _, .type "list", _, true, rfl, .ty _, .base (.lst ha3), kit_ty (by decide +kernel), _, rfl, iteT ?_⟩
      refine ⟨_, rfl, .inl ⟨rfl, _, SqL.of ha3⟩, a, xs, _, rfl, rfl, ha3, fit (by omega), q _ fun b o nb eb => ?_⟩
      have n1 : b ≠ a := fun z => nb (by rw [z]; exact List.mem_cons_self ..)
      have n2 : b ∉ fp := fun z => nb (List.mem_cons_of_mem _ z)
      rw [upd_ne n1]
      exact fr _ _ n2 (s2 _ _ eb)
    | @tup _ a xs fp ha hl fts =>
      refine ⟨_, pss_cons (ps_if (pt_val (pe_callB call_isiT (by rfl) B.isinstance (by decide +kernel) (pa_cons (pv 0) (pa_cons (pe_tup (pa_cons (pe_bty "list" (by rfl) B.list (by decide +kernel)) (pa_cons (pe_bty "tuple" (by rfl) B.tuple (by decide +kernel)) pa_nil))) pa_nil)))) (pss_one (ps_for PassesOwn.never rfl (pi_list (pe_callTy call_list_of (by rfl) B.list (by decide +kernel) (pa_cons (pv 0) pa_nil))) (pg_name (i := 1) scSp.nd rfl (Or.inl rfl)) (pss_one (ps_expr (pe_call ih (hr.mono (by omega)) (by rfl) g F.kp bn .nil pass0 (pa_cons (pv 1) pa_nil)))))) pss_nil) (pss_cons (ps_if (pt_val (pe_callB call_isi (by rfl) B.isinstance (by decide +kernel) (pa_cons (pv 0) (pa_cons (pe_bty "dict" (by rfl) B.dict (by decide +kernel)) pa_nil)))) pss_dead pss_nil) (pss_one (ps_if (pt_val (pe_callB call_isi (by rfl) B.isinstance (by decide +kernel) (pa_cons (pv 0) (pa_cons (pe_bty "list" (by rfl) B.list (by decide +kernel)) pa_nil)))) pss_dead pss_nil))), ?_⟩
      have ndf : fp.Nodup := nd
      refine ⟨_, rfl, (show 2 ≤ sizeLine by decide), fun p fp0 => ⟨_, p, _, .type "tuple", _, true, rfl, upd_same, .cons (.ty _) (.cons (.ty _) .nil), .base (.tup (by rw [upd_ne (ne_of_none ha fp0)]; exact ha)), any2 (b1 := false) (b2 := true) (kit_ty (by decide +kernel)) (kit_ty (by decide +kernel)), _, rfl, iteT ?_⟩⟩
      have s1 : Same H (upd H p (.tup [.ty "list", .ty "tuple"])) := same_upd fp0
      generalize upd H p (.tup [.ty "list", .ty "tuple"]) = H1 at s1
      refine ⟨_, rfl, a, xs, rfl, .inr (SqT.of (s1 _ _ ha)), fun l fl => ⟨l, rfl, ⟨_, SqL.of upd_same⟩, ?_⟩⟩
      have s2 := Same.trans s1 (same_upd (o := .lst xs) fl)
      have el : upd H1 l (.lst xs) l = some (.lst xs) := upd_same
      have nl : l ∉ fp := fun h => by
        obtain ⟨o, e, _⟩ := fts.ltd l h
        have := s1 _ _ e
        rw [fl] at this
        cases this
      generalize upd H1 l (.lst xs) = H2 at s2 el
      have fts2 := fts.same s2
      refine for_it (walk_list (K := K) (a := l) (xs := xs)) (fun i σ H' => Gone H2 n xs fp i H' ∧ ∃ y1 y2, σ = [some (.ref a), y1, y2]) ⟨⟨[], fp, rfl, fts2, Fr.refl _ _⟩, _, _, rfl⟩ (fun i σ H' hi p => ?_) (fun i x σ H3 H4 hi p y => ?_) (fun σ H3 p => ?_)
      · obtain ⟨⟨f1, f2, e, _, fr⟩, _⟩ := p
        exact SqL.of (fr _ _ (fun h => nl (by rw [← e]; exact List.mem_append_left _ h)) el)
      · obtain ⟨rfl, hx⟩ := y
        obtain ⟨G, y1, y2, rfl⟩ := p
        obtain ⟨g0, ft0, sub, nd0, stp⟩ := G.step ndf hx
        exact ⟨_, rfl, x, g0, rfl, ft0, nd0, fun H5 F5 => ⟨stp H5 F5, _, _, rfl⟩⟩
      obtain ⟨⟨f1, f2, e, _, fr⟩, y1, y2, rfl⟩ := p
      have fr := fr.mono (g := fp) fun b h => by rw [← e]; exact List.mem_append_left _ h
      have na : a ∉ fp := fun h => by
        obtain ⟨o, e1, e2⟩ := fts.ltd a h
        rw [ha] at e1
        exact e2 _ (Option.some.inj e1).symm
      have ha3 := fr _ _ na (s2 _ _ ha)
      refine ⟨_, rfl, _, _, .type "tuple", _, false, rfl, .ty _, .base (.tup ha3), kit_ty (by decide +kernel), _, rfl, iteF ?_⟩
      exact ⟨_, rfl, _, _, .type "tuple", _, false, rfl, .ty _, .base (.tup ha3), kit_ty (by decide +kernel), _, rfl, iteF (q _ fun b o nb eb => fr _ _ nb (s2 _ _ eb))⟩
    | @dic _ a kvs fp ha hl ndk fts =>
      refine ⟨_, pss_cons (ps_if (pt_val (pe_callB call_isiT (by rfl) B.isinstance (by decide +kernel) (pa_cons (pv 0) (pa_cons (pe_tup (pa_cons (pe_bty "list" (by rfl) B.list (by decide +kernel)) (pa_cons (pe_bty "tuple" (by rfl) B.tuple (by decide +kernel)) pa_nil))) pa_nil)))) pss_dead pss_nil) (pss_cons (ps_if (pt_val (pe_callB call_isi (by rfl) B.isinstance (by decide +kernel) (pa_cons (pv 0) (pa_cons (pe_bty "dict" (by rfl) B.dict (by decide +kernel)) pa_nil)))) (pss_cons (ps_for PassesOwn.never rfl (pi_list (pe_callTy (call_list_dK rfl) (by rfl) B.list (by decide +kernel) (pa_cons (pv 0) pa_nil))) (pg_name (i := 2) scSp.nd rfl (Or.inl rfl)) (pss_one (ps_expr (pe_call ih (hr.mono (by omega)) (by rfl) g F.kp bn .nil pass0 (pa_cons (pe_dget (hu_of hr) (pv 0) (pv 2) (fun _ _ => rfl)) pa_nil))))) (pss_one (ps_dput (hu_of hr) (pv 0) pe_str pe_int rfl))) pss_nil) (pss_one (ps_if (pt_val (pe_callB call_isi (by rfl) B.isinstance (by decide +kernel) (pa_cons (pv 0) (pa_cons (pe_bty "list" (by rfl) B.list (by decide +kernel)) pa_nil)))) pss_dead pss_nil))), ?_⟩
      have ndf : fp.Nodup := (List.nodup_cons.mp nd).2
      have na : a ∉ fp := (List.nodup_cons.mp nd).1
      refine ⟨_, rfl, (show 2 ≤ sizeLine by decide), fun p fp0 => ⟨_, p, _, .type "dict", _, false, rfl, upd_same, .cons (.ty _) (.cons (.ty _) .nil), .base (.dK (by rw [upd_ne (ne_of_none ha fp0)]; exact ha)), any2 (b1 := false) (b2 := false) (kit_ty (by decide +kernel)) (kit_ty (by decide +kernel)), _, rfl, iteF ?_⟩⟩
      have s1 : Same H (upd H p (.tup [.ty "list", .ty "tuple"])) := same_upd fp0
      generalize upd H p (.tup [.ty "list", .ty "tuple"]) = H1 at s1
      refine ⟨_, rfl, _, _, .type "dict", _, true, rfl, .ty _, .base (.dK (s1 _ _ ha)), kit_ty (by decide +kernel), _, rfl, iteT ?_⟩
      refine ⟨_, rfl, a, kvs, rfl, s1 _ _ ha, fun l fl => ⟨l, rfl, ⟨_, SqL.of upd_same⟩, ?_⟩⟩
      have s2 := Same.trans s1 (same_upd (o := .lst (kvs.map fun kv => kV kv.1)) fl)
      have el : upd H1 l (.lst (kvs.map fun kv => kV kv.1)) l = some (.lst (kvs.map fun kv => kV kv.1)) := upd_same
      have nl : l ∉ fp := fun h => by
        obtain ⟨o, e, _⟩ := fts.ltd l h
        have := s1 _ _ e
        rw [fl] at this
        cases this
      generalize upd H1 l (.lst (kvs.map fun kv => kV kv.1)) = H2 at s2 el
      have fts2 := fts.same s2
      have gone0 : Gone H2 n (kvs.map (·.2)) fp 0 H2 := ⟨[], fp, rfl, fts2, Fr.refl _ _⟩
      refine for_it (walk_list (K := K) (a := l) (xs := kvs.map fun kv => kV kv.1)) (fun i σ H' => Gone H2 n (kvs.map (·.2)) fp i H' ∧ ∃ y1 y2, σ = [some (.ref a), y1, y2]) ⟨gone0, _, _, rfl⟩ (fun i σ H' hi p => ?_) (fun i x σ H3 H4 hi p y => ?_) (fun σ H3 p => ?_)
      · obtain ⟨⟨f1, f2, e, _, fr⟩, _⟩ := p
        exact SqL.of (fr _ _ (fun h => nl (by rw [← e]; exact List.mem_append_left _ h)) el)
      · obtain ⟨rfl, hx⟩ := y
        obtain ⟨G, y1, y2, rfl⟩ := p
        rw [List.getElem?_map] at hx
        obtain ⟨⟨k, v⟩, hkv, rfl⟩ := Option.map_eq_some_iff.mp hx
        have hv : (kvs.map (·.2))[i]? = some v := by rw [List.getElem?_map, hkv]; rfl
        have hG := G
        obtain ⟨f1, f2, e, _, fr⟩ := hG
        have ha4 := fr _ _ (fun h => na (by rw [← e]; exact List.mem_append_left _ h)) (s2 _ _ ha)
        obtain ⟨g0, ft0, sub, nd0, stp⟩ := G.step ndf hv
        have vv : valV kvs k = some v := valV_mem (kv := (k, v)) ndk (List.mem_of_getElem? hkv)
        have dg : DGet H4 a (kV k) (some v) := by
          have e := DGet.k (k := k) ha4
          rw [vv] at e
          exact e
        exact ⟨_, rfl, _, rfl, a, _, rfl, dg, v, g0, rfl, ft0, nd0, fun H5 F5 => ⟨stp H5 F5, _, _, rfl⟩⟩
      obtain ⟨⟨f1, f2, e, _, fr⟩, y1, y2, rfl⟩ := p
      have fr := fr.mono (g := fp) fun b h => by rw [← e]; exact List.mem_append_left _ h
      have ha3 := fr _ _ na (s2 _ _ ha)
      refine ⟨_, rfl, a, _, rfl, DPut.k (k := .inr "spoilt") ha3 (fit (by omega)), ?_⟩
      refine ⟨_, rfl, _, _, .type "dict", _, false, rfl, .ty _, .base (.dK upd_same), kit_ty (by decide +kernel), _, rfl, iteF (q _ fun b o nb eb => ?_)⟩
      have n1 : b ≠ a := fun z => nb (by rw [z]; exact List.mem_cons_self ..)
      have n2 : b ∉ fp := fun z => nb (List.mem_cons_of_mem _ z)
      rw [upd_ne n1]
      exact fr _ _ n2 (s2 _ _ eb)
end
end K00
set_option Elab.async false
set_option linter.all false
set_option maxRecDepth 100000
set_option maxHeartbeats 2000000
namespace K00
open PySem PySem.Spec PyProof.Rows L2 My MyRd
/-! ### the keys of drawn dicts -/
def ins {α : Type} (x : α) : List α → List (List α)
  | [] => [[x]]
  | y :: r => (x :: y :: r) :: (ins x r).map (y :: ·)
def perms {α : Type} : List α → List (List α)
  | [] => [[]]
  | x :: r => (perms r).flatMap (ins x)
theorem ins_mem {α : Type} (x : α) : ∀ s t : List α, s ++ x :: t ∈ ins x (s ++ t)
  | [], [] => by simp [ins]
  | [], y :: r => by simp [ins]
  | y :: s, t => by
    show y :: (s ++ x :: t) ∈ ins x (y :: (s ++ t))
    simp only [ins, List.mem_cons, List.mem_map]
    exact .inr ⟨_, ins_mem x s t, rfl⟩
theorem perm_mem {α : Type} : ∀ {xs l : List α}, l.Perm xs → l ∈ perms xs
  | [], l, h => by
    rw [List.Perm.eq_nil h]
    simp [perms]
  | x :: xs, l, h => by
    have hx : x ∈ l := h.symm.subset (List.mem_cons_self ..)
    obtain ⟨s, t, rfl⟩ := List.append_of_mem hx
    have h2 : (s ++ t).Perm xs := by
      have h3 : (x :: (s ++ t)).Perm (x :: xs) := (List.perm_middle.symm).trans h
      exact h3.cons_inv
    simp only [perms, List.mem_flatMap]
    exact ⟨s ++ t, perm_mem h2, ins_mem x s t⟩
/-- the five rows of keys, ascending -/
def KS : List (List Key) := [[.inr "w", .inr "x", .inr "y"], [.inr "o", .inr "p", .inr "z0"], [.inl (-2), .inl 9, .inl 10], [.inr "", .inr "A", .inr "a"], [.inr "z0", .inr "z10", .inr "z9"]]
def kys (i : Nat) : List Key := KS.getD i []
/-- the order in which they are put -/
def ord (i f : Nat) (r : Bool) : List Key := if r = true then ((kys i).drop f ++ (kys i).take f).reverse else (kys i).drop f ++ (kys i).take f
/-- what of them is put, ascending -/
def ascK (i f : Nat) (r : Bool) (m : Nat) : List Key := (kys i).filter fun k => decide ((ord i f r).idxOf k < m)
def okAll (ks as : List Key) : Bool := (perms (ks.filterMap kInt)).all fun ns => (perms (ks.filterMap kStr)).all fun ss => !(decide (ns.Pairwise (· ≤ ·)) && sortedS ss) || decide (ns.map (Sum.inl : Int → Key) ++ ss.map (Sum.inr : Str → Key) = as)
theorem ok_keys : ∀ (i : Fin 5) (f : Fin 3) (r : Bool) (m : Fin 4), okAll ((ord i.val f.val r).take m.val) (ascK i.val f.val r m.val) = true := by decide +kernel
theorem asc_of {kvs : List (Key × V)} {i f m : Nat} {r : Bool} (hi : i < 5) (hf : f < 3) (hm : m < 4) (e : kvs.map (·.1) = (ord i f r).take m) : Asc kvs (ascK i f r m) := by
  intro ns ss p1 p2 p3 p4
  rw [e] at p1 p3
  have h := ok_keys ⟨i, hi⟩ ⟨f, hf⟩ r ⟨m, hm⟩
  unfold okAll at h
  have h1 := List.all_eq_true.mp h ns (perm_mem p1)
  have h2 := List.all_eq_true.mp h1 ss (perm_mem p3)
  rw [decide_eq_true p2, p4] at h2
  have h3 : ns.map (Sum.inl : Int → Key) ++ ss.map (Sum.inr : Str → Key) = ascK i f r m := by simpa using h2
  rw [← h3, List.map_append, List.map_map, List.map_map]
  rfl
theorem ord_nd : ∀ (i : Fin 5) (f : Fin 3) (r : Bool), (ord i.val f.val r).Nodup ∧ (ord i.val f.val r).length = 3 := by decide +kernel
theorem asc_len : ∀ (i : Fin 5) (f : Fin 3) (r : Bool) (m : Fin 4), (ascK i.val f.val r m.val).length ≤ 3 := by decide +kernel
theorem asc_mem : ∀ (i : Fin 5) (f : Fin 3) (r : Bool) (m : Fin 4), ∀ k ∈ ascK i.val f.val r m.val, ∃ j : Fin 3, j.val < m.val ∧ (ord i.val f.val r)[j.val]? = some k ∧ (ord i.val f.val r).idxOf k = j.val := by decide +kernel
end K00
set_option Elab.async false
set_option linter.all false
set_option maxRecDepth 100000
set_option maxHeartbeats 2000000
namespace K00
open PySem PySem.Spec PyProof.Rows L2 My MyRd
/-! ### how great drawn values are -/
def bN : Nat → Nat
  | 0 => 4
  | n + 1 => 3 * (bN n + 6)
def cN : Nat → Nat
  | 0 => 1
  | n + 1 => 5 + 3 * cN n
structure Sz (d : PyData) (b k : Nat) : Prop where
  sh : d.showable = true
  ls : d.leavesShort 80 = true
  bu : d.bulk ≤ b
  dp : d.depth ≤ k
theorem Sz.mono {d : PyData} {b k b' k' : Nat} (h : Sz d b k) (h1 : b ≤ b') (h2 : k ≤ k') : Sz d b' k' := ⟨h.sh, h.ls, Nat.le_trans h.bu h1, Nat.le_trans h.dp h2⟩
theorem Sz.len {d : PyData} {b k : Nat} (h : Sz d b k) (hb : b ≤ 10000) : d.shown.length ≤ sizeLine := by
  have h1 := PyData.shown_le_bulk 80 (by decide) d h.ls
  have h2 := h.bu
  rw [sizeLine_eq]
  omega
theorem bN_le : ∀ n, 4 ≤ bN n
  | 0 => Nat.le_refl _
  | n + 1 => by
    have := bN_le n
    show 4 ≤ 3 * (bN n + 6)
    omega
structure VdS (av : Addr → Prop) (H : Hp) (n : Nat) (v : V) (d e : PyData) : Prop where
  vd : Vd av H n v d e
  sd : Sz d (bN n) n
  se : Sz e (bN n) (2 * n)
  cl : e.canLay0 = true
theorem VdS.same {av : Addr → Prop} {H H' : Hp} {n : Nat} {v : V} {d e : PyData} (h : VdS av H n v d e) (s : Same H H') : VdS av H' n v d e := ⟨h.vd.same s, h.sd, h.se, h.cl⟩
/-- the plain values -/
def plains : List V := [.non, .bl true, .bl false, .int 0, .int 1, .int (-1), .int 7, .int (10 ^ 30), .int (-10 ^ 60), .str "", .str "z0", .str "a b", .str "[", .str "none"]
def plainD : V → PyData
  | .bl b => .bool b
  | .int i => .int i
  | .str z => .str z
  | _ => .none
theorem plain_sz : ∀ i : Fin 14, (plainD (plains.getD i.val .non)).showable = true ∧ (plainD (plains.getD i.val .non)).leavesShort 80 = true ∧ (plainD (plains.getD i.val .non)).bulk ≤ 4 ∧ (plainD (plains.getD i.val .non)).depth = 0 ∧ (plainD (plains.getD i.val .non)).canLay0 = true := by decide +kernel
theorem plain_ok {av : Addr → Prop} {H : Hp} {n i : Nat} {x : V} (hx : plains[i]? = some x) : VdS av H n x (plainD x) (plainD x) ∧ FxT H x (plainD x) ∧ Ft H n x [] := by
  have hi : i < 14 := (List.getElem?_eq_some_iff.mp hx).1
  have z := plain_sz ⟨i, hi⟩
  have e : plains.getD i .non = x := by
    rw [List.getD_eq_getElem?_getD, hx]
    rfl
  simp only [e] at z
  obtain ⟨z1, z2, z3, z4, z5⟩ := z
  have s : ∀ k, Sz (plainD x) (bN n) k := fun k => ⟨z1, z2, Nat.le_trans z3 (bN_le n), by omega⟩
  have m : x ∈ plains := List.mem_of_getElem? hx
  simp only [plains, List.mem_cons, List.not_mem_nil, or_false] at m
  rcases m with rfl | rfl | rfl | rfl | rfl | rfl | rfl | rfl | rfl | rfl | rfl | rfl | rfl | rfl
  · exact ⟨⟨.non, s _, s _, z5⟩, .non, .non⟩
  · exact ⟨⟨.bl _, s _, s _, z5⟩, .bl _, .bl _⟩
  · exact ⟨⟨.bl _, s _, s _, z5⟩, .bl _, .bl _⟩
  · exact ⟨⟨.int _, s _, s _, z5⟩, .int _, .int _⟩
  · exact ⟨⟨.int _, s _, s _, z5⟩, .int _, .int _⟩
  · exact ⟨⟨.int _, s _, s _, z5⟩, .int _, .int _⟩
  · exact ⟨⟨.int _, s _, s _, z5⟩, .int _, .int _⟩
  · exact ⟨⟨.int _, s _, s _, z5⟩, .int _, .int _⟩
  · exact ⟨⟨.int _, s _, s _, z5⟩, .int _, .int _⟩
  · exact ⟨⟨.str _, s _, s _, z5⟩, .str _, .str _⟩
  · exact ⟨⟨.str _, s _, s _, z5⟩, .str _, .str _⟩
  · exact ⟨⟨.str _, s _, s _, z5⟩, .str _, .str _⟩
  · exact ⟨⟨.str _, s _, s _, z5⟩, .str _, .str _⟩
  · exact ⟨⟨.str _, s _, s _, z5⟩, .str _, .str _⟩
abbrev sVa : Stmt := top 42
abbrev vaN : List Str := ["_law_pen_here", "_law_deep", "_law_way", "_law_plain", "_law_k", "_law_pairs", "_law_values", "_law_dues", "_law_keys", "_law_first", "_law_order", "_law_made", "_law_value_here", "_law_due", "_law_key"]
theorem scVa : FnScope vaN ["_law_pen_here", "_law_deep"] (defScope sVa) := ⟨rfl, rfl, rfl, by decide +kernel, rfl, by decide +kernel, by decide +kernel⟩
def spVal (n : Nat) : Sp := fun vs H Q _ => ∃ (p c : Nat), vs = [.ref p, .int (n : Int)] ∧ PenAt H p c ∧ c + cN n ≤ 90000 ∧ ∀ t v w d e fp H', Ext p H H' → PenAt H' p (c + cN n) → H t = none → H' t = some (.tup [v, w]) → VdS (fun b => H b ≠ none) H' n v d e → FxT H' w e → Ft H' n v fp → fp.Nodup → (∀ b ∈ fp, H b = none) → Q (.ref t) H'
/-- the body but its last part -/
def vaRest : List Stmt := (defBody sVa).drop 2
section
variable {P : Program} {w : World} {K : PySem.W.Frag} {mg : Str → Option Value} {base : Heap} {fD fG : Addr} {fdD fdG : FuncData}
theorem va_start {f : Addr} {cdv : Value} {A : Around} {outer : List Env} {s : Shared} {H : Hp} {E : XK} {k : Nat} {tr : L2.TS} (B : Blt mg) (D : FnT P w K mg base CX0 1 "_law_draw" fD fdD ["_law_pen_here", "_law_many"] spDraw) (G : FnT P w K mg base CX0 2 "_law_pick" fG fdG ["_law_pen_here", "_law_some"] spPick)
    (hr : Room (k + 3) (A.deeper (envOfC "_law_value" (defScope sVa) s.heap.objs.size f cdv))) (hx : PSs (cxOf CX0 P w K mg base vaN "_law_value" (defScope sVa) f cdv A outer s H E).nox vaRest tr) :
    ∃ t, PSs (cxOf CX0 P w K mg base vaN "_law_value" (defScope sVa) f cdv A outer s H E).nox (defBody sVa) t ∧ ∀ (D : Ends) (p n c : Nat) (H : Hp), PenAt H p c → c + cN n ≤ 90000 →
      (∀ t v w d e fp H', Ext p H H' → PenAt H' p (c + cN n) → H t = none → H' t = some (.tup [v, w]) → VdS (fun b => H b ≠ none) H' n v d e → FxT H' w e → Ft H' n v fp → fp.Nodup → (∀ b ∈ fp, H b = none) → D.rt (.ref t) H') →
      (∀ (way : Int) H', 0 < n → 3 ≤ way → way < 8 → Ext p H H' → PenAt H' p (c + 1) → tr D [some (.ref p), some (.int (n : Int)), some (.int way), none, none, none, none, none, none, none, none, none, none, none, none] H') →
      t D (start vaN [.ref p, .int (n : Int)]) H := by
  refine ⟨_, pss_cons (ps_set (i := 2) scVa.nd rfl (Or.inl rfl) (pe_ifExp (pt_cmpR op_gt (pv 1) pe_int (nomark _)) (pe_call D.ok (hr.mono (by omega)) (by rfl) D.g D.kp D.bn .nil pass0 (pa_cons (pv 0) (pa_cons pe_int pa_nil))) pe_int)) (pss_cons (ps_if (pt_cmpR op_lt (pv 2) pe_int (nomark _)) (pss_cons (ps_set (i := 3) scVa.nd rfl (Or.inl rfl) (pe_call G.ok (hr.mono (by omega)) (by rfl) G.g G.kp G.bn .nil pass0 (pa_cons (pv 0) (pa_cons (pe_lst (pa_cons pe_non (pa_cons pe_bl (pa_cons pe_bl (pa_cons pe_int (pa_cons pe_int (pa_cons (pe_un un_neg pe_int) (pa_cons pe_int (pa_cons (pe_op op_pow pe_int pe_int) (pa_cons (pe_un un_neg (pe_op op_pow pe_int pe_int)) (pa_cons pe_str (pa_cons pe_str (pa_cons pe_str (pa_cons pe_str (pa_cons pe_str pa_nil))))))))))))))) pa_nil)))) (pss_one (ps_ret (pe_tup (pa_cons (pv 3) (pa_cons (pv 3) pa_nil)))))) pss_nil) hx), fun D p n c H PN hc q k => ?_⟩
  have lst : ∀ (l : Addr) (c' : Nat) (H1 : Hp), H1 l = none → PenAt H1 p c' → l ≠ p := fun l c' H1 h P => P.ne h
  refine ⟨_, rfl, _, _, rfl, rfl, _, rfl, ifd (fun hn => ?_) (fun hn => ?_)⟩
  · have cn : 2 ≤ cN n := by
      match n, hn with
      | 0, hn => exact absurd hn (by decide)
      | n + 1, _ =>
        show 2 ≤ 5 + 3 * cN n
        omega
    refine ⟨_, rfl, p, 8, c, rfl, by decide, by decide, PN, by omega, fun way H1 d0 d1 e1 P1 => ⟨_, rfl, _, _, rfl, rfl, _, rfl, ifd (fun hw => ?_) (fun hw => ?_)⟩⟩
    · refine ⟨_, rfl, _, rfl, _, _, rfl, rfl, ⟨by decide, by decide, by decide⟩, _, _, rfl, rfl, ⟨by decide, by decide, by decide⟩, _, rfl, (show 14 ≤ sizeLine by decide), fun l fl => ?_⟩
      have lop := P1.ne fl
      refine ⟨p, l, plains, (c + 1), rfl, lop, upd_same, (show 0 < 14 by decide), (show 14 < 1000 by decide), P1.same (same_upd fl), by omega, fun i x H2 hx e2 P2 => ?_⟩
      have e12 := (e1.trans (.of (same_upd fl))).trans e2
      refine ⟨_, rfl, _, rfl, (show 2 ≤ sizeLine by decide), fun t ft => ?_⟩
      have st := same_upd (o := .tup [x, x]) ft
      obtain ⟨v1, v2, v3⟩ := plain_ok (av := fun b => H b ≠ none) (H := upd H2 t (.tup [x, x])) (n := n) hx
      exact q t x x _ _ [] _ (e12.trans (.of st)) ((P2.same st).mono (by omega)) (e12.freeP P2 ft) upd_same v1 v2 v3 List.nodup_nil (fun b hb => by cases hb)
    · exact k way H1 (by omega) (by omega) d1 e1 P1
  · have cn : 1 ≤ cN n := by
      match n with
      | 0 => exact Nat.le_refl _
      | n + 1 =>
        show 1 ≤ 5 + 3 * cN n
        omega
    have e1 := Ext.refl p H
    have P1 := PN
    refine ⟨_, rfl, _, _, rfl, rfl, _, rfl, ifd (fun hw => ?_) (fun hw => absurd (by decide) hw)⟩
    · refine ⟨_, rfl, _, rfl, _, _, rfl, rfl, ⟨by decide, by decide, by decide⟩, _, _, rfl, rfl, ⟨by decide, by decide, by decide⟩, _, rfl, (show 14 ≤ sizeLine by decide), fun l fl => ?_⟩
      have lop := P1.ne fl
      refine ⟨p, l, plains, c, rfl, lop, upd_same, (show 0 < 14 by decide), (show 14 < 1000 by decide), P1.same (same_upd fl), by omega, fun i x H2 hx e2 P2 => ?_⟩
      have e12 := (e1.trans (.of (same_upd fl))).trans e2
      refine ⟨_, rfl, _, rfl, (show 2 ≤ sizeLine by decide), fun t ft => ?_⟩
      have st := same_upd (o := .tup [x, x]) ft
      obtain ⟨v1, v2, v3⟩ := plain_ok (av := fun b => H b ≠ none) (H := upd H2 t (.tup [x, x])) (n := n) hx
      exact q t x x _ _ [] _ (e12.trans (.of st)) ((P2.same st).mono (by omega)) (e12.freeP P2 ft) upd_same v1 v2 v3 List.nodup_nil (fun b hb => by cases hb)
end
end K00
set_option Elab.async false
set_option linter.all false
set_option maxRecDepth 100000
set_option maxHeartbeats 2000000
namespace K00
open PySem PySem.Spec PyProof.Rows L2 My MyRd
/-! ### rows of drawn values -/
mutual
theorem Ft.kv {av : Addr → Prop} {A B : Hp} (k : Kv av A B) : ∀ {n : Nat} {x : V} {fp : List Addr}, Ft A n x fp → (∀ b ∈ fp, ¬ av b) → Ft B n x fp
  | _, _, _, .non, _ => .non
  | _, _, _, .bl b, _ => .bl b
  | _, _, _, .int i, _ => .int i
  | _, _, _, .str z, _ => .str z
  | _, _, _, .lst e l t, d => .lst (k _ _ e (.inr (d _ (List.mem_cons_self ..)))) l (t.kv k fun b h => d b (List.mem_cons_of_mem _ h))
  | _, _, _, .tup e l t, d => .tup (k _ _ e (.inl fun _ z => nomatch z)) l (t.kv k d)
  | _, _, _, .dic e l m t, d => .dic (k _ _ e (.inl fun _ z => nomatch z)) l m (t.kv k fun b h => d b (List.mem_cons_of_mem _ h))
theorem Fts.kv {av : Addr → Prop} {A B : Hp} (k : Kv av A B) : ∀ {n : Nat} {x : List V} {fp : List Addr}, Fts A n x fp → (∀ b ∈ fp, ¬ av b) → Fts B n x fp
  | _, _, _, .nil, _ => .nil
  | _, _, _, .cons a t, d => .cons (a.kv k fun b h => d b (List.mem_append_left _ h)) (t.kv k fun b h => d b (List.mem_append_right _ h))
end
theorem Vds.app {av : Addr → Prop} {H : Hp} {n : Nat} {y : V} {d0 e0 : PyData} : ∀ {xs : List V} {ds es : List PyData}, Vds av H n xs ds es → Vd av H n y d0 e0 → Vds av H n (xs ++ [y]) (ds ++ [d0]) (es ++ [e0])
  | _, _, _, .nil, h => .cons h .nil
  | _, _, _, .cons a t, h => .cons a (t.app h)
theorem Fts.app {H : Hp} {n : Nat} {y : V} {g : List Addr} : ∀ {xs : List V} {fp : List Addr}, Fts H n xs fp → Ft H n y g → Fts H n (xs ++ [y]) (fp ++ g)
  | _, _, .nil, h => by
    have := Fts.cons h .nil
    simpa using this
  | _, _, .cons (f := f) (g := g') a t, h => by
    have := Fts.cons a (t.app h)
    rw [← List.append_assoc] at this
    exact this
/-- a row of pairs, each a value and what fixed should give of it -/
structure Prs (H0 H : Hp) (n : Nat) (ts : List Addr) (vw : List (V × V)) (ds es : List PyData) (fp : List Addr) : Prop where
  tp : Paired (fun t (p : V × V) => H t = some (.tup [p.1, p.2])) ts vw
  vd : Vds (fun b => H0 b ≠ none) H n (vw.map (·.1)) ds es
  fx : FxTs H (vw.map (·.2)) es
  ft : Fts H n (vw.map (·.1)) fp
  nd : fp.Nodup
  fr : ∀ b ∈ fp, H0 b = none
  sd : ∀ d ∈ ds, Sz d (bN n) n
  se : ∀ e ∈ es, Sz e (bN n) (2 * n) ∧ e.canLay0 = true
theorem Prs.nil {H0 H : Hp} {n : Nat} : Prs H0 H n [] [] [] [] [] := ⟨.nil, .nil, .nil, .nil, List.nodup_nil, fun _ h => (by cases h), fun _ h => (by cases h), fun _ h => (by cases h)⟩
theorem Prs.kv {H0 H H' : Hp} {n : Nat} {ts : List Addr} {vw : List (V × V)} {ds es : List PyData} {fp : List Addr} (h : Prs H0 H n ts vw ds es fp) (k : Kv (fun b => H0 b ≠ none) H H') : Prs H0 H' n ts vw ds es fp :=
  ⟨Paired.mapP h.tp fun t p q => k.kt _ _ q, h.vd.kv k, h.fx.kt k.kt, h.ft.kv k fun b hb q => q (h.fr b hb), h.nd, h.fr, h.sd, h.se⟩
theorem Prs.snoc {H0 H H' : Hp} {n : Nat} {ts : List Addr} {vw : List (V × V)} {ds es : List PyData} {fp : List Addr} (h : Prs H0 H n ts vw ds es fp) (k : Kv (fun b => H0 b ≠ none) H H') (low : ∀ b, H0 b ≠ none → H b ≠ none)
    {t : Addr} {v w : V} {d e : PyData} {f : List Addr} (ht : H' t = some (.tup [v, w])) (vd : VdS (fun b => H b ≠ none) H' n v d e) (fx : FxT H' w e) (ft : Ft H' n v f) (nd : f.Nodup) (fr : ∀ b ∈ f, H b = none) :
    Prs H0 H' n (ts ++ [t]) (vw ++ [(v, w)]) (ds ++ [d]) (es ++ [e]) (fp ++ f) := by
  have g := h.kv k
  refine ⟨paired_app g.tp (.cons ht .nil), ?_, ?_, ?_, ?_, fun b hb => ?_, fun z hz => ?_, fun z hz => ?_⟩
  · rw [List.map_append]
    exact g.vd.app (vd.vd.wk fun b q => low b q)
  · rw [List.map_append]
    exact g.fx.app fx
  · rw [List.map_append]
    exact g.ft.app ft
  · refine List.nodup_append.mpr ⟨h.nd, nd, fun a ha b hb q => ?_⟩
    subst q
    obtain ⟨o, e1, _⟩ := h.ft.ltd a ha
    rw [fr a hb] at e1
    cases e1
  · rcases List.mem_append.mp hb with hb | hb
    · exact h.fr b hb
    · cases q : H0 b with
      | none => rfl
      | some o => exact absurd (fr b hb) (low b (by rw [q]; exact fun z => nomatch z))
  · rcases List.mem_append.mp hz with hz | hz
    · exact h.sd z hz
    · obtain rfl := List.mem_singleton.mp hz
      exact vd.sd
  · rcases List.mem_append.mp hz with hz | hz
    · exact h.se z hz
    · obtain rfl := List.mem_singleton.mp hz
      exact ⟨vd.se, vd.cl⟩
theorem showAll {ds : List PyData} (h : ∀ d ∈ ds, d.showable = true) : PyData.showableAll ds = true := by
  induction ds with
  | nil => rfl
  | cons d ds ih =>
    simp only [PyData.showableAll, h d (List.mem_cons_self ..), ih fun x hx => h x (List.mem_cons_of_mem _ hx), Bool.and_self]
theorem shortAll {ds : List PyData} (h : ∀ d ∈ ds, d.leavesShort 80 = true) : PyData.leavesShortAll 80 ds = true := by
  induction ds with
  | nil => rfl
  | cons d ds ih =>
    simp only [PyData.leavesShortAll, h d (List.mem_cons_self ..), ih fun x hx => h x (List.mem_cons_of_mem _ hx), Bool.and_self]
theorem layAll {ds : List PyData} (h : ∀ d ∈ ds, d.canLay0 = true) : PyData.canLayAll0 ds = true := by
  induction ds with
  | nil => rfl
  | cons d ds ih =>
    simp only [PyData.canLayAll0, h d (List.mem_cons_self ..), ih fun x hx => h x (List.mem_cons_of_mem _ hx), Bool.and_self]
theorem bulkAll {ds : List PyData} {b : Nat} (h : ∀ d ∈ ds, d.bulk ≤ b) : PyData.bulkAll ds ≤ ds.length * (b + 1) := by
  induction ds with
  | nil => exact Nat.zero_le _
  | cons d ds ih =>
    have h1 := h d (List.mem_cons_self ..)
    have h2 := ih fun x hx => h x (List.mem_cons_of_mem _ hx)
    simp only [PyData.bulkAll, List.length_cons, Nat.succ_mul]
    omega
theorem depthAll {ds : List PyData} {k : Nat} (h : ∀ d ∈ ds, d.depth ≤ k) : PyData.depthAll ds ≤ k := by
  induction ds with
  | nil => exact Nat.zero_le _
  | cons d ds ih =>
    have h1 := h d (List.mem_cons_self ..)
    have h2 := ih fun x hx => h x (List.mem_cons_of_mem _ hx)
    simp only [PyData.depthAll]
    omega
/-- of three such, a row or a tuple -/
theorem Sz.list {ds : List PyData} {b k : Nat} (h : ∀ d ∈ ds, Sz d b k) (hl : ds.length ≤ 3) : Sz (.list ds) (3 * (b + 6)) (k + 1) ∧ Sz (.tuple ds) (3 * (b + 6)) (k + 1) := by
  have h1 := showAll fun d hd => (h d hd).sh
  have h2 := shortAll fun d hd => (h d hd).ls
  have h3 := bulkAll fun d hd => (h d hd).bu
  have h4 := depthAll fun d hd => (h d hd).dp
  have h5 : ds.length * (b + 1) ≤ 3 * (b + 6) := Nat.le_trans (Nat.mul_le_mul_right _ hl) (by omega)
  have h6 : PyData.bulkAll ds ≤ 3 * (b + 6) := Nat.le_trans h3 h5
  exact ⟨⟨h1, h2, h6, Nat.succ_le_succ h4⟩, ⟨h1, h2, h6, Nat.succ_le_succ h4⟩⟩
end K00
set_option Elab.async false
set_option linter.all false
set_option maxRecDepth 100000
set_option maxHeartbeats 2000000
namespace K00
open PySem PySem.Spec PyProof.Rows L2 My MyRd
section
variable {P : Program} {w : World} {K : PySem.W.Frag} {mg : Str → Option Value} {base : Heap} {fD fG : Addr} {fdD fdG : FuncData}
theorem Ext.occ {p c : Nat} {A B : Hp} (e : Ext p A B) (P : PenAt B p c) : ∀ b, A b ≠ none → B b ≠ none := fun b h q => h (e.freeP P q)
theorem Prs.wk {H0 H1 H : Hp} {n : Nat} {ts : List Addr} {vw : List (V × V)} {ds es : List PyData} {fp : List Addr} (h : Prs H1 H n ts vw ds es fp) (low : ∀ b, H0 b ≠ none → H1 b ≠ none) : Prs H0 H n ts vw ds es fp :=
  ⟨h.tp, h.vd.wk low, h.fx, h.ft, h.nd, fun b hb => by
    cases q : H0 b with
    | none => rfl
    | some o => exact absurd (h.fr b hb) (low b (by rw [q]; exact fun z => nomatch z)), h.sd, h.se⟩
/-- what stands when the row is drawn, and taken apart -/
structure Rw (H0 H : Hp) (p c n m l : Nat) (lv lw : Addr) (vw : List (V × V)) (ds es : List PyData) (fp : List Addr) : Prop where
  ex : Ext p H0 H
  pen : PenAt H p c
  len : vw.length = m
  hv : H lv = some (.lst (vw.map (·.1)))
  hw : H lw = some (.lst (vw.map (·.2)))
  fv : H0 lv = none
  fw : H0 lw = none
  nv : lv ∉ fp
  vd : Vds (fun b => H0 b ≠ none) H n (vw.map (·.1)) ds es
  fx : FxTs H (vw.map (·.2)) es
  ft : Fts H n (vw.map (·.1)) fp
  nd : fp.Nodup
  fr : ∀ b ∈ fp, H0 b = none
  sd : ∀ d ∈ ds, Sz d (bN n) n
  se : ∀ e ∈ es, Sz e (bN n) (2 * n) ∧ e.canLay0 = true
theorem va_rest {f : Addr} {fd : FuncData} {cdv : Value} {A : Around} {outer : List Env} {s : Shared} {H : Hp} {E : XK} {k n : Nat} {tr : L2.TS} (F : Fun K "_law_value" "_law_value" sVa f fd) (B : Blt mg) (g : mg "_law_value" = some (.ref f)) (bn : Binds K fd ["_law_pen_here", "_law_deep"] [])
    (D : FnT P w K mg base CX0 1 "_law_draw" fD fdD ["_law_pen_here", "_law_many"] spDraw) (ih : FnOk P w K mg base CX0 (k + 3) f fd ["_law_pen_here", "_law_deep"] (spVal n))
    (hr : Room (k + 3) (A.deeper (envOfC "_law_value" (defScope sVa) s.heap.objs.size f cdv))) (hx : PSs (cxOf CX0 P w K mg base vaN "_law_value" (defScope sVa) f cdv A outer s H E).nox (vaRest.drop 4) tr) :
    ∃ t, PSs (cxOf CX0 P w K mg base vaN "_law_value" (defScope sVa) f cdv A outer s H E).nox vaRest t ∧ ∀ (D : Ends) (p c : Nat) (way : Int) (H0 H : Hp), PenAt H0 p c → Ext p H0 H → PenAt H p (c + 1) → c + cN (n + 1) ≤ 90000 → 3 ≤ way → way < 8 →
      (∀ t v w d e fp H', Ext p H0 H' → PenAt H' p (c + cN (n + 1)) → H0 t = none → H' t = some (.tup [v, w]) → VdS (fun b => H0 b ≠ none) H' (n + 1) v d e → FxT H' w e → Ft H' (n + 1) v fp → fp.Nodup → (∀ b ∈ fp, H0 b = none) → D.rt (.ref t) H') →
      (∀ (m c' lp lv lw : Nat) (vw : List (V × V)) (ds es : List PyData) (fp : List Addr) (H' : Hp), way = 7 → m < 4 → c' + 3 ≤ c + cN (n + 1) → Rw H0 H' p c' n m lp lv lw vw ds es fp → tr D [some (.ref p), some (.int ((n + 1 : Nat) : Int)), some (.int way), none, none, some (.ref lp), some (.ref lv), some (.ref lw), none, none, none, none, none, none, none] H') →
      t D [some (.ref p), some (.int ((n + 1 : Nat) : Int)), some (.int way), none, none, none, none, none, none, none, none, none, none, none, none] H := by
  refine ⟨_, pss_cons (ps_setLc (i := 5) (own := [("_law_k", 4)]) (g := gName 4) rfl scVa.nd rfl rfl (sw_true rfl rfl rfl (by decide +kernel)) (pi_range1 (by rfl) B.range (pa_cons (pe_call D.ok (hr.mono (by omega)) (by rfl) D.g D.kp D.bn .nil pass0 (pa_cons (pv 0) (pa_cons pe_int pa_nil))) pa_nil)) (blkOk_by (own := [("_law_k", 4)]) (N := vaN) (sc := defScope sVa) (by decide +kernel)) (fun _ _ _ _ _ => (pg_name (i := 4) scVa.nd rfl (Or.inl rfl))) (fun _ _ _ _ _ => pts_nil) (fun _ _ _ _ _ => (pe_call ih (hr.mono (by omega)) (by rfl) g F.kp bn .nil pass0 (pa_cons (pv 0) (pa_cons (pe_op op_sub (pv 1) pe_int) pa_nil)))))
    (pss_cons (ps_asg (pe_tup (pa_cons (pe_lc (own := [("_law_value_here", 12), ("_law_due", 13)]) (g := gTup K 2 (gCons (gName 12) (gCons (gName 13) gNil))) rfl scVa.nd (pi_list (pv 5)) (blkOk_by (own := [("_law_value_here", 12), ("_law_due", 13)]) (N := vaN) (sc := defScope sVa) (by decide +kernel)) (fun _ _ _ _ _ => (pg_tup (by rfl) (pgs_cons (pg_name (i := 12) scVa.nd rfl (Or.inl rfl)) (pgs_cons (pg_name (i := 13) scVa.nd rfl (Or.inl rfl)) pgs_nil)))) (fun _ _ _ _ _ => pts_nil) (fun _ _ _ _ _ => (pv 12))) (pa_cons (pe_lc (own := [("_law_value_here", 12), ("_law_due", 13)]) (g := gTup K 2 (gCons (gName 12) (gCons (gName 13) gNil))) rfl scVa.nd (pi_list (pv 5)) (blkOk_by (own := [("_law_value_here", 12), ("_law_due", 13)]) (N := vaN) (sc := defScope sVa) (by decide +kernel)) (fun _ _ _ _ _ => (pg_tup (by rfl) (pgs_cons (pg_name (i := 12) scVa.nd rfl (Or.inl rfl)) (pgs_cons (pg_name (i := 13) scVa.nd rfl (Or.inl rfl)) pgs_nil)))) (fun _ _ _ _ _ => pts_nil) (fun _ _ _ _ _ => (pv 13))) pa_nil))) (pg_tup (by rfl) (pgs_cons (pg_name (i := 6) scVa.nd rfl (Or.inr rfl)) (pgs_cons (pg_name (i := 7) scVa.nd rfl (Or.inr rfl)) pgs_nil))))
    (pss_cons (ps_if (pt_cmpR op_lt (pv 2) pe_int (nomark _)) (pss_one (ps_ret (pe_tup (pa_cons (pv 6) (pa_cons (pe_callTy call_tuple_of (by rfl) B.tuple (by decide +kernel) (pa_cons (pv 7) pa_nil)) pa_nil))))) pss_nil)
    (pss_cons (ps_if (pt_cmpR op_eq (pv 2) pe_int (nomark _)) (pss_one (ps_ret (pe_tup (pa_cons (pe_callTy call_tuple_of (by rfl) B.tuple (by decide +kernel) (pa_cons (pv 6) pa_nil)) (pa_cons (pe_callTy call_tuple_of (by rfl) B.tuple (by decide +kernel) (pa_cons (pv 7) pa_nil)) pa_nil))))) pss_nil) hx))), fun D p c way H0 H PN0 e0 P0 hc w3 w8 q k => ?_⟩
  have fit : ∀ {k : Nat}, k ≤ 20 → k < sizeLine := fun h => Nat.lt_of_le_of_lt h (by rw [sizeLine_eq]; decide)
  have cs : cN (n + 1) = 5 + 3 * cN n := rfl
  refine ⟨_, rfl, p, 4, c + 1, rfl, by decide, by decide, P0, by omega, fun m0 H1 d0 d1 e1 P1 => ?_⟩
  obtain ⟨m, hm⟩ : ∃ m : Nat, m0 = (m : Int) := ⟨m0.toNat, by omega⟩
  subst hm
  have e01 := e0.trans e1
  have low1 := Ext.occ e01 P1
  refine ⟨m, rfl, by omega, by omega, fun L fL => ?_⟩
  have Lp := P1.ne fL
  have lowL : ∀ b, H1 b ≠ none → upd H1 L (.lst []) b ≠ none := fun b hb => by
    rw [upd_ne (fun q => hb (by rw [q]; exact fL))]
    exact hb
  have avL : upd H1 L (.lst []) L ≠ none := by
    rw [upd_same]
    exact fun z => nomatch z
  have avp : upd H1 L (.lst []) p ≠ none := lowL p (by
    obtain ⟨ys, e⟩ := P1.there
    rw [e]
    exact fun z => nomatch z)
  obtain ⟨HB, hB⟩ : ∃ HB, upd H1 L (.lst []) = HB := ⟨_, rfl⟩
  rw [hB] at lowL avL avp
  have eB : Ext p H1 HB := by rw [← hB]; exact Ext.new fL
  have PB : PenAt HB p (c + 2) := by rw [← hB]; exact P1.same (same_upd fL)
  have hLB : HB L = some (.lst []) := by rw [← hB]; exact upd_same
  have en : ((n + 1 : Nat) : Int) - 1 = (n : Int) := by omega
  refine lc_gen (g := gName 4) (walk_range (lo := 0) (n := m)) (fun i H' => Ext p H1 H' ∧ PenAt H' p (c + 2 + cN n * i) ∧ (∀ b, HB b ≠ none → H' b ≠ none) ∧ ∃ ts vw ds es fp, H' L = some (.lst (ts.map V.ref)) ∧ ts.length = i ∧ Prs HB H' n ts vw ds es fp) (by rw [hB]; exact ⟨eB, PB, fun b h => h, [], [], [], [], [], hLB, rfl, .nil⟩) (fun _ _ _ _ => trivial) (fun i x H2 H3 hi pv y => ?_) (fun H2 pv => ?_)
  · obtain ⟨rfl, rfl⟩ := y
    obtain ⟨e2, P2, low2, ts, vw, ds, es, fp, hL, lt, pr⟩ := pv
    have hi3 : i < 4 := by
      have : i < m := hi
      omega
    have ci : cN n * i ≤ cN n * 3 := Nat.mul_le_mul_left _ (by
      have : i < m := hi
      omega)
    have ci1 : cN n * (i + 1) = cN n * i + cN n := Nat.mul_succ _ _
    have ci2 : cN n * i + cN n ≤ cN n * 3 := by
      rw [← ci1]
      exact Nat.mul_le_mul_left _ (by
        have : i < m := hi
        omega)
    refine ⟨rfl, _, rfl, _, rfl, _, _, rfl, rfl, p, c + 2 + cN n * i, (show [V.ref p, V.int (((n + 1 : Nat) : Int) - 1)] = [V.ref p, V.int (n : Int)] by rw [en]), P2, by omega, fun t v w d e f H4 e4 P4 ft0 ht vd fx ft nd fr => ?_⟩
    have k4 : Kv (fun b => HB b ≠ none) _ H4 := Kv.ext e4 P2 avp
    have hL4 := e4.keep _ _ hL Lp
    have pr4 := pr.snoc k4 low2 ht vd fx ft nd fr
    refine ⟨ts.map V.ref, hL4, by rw [List.length_map]; exact fit (by omega), ext_updF (e2.trans e4) fL Lp, pen_updF P1 (e2.trans e4) fL (P4.mono (by omega)), fun b hb => ?_, ts ++ [t], _, _, _, _, ?_, ?_, pr4.kv (Kv.updL hL4 avL)⟩
    · have h4 := Ext.occ e4 P4 b (low2 b hb)
      by_cases q : b = L
      · subst q
        rw [upd_same]
        exact fun z => nomatch z
      · rw [upd_ne q]
        exact h4
    · rw [List.map_append]
      exact upd_same
    · rw [List.length_append, lt]
      rfl
  obtain ⟨e2, P2, low2, ts, vw, ds, es, fp, hL, lt, pr⟩ := pv
  have m3 : m ≤ 3 := by omega
  have cm : cN n * m ≤ cN n * 3 := Nat.mul_le_mul_left _ m3
  have nLf : L ∉ fp := fun h => avL (pr.fr L h)
  have pr := pr.wk fun b h => lowL b (low1 b h)
  have e02 := e01.trans e2
  clear e2 low2 hLB eB PB avL avp lowL hB low1 e1 P1 P0 e0 en
  have ltw : ts.length = vw.length := Paired.length pr.tp
  -- the values
  refine ⟨_, rfl, L, rfl, ⟨_, SqL.of hL⟩, fun lv fv => ?_⟩
  refine lc_gen (g := gTup K 2 (gCons (gName 12) (gCons (gName 13) gNil))) (walk_list (K := K) (a := L) (xs := ts.map V.ref)) (fun i H' => Same H2 H' ∧ H' lv = some (.lst ((vw.take i).map (·.1)))) ⟨same_upd fv, upd_same⟩ (fun i H' _ q => SqL.of (q.1 _ _ hL)) (fun i x H3 H4 hi q y => ?_) (fun H3 q => ?_)
  · obtain ⟨rfl, hx⟩ := y
    obtain ⟨s3, h3⟩ := q
    rw [List.getElem?_map] at hx
    obtain ⟨t, ht, rfl⟩ := Option.map_eq_some_iff.mp hx
    obtain ⟨vv, hv, hp⟩ := paired_at pr.tp ht
    have hi2 : i < ts.length := (List.getElem?_eq_some_iff.mp ht).1
    refine ⟨t, _, rfl, SqT.of (s3 _ _ hp), rfl, _, _, rfl, _, _, rfl, rfl, rfl, _, rfl, _, h3, by rw [List.length_map, List.length_take]; exact fit (by omega), same_updF s3 fv, ?_⟩
    rw [upd_same, List.take_succ, hv, List.map_append]
    rfl
  obtain ⟨s3, hv3⟩ := q
  rw [List.length_map, ltw, List.take_length] at hv3
  have lvf : lv ∉ fp := fun h => by
    obtain ⟨o, e, _⟩ := pr.ft.ltd lv h
    rw [fv] at e
    cases e
  have fv0 : H0 lv = none := e02.freeP P2 fv
  have lvp : lv ≠ p := P2.ne fv
  have hL3 := s3 _ _ hL
  refine ⟨_, rfl, L, rfl, ⟨_, SqL.of hL3⟩, fun lw fw => ?_⟩
  have P3 := P2.same s3
  have e03 := e02.trans (.of s3)
  have pr3 := pr.kv (Kv.of s3)
  have fw0 : H0 lw = none := e03.freeP P3 fw
  refine lc_gen (g := gTup K 2 (gCons (gName 12) (gCons (gName 13) gNil))) (walk_list (K := K) (a := L) (xs := ts.map V.ref)) (fun i H' => Same H3 H' ∧ H' lw = some (.lst ((vw.take i).map (·.2)))) ⟨same_upd fw, upd_same⟩ (fun i H' _ q => SqL.of (q.1 _ _ hL3)) (fun i x H4 H5 hi q y => ?_) (fun H4 q => ?_)
  · obtain ⟨rfl, hx⟩ := y
    obtain ⟨s4, h4⟩ := q
    rw [List.getElem?_map] at hx
    obtain ⟨t, ht, rfl⟩ := Option.map_eq_some_iff.mp hx
    obtain ⟨vv, hv, hp⟩ := paired_at pr3.tp ht
    have hi2 : i < ts.length := (List.getElem?_eq_some_iff.mp ht).1
    refine ⟨t, _, rfl, SqT.of (s4 _ _ hp), rfl, _, _, rfl, _, _, rfl, rfl, rfl, _, rfl, _, h4, by rw [List.length_map, List.length_take]; exact fit (by omega), same_updF s4 fw, ?_⟩
    rw [upd_same, List.take_succ, hv, List.map_append]
    rfl
  obtain ⟨s4, hw4⟩ := q
  rw [List.length_map, ltw, List.take_length] at hw4
  have hv4 := s4 _ _ hv3
  have pr4 := pr3.kv (Kv.of s4)
  have P4 := P3.same s4
  have e04 := e03.trans (.of s4)
  refine ⟨(show 2 ≤ sizeLine by decide), fun t2 ft2 => ⟨t2, _, rfl, SqT.of upd_same, rfl, _, _, rfl, _, _, rfl, rfl, ?_⟩⟩
  have st := same_upd (o := .tup [.ref lv, .ref lw]) ft2
  have hv5 := st _ _ hv4
  have hw5 := st _ _ hw4
  have pr5 := pr4.kv (Kv.of st)
  have P5 := P4.same st
  have e05 := e04.trans (.of st)
  generalize upd H4 t2 (.tup [.ref lv, .ref lw]) = H5 at hv5 hw5 pr5 P5 e05
  clear pr pr3 pr4 P2 P3 P4 e02 e03 e04 s3 s4 st hv3 hv4 hw4 hL3 hL fv fw ft2
  have lvw : vw.length = m := by rw [← ltw]; exact lt
  have R : Rw H0 H5 p (c + 2 + cN n * m) n m L lv lw vw ds es fp := ⟨e05, P5, lvw, hv5, hw5, fv0, fw0, lvf, pr5.vd, pr5.fx, pr5.ft, pr5.nd, pr5.fr, pr5.sd, pr5.se⟩
  have le3 : es.length ≤ 3 := by
    have := pr5.vd.len.1
    rw [List.length_map] at this
    omega
  have ld3 : ds.length ≤ 3 := by
    have := pr5.vd.len.2
    rw [List.length_map] at this
    omega
  have xl : (vw.map (·.1)).length ≤ 10 := by rw [List.length_map]; omega
  have layE : PyData.canLay0 (.tuple es) = true := layAll fun e he => (pr5.se e he).2
  have szE := Sz.list (fun e he => (pr5.se e he).1) le3
  have szD := Sz.list pr5.sd ld3
  have l2n : 2 * n + 1 ≤ 2 * (n + 1) := by omega
  refine ⟨_, rfl, _, _, rfl, rfl, _, rfl, ifd (fun w6 => ?_) (fun w6 => ?_)⟩
  · refine ⟨_, rfl, _, rfl, lw, _, rfl, .inl ⟨SqL.of hw5, fun u fu => ⟨(show 2 ≤ sizeLine by decide), fun t ft => ?_⟩⟩⟩
    have su := same_upd (o := .tup (vw.map (·.2))) fu
    have st := same_upd (o := .tup [.ref lv, .ref u]) ft
    have hu := st _ _ (upd_same : upd H5 u (.tup (vw.map (·.2))) u = some (.tup (vw.map (·.2))))
    have s56 := Same.trans su st
    have e06 := e05.trans (.of s56)
    refine q t (.ref lv) (.ref u) (.list ds) (.tuple es) (lv :: fp) _ e06 ((P5.same s56).mono (by omega)) ((e05.trans (.of su)).freeP (P5.same su) ft) upd_same ⟨.lst (fun z => z fv0) (s56 _ _ hv5) xl (pr5.vd.kv (Kv.of s56)), szD.1, szE.2.mono (Nat.le_refl _) l2n, layE⟩ (.tup hu (pr5.fx.kt (KT.of s56))) (.lst (s56 _ _ hv5) xl (pr5.ft.same s56)) (List.nodup_cons.mpr ⟨lvf, pr5.nd⟩) fun b hb => ?_
    rcases List.mem_cons.mp hb with rfl | hb
    · exact fv0
    · exact pr5.fr b hb
  · refine ⟨_, rfl, rfl, _, rfl, ifd (fun w7 => ?_) (fun w7 => ?_)⟩
    · refine ⟨_, rfl, lv, _, rfl, .inl ⟨SqL.of hv5, fun u0 fu0 => ⟨_, rfl, lw, _, rfl, .inl ⟨SqL.of (same_upd fu0 _ _ hw5), fun u fu => ⟨(show 2 ≤ sizeLine by decide), fun t ft => ?_⟩⟩⟩⟩⟩
      have su0 := same_upd (o := .tup (vw.map (·.1))) fu0
      have su := same_upd (o := .tup (vw.map (·.2))) fu
      have st := same_upd (o := .tup [.ref u0, .ref u]) ft
      have hu := st _ _ (upd_same : upd (upd H5 u0 (.tup (vw.map (·.1)))) u (.tup (vw.map (·.2))) u = some (.tup (vw.map (·.2))))
      have hu0 := st _ _ (su _ _ (upd_same : upd H5 u0 (.tup (vw.map (·.1))) u0 = some (.tup (vw.map (·.1)))))
      have s56 := Same.trans (Same.trans su0 su) st
      have e06 := e05.trans (.of s56)
      exact q t (.ref u0) (.ref u) (.tuple ds) (.tuple es) fp _ e06 ((P5.same s56).mono (by omega)) ((e05.trans (.of (Same.trans su0 su))).freeP (P5.same (Same.trans su0 su)) ft) upd_same ⟨.tup hu0 xl (pr5.vd.kv (Kv.of s56)), szD.2, szE.2.mono (Nat.le_refl _) l2n, layE⟩ (.tup hu (pr5.fx.kt (KT.of s56))) (.tup hu0 xl (pr5.ft.same s56)) pr5.nd pr5.fr
    · have w77 : way = 7 := by
        have : ¬ way = 6 := fun z => w7 (by rw [z])
        omega
      exact k m _ L lv lw vw ds es fp H5 w77 (by omega) (by omega) R
end
end K00
set_option Elab.async false
set_option linter.all false
set_option maxRecDepth 100000
set_option maxHeartbeats 2000000
namespace K00
open PySem PySem.Spec PyProof.Rows L2 My MyRd
/-! ### a drawn dict -/
theorem key_sz : ∀ (i : Fin 5), ∀ k ∈ kys i.val, (kD k).showable = true ∧ (kD k).leavesShort 80 = true ∧ (kD k).bulk ≤ 3 ∧ (kD k).depth = 0 ∧ (kD k).canLay0 = true := by decide +kernel
theorem ord_all : ∀ (i : Fin 5) (f : Fin 3) (r : Bool), (ord i.val f.val r).all (fun k => (kys i.val).any fun q => decide (q = k)) = true := by decide +kernel
theorem ord_mem (i : Fin 5) (f : Fin 3) (r : Bool) : ∀ k ∈ ord i.val f.val r, k ∈ kys i.val := fun k hk => by
  obtain ⟨q, hq, e⟩ := List.any_eq_true.mp (List.all_eq_true.mp (ord_all i f r) k hk)
  rw [← of_decide_eq_true e]
  exact hq
theorem VdKv.zip {av : Addr → Prop} {H : Hp} {n : Nat} : ∀ {ks : List Key} {vs : List V} {ds es : List PyData}, Vds av H n vs ds es → ks.length = vs.length → VdKv av H n (ks.zip vs) (List.zipWith (fun k d => (kD k, d)) ks ds)
  | [], _, _, _, .nil, _ => .nil
  | k :: ks, _, _, _, .cons a t, h => .cons a (VdKv.zip t (by simpa using h))
theorem Vds.get {av : Addr → Prop} {H : Hp} {n : Nat} : ∀ {vs : List V} {ds es : List PyData}, Vds av H n vs ds es → ∀ {j : Nat} {v : V}, vs[j]? = some v → ∃ d e, ds[j]? = some d ∧ es[j]? = some e ∧ Vd av H n v d e
  | _, _, _, .nil, _, _, h => by cases h
  | _, _, _, .cons a t, 0, _, h => by
    cases Option.some.inj h
    exact ⟨_, _, rfl, rfl, a⟩
  | _, _, _, .cons a t, j + 1, _, h => t.get (j := j) h
/-- the due row: the keys as they ascend, each with what fixed gives of its value -/
def dueD (o as : List Key) (es : List PyData) : List PyData := as.map fun k => .tuple [kD k, es.getD (o.idxOf k) .none]
theorem VdKs.of {av : Addr → Prop} {H : Hp} {n : Nat} {o : List Key} {vs : List V} {ds es : List PyData} {kvs : List (Key × V)} (hv : Vds av H n vs ds es) (nd : (kvs.map (·.1)).Nodup) (hk : ∀ (j : Nat) (k : Key) (v : V), o[j]? = some k → vs[j]? = some v → (k, v) ∈ kvs) :
    ∀ {as : List Key}, (∀ k ∈ as, ∃ j, j < vs.length ∧ o[j]? = some k ∧ o.idxOf k = j) → VdKs av H n kvs as (dueD o as es)
  | [], _ => .nil
  | k :: as, h => by
    obtain ⟨j, hj, hk1, hk2⟩ := h k (List.mem_cons_self ..)
    obtain ⟨d, e, _, he, vd⟩ := hv.get (j := j) (v := vs[j]) (by simp [hj])
    have ee : es.getD (o.idxOf k) .none = e := by
      rw [hk2, List.getD_eq_getElem?_getD, he]
      rfl
    have : VdKs av H n kvs (k :: as) (.tuple [kD k, e] :: dueD o as es) := .cons (valV_mem (kv := (k, vs[j])) nd (hk j k _ hk1 (by simp [hj]))) vd (VdKs.of hv nd hk fun q hq => h q (List.mem_cons_of_mem _ hq))
    rw [← ee] at this
    exact this
theorem showKv {ks : List Key} {ds : List PyData} (hk : ∀ k ∈ ks, (kD k).showable = true ∧ (kD k).leavesShort 80 = true) (hd : ∀ d ∈ ds, d.showable = true ∧ d.leavesShort 80 = true) :
    PyData.showableKv (List.zipWith (fun k d => (kD k, d)) ks ds) = true ∧ PyData.leavesShortKv 80 (List.zipWith (fun k d => (kD k, d)) ks ds) = true := by
  induction ks generalizing ds with
  | nil => exact ⟨rfl, rfl⟩
  | cons k ks ih =>
    cases ds with
    | nil => exact ⟨rfl, rfl⟩
    | cons d ds =>
      have h1 := hk k (List.mem_cons_self ..)
      have h2 := hd d (List.mem_cons_self ..)
      have h3 := ih (ds := ds) (fun x hx => hk x (List.mem_cons_of_mem _ hx)) fun x hx => hd x (List.mem_cons_of_mem _ hx)
      simp only [List.zipWith_cons_cons, PyData.showableKv, PyData.leavesShortKv, h1.1, h1.2, h2.1, h2.2, h3.1, h3.2, Bool.and_self, and_self]
theorem bulkKv {ks : List Key} {ds : List PyData} {b : Nat} (hk : ∀ k ∈ ks, (kD k).bulk ≤ 3) (hd : ∀ d ∈ ds, d.bulk ≤ b) : PyData.bulkKv (List.zipWith (fun k d => (kD k, d)) ks ds) ≤ ks.length * (b + 5) := by
  induction ks generalizing ds with
  | nil => exact Nat.zero_le _
  | cons k ks ih =>
    cases ds with
    | nil => exact Nat.zero_le _
    | cons d ds =>
      have h1 := hk k (List.mem_cons_self ..)
      have h2 := hd d (List.mem_cons_self ..)
      have h3 := ih (ds := ds) (fun x hx => hk x (List.mem_cons_of_mem _ hx)) fun x hx => hd x (List.mem_cons_of_mem _ hx)
      simp only [List.zipWith_cons_cons, PyData.bulkKv, List.length_cons, Nat.succ_mul]
      omega
theorem depthKv {ks : List Key} {ds : List PyData} {b : Nat} (hk : ∀ k ∈ ks, (kD k).depth = 0) (hd : ∀ d ∈ ds, d.depth ≤ b) : PyData.depthKv (List.zipWith (fun k d => (kD k, d)) ks ds) ≤ b := by
  induction ks generalizing ds with
  | nil => exact Nat.zero_le _
  | cons k ks ih =>
    cases ds with
    | nil => exact Nat.zero_le _
    | cons d ds =>
      have h1 := hk k (List.mem_cons_self ..)
      have h2 := hd d (List.mem_cons_self ..)
      have h3 := ih (ds := ds) (fun x hx => hk x (List.mem_cons_of_mem _ hx)) fun x hx => hd x (List.mem_cons_of_mem _ hx)
      simp only [List.zipWith_cons_cons, PyData.depthKv]
      omega
/-- the dict's own data -/
theorem Sz.dict {ks : List Key} {ds : List PyData} {b k i : Nat} (hi : i < 5) (hk : ∀ q ∈ ks, q ∈ kys i) (hd : ∀ d ∈ ds, Sz d b k) (hl : ks.length ≤ 3) : Sz (.dict (List.zipWith (fun k d => (kD k, d)) ks ds)) (3 * (b + 6)) (k + 1) := by
  have z := fun q hq => key_sz ⟨i, hi⟩ q (hk q hq)
  have h1 := showKv (ks := ks) (ds := ds) (fun q hq => ⟨(z q hq).1, (z q hq).2.1⟩) fun d h => ⟨(hd d h).sh, (hd d h).ls⟩
  have h2 := bulkKv (ks := ks) (ds := ds) (b := b) (fun q hq => (z q hq).2.2.1) fun d h => (hd d h).bu
  have h3 := depthKv (ks := ks) (ds := ds) (b := k) (fun q hq => (z q hq).2.2.2.1) fun d h => (hd d h).dp
  exact ⟨h1.1, h1.2, Nat.le_trans h2 (Nat.le_trans (Nat.mul_le_mul_right _ hl) (by omega)), Nat.succ_le_succ h3⟩
/-- what fixed gives of it -/
theorem Sz.due {o as : List Key} {es : List PyData} {b k i : Nat} (hi : i < 5) (hk : ∀ q ∈ as, q ∈ kys i) (he : ∀ e ∈ es, Sz e b k ∧ e.canLay0 = true) (hj : ∀ q ∈ as, o.idxOf q < es.length) (hl : as.length ≤ 3) :
    Sz (.tuple (dueD o as es)) (3 * (b + 6)) (k + 2) ∧ (PyData.tuple (dueD o as es)).canLay0 = true := by
  have one : ∀ x ∈ dueD o as es, (x.showable = true ∧ x.leavesShort 80 = true ∧ x.bulk ≤ b + 5 ∧ x.depth ≤ k + 1) ∧ x.canLay0 = true := fun x hx => by
    obtain ⟨q, hq, rfl⟩ := List.mem_map.mp hx
    obtain ⟨z1, z2, z3, z4, z5⟩ := key_sz ⟨i, hi⟩ q (hk q hq)
    have hm : es.getD (o.idxOf q) .none ∈ es := by
      have hlt := hj q hq
      rw [List.getD_eq_getElem?_getD, List.getElem?_eq_getElem hlt]
      exact List.getElem_mem hlt
    obtain ⟨⟨y1, y2, y3, y4⟩, y5⟩ := he _ hm
    refine ⟨⟨?_, ?_, ?_, ?_⟩, ?_⟩
    · simp only [PyData.showable, PyData.showableAll, z1, y1, Bool.and_self]
    · simp only [PyData.leavesShort, PyData.leavesShortAll, z2, y2, Bool.and_self]
    · simp only [PyData.bulk, PyData.bulkAll]
      omega
    · simp only [PyData.depth, PyData.depthAll]
      omega
    · simp only [PyData.canLay0, PyData.canLayAll0, z5, y5, Bool.and_self]
  have ll : (dueD o as es).length ≤ 3 := by
    unfold dueD
    rw [List.length_map]
    exact hl
  have h3 := bulkAll (b := b + 5) fun x hx => (one x hx).1.2.2.1
  exact ⟨⟨showAll fun x hx => (one x hx).1.1, shortAll fun x hx => (one x hx).1.2.1, Nat.le_trans h3 (Nat.le_trans (Nat.mul_le_mul_right _ ll) (by omega)), Nat.succ_le_succ (depthAll fun x hx => (one x hx).1.2.2.2)⟩, layAll fun x hx => (one x hx).2⟩
end K00
set_option Elab.async false
set_option linter.all false
set_option maxRecDepth 100000
set_option maxHeartbeats 2000000
namespace K00
open PySem PySem.Spec PyProof.Rows L2 My MyRd
section
variable {P : Program} {w : World} {K : PySem.W.Frag} {mg : Str → Option Value} {base : Heap} {fD fG : Addr} {fdD fdG : FuncData}
theorem valV_none {κ : Type} [DecidableEq κ] {k : κ} : ∀ {kvs : List (κ × V)}, (∀ kv ∈ kvs, kv.1 ≠ k) → valV kvs k = none
  | [], _ => rfl
  | q :: r, h => by
    rw [valV_neg (h q (List.mem_cons_self ..))]
    exact valV_none fun kv hm => h kv (List.mem_cons_of_mem _ hm)
theorem FxTs.get {H : Hp} : ∀ {xs : List V} {ds : List PyData}, FxTs H xs ds → ∀ {j : Nat} {x : V}, xs[j]? = some x → ∃ d, ds[j]? = some d ∧ FxT H x d
  | _, _, .nil, _, _, h => by cases h
  | _, _, .cons a t, 0, _, h => by
    cases Option.some.inj h
    exact ⟨_, rfl, a⟩
  | _, _, .cons a t, j + 1, _, h => t.get (j := j) h
theorem idx_ok : ∀ (i : Fin 5) (f : Fin 3) (r : Bool) (j : Fin 3), ((ord i.val f.val r).idxOf ((kys i.val).getD j.val (.inl 0))) < 3 ∧ ((ord i.val f.val r).map kV)[(ord i.val f.val r).idxOf ((kys i.val).getD j.val (.inl 0))]? = some (kV ((kys i.val).getD j.val (.inl 0))) ∧ eqV (kV ((kys i.val).getD j.val (.inl 0))) (kV ((kys i.val).getD j.val (.inl 0))) = true ∧
    (∀ m : Fin 3, m.val < (ord i.val f.val r).idxOf ((kys i.val).getD j.val (.inl 0)) → eqV (((ord i.val f.val r).map kV).getD m.val .non) (kV ((kys i.val).getD j.val (.inl 0))) = false) ∧ flatV (kV ((kys i.val).getD j.val (.inl 0))) = true ∧ ((ord i.val f.val r).map kV).all flatV = true ∧ (kys i.val).length = 3 := by decide +kernel
theorem va_dict2 {f : Addr} {cdv : Value} {A : Around} {outer : List Env} {s : Shared} {H : Hp} {E : XK} {k : Nat} (B : Blt mg) (hr : Room (k + 3) (A.deeper (envOfC "_law_value" (defScope sVa) s.heap.objs.size f cdv))) :
    ∃ t, PSs (cxOf CX0 P w K mg base vaN "_law_value" (defScope sVa) f cdv A outer s H E).nox (vaRest.drop 8) t ∧ ∀ (D : Ends) (p c n : Nat) (H0 : Hp), (∀ t v w d e fp H', Ext p H0 H' → PenAt H' p (c + cN (n + 1)) → H0 t = none → H' t = some (.tup [v, w]) → VdS (fun b => H0 b ≠ none) H' (n + 1) v d e → FxT H' w e → Ft H' (n + 1) v fp → fp.Nodup → (∀ b ∈ fp, H0 b = none) → D.rt (.ref t) H') → ∀ (m c' lp lv lw ak lo i f : Nat) (r : Bool) (x2 x9 : Option V) (vw : List (V × V)) (ds es : List PyData) (fp : List Addr) (H : Hp), Rw H0 H p c' n m lp lv lw vw ds es fp →
      H ak = some (.lst ((kys i).map kV)) → H lo = some (.lst ((ord i f r).map kV)) → i < 5 → f < 3 → m < 4 → c' ≤ c + cN (n + 1) →
      t D [some (.ref p), some (.int ((n + 1 : Nat) : Int)), x2, none, none, some (.ref lp), some (.ref lv), some (.ref lw), some (.ref ak), x9, some (.ref lo), none, none, none, none] H := by
  refine ⟨_, pss_cons (ps_set (i := 11) scVa.nd rfl (Or.inl rfl) pe_dnewK)
    (pss_cons (ps_for PassesOwn.never rfl (pi_range1 (by rfl) B.range (pa_cons (pe_callB call_len_seq (by rfl) B.len PySem.boot_len (pa_cons (pv 6) pa_nil)) pa_nil)) (pg_name (i := 4) scVa.nd rfl (Or.inl rfl)) (pss_one (ps_dput (hu_of hr) (pv 11) (pe_ix (ix_list : IxR _ (rIxL K)) (pv 10) (pv 4) (fun _ _ => rfl)) (pe_ix (ix_list : IxR _ (rIxL K)) (pv 6) (pv 4) (fun _ _ => rfl)) rfl)))
    (pss_one (ps_ret (pe_tup (pa_cons (pv 11) (pa_cons (pe_callTy call_tuple_of (by rfl) B.tuple (by decide +kernel) (pa_cons (pe_lc (own := [("_law_key", 14)]) (g := gName 14) rfl scVa.nd (pi_list (pv 8)) (blkOk_by (own := [("_law_key", 14)]) (N := vaN) (sc := defScope sVa) (by decide +kernel)) (fun _ _ _ _ _ => (pg_name (i := 14) scVa.nd rfl (Or.inl rfl))) (fun _ _ _ _ _ => pts_one (pt_cmpR op_lt (pe_bm PySem.F.plainAttrs_list PySem.F.slot_list_index PySem.F.type_list_index mt_index (pv 10) (pa_cons (pv 14) pa_nil) : PE _ _ (tBM K "list" (rIndex K) (tVar 10) (tCons (tVar 14) tNil))) (pe_callB (call_len_seq : CallR _ (.builtin "len") (fun xs H Q => ∃ p ys, xs = [.ref p] ∧ (SqL K H p ys ∨ SqT K H p ys) ∧ Q (.int (ys.length : Nat)) H)) (by rfl) B.len PySem.boot_len (pa_cons (pv 6) pa_nil)) (nomark _))) (fun _ _ _ _ _ => (pe_tup (pa_cons (pv 14) (pa_cons (pe_ix (ix_list : IxR _ (rIxL K)) (pv 7) (pe_bm PySem.F.plainAttrs_list PySem.F.slot_list_index PySem.F.type_list_index mt_index (pv 10) (pa_cons (pv 14) pa_nil) : PE _ _ (tBM K "list" (rIndex K) (tVar 10) (tCons (tVar 14) tNil))) (fun _ _ => rfl)) pa_nil))))) pa_nil)) pa_nil)))))), fun D p c n H0 q m c' lp lv lw ak lo i f r x2 x9 vw ds es fp H R hak hlo hi5 hf3 hm4 hc' => ?_⟩
  have fit : ∀ {k : Nat}, k ≤ 20 → k < sizeLine := fun h => Nat.lt_of_le_of_lt h (by rw [sizeLine_eq]; decide)
  obtain ⟨ond, olen⟩ := ord_nd ⟨i, hi5⟩ ⟨f, hf3⟩ r
  simp only at ond olen
  refine fun d fd => ?_
  have s1 := same_upd (o := .dK []) fd
  have hd1 : upd H d (.dK []) d = some (.dK []) := upd_same
  have hv1 := s1 _ _ R.hv
  have hlo1 := s1 _ _ hlo
  have ndv : lv ≠ d := ne_of_none R.hv fd
  have ndo : lo ≠ d := ne_of_none hlo fd
  generalize hH1 : upd H d (.dK []) = H1 at s1 hd1 hv1 hlo1
  have lvs : (vw.map (·.1)).length = m := by rw [List.length_map]; exact R.len
  refine ⟨_, rfl, lv, _, rfl, .inl (SqL.of hv1), (m : Int), by rw [lvs], by omega, by omega, ?_⟩
  refine for_it (walk_range (lo := 0) (n := m)) (fun j σ H' => (∃ y4, σ = [some (.ref p), some (.int ((n + 1 : Nat) : Int)), x2, none, y4, some (.ref lp), some (.ref lv), some (.ref lw), some (.ref ak), x9, some (.ref lo), some (.ref d), none, none, none]) ∧ (∀ b o, b ≠ d → H1 b = some o → H' b = some o) ∧ H' d = some (.dK (((ord i f r).take j).zip ((vw.map (·.1)).take j)))) ⟨⟨_, rfl⟩, fun _ _ _ e => e, hd1⟩ (fun _ _ _ _ _ => trivial) (fun j x σ H2 H3 hj pv y => ?_) (fun σ H2 pv => ?_)
  · obtain ⟨⟨y4, rfl⟩, k2, hd2⟩ := pv
    obtain ⟨rfl, rfl⟩ := y
    have hj : j < m := hj
    obtain ⟨v, hvj⟩ : ∃ v, (vw.map (·.1))[j]? = some v := ⟨_, List.getElem?_eq_getElem (by omega)⟩
    obtain ⟨q0, hqj⟩ : ∃ q0, (ord i f r)[j]? = some q0 := ⟨_, List.getElem?_eq_getElem (by omega)⟩
    have hqk : ((ord i f r).map kV)[j]? = some (kV q0) := by rw [List.getElem?_map, hqj]; rfl
    have hv2 := k2 _ _ ndv hv1
    have ho2 := k2 _ _ ndo hlo1
    have ez : (0 + (j : Int)) = (j : Int) := by omega
    have a1 : atI (vw.map (·.1)) (0 + (j : Int)) = some v := by rw [ez]; exact atI_nat hvj
    have a2 : atI ((ord i f r).map kV) (0 + (j : Int)) = some (kV q0) := by rw [ez]; exact atI_nat hqk
    have new : putK (((ord i f r).take j).zip ((vw.map (·.1)).take j)) q0 v = ((ord i f r).take (j + 1)).zip ((vw.map (·.1)).take (j + 1)) := by
      rw [putK_new, List.take_succ, List.take_succ, hqj, hvj, List.zip_append]
      · rfl
      · rw [List.length_take, List.length_take]
        omega
      · refine valV_none fun z hz e => ?_
        have h1 := (List.of_mem_zip (a := z.1) (b := z.2) hz).1
        rw [e] at h1
        obtain ⟨j', hj'⟩ := List.getElem?_of_mem h1
        have hlt : j' < j := by
          have := (List.getElem?_eq_some_iff.mp hj').1
          rw [List.length_take] at this
          omega
        rw [List.getElem?_take, if_pos hlt] at hj'
        obtain ⟨b1, b2⟩ := List.getElem?_eq_some_iff.mp hj'
        obtain ⟨b3, b4⟩ := List.getElem?_eq_some_iff.mp hqj
        have := (List.getElem_inj ond).mp (b2.trans b4.symm)
        omega
    refine ⟨_, rfl, _, rfl, lv, _, _, _, rfl, rfl, SqL.of hv2, a1, _, rfl, _, rfl, _, rfl, lo, _, _, _, rfl, rfl, SqL.of ho2, a2, d, _, rfl, DPut.k hd2 ?_, ⟨_, rfl⟩, fun b o nb e => ?_, ?_⟩
    · rw [List.length_zip, List.length_take, List.length_take]
      exact fit (by omega)
    · rw [upd_ne nb]
      exact k2 b o nb e
    · rw [upd_same, new]
  obtain ⟨⟨y4, rfl⟩, k2, hd2⟩ := pv
  have tv : (vw.map (·.1)).take m = vw.map (·.1) := List.take_of_length_le (by rw [lvs]; exact Nat.le_refl _)
  rw [tv] at hd2
  have sH : Same H H2 := fun b o e => by
    have nb : b ≠ d := ne_of_none e fd
    refine k2 _ _ nb ?_
    exact s1 _ _ e
  have hv2 := sH _ _ R.hv
  have hw2 := sH _ _ R.hw
  have hak2 := sH _ _ hak
  have hlo2 := sH _ _ hlo
  have lws : (vw.map (·.2)).length = m := by rw [List.length_map]; exact R.len
  have les : es.length = m := by
    rw [← R.vd.len.1]
    exact lvs
  have lks : (kys i).length = 3 := (idx_ok ⟨i, hi5⟩ ⟨f, hf3⟩ r ⟨0, by decide⟩).2.2.2.2.2.2
  refine ⟨_, rfl, _, rfl, ak, rfl, ⟨_, SqL.of hak2⟩, fun L fL => ?_⟩
  refine lc_it (g := gName 14) (walk_list (K := K) (a := ak) (xs := (kys i).map kV)) (fun j H' => Same H2 H' ∧ ∃ ts, H' L = some (.lst ts) ∧ FxTs H' ts (dueD (ord i f r) (((kys i).take j).filter fun k => decide ((ord i f r).idxOf k < m)) es)) ⟨same_upd fL, [], upd_same, .nil⟩ (fun j H' _ z => SqL.of (z.1 _ _ hak2)) (fun j x H3 H4 hj z y => ?_) (fun H3 z => ?_)
  · obtain ⟨rfl, hx⟩ := y
    obtain ⟨s3, ts, hL, ft⟩ := z
    rw [List.length_map, lks] at hj
    rw [List.getElem?_map] at hx
    obtain ⟨key, hk, rfl⟩ := Option.map_eq_some_iff.mp hx
    have ek : (kys i).getD j (.inl 0) = key := by
      rw [List.getD_eq_getElem?_getD, hk]
      rfl
    have ok := idx_ok ⟨i, hi5⟩ ⟨f, hf3⟩ r ⟨j, hj⟩
    simp only [ek] at ok
    obtain ⟨o1, o2, o3, o4, o5, o6, _⟩ := ok
    have hlo4 := s3 _ _ hlo2
    have before : ∀ (a : Nat) (z' : V), a < (ord i f r).idxOf key → ((ord i f r).map kV)[a]? = some z' → eqV z' (kV key) = false := fun a z' ha hz => by
      have := o4 ⟨a, by omega⟩ ha
      rw [List.getD_eq_getElem?_getD, hz] at this
      exact this
    have tk : ((kys i).take (j + 1)).filter (fun k => decide ((ord i f r).idxOf k < m)) = ((kys i).take j).filter (fun k => decide ((ord i f r).idxOf k < m)) ++ (if decide ((ord i f r).idxOf key < m) = true then [key] else []) := by
      rw [List.take_succ, hk, List.filter_append]
      simp [List.filter_cons]
    refine ⟨rfl, _, rfl, .inl ⟨rfl, _, SqL.of hlo4⟩, _, rfl, lo, _, _, (ord i f r).idxOf key, _, rfl, rfl, SqL.of hlo4, o5, o6, o2, o3, before, _, rfl, lv, _, rfl, .inl (SqL.of (s3 _ _ hv2)), _, _, rfl, rfl, _, rfl, ?_⟩
    rw [lvs]
    refine ifd (fun hlt => ?_) (fun hge => ?_)
    · have hlt : (ord i f r).idxOf key < m := by omega
      obtain ⟨w, hwj⟩ : ∃ w, (vw.map (·.2))[(ord i f r).idxOf key]? = some w := ⟨_, List.getElem?_eq_getElem (by omega)⟩
      obtain ⟨e, hej, fw⟩ := R.fx.get hwj
      have ee : es.getD ((ord i f r).idxOf key) .none = e := by
        rw [List.getD_eq_getElem?_getD, hej]
        rfl
      refine ⟨_, rfl, _, rfl, _, rfl, .inl ⟨rfl, _, SqL.of hlo4⟩, _, rfl, lo, _, _, (ord i f r).idxOf key, _, rfl, rfl, SqL.of hlo4, o5, o6, o2, o3, before, lw, _, _, _, rfl, rfl, SqL.of (s3 _ _ hw2), atI_nat hwj, (show 2 ≤ sizeLine by decide), fun t ft5 => ?_⟩
      have st := same_upd (o := .tup [kV key, w]) ft5
      have hL5 := st _ _ hL
      have l0 := ft.len
      have l1 : (dueD (ord i f r) (((kys i).take j).filter fun k => decide ((ord i f r).idxOf k < m)) es).length ≤ 3 := by
        unfold dueD
        rw [List.length_map]
        exact Nat.le_trans (List.length_filter_le _ _) (by rw [List.length_take]; omega)
      refine ⟨ts, hL5, fit (by omega), same_updF (Same.trans s3 st) fL, ts ++ [.ref t], upd_same, ?_⟩
      rw [tk, if_pos (decide_eq_true hlt)]
      unfold dueD at ft ⊢
      rw [List.map_append, List.map_cons, List.map_nil, ee]
      have kD' := KT.updL (o := .lst (ts ++ [.ref t])) hL5
      exact (ft.kt ((KT.of st).trans kD')).app (.tup (kD' _ _ upd_same) (.cons (kV_fx key) (.cons (fw.kt ((KT.of (Same.trans sH (Same.trans s3 st))).trans kD')) .nil)))
    · have hge : ¬ (ord i f r).idxOf key < m := by omega
      refine ⟨s3, ts, hL, ?_⟩
      rw [tk, if_neg (by rw [decide_eq_false hge]; exact Bool.false_ne_true), List.append_nil]
      exact ft
  · obtain ⟨s3, ts, hL, ft⟩ := z
    rw [List.length_map, List.take_length] at ft
    have asc3 := asc_len ⟨i, hi5⟩ ⟨f, hf3⟩ r ⟨m, hm4⟩
    have ascm := asc_mem ⟨i, hi5⟩ ⟨f, hf3⟩ r ⟨m, hm4⟩
    simp only at asc3 ascm
    refine ⟨L, ts, rfl, .inl ⟨SqL.of hL, fun u fu => ⟨(show 2 ≤ sizeLine by decide), fun t ft2 => ?_⟩⟩⟩
    have su := same_upd (o := .tup ts) fu
    have st := same_upd (o := .tup [.ref d, .ref u]) ft2
    have sA := Same.trans sH (Same.trans s3 (Same.trans su st))
    have hu := st _ _ (upd_same : upd H3 u (.tup ts) u = some (.tup ts))
    have hd3 := st _ _ (su _ _ (s3 _ _ hd2))
    have lt : ((ord i f r).take m).length = m := by rw [List.length_take]; omega
    have kf : (((ord i f r).take m).zip (vw.map (·.1))).map (·.1) = (ord i f r).take m := List.map_fst_zip (by omega)
    have ks : (((ord i f r).take m).zip (vw.map (·.1))).map (·.2) = vw.map (·.1) := List.map_snd_zip (by omega)
    have ndk : ((((ord i f r).take m).zip (vw.map (·.1))).map (·.1)).Nodup := by
      rw [kf]
      exact List.Sublist.nodup (List.take_sublist _ _) ond
    have lk : (((ord i f r).take m).zip (vw.map (·.1))).length ≤ 10 := by
      rw [List.length_zip, lt, lvs]
      omega
    have vdA := R.vd.kv (Kv.of (av := fun b => H0 b ≠ none) sA)
    have kin : ∀ k ∈ ascK i f r m, k ∈ kys i := fun k hk => (List.mem_filter.mp hk).1
    have kin2 : ∀ k ∈ (ord i f r).take m, k ∈ kys i := fun k hk => ord_mem ⟨i, hi5⟩ ⟨f, hf3⟩ r k (List.mem_of_mem_take hk)
    have idl : ∀ k ∈ ascK i f r m, ∃ j, j < (vw.map (·.1)).length ∧ (ord i f r)[j]? = some k ∧ (ord i f r).idxOf k = j := fun k hk => by
      obtain ⟨j, h1, h2, h3⟩ := ascm k hk
      exact ⟨j.val, by omega, h2, h3⟩
    have vks := VdKs.of (o := ord i f r) (kvs := ((ord i f r).take m).zip (vw.map (·.1))) vdA ndk (fun j k v h1 h2 => by
      have hj : j < m := by
        have := (List.getElem?_eq_some_iff.mp h2).1
        omega
      refine List.mem_of_getElem? (i := j) ?_
      rw [List.getElem?_zip_eq_some]
      exact ⟨by rw [List.getElem?_take, if_pos hj]; exact h1, h2⟩) idl
    have szd := Sz.dict (ks := (ord i f r).take m) (i := i) hi5 kin2 R.sd (by omega)
    have sze := Sz.due (o := ord i f r) (as := ascK i f r m) (i := i) hi5 kin R.se (fun k hk => by
      obtain ⟨j, h1, _, h3⟩ := idl k hk
      omega) asc3
    have nfp : d ∉ fp := fun h => by
      obtain ⟨o, e, _⟩ := R.ft.ltd d h
      rw [fd] at e
      cases e
    refine q t (.ref d) (.ref u) _ _ (d :: fp) _ (R.ex.trans (.of sA)) ((R.pen.same sA).mono hc') ((R.ex.trans (.of (Same.trans sH (Same.trans s3 su)))).freeP (R.pen.same (Same.trans sH (Same.trans s3 su))) ft2) upd_same
      ⟨.dic hd3 lk (VdKv.zip vdA (by omega)) (asc_of hi5 hf3 hm4 kf) (by omega) vks, szd, sze.1.mono (Nat.le_refl _) (by omega), sze.2⟩ (.tup hu (ft.kt (KT.of (Same.trans su st)))) (.dic hd3 lk ndk (by rw [ks]; exact R.ft.same sA)) (List.nodup_cons.mpr ⟨nfp, R.nd⟩) fun b hb => ?_
    rcases List.mem_cons.mp hb with rfl | hb
    · exact R.ex.freeP R.pen fd
    · exact R.fr b hb
end
end K00
set_option Elab.async false
set_option linter.all false
set_option maxRecDepth 100000
set_option maxHeartbeats 2000000
namespace K00
open PySem PySem.Spec PyProof.Rows L2 My MyRd
section
variable {P : Program} {w : World} {K : PySem.W.Frag} {mg : Str → Option Value} {base : Heap} {fD fG : Addr} {fdD fdG : FuncData}
theorem Rw.ext {H0 H H' : Hp} {p c c2 n m l : Nat} {lv lw : Addr} {vw : List (V × V)} {ds es : List PyData} {fp : List Addr} (R : Rw H0 H p c n m l lv lw vw ds es fp) (e : Ext p H H') (P : PenAt H' p c2) (hp : H0 p ≠ none) : Rw H0 H' p c2 n m l lv lw vw ds es fp :=
  have k : Kv (fun b => H0 b ≠ none) H H' := Kv.ext e R.pen hp
  have np : ∀ {b : Addr}, H0 b = none → b ≠ p := fun h q => hp (by rw [← q]; exact h)
  ⟨R.ex.trans e, P, R.len, e.keep _ _ R.hv (np R.fv), e.keep _ _ R.hw (np R.fw), R.fv, R.fw, R.nv, R.vd.kv k, R.fx.kt k.kt, R.ft.kv k fun b hb q => q (R.fr b hb), R.nd, R.fr, R.sd, R.se⟩
theorem va_dict {f : Addr} {cdv : Value} {A : Around} {outer : List Env} {s : Shared} {H : Hp} {E : XK} {k : Nat} (B : Blt mg) (D : FnT P w K mg base CX0 1 "_law_draw" fD fdD ["_law_pen_here", "_law_many"] spDraw) (G : FnT P w K mg base CX0 2 "_law_pick" fG fdG ["_law_pen_here", "_law_some"] spPick)
    (hr : Room (k + 3) (A.deeper (envOfC "_law_value" (defScope sVa) s.heap.objs.size f cdv))) :
    ∃ t, PSs (cxOf CX0 P w K mg base vaN "_law_value" (defScope sVa) f cdv A outer s H E).nox (vaRest.drop 4) t ∧ ∀ (D : Ends) (p c n : Nat) (H0 : Hp), PenAt H0 p c → c + cN (n + 1) ≤ 90000 → (∀ t v w d e fp H', Ext p H0 H' → PenAt H' p (c + cN (n + 1)) → H0 t = none → H' t = some (.tup [v, w]) → VdS (fun b => H0 b ≠ none) H' (n + 1) v d e → FxT H' w e → Ft H' (n + 1) v fp → fp.Nodup → (∀ b ∈ fp, H0 b = none) → D.rt (.ref t) H') → ∀ (m c' lp lv lw : Nat) (x2 : Option V) (vw : List (V × V)) (ds es : List PyData) (fp : List Addr) (H : Hp), m < 4 → c' + 3 ≤ c + cN (n + 1) → Rw H0 H p c' n m lp lv lw vw ds es fp →
      t D [some (.ref p), some (.int ((n + 1 : Nat) : Int)), x2, none, none, some (.ref lp), some (.ref lv), some (.ref lw), none, none, none, none, none, none, none] H := by
  obtain ⟨tz, h3, k3⟩ := va_dict2 (P := P) (w := w) (f := f) (cdv := cdv) (A := A) (outer := outer) (s := s) (H := H) (E := E) (K := K) (mg := mg) (base := base) B hr
  refine ⟨_, pss_cons (ps_set (i := 8) scVa.nd rfl (Or.inl rfl) (pe_call G.ok (hr.mono (by omega)) (by rfl) G.g G.kp G.bn .nil pass0 (pa_cons (pv 0) (pa_cons (pe_lst (pa_cons (pe_lst (pa_cons pe_str (pa_cons pe_str (pa_cons pe_str pa_nil)))) (pa_cons (pe_lst (pa_cons pe_str (pa_cons pe_str (pa_cons pe_str pa_nil)))) (pa_cons (pe_lst (pa_cons (pe_un un_neg pe_int) (pa_cons pe_int (pa_cons pe_int pa_nil)))) (pa_cons (pe_lst (pa_cons pe_str (pa_cons pe_str (pa_cons pe_str pa_nil)))) (pa_cons (pe_lst (pa_cons pe_str (pa_cons pe_str (pa_cons pe_str pa_nil)))) pa_nil)))))) pa_nil))))
    (pss_cons (ps_set (i := 9) scVa.nd rfl (Or.inl rfl) (pe_call D.ok (hr.mono (by omega)) (by rfl) D.g D.kp D.bn .nil pass0 (pa_cons (pv 0) (pa_cons pe_int pa_nil))))
    (pss_cons (ps_set (i := 10) scVa.nd rfl (Or.inr rfl) (pe_op op_cat (pe_slice sl_list (pv 8) (po_some (pv 9)) po_none) (pe_slice sl_list (pv 8) po_none (po_some (pv 9)))))
    (pss_cons (ps_set (i := 10) scVa.nd rfl (Or.inr rfl) (pe_ifExp (pt_cmpR op_eq (pe_call D.ok (hr.mono (by omega)) (by rfl) D.g D.kp D.bn .nil pass0 (pa_cons (pv 0) (pa_cons pe_int pa_nil))) pe_int (nomark _)) (pe_revL (pv 10)) (pv 10))) h3))), fun D p c n H0 PN0 hc q m c' lp lv lw x2 vw ds es fp H hm4 hc' R => ?_⟩
  have hp0 : H0 p ≠ none := by
    obtain ⟨ys, e⟩ := PN0.there
    rw [e]
    exact fun z => nomatch z
  refine ⟨_, rfl, (show 3 ≤ sizeLine by decide), fun l0 f0 => ⟨(show 3 ≤ sizeLine by decide), fun l1 f1 => ⟨_, rfl, (show 3 ≤ sizeLine by decide), fun l2 f2 => ⟨(show 3 ≤ sizeLine by decide), fun l3 f3 => ⟨(show 3 ≤ sizeLine by decide), fun l4 f4 => ⟨(show 5 ≤ sizeLine by decide), fun lo flo => ?_⟩⟩⟩⟩⟩⟩
  have t0 := same_upd (o := .lst [.str "w", .str "x", .str "y"]) f0
  have e0 : upd H l0 (.lst [.str "w", .str "x", .str "y"]) l0 = some (.lst ((kys 0).map kV)) := upd_same
  generalize upd H l0 (.lst [.str "w", .str "x", .str "y"]) = G0 at t0 e0 f1 f2 f3 f4 flo ⊢
  have t1 := same_upd (o := .lst [.str "o", .str "p", .str "z0"]) f1
  have e1 : upd G0 l1 (.lst [.str "o", .str "p", .str "z0"]) l1 = some (.lst ((kys 1).map kV)) := upd_same
  generalize upd G0 l1 (.lst [.str "o", .str "p", .str "z0"]) = G1 at t1 e1 f2 f3 f4 flo ⊢
  have t2 := same_upd (o := .lst [(fun i => V.int (-i)) 2, .int 9, .int 10]) f2
  have e2 : upd G1 l2 (.lst [(fun i => V.int (-i)) 2, .int 9, .int 10]) l2 = some (.lst ((kys 2).map kV)) := upd_same
  generalize upd G1 l2 (.lst [(fun i => V.int (-i)) 2, .int 9, .int 10]) = G2 at t2 e2 f3 f4 flo ⊢
  have t3' := same_upd (o := .lst [.str "", .str "A", .str "a"]) f3
  have e3 : upd G2 l3 (.lst [.str "", .str "A", .str "a"]) l3 = some (.lst ((kys 3).map kV)) := upd_same
  generalize upd G2 l3 (.lst [.str "", .str "A", .str "a"]) = G3 at t3' e3 f4 flo ⊢
  have t4 := same_upd (o := .lst [.str "z0", .str "z10", .str "z9"]) f4
  have e4 : upd G3 l4 (.lst [.str "z0", .str "z10", .str "z9"]) l4 = some (.lst ((kys 4).map kV)) := upd_same
  generalize upd G3 l4 (.lst [.str "z0", .str "z10", .str "z9"]) = G4 at t4 e4  flo ⊢
  have t5 := same_upd (o := .lst [.ref l0, .ref l1, .ref l2, .ref l3, .ref l4]) flo
  have e5 : upd G4 lo (.lst [.ref l0, .ref l1, .ref l2, .ref l3, .ref l4]) lo = some (.lst [.ref l0, .ref l1, .ref l2, .ref l3, .ref l4]) := upd_same
  have sG : Same H G4 := Same.trans t0 (Same.trans t1 (Same.trans t2 (Same.trans t3' t4)))
  have lop := (R.pen.same sG).ne flo
  have rows : ∀ i x, ([.ref l0, .ref l1, .ref l2, .ref l3, .ref l4] : List V)[i]? = some x → i < 5 ∧ ∃ a, x = .ref a ∧ G4 a = some (.lst ((kys i).map kV)) ∧ a ≠ p := fun i x hx => by
    have g0 := t4 _ _ (t3' _ _ (t2 _ _ (t1 _ _ e0)))
    have g1 := t4 _ _ (t3' _ _ (t2 _ _ e1))
    have g2 := t4 _ _ (t3' _ _ e2)
    have g3 := t4 _ _ e3
    match i with
    | 0 => cases Option.some.inj hx; exact ⟨by decide, _, rfl, g0, R.pen.ne f0⟩
    | 1 => cases Option.some.inj hx; exact ⟨by decide, _, rfl, g1, (R.pen.same t0).ne f1⟩
    | 2 => cases Option.some.inj hx; exact ⟨by decide, _, rfl, g2, (R.pen.same (Same.trans t0 t1)).ne f2⟩
    | 3 => cases Option.some.inj hx; exact ⟨by decide, _, rfl, g3, (R.pen.same (Same.trans t0 (Same.trans t1 t2))).ne f3⟩
    | 4 => cases Option.some.inj hx; exact ⟨by decide, _, rfl, e4, (R.pen.same (Same.trans t0 (Same.trans t1 (Same.trans t2 t3')))).ne f4⟩
    | i + 5 => cases hx
  refine ⟨p, lo, _, c', rfl, lop, e5, (show 0 < 5 by decide), (show 5 < 1000 by decide), (R.pen.same sG).same t5, by omega, fun i x H7 hx e7 P7 => ?_⟩
  obtain ⟨hi5, ak, rfl, hak, akp⟩ := rows i x hx
  have e07 : Ext p H H7 := (Ext.of (Same.trans sG t5)).trans e7
  have hak7 := e7.keep _ _ (t5 _ _ hak) akp
  have R7 := R.ext e07 P7 hp0
  clear rows e5 t5 lop flo t0 t1 t2 t3' t4 e0 e1 e2 e3 e4 f0 f1 f2 f3 f4 sG hak e7 hx R e07
  refine ⟨_, rfl, p, 3, c' + 1, rfl, by decide, by decide, P7, by omega, fun fi H8 d0 d1 e8 P8 => ?_⟩
  obtain ⟨f, hf⟩ : ∃ f : Nat, fi = (f : Int) := ⟨fi.toNat, by omega⟩
  subst hf
  have hak8 := e8.keep _ _ hak7 akp
  have R8 := R7.ext e8 P8 hp0
  clear R7 hak7 P7
  have f3 : f < 3 := by omega
  have lks : (kys i).length = 3 := (idx_ok ⟨i, hi5⟩ ⟨0, by decide⟩ false ⟨0, by decide⟩).2.2.2.2.2.2
  have ll : ((kys i).map kV).length = 3 := by rw [List.length_map]; exact lks
  have c1 : cutV ((kys i).map kV) (some (f : Int)) none = ((kys i).drop f).map kV := by
    unfold cutV
    rw [HT.sIx_nat, HT.sIx_none, ll, Nat.min_eq_left (by omega), List.take_of_length_le (by rw [List.length_drop, ll]; exact Nat.le_refl _), List.map_drop]
  have c2 : cutV ((kys i).map kV) none (some (f : Int)) = ((kys i).take f).map kV := by
    unfold cutV
    rw [HT.sIx_none, HT.sIx_nat, ll, Nat.min_eq_left (by omega), List.drop_zero, Nat.sub_zero, List.map_take]
  refine ⟨_, rfl, _, rfl, (f : Int), rfl, ak, _, rfl, SqL.of hak8, fun p1 h1 => ?_⟩
  rw [c1]
  have u1 := same_upd (o := .lst (((kys i).drop f).map kV)) h1
  have g1 : upd H8 p1 (.lst (((kys i).drop f).map kV)) p1 = some (.lst (((kys i).drop f).map kV)) := upd_same
  generalize upd H8 p1 (.lst (((kys i).drop f).map kV)) = G1 at u1 g1
  refine ⟨_, rfl, _, rfl, (f : Int), rfl, ak, _, rfl, SqL.of (u1 _ _ hak8), fun p2 h2 => ?_⟩
  rw [c2]
  have u2 := same_upd (o := .lst (((kys i).take f).map kV)) h2
  have g2 : upd G1 p2 (.lst (((kys i).take f).map kV)) p2 = some (.lst (((kys i).take f).map kV)) := upd_same
  generalize upd G1 p2 (.lst (((kys i).take f).map kV)) = G2 at u2 g2
  refine ⟨p1, p2, _, _, rfl, rfl, u2 _ _ g1, g2, ?_, fun p3 h3 => ?_⟩
  · rw [List.length_map, List.length_map, List.length_drop, List.length_take]
    exact Nat.le_trans (show _ ≤ 6 by omega) (by rw [sizeLine_eq]; decide)
  rw [← List.map_append]
  have u3 := same_upd (o := .lst (((kys i).drop f ++ (kys i).take f).map kV)) h3
  have g3 : upd G2 p3 (.lst (((kys i).drop f ++ (kys i).take f).map kV)) p3 = some (.lst (((kys i).drop f ++ (kys i).take f).map kV)) := upd_same
  have P82 := P8.same (Same.trans u1 u2)
  have np3 := P82.ne h3
  generalize upd G2 p3 (.lst (((kys i).drop f ++ (kys i).take f).map kV)) = G3 at u3 g3
  have u := Same.trans u1 (Same.trans u2 u3)
  have hak9 := u _ _ hak8
  have P9 := P8.same u
  have R9 := R8.ext (.of u) P9 hp0
  clear R8 hak8 u1 u2 g1 g2 h1 h2 P82 u3 h3 u
  refine ⟨_, rfl, p, 2, c' + 1 + 1, rfl, by decide, by decide, P9, by omega, fun r0 HA d2 d3 eA PA => ⟨rfl, _, rfl, ifd (fun hz => ?_) (fun hz => ?_)⟩⟩
  · have hakA := eA.keep _ _ hak9 akp
    have gA := eA.keep _ _ g3 np3
    have RA := R9.ext eA PA hp0
    refine ⟨_, rfl, p3, _, rfl, SqL.of gA, fun p4 h4 => ?_⟩
    have u4 := same_upd (o := .lst (((kys i).drop f ++ (kys i).take f).map kV).reverse) h4
    refine k3 D p c n H0 q m _ lp lv lw ak p4 i f true x2 _ vw ds es fp _ (RA.ext (.of u4) (PA.same u4) hp0) (u4 _ _ hakA) ?_ hi5 f3 hm4 (by omega)
    rw [upd_same, ← List.map_reverse]
    rfl
  · have hakA := eA.keep _ _ hak9 akp
    have gA := eA.keep _ _ g3 np3
    have RA := R9.ext eA PA hp0
    exact ⟨_, rfl, k3 D p c n H0 q m _ lp lv lw ak p3 i f false x2 _ vw ds es fp _ RA hakA gA hi5 f3 hm4 (by omega)⟩
end
end K00
set_option Elab.async false
set_option linter.all false
set_option maxRecDepth 100000
set_option maxHeartbeats 2000000
namespace K00
open PySem PySem.Spec PyProof.Rows L2 My MyRd
section
variable {P : Program} {w : World} {K : PySem.W.Frag} {mg : Str → Option Value} {base : Heap} {fD fG : Addr} {fdD fdG : FuncData}
/-- a drawn value -/
theorem ok_value {f : Addr} {fd : FuncData} (F : Fun K "_law_value" "_law_value" sVa f fd) (B : Blt mg) (g : mg "_law_value" = some (.ref f)) (bn : Binds K fd ["_law_pen_here", "_law_deep"] [])
    (D : FnT P w K mg base CX0 1 "_law_draw" fD fdD ["_law_pen_here", "_law_many"] spDraw) (G : FnT P w K mg base CX0 2 "_law_pick" fG fdG ["_law_pen_here", "_law_some"] spPick) : ∀ n : Nat, FnOk P w K mg base CX0 (n + 4) f fd ["_law_pen_here", "_law_deep"] (spVal n) := by
  intro n
  induction n with
  | zero =>
    refine F.ok scVa (fun vs H Q E h => ?_) (fun cdv A outer s H vs Q E hr h => ?_)
    · obtain ⟨p, c, rfl, _⟩ := h
      rfl
    · obtain ⟨p, c, rfl, PN, hc, q⟩ := h
      obtain ⟨t, h1, h2⟩ := va_start (P := P) (w := w) (f := f) (cdv := cdv) (A := A) (outer := outer) (s := s) (H := H) (E := E) (k := 0) B D G hr (pss_dead (body := vaRest))
      exact ⟨t, h1, h2 _ p 0 c H PN hc q fun way H' hn => absurd hn (by decide)⟩
  | succ n ih =>
    refine F.ok scVa (fun vs H Q E h => ?_) (fun cdv A outer s H vs Q E hr h => ?_)
    · obtain ⟨p, c, rfl, _⟩ := h
      rfl
    · obtain ⟨p, c, rfl, PN, hc, q⟩ := h
      obtain ⟨t4, g4, k4⟩ := va_dict (P := P) (w := w) (f := f) (cdv := cdv) (A := A) (outer := outer) (s := s) (H := H) (E := E) (k := n + 1) B D G hr
      obtain ⟨t3, g3, k3⟩ := va_rest (P := P) (w := w) (f := f) (cdv := cdv) (A := A) (outer := outer) (s := s) (H := H) (E := E) (k := n + 1) F B g bn D ih hr g4
      obtain ⟨t, h1, h2⟩ := va_start (P := P) (w := w) (f := f) (cdv := cdv) (A := A) (outer := outer) (s := s) (H := H) (E := E) (k := n + 1) B D G hr g3
      refine ⟨t, h1, h2 _ p (n + 1) c H PN hc q fun way H' hn w3 w8 e1 P1 => ?_⟩
      exact k3 _ p c way H H' PN e1 P1 hc w3 w8 q fun m c' lp lv lw vw ds es fp H2 w7 hm hc' R => k4 _ p c n H PN hc q m c' lp lv lw _ vw ds es fp H2 hm hc' R
end
end K00
set_option Elab.async false
set_option linter.all false
set_option maxRecDepth 100000
set_option maxHeartbeats 2000000
namespace K00
open PySem PySem.Spec PyProof.Rows L2 My MyX MyE MyD MyO MyQ MyU MyV MyRd
/-! ### papers -/
/-- all but instances stays -/
def KI (H H' : Hp) : Prop := ∀ a o, (∀ C dx fs, o ≠ .ins C dx fs) → H a = some o → H' a = some o
theorem KI.l {H H' : Hp} (k : KI H H') {a : Addr} {xs : List V} (h : H a = some (.lst xs)) : H' a = some (.lst xs) := k _ _ (fun _ _ _ z => nomatch z) h
theorem KI.t {H H' : Hp} (k : KI H H') {a : Addr} {xs : List V} (h : H a = some (.tup xs)) : H' a = some (.tup xs) := k _ _ (fun _ _ _ z => nomatch z) h
theorem KI.d {H H' : Hp} (k : KI H H') {a : Addr} {xs : List (Key × V)} (h : H a = some (.dK xs)) : H' a = some (.dK xs) := k _ _ (fun _ _ _ z => nomatch z) h
theorem KI.upd {H : Hp} {x C dx : Addr} {fs : List (Str × V)} {o : HO} (h : H x = some (.ins C dx fs)) : KI H (L2.upd H x o) := fun a u n e => by
  rw [upd_ne (fun q => n C dx fs (by rw [q, h] at e; exact (Option.some.inj e).symm))]
  exact e
theorem KT.ki {H H' : Hp} (k : KI H H') : KT H H' := fun t xs e => k t _ (fun _ _ _ z => nomatch z) e
mutual
theorem Vd.ki {av : Addr → Prop} {H H' : Hp} (s : KI H H') : ∀ {n : Nat} {x : V} {d e : PyData}, Vd av H n x d e → Vd av H' n x d e
  | _, _, _, _, .non => .non
  | _, _, _, _, .bl b => .bl b
  | _, _, _, _, .int i => .int i
  | _, _, _, _, .str z => .str z
  | _, _, _, _, .lst z h l t => .lst z (s.l h) l (t.ki s)
  | _, _, _, _, .tup h l t => .tup (s.t h) l (t.ki s)
  | _, _, _, _, .dic h l t a m u => .dic (s.d h) l (t.ki s) a m (u.ki s)
theorem Vds.ki {av : Addr → Prop} {H H' : Hp} (s : KI H H') : ∀ {n : Nat} {x : List V} {d e : List PyData}, Vds av H n x d e → Vds av H' n x d e
  | _, _, _, _, .nil => .nil
  | _, _, _, _, .cons h t => .cons (h.ki s) (t.ki s)
theorem VdKv.ki {av : Addr → Prop} {H H' : Hp} (s : KI H H') : ∀ {n : Nat} {x : List (Key × V)} {d : List (PyData × PyData)}, VdKv av H n x d → VdKv av H' n x d
  | _, _, _, .nil => .nil
  | _, _, _, .cons h t => .cons (h.ki s) (t.ki s)
theorem VdKs.ki {av : Addr → Prop} {H H' : Hp} (s : KI H H') : ∀ {n : Nat} {kvs : List (Key × V)} {ks : List Key} {d : List PyData}, VdKs av H n kvs ks d → VdKs av H' n kvs ks d
  | _, _, _, _, .nil => .nil
  | _, _, _, _, .cons a h t => .cons a (h.ki s) (t.ki s)
end
/-- what the text says of a paper's class -/
structure PapT (K : PySem.W.Frag) (C : Addr) : Prop where
  cl : Cls K C
  nW : NoAttr K C "word"
  nP : NoAttr K C "parts"
def paF (wd : Str) (t : Addr) : List (Str × V) := putF "parts" (.ref t) (putF "word" (.str wd) [])
/-- a paper of the class at C with this word and these parts -/
def PaAt (C : Addr) (H : Hp) (a : Addr) (wd : Str) (es : List PyData) : Prop := ∃ dx t ys, H a = some (.ins C dx (paF wd t)) ∧ H t = some (.tup ys) ∧ FxTs H ys es
theorem PaAt.same {C : Addr} {H H' : Hp} {a : Addr} {wd : Str} {es : List PyData} (h : PaAt C H a wd es) (s : Same H H') : PaAt C H' a wd es := by
  obtain ⟨dx, t, ys, h1, h2, h3⟩ := h
  exact ⟨dx, t, ys, s _ _ h1, s _ _ h2, h3.kt (.of s)⟩
theorem paF_w (wd : Str) (t : Addr) : (paF wd t).lookup ("word" : Str) = some (.str wd) := by
  unfold paF
  rw [lookup_putF, if_neg (by decide +kernel), lookup_putF, if_pos rfl]
theorem paF_p (wd : Str) (t : Addr) : (paF wd t).lookup ("parts" : Str) = some (.ref t) := by
  unfold paF
  rw [lookup_putF, if_pos rfl]
section
variable {P : Program} {w : World} {K : PySem.W.Frag} {mg : Str → Option Value} {base : Heap} {fFx : Addr} {fdFx : FuncData}
abbrev sPaI : Stmt := inClass (top 3) 0
/-! ### Paper.__init__ -/
def spPaI0 (n : Nat) (C : Addr) : Sp := fun vs H Q _ => ∃ (x dx p : Addr) (wd : Str) (av : Addr → Prop) (d : PyData) (es : List PyData), vs = [.ref x, .str wd, .ref p] ∧ H x = some (.ins C dx []) ∧ Vd av H (n + 1) (.ref p) d (.tuple es) ∧
  ∀ H', (∀ b o, b ≠ x → H b = some o → H' b = some o) → PaAt C H' x wd es → Q .non H'
abbrev paN : List Str := ["self", "word", "parts"]
theorem scPaI : FnScope paN ["self", "word", "parts"] (defScope sPaI) := ⟨rfl, rfl, rfl, by decide +kernel, rfl, by decide +kernel, by decide +kernel⟩
def spPaI (n : Nat) (C : Addr) : Sp := fun vs H Q E => ∃ ws rest, vs = ws ++ rest ∧ ws.length = 2 ∧ rest.length ≤ sizeLine ∧ ∀ p, H p = none → spPaI0 n C (ws ++ [V.ref p]) (upd H p (.tup rest)) Q E
theorem ok_paI {n : Nat} {C f : Addr} {fd : FuncData} (F : Fun K "__init__" "Paper.__init__" sPaI f fd) (T : PapT K C) (FX : FnT P w K mg base CX0 (n + 3) "fixed" fFx fdFx ["value"] (spFixed (n + 1))) : FnR P w K mg base CX0 (n + 5) f (spPaI n C) := by
  obtain ⟨oc, od, kV, doc, pm, an, cdv, ct, osl, rfl, lk, hcd⟩ := F.ex
  refine StX.fn_star (ps := ["self", "word"]) (pv := "parts") (N := paN) (k := n + 4) (sp := spPaI0 n C) lk hcd scPaI StX.cxUp_none (fun us rest hl => ?_) (fun A outer s H vs Q E hr h => ?_)
  · obtain ⟨a, b, rfl⟩ : ∃ a b, us = [a, b] := by
      match us, hl with
      | [a, b], _ => exact ⟨a, b, rfl⟩
    cases rest with
    | nil => rfl
    | cons c r => rfl
  · obtain ⟨x, dx, p, wd, av, d, es, rfl, hx, fx, q⟩ := h
    refine ⟨_, pss_cons (ps_fld (pv 0) (pv 1) rfl) (pss_one (ps_fld (pv 0) (pe_call FX.ok (hr.mono (by omega)) (by rfl) FX.g FX.kp FX.bn .nil pass0 (pa_cons (pv 2) pa_nil)) rfl)), ?_⟩
    refine ⟨_, rfl, _, rfl, x, C, dx, [], rfl, hx, T.cl, T.nW, (by decide), ?_⟩
    have k1 : KI H (upd H x (.ins C dx (putF "word" (.str wd) []))) := KI.upd hx
    have o1 : ∀ b o, b ≠ x → H b = some o → upd H x (.ins C dx (putF "word" (.str wd) [])) b = some o := fun b o nb e => by rw [upd_ne nb]; exact e
    have hx1 : upd H x (.ins C dx (putF "word" (.str wd) [])) x = some (.ins C dx (putF "word" (.str wd) [])) := upd_same
    generalize upd H x (.ins C dx (putF "word" (.str wd) [])) = H1 at k1 o1 hx1
    refine ⟨_, rfl, av, .ref p, d, .tuple es, rfl, fx.ki k1, fun y H2 s2 fy => ?_⟩
    cases fy with
    | @tup t ys _ ht fys =>
      have hx2 := s2 _ _ hx1
      refine ⟨_, rfl, x, C, dx, _, rfl, hx2, T.cl, T.nP, (show 1 < 1000 by decide), q _ (fun b o nb e => ?_) ⟨dx, t, ys, upd_same, ?_, fys.kt (KT.ki (KI.upd hx2))⟩⟩
      · rw [upd_ne nb]
        exact s2 _ _ (o1 b o nb e)
      · rw [upd_ne (ne_of ht hx2 (fun z => nomatch z))]
        exact ht
end
end K00
set_option Elab.async false
set_option linter.all false
set_option maxRecDepth 100000
set_option maxHeartbeats 2000000
namespace K00
open PySem PySem.Spec PyProof.Rows L2 My MyX MyE MyD MyO MyQ MyU MyV MyRd
section
variable {P : Program} {w : World} {K : PySem.W.Frag} {mg : Str → Option Value} {base : Heap} {PA DE fPi fDi fFx fPe fDe : Addr} {fdFx : FuncData}
abbrev sDeI : Stmt := inClass (top 4) 0
abbrev sPaE : Stmt := inClass (top 3) 1
abbrev sDeE : Stmt := inClass (top 4) 1
abbrev sPaB : Stmt := inClass (top 3) 2
abbrev sDeB : Stmt := inClass (top 4) 2
/-- a paper of the class at C made of a word and parts -/
def spMkP (n : Nat) (C : Addr) : Sp := fun vs H Q _ => ∃ (x dx : Addr) (wd : Str) (rest : List V) (av : Addr → Prop) (ds es : List PyData), vs = .ref x :: .str wd :: rest ∧ H x = some (.ins C dx []) ∧ Vds av H n rest ds es ∧ rest.length ≤ 10 ∧
  ∀ H', (∀ b o, b ≠ x → H b = some o → H' b = some o) → PaAt C H' x wd es → Q .non H'
theorem ten_le {n : Nat} (h : n ≤ 10) : n ≤ sizeLine := Nat.le_trans h (by rw [sizeLine_eq]; decide)
theorem ok_paM {n : Nat} {C f : Addr} {fd : FuncData} (F : Fun K "__init__" "Paper.__init__" sPaI f fd) (T : PapT K C) (FX : FnT P w K mg base CX0 (n + 3) "fixed" fFx fdFx ["value"] (spFixed (n + 1))) : FnR P w K mg base CX0 (n + 5) f (spMkP n C) := by
  intro A outer s H us vs Q E hr e0 r h
  obtain ⟨x, dx, wd, rest, av, ds, es, rfl, hx, vd, hl, q⟩ := h
  refine ok_paI F T FX A outer s H us _ Q E hr e0 r ⟨[.ref x, .str wd], rest, rfl, rfl, ten_le hl, fun p fp => ?_⟩
  have s1 := same_upd (o := .tup rest) fp
  exact ⟨x, dx, p, wd, av, _, es, rfl, s1 _ _ hx, .tup upd_same hl (vd.same s1), fun H' k pa => q H' (fun b o nb e => k b o nb (s1 _ _ e)) pa⟩
/-! ### Denial.__init__ -/
structure PaIT (K : PySem.W.Frag) (mg : Str → Option Value) (PA g : Addr) : Prop where
  gP : mg "Paper" = some (.ref PA)
  rd : ClX.CRead K PA (.type "type")
  at_ : PySem.W.findCls K (.ref PA) (.type "type") "__init__" = some (.val (.ref g))
  kp : PySem.W.keepIn K (.ref g) = true
def spDeI0 (n : Nat) (C : Addr) : Sp := fun vs H Q _ => ∃ (x dx p : Addr) (wd : Str) (rest : List V) (av : Addr → Prop) (ds es : List PyData), vs = [.ref x, .str wd, .ref p] ∧ H x = some (.ins C dx []) ∧ H p = some (.tup rest) ∧ Vds av H n rest ds es ∧ rest.length ≤ 10 ∧
  ∀ H', (∀ b o, b ≠ x → H b = some o → H' b = some o) → PaAt C H' x wd es → Q .non H'
theorem scDeI : FnScope paN ["self", "word", "parts"] (defScope sDeI) := ⟨rfl, rfl, rfl, by decide +kernel, rfl, by decide +kernel, by decide +kernel⟩
theorem ok_deM {n : Nat} {f : Addr} {fd : FuncData} (F : Fun K "__init__" "Denial.__init__" sDeI f fd) (PT : PaIT K mg PA fPi) (PI : FnR P w K mg base CX0 (n + 5) fPi (spMkP n DE)) : FnR P w K mg base CX0 (n + 6) f (spMkP n DE) := by
  intro A outer s H us vs Q E hr e0 r h
  obtain ⟨oc, od, kV, doc, pm, an, cdv, ct, osl, rfl, lk, hcd⟩ := F.ex
  refine StX.fn_star (ps := ["self", "word"]) (pv := "parts") (N := paN) (k := n + 5) (sp := spDeI0 n DE) lk hcd scDeI StX.cxUp_none (fun us rest hl => ?_) (fun A outer s H vs Q E hr h => ?_) A outer s H us vs Q E hr e0 r ?_
  · obtain ⟨a, b, rfl⟩ : ∃ a b, us = [a, b] := by
      match us, hl with
      | [a, b], _ => exact ⟨a, b, rfl⟩
    cases rest with
    | nil => rfl
    | cons c r => rfl
  · obtain ⟨x, dx, p, wd, rest, av, ds, es, rfl, hx, hp, vd, hl, q⟩ := h
    refine ⟨_, pss_one (ps_expr (MyPa.pe_cmethS (pe_gref rfl PT.gP) PT.rd PT.at_ PT.kp PI (hr.mono (by omega)) pass0 (pa_cons (pv 0) (pa_cons (pv 1) (StX.pa_star (pv 2) pa_nil))))), ?_⟩
    refine ⟨rfl, _, rfl, _, rfl, _, rfl, p, rest, rfl, .inl (SqT.of hp), x, dx, wd, rest, av, ds, es, by rw [List.append_nil], hx, vd, hl, fun H' k pa => q H' k pa⟩
  · obtain ⟨x, dx, wd, rest, av, ds, es, rfl, hx, vd, hl, q⟩ := h
    refine ⟨[.ref x, .str wd], rest, rfl, rfl, ten_le hl, fun p fp => ?_⟩
    have s1 := same_upd (o := .tup rest) fp
    exact ⟨x, dx, p, wd, rest, av, ds, es, rfl, s1 _ _ hx, upd_same, vd.same s1, hl, fun H' k pa => q H' (fun b o nb e => k b o nb (s1 _ _ e)) pa⟩
/-! ### == -/
/-- what the text says of a paper's class, for isinstance -/
structure PapX (K : PySem.W.Frag) (C : Addr) : Prop where
  pt : PapT K C
  ca : PySem.W.findIn K (.ref C) "__class__" = some (some (.builtin "object.__class__"))
  cn : PySem.W.specialIn K (.builtin "object.__class__") "__get__" = some (some (.builtin "getset_descriptor.__get__"))
  ct : PySem.W.takesIn K (.builtin "object.__class__") = some true
  cm : PySem.W.mroIn K C (.type "object") = some true
structure PapE (K : PySem.W.Frag) (mg : Str → Option Value) (PA DE : Addr) : Prop where
  gP : mg "Paper" = some (.ref PA)
  xP : PapX K PA
  xD : PapX K DE
  kP : PySem.W.kitOne K (.ref PA) (.ref PA) = some true
  kD : PySem.W.kitOne K (.ref DE) (.ref PA) = some true
  k0 : PySem.W.kitOne K (.type "NoneType") (.ref PA) = some false
  k1 : PySem.W.kitOne K (.type "bool") (.ref PA) = some false
  k2 : PySem.W.kitOne K (.type "int") (.ref PA) = some false
  k3 : PySem.W.kitOne K (.type "str") (.ref PA) = some false
  k4 : PySem.W.kitOne K (.type "list") (.ref PA) = some false
  k5 : PySem.W.kitOne K (.type "tuple") (.ref PA) = some false
  k6 : PySem.W.kitOne K (.type "dict") (.ref PA) = some false
theorem PapE.kd (T : PapE K mg PA DE) {H : Hp} {x : V} {t : String} (h : Kd H x t) : PySem.W.kitOne K (.type t) (.ref PA) = some false := by
  cases h
  · exact T.k0
  · exact T.k1
  · exact T.k2
  · exact T.k3
  · exact T.k4
  · exact T.k5
  · exact T.k6
theorem PapX.tyX {C : Addr} (T : PapX K C) {H : Hp} {a dx : Addr} {fs : List (Str × V)} (h : H a = some (.ins C dx fs)) : TyX K H (.ref a) (.ref C) := .base (.ins h T.pt.cl T.ca T.cn T.ct T.cm)
theorem PapE.x (T : PapE K mg PA DE) {C : Addr} (h : C = PA ∨ C = DE) : PapX K C := by
  rcases h with rfl | rfl
  · exact T.xP
  · exact T.xD
theorem PapE.k (T : PapE K mg PA DE) {C : Addr} (h : C = PA ∨ C = DE) : PySem.W.kitOne K (.ref C) (.ref PA) = some true := by
  rcases h with rfl | rfl
  · exact T.kP
  · exact T.kD
/-- the right side of == : a paper, or something of another kind -/
def spEqP (PA DE : Addr) : Sp := fun vs H Q _ => ∃ (a C : Addr) (y : V) (wd : Str) (es : List PyData), vs = [.ref a, y] ∧ (C = PA ∨ C = DE) ∧ PaAt C H a wd es ∧
  ((∃ b C' wd' es', y = .ref b ∧ (C' = PA ∨ C' = DE) ∧ PaAt C' H b wd' es' ∧ SeqAt.shaped (.tuple es) = true ∧ SeqAt.shaped (.tuple es') = true ∧ Q (.bl (decide (wd = wd') && PyData.eqv (.tuple es) (.tuple es'))) H) ∨ (∃ t, Kd H y t ∧ Q (.bl false) H))
abbrev eqN : List Str := ["self", "other"]
theorem scPaE : FnScope eqN eqN (defScope sPaE) := ⟨rfl, rfl, rfl, by decide +kernel, rfl, by decide +kernel, by decide +kernel⟩
theorem scDeE : FnScope eqN eqN (defScope sDeE) := ⟨rfl, rfl, rfl, by decide +kernel, rfl, by decide +kernel, by decide +kernel⟩
theorem ok_eqPa {f : Addr} {fd : FuncData} (F : Fun K "__eq__" "Paper.__eq__" sPaE f fd) (B : Blt mg) (T : PapE K mg PA DE) : FnOk P w K mg base CX0 1 f fd eqN (spEqP PA DE) := by
  refine F.ok scPaE (fun vs H Q E h => ?_) (fun cdv A outer s H vs Q E hr h => ?_)
  · obtain ⟨a, C, y, wd, es, rfl, _⟩ := h
    rfl
  · obtain ⟨a, C, y, wd, es, rfl, hC, ⟨dx, t, ys, h1, h2, h3⟩, q⟩ := h
    refine ⟨_, pss_one (ps_ret (pe_and (pe_callB call_isi (by rfl) B.isinstance (by decide +kernel) (pa_cons (pv 1) (pa_cons (pe_gref rfl T.gP) pa_nil)))
      (pe_and (pe_cmpR op_eq (pe_fld (pv 0) rfl) (pe_fld (pv 1) rfl) (nomark _)) (pe_one (pe_cmpR (op_eqD hr.units) (pe_fld (pv 0) rfl) (pe_fld (pv 1) rfl) (nomark _)))))), ?_⟩
    rcases q with ⟨b, C', wd', es', rfl, hC', ⟨dy, u, zs, g1, g2, g3⟩, sd, se, q⟩ | ⟨ty, hk, q⟩
    · refine ⟨_, rfl, _, _, _, _, true, rfl, .own PA, (T.x hC').tyX g1, T.k hC', _, rfl, iteT ?_⟩
      refine ⟨_, rfl, a, C, dx, _, .str wd, rfl, h1, (T.x hC).pt.cl, (T.x hC).pt.nW, paF_w _ _, _, rfl, b, C', dy, _, .str wd', rfl, g1, (T.x hC').pt.cl, (T.x hC').pt.nW, paF_w _ _, rfl, ?_⟩
      refine ⟨_, rfl, ?_⟩
      by_cases e : wd = wd'
      · subst e
        rw [decide_eq_true rfl] at q ⊢
        refine iteT ?_
        exact ⟨_, rfl, a, C, dx, _, .ref t, rfl, h1, (T.x hC).pt.cl, (T.x hC).pt.nP, paF_p _ _, _, rfl, b, C', dy, _, .ref u, rfl, g1, (T.x hC').pt.cl, (T.x hC').pt.nP, paF_p _ _, _, _, .tup (SqT.of h2) h3.dp, .tup (SqT.of g2) g3.dp, sd, se, q⟩
      · rw [decide_eq_false e] at q
        rw [decide_eq_false (fun z => e (V.str.inj z))]
        exact iteF q
    · refine ⟨_, rfl, _, _, _, _, false, rfl, .own PA, hk.tyX, T.kd hk, _, rfl, iteF q⟩
theorem ok_eqDe {f : Addr} {fd : FuncData} (F : Fun K "__eq__" "Denial.__eq__" sDeE f fd) (B : Blt mg) (T : PapE K mg PA DE) : FnOk P w K mg base CX0 1 f fd eqN (spEqP PA DE) := by
  refine F.ok scDeE (fun vs H Q E h => ?_) (fun cdv A outer s H vs Q E hr h => ?_)
  · obtain ⟨a, C, y, wd, es, rfl, _⟩ := h
    rfl
  · obtain ⟨a, C, y, wd, es, rfl, hC, ⟨dx, t, ys, h1, h2, h3⟩, q⟩ := h
    refine ⟨_, pss_one (ps_ret (pe_and (pe_callB call_isi (by rfl) B.isinstance (by decide +kernel) (pa_cons (pv 1) (pa_cons (pe_gref rfl T.gP) pa_nil)))
      (pe_and (pe_cmpR op_eq (pe_fld (pv 0) rfl) (pe_fld (pv 1) rfl) (nomark _)) (pe_one (pe_cmpR (op_eqD hr.units) (pe_fld (pv 0) rfl) (pe_fld (pv 1) rfl) (nomark _)))))), ?_⟩
    rcases q with ⟨b, C', wd', es', rfl, hC', ⟨dy, u, zs, g1, g2, g3⟩, sd, se, q⟩ | ⟨ty, hk, q⟩
    · refine ⟨_, rfl, _, _, _, _, true, rfl, .own PA, (T.x hC').tyX g1, T.k hC', _, rfl, iteT ?_⟩
      refine ⟨_, rfl, a, C, dx, _, .str wd, rfl, h1, (T.x hC).pt.cl, (T.x hC).pt.nW, paF_w _ _, _, rfl, b, C', dy, _, .str wd', rfl, g1, (T.x hC').pt.cl, (T.x hC').pt.nW, paF_w _ _, rfl, ?_⟩
      refine ⟨_, rfl, ?_⟩
      by_cases e : wd = wd'
      · subst e
        rw [decide_eq_true rfl] at q ⊢
        refine iteT ?_
        exact ⟨_, rfl, a, C, dx, _, .ref t, rfl, h1, (T.x hC).pt.cl, (T.x hC).pt.nP, paF_p _ _, _, rfl, b, C', dy, _, .ref u, rfl, g1, (T.x hC').pt.cl, (T.x hC').pt.nP, paF_p _ _, _, _, .tup (SqT.of h2) h3.dp, .tup (SqT.of g2) g3.dp, sd, se, q⟩
      · rw [decide_eq_false e] at q
        rw [decide_eq_false (fun z => e (V.str.inj z))]
        exact iteF q
    · refine ⟨_, rfl, _, _, _, _, false, rfl, .own PA, hk.tyX, T.kd hk, _, rfl, iteF q⟩
/-! ### the truth of a paper -/
def spBoP (b : Bool) : Sp := fun vs H Q _ => ∃ a : Addr, vs = [.ref a] ∧ Q (.bl b) H
theorem scPaB : FnScope ["self"] ["self"] (defScope sPaB) := ⟨rfl, rfl, rfl, by decide +kernel, rfl, by decide +kernel, by decide +kernel⟩
theorem scDeB : FnScope ["self"] ["self"] (defScope sDeB) := ⟨rfl, rfl, rfl, by decide +kernel, rfl, by decide +kernel, by decide +kernel⟩
theorem ok_boPa {f : Addr} {fd : FuncData} (F : Fun K "__bool__" "Paper.__bool__" sPaB f fd) : FnOk P w K mg base CX0 1 f fd ["self"] (spBoP true) := by
  refine F.ok scPaB (fun vs H Q E h => ?_) (fun cdv A outer s H vs Q E hr h => ?_)
  · obtain ⟨a, rfl, _⟩ := h
    rfl
  · obtain ⟨a, rfl, q⟩ := h
    exact ⟨_, pss_one (ps_ret pe_bl), q⟩
theorem ok_boDe {f : Addr} {fd : FuncData} (F : Fun K "__bool__" "Denial.__bool__" sDeB f fd) : FnOk P w K mg base CX0 1 f fd ["self"] (spBoP false) := by
  refine F.ok scDeB (fun vs H Q E h => ?_) (fun cdv A outer s H vs Q E hr h => ?_)
  · obtain ⟨a, rfl, _⟩ := h
    rfl
  · obtain ⟨a, rfl, q⟩ := h
    exact ⟨_, pss_one (ps_ret pe_bl), q⟩
end
end K00
set_option Elab.async false
set_option linter.all false
set_option maxRecDepth 100000
set_option maxHeartbeats 2000000
namespace K00
open PySem PySem.Spec PyProof.Rows L2 My MyX MyE MyD MyO MyQ MyU MyV MyRd
section
variable {P : Program} {w : World} {K : PySem.W.Frag} {mg : Str → Option Value} {base : Heap} {PA DE fPi fDi : Addr}
/-! ### _law_paper -/
abbrev sPp : Stmt := top 44
/-- what makes papers -/
structure MkT (P : Program) (w : World) (K : PySem.W.Frag) (mg : Str → Option Value) (base : Heap) (PA DE fPi fDi : Addr) (n : Nat) : Prop where
  gP : mg "Paper" = some (.ref PA)
  gD : mg "Denial" = some (.ref DE)
  mP : Mk K PA fPi
  mD : Mk K DE fDi
  fP : FnR P w K mg base CX0 (n + 5) fPi (spMkP n PA)
  fD : FnR P w K mg base CX0 (n + 6) fDi (spMkP n DE)
def clsOf (PA DE : Addr) (no : Bool) : Addr := if no then DE else PA
def spPap (PA DE : Addr) (n : Nat) : Sp := fun vs H Q _ => ∃ (no : Bool) (wd : Str) (l : Addr) (xs : List V) (av : Addr → Prop) (ds es : List PyData), vs = [.bl no, .str wd, .ref l] ∧ H l = some (.lst xs) ∧ Vds av H n xs ds es ∧ xs.length ≤ 3 ∧
  ∀ a H', Same H H' → H a = none → PaAt (clsOf PA DE no) H' a wd es → Q (.ref a) H'
abbrev ppN : List Str := ["_law_is_no", "_law_word", "_law_parts"]
theorem scPp : FnScope ppN ppN (defScope sPp) := ⟨rfl, rfl, rfl, by decide +kernel, rfl, by decide +kernel, by decide +kernel⟩
/-- the end of making one -/
theorem made_pa {n : Nat} {C : Addr} {H : Hp} {Q : VK} {wd : Str} {xs : List V} {av : Addr → Prop} {ds es : List PyData} (vd : Vds av H n xs ds es) (hl : xs.length ≤ 3) (q : ∀ a H', Same H H' → H a = none → PaAt C H' a wd es → Q (.ref a) H') (x dx : Addr) (fx : H x = none) (fdx : H dx = none) (_ : dx ≠ x) :
    spMkP n C (V.ref x :: .str wd :: xs) (upd (upd H dx (.own x)) x (.ins C dx [])) (fun v H2 => v = .non ∧ Q (.ref x) H2) E0 := by
  have s1 : Same H (upd (upd H dx (.own x)) x (.ins C dx [])) := same_updF (same_upd fdx) fx
  refine ⟨x, dx, wd, xs, av, ds, es, rfl, upd_same, vd.same s1, by omega, fun H' k pa => ⟨rfl, q x H' (fun b u e => k b u (ne_of_none e fx) (s1 _ _ e)) fx pa⟩⟩
theorem ok_paper {n : Nat} {f : Addr} {fd : FuncData} (F : Fun K "_law_paper" "_law_paper" sPp f fd) (B : Blt mg) (T : MkT P w K mg base PA DE fPi fDi n) : FnOk P w K mg base CX0 (n + 8) f fd ppN (spPap PA DE n) := by
  refine F.ok (k := n + 7) scPp (fun vs H Q E h => ?_) (fun cdv A outer s H vs Q E hr h => ?_)
  · obtain ⟨no, wd, l, xs, av, ds, es, rfl, _⟩ := h
    rfl
  · obtain ⟨no, wd, l, xs, av, ds, es, rfl, hl, vd, h3, q⟩ := h
    refine ⟨_, (pss_cons (ps_if (pt_cmpR op_eq (pe_callB call_len_seq (by rfl) B.len PySem.boot_len (pa_cons (pv 2) pa_nil)) pe_int (nomark _)) (pss_one (ps_ret (pe_ifExp (pt_val (pv 0)) (StX.pe_makeR T.mD T.fD (hr.mono (by omega)) (by rfl) T.gD pass0 (pa_cons (pv 1) pa_nil)) (StX.pe_makeR T.mP T.fP (hr.mono (by omega)) (by rfl) T.gP pass0 (pa_cons (pv 1) pa_nil))))) pss_nil) (pss_cons (ps_if (pt_cmpR op_eq (pe_callB call_len_seq (by rfl) B.len PySem.boot_len (pa_cons (pv 2) pa_nil)) pe_int (nomark _)) (pss_one (ps_ret (pe_ifExp (pt_val (pv 0)) (StX.pe_makeR T.mD T.fD (hr.mono (by omega)) (by rfl) T.gD pass0 (pa_cons (pv 1) (pa_cons (pe_ix ix_list (pv 2) pe_int (fun _ _ => rfl)) pa_nil))) (StX.pe_makeR T.mP T.fP (hr.mono (by omega)) (by rfl) T.gP pass0 (pa_cons (pv 1) (pa_cons (pe_ix ix_list (pv 2) pe_int (fun _ _ => rfl)) pa_nil)))))) pss_nil) (pss_cons (ps_if (pt_cmpR op_eq (pe_callB call_len_seq (by rfl) B.len PySem.boot_len (pa_cons (pv 2) pa_nil)) pe_int (nomark _)) (pss_one (ps_ret (pe_ifExp (pt_val (pv 0)) (StX.pe_makeR T.mD T.fD (hr.mono (by omega)) (by rfl) T.gD pass0 (pa_cons (pv 1) (pa_cons (pe_ix ix_list (pv 2) pe_int (fun _ _ => rfl)) (pa_cons (pe_ix ix_list (pv 2) pe_int (fun _ _ => rfl)) pa_nil)))) (StX.pe_makeR T.mP T.fP (hr.mono (by omega)) (by rfl) T.gP pass0 (pa_cons (pv 1) (pa_cons (pe_ix ix_list (pv 2) pe_int (fun _ _ => rfl)) (pa_cons (pe_ix ix_list (pv 2) pe_int (fun _ _ => rfl)) pa_nil))))))) pss_nil) (pss_one (ps_ret (pe_ifExp (pt_val (pv 0)) (StX.pe_makeR T.mD T.fD (hr.mono (by omega)) (by rfl) T.gD pass0 (pa_cons (pv 1) (pa_cons (pe_ix ix_list (pv 2) pe_int (fun _ _ => rfl)) (pa_cons (pe_ix ix_list (pv 2) pe_int (fun _ _ => rfl)) (pa_cons (pe_ix ix_list (pv 2) pe_int (fun _ _ => rfl)) pa_nil))))) (StX.pe_makeR T.mP T.fP (hr.mono (by omega)) (by rfl) T.gP pass0 (pa_cons (pv 1) (pa_cons (pe_ix ix_list (pv 2) pe_int (fun _ _ => rfl)) (pa_cons (pe_ix ix_list (pv 2) pe_int (fun _ _ => rfl)) (pa_cons (pe_ix ix_list (pv 2) pe_int (fun _ _ => rfl)) pa_nil))))))))))), ?_⟩
    have lS := SqL.of (K := K) hl
    match xs, vd, h3, hl, lS with
    | [], vd, h3, hl, lS =>
      refine ⟨_, rfl, l, _, rfl, .inl lS, rfl, _, rfl, ifd (fun _ => ?_) fun h => absurd rfl h⟩
      cases no with
      | false => exact ⟨_, rfl, _, rfl, iteF ⟨_, rfl, fun x dx fx fdx ne => made_pa vd h3 q x dx fx fdx ne⟩⟩
      | true => exact ⟨_, rfl, _, rfl, iteT ⟨_, rfl, fun x dx fx fdx ne => made_pa vd h3 q x dx fx fdx ne⟩⟩
    | [x0], vd, h3, hl, lS =>
      refine ⟨_, rfl, l, _, rfl, .inl lS, rfl, _, rfl, ifd (fun h => absurd h (by simp)) fun _ => ?_⟩
      refine ⟨_, rfl, l, _, rfl, .inl lS, rfl, _, rfl, ifd (fun _ => ?_) fun h => absurd rfl h⟩
      cases no with
      | false => exact ⟨_, rfl, _, rfl, iteF ⟨_, rfl, _, rfl, l, _, 0, x0, rfl, rfl, lS, atI_nat (j := 0) rfl, fun x dx fx fdx ne => made_pa vd h3 q x dx fx fdx ne⟩⟩
      | true => exact ⟨_, rfl, _, rfl, iteT ⟨_, rfl, _, rfl, l, _, 0, x0, rfl, rfl, lS, atI_nat (j := 0) rfl, fun x dx fx fdx ne => made_pa vd h3 q x dx fx fdx ne⟩⟩
    | [x0, x1], vd, h3, hl, lS =>
      refine ⟨_, rfl, l, _, rfl, .inl lS, rfl, _, rfl, ifd (fun h => absurd h (by simp)) fun _ => ?_⟩
      refine ⟨_, rfl, l, _, rfl, .inl lS, rfl, _, rfl, ifd (fun h => absurd h (by simp)) fun _ => ?_⟩
      refine ⟨_, rfl, l, _, rfl, .inl lS, rfl, _, rfl, ifd (fun _ => ?_) fun h => absurd rfl h⟩
      cases no with
      | false => exact ⟨_, rfl, _, rfl, iteF ⟨_, rfl, _, rfl, l, _, 0, x0, rfl, rfl, lS, atI_nat (j := 0) rfl, _, rfl, l, _, 1, x1, rfl, rfl, lS, atI_nat (j := 1) rfl, fun x dx fx fdx ne => made_pa vd h3 q x dx fx fdx ne⟩⟩
      | true => exact ⟨_, rfl, _, rfl, iteT ⟨_, rfl, _, rfl, l, _, 0, x0, rfl, rfl, lS, atI_nat (j := 0) rfl, _, rfl, l, _, 1, x1, rfl, rfl, lS, atI_nat (j := 1) rfl, fun x dx fx fdx ne => made_pa vd h3 q x dx fx fdx ne⟩⟩
    | [x0, x1, x2], vd, h3, hl, lS =>
      refine ⟨_, rfl, l, _, rfl, .inl lS, rfl, _, rfl, ifd (fun h => absurd h (by simp)) fun _ => ?_⟩
      refine ⟨_, rfl, l, _, rfl, .inl lS, rfl, _, rfl, ifd (fun h => absurd h (by simp)) fun _ => ?_⟩
      refine ⟨_, rfl, l, _, rfl, .inl lS, rfl, _, rfl, ifd (fun h => absurd h (by simp)) fun _ => ?_⟩
      cases no with
      | false => exact ⟨_, rfl, _, rfl, iteF ⟨_, rfl, _, rfl, l, _, 0, x0, rfl, rfl, lS, atI_nat (j := 0) rfl, _, rfl, l, _, 1, x1, rfl, rfl, lS, atI_nat (j := 1) rfl, _, rfl, l, _, 2, x2, rfl, rfl, lS, atI_nat (j := 2) rfl, fun x dx fx fdx ne => made_pa vd h3 q x dx fx fdx ne⟩⟩
      | true => exact ⟨_, rfl, _, rfl, iteT ⟨_, rfl, _, rfl, l, _, 0, x0, rfl, rfl, lS, atI_nat (j := 0) rfl, _, rfl, l, _, 1, x1, rfl, rfl, lS, atI_nat (j := 1) rfl, _, rfl, l, _, 2, x2, rfl, rfl, lS, atI_nat (j := 2) rfl, fun x dx fx fdx ne => made_pa vd h3 q x dx fx fdx ne⟩⟩
    | _ :: _ :: _ :: _ :: _, _, h3, _, _ => exact absurd h3 (by simp)
end
end K00
set_option Elab.async false
set_option linter.all false
set_option maxRecDepth 100000
set_option maxHeartbeats 2000000
namespace K00
open PySem PySem.Spec PyProof.Rows L2 My MyRd
/-! ### what fixed gives is fixed -/
mutual
def nar : PyData → Bool
  | .tuple xs => decide (xs.length ≤ 10) && narAll xs
  | _ => true
def narAll : List PyData → Bool
  | [] => true
  | x :: xs => nar x && narAll xs
end
theorem nar_key (k : Key) : nar (kD k) = true := by cases k <;> rfl
mutual
theorem Vd.nar {av : Addr → Prop} {H : Hp} : ∀ {n : Nat} {x : V} {d e : PyData}, Vd av H n x d e → K00.nar e = true
  | _, _, _, _, .non => rfl
  | _, _, _, _, .bl b => rfl
  | _, _, _, _, .int i => rfl
  | _, _, _, _, .str z => rfl
  | _, _, _, _, .lst (es := es) z h l t => by
    have h1 := t.narAll
    have h2 := t.len.1
    unfold K00.nar
    rw [h1, decide_eq_true (by omega)]
    rfl
  | _, _, _, _, .tup h l t => by
    have h1 := t.narAll
    have h2 := t.len.1
    unfold K00.nar
    rw [h1, decide_eq_true (by omega)]
    rfl
  | _, _, _, _, .dic h l t a m u => by
    have h1 := u.narAll
    have h2 := u.len2
    unfold K00.nar
    rw [h1, decide_eq_true (by omega)]
    rfl
theorem Vds.narAll {av : Addr → Prop} {H : Hp} : ∀ {n : Nat} {x : List V} {d e : List PyData}, Vds av H n x d e → K00.narAll e = true
  | _, _, _, _, .nil => rfl
  | _, _, _, _, .cons h t => by
    unfold K00.narAll
    rw [h.nar, t.narAll]
    rfl
theorem VdKs.narAll {av : Addr → Prop} {H : Hp} : ∀ {n : Nat} {kvs : List (Key × V)} {ks : List Key} {d : List PyData}, VdKs av H n kvs ks d → K00.narAll d = true
  | _, _, _, _, .nil => rfl
  | _, _, _, _, .cons (k := k) (e := e) a h t => by
    unfold K00.narAll
    rw [t.narAll, Bool.and_true]
    unfold K00.nar
    unfold K00.narAll
    unfold K00.narAll
    unfold K00.narAll
    rw [h.nar, nar_key]
    rfl
theorem VdKs.len2 {av : Addr → Prop} {H : Hp} : ∀ {n : Nat} {kvs : List (Key × V)} {ks : List Key} {d : List PyData}, VdKs av H n kvs ks d → d.length = ks.length
  | _, _, _, _, .nil => rfl
  | _, _, _, _, .cons _ _ t => congrArg (· + 1) t.len2
end
mutual
theorem FxT.vd {av : Addr → Prop} {H : Hp} : ∀ {x : V} {d : PyData}, FxT H x d → K00.nar d = true → ∀ {k : Nat}, d.depth ≤ k → Vd av H k x d d
  | _, _, .non, _, _, _ => .non
  | _, _, .bl b, _, _, _ => .bl b
  | _, _, .int i, _, _, _ => .int i
  | _, _, .str z, _, _, _ => .str z
  | _, _, .tup h t, n, k, l => by
    unfold K00.nar at n
    obtain ⟨n1, n2⟩ := Bool.and_eq_true_iff.mp n
    have hl := t.len
    unfold PyData.depth at l
    obtain ⟨k, rfl⟩ : ∃ j, k = j + 1 := ⟨k - 1, by omega⟩
    exact .tup h (by have := of_decide_eq_true n1; omega) (t.vds n2 (by omega))
theorem FxTs.vds {av : Addr → Prop} {H : Hp} : ∀ {x : List V} {d : List PyData}, FxTs H x d → K00.narAll d = true → ∀ {k : Nat}, PyData.depthAll d ≤ k → Vds av H k x d d
  | _, _, .nil, _, _, _ => .nil
  | _, _, .cons h t, n, k, l => by
    unfold K00.narAll at n
    obtain ⟨n1, n2⟩ := Bool.and_eq_true_iff.mp n
    unfold PyData.depthAll at l
    exact .cons (h.vd n1 (by omega)) (t.vds n2 (by omega))
end
/-! ### == of data keeps the depth -/
mutual
theorem eqv_depth : ∀ a b : PyData, PyData.eqv a b = true → a.depth = b.depth
  | .none, b, h => by cases b <;> first | rfl | (simp [PyData.eqv] at h)
  | .bool _, b, h => by cases b <;> first | rfl | (simp [PyData.eqv] at h)
  | .int _, b, h => by cases b <;> first | rfl | (simp [PyData.eqv] at h)
  | .str _, b, h => by cases b <;> first | rfl | (simp [PyData.eqv] at h)
  | .list xs, b, h => by
    cases b with
    | list ys =>
      unfold PyData.eqv at h
      show PyData.depthAll xs + 1 = PyData.depthAll ys + 1
      rw [eqvAll_depth xs ys h]
    | _ => simp [PyData.eqv] at h
  | .tuple xs, b, h => by
    cases b with
    | tuple ys =>
      unfold PyData.eqv at h
      show PyData.depthAll xs + 1 = PyData.depthAll ys + 1
      rw [eqvAll_depth xs ys h]
    | _ => simp [PyData.eqv] at h
  | .dict _, b, h => by cases b <;> simp [PyData.eqv] at h
theorem eqvAll_depth : ∀ a b : List PyData, PyData.eqvAll a b = true → PyData.depthAll a = PyData.depthAll b
  | [], [], _ => rfl
  | [], _ :: _, h => by simp [PyData.eqvAll] at h
  | _ :: _, [], h => by simp [PyData.eqvAll] at h
  | x :: xs, y :: ys, h => by
    unfold PyData.eqvAll at h
    obtain ⟨h1, h2⟩ := Bool.and_eq_true_iff.mp h
    show max x.depth (PyData.depthAll xs) = max y.depth (PyData.depthAll ys)
    rw [eqv_depth x y h1, eqvAll_depth xs ys h2]
end
theorem eqvAll_len : ∀ a b : List PyData, PyData.eqvAll a b = true → a.length = b.length
  | [], [], _ => rfl
  | [], _ :: _, h => by simp [PyData.eqvAll] at h
  | _ :: _, [], h => by simp [PyData.eqvAll] at h
  | x :: xs, y :: ys, h => by
    unfold PyData.eqvAll at h
    obtain ⟨h1, h2⟩ := Bool.and_eq_true_iff.mp h
    exact congrArg (· + 1) (eqvAll_len xs ys h2)
theorem eqvAll_app : ∀ (a : List PyData) (x y : PyData) (b c : List PyData), PyData.eqvAll (a ++ x :: b) (a ++ y :: c) = true → PyData.eqv x y = true
  | [], x, y, b, c, h => by
    simp only [List.nil_append] at h
    unfold PyData.eqvAll at h
    exact (Bool.and_eq_true_iff.mp h).1
  | z :: a, x, y, b, c, h => by
    simp only [List.cons_append] at h
    unfold PyData.eqvAll at h
    exact eqvAll_app a x y b c (Bool.and_eq_true_iff.mp h).2
/-- parts of another number, or with one of them put into a pair, are others -/
theorem ne_len {es fs : List PyData} (h : es.length ≠ fs.length) : PyData.eqv (.tuple es) (.tuple fs) = false := by
  unfold PyData.eqv
  cases q : PyData.eqvAll es fs with
  | false => rfl
  | true => exact absurd (eqvAll_len _ _ q) h
theorem ne_odd {a c : List PyData} {e : PyData} : PyData.eqv (.tuple (a ++ e :: c)) (.tuple (a ++ .tuple [.str "odd", e] :: c)) = false := by
  unfold PyData.eqv
  cases q : PyData.eqvAll (a ++ e :: c) (a ++ .tuple [.str "odd", e] :: c) with
  | false => rfl
  | true =>
    have h1 := eqv_depth _ _ (eqvAll_app _ _ _ _ _ q)
    have h2 : PyData.depth (.tuple [.str "odd", e]) = e.depth + 1 := by
      simp [PyData.depth, PyData.depthAll]
    omega
end K00
set_option Elab.async false
set_option linter.all false
set_option maxRecDepth 100000
set_option maxHeartbeats 2000000
namespace K00
open PySem PySem.Spec PyProof.Rows L2 My MyRd
theorem ext_fr {p m : Nat} {H G G' : Hp} {fp : List Addr} (e : Ext p H G) (P : PenAt H p m) (F : Fr G G' fp) (fr : ∀ b ∈ fp, H b = none) : Ext p H G' := ⟨fun b u h n => F b u (fun q => by
    rw [fr b q] at h
    cases h) (e.keep b u h n), fun c x y h => by
  obtain ⟨x', y', h'⟩ := e.pen c x y h
  exact ⟨x', y', F p _ (fun q => by
    rw [fr p q] at h
    cases h) h'⟩⟩
theorem pen_fr {p m n : Nat} {H G G' : Hp} {fp : List Addr} (P0 : PenAt H p m) (e : Ext p H G) (P : PenAt G p n) (F : Fr G G' fp) (fr : ∀ b ∈ fp, H b = none) : PenAt G' p n := by
  obtain ⟨c0, ns0, a0, g0, k1, k2, k3, _⟩ := P0.ex
  obtain ⟨c, ns, at_, g, h1, h2, h3, h4, h5, h6⟩ := P.ex
  obtain ⟨x1, y1, q1⟩ := e.pen _ _ _ k1
  rw [h1] at q1
  cases q1
  exact ⟨c0, ns, at_, g, F _ _ (fun q => by
    rw [fr p q] at k1
    cases k1) h1, h2, F _ _ (fun q => by
    rw [fr c0 q] at k3
    cases k3) h3, h4, h5, h6⟩
section
variable {P : Program} {w : World} {K : PySem.W.Frag} {mg : Str → Option Value} {base : Heap} {fV fX fS : Addr} {fdV fdX fdS : FuncData} {gK : List Value → List Value → List Value}
abbrev sFr : Stmt := top 45
def spFr : Sp := fun vs H Q _ => ∃ (p c : Nat), vs = [.ref p] ∧ PenAt H p c ∧ c + cN 3 ≤ 90000 ∧ ∀ H', Ext p H H' → PenAt H' p (c + cN 3) → Q (.bl true) H'
abbrev frN : List Str := ["_law_pen_here", "_law_value_here", "_law_due", "_law_before", "_law_made"]
theorem scFr : FnScope frN ["_law_pen_here"] (defScope sFr) := ⟨rfl, rfl, rfl, by decide +kernel, rfl, by decide +kernel, by decide +kernel⟩
theorem ok_fright {f : Addr} {fd : FuncData} (F : Fun K "_law_fixed_right" "_law_fixed_right" sFr f fd) (B : Blt mg) (VA : FnT P w K mg base CX0 7 "_law_value" fV fdV ["_law_pen_here", "_law_deep"] (spVal 3))
    (FX : FnT P w K mg base CX0 5 "fixed" fX fdX ["value"] (spFixed 3)) (FX6 : FnT P w K mg base CX0 8 "fixed" fX fdX ["value"] (spFixed 6)) (fxK : KBn K fdX ["value"] 0 ["value"] gK (fun vs zs => vs ++ zs))
    (SP : FnT P w K mg base CX0 4 "_law_spoil" fS fdS ["_law_value_here"] (spSp 3)) : MyM.FnM P w K mg base CX0 9 f fd ["_law_pen_here"] spFr := by
  refine fun_okM F (k := 8) scFr (fun vs H Q E h => ?_) (fun cdv A outer s H vs Q E hgd hmo hr h => ?_)
  · obtain ⟨p, c, rfl, _⟩ := h
    rfl
  · obtain ⟨p, c, rfl, PN, hc, q⟩ := h
    refine ⟨_, (pss_cons (ps_asg (pe_call VA.ok (hr.mono (by decide)) (by rfl) VA.g VA.kp VA.bn .nil pass0 (pa_cons (pv 0) (pa_cons pe_int pa_nil))) (pg_tup (by rfl) (pgs_cons (pg_name (i := 1) scFr.nd rfl (Or.inl rfl)) (pgs_cons (pg_name (i := 2) scFr.nd rfl (Or.inl rfl)) pgs_nil))))
      (pss_cons (ps_set (i := 3) scFr.nd rfl (Or.inl rfl) (pe_callB (call_reprD hgd (hu70 hr) hmo rfl) (by rfl) B.repr (by decide +kernel) (pa_cons (pv 1) pa_nil)))
       (pss_cons (ps_if (PW.pt (pw_or (pt_cmpR op_ne (pe_callB (call_reprD hgd (hu70 hr) hmo rfl) (by rfl) B.repr (by decide +kernel) (pa_cons (pe_call FX.ok (hr.mono (by decide)) (by rfl) FX.g FX.kp FX.bn .nil pass0 (pa_cons (pv 1) pa_nil)) pa_nil)) (pe_callB (call_reprD hgd (hu70 hr) hmo rfl) (by rfl) B.repr (by decide +kernel) (pa_cons (pv 2) pa_nil)) (nomark _)) (pw_or (pt_cmpR op_ne (pe_callB (call_reprD hgd (hu70 hr) hmo rfl) (by rfl) B.repr (by decide +kernel) (pa_cons (MyL.pe_callK0 FX.ok (hr.mono (by decide)) (by rfl) FX.g FX.kp fxK pass0 (pk_cons (pv 1) pk_nil)) pa_nil)) (pe_callB (call_reprD hgd (hu70 hr) hmo rfl) (by rfl) B.repr (by decide +kernel) (pa_cons (pv 2) pa_nil)) (nomark _)) (pw_or1 (pt_cmpR op_ne (pe_callB (call_reprD hgd (hu70 hr) hmo rfl) (by rfl) B.repr (by decide +kernel) (pa_cons (pv 1) pa_nil)) (pv 3) (nomark _)))))) (pss_one (ps_ret pe_bl)) pss_nil)
        (pss_cons (ps_set (i := 4) scFr.nd rfl (Or.inl rfl) (pe_call FX.ok (hr.mono (by decide)) (by rfl) FX.g FX.kp FX.bn .nil pass0 (pa_cons (pv 1) pa_nil)))
         (pss_cons (ps_expr (pe_call SP.ok (hr.mono (by decide)) (by rfl) SP.g SP.kp SP.bn .nil pass0 (pa_cons (pv 1) pa_nil)))
          (pss_one (ps_ret (pe_and (pe_cmpR op_eq (pe_callB (call_reprD hgd (hu70 hr) hmo rfl) (by rfl) B.repr (by decide +kernel) (pa_cons (pv 4) pa_nil)) (pe_callB (call_reprD hgd (hu70 hr) hmo rfl) (by rfl) B.repr (by decide +kernel) (pa_cons (pv 2) pa_nil)) (nomark _)) (pe_one (pe_cmpR op_eq (pe_callB (call_reprD hgd (hu70 hr) hmo rfl) (by rfl) B.repr (by decide +kernel) (pa_cons (pe_call FX6.ok (hr.mono (by decide)) (by rfl) FX6.g FX6.kp FX6.bn .nil pass0 (pa_cons (pv 2) pa_nil)) pa_nil)) (pe_callB (call_reprD hgd (hu70 hr) hmo rfl) (by rfl) B.repr (by decide +kernel) (pa_cons (pv 2) pa_nil)) (nomark _))))))))))), ?_⟩
    refine ⟨_, rfl, p, c, rfl, PN, hc, fun t v w d e fp H1 e1 P1 ft0 ht vd fx ft nd fr => ⟨t, _, rfl, SqT.of ht, rfl, _, _, rfl, _, _, rfl, rfl, ?_⟩⟩
    have sd := vd.sd.sh
    have dd : d.depth ≤ 60 := Nat.le_trans vd.sd.dp (by decide)
    have ld := vd.sd.len (show bN 3 ≤ 10000 by decide)
    have se := vd.se.sh
    have de : e.depth ≤ 60 := Nat.le_trans vd.se.dp (by decide)
    have le := vd.se.len (show bN 3 ≤ 10000 by decide)
    refine ⟨_, rfl, v, d, rfl, vd.vd.db, sd, dd, ld, ?_⟩
    refine ⟨_, rfl, _, v, d, e, rfl, vd.vd, fun y H2 s2 fy => ?_⟩
    have vd2 := vd.vd.same s2
    have fx2 := fx.kt (KT.of s2)
    refine ⟨y, e, rfl, fy.db, se, de, le, _, rfl, w, e, rfl, fx2.db, se, de, le, rfl, _, rfl, ?_⟩
    rw [decide_eq_true (rfl : V.str e.shown = V.str e.shown)]
    refine iteF ?_
    refine ⟨_, rfl, rfl, _, v, d, e, rfl, vd2, fun y3 H3 s3 fy3 => ?_⟩
    have vd3 := vd2.same s3
    have fx3 := fx2.kt (KT.of s3)
    refine ⟨y3, e, rfl, fy3.db, se, de, le, _, rfl, w, e, rfl, fx3.db, se, de, le, rfl, _, rfl, ?_⟩
    rw [decide_eq_true (rfl : V.str e.shown = V.str e.shown)]
    refine iteF ?_
    refine ⟨_, rfl, v, d, rfl, vd3.db, sd, dd, ld, _, rfl, rfl, _, rfl, ?_⟩
    rw [decide_eq_true (rfl : V.str d.shown = V.str d.shown)]
    refine iteF ?_
    refine ⟨_, rfl, _, v, d, e, rfl, vd3, fun y4 H4 s4 fy4 => ?_⟩
    have s14 := Same.trans (Same.trans s2 s3) s4
    refine ⟨_, rfl, v, fp, rfl, ft.same s14, nd, fun H5 F5 => ?_⟩
    have e4 := e1.trans (.of s14)
    have P4 := P1.same s14
    have e5 := ext_fr e4 PN F5 fr
    have P5 := pen_fr PN e4 P4 F5 fr
    have kt5 : KT H4 H5 := fun t xs h => F5 t _ (fun q => by
      obtain ⟨o, h1, h2⟩ := (ft.same s14).ltd t q
      rw [h] at h1
      exact h2 xs (Option.some.inj h1).symm) h
    have fy5 := fy4.kt kt5
    have fx5 := (fx3.kt (KT.of s4)).kt kt5
    have vw5 : Vd (fun _ => False) H5 6 w e e := fx5.vd vd.vd.nar vd.se.dp
    refine ⟨_, rfl, y4, e, rfl, fy5.db, se, de, le, _, rfl, w, e, rfl, fx5.db, se, de, le, rfl, ?_⟩
    rw [decide_eq_true (rfl : V.str e.shown = V.str e.shown)]
    refine ⟨_, rfl, iteT ?_⟩
    refine ⟨_, rfl, _, w, e, e, rfl, vw5, fun y6 H6 s6 fy6 => ?_⟩
    have fx6 := fx5.kt (KT.of s6)
    refine ⟨y6, e, rfl, fy6.db, se, de, le, _, rfl, w, e, rfl, fx6.db, se, de, le, rfl, ?_⟩
    rw [decide_eq_true (rfl : V.str e.shown = V.str e.shown)]
    exact q _ (e5.trans (.of s6)) (P5.same s6)
end
end K00
set_option Elab.async false
set_option linter.all false
set_option maxRecDepth 100000
set_option maxHeartbeats 2000000
namespace K00
open PySem PySem.Spec PyProof.Rows L2 My MyRd
section
variable {P : Program} {w : World} {K : PySem.W.Frag} {mg : Str → Option Value} {base : Heap} {fD fG fV : Addr} {fdD fdG fdV : FuncData}
/-! ### papers_right, its beginning -/
abbrev sPr : Stmt := top 46
abbrev prN : List Str := ["_law_pen_here", "_law_is_no", "_law_word", "_law_k", "_law_pairs", "_law_value_here", "_law_due", "_law_values", "_law_dues", "_law_paper_here", "_law_told", "_law_like", "_law_odd", "_law_at", "_law_other"]
theorem scPr : FnScope prN ["_law_pen_here"] (defScope sPr) := ⟨rfl, rfl, rfl, by decide +kernel, rfl, by decide +kernel, by decide +kernel⟩
def wds : List Str := ["most", "cuts", "noway", "a", "refusedrow"]
theorem pr_rows {f : Addr} {cdv : Value} {A : Around} {outer : List Env} {s : Shared} {H : Hp} {E : XK} {tr : L2.TS} (B : Blt mg)
    (D : FnT P w K mg base CX0 1 "_law_draw" fD fdD ["_law_pen_here", "_law_many"] spDraw) (G : FnT P w K mg base CX0 2 "_law_pick" fG fdG ["_law_pen_here", "_law_some"] spPick) (VA : FnT P w K mg base CX0 6 "_law_value" fV fdV ["_law_pen_here", "_law_deep"] (spVal 2))
    (hr : Room 13 (A.deeper (envOfC "_law_papers_right" (defScope sPr) s.heap.objs.size f cdv))) (hx : PSs (cxOf CX0 P w K mg base prN "_law_papers_right" (defScope sPr) f cdv A outer s H E).nox ((defBody sPr).drop 3) tr) :
    ∃ t, PSs (cxOf CX0 P w K mg base prN "_law_papers_right" (defScope sPr) f cdv A outer s H E).nox (defBody sPr) t ∧ ∀ (D : Ends) (p c : Nat) (H0 : Hp), PenAt H0 p c → c + 10 + cN 2 * 3 ≤ 90000 →
      (∀ (no : Bool) (wd : Str) (m c' lp lv lw : Nat) (vw : List (V × V)) (ds es : List PyData) (fp : List Addr) (H' : Hp), wd ∈ wds → m < 4 → c' ≤ c + 5 + cN 2 * 3 → lw ∉ fp → lw ≠ lv → Rw H0 H' p c' 2 m lp lv lw vw ds es fp →
        tr D [some (.ref p), some (.bl no), some (.str wd), none, some (.ref lp), none, none, some (.ref lv), some (.ref lw), none, none, none, none, none, none] H') →
      t D [some (.ref p), none, none, none, none, none, none, none, none, none, none, none, none, none, none] H0 := by
  refine ⟨_, pss_cons (ps_par (i := 1) (j := 2) (by rfl) scPr.nd rfl rfl (by decide) rfl rfl (pa_cons (pe_cmpR op_eq (pe_call D.ok (hr.mono (by decide)) (by rfl) D.g D.kp D.bn .nil pass0 (pa_cons (pv 0) (pa_cons pe_int pa_nil))) pe_int (nomark _)) (pa_cons (pe_call G.ok (hr.mono (by decide)) (by rfl) G.g G.kp G.bn .nil pass0 (pa_cons (pv 0) (pa_cons (pe_lst (pa_cons pe_str (pa_cons pe_str (pa_cons pe_str (pa_cons pe_str (pa_cons pe_str pa_nil)))))) pa_nil))) pa_nil)) (by rfl))
    (pss_cons (ps_setLc (i := 4) (own := [("_law_k", 3)]) (g := gName 3) rfl scPr.nd rfl rfl (sw_true rfl rfl rfl (by decide +kernel)) (pi_range1 (by rfl) B.range (pa_cons (pe_call D.ok (hr.mono (by decide)) (by rfl) D.g D.kp D.bn .nil pass0 (pa_cons (pv 0) (pa_cons pe_int pa_nil))) pa_nil)) (blkOk_by (own := [("_law_k", 3)]) (N := prN) (sc := defScope sPr) (by decide +kernel)) (fun _ _ _ _ _ => (pg_name (i := 3) scPr.nd rfl (Or.inl rfl))) (fun _ _ _ _ _ => pts_nil) (fun _ _ _ _ _ => (pe_call VA.ok (hr.mono (by decide)) (by rfl) VA.g VA.kp VA.bn .nil pass0 (pa_cons (pv 0) (pa_cons pe_int pa_nil)))))
    (pss_cons (ps_par (i := 7) (j := 8) (by rfl) scPr.nd rfl rfl (by decide) rfl rfl (pa_cons (pe_lc (own := [("_law_value_here", 5), ("_law_due", 6)]) (g := gTup K 2 (gCons (gName 5) (gCons (gName 6) gNil))) rfl scPr.nd (pi_list (pv 4)) (blkOk_by (own := [("_law_value_here", 5), ("_law_due", 6)]) (N := prN) (sc := defScope sPr) (by decide +kernel)) (fun _ _ _ _ _ => (pg_tup (by rfl) (pgs_cons (pg_name (i := 5) scPr.nd rfl (Or.inl rfl)) (pgs_cons (pg_name (i := 6) scPr.nd rfl (Or.inl rfl)) pgs_nil)))) (fun _ _ _ _ _ => pts_nil) (fun _ _ _ _ _ => (pv 5))) (pa_cons (pe_lc (own := [("_law_value_here", 5), ("_law_due", 6)]) (g := gTup K 2 (gCons (gName 5) (gCons (gName 6) gNil))) rfl scPr.nd (pi_list (pv 4)) (blkOk_by (own := [("_law_value_here", 5), ("_law_due", 6)]) (N := prN) (sc := defScope sPr) (by decide +kernel)) (fun _ _ _ _ _ => (pg_tup (by rfl) (pgs_cons (pg_name (i := 5) scPr.nd rfl (Or.inl rfl)) (pgs_cons (pg_name (i := 6) scPr.nd rfl (Or.inl rfl)) pgs_nil)))) (fun _ _ _ _ _ => pts_nil) (fun _ _ _ _ _ => (pv 6))) pa_nil)) (by rfl)) hx)), fun D p c H0 PN0 hc k => ?_⟩
  have fit : ∀ {k : Nat}, k ≤ 20 → k < sizeLine := fun h => Nat.lt_of_le_of_lt h (by rw [sizeLine_eq]; decide)
  refine ⟨_, rfl, p, 2, c, rfl, by decide, by decide, PN0, by omega, fun d0 Ha d00 d01 ea Pa => ⟨rfl, _, rfl, (show 5 ≤ sizeLine by decide), fun lb flb => ?_⟩⟩
  have sb := same_upd (o := .lst (wds.map V.str)) flb
  refine ⟨p, lb, wds.map V.str, c + 1, rfl, Pa.ne flb, upd_same, by decide, by decide, Pa.same sb, by omega, fun iw xw Hb hw eb Pb => ?_⟩
  rw [List.getElem?_map] at hw
  obtain ⟨wd, hwd, rfl⟩ := Option.map_eq_some_iff.mp hw
  have hwd := List.mem_of_getElem? hwd
  refine ⟨_, _, rfl, ?_⟩
  have e0 := (ea.trans (.of sb)).trans eb
  generalize (decide (V.int d0 = V.int 0)) = no
  clear d00 d01 hw eb sb flb ea Pa
  refine ⟨_, rfl, p, 4, c + 2, rfl, by decide, by decide, Pb, by omega, fun m0 H1 d0 d1 e1 P1 => ?_⟩
  obtain ⟨m, hm⟩ : ∃ m : Nat, m0 = (m : Int) := ⟨m0.toNat, by omega⟩
  subst hm
  have e01 := e0.trans e1
  have low1 := Ext.occ e01 P1
  refine ⟨m, rfl, by omega, by omega, fun L fL => ?_⟩
  have Lp := P1.ne fL
  have lowL : ∀ b, H1 b ≠ none → upd H1 L (.lst []) b ≠ none := fun b hb => by
    rw [upd_ne (fun q => hb (by rw [q]; exact fL))]
    exact hb
  have avL : upd H1 L (.lst []) L ≠ none := by
    rw [upd_same]
    exact fun z => nomatch z
  have avp : upd H1 L (.lst []) p ≠ none := lowL p (by
    obtain ⟨ys, e⟩ := P1.there
    rw [e]
    exact fun z => nomatch z)
  obtain ⟨HB, hB⟩ : ∃ HB, upd H1 L (.lst []) = HB := ⟨_, rfl⟩
  rw [hB] at lowL avL avp
  have eB : Ext p H1 HB := by rw [← hB]; exact Ext.new fL
  have PB : PenAt HB p (c + 3) := by rw [← hB]; exact P1.same (same_upd fL)
  have hLB : HB L = some (.lst []) := by rw [← hB]; exact upd_same
  refine lc_gen (g := gName 3) (walk_range (lo := 0) (n := m)) (fun i H' => Ext p H1 H' ∧ PenAt H' p (c + 3 + cN 2 * i) ∧ (∀ b, HB b ≠ none → H' b ≠ none) ∧ ∃ ts vw ds es fp, H' L = some (.lst (ts.map V.ref)) ∧ ts.length = i ∧ Prs HB H' 2 ts vw ds es fp) (by rw [hB]; exact ⟨eB, PB, fun b h => h, [], [], [], [], [], hLB, rfl, .nil⟩) (fun _ _ _ _ => trivial) (fun i x H2 H3 hi pv y => ?_) (fun H2 pv => ?_)
  · obtain ⟨rfl, rfl⟩ := y
    obtain ⟨e2, P2, low2, ts, vw, ds, es, fp, hL, lt, pr⟩ := pv
    have hi3 : i < m := hi
    have ci1 : cN 2 * (i + 1) = cN 2 * i + cN 2 := Nat.mul_succ _ _
    have ci2 : cN 2 * i + cN 2 ≤ cN 2 * 3 := by
      rw [← ci1]
      exact Nat.mul_le_mul_left _ (by omega)
    refine ⟨rfl, _, rfl, p, c + 3 + cN 2 * i, rfl, P2, by omega, fun t v w d e f H4 e4 P4 ft0 ht vd fx ft nd fr => ?_⟩
    have k4 : Kv (fun b => HB b ≠ none) _ H4 := Kv.ext e4 P2 avp
    have hL4 := e4.keep _ _ hL Lp
    have pr4 := pr.snoc k4 low2 ht vd fx ft nd fr
    refine ⟨ts.map V.ref, hL4, by rw [List.length_map]; exact fit (by omega), ext_updF (e2.trans e4) fL Lp, pen_updF P1 (e2.trans e4) fL (P4.mono (by omega)), fun b hb => ?_, ts ++ [t], _, _, _, _, ?_, ?_, pr4.kv (Kv.updL hL4 avL)⟩
    · have h4 := Ext.occ e4 P4 b (low2 b hb)
      by_cases q : b = L
      · subst q
        rw [upd_same]
        exact fun z => nomatch z
      · rw [upd_ne q]
        exact h4
    · rw [List.map_append]
      exact upd_same
    · rw [List.length_append, lt]
      rfl
  obtain ⟨e2, P2, low2, ts, vw, ds, es, fp, hL, lt, pr⟩ := pv
  have m3 : m ≤ 3 := by omega
  have cm : cN 2 * m ≤ cN 2 * 3 := Nat.mul_le_mul_left _ m3
  have nLf : L ∉ fp := fun h => avL (pr.fr L h)
  have pr := pr.wk fun b h => lowL b (low1 b h)
  have e02 := e01.trans e2
  clear e2 low2 hLB eB PB avL avp lowL hB low1 e1 P1 e0
  have ltw : ts.length = vw.length := Paired.length pr.tp
  -- the values
  refine ⟨_, rfl, L, rfl, ⟨_, SqL.of hL⟩, fun lv fv => ?_⟩
  refine lc_gen (g := gTup K 2 (gCons (gName 5) (gCons (gName 6) gNil))) (walk_list (K := K) (a := L) (xs := ts.map V.ref)) (fun i H' => Same H2 H' ∧ H' lv = some (.lst ((vw.take i).map (·.1)))) ⟨same_upd fv, upd_same⟩ (fun i H' _ q => SqL.of (q.1 _ _ hL)) (fun i x H3 H4 hi q y => ?_) (fun H3 q => ?_)
  · obtain ⟨rfl, hx⟩ := y
    obtain ⟨s3, h3⟩ := q
    rw [List.getElem?_map] at hx
    obtain ⟨t, ht, rfl⟩ := Option.map_eq_some_iff.mp hx
    obtain ⟨vv, hv, hp⟩ := paired_at pr.tp ht
    have hi2 : i < ts.length := (List.getElem?_eq_some_iff.mp ht).1
    refine ⟨t, _, rfl, SqT.of (s3 _ _ hp), rfl, _, _, rfl, _, _, rfl, rfl, rfl, _, rfl, _, h3, by rw [List.length_map, List.length_take]; exact fit (by omega), same_updF s3 fv, ?_⟩
    rw [upd_same, List.take_succ, hv, List.map_append]
    rfl
  obtain ⟨s3, hv3⟩ := q
  rw [List.length_map, ltw, List.take_length] at hv3
  have lvf : lv ∉ fp := fun h => by
    obtain ⟨o, e, _⟩ := pr.ft.ltd lv h
    rw [fv] at e
    cases e
  have fv0 : H0 lv = none := e02.freeP P2 fv
  have lvp : lv ≠ p := P2.ne fv
  have hL3 := s3 _ _ hL
  refine ⟨_, rfl, L, rfl, ⟨_, SqL.of hL3⟩, fun lw fw => ?_⟩
  have P3 := P2.same s3
  have e03 := e02.trans (.of s3)
  have pr3 := pr.kv (Kv.of s3)
  have fw0 : H0 lw = none := e03.freeP P3 fw
  have lwf : lw ∉ fp := fun h => by
    obtain ⟨o, e, _⟩ := pr3.ft.ltd lw h
    rw [fw] at e
    cases e
  have lwv : lw ≠ lv := fun q => by
    rw [q, hv3] at fw
    cases fw
  refine lc_gen (g := gTup K 2 (gCons (gName 5) (gCons (gName 6) gNil))) (walk_list (K := K) (a := L) (xs := ts.map V.ref)) (fun i H' => Same H3 H' ∧ H' lw = some (.lst ((vw.take i).map (·.2)))) ⟨same_upd fw, upd_same⟩ (fun i H' _ q => SqL.of (q.1 _ _ hL3)) (fun i x H4 H5 hi q y => ?_) (fun H4 q => ?_)
  · obtain ⟨rfl, hx⟩ := y
    obtain ⟨s4, h4⟩ := q
    rw [List.getElem?_map] at hx
    obtain ⟨t, ht, rfl⟩ := Option.map_eq_some_iff.mp hx
    obtain ⟨vv, hv, hp⟩ := paired_at pr3.tp ht
    have hi2 : i < ts.length := (List.getElem?_eq_some_iff.mp ht).1
    refine ⟨t, _, rfl, SqT.of (s4 _ _ hp), rfl, _, _, rfl, _, _, rfl, rfl, rfl, _, rfl, _, h4, by rw [List.length_map, List.length_take]; exact fit (by omega), same_updF s4 fw, ?_⟩
    rw [upd_same, List.take_succ, hv, List.map_append]
    rfl
  obtain ⟨s4, hw4⟩ := q
  rw [List.length_map, ltw, List.take_length] at hw4
  have hv4 := s4 _ _ hv3
  have pr4 := pr3.kv (Kv.of s4)
  have P4 := P3.same s4
  have e04 := e03.trans (.of s4)
  have lvw : vw.length = m := by rw [← ltw]; exact lt
  refine ⟨_, _, rfl, ?_⟩
  exact k no wd m (c + 3 + cN 2 * m) L lv lw vw ds es fp H4 hwd (by omega) (by omega) lwf lwv ⟨e04, P4, lvw, hv4, hw4, fv0, fw0, lvf, pr4.vd, pr4.fx, pr4.ft, pr4.nd, pr4.fr, pr4.sd, pr4.se⟩
end
end K00
set_option Elab.async false
set_option linter.all false
set_option maxRecDepth 100000
set_option maxHeartbeats 2000000
namespace K00
open PySem PySem.Spec PyProof.Rows L2 My MyX MyE MyD MyO MyQ MyU MyV MyRd
theorem fnR_of {P : Program} {w : World} {K : PySem.W.Frag} {mg : Str → Option Value} {base : Heap} {CX : CXT} {k : Nat} {f : Addr} {fd : FuncData} {ps : List Str} {sp : Sp} (F : FnOk P w K mg base CX k f fd ps sp) (hb : Binds K fd ps []) : FnR P w K mg base CX k f sp :=
  (F.raw hb .nil).imp fun vs H Q E h => by rw [List.append_nil]; exact h
section
variable {P : Program} {w : World} {K : PySem.W.Frag} {mg : Str → Option Value} {base : Heap} {PA DE fPe fDe fPb fDb : Addr}
/-! ### ==, != and bool of papers, as the law asks them -/
structure EqT (P : Program) (w : World) (K : PySem.W.Frag) (mg : Str → Option Value) (base : Heap) (PA DE fPe fDe fPb fDb : Addr) : Prop where
  e : PapE K mg PA DE
  gD : mg "Denial" = some (.ref DE)
  kPD : PySem.W.kitOne K (.ref PA) (.ref DE) = some false
  kDD : PySem.W.kitOne K (.ref DE) (.ref DE) = some true
  ne : PA ≠ DE
  sub : PySem.W.subIn K (.ref DE) (.ref PA) = some true
  nDP : PySem.W.notFirst K DE (.ref PA) = true
  p0 : PySem.W.notFirst K PA (.type "NoneType") = true
  p1 : PySem.W.notFirst K PA (.type "bool") = true
  p2 : PySem.W.notFirst K PA (.type "int") = true
  p3 : PySem.W.notFirst K PA (.type "str") = true
  p4 : PySem.W.notFirst K PA (.type "list") = true
  p5 : PySem.W.notFirst K PA (.type "tuple") = true
  p6 : PySem.W.notFirst K PA (.type "dict") = true
  d0 : PySem.W.notFirst K DE (.type "NoneType") = true
  d1 : PySem.W.notFirst K DE (.type "bool") = true
  d2 : PySem.W.notFirst K DE (.type "int") = true
  d3 : PySem.W.notFirst K DE (.type "str") = true
  d4 : PySem.W.notFirst K DE (.type "list") = true
  d5 : PySem.W.notFirst K DE (.type "tuple") = true
  d6 : PySem.W.notFirst K DE (.type "dict") = true
  eP : PySem.W.findIn K (.ref PA) "__eq__" = some (some (.ref fPe))
  eD : PySem.W.findIn K (.ref DE) "__eq__" = some (some (.ref fDe))
  oP : PySem.W.findIn K (.ref PA) "__ne__" = some (some (.builtin "object.__ne__"))
  oD : PySem.W.findIn K (.ref DE) "__ne__" = some (some (.builtin "object.__ne__"))
  bP : PySem.W.findIn K (.ref PA) "__bool__" = some (some (.ref fPb))
  bD : PySem.W.findIn K (.ref DE) "__bool__" = some (some (.ref fDb))
  iPe : PySem.W.isFn K (.ref fPe) = true
  iDe : PySem.W.isFn K (.ref fDe) = true
  iPb : PySem.W.isFn K (.ref fPb) = true
  iDb : PySem.W.isFn K (.ref fDb) = true
  rPe : FnR P w K mg base CX0 1 fPe (spEqP PA DE)
  rDe : FnR P w K mg base CX0 1 fDe (spEqP PA DE)
  rPb : FnR P w K mg base CX0 1 fPb (spBoP true)
  rDb : FnR P w K mg base CX0 1 fDb (spBoP false)
theorem EqT.nfP (T : EqT P w K mg base PA DE fPe fDe fPb fDb) {H : Hp} {y : V} {t : String} (h : Kd H y t) : PySem.W.notFirst K PA (.type t) = true := by
  cases h
  · exact T.p0
  · exact T.p1
  · exact T.p2
  · exact T.p3
  · exact T.p4
  · exact T.p5
  · exact T.p6
theorem EqT.nfD (T : EqT P w K mg base PA DE fPe fDe fPb fDb) {H : Hp} {y : V} {t : String} (h : Kd H y t) : PySem.W.notFirst K DE (.type t) = true := by
  cases h
  · exact T.d0
  · exact T.d1
  · exact T.d2
  · exact T.d3
  · exact T.d4
  · exact T.d5
  · exact T.d6
theorem nf_self (C : Addr) : PySem.W.notFirst K C (.ref C) = true := by
  unfold PySem.W.notFirst
  rw [beq_self_eq_true, Bool.true_or]
def rPaEq (PA DE : Addr) : R2 := fun x y H Q => ∃ (a C : Addr) (wd : Str) (es : List PyData), x = .ref a ∧ (C = PA ∨ C = DE) ∧ PaAt C H a wd es ∧
  ((∃ b C' wd' es' r, y = .ref b ∧ (C' = PA ∨ C' = DE) ∧ PaAt C' H b wd' es' ∧ SeqAt.shaped (.tuple es) = true ∧ SeqAt.shaped (.tuple es') = true ∧ (decide (wd = wd') && PyData.eqv (.tuple es) (.tuple es')) = r ∧ (decide (wd' = wd) && PyData.eqv (.tuple es') (.tuple es)) = r ∧ Q (.bl r) H) ∨ (∃ t, Kd H y t ∧ Q (.bl false) H))
def rPaNe (PA DE : Addr) : R2 := fun x y H Q => ∃ (a C : Addr) (wd : Str) (es : List PyData), x = .ref a ∧ (C = PA ∨ C = DE) ∧ PaAt C H a wd es ∧
  ((∃ b wd' es', y = .ref b ∧ PaAt C H b wd' es' ∧ SeqAt.shaped (.tuple es) = true ∧ SeqAt.shaped (.tuple es') = true ∧ Q (.bl (!(decide (wd = wd') && PyData.eqv (.tuple es) (.tuple es')))) H) ∨ (∃ t, Kd H y t ∧ Q (.bl true) H))
end
section
variable {X : Cx} {PA DE fPe fDe fPb fDb : Addr}
theorem op_paEq (T : EqT X.prog X.w X.K X.mg X.base PA DE fPe fDe fPb fDb) (hr : Room 1 X.A) : OpR X (compareOp .Eq) (rPaEq PA DE) := by
  intro pins s σ H x y v u Q I rx ry h
  obtain ⟨a, C, wd, es, rfl, hC, pa, q⟩ := h
  have pa' := pa
  obtain ⟨dx, t, ys, h1, _, _⟩ := pa
  have one : ∀ {g : Addr} {tb : Value}, PySem.W.findIn X.K (.ref C) "__eq__" = some (some (.ref g)) → PySem.W.isFn X.K (.ref g) = true → FnR X.prog X.w X.K X.mg X.base CX0 1 g (spEqP PA DE) → TyX X.K H y tb → PySem.W.notFirst X.K C tb = true → spEqP PA DE [.ref a, y] H Q E0 → rCmpI X.K C (spEqP PA DE) E0 (.ref a) y H Q :=
    fun _ _ _ ty nf sp => ⟨a, dx, _, _, rfl, h1, ty, nf, sp⟩
  rcases q with ⟨b, C', wd', es', r, rfl, hC', pb, sd, se, e1, e2, q⟩ | ⟨ty, hk, q⟩
  · have pb' := pb
    obtain ⟨dy, t', zs, g1, _, _⟩ := pb
    have sp1 : spEqP PA DE [.ref a, .ref b] H Q E0 := ⟨a, C, .ref b, wd, es, rfl, hC, pa', .inl ⟨b, C', wd', es', rfl, hC', pb', sd, se, by rw [e1]; exact q⟩⟩
    rcases hC with rfl | rfl
    · rcases hC' with rfl | rfl
      · exact op_cmpI (op := .Eq) (fun _ _ => rfl) T.eP T.iPe T.rPe hr pass0 pins s σ H _ _ v u Q I rx ry ⟨a, dx, _, _, rfl, h1, T.e.xP.tyX g1, nf_self _, sp1⟩
      · exact MyPa.op_eqR T.ne T.sub T.eD T.iDe T.rDe hr pass0 pins s σ H _ _ v u Q I rx ry ⟨a, dx, _, b, dy, _, rfl, rfl, h1, g1, ⟨b, C', .ref a, wd', es', rfl, .inr rfl, pb', .inl ⟨a, _, wd, es, rfl, .inl rfl, pa', se, sd, by rw [e2]; exact q⟩⟩⟩
    · rcases hC' with rfl | rfl
      · exact op_cmpI (op := .Eq) (fun _ _ => rfl) T.eD T.iDe T.rDe hr pass0 pins s σ H _ _ v u Q I rx ry ⟨a, dx, _, _, rfl, h1, T.e.xP.tyX g1, T.nDP, sp1⟩
      · exact op_cmpI (op := .Eq) (fun _ _ => rfl) T.eD T.iDe T.rDe hr pass0 pins s σ H _ _ v u Q I rx ry ⟨a, dx, _, _, rfl, h1, T.e.xD.tyX g1, nf_self _, sp1⟩
  · have sp1 : spEqP PA DE [.ref a, y] H Q E0 := ⟨a, C, y, wd, es, rfl, hC, pa', .inr ⟨ty, hk, q⟩⟩
    rcases hC with rfl | rfl
    · exact op_cmpI (op := .Eq) (fun _ _ => rfl) T.eP T.iPe T.rPe hr pass0 pins s σ H _ _ v u Q I rx ry ⟨a, dx, _, _, rfl, h1, hk.tyX, T.nfP hk, sp1⟩
    · exact op_cmpI (op := .Eq) (fun _ _ => rfl) T.eD T.iDe T.rDe hr pass0 pins s σ H _ _ v u Q I rx ry ⟨a, dx, _, _, rfl, h1, hk.tyX, T.nfD hk, sp1⟩
theorem EqT.neP (T : EqT X.prog X.w X.K X.mg X.base PA DE fPe fDe fPb fDb) : NeC X.K PA fPe := ⟨T.e.xP.cm, T.oP, T.eP, T.iPe⟩
theorem EqT.neD (T : EqT X.prog X.w X.K X.mg X.base PA DE fPe fDe fPb fDb) : NeC X.K DE fDe := ⟨T.e.xD.cm, T.oD, T.eD, T.iDe⟩
theorem op_paNe (T : EqT X.prog X.w X.K X.mg X.base PA DE fPe fDe fPb fDb) (hr : Room 2 X.A) : OpR X (compareOp .NotEq) (rPaNe PA DE) := by
  intro pins s σ H x y v u Q I rx ry h
  obtain ⟨a, C, wd, es, rfl, hC, pa, q⟩ := h
  have pa' := pa
  obtain ⟨dx, t, ys, h1, _, _⟩ := pa
  rcases q with ⟨b, wd', es', rfl, pb, sd, se, q⟩ | ⟨ty, hk, q⟩
  · have pb' := pb
    obtain ⟨dy, t', zs, g1, _, _⟩ := pb
    have sp1 : spEqP PA DE [.ref a, .ref b] H (fun v H' => ∃ r, v = .bl r ∧ Q (.bl (!r)) H') E0 := ⟨a, C, .ref b, wd, es, rfl, hC, pa', .inl ⟨b, C, wd', es', rfl, hC, pb', sd, se, _, rfl, q⟩⟩
    rcases hC with rfl | rfl
    · exact op_neI T.neP T.rPe hr pass0 pins s σ H _ _ v u Q I rx ry ⟨a, dx, _, _, rfl, h1, T.e.xP.tyX g1, nf_self _, sp1⟩
    · exact op_neI T.neD T.rDe hr pass0 pins s σ H _ _ v u Q I rx ry ⟨a, dx, _, _, rfl, h1, T.e.xD.tyX g1, nf_self _, sp1⟩
  · have sp1 : spEqP PA DE [.ref a, y] H (fun v H' => ∃ r, v = .bl r ∧ Q (.bl (!r)) H') E0 := ⟨a, C, y, wd, es, rfl, hC, pa', .inr ⟨ty, hk, _, rfl, q⟩⟩
    rcases hC with rfl | rfl
    · exact op_neI T.neP T.rPe hr pass0 pins s σ H _ _ v u Q I rx ry ⟨a, dx, _, _, rfl, h1, hk.tyX, T.nfP hk, sp1⟩
    · exact op_neI T.neD T.rDe hr pass0 pins s σ H _ _ v u Q I rx ry ⟨a, dx, _, _, rfl, h1, hk.tyX, T.nfD hk, sp1⟩
theorem call_paB (T : EqT X.prog X.w X.K X.mg X.base PA DE fPe fDe fPb fDb) (hr : Room 3 X.A) : CallR X (.type "bool") (fun xs H Q => ∃ (a : Addr) (no : Bool) (wd : Str) (es : List PyData), xs = [.ref a] ∧ PaAt (clsOf PA DE no) H a wd es ∧ Q (.bl (!no)) H) := by
  intro pins s σ H xs us Q I r h
  obtain ⟨a, no, wd, es, rfl, ⟨dx, t, ys, h1, _, _⟩, q⟩ := h
  cases no with
  | false => exact MyBo.call_boolI T.bP T.iPb T.rPb hr pass0 pins s σ H _ us Q I r ⟨a, dx, _, rfl, h1, a, rfl, _, rfl, q⟩
  | true => exact MyBo.call_boolI T.bD T.iDb T.rDb hr pass0 pins s σ H _ us Q I r ⟨a, dx, _, rfl, h1, a, rfl, _, rfl, q⟩
end
theorem clsOf_or (PA DE : Addr) (no : Bool) : clsOf PA DE no = PA ∨ clsOf PA DE no = DE := by
  cases no with
  | false => exact .inl rfl
  | true => exact .inr rfl
end K00
set_option Elab.async false
set_option linter.all false
set_option maxRecDepth 100000
set_option maxHeartbeats 2000000
namespace K00
open PySem PySem.Spec PyProof.Rows L2 My MyX MyE MyD MyO MyQ MyU MyV MyRd
section
variable {P : Program} {w : World} {K : PySem.W.Frag} {mg : Str → Option Value} {base : Heap} {PA DE fPe fDe fPb fDb : Addr}
/-! ### papers_right: what is another one, and the end -/
inductive OddV (PA DE : Addr) (no : Bool) (wd : Str) (es : List PyData) (H : Hp) : V → Prop where
  | non : OddV PA DE no wd es H .non
  | bl (b : Bool) : OddV PA DE no wd es H (.bl b)
  | str (z : Str) : OddV PA DE no wd es H (.str z)
  | tup {a : Addr} {xs : List V} : H a = some (.tup xs) → OddV PA DE no wd es H (.ref a)
  | pa {b : Addr} {wd' : Str} {es' : List PyData} : PaAt (clsOf PA DE no) H b wd' es' → SeqAt.shaped (.tuple es') = true → (decide (wd = wd') && PyData.eqv (.tuple es) (.tuple es')) = false → (decide (wd' = wd) && PyData.eqv (.tuple es') (.tuple es)) = false → OddV PA DE no wd es H (.ref b)
theorem OddV.same {no : Bool} {wd : Str} {es : List PyData} {H H' : Hp} {x : V} (h : OddV PA DE no wd es H x) (s : Same H H') : OddV PA DE no wd es H' x := by
  cases h with
  | non => exact .non
  | bl b => exact .bl b
  | str z => exact .str z
  | tup e => exact .tup (s _ _ e)
  | pa p sd e1 e2 => exact .pa (p.same s) sd e1 e2
theorem OddV.or {no : Bool} {wd : Str} {es : List PyData} {H : Hp} {x : V} (h : OddV PA DE no wd es H x) : (∃ t, Kd H x t) ∨ ∃ (b : Addr) (wd' : Str) (es' : List PyData), x = .ref b ∧ PaAt (clsOf PA DE no) H b wd' es' ∧ SeqAt.shaped (.tuple es') = true ∧ (decide (wd = wd') && PyData.eqv (.tuple es) (.tuple es')) = false ∧ (decide (wd' = wd) && PyData.eqv (.tuple es') (.tuple es)) = false := by
  cases h with
  | non => exact .inl ⟨_, .non⟩
  | bl b => exact .inl ⟨_, .bl b⟩
  | str z => exact .inl ⟨_, .str z⟩
  | tup e => exact .inl ⟨_, .tup e⟩
  | pa p sd e1 e2 => exact .inr ⟨_, _, _, rfl, p, sd, e1, e2⟩
theorem pr_end {f : Addr} {cdv : Value} {A : Around} {outer : List Env} {s : Shared} {H : Hp} {E : XK} (B : Blt mg) (T : EqT P w K mg base PA DE fPe fDe fPb fDb)
    (hgd : (A.deeper (envOfC "_law_papers_right" (defScope sPr) s.heap.objs.size f cdv)).guards = some []) (hmo : NoMod H s) (hr : Room 14 (A.deeper (envOfC "_law_papers_right" (defScope sPr) s.heap.objs.size f cdv))) :
    ∃ t, PSs (cxOf CX0 P w K mg base prN "_law_papers_right" (defScope sPr) f cdv A outer s H E).nox ((defBody sPr).drop 13) t ∧ ∀ (D : Ends) (no : Bool) (wd : Str) (a lo : Addr) (es : List PyData) (os : List V) (v0 v3 v4 v5 v6 v7 v8 v11 v13 v14 : Option V) (H : Hp),
      PaAt (clsOf PA DE no) H a wd es → H lo = some (.lst os) → (∀ x ∈ os, OddV PA DE no wd es H x) → SeqAt.shaped (.tuple es) = true → (PyData.tuple es).showable = true → (PyData.tuple es).depth ≤ 60 → (PyData.tuple es).shown.length ≤ sizeLine → (∀ H', Same H H' → D.rt (.bl true) H') →
      t D [v0, some (.bl no), some (.str wd), v3, v4, v5, v6, v7, v8, some (.ref a), some (.str (PyData.tuple es).shown), v11, some (.ref lo), v13, v14] H := by
  refine ⟨_, pss_cons (ps_if (pt_cmpR (op_neD hr.units) (pe_lc (own := [("_law_other", 14)]) (g := gName 14) rfl scPr.nd (pi_list (pv 12)) (blkOk_by (own := [("_law_other", 14)]) (N := prN) (sc := defScope sPr) (by decide +kernel)) (fun _ _ _ _ _ => (pg_name (i := 14) scPr.nd rfl (Or.inl rfl))) (fun _ _ _ _ _ => pts_one (PW.pt (pw_or (pt_cmpR (op_paEq T (hr.mono (by decide))) (pv 9) (pv 14) (nomark _)) (pw_or1 (pt_not (pt_cmpR (op_paNe T (hr.mono (by decide))) (pv 9) (pv 14) (nomark _))))))) (fun _ _ _ _ _ => (pv 14))) (pe_lst pa_nil) (nomark _)) (pss_one (ps_ret pe_bl)) pss_nil)
    (pss_one (ps_ret (pe_and (pe_cmpR op_eq (pe_callB (call_reprD hgd (hu70 hr) hmo rfl) (by rfl) B.repr (by decide +kernel) (pa_cons (pe_fld (pv 9) rfl) pa_nil)) (pv 10) (nomark _)) (pe_and (pe_cmpR op_eq (pe_fld (pv 9) rfl) (pv 2) (nomark _)) (pe_one (pe_cmpR op_ne (pe_callTy (call_paB T (hr.mono (by decide))) (by rfl) B.bool (by decide +kernel) (pa_cons (pv 9) pa_nil)) (pv 1) (nomark _))))))), fun D no wd a lo es os v0 v3 v4 v5 v6 v7 v8 v11 v13 v14 H0 pa hlo ho sh0 sh dp ln q => ?_⟩
  refine ⟨_, rfl, lo, rfl, ⟨_, SqL.of hlo⟩, fun d fd => ?_⟩
  refine lc_it (g := gName 14) (walk_list (K := K) (a := lo) (xs := os)) (fun i H' => Same H0 H' ∧ H' d = some (.lst [])) ⟨same_upd fd, upd_same⟩ (fun i H' _ p => SqL.of (p.1 _ _ hlo)) (fun i x H2 H3 hi p y => ?_) (fun H2 p => ?_)
  · obtain ⟨rfl, hx⟩ := y
    have o := (ho x (List.mem_of_getElem? hx)).same p.1
    have pa2 := pa.same p.1
    have hC := clsOf_or PA DE no
    rcases o.or with ⟨_, k⟩ | ⟨b, wd', es', rfl, pb, sd, e1, e2⟩
    · exact ⟨rfl, _, rfl, _, rfl, a, _, wd, es, rfl, hC, pa2, .inr ⟨_, k, _, rfl, iteF ⟨_, rfl, _, rfl, a, _, wd, es, rfl, hC, pa2, .inr ⟨_, k, _, rfl, iteF p⟩⟩⟩⟩
    · exact ⟨rfl, _, rfl, _, rfl, a, _, wd, es, rfl, hC, pa2, .inl ⟨b, _, wd', es', false, rfl, hC, pb, sh0, sd, e1, e2, _, rfl, iteF ⟨_, rfl, _, rfl, a, _, wd, es, rfl, hC, pa2, .inl ⟨b, wd', es', rfl, pb, sh0, sd, _, rfl, by rw [e1]; exact iteF p⟩⟩⟩⟩
  · obtain ⟨s2, hd⟩ := p
    refine ⟨(show 0 ≤ sizeLine by decide), fun e fe => ?_⟩
    refine ⟨.list [], .list [], .lst (SqL.of (same_upd fe _ _ hd)) .nil, .lst (SqL.of upd_same) .nil, rfl, rfl, _, rfl, iteF ?_⟩
    have s3 := Same.trans s2 (same_upd (o := .lst []) fe)
    generalize upd H2 e (.lst []) = H3 at s3
    clear s2 hd fe
    have pa3 := pa.same s3
    have pa3' := pa3
    obtain ⟨dx, t, ys, h1, h2, h3⟩ := pa3
    have hx := T.e.x (clsOf_or PA DE no)
    refine ⟨_, rfl, a, _, dx, _, .ref t, rfl, h1, hx.pt.cl, hx.pt.nP, paF_p _ _, _, _, rfl, .tup h2 h3.db, sh, dp, ln, ?_⟩
    refine ⟨_, rfl, rfl, ?_⟩
    rw [decide_eq_true (rfl : V.str (PyData.tuple es).shown = V.str (PyData.tuple es).shown)]
    refine ⟨_, rfl, iteT ?_⟩
    refine ⟨_, rfl, a, _, dx, _, .str wd, rfl, h1, hx.pt.cl, hx.pt.nW, paF_w _ _, _, rfl, rfl, ?_⟩
    rw [decide_eq_true (rfl : V.str wd = V.str wd)]
    refine ⟨_, rfl, iteT ?_⟩
    refine ⟨_, rfl, a, no, wd, es, rfl, pa3', _, rfl, rfl, ?_⟩
    cases no with
    | false => exact q _ s3
    | true => exact q _ s3
end
end K00
set_option Elab.async false
set_option linter.all false
set_option maxRecDepth 100000
set_option maxHeartbeats 2000000
namespace K00
open PySem PySem.Spec PyProof.Rows L2 My MyRd
/-! ### papers_right: heaps and sizes -/
/-- all but lists stays -/
def KX (H H' : Hp) : Prop := ∀ a o, (∀ xs, o ≠ .lst xs) → H a = some o → H' a = some o
theorem KX.kt {H H' : Hp} (k : KX H H') : KT H H' := fun t xs e => k t _ (fun _ z => nomatch z) e
theorem KX.of {H H' : Hp} (s : Same H H') : KX H H' := fun a o _ e => s a o e
theorem KX.ext {p c : Nat} {H H' : Hp} (e : Ext p H H') (P : PenAt H p c) : KX H H' := fun a o n h => e.keep a o h fun q => by
  subst q
  obtain ⟨ys, e2⟩ := P.there
  rw [h] at e2
  exact n ys (Option.some.inj e2)
theorem KX.updL {H : Hp} {d : Addr} {xs : List V} {o : HO} (h : H d = some (.lst xs)) : KX H (upd H d o) := fun a u n e => by
  rw [upd_ne (fun q => n xs (by rw [q, h] at e; exact (Option.some.inj e).symm))]
  exact e
theorem KX.fr {H H' : Hp} {g : List Addr} (F : Fr H H' g) (ng : ∀ b ∈ g, ∃ o, H b = some o ∧ ((∃ xs, o = .lst xs) ∨ ∃ kvs, o = .dK kvs)) : (∀ a o, (∀ xs, o ≠ .lst xs) → (∀ xs, o ≠ .dK xs) → H a = some o → H' a = some o) := fun a o n1 n2 e => F a o (fun q => by
  obtain ⟨u, e1, e2⟩ := ng a q
  rw [e] at e1
  cases e1
  rcases e2 with ⟨xs, rfl⟩ | ⟨xs, rfl⟩
  · exact n1 xs rfl
  · exact n2 xs rfl) e
theorem PaAt.kx {C : Addr} {H H' : Hp} {a : Addr} {wd : Str} {es : List PyData} (h : PaAt C H a wd es) (s : KX H H') : PaAt C H' a wd es := by
  obtain ⟨dx, t, ys, h1, h2, h3⟩ := h
  exact ⟨dx, t, ys, s _ _ (fun _ z => nomatch z) h1, s _ _ (fun _ z => nomatch z) h2, h3.kt s.kt⟩
/-- what dues are, as data -/
structure Du (es : List PyData) (k : Nat) : Prop where
  sz : ∀ e ∈ es, Sz e (bN 3) k ∧ e.canLay0 = true
  nr : narAll es = true
  ln : es.length ≤ 3
theorem narAll_of {es : List PyData} (h : ∀ e ∈ es, nar e = true) : narAll es = true := by
  induction es with
  | nil => rfl
  | cons e es ih =>
    unfold narAll
    rw [h e (List.mem_cons_self ..), ih fun x hx => h x (List.mem_cons_of_mem _ hx)]
    rfl
theorem nar_mem : ∀ {es : List PyData}, narAll es = true → ∀ e ∈ es, nar e = true
  | [], _, _, h => by cases h
  | x :: xs, h, e, m => by
    unfold narAll at h
    obtain ⟨h1, h2⟩ := Bool.and_eq_true_iff.mp h
    rcases List.mem_cons.mp m with rfl | m
    · exact h1
    · exact nar_mem h2 e m
theorem Du.mono {es : List PyData} {k k' : Nat} (h : Du es k) (l : k ≤ k') : Du es k' := ⟨fun e he => ⟨(h.sz e he).1.mono (Nat.le_refl _) l, (h.sz e he).2⟩, h.nr, h.ln⟩
theorem Du.shaped {es : List PyData} {k : Nat} (h : Du es k) (l : k ≤ 60) : SeqAt.shaped (.tuple es) = true := by
  have h1 := layAll fun e he => (h.sz e he).2
  have h2 := depthAll fun e he => (h.sz e he).1.dp
  unfold SeqAt.shaped
  rw [show (PyData.tuple es).canLay0 = PyData.canLayAll0 es from rfl, h1, show (PyData.tuple es).depth = PyData.depthAll es + 1 from rfl, decide_eq_true (by omega)]
  rfl
theorem Du.show {es : List PyData} {k : Nat} (h : Du es k) : (PyData.tuple es).showable = true := showAll fun e he => (h.sz e he).1.sh
theorem Du.dp {es : List PyData} {k : Nat} (h : Du es k) : (PyData.tuple es).depth ≤ k + 1 := Nat.succ_le_succ (depthAll fun e he => (h.sz e he).1.dp)
theorem Du.len {es : List PyData} {k : Nat} (h : Du es k) : (PyData.tuple es).shown.length ≤ sizeLine := by
  have h1 := Sz.list (fun e he => (h.sz e he).1) h.ln
  exact h1.2.len (by decide)
theorem Du.vds {av : Addr → Prop} {H : Hp} {xs : List V} {es : List PyData} {k n : Nat} (h : Du es k) (f : FxTs H xs es) (l : k ≤ n) : Vds av H n xs es es := f.vds h.nr (Nat.le_trans (depthAll fun e he => (h.sz e he).1.dp) l)
theorem Du.sub {es fs : List PyData} {k : Nat} (h : Du es k) (s : ∀ e ∈ fs, e ∈ es) (l : fs.length ≤ 3) : Du fs k := ⟨fun e he => h.sz e (s e he), narAll_of fun e he => nar_mem h.nr e (s e he), l⟩
theorem Du.none {es : List PyData} {k : Nat} (h : Du es k) (l : es.length < 3) : Du (es ++ [.none]) k := ⟨fun e he => by
  rcases List.mem_append.mp he with he | he
  · exact h.sz e he
  · obtain rfl := List.mem_singleton.mp he
    exact ⟨⟨rfl, rfl, by decide +kernel, Nat.zero_le _⟩, rfl⟩, narAll_of fun e he => by
  rcases List.mem_append.mp he with he | he
  · exact nar_mem h.nr e he
  · obtain rfl := List.mem_singleton.mp he
    rfl, by rw [List.length_append]; exact l⟩
theorem app_cons {es : List PyData} {i : Nat} {e : PyData} (h : es[i]? = some e) : es = es.take i ++ e :: es.drop (i + 1) := by
  obtain ⟨hi, rfl⟩ := List.getElem?_eq_some_iff.mp h
  rw [← List.drop_eq_getElem_cons hi, List.take_append_drop]
theorem Du.odd {es : List PyData} {i : Nat} {e : PyData} (h : Du es 4) (s2 : ∀ e ∈ es, Sz e (bN 2) 4) (hi : es[i]? = some e) : Du (es.take i ++ .tuple [.str "odd", e] :: es.drop (i + 1)) 5 := by
  have he := List.mem_of_getElem? hi
  have o1 : Sz (.str "odd") (bN 2) 4 := ⟨by decide +kernel, by decide +kernel, by decide +kernel, by decide +kernel⟩
  have sz : Sz (.tuple [.str "odd", e]) (bN 3) 5 := (Sz.list (ds := [.str "odd", e]) (b := bN 2) (k := 4) (fun d hd => by
    rcases List.mem_cons.mp hd with rfl | hd
    · exact o1
    · obtain rfl := List.mem_singleton.mp hd
      exact s2 _ he) (show 2 ≤ 3 by decide)).2
  have cl : (PyData.tuple [.str "odd", e]).canLay0 = true := by
    show PyData.canLayAll0 [.str "odd", e] = true
    exact layAll fun d hd => by
      rcases List.mem_cons.mp hd with rfl | hd
      · decide +kernel
      · obtain rfl := List.mem_singleton.mp hd
        exact (h.sz _ he).2
  have nr : nar (.tuple [.str "odd", e]) = true := by
    unfold nar narAll narAll narAll
    rw [nar_mem h.nr e he]
    rfl
  have mem : ∀ d ∈ es.take i ++ .tuple [.str "odd", e] :: es.drop (i + 1), d = .tuple [.str "odd", e] ∨ d ∈ es := fun d hd => by
    rcases List.mem_append.mp hd with hd | hd
    · exact .inr (List.mem_of_mem_take hd)
    · rcases List.mem_cons.mp hd with rfl | hd
      · exact .inl rfl
      · exact .inr (List.mem_of_mem_drop hd)
  refine ⟨fun d hd => ?_, narAll_of fun d hd => ?_, ?_⟩
  · rcases mem d hd with rfl | hd
    · exact ⟨sz, cl⟩
    · exact ⟨(h.sz d hd).1.mono (Nat.le_refl _) (by decide), (h.sz d hd).2⟩
  · rcases mem d hd with rfl | hd
    · exact nr
    · exact nar_mem h.nr d hd
  · have e1 := congrArg List.length (app_cons hi)
    have l3 := h.ln
    simp only [List.length_append, List.length_cons] at e1 ⊢
    omega
theorem ne_odd' {a c : List PyData} {e : PyData} : PyData.eqv (.tuple (a ++ .tuple [.str "odd", e] :: c)) (.tuple (a ++ e :: c)) = false := by
  unfold PyData.eqv
  cases q : PyData.eqvAll (a ++ .tuple [.str "odd", e] :: c) (a ++ e :: c) with
  | false => rfl
  | true =>
    have h1 := eqv_depth _ _ (eqvAll_app _ _ _ _ _ q)
    have h2 : PyData.depth (.tuple [.str "odd", e]) = e.depth + 1 := by
      simp [PyData.depth, PyData.depthAll]
    omega
theorem cut_dropG (xs : List V) (k : Nat) : cutV xs (some (k : Int)) none = xs.drop k := by
  unfold cutV
  by_cases h : k ≤ xs.length
  · rw [HT.sIx_nat, HT.sIx_none, Nat.min_eq_left h]
    exact List.take_of_length_le (by rw [List.length_drop]; omega)
  · rw [HT.sIx_nat, HT.sIx_none, Nat.min_eq_right (by omega), List.drop_length, List.drop_eq_nil_of_le (by omega)]
    simp
theorem cut_takeG (xs : List V) (k : Nat) : cutV xs none (some (k : Int)) = xs.take k := by
  unfold cutV
  rw [HT.sIx_nat, HT.sIx_none, List.drop_zero, Nat.sub_zero]
  by_cases h : k ≤ xs.length
  · rw [Nat.min_eq_left h]
  · rw [Nat.min_eq_right (by omega), List.take_of_length_le (Nat.le_refl _), List.take_of_length_le (by omega)]
theorem FxTs.take {H : Hp} : ∀ {xs : List V} {ds : List PyData}, FxTs H xs ds → ∀ k, FxTs H (xs.take k) (ds.take k)
  | _, _, .nil, k => by
    rw [List.take_nil, List.take_nil]
    exact .nil
  | _, _, .cons a t, 0 => .nil
  | _, _, .cons a t, k + 1 => .cons a (t.take k)
theorem FxTs.drop {H : Hp} : ∀ {xs : List V} {ds : List PyData}, FxTs H xs ds → ∀ k, FxTs H (xs.drop k) (ds.drop k)
  | _, _, .nil, k => by
    rw [List.drop_nil, List.drop_nil]
    exact .nil
  | _, _, .cons a t, 0 => .cons a t
  | _, _, .cons a t, k + 1 => t.drop k
theorem FxTs.cat {H : Hp} : ∀ {xs ys : List V} {ds es : List PyData}, FxTs H xs ds → FxTs H ys es → FxTs H (xs ++ ys) (ds ++ es)
  | _, _, _, _, .nil, h => h
  | _, _, _, _, .cons a t, h => .cons a (t.cat h)
theorem wds_s : ∀ wd ∈ wds, wd.length ≤ 100 ∧ wd ≠ wd ++ "s" := by decide +kernel
end K00
set_option Elab.async false
set_option linter.all false
set_option maxRecDepth 100000
set_option maxHeartbeats 2000000
namespace K00
open PySem PySem.Spec PyProof.Rows L2 My MyX MyE MyD MyO MyQ MyU MyV MyRd
section
variable {P : Program} {w : World} {K : PySem.W.Frag} {mg : Str → Option Value} {base : Heap} {PA DE fD fP : Addr} {fdD fdP : FuncData}
/-! ### papers_right: the other ones are gathered -/
/-- while they are gathered: Hb stands ahead of the list -/
structure Po (PA DE : Addr) (Hb H : Hp) (p c lo a lw : Nat) (no : Bool) (wd : Str) (ys : List V) (es : List PyData) (os : List V) : Prop where
  fr : Hb lo = none
  c0 : ∃ c0, PenAt Hb p c0
  wp : lw ≠ p
  wo : lw ≠ lo
  ex : Ext p Hb H
  pen : PenAt H p c
  lo : H lo = some (.lst os)
  odd : ∀ x ∈ os, OddV PA DE no wd es H x
  pa : PaAt (clsOf PA DE no) H a wd es
  hw : H lw = some (.lst ys)
  fx : FxTs H ys es
theorem OddV.kx {no : Bool} {wd : Str} {es : List PyData} {H H' : Hp} {x : V} (h : OddV PA DE no wd es H x) (s : KX H H') : OddV PA DE no wd es H' x := by
  cases h with
  | non => exact .non
  | bl b => exact .bl b
  | str z => exact .str z
  | tup e => exact .tup (s _ _ (fun _ z => nomatch z) e)
  | pa p sd e1 e2 => exact .pa (p.kx s) sd e1 e2
theorem Po.lop {Hb H : Hp} {p c lo a lw : Nat} {no : Bool} {wd : Str} {ys : List V} {es : List PyData} {os : List V} (h : Po PA DE Hb H p c lo a lw no wd ys es os) : lo ≠ p := by
  obtain ⟨c0, P0⟩ := h.c0
  exact P0.ne h.fr
theorem Po.same {Hb H H' : Hp} {p c lo a lw : Nat} {no : Bool} {wd : Str} {ys : List V} {es : List PyData} {os : List V} (h : Po PA DE Hb H p c lo a lw no wd ys es os) (s : Same H H') : Po PA DE Hb H' p c lo a lw no wd ys es os :=
  ⟨h.fr, h.c0, h.wp, h.wo, h.ex.trans (.of s), h.pen.same s, s _ _ h.lo, fun x hx => (h.odd x hx).same s, h.pa.same s, s _ _ h.hw, h.fx.kt (.of s)⟩
theorem Po.draw {Hb H H' : Hp} {p c c' lo a lw : Nat} {no : Bool} {wd : Str} {ys : List V} {es : List PyData} {os : List V} (h : Po PA DE Hb H p c lo a lw no wd ys es os) (e : Ext p H H') (P : PenAt H' p c') : Po PA DE Hb H' p c' lo a lw no wd ys es os :=
  have k := KX.ext e h.pen
  ⟨h.fr, h.c0, h.wp, h.wo, h.ex.trans e, P, e.keep _ _ h.lo h.lop, fun x hx => (h.odd x hx).kx k, h.pa.kx k, e.keep _ _ h.hw h.wp, h.fx.kt k.kt⟩
theorem Po.app {Hb H : Hp} {p c lo a lw : Nat} {no : Bool} {wd : Str} {ys : List V} {es : List PyData} {os : List V} {x : V} (h : Po PA DE Hb H p c lo a lw no wd ys es os) (o : OddV PA DE no wd es H x) : Po PA DE Hb (upd H lo (.lst (os ++ [x]))) p c lo a lw no wd ys es (os ++ [x]) := by
  have k : KX H (upd H lo (.lst (os ++ [x]))) := KX.updL h.lo
  obtain ⟨c0, P0⟩ := h.c0
  refine ⟨h.fr, h.c0, h.wp, h.wo, ext_updF h.ex h.fr h.lop, pen_updF P0 h.ex h.fr h.pen, upd_same, fun y hy => ?_, h.pa.kx k, by rw [upd_ne h.wo]; exact h.hw, h.fx.kt k.kt⟩
  rcases List.mem_append.mp hy with hy | hy
  · exact (h.odd y hy).kx k
  · obtain rfl := List.mem_singleton.mp hy
    exact o.kx k
/-- one more paper, of these parts -/
theorem po_one {no : Bool} {wd : Str} {es fs : List PyData} {b : Addr} {H' : Hp} (du : Du fs 5)
    (e1 : PyData.eqv (.tuple es) (.tuple fs) = false) (e2 : PyData.eqv (.tuple fs) (.tuple es) = false) (pb : PaAt (clsOf PA DE no) H' b wd fs) : OddV PA DE no wd es H' (.ref b) :=
  .pa pb (du.shaped (by decide)) (by rw [e1, Bool.and_false]) (by rw [e2, Bool.and_false])
abbrev prS (p : Addr) (no : Bool) (wd : Str) (v3 v4 v5 v6 v7 : Option V) (lw a : Addr) (v10 v11 : Option V) (lo : Addr) (v13 : Option V) : L2.St := [some (.ref p), some (.bl no), some (.str wd), v3, v4, v5, v6, v7, some (.ref lw), some (.ref a), v10, v11, some (.ref lo), v13, none]
theorem fit20 {k : Nat} (h : k ≤ 20) : k < sizeLine := Nat.lt_of_le_of_lt h (by rw [sizeLine_eq]; decide)
theorem pr_12 {f : Addr} {cdv : Value} {A : Around} {outer : List Env} {s : Shared} {H : Hp} {E : XK} {tr : L2.TS} (B : Blt mg)
    (D : FnT P w K mg base CX0 1 "_law_draw" fD fdD ["_law_pen_here", "_law_many"] spDraw) (PP : FnT P w K mg base CX0 13 "_law_paper" fP fdP ppN (spPap PA DE 5))
    (hr : Room 14 (A.deeper (envOfC "_law_papers_right" (defScope sPr) s.heap.objs.size f cdv))) (hx : PSs (cxOf CX0 P w K mg base prN "_law_papers_right" (defScope sPr) f cdv A outer s H E).nox ((defBody sPr).drop 13) tr) :
    ∃ t, PSs (cxOf CX0 P w K mg base prN "_law_papers_right" (defScope sPr) f cdv A outer s H E).nox ((defBody sPr).drop 12) t ∧ ∀ (D : Ends) (Hb H : Hp) (no : Bool) (wd : Str) (p c lo a lw : Nat) (ys : List V) (es : List PyData) (os : List V) (v3 v4 v5 v6 v7 v10 v11 : Option V),
      Po PA DE Hb H p c lo a lw no wd ys es os → os.length ≤ 7 → Du es 4 → (∀ e ∈ es, Sz e (bN 2) 4) → c ≤ 95000 →
      (∀ H' os' c' v13, Po PA DE Hb H' p c' lo a lw no wd ys es os' → c' ≤ c + 1 → tr D (prS p no wd v3 v4 v5 v6 v7 lw a v10 v11 lo v13) H') →
      t D (prS p no wd v3 v4 v5 v6 v7 lw a v10 v11 lo none) H := by
  refine ⟨_, pss_cons (ps_if (pt_cmpR op_gt (pe_callB call_len_seq (by rfl) B.len PySem.boot_len (pa_cons (pv 8) pa_nil)) pe_int (nomark _)) (pss_cons (ps_set (i := 13) scPr.nd rfl (Or.inl rfl) (pe_call D.ok (hr.mono (by decide)) (by rfl) D.g D.kp D.bn .nil pass0 (pa_cons (pv 0) (pa_cons (pe_callB call_len_seq (by rfl) B.len PySem.boot_len (pa_cons (pv 8) pa_nil)) pa_nil))))
      (pss_cons (ps_expr (pe_bm PySem.F.plainAttrs_list PySem.F.slot_list_append PySem.F.type_list_append mt_append (pv 12) (pa_cons (pe_call PP.ok (hr.mono (by decide)) (by rfl) PP.g PP.kp PP.bn .nil pass0 (pa_cons (pv 1) (pa_cons (pv 2) (pa_cons (pe_op op_cat (pe_slice sl_list (pv 8) po_none (po_some (pv 13))) (pe_slice sl_list (pv 8) (po_some (pe_op op_add (pv 13) pe_int)) po_none)) pa_nil)))) pa_nil)))
       (pss_one (ps_expr (pe_bm PySem.F.plainAttrs_list PySem.F.slot_list_append PySem.F.type_list_append mt_append (pv 12) (pa_cons (pe_call PP.ok (hr.mono (by decide)) (by rfl) PP.g PP.kp PP.bn .nil pass0 (pa_cons (pv 1) (pa_cons (pv 2) (pa_cons (pe_op op_cat (pe_op op_cat (pe_slice sl_list (pv 8) po_none (po_some (pv 13))) (pe_lst (pa_cons (pe_tup (pa_cons pe_str (pa_cons (pe_ix ix_list (pv 8) (pv 13) (fun _ _ => rfl)) pa_nil))) pa_nil))) (pe_slice sl_list (pv 8) (po_some (pe_op op_add (pv 13) pe_int)) po_none)) pa_nil)))) pa_nil)))))) pss_nil) hx, fun D Hb H1 no wd p c lo a lw ys es os v3 v4 v5 v6 v7 v10 v11 po ol du sz hc k => ?_⟩
  have ly : ys.length = es.length := po.fx.len
  have l3 := du.ln
  refine ⟨_, rfl, lw, ys, rfl, .inl (SqL.of po.hw), _, _, rfl, rfl, _, rfl, ifd (fun h0 => ?_) fun h0 => k _ _ _ _ po (by omega)⟩
  refine ⟨_, rfl, _, rfl, lw, ys, rfl, .inl (SqL.of po.hw), p, (ys.length : Int), c, rfl, h0, by omega, po.pen, by omega, fun d H2 d0 d1 e2 P2 => ?_⟩
  obtain ⟨i, rfl⟩ : ∃ i : Nat, d = (i : Int) := ⟨d.toNat, by omega⟩
  have hi : i < ys.length := by omega
  have po2 := po.draw e2 P2
  clear e2 P2
  refine ⟨_, rfl, .inl ⟨rfl, _, SqL.of po2.lo⟩, _, rfl, _, rfl, ?_⟩
  obtain ⟨e, he⟩ : ∃ e, es[i]? = some e := ⟨es[i]'(by omega), by simp⟩
  have i1 : (i : Int) + 1 = ((i + 1 : Nat) : Int) := by omega
  -- one part left out
  refine ⟨_, rfl, _, rfl, (i : Int), rfl, lw, ys, rfl, SqL.of po2.hw, fun l2 fl2 => ?_⟩
  rw [cut_takeG]
  have s1 := same_upd (o := .lst (ys.take i)) fl2
  refine ⟨_, rfl, _, rfl, _, _, rfl, rfl, _, rfl, lw, ys, rfl, SqL.of (s1 _ _ po2.hw), fun l3' fl3 => ?_⟩
  rw [i1, cut_dropG]
  have s2 := Same.trans s1 (same_upd (o := .lst (ys.drop (i + 1))) fl3)
  have h2 : upd (upd H2 l2 (.lst (ys.take i))) l3' (.lst (ys.drop (i + 1))) l2 = some (.lst (ys.take i)) := same_upd fl3 _ _ upd_same
  have h3 : upd (upd H2 l2 (.lst (ys.take i))) l3' (.lst (ys.drop (i + 1))) l3' = some (.lst (ys.drop (i + 1))) := upd_same
  generalize upd (upd H2 l2 (.lst (ys.take i))) l3' (.lst (ys.drop (i + 1))) = H3 at s2 h2 h3
  refine ⟨l2, l3', ys.take i, ys.drop (i + 1), rfl, rfl, h2, h3, Nat.le_of_lt (fit20 (by rw [List.length_take, List.length_drop]; omega)), fun l4 fl4 => ?_⟩
  have s3 := Same.trans s2 (same_upd (o := .lst (ys.take i ++ ys.drop (i + 1))) fl4)
  have fx3 := po2.fx.kt (.of s3)
  have dd : Du (es.take i ++ es.drop (i + 1)) 5 := (du.mono (by decide)).sub (fun x hx => (List.mem_append.mp hx).elim List.mem_of_mem_take List.mem_of_mem_drop) (by rw [List.length_append, List.length_take, List.length_drop]; omega)
  have ne : es.length ≠ (es.take i ++ es.drop (i + 1)).length := by
    rw [List.length_append, List.length_take, List.length_drop]
    omega
  refine ⟨no, wd, l4, _, fun _ => False, _, _, rfl, upd_same, dd.vds ((fx3.take i).cat (fx3.drop (i + 1))) (Nat.le_refl _), by rw [List.length_append, List.length_take, List.length_drop]; omega, fun b H4 s4 _ pb => ?_⟩
  have po4 := po2.same (Same.trans s3 s4)
  refine ⟨lo, os, .ref b, rfl, rfl, po4.lo, fit20 (by omega), ?_⟩
  have po5 := po4.app (po_one dd (ne_len ne) (ne_len ne.symm) pb)
  generalize upd H4 lo (.lst (os ++ [V.ref b])) = H5 at po5
  have ol5 : (os ++ [V.ref b]).length ≤ 8 := by simp; omega
  generalize os ++ [V.ref b] = os5 at po5 ol5
  clear po4 fx3 s3 s2 s1 h2 h3 fl2 fl3 fl4 s4 pb dd ne po2
  -- one part in a pair
  refine ⟨_, rfl, .inl ⟨rfl, _, SqL.of po5.lo⟩, _, rfl, _, rfl, ?_⟩
  refine ⟨_, rfl, _, rfl, (i : Int), rfl, lw, ys, rfl, SqL.of po5.hw, fun l2 fl2 => ?_⟩
  rw [cut_takeG]
  have s1 := same_upd (o := .lst (ys.take i)) fl2
  have hy : ys[i]? = some ys[i] := by simp [hi]
  refine ⟨_, rfl, _, rfl, lw, ys, _, ys[i], rfl, rfl, SqL.of (s1 _ _ po5.hw), atI_nat hy, (show 2 ≤ sizeLine by decide), fun t ft => ?_⟩
  have s2 := Same.trans s1 (same_upd (o := .tup [.str "odd", ys[i]]) ft)
  have h2 : upd (upd H5 l2 (.lst (ys.take i))) t (.tup [.str "odd", ys[i]]) l2 = some (.lst (ys.take i)) := same_upd ft _ _ upd_same
  have ht : upd (upd H5 l2 (.lst (ys.take i))) t (.tup [.str "odd", ys[i]]) t = some (.tup [.str "odd", ys[i]]) := upd_same
  generalize upd (upd H5 l2 (.lst (ys.take i))) t (.tup [.str "odd", ys[i]]) = H6 at s2 h2 ht
  refine ⟨(show 1 ≤ sizeLine by decide), fun l5 fl5 => ?_⟩
  have s3 := same_upd (o := .lst [.ref t]) fl5
  refine ⟨l2, l5, ys.take i, [.ref t], rfl, rfl, s3 _ _ h2, upd_same, Nat.le_of_lt (fit20 (by rw [List.length_take, List.length_singleton]; omega)), fun l6 fl6 => ?_⟩
  have s4 := Same.trans s3 (same_upd (o := .lst (ys.take i ++ [.ref t])) fl6)
  have s5 := Same.trans s2 s4
  have h6 : upd (upd H6 l5 (.lst [.ref t])) l6 (.lst (ys.take i ++ [.ref t])) l6 = some (.lst (ys.take i ++ [.ref t])) := upd_same
  generalize upd (upd H6 l5 (.lst [.ref t])) l6 (.lst (ys.take i ++ [.ref t])) = H7 at s4 s5 h6
  refine ⟨_, rfl, _, rfl, _, _, rfl, rfl, _, rfl, lw, ys, rfl, SqL.of (s5 _ _ po5.hw), fun l7 fl7 => ?_⟩
  rw [i1, cut_dropG]
  have s6 := same_upd (o := .lst (ys.drop (i + 1))) fl7
  refine ⟨l6, l7, ys.take i ++ [.ref t], ys.drop (i + 1), rfl, rfl, s6 _ _ h6, upd_same, Nat.le_of_lt (fit20 (by rw [List.length_append, List.length_take, List.length_drop, List.length_singleton]; omega)), fun l8 fl8 => ?_⟩
  have s7 := Same.trans s6 (same_upd (o := .lst (ys.take i ++ [.ref t] ++ ys.drop (i + 1))) fl8)
  have h8 : upd (upd H7 l7 (.lst (ys.drop (i + 1)))) l8 (.lst (ys.take i ++ [.ref t] ++ ys.drop (i + 1))) l8 = some (.lst (ys.take i ++ [.ref t] ++ ys.drop (i + 1))) := upd_same
  generalize upd (upd H7 l7 (.lst (ys.drop (i + 1)))) l8 (.lst (ys.take i ++ [.ref t] ++ ys.drop (i + 1))) = H8 at s7 h8
  have s8 := Same.trans s5 s7
  have ht8 := s7 _ _ (s4 _ _ ht)
  have fx8 := po5.fx.kt (.of s8)
  have dd := du.odd sz he
  have fy : FxT H8 ys[i] e := by
    obtain ⟨d', hd', f⟩ := fx8.get hy
    rw [he] at hd'
    cases hd'
    exact f
  have e1 : PyData.eqv (.tuple es) (.tuple (es.take i ++ .tuple [.str "odd", e] :: es.drop (i + 1))) = false := by
    have q := ne_odd (a := es.take i) (c := es.drop (i + 1)) (e := e)
    rw [← app_cons he] at q
    exact q
  have e2 : PyData.eqv (.tuple (es.take i ++ .tuple [.str "odd", e] :: es.drop (i + 1))) (.tuple es) = false := by
    have q := ne_odd' (a := es.take i) (c := es.drop (i + 1)) (e := e)
    rw [← app_cons he] at q
    exact q
  have fz : FxTs H8 (ys.take i ++ [.ref t] ++ ys.drop (i + 1)) (es.take i ++ .tuple [.str "odd", e] :: es.drop (i + 1)) := by
    rw [List.append_assoc]
    exact (fx8.take i).cat (.cons (.tup ht8 (.cons (.str _) (.cons fy .nil))) (fx8.drop (i + 1)))
  refine ⟨no, wd, l8, _, fun _ => False, _, _, rfl, h8, dd.vds fz (Nat.le_refl _), by rw [fz.len]; exact dd.ln, fun b H9 s9 _ pb => ?_⟩
  have po9 := po5.same (Same.trans s8 s9)
  exact ⟨lo, os5, .ref b, rfl, rfl, po9.lo, fit20 (by omega), k _ _ _ _ (po9.app (po_one dd e1 e2 pb)) (Nat.le_refl _)⟩
theorem pr_11 {f : Addr} {cdv : Value} {A : Around} {outer : List Env} {s : Shared} {H : Hp} {E : XK} {tr : L2.TS} (B : Blt mg)
    (PP : FnT P w K mg base CX0 13 "_law_paper" fP fdP ppN (spPap PA DE 5))
    (hr : Room 14 (A.deeper (envOfC "_law_papers_right" (defScope sPr) s.heap.objs.size f cdv))) (hx : PSs (cxOf CX0 P w K mg base prN "_law_papers_right" (defScope sPr) f cdv A outer s H E).nox ((defBody sPr).drop 12) tr) :
    ∃ t, PSs (cxOf CX0 P w K mg base prN "_law_papers_right" (defScope sPr) f cdv A outer s H E).nox ((defBody sPr).drop 11) t ∧ ∀ (D : Ends) (Hb H : Hp) (no : Bool) (wd : Str) (p c lo a lw : Nat) (ys : List V) (es : List PyData) (os : List V) (v3 v4 v5 v6 v7 v10 v11 : Option V),
      Po PA DE Hb H p c lo a lw no wd ys es os → os.length ≤ 6 → Du es 4 →
      (∀ H' os', Po PA DE Hb H' p c lo a lw no wd ys es os' → os'.length ≤ 7 → tr D (prS p no wd v3 v4 v5 v6 v7 lw a v10 v11 lo none) H') →
      t D (prS p no wd v3 v4 v5 v6 v7 lw a v10 v11 lo none) H := by
  refine ⟨_, pss_cons (ps_if (pt_cmpR op_lt (pe_callB call_len_seq (by rfl) B.len PySem.boot_len (pa_cons (pv 8) pa_nil)) pe_int (nomark _)) (pss_one (ps_expr (pe_bm PySem.F.plainAttrs_list PySem.F.slot_list_append PySem.F.type_list_append mt_append (pv 12) (pa_cons (pe_call PP.ok (hr.mono (by decide)) (by rfl) PP.g PP.kp PP.bn .nil pass0 (pa_cons (pv 1) (pa_cons (pv 2) (pa_cons (pe_op op_cat (pv 8) (pe_lst (pa_cons pe_non pa_nil))) pa_nil)))) pa_nil)))) pss_nil) hx, fun D Hb H1 no wd p c lo a lw ys es os v3 v4 v5 v6 v7 v10 v11 po ol du k => ?_⟩
  have ly : ys.length = es.length := po.fx.len
  have l3 := du.ln
  refine ⟨_, rfl, lw, ys, rfl, .inl (SqL.of po.hw), _, _, rfl, rfl, _, rfl, ifd (fun h0 => ?_) fun h0 => k _ _ po (by omega)⟩
  refine ⟨_, rfl, .inl ⟨rfl, _, SqL.of po.lo⟩, _, rfl, _, rfl, _, rfl, (show 1 ≤ sizeLine by decide), fun l2 fl2 => ?_⟩
  have s1 := same_upd (o := .lst [.non]) fl2
  refine ⟨lw, l2, ys, [.non], rfl, rfl, s1 _ _ po.hw, upd_same, Nat.le_of_lt (fit20 (by simp; omega)), fun l3' fl3 => ?_⟩
  have s2 := Same.trans s1 (same_upd (o := .lst (ys ++ [.non])) fl3)
  have ne : es.length ≠ (es ++ [PyData.none]).length := by simp
  have d2 := (du.mono (k' := 5) (by decide)).none (by omega)
  refine ⟨no, wd, l3', ys ++ [.non], fun _ => False, _, _, rfl, upd_same, d2.vds ((po.fx.kt (.of s2)).cat (.cons .non .nil)) (Nat.le_refl _), by simp; omega, fun b H' s4 _ pb => ?_⟩
  have po' := po.same (Same.trans s2 s4)
  exact ⟨lo, os, .ref b, rfl, rfl, po'.lo, fit20 (by omega), k _ _ (po'.app (po_one d2 (ne_len ne) (ne_len ne.symm) pb)) (by simp; omega)⟩
end
end K00
set_option Elab.async false
set_option linter.all false
set_option maxRecDepth 100000
set_option maxHeartbeats 2000000
namespace K00
open PySem PySem.Spec PyProof.Rows L2 My MyX MyE MyD MyO MyQ MyU MyV MyRd
section
variable {P : Program} {w : World} {K : PySem.W.Frag} {mg : Str → Option Value} {base : Heap} {PA DE fD fP fPe fDe fPb fDb : Addr} {fdD fdP : FuncData}
/-! ### papers_right: from the paper made to the other ones -/
structure Pq (PA DE : Addr) (H : Hp) (p c a lw : Nat) (no : Bool) (wd : Str) (ys : List V) (es : List PyData) : Prop where
  pen : PenAt H p c
  wp : lw ≠ p
  pa : PaAt (clsOf PA DE no) H a wd es
  hw : H lw = some (.lst ys)
  fx : FxTs H ys es
theorem Pq.same {H H' : Hp} {p c a lw : Nat} {no : Bool} {wd : Str} {ys : List V} {es : List PyData} (h : Pq PA DE H p c a lw no wd ys es) (s : Same H H') : Pq PA DE H' p c a lw no wd ys es :=
  ⟨h.pen.same s, h.wp, h.pa.same s, s _ _ h.hw, h.fx.kt (.of s)⟩
theorem pr_10 {f : Addr} {cdv : Value} {A : Around} {outer : List Env} {s : Shared} {H : Hp} {E : XK} {tr : L2.TS} (B : Blt mg)
    (PP : FnT P w K mg base CX0 13 "_law_paper" fP fdP ppN (spPap PA DE 5)) (hr : Room 14 (A.deeper (envOfC "_law_papers_right" (defScope sPr) s.heap.objs.size f cdv))) (hx : PSs (cxOf CX0 P w K mg base prN "_law_papers_right" (defScope sPr) f cdv A outer s H E).nox ((defBody sPr).drop 11) tr) :
    ∃ t, PSs (cxOf CX0 P w K mg base prN "_law_papers_right" (defScope sPr) f cdv A outer s H E).nox ((defBody sPr).drop 10) t ∧ ∀ (D : Ends) (H : Hp) (no : Bool) (wd : Str) (p c a lw : Nat) (ys : List V) (es : List PyData) (v3 v4 v5 v6 v7 v10 v11 : Option V),
      Pq PA DE H p c a lw no wd ys es → Du es 4 → wd ∈ wds →
      (∀ Hb H' lo os, Same H Hb → Po PA DE Hb H' p c lo a lw no wd ys es os → os.length ≤ 6 → tr D (prS p no wd v3 v4 v5 v6 v7 lw a v10 v11 lo none) H') →
      t D [some (.ref p), some (.bl no), some (.str wd), v3, v4, v5, v6, v7, some (.ref lw), some (.ref a), v10, v11, none, none, none] H := by
  refine ⟨_, pss_cons (ps_set (i := 12) scPr.nd rfl (Or.inl rfl) (pe_lst (pa_cons (pe_call PP.ok (hr.mono (by decide)) (by rfl) PP.g PP.kp PP.bn .nil pass0 (pa_cons (pv 1) (pa_cons (pe_op op_add_str (pv 2) pe_str) (pa_cons (pv 8) pa_nil)))) (pa_cons (pe_tup (pa_cons (pv 2) (pa_cons (pe_callTy call_tuple_of (by rfl) B.tuple (by decide +kernel) (pa_cons (pv 8) pa_nil)) pa_nil))) (pa_cons (pv 2) (pa_cons (pe_callTy call_tuple_of (by rfl) B.tuple (by decide +kernel) (pa_cons (pv 8) pa_nil)) (pa_cons pe_non (pa_cons (pv 1) pa_nil)))))))) hx, fun D H0 no wd p c a lw ys es v3 v4 v5 v6 v7 v10 v11 pq du hwd k => ?_⟩
  obtain ⟨wl, wn⟩ := wds_s wd hwd
  have ly : ys.length = es.length := pq.fx.len
  refine ⟨_, rfl, _, rfl, wd, "s", rfl, rfl, Nat.le_trans (Nat.add_le_add_right wl _) (by rw [sizeLine_eq]; decide), _, rfl, ?_⟩
  refine ⟨no, wd ++ "s", lw, ys, fun _ => False, es, es, rfl, pq.hw, du.vds pq.fx (by decide), by rw [ly]; exact du.ln, fun b1 H1 s1 fb1 pb1 => ?_⟩
  have pq1 := pq.same s1
  refine ⟨_, rfl, _, rfl, lw, ys, rfl, .inl ⟨SqL.of pq1.hw, fun u1 fu1 => ⟨(show 2 ≤ sizeLine by decide), fun t1 ft1 => ?_⟩⟩⟩
  have s2 := same_upd (o := .tup ys) fu1
  have s3 := Same.trans s2 (same_upd (o := .tup [.str wd, .ref u1]) ft1)
  have h1 : upd (upd H1 u1 (.tup ys)) t1 (.tup [.str wd, .ref u1]) t1 = some (.tup [.str wd, .ref u1]) := upd_same
  generalize upd (upd H1 u1 (.tup ys)) t1 (.tup [.str wd, .ref u1]) = H3 at s3 h1
  refine ⟨_, rfl, _, rfl, lw, ys, rfl, .inl ⟨SqL.of (s3 _ _ pq1.hw), fun u2 fu2 => ?_⟩⟩
  have s4 := same_upd (o := .tup ys) fu2
  have h2 : upd H3 u2 (.tup ys) u2 = some (.tup ys) := upd_same
  generalize upd H3 u2 (.tup ys) = H4 at s4 h2
  refine ⟨_, rfl, (show 6 ≤ sizeLine by decide), fun lo fl => ?_⟩
  have s14 := Same.trans s3 s4
  have pq4 := pq1.same s14
  have s5 := same_upd (o := .lst [.ref b1, .ref t1, .str wd, .ref u2, .non, .bl no]) fl
  have pq5 := pq4.same s5
  have hp : ∃ c0, PenAt H4 p c0 := ⟨_, pq4.pen⟩
  have lwn : lw ≠ lo := fun q => by
    have := pq4.hw
    rw [q, fl] at this
    cases this
  refine k H4 _ lo _ (Same.trans s1 s14) ⟨fl, hp, pq.wp, lwn, .of s5, pq5.pen, upd_same, fun x hx => ?_, pq5.pa, pq5.hw, pq5.fx⟩ (show 6 ≤ 6 by decide)
  simp only [List.mem_cons, List.not_mem_nil, or_false] at hx
  rcases hx with rfl | rfl | rfl | rfl | rfl | rfl
  · exact .pa (pb1.same (Same.trans s14 s5)) (du.shaped (by decide)) (by rw [decide_eq_false wn, Bool.false_and]) (by rw [decide_eq_false wn.symm, Bool.false_and])
  · exact .tup (s5 _ _ (s4 _ _ h1))
  · exact .str _
  · exact .tup (s5 _ _ h2)
  · exact .non
  · exact .bl _
theorem pr_89 {f : Addr} {cdv : Value} {A : Around} {outer : List Env} {s : Shared} {H : Hp} {E : XK} {tr : L2.TS} (B : Blt mg) (T : EqT P w K mg base PA DE fPe fDe fPb fDb)
    (PP : FnT P w K mg base CX0 13 "_law_paper" fP fdP ppN (spPap PA DE 5)) (hr : Room 14 (A.deeper (envOfC "_law_papers_right" (defScope sPr) s.heap.objs.size f cdv))) (hx : PSs (cxOf CX0 P w K mg base prN "_law_papers_right" (defScope sPr) f cdv A outer s H E).nox ((defBody sPr).drop 10) tr) :
    ∃ t, PSs (cxOf CX0 P w K mg base prN "_law_papers_right" (defScope sPr) f cdv A outer s H E).nox ((defBody sPr).drop 8) t ∧ ∀ (D : Ends) (H : Hp) (no : Bool) (wd : Str) (p c a lw : Nat) (ys : List V) (es : List PyData) (v3 v4 v5 v6 v7 v10 : Option V),
      Pq PA DE H p c a lw no wd ys es → Du es 4 →
      (∀ H' v11, Same H H' → tr D [some (.ref p), some (.bl no), some (.str wd), v3, v4, v5, v6, v7, some (.ref lw), some (.ref a), v10, v11, none, none, none] H') →
      t D [some (.ref p), some (.bl no), some (.str wd), v3, v4, v5, v6, v7, some (.ref lw), some (.ref a), v10, none, none, none, none] H := by
  refine ⟨_, pss_cons (ps_set (i := 11) scPr.nd rfl (Or.inl rfl) (pe_lst (pa_cons (pe_call PP.ok (hr.mono (by decide)) (by rfl) PP.g PP.kp PP.bn .nil pass0 (pa_cons (pv 1) (pa_cons (pv 2) (pa_cons (pv 8) pa_nil)))) (pa_cons (pe_call PP.ok (hr.mono (by decide)) (by rfl) PP.g PP.kp PP.bn .nil pass0 (pa_cons (pe_not (pv 1)) (pa_cons (pv 2) (pa_cons (pv 8) pa_nil)))) pa_nil)))) (pss_cons (ps_if (PW.pt (pw_or (pt_not (pt_cmpR (op_paEq T (hr.mono (by decide))) (pv 9) (pe_ix (ix_list : IxR _ (rIxL K)) (pv 11) pe_int (fun _ _ => rfl)) (nomark _))) (pw_or (pt_not (pt_cmpR (op_paEq T (hr.mono (by decide))) (pv 9) (pe_ix (ix_list : IxR _ (rIxL K)) (pv 11) pe_int (fun _ _ => rfl)) (nomark _))) (pw_or (pt_cmpR (op_paNe T (hr.mono (by decide))) (pv 9) (pe_ix (ix_list : IxR _ (rIxL K)) (pv 11) pe_int (fun _ _ => rfl)) (nomark _)) (pw_or1 (pt_not (pt_cmpR (op_paEq T (hr.mono (by decide))) (pe_ix (ix_list : IxR _ (rIxL K)) (pv 11) pe_int (fun _ _ => rfl)) (pv 9) (nomark _)))))))) (pss_one (ps_ret pe_bl)) pss_nil) hx), fun D H0 no wd p c a lw ys es v3 v4 v5 v6 v7 v10 pq du k => ?_⟩
  have ly : ys.length = es.length := pq.fx.len
  refine ⟨_, rfl, _, rfl, _, rfl, ?_⟩
  refine ⟨no, wd, lw, ys, fun _ => False, es, es, rfl, pq.hw, du.vds pq.fx (by decide), by rw [ly]; exact du.ln, fun b0 H1 s1 fb0 pb0 => ?_⟩
  have pq1 := pq.same s1
  refine ⟨_, rfl, _, rfl, _, rfl, _, rfl, ?_⟩
  refine ⟨!no, wd, lw, ys, fun _ => False, es, es, rfl, pq1.hw, du.vds pq1.fx (by decide), by rw [ly]; exact du.ln, fun b1 H2 s2 fb1 pb1 => ?_⟩
  have pq2 := pq1.same s2
  have pb0 := pb0.same s2
  refine ⟨(show 2 ≤ sizeLine by decide), fun ll fl => ?_⟩
  have s3 := same_upd (o := .lst [.ref b0, .ref b1]) fl
  have hl : upd H2 ll (.lst [.ref b0, .ref b1]) ll = some (.lst [.ref b0, .ref b1]) := upd_same
  generalize upd H2 ll (.lst [.ref b0, .ref b1]) = H3 at s3 hl
  have pq3 := pq2.same s3
  have pb0 := pb0.same s3
  have pb1 := pb1.same s3
  have sh := du.shaped (show 4 ≤ 60 by decide)
  have ev : (decide (wd = wd) && PyData.eqv (.tuple es) (.tuple es)) = true := by
    rw [decide_eq_true rfl, SeqAt.eqv_refl _ (SeqAt.canLay_of_shaped sh)]
    rfl
  have cN := clsOf_or PA DE no
  have cM := clsOf_or PA DE (!no)
  refine ⟨_, rfl, _, rfl, ll, _, 0, .ref b0, rfl, rfl, SqL.of hl, atI_nat (j := 0) rfl, a, _, wd, es, rfl, cN, pq3.pa, .inl ⟨b0, _, wd, es, true, rfl, cN, pb0, sh, sh, ev, ev, _, rfl, iteF ?_⟩⟩
  refine ⟨_, rfl, _, rfl, ll, _, 1, .ref b1, rfl, rfl, SqL.of hl, atI_nat (j := 1) rfl, a, _, wd, es, rfl, cN, pq3.pa, .inl ⟨b1, _, wd, es, true, rfl, cM, pb1, sh, sh, ev, ev, _, rfl, iteF ?_⟩⟩
  refine ⟨_, rfl, _, rfl, ll, _, 0, .ref b0, rfl, rfl, SqL.of hl, atI_nat (j := 0) rfl, a, _, wd, es, rfl, cN, pq3.pa, .inl ⟨b0, wd, es, rfl, pb0, sh, sh, _, rfl, ?_⟩⟩
  rw [ev]
  refine iteF ?_
  refine ⟨_, rfl, ll, _, 1, .ref b1, rfl, rfl, SqL.of hl, atI_nat (j := 1) rfl, _, rfl, b1, _, wd, es, rfl, cM, pb1, .inl ⟨a, _, wd, es, true, rfl, cN, pq3.pa, sh, sh, ev, ev, _, rfl, iteF ?_⟩⟩
  exact k _ _ (Same.trans s1 (Same.trans s2 s3))
theorem pr_37 {f : Addr} {cdv : Value} {A : Around} {outer : List Env} {s : Shared} {H : Hp} {E : XK} {tr : L2.TS} (B : Blt mg) (T : EqT P w K mg base PA DE fPe fDe fPb fDb) {fS : Addr} {fdS : FuncData}
    (hgd : (A.deeper (envOfC "_law_papers_right" (defScope sPr) s.heap.objs.size f cdv)).guards = some []) (hmo : NoMod H s)
    (PP : FnT P w K mg base CX0 10 "_law_paper" fP fdP ppN (spPap PA DE 2)) (SP : FnT P w K mg base CX0 4 "_law_spoil" fS fdS ["_law_value_here"] (spSp 3)) (hr : Room 14 (A.deeper (envOfC "_law_papers_right" (defScope sPr) s.heap.objs.size f cdv))) (hx : PSs (cxOf CX0 P w K mg base prN "_law_papers_right" (defScope sPr) f cdv A outer s H E).nox ((defBody sPr).drop 8) tr) :
    ∃ t, PSs (cxOf CX0 P w K mg base prN "_law_papers_right" (defScope sPr) f cdv A outer s H E).nox ((defBody sPr).drop 3) t ∧ ∀ (D : Ends) (H0 H : Hp) (no : Bool) (wd : Str) (p c c0 m lp lv lw : Nat) (vw : List (V × V)) (ds es : List PyData) (fp : List Addr) (v3 v4 v5 v6 : Option V),
      PenAt H0 p c0 → Rw H0 H p c 2 m lp lv lw vw ds es fp → lw ∉ fp → lw ≠ lv → m < 4 → lw ≠ p → Du es 4 →
      (∀ H' a, Pq PA DE H' p c a lw no wd (vw.map (·.2)) es → Ext p H0 H' → tr D [some (.ref p), some (.bl no), some (.str wd), v3, v4, v5, v6, some (.ref lv), some (.ref lw), some (.ref a), some (.str (PyData.tuple es).shown), none, none, none, none] H') →
      t D [some (.ref p), some (.bl no), some (.str wd), v3, v4, v5, v6, some (.ref lv), some (.ref lw), none, none, none, none, none, none] H := by
  refine ⟨_, (pss_cons (ps_set (i := 9) scPr.nd rfl (Or.inr rfl) (pe_call PP.ok (hr.mono (by decide)) (by rfl) PP.g PP.kp PP.bn .nil pass0 (pa_cons (pv 1) (pa_cons (pv 2) (pa_cons (pv 7) pa_nil))))) (pss_cons (ps_expr (pe_call SP.ok (hr.mono (by decide)) (by rfl) SP.g SP.kp SP.bn .nil pass0 (pa_cons (pv 7) pa_nil))) (pss_cons (ps_set (i := 10) scPr.nd rfl (Or.inl rfl) (pe_callB (call_reprD hgd (hu70 hr) hmo rfl) (by rfl) B.repr (by decide +kernel) (pa_cons (pe_fld (pv 9) rfl) pa_nil))) (pss_cons (ps_if (PW.pt (pw_or (pt_cmpR op_ne (pe_fld (pv 9) rfl) (pv 2) (nomark _)) (pw_or (pt_cmpR op_ne (pv 10) (pe_callB (call_reprD hgd (hu70 hr) hmo rfl) (by rfl) B.repr (by decide +kernel) (pa_cons (pe_callTy call_tuple_of (by rfl) B.tuple (by decide +kernel) (pa_cons (pv 8) pa_nil)) pa_nil)) (nomark _)) (pw_or1 (pt_cmpR op_eq (pe_callTy (call_paB T (hr.mono (by decide))) (by rfl) B.bool (by decide +kernel) (pa_cons (pv 9) pa_nil)) (pv 1) (nomark _)))))) (pss_one (ps_ret pe_bl)) pss_nil) (pss_cons (ps_if (PW.pt (pw_or (pt_not (pt_val (pe_callB call_isi (by rfl) B.isinstance (by decide +kernel) (pa_cons (pv 9) (pa_cons (pe_gref rfl T.e.gP) pa_nil))))) (pw_or1 (pt_cmpR op_ne (pe_callB call_isi (by rfl) B.isinstance (by decide +kernel) (pa_cons (pv 9) (pa_cons (pe_gref rfl T.gD) pa_nil))) (pv 1) (nomark _))))) (pss_one (ps_ret pe_bl)) pss_nil) hx))))), fun D H0 H1 no wd p c c0 m lp lv lw vw ds es fp v3 v4 v5 v6 P0 R nwf nwv hm nwp du k => ?_⟩
  have lm : (vw.map (·.1)).length ≤ 3 := by
    have := R.len
    rw [List.length_map]
    omega
  refine ⟨_, rfl, _, rfl, _, rfl, no, wd, lv, vw.map (·.1), _, ds, es, rfl, R.hv, R.vd, lm, fun a H2 s2 fa pa => ?_⟩
  have P2 := R.pen.same s2
  have e2 := R.ex.trans (.of s2)
  have ftv := R.ft.same s2
  have hv2 := s2 _ _ R.hv
  refine ⟨_, rfl, .ref lv, lv :: fp, rfl, .lst hv2 (Nat.le_trans lm (by decide)) ftv, List.nodup_cons.mpr ⟨R.nv, R.nd⟩, fun H3 F3 => ?_⟩
  have fr0 : ∀ b ∈ lv :: fp, H0 b = none := fun b hb => by
    rcases List.mem_cons.mp hb with rfl | hb
    · exact R.fv
    · exact R.fr b hb
  have e3 := ext_fr e2 P0 F3 fr0
  have P3 := pen_fr P0 e2 P2 F3 fr0
  have occ : ∀ b ∈ lv :: fp, ∃ o, H1 b = some o := fun b hb => by
    rcases List.mem_cons.mp hb with rfl | hb
    · exact ⟨_, R.hv⟩
    · obtain ⟨o, e, _⟩ := R.ft.ltd b hb
      exact ⟨o, e⟩
  have kt3 : KT H2 H3 := fun t xs h => F3 t _ (fun q => by
    rcases List.mem_cons.mp q with rfl | q
    · rw [hv2] at h
      cases h
    · obtain ⟨o, h1, h2⟩ := ftv.ltd t q
      rw [h] at h1
      exact h2 xs (Option.some.inj h1).symm) h
  have na : a ∉ lv :: fp := fun q => by
    obtain ⟨o, e⟩ := occ a q
    rw [fa] at e
    cases e
  have nw : lw ∉ lv :: fp := fun q => by
    rcases List.mem_cons.mp q with q | q
    · exact nwv q
    · exact nwf q
  have pa3 : PaAt (clsOf PA DE no) H3 a wd es := by
    obtain ⟨dx, t, ys, h1, h2, h3⟩ := pa
    exact ⟨dx, t, ys, F3 _ _ na h1, kt3 _ _ h2, h3.kt kt3⟩
  have hw3 := F3 _ _ nw (s2 _ _ R.hw)
  have fx3 := (R.fx.kt (.of s2)).kt kt3
  have pq : Pq PA DE H3 p c a lw no wd (vw.map (·.2)) es := ⟨P3, nwp, pa3, hw3, fx3⟩
  clear occ na nw kt3 fr0 F3 ftv hv2 P2 e2 pa
  have hx := T.e.x (clsOf_or PA DE no)
  obtain ⟨dx, t, ys, h1, h2, h3⟩ := pa3
  have sh := du.show
  have dp : (PyData.tuple es).depth ≤ 60 := Nat.le_trans du.dp (by decide)
  have ln := du.len
  refine ⟨_, rfl, a, _, dx, _, .ref t, rfl, h1, hx.pt.cl, hx.pt.nP, paF_p _ _, _, _, rfl, .tup h2 h3.db, sh, dp, ln, ?_⟩
  refine ⟨_, rfl, a, _, dx, _, .str wd, rfl, h1, hx.pt.cl, hx.pt.nW, paF_w _ _, _, rfl, rfl, _, rfl, ?_⟩
  rw [decide_eq_true (rfl : V.str wd = V.str wd)]
  refine iteF ?_
  refine ⟨_, rfl, _, rfl, lw, _, rfl, .inl ⟨SqL.of hw3, fun u fu => ?_⟩⟩
  have s4 := same_upd (o := .tup (vw.map (·.2))) fu
  refine ⟨_, _, rfl, .tup upd_same (fx3.kt (.of s4)).db, sh, dp, ln, rfl, _, rfl, ?_⟩
  rw [decide_eq_true (rfl : V.str (PyData.tuple es).shown = V.str (PyData.tuple es).shown)]
  refine iteF ?_
  have pq4 := pq.same s4
  generalize upd H3 u (.tup (vw.map (·.2))) = H4 at s4 pq4
  have h14 := s4 _ _ h1
  refine ⟨_, rfl, a, no, wd, es, rfl, pq4.pa, _, rfl, rfl, _, rfl, ?_⟩
  rw [decide_eq_false (fun z => by cases no <;> cases z)]
  refine iteF ?_
  refine ⟨_, rfl, _, _, _, _, true, rfl, .own PA, hx.tyX h14, T.e.k (clsOf_or PA DE no), _, rfl, iteF ?_⟩
  have kD : PySem.W.kitOne K (.ref (clsOf PA DE no)) (.ref DE) = some no := by
    cases no with
    | false => exact T.kPD
    | true => exact T.kDD
  refine ⟨_, rfl, _, _, _, _, no, rfl, .own DE, hx.tyX h14, kD, _, rfl, rfl, _, rfl, ?_⟩
  rw [decide_eq_true (rfl : V.bl no = V.bl no)]
  refine iteF ?_
  exact k _ _ pq4 (e3.trans (.of s4))
end
end K00
set_option Elab.async false
set_option linter.all false
set_option maxRecDepth 100000
set_option maxHeartbeats 2000000
namespace K00
open PySem PySem.Spec PyProof.Rows L2 My MyX MyE MyD MyO MyQ MyU MyV MyRd
section
variable {P : Program} {w : World} {K : PySem.W.Frag} {mg : Str → Option Value} {base : Heap} {PA DE fD fG fV fP fS fPe fDe fPb fDb : Addr} {fdD fdG fdV fdP fdS : FuncData}
/-! ### papers_right -/
def spPr : Sp := fun vs H Q _ => ∃ (p c : Nat), vs = [.ref p] ∧ PenAt H p c ∧ c + 10 + cN 2 * 3 ≤ 90000 ∧ ∀ H', Ext p H H' → PenAt H' p (c + 10 + cN 2 * 3) → Q (.bl true) H'
theorem ok_pright {f : Addr} {fd : FuncData} (F : Fun K "_law_papers_right" "_law_papers_right" sPr f fd) (B : Blt mg) (T : EqT P w K mg base PA DE fPe fDe fPb fDb)
    (D : FnT P w K mg base CX0 1 "_law_draw" fD fdD ["_law_pen_here", "_law_many"] spDraw) (G : FnT P w K mg base CX0 2 "_law_pick" fG fdG ["_law_pen_here", "_law_some"] spPick) (VA : FnT P w K mg base CX0 6 "_law_value" fV fdV ["_law_pen_here", "_law_deep"] (spVal 2))
    (PP2 : FnT P w K mg base CX0 10 "_law_paper" fP fdP ppN (spPap PA DE 2)) (PP5 : FnT P w K mg base CX0 13 "_law_paper" fP fdP ppN (spPap PA DE 5)) (SP : FnT P w K mg base CX0 4 "_law_spoil" fS fdS ["_law_value_here"] (spSp 3)) :
    MyM.FnM P w K mg base CX0 15 f fd ["_law_pen_here"] spPr := by
  refine fun_okM F (k := 14) scPr (fun vs H Q E h => ?_) (fun cdv A outer s H vs Q E hgd hmo hr h => ?_)
  · obtain ⟨p, c, rfl, _⟩ := h
    rfl
  · obtain ⟨p, c, rfl, PN, hc, q⟩ := h
    obtain ⟨t13, x13, k13⟩ := pr_end (E := E) (f := f) (cdv := cdv) (A := A) (outer := outer) (s := s) (H := H) B T hgd hmo hr
    obtain ⟨t12, x12, k12⟩ := pr_12 B D PP5 hr x13
    obtain ⟨t11, x11, k11⟩ := pr_11 B PP5 hr x12
    obtain ⟨t10, x10, k10⟩ := pr_10 B PP5 hr x11
    obtain ⟨t8, x8, k8⟩ := pr_89 B T PP5 hr x10
    obtain ⟨t3, x3, k3⟩ := pr_37 B T hgd hmo PP2 SP hr x8
    obtain ⟨t0, x0, k0⟩ := pr_rows B D G VA (hr.mono (by decide)) x3
    refine ⟨t0, x0, k0 _ p c H PN hc fun no wd m c' lp lv lw vw ds es fp H' hwd hm hc' nwf nwv R => ?_⟩
    have c2 : cN 2 * 3 ≤ 100 := by decide
    have sz2 : ∀ e ∈ es, Sz e (bN 2) 4 := fun e he => (R.se e he).1
    have le : es.length = m := by
      have h1 := R.fx.len
      have h2 := R.len
      rw [List.length_map] at h1
      omega
    have du : Du es 4 := ⟨fun e he => ⟨(R.se e he).1.mono (by decide) (Nat.le_refl _), (R.se e he).2⟩, R.vd.narAll, by omega⟩
    have nwp : lw ≠ p := fun z => by
      obtain ⟨ys, e⟩ := PN.there
      rw [← z, R.fw] at e
      cases e
    refine k3 _ H H' no wd p c' c m lp lv lw vw ds es fp _ _ _ _ PN R nwf nwv hm nwp du fun H3 a pq e3 => ?_
    refine k8 _ _ _ _ _ _ _ _ _ _ _ _ _ _ _ _ pq du fun H4 v11 s4 => ?_
    refine k10 _ _ _ _ _ _ _ _ _ _ _ _ _ _ _ _ _ (pq.same s4) du hwd fun Hb H5 lo os sb po l6 => ?_
    refine k11 _ _ _ _ _ _ _ _ _ _ _ _ _ _ _ _ _ _ _ _ po l6 du fun H6 os6 po6 l7 => ?_
    refine k12 _ _ _ _ _ _ _ _ _ _ _ _ _ _ _ _ _ _ _ _ po6 l7 du sz2 (by omega) fun H7 os7 c7 v13 po7 hc7 => ?_
    refine k13 _ no wd a lo es os7 _ _ _ _ _ _ _ _ _ _ H7 po7.pa po7.lo po7.odd (du.shaped (by decide)) du.show (Nat.le_trans du.dp (by decide)) du.len fun H8 s8 => ?_
    exact q _ (((e3.trans (.of (Same.trans s4 sb))).trans po7.ex).trans (.of s8)) ((po7.pen.same s8).mono (by omega))
end
end K00
set_option Elab.async false
set_option linter.all false
set_option maxRecDepth 100000
set_option maxHeartbeats 2000000
namespace K00
open PySem PySem.Spec PyProof.Rows L2 My MyX MyE MyD MyO MyQ MyU MyV MyRd
abbrev sLaw : Stmt := top 47
abbrev lawN : List Str := ["_law_script", "_law_pen_here", "_law_some", "_law_name", "_law_one", "_law_two", "_law_due", "_law_lap", "_law_like", "_law_base"]
theorem scLaw : FnScope lawN ["_law_script"] (defScope sLaw) := ⟨rfl, rfl, rfl, by decide +kernel, rfl, by decide +kernel, by decide +kernel⟩
section
variable {P : Program} {w : World} {K : PySem.W.Frag} {mg : Str → Option Value} {base : Heap} {PA DE fPi fDi fPe fDe fPb fDb fX : Addr} {fdX : FuncData}
/-! ### the law's last rows -/
theorem lw_end {f : Addr} {cdv : Value} {A : Around} {outer : List Env} {s : Shared} {H : Hp} {E : XK} (T : EqT P w K mg base PA DE fPe fDe fPb fDb) (MT : MkT P w K mg base PA DE fPi fDi 5) (FX : FnT P w K mg base CX0 5 "fixed" fX fdX ["value"] (spFixed 3)) (hr : Room 17 (A.deeper (envOfC "law" (defScope sLaw) s.heap.objs.size f cdv))) :
    ∃ t, PSs (cxOf CX0 P w K mg base lawN "law" (defScope sLaw) f cdv A outer s H E).nox ((defBody sLaw).drop 4) t ∧ ∀ (D : Ends) (v0 v1 v2 v3 v4 v5 v6 v7 v8 v9 : Option V) (H : Hp), (∀ H', D.rt (.bl true) H') → t D [v0, v1, v2, v3, v4, v5, v6, v7, v8, v9] H := by
  refine ⟨_, pss_cons (ps_set (i := 8) scLaw.nd rfl (Or.inl rfl) (pe_lst (pa_cons (pe_cmpR (op_paEq T (hr.mono (by decide))) (StX.pe_makeR MT.mP MT.fP (hr.mono (by decide)) (by rfl) MT.gP pass0 (pa_cons pe_str (pa_cons pe_int (pa_cons (pe_lst (pa_cons pe_int (pa_cons (pe_disp (pps_cons pe_str pe_int pps_nil) rfl rfl (by simp) (by decide)) pa_nil))) pa_nil)))) (StX.pe_makeR MT.mP MT.fP (hr.mono (by decide)) (by rfl) MT.gP pass0 (pa_cons pe_str (pa_cons pe_bl (pa_cons (pe_tup (pa_cons pe_bl (pa_cons (pe_tup (pa_cons (pe_tup (pa_cons pe_str (pa_cons pe_bl pa_nil))) pa_nil)) pa_nil))) pa_nil)))) (nomark _)) pa_nil)))
    (pss_cons (ps_set (i := 8) scLaw.nd rfl (Or.inl rfl) (pe_op op_cat (pv 8) (pe_lst (pa_cons (pe_cmpR (op_paEq T (hr.mono (by decide))) (StX.pe_makeR MT.mP MT.fP (hr.mono (by decide)) (by rfl) MT.gP pass0 (pa_cons pe_str (pa_cons pe_int pa_nil))) (StX.pe_makeR MT.mD MT.fD (hr.mono (by decide)) (by rfl) MT.gD pass0 (pa_cons pe_str (pa_cons pe_bl pa_nil))) (nomark _)) (pa_cons (pe_cmpR (op_paEq T (hr.mono (by decide))) (StX.pe_makeR MT.mP MT.fP (hr.mono (by decide)) (by rfl) MT.gP pass0 (pa_cons pe_str (pa_cons pe_int pa_nil))) (StX.pe_makeR MT.mP MT.fP (hr.mono (by decide)) (by rfl) MT.gP pass0 (pa_cons pe_str (pa_cons pe_str pa_nil))) (nomark _)) (pa_cons (pe_cmpR (op_paEq T (hr.mono (by decide))) (StX.pe_makeR MT.mP MT.fP (hr.mono (by decide)) (by rfl) MT.gP pass0 (pa_cons pe_str (pa_cons pe_non pa_nil))) (StX.pe_makeR MT.mP MT.fP (hr.mono (by decide)) (by rfl) MT.gP pass0 (pa_cons pe_str (pa_cons pe_int pa_nil))) (nomark _)) pa_nil))))))
     (pss_one (ps_ret (pe_and (pe_cmpR (op_eqD hr.units) (pv 8) (pe_lst (pa_cons pe_bl (pa_cons pe_bl (pa_cons pe_bl (pa_cons pe_bl pa_nil))))) (nomark _)) (pe_one (pe_cmpR (op_eqD hr.units) (pe_lc (own := [("_law_base", 9)]) (g := gName 9) rfl scLaw.nd (pi_list (pe_lst (pa_cons (pe_call FX.ok (hr.mono (by decide)) (by rfl) FX.g FX.kp FX.bn .nil pass0 (pa_cons (pe_tup pa_nil) pa_nil)) (pa_cons (pe_call FX.ok (hr.mono (by decide)) (by rfl) FX.g FX.kp FX.bn .nil pass0 (pa_cons (pe_lst pa_nil) pa_nil)) (pa_cons (pe_call FX.ok (hr.mono (by decide)) (by rfl) FX.g FX.kp FX.bn .nil pass0 (pa_cons pe_dnewK pa_nil)) pa_nil))))) (blkOk_by (own := [("_law_base", 9)]) (N := lawN) (sc := defScope sLaw) (by decide +kernel)) (fun _ _ _ _ _ => (pg_name (i := 9) scLaw.nd rfl (Or.inl rfl))) (fun _ _ _ _ _ => pts_one (pt_cmpR (op_neD hr.units : OpR _ _ (rNeD K)) (pv 9) (pe_tup pa_nil) (nomark _))) (fun _ _ _ _ _ => (pv 9))) (pe_lst pa_nil) (nomark _))))))), fun D v0 v1 v2 v3 v4 v5 v6 v7 v8 v9 H0 q => ?_⟩
  intro d fd
  refine ⟨upd_same, [(.inr "x", .int 1)], rfl, (show 1 ≤ 15 by decide), (show 2 ≤ sizeLine by decide), fun l fl => ?_⟩
  have hd0 : upd (upd H0 d (.dK [])) d (.dK (mergeK [] [((.inr "x" : Key), V.int 1)])) d = some (.dK [(.inr "x", .int 1)]) := upd_same
  generalize upd (upd H0 d (.dK [])) d (.dK (mergeK [] [((.inr "x" : Key), V.int 1)])) = Ha at hd0 fl
  have hl : upd Ha l (.lst [.int 0, .ref d]) l = some (.lst [.int 0, .ref d]) := upd_same
  have hd : upd Ha l (.lst [.int 0, .ref d]) d = some (.dK [(.inr "x", .int 1)]) := same_upd fl _ _ hd0
  generalize upd Ha l (.lst [.int 0, .ref d]) = Hb at hl hd
  have asc : Asc [((.inr "x" : Key), V.int 1)] [.inr "x"] := fun ns ss h1 _ h3 _ => by
    obtain rfl := List.perm_nil.mp h1
    obtain rfl := List.perm_singleton.mp h3
    rfl
  have vd1 : Vds (fun _ => False) Hb 5 [.int 1, .ref l] [.int 1, .list [.int 0, .dict [(.str "x", .int 1)]]] [.int 1, .tuple [.int 0, .tuple [.tuple [.str "x", .int 1]]]] :=
    .cons (.int 1) (.cons (.lst (fun z => z) hl (show 2 ≤ 10 by decide) (.cons (.int 0) (.cons (.dic hd (show 1 ≤ 10 by decide) (.cons (k := .inr "x") (.int 1) .nil) asc (show 1 ≤ 10 by decide) (.cons (k := .inr "x") rfl (.int 1) .nil)) .nil))) .nil)
  refine fun x1 dx1 fx1 fdx1 ne1 => ?_
  have sa1 : Same Hb (upd (upd Hb dx1 (.own x1)) x1 (.ins PA dx1 [])) := same_updF (same_upd fdx1) fx1
  refine ⟨x1, dx1, "most", _, _, _, _, rfl, upd_same, vd1.same sa1, (show 2 ≤ 10 by decide), fun H1 k1 pa1 => ⟨rfl, ?_⟩⟩
  have s1 : Same Hb H1 := fun b u e => k1 b u (ne_of_none e fx1) (sa1 _ _ e)
  clear sa1 k1
  clear asc vd1 s1 hl hd
  refine ⟨(show 2 ≤ sizeLine by decide), fun t3 ft3 => ⟨(show 1 ≤ sizeLine by decide), fun t2 ft2 => ⟨(show 2 ≤ sizeLine by decide), fun t1 ft1 => ?_⟩⟩⟩
  have z3 := same_upd (o := .tup [.str "x", .bl true]) ft3
  have z2 := same_upd (o := .tup [.ref t3]) ft2
  have z1 := same_upd (o := .tup [.bl false, .ref t2]) ft1
  have z := Same.trans z3 (Same.trans z2 z1)
  have h3 := z1 _ _ (z2 _ _ (upd_same (H := H1) (a := t3) (o := .tup [.str "x", .bl true])))
  have h2 := z1 _ _ (upd_same (H := upd H1 t3 (.tup [.str "x", .bl true])) (a := t2) (o := .tup [.ref t3]))
  have h1 : upd (upd (upd H1 t3 (.tup [.str "x", .bl true])) t2 (.tup [.ref t3])) t1 (.tup [.bl false, .ref t2]) t1 = some (.tup [.bl false, .ref t2]) := upd_same
  generalize upd (upd (upd H1 t3 (.tup [.str "x", .bl true])) t2 (.tup [.ref t3])) t1 (.tup [.bl false, .ref t2]) = H2 at z h1 h2 h3
  have vd2 : Vds (fun _ => False) H2 5 [.bl true, .ref t1] [.bool true, .tuple [.bool false, .tuple [.tuple [.str "x", .bool true]]]] [.bool true, .tuple [.bool false, .tuple [.tuple [.str "x", .bool true]]]] :=
    .cons (.bl true) (.cons (.tup h1 (show 2 ≤ 10 by decide) (.cons (.bl false) (.cons (.tup h2 (show 1 ≤ 10 by decide) (.cons (.tup h3 (show 2 ≤ 10 by decide) (.cons (.str "x") (.cons (.bl true) .nil))) .nil)) .nil))) .nil)
  refine fun x2 dx2 fx2 fdx2 ne2 => ?_
  have sa2 : Same H2 (upd (upd H2 dx2 (.own x2)) x2 (.ins PA dx2 [])) := same_updF (same_upd fdx2) fx2
  refine ⟨x2, dx2, "most", _, _, _, _, rfl, upd_same, vd2.same sa2, (show 2 ≤ 10 by decide), fun H3 k2 pa2 => ⟨rfl, ?_⟩⟩
  have s2 : Same H2 H3 := fun b u e => k2 b u (ne_of_none e fx2) (sa2 _ _ e)
  clear sa2 k2
  have pa1 := (pa1.same z).same s2
  refine ⟨x1, PA, "most", _, rfl, .inl rfl, pa1, .inl ⟨x2, PA, "most", _, true, rfl, .inl rfl, pa2, by decide +kernel, by decide +kernel, by decide +kernel, by decide +kernel, ?_⟩⟩
  clear pa1 pa2 s2 vd2 z z1 z2 z3 h1 h2 h3 ft1 ft2 ft3
  refine ⟨(show 1 ≤ sizeLine by decide), fun l1 fl1 => ?_⟩
  have hl1 : upd H3 l1 (.lst [.bl true]) l1 = some (.lst [.bl true]) := upd_same
  generalize upd H3 l1 (.lst [.bl true]) = H4 at hl1
  refine ⟨_, rfl, ?_⟩
  refine fun x5 dx5 fx5 fdx5 ne5 => ?_
  have sa5 : Same H4 (upd (upd H4 dx5 (.own x5)) x5 (.ins PA dx5 [])) := same_updF (same_upd fdx5) fx5
  refine ⟨x5, dx5, "a", _, fun _ => False, [.int 0], [.int 0], rfl, upd_same, (Vds.cons (.int 0) .nil).same sa5, (show 1 ≤ 10 by decide), fun H5 k5 pa5 => ⟨rfl, ?_⟩⟩
  have s5 : Same H4 H5 := fun b u e => k5 b u (ne_of_none e fx5) (sa5 _ _ e)
  have hl1 := s5 _ _ hl1
  clear sa5 k5
  refine fun x6 dx6 fx6 fdx6 ne6 => ?_
  have sa6 : Same H5 (upd (upd H5 dx6 (.own x6)) x6 (.ins DE dx6 [])) := same_updF (same_upd fdx6) fx6
  refine ⟨x6, dx6, "a", _, fun _ => False, [.bool false], [.bool false], rfl, upd_same, (Vds.cons (.bl false) .nil).same sa6, (show 1 ≤ 10 by decide), fun H6 k6 pa6 => ⟨rfl, ?_⟩⟩
  have s6 : Same H5 H6 := fun b u e => k6 b u (ne_of_none e fx6) (sa6 _ _ e)
  have hl1 := s6 _ _ hl1
  clear sa6 k6
  refine ⟨x5, PA, "a", _, rfl, .inl rfl, pa5.same s6, .inl ⟨x6, DE, "a", _, true, rfl, .inr rfl, pa6, by decide +kernel, by decide +kernel, by decide +kernel, by decide +kernel, ?_⟩⟩
  clear pa5 pa6 s5 s6
  refine fun x7 dx7 fx7 fdx7 ne7 => ?_
  have sa7 : Same H6 (upd (upd H6 dx7 (.own x7)) x7 (.ins PA dx7 [])) := same_updF (same_upd fdx7) fx7
  refine ⟨x7, dx7, "a", _, fun _ => False, [.int 0], [.int 0], rfl, upd_same, (Vds.cons (.int 0) .nil).same sa7, (show 1 ≤ 10 by decide), fun H7 k7 pa7 => ⟨rfl, ?_⟩⟩
  have s7 : Same H6 H7 := fun b u e => k7 b u (ne_of_none e fx7) (sa7 _ _ e)
  have hl1 := s7 _ _ hl1
  clear sa7 k7
  refine fun x8 dx8 fx8 fdx8 ne8 => ?_
  have sa8 : Same H7 (upd (upd H7 dx8 (.own x8)) x8 (.ins PA dx8 [])) := same_updF (same_upd fdx8) fx8
  refine ⟨x8, dx8, "a", _, fun _ => False, [.str "0"], [.str "0"], rfl, upd_same, (Vds.cons (.str "0") .nil).same sa8, (show 1 ≤ 10 by decide), fun H8 k8 pa8 => ⟨rfl, ?_⟩⟩
  have s8 : Same H7 H8 := fun b u e => k8 b u (ne_of_none e fx8) (sa8 _ _ e)
  have hl1 := s8 _ _ hl1
  clear sa8 k8
  refine ⟨x7, PA, "a", _, rfl, .inl rfl, pa7.same s8, .inl ⟨x8, PA, "a", _, false, rfl, .inl rfl, pa8, by decide +kernel, by decide +kernel, by decide +kernel, by decide +kernel, ?_⟩⟩
  clear pa7 pa8 s7 s8
  refine fun x9 dx9 fx9 fdx9 ne9 => ?_
  have sa9 : Same H8 (upd (upd H8 dx9 (.own x9)) x9 (.ins PA dx9 [])) := same_updF (same_upd fdx9) fx9
  refine ⟨x9, dx9, "a", _, fun _ => False, [.none], [.none], rfl, upd_same, (Vds.cons (.non) .nil).same sa9, (show 1 ≤ 10 by decide), fun H9 k9 pa9 => ⟨rfl, ?_⟩⟩
  have s9 : Same H8 H9 := fun b u e => k9 b u (ne_of_none e fx9) (sa9 _ _ e)
  have hl1 := s9 _ _ hl1
  clear sa9 k9
  refine fun x10 dx10 fx10 fdx10 ne10 => ?_
  have sa10 : Same H9 (upd (upd H9 dx10 (.own x10)) x10 (.ins PA dx10 [])) := same_updF (same_upd fdx10) fx10
  refine ⟨x10, dx10, "a", _, fun _ => False, [.int 0], [.int 0], rfl, upd_same, (Vds.cons (.int 0) .nil).same sa10, (show 1 ≤ 10 by decide), fun H10 k10 pa10 => ⟨rfl, ?_⟩⟩
  have s10 : Same H9 H10 := fun b u e => k10 b u (ne_of_none e fx10) (sa10 _ _ e)
  have hl1 := s10 _ _ hl1
  clear sa10 k10
  refine ⟨x9, PA, "a", _, rfl, .inl rfl, pa9.same s10, .inl ⟨x10, PA, "a", _, false, rfl, .inl rfl, pa10, by decide +kernel, by decide +kernel, by decide +kernel, by decide +kernel, ?_⟩⟩
  clear pa9 pa10 s9 s10
  refine ⟨(show 3 ≤ sizeLine by decide), fun l2 fl2 => ⟨l1, l2, [.bl true], [.bl true, .bl false, .bl false], rfl, rfl, same_upd fl2 _ _ hl1, upd_same, (show 4 ≤ sizeLine by decide), fun l3 fl3 => ?_⟩⟩
  have hl3 := upd_same (H := upd H10 l2 (.lst [.bl true, .bl false, .bl false])) (a := l3) (o := .lst ([.bl true] ++ [.bl true, .bl false, .bl false]))
  generalize upd (upd H10 l2 (.lst [.bl true, .bl false, .bl false])) l3 (.lst ([.bl true] ++ [.bl true, .bl false, .bl false])) = H11 at hl3
  refine ⟨_, rfl, (show 4 ≤ sizeLine by decide), fun l4 fl4 => ?_⟩
  refine ⟨.list [.bool true, .bool true, .bool false, .bool false], .list [.bool true, .bool true, .bool false, .bool false], .lst (SqL.of (same_upd fl4 _ _ hl3)) (.cons (.bl _) (.cons (.bl _) (.cons (.bl _) (.cons (.bl _) .nil)))), .lst (SqL.of upd_same) (.cons (.bl _) (.cons (.bl _) (.cons (.bl _) (.cons (.bl _) .nil)))), by decide +kernel, by decide +kernel, true, congrArg V.bl (by decide +kernel), iteT ?_⟩
  generalize upd H11 l4 (.lst [.bl true, .bl true, .bl false, .bl false]) = H12
  clear hl3 hl1
  refine ⟨(show 0 ≤ sizeLine by decide), fun e1 fe1 => ⟨fun _ => False, .ref e1, .tuple [], .tuple [], rfl, .tup upd_same (show 0 ≤ 10 by decide) .nil, fun y1 H13 s13 fy1 => ?_⟩⟩
  refine ⟨(show 0 ≤ sizeLine by decide), fun e2 fe2 => ⟨fun _ => False, .ref e2, .list [], .tuple [], rfl, .lst (fun z => z) upd_same (show 0 ≤ 10 by decide) .nil, fun y2 H14 s14 fy2 => ?_⟩⟩
  have fy1 := (fy1.kt (KT.new fe2)).kt (.of s14)
  intro e3 fe3
  have asc : Asc [] [] := fun ns ss h1 _ h3 _ => by
    obtain rfl := List.perm_nil.mp h1
    obtain rfl := List.perm_nil.mp h3
    rfl
  refine ⟨fun _ => False, .ref e3, .dict [], .tuple [], rfl, .dic upd_same (show 0 ≤ 10 by decide) .nil asc (show 0 ≤ 10 by decide) .nil, fun y3 H15 s15 fy3 => ?_⟩
  have fy1 := (fy1.kt (KT.new fe3)).kt (.of s15)
  have fy2 := (fy2.kt (KT.new fe3)).kt (.of s15)
  clear asc s13 s14 s15 fe1 fe2 fe3
  refine ⟨(show 3 ≤ sizeLine by decide), fun l5 fl5 => ⟨l5, rfl, ⟨_, SqL.of upd_same⟩, fun d2 fd2 => ?_⟩⟩
  have fy1 := fy1.kt (KT.new (o := .lst [y1, y2, y3]) fl5)
  have fy2 := fy2.kt (KT.new (o := .lst [y1, y2, y3]) fl5)
  have fy3 := fy3.kt (KT.new (o := .lst [y1, y2, y3]) fl5)
  have hl5 : upd H15 l5 (.lst [y1, y2, y3]) l5 = some (.lst [y1, y2, y3]) := upd_same
  generalize upd H15 l5 (.lst [y1, y2, y3]) = H16 at fy1 fy2 fy3 hl5 fd2
  have all : ∀ y ∈ [y1, y2, y3], ∃ a, y = .ref a ∧ H16 a = some (.tup []) := fun y hy => by
    have one : ∀ {y : V}, FxT H16 y (.tuple []) → ∃ a, y = .ref a ∧ H16 a = some (.tup []) := fun {y} h => by
      cases h with
      | tup e t =>
        cases t
        exact ⟨_, rfl, e⟩
    simp only [List.mem_cons, List.not_mem_nil, or_false] at hy
    rcases hy with rfl | rfl | rfl
    · exact one fy1
    · exact one fy2
    · exact one fy3
  refine lc_it (g := gName 9) (walk_list (K := K) (a := l5) (xs := [y1, y2, y3])) (fun i H' => Same H16 H' ∧ H' d2 = some (.lst [])) ⟨same_upd fd2, upd_same⟩ (fun i H' _ p => SqL.of (p.1 _ _ hl5)) (fun i x H2 H3 hi p y => ?_) (fun H2 p => ?_)
  · obtain ⟨rfl, hx⟩ := y
    obtain ⟨a, rfl, ha⟩ := all x (List.mem_of_getElem? hx)
    have ha := p.1 _ _ ha
    refine ⟨rfl, _, rfl, (show 0 ≤ sizeLine by decide), fun e fe => ?_⟩
    have s1 := same_upd (o := .tup []) fe
    refine ⟨.tuple [], .tuple [], .tup (SqT.of (s1 _ _ ha)) .nil, .tup (SqT.of upd_same) .nil, by decide +kernel, by decide +kernel, _, rfl, iteF ⟨Same.trans p.1 s1, s1 _ _ p.2⟩⟩
  · refine ⟨(show 0 ≤ sizeLine by decide), fun e fe => ?_⟩
    refine ⟨.list [], .list [], .lst (SqL.of (same_upd fe _ _ p.2)) .nil, .lst (SqL.of upd_same) .nil, by decide +kernel, by decide +kernel, ?_⟩
    exact q _
end
end K00
set_option Elab.async false
set_option linter.all false
set_option maxRecDepth 100000
set_option maxHeartbeats 2000000
namespace K00
open PySem PySem.Spec PyProof.Rows L2 My MyX MyE MyD MyO MyQ MyU MyV MyRd
/-! ### the law: laps, and errors -/
def four : List V := [V.str "NoNode", V.str "TooMany", V.str "BadText", V.str "BadLine"]
theorem oc : ∀ j, j < 22 → (inV (.str (nms.getD j "")) four = true ∧ decide (V.str (nms.getD j "") = V.str "Nothing") = false ∧ ∀ x y, outs j x y = [x, y]) ∨
    (inV (.str (nms.getD j "")) four = false ∧ decide (V.str (nms.getD j "") = V.str "Nothing") = false ∧ ∀ x y, outs j x y = [x]) ∨
    (inV (.str (nms.getD j "")) four = false ∧ decide (V.str (nms.getD j "") = V.str "Nothing") = true ∧ ∀ x y, outs j x y = [])
  | 0, _ => .inr (.inl ⟨by decide +kernel, by decide +kernel, fun _ _ => rfl⟩)
  | 1, _ => .inr (.inl ⟨by decide +kernel, by decide +kernel, fun _ _ => rfl⟩)
  | 2, _ => .inr (.inl ⟨by decide +kernel, by decide +kernel, fun _ _ => rfl⟩)
  | 3, _ => .inr (.inl ⟨by decide +kernel, by decide +kernel, fun _ _ => rfl⟩)
  | 4, _ => .inr (.inl ⟨by decide +kernel, by decide +kernel, fun _ _ => rfl⟩)
  | 5, _ => .inr (.inl ⟨by decide +kernel, by decide +kernel, fun _ _ => rfl⟩)
  | 6, _ => .inr (.inl ⟨by decide +kernel, by decide +kernel, fun _ _ => rfl⟩)
  | 7, _ => .inr (.inl ⟨by decide +kernel, by decide +kernel, fun _ _ => rfl⟩)
  | 8, _ => .inr (.inl ⟨by decide +kernel, by decide +kernel, fun _ _ => rfl⟩)
  | 9, _ => .inr (.inl ⟨by decide +kernel, by decide +kernel, fun _ _ => rfl⟩)
  | 10, _ => .inr (.inl ⟨by decide +kernel, by decide +kernel, fun _ _ => rfl⟩)
  | 11, _ => .inr (.inl ⟨by decide +kernel, by decide +kernel, fun _ _ => rfl⟩)
  | 12, _ => .inr (.inl ⟨by decide +kernel, by decide +kernel, fun _ _ => rfl⟩)
  | 13, _ => .inl ⟨by decide +kernel, by decide +kernel, fun _ _ => rfl⟩
  | 14, _ => .inr (.inl ⟨by decide +kernel, by decide +kernel, fun _ _ => rfl⟩)
  | 15, _ => .inr (.inl ⟨by decide +kernel, by decide +kernel, fun _ _ => rfl⟩)
  | 16, _ => .inr (.inl ⟨by decide +kernel, by decide +kernel, fun _ _ => rfl⟩)
  | 17, _ => .inr (.inl ⟨by decide +kernel, by decide +kernel, fun _ _ => rfl⟩)
  | 18, _ => .inr (.inr ⟨by decide +kernel, by decide +kernel, fun _ _ => rfl⟩)
  | 19, _ => .inl ⟨by decide +kernel, by decide +kernel, fun _ _ => rfl⟩
  | 20, _ => .inl ⟨by decide +kernel, by decide +kernel, fun _ _ => rfl⟩
  | 21, _ => .inl ⟨by decide +kernel, by decide +kernel, fun _ _ => rfl⟩
  | n + 22, h => absurd h (by omega)
/-- a value that the law hands to errors -/
def SvP (p : Addr) (H : Hp) (x : V) : Prop := ∃ d e, Vd (fun b => b = p) H 2 x d e ∧ Sz d 100 3 ∧ ∀ z, x = .str z → z.length ≤ 1000
theorem SvP.ext {p c : Nat} {H H' : Hp} {x : V} (h : SvP p H x) (e : Ext p H H') (P : PenAt H p c) : SvP p H' x := by
  obtain ⟨d, e', h1, h2, h3⟩ := h
  exact ⟨d, e', h1.kv (Kv.ext (av := fun b => b = p) e P rfl), h2, h3⟩
theorem SvP.same {p : Nat} {H H' : Hp} {x : V} (h : SvP p H x) (s : Same H H') : SvP p H' x := by
  obtain ⟨d, e', h1, h2, h3⟩ := h
  exact ⟨d, e', h1.same s, h2, h3⟩
theorem SvP.sh {p : Nat} {H : Hp} {x : V} (h : SvP p H x) : ShV H x := by
  obtain ⟨d, e', h1, h2, h3⟩ := h
  have : ∃ t, Kd H x t := by
    cases h1 with
    | non => exact ⟨_, .non⟩
    | bl b => exact ⟨_, .bl b⟩
    | int i => exact ⟨_, .int i⟩
    | str z => exact ⟨_, .str z⟩
    | lst _ e _ _ => exact ⟨_, .lst e⟩
    | tup e _ _ => exact ⟨_, .tup e⟩
    | dic e _ _ _ _ _ => exact ⟨_, .dK e⟩
  obtain ⟨t, k⟩ := this
  exact ⟨t, k, h3⟩
theorem SvP.all {p : Nat} {H : Hp} : ∀ {xs : List V}, (∀ x ∈ xs, SvP p H x) → xs.length ≤ 3 → ∃ ds, DbAll H xs ds ∧ (PyData.list ds).showable = true ∧ (PyData.list ds).depth ≤ 60 ∧ (PyData.list ds).shown.length ≤ sizeLine := by
  have one : ∀ {xs : List V}, (∀ x ∈ xs, SvP p H x) → ∃ ds, DbAll H xs ds ∧ (∀ d ∈ ds, Sz d 100 3) ∧ ds.length = xs.length := by
    intro xs
    induction xs with
    | nil => exact fun _ => ⟨[], .nil, fun _ h => (by cases h), rfl⟩
    | cons x xs ih =>
      intro h
      obtain ⟨ds, h1, h2, h3⟩ := ih fun y hy => h y (List.mem_cons_of_mem _ hy)
      obtain ⟨d, e, g1, g2, _⟩ := h x (List.mem_cons_self ..)
      refine ⟨d :: ds, .cons g1.db h1, fun y hy => ?_, congrArg (· + 1) h3⟩
      rcases List.mem_cons.mp hy with rfl | hy
      · exact g2
      · exact h2 y hy
  intro xs h hl
  obtain ⟨ds, h1, h2, h3⟩ := one h
  have z := (Sz.list h2 (by omega)).1
  exact ⟨ds, h1, z.sh, Nat.le_trans z.dp (by decide), z.len (by decide)⟩
section
variable {P : Program} {w : World} {K : PySem.W.Frag} {mg : Str → Option Value} {base : Heap} {cs : Nat → Addr} {fFr fPr fIr fBp fBn fNm fG : Addr} {fdFr fdPr fdIr fdBp fdBn fdNm fdG : FuncData}
theorem lw_laps {f : Addr} {cdv : Value} {A : Around} {outer : List Env} {s : Shared} {H : Hp} {E : XK} {tr : L2.TS} (B : Blt mg)
    (FR : FnTM P w K mg base CX0 9 "_law_fixed_right" fFr fdFr ["_law_pen_here"] spFr) (PR : FnTM P w K mg base CX0 15 "_law_papers_right" fPr fdPr ["_law_pen_here"] spPr) (hgd : (A.deeper (envOfC "law" (defScope sLaw) s.heap.objs.size f cdv)).guards = some []) (hmo : NoMod H s) (hr : Room 17 (A.deeper (envOfC "law" (defScope sLaw) s.heap.objs.size f cdv))) (hx : PSs (cxOf CX0 P w K mg base lawN "law" (defScope sLaw) f cdv A outer s H E).nox ((defBody sLaw).drop 4) tr) :
    ∃ t, PSs (cxOf CX0 P w K mg base lawN "law" (defScope sLaw) f cdv A outer s H E).nox ((defBody sLaw).drop 3) t ∧ ∀ (D : Ends) (p : Nat) (v0 v2 v3 v4 v5 v6 v7 v8 v9 : Option V) (H : Hp), PenAt H p 100 → (∀ H' v7, tr D [v0, some (.ref p), v2, v3, v4, v5, v6, v7, v8, v9] H') → t D [v0, some (.ref p), v2, v3, v4, v5, v6, v7, v8, v9] H := by
  refine ⟨_, pss_cons (ps_for PassesOwn.never rfl (pi_range1 (by rfl) B.range (pa_cons pe_int pa_nil)) (pg_name (i := 7) scLaw.nd rfl (Or.inl rfl)) (pss_one (ps_if (PW.pt (pw_or (pt_not (pt_val (MyM.pe_callM FR.ok hgd hmo rfl (hr.mono (by decide)) (by rfl) FR.g FR.kp FR.bn .nil pass0 (pa_cons (pv 1) pa_nil)))) (pw_or1 (pt_not (pt_val (MyM.pe_callM PR.ok hgd hmo rfl (hr.mono (by decide)) (by rfl) PR.g PR.kp PR.bn .nil pass0 (pa_cons (pv 1) pa_nil))))))) (pss_one (ps_ret pe_bl)) pss_nil))) hx, fun D p v0 v2 v3 v4 v5 v6 v7 v8 v9 H0 PN k => ?_⟩
  refine ⟨8, rfl, by decide, by decide, ?_⟩
  have c3 : cN 3 ≤ 100 := by decide
  have c2 : cN 2 * 3 ≤ 90 := by decide
  refine for_it (walk_range (lo := 0) (n := 8)) (fun i σ H' => PenAt H' p (100 + 200 * i) ∧ ∃ v7, σ = [v0, some (.ref p), v2, v3, v4, v5, v6, v7, v8, v9]) ⟨PN, _, rfl⟩ (fun _ _ _ _ _ => trivial) (fun i x σ H2 H3 hi q y => ?_) (fun σ H2 q => ?_)
  · obtain ⟨P2, v7', rfl⟩ := q
    obtain ⟨rfl, rfl⟩ := y
    have hi : i < 8 := hi
    refine ⟨_, rfl, p, _, rfl, P2, by omega, fun H4 e4 P4 => ⟨_, rfl, iteF ?_⟩⟩
    refine ⟨_, rfl, p, _, rfl, P4, by omega, fun H5 e5 P5 => ⟨_, rfl, iteF ⟨P5.mono (by omega), _, rfl⟩⟩⟩
  · obtain ⟨P2, v7', rfl⟩ := q
    exact k _ _
def forB : Stmt → List Stmt
  | .For _ _ b _ _ => b
  | _ => []
def errB : List Stmt := forB ((defBody sLaw).getD 2 (.Pass ⟨0, 0, 0, 0⟩))
theorem lw_45 {f : Addr} {cdv : Value} {A : Around} {outer : List Env} {s : Shared} {H : Hp} {E : XK} (B : Blt mg)
    (BP : FnT P w K mg base CX0 4 "_law_by_place" fBp fdBp byN (spBy cs)) (BN : FnT P w K mg base CX0 4 "_law_by_name" fBn fdBn byN (spBy cs)) (IR : FnTM P w K mg base CX0 4 "_law_is_right" fIr fdIr irN (spIr cs)) (hgd : (A.deeper (envOfC "law" (defScope sLaw) s.heap.objs.size f cdv)).guards = some []) (hmo : NoMod H s) (hr : Room 17 (A.deeper (envOfC "law" (defScope sLaw) s.heap.objs.size f cdv))) :
    ∃ t, PSs (cxOf CX0 P w K mg base lawN "law" (defScope sLaw) f cdv A outer s H E).nox (errB.drop 3) t ∧ ∀ (D : Ends) (p j u : Nat) (nm : Str) (one two : V) (v0 v1 v2 v7 v8 v9 : Option V) (H : Hp), nms[j]? = some nm → SvP p H one → SvP p H two → H u = some (.lst (outs j one two)) →
      (∀ H', Same H H' → D.nx [v0, v1, v2, some (.str nm), some one, some two, some (.ref u), v7, v8, v9] H') → t D [v0, v1, v2, some (.str nm), some one, some two, some (.ref u), v7, v8, v9] H := by
  refine ⟨_, (pss_cons (ps_if (pt_not (pt_val (MyM.pe_callM IR.ok hgd hmo rfl (hr.mono (by decide)) (by rfl) IR.g IR.kp IR.bn .nil pass0 (pa_cons (pv 3) (pa_cons (pe_call BP.ok (hr.mono (by decide)) (by rfl) BP.g BP.kp BP.bn .nil pass0 (pa_cons (pv 3) (pa_cons (pv 4) (pa_cons (pv 5) pa_nil)))) (pa_cons (pv 6) pa_nil)))))) (pss_one (ps_ret pe_bl)) pss_nil)
      (pss_one (ps_if (pt_not (pt_val (MyM.pe_callM IR.ok hgd hmo rfl (hr.mono (by decide)) (by rfl) IR.g IR.kp IR.bn .nil pass0 (pa_cons (pv 3) (pa_cons (pe_call BN.ok (hr.mono (by decide)) (by rfl) BN.g BN.kp BN.bn .nil pass0 (pa_cons (pv 3) (pa_cons (pv 5) (pa_cons (pv 4) pa_nil)))) (pa_cons (pe_ifExp (pt_cmpR op_eq (pe_callB call_len_seq (by rfl) B.len PySem.boot_len (pa_cons (pv 6) pa_nil)) pe_int (nomark _)) (pe_revL (pv 6)) (pe_slice sl_list (pe_lst (pa_cons (pv 5) pa_nil)) po_none (po_some (pe_callB call_len_seq (by rfl) B.len PySem.boot_len (pa_cons (pv 6) pa_nil))))) pa_nil)))))) (pss_one (ps_ret pe_bl)) pss_nil))), fun D p j u nm one two v0 v1 v2 v7 v8 v9 H0 hnm sv1 sv2 hu k => ?_⟩
  have hj : j < 22 := (List.getElem?_eq_some_iff.mp hnm).1
  obtain ⟨ds, db, sh, dp, ln⟩ := SvP.all (xs := outs j one two) (p := p) (H := H0) (fun x hx => by
    rcases oc j hj with ⟨_, _, o⟩ | ⟨_, _, o⟩ | ⟨_, _, o⟩ <;> rw [o] at hx
    · rcases List.mem_cons.mp hx with rfl | hx
      · exact sv1
      · obtain rfl := List.mem_singleton.mp hx
        exact sv2
    · obtain rfl := List.mem_singleton.mp hx
      exact sv1
    · cases hx) (by rcases oc j hj with ⟨_, _, o⟩ | ⟨_, _, o⟩ | ⟨_, _, o⟩ <;> rw [o] <;> simp)
  obtain ⟨es, db2, sh2, dp2, ln2⟩ := SvP.all (xs := outs j two one) (p := p) (H := H0) (fun x hx => by
    rcases oc j hj with ⟨_, _, o⟩ | ⟨_, _, o⟩ | ⟨_, _, o⟩ <;> rw [o] at hx
    · rcases List.mem_cons.mp hx with rfl | hx
      · exact sv2
      · obtain rfl := List.mem_singleton.mp hx
        exact sv1
    · obtain rfl := List.mem_singleton.mp hx
      exact sv2
    · cases hx) (by rcases oc j hj with ⟨_, _, o⟩ | ⟨_, _, o⟩ | ⟨_, _, o⟩ <;> rw [o] <;> simp)
  refine ⟨_, rfl, _, rfl, _, rfl, _, rfl, j, nm, one, two, rfl, hnm, sv1.sh, sv2.sh, fun a H6 s6 fa er => ?_⟩
  refine ⟨_, rfl, j, a, u, nm, one, two, ds, rfl, hnm, er, s6 _ _ hu, DbAll.same s6 db, sh, dp, ln, fun H7 s7 => ⟨_, rfl, iteF ?_⟩⟩
  have s57 := Same.trans s6 s7
  have sv1 := sv1.same s57
  have sv2 := sv2.same s57
  have hu7 := s57 _ _ hu
  have db7 := DbAll.same s57 db2
  clear er s6 s7 db hu
  refine ⟨_, rfl, _, rfl, _, rfl, _, rfl, j, nm, two, one, rfl, hnm, sv2.sh, sv1.sh, fun b H8 s8 fb er => ?_⟩
  have hu8 := s8 _ _ hu7
  have s58 := Same.trans s57 s8
  have db8 := DbAll.same s8 db7
  refine ⟨_, rfl, u, _, rfl, .inl (SqL.of hu8), rfl, _, rfl, ?_⟩
  have fin : ∀ (r : Addr) (G : Hp), Same H8 G → G r = some (.lst (outs j two one)) → spIr cs [.str nm, .ref b, .ref r] G (fun x H1 => ∃ c, x = V.bl c ∧ if (!c) = true then tRet (tC (V.bl false)) D [v0, v1, v2, some (.str nm), some one, some two, some (.ref u), v7, v8, v9] H1 else tNext D [v0, v1, v2, some (.str nm), some one, some two, some (.ref u), v7, v8, v9] H1) E0 :=
    fun r G sg hr => ⟨j, b, r, nm, two, one, es, rfl, hnm, er.same sg, hr, DbAll.same sg db8, sh2, dp2, ln2, fun H' s' => ⟨true, rfl, iteF (k _ (Same.trans s58 (Same.trans sg s')))⟩⟩
  have cut : ∀ (z : List V), z.length = 1 ∨ z.length = 0 → cutV [two] none (some (z.length : Int)) = (if z.length = 1 then [two] else []) := fun z hz => by
    rw [cut_takeG]
    rcases hz with h | h <;> rw [h] <;> rfl
  rcases oc j hj with ⟨_, _, o⟩ | ⟨_, _, o⟩ | ⟨_, _, o⟩
  · have ed : decide (V.int ((outs j one two).length : Int) = V.int 2) = true := by
      rw [o]
      rfl
    rw [ed]
    refine iteT ⟨_, rfl, u, _, rfl, SqL.of hu8, fun r fr => ?_⟩
    exact fin r _ (same_upd fr) (by rw [upd_same, o, o]; rfl)
  · have ed : decide (V.int ((outs j one two).length : Int) = V.int 2) = false := by
      rw [o]
      exact decide_eq_false fun h => by
        have := V.int.inj h
        simp at this
    rw [ed]
    refine iteF ⟨_, rfl, (show 1 ≤ sizeLine by decide), fun l fl => ?_⟩
    have z1 := same_upd (o := .lst [two]) fl
    refine ⟨_, rfl, u, _, rfl, .inl (SqL.of (z1 _ _ hu8)), _, rfl, l, [two], rfl, SqL.of upd_same, fun r fr => ?_⟩
    rw [cut _ (.inl (by rw [o]; rfl))]
    exact fin r _ (Same.trans z1 (same_upd fr)) (by rw [upd_same, o, o]; rfl)
  · have ed : decide (V.int ((outs j one two).length : Int) = V.int 2) = false := by
      rw [o]
      exact decide_eq_false fun h => by
        have := V.int.inj h
        simp at this
    rw [ed]
    refine iteF ⟨_, rfl, (show 1 ≤ sizeLine by decide), fun l fl => ?_⟩
    have z1 := same_upd (o := .lst [two]) fl
    refine ⟨_, rfl, u, _, rfl, .inl (SqL.of (z1 _ _ hu8)), _, rfl, l, [two], rfl, SqL.of upd_same, fun r fr => ?_⟩
    rw [cut _ (.inr (by rw [o]; rfl))]
    exact fin r _ (Same.trans z1 (same_upd fr)) (by rw [upd_same, o, o]; rfl)
theorem lw_errs {f : Addr} {cdv : Value} {A : Around} {outer : List Env} {s : Shared} {H : Hp} {E : XK} {tr : L2.TS} (B : Blt mg) (G : FnT P w K mg base CX0 2 "_law_pick" fG fdG ["_law_pen_here", "_law_some"] spPick) (NM : FnT P w K mg base CX0 1 "_law_names" fNm fdNm [] spNa)
    (BP : FnT P w K mg base CX0 4 "_law_by_place" fBp fdBp byN (spBy cs)) (BN : FnT P w K mg base CX0 4 "_law_by_name" fBn fdBn byN (spBy cs)) (IR : FnTM P w K mg base CX0 4 "_law_is_right" fIr fdIr irN (spIr cs)) (hgd : (A.deeper (envOfC "law" (defScope sLaw) s.heap.objs.size f cdv)).guards = some []) (hmo : NoMod H s) (hr : Room 17 (A.deeper (envOfC "law" (defScope sLaw) s.heap.objs.size f cdv))) (hx : PSs (cxOf CX0 P w K mg base lawN "law" (defScope sLaw) f cdv A outer s H E).nox ((defBody sLaw).drop 3) tr) :
    ∃ t, PSs (cxOf CX0 P w K mg base lawN "law" (defScope sLaw) f cdv A outer s H E).nox ((defBody sLaw).drop 2) t ∧ ∀ (D : Ends) (p l : Nat) (xs : List V) (v0 v3 v4 v5 v6 v7 v8 v9 : Option V) (H : Hp), PenAt H p 0 → l ≠ p → H l = some (.lst xs) → 0 < xs.length → xs.length < 1000 → (∀ x ∈ xs, SvP p H x) →
      (∀ H' v3 v4 v5 v6, PenAt H' p 100 → tr D [v0, some (.ref p), some (.ref l), v3, v4, v5, v6, v7, v8, v9] H') → t D [v0, some (.ref p), some (.ref l), v3, v4, v5, v6, v7, v8, v9] H := by
  obtain ⟨t45, x45, k45⟩ := lw_45 (E := E) (f := f) (cdv := cdv) (A := A) (outer := outer) (s := s) (H := H) B BP BN IR hgd hmo hr
  refine ⟨_, pss_cons (ps_for PassesOwn.never rfl (pi_list (pe_call0 NM.ok (hr.mono (by decide)) (by rfl) NM.g NM.kp NM.bn .nil pass0)) (pg_name (i := 3) scLaw.nd rfl (Or.inl rfl)) (pss_cons (ps_par (i := 4) (j := 5) (by rfl) scLaw.nd rfl rfl (by decide) rfl rfl (pa_cons (pe_call G.ok (hr.mono (by decide)) (by rfl) G.g G.kp G.bn .nil pass0 (pa_cons (pv 1) (pa_cons (pv 2) pa_nil))) (pa_cons (pe_call G.ok (hr.mono (by decide)) (by rfl) G.g G.kp G.bn .nil pass0 (pa_cons (pv 1) (pa_cons (pv 2) pa_nil))) pa_nil)) (by rfl)) (pss_cons (ps_set (i := 6) scLaw.nd rfl (Or.inl rfl) (pe_ifExp (pt_cmpR op_in_seq (pv 3) (pe_lst (pa_cons pe_str (pa_cons pe_str (pa_cons pe_str (pa_cons pe_str pa_nil))))) (by rfl)) (pe_lst (pa_cons (pv 4) (pa_cons (pv 5) pa_nil))) (pe_lst (pa_cons (pv 4) pa_nil)))) (pss_cons (ps_set (i := 6) scLaw.nd rfl (Or.inl rfl) (pe_ifExp (pt_cmpR op_eq (pv 3) pe_str (nomark _)) (pe_lst pa_nil) (pv 6))) x45)))) hx, fun D p l xs v0 v3 v4 v5 v6 v7 v8 v9 H0 PN lp hl x0 x1 hv k => ?_⟩
  refine ⟨rfl, fun nl H1 s1 fn hn => ?_⟩
  have P1 := PN.same s1
  have nlp : nl ≠ p := PN.ne fn
  have hl1 := s1 _ _ hl
  have hv1 : ∀ x ∈ xs, SvP p H1 x := fun x hx => (hv x hx).same s1
  clear hv hl fn s1 PN
  refine ⟨nl, rfl, ⟨_, SqL.of hn⟩, ?_⟩
  refine for_it (walk_list (K := K) (a := nl) (xs := nms.map V.str)) (fun i σ H' => Ext p H1 H' ∧ PenAt H' p (2 * i) ∧ ∃ v3 v4 v5 v6, σ = [v0, some (.ref p), some (.ref l), v3, v4, v5, v6, v7, v8, v9]) ⟨Ext.refl _ _, P1, _, _, _, _, rfl⟩ (fun i σ H' _ q => SqL.of (q.1.keep _ _ hn nlp)) (fun j x σ H2 H3 hi q y => ?_) (fun σ H2 q => ?_)
  · obtain ⟨e2, P2, a3, a4, a5, a6, rfl⟩ := q
    obtain ⟨rfl, hx⟩ := y
    have hj : j < 22 := hi
    rw [List.getElem?_map] at hx
    obtain ⟨nm, hnm, rfl⟩ := Option.map_eq_some_iff.mp hx
    have en : nms.getD j "" = nm := by
      rw [List.getD_eq_getElem?_getD, hnm]
      rfl
    refine ⟨_, rfl, _, rfl, p, l, xs, 2 * j, rfl, lp, e2.keep _ _ hl1 lp, x0, x1, P2, by omega, fun i1 one H4 h1 e4 P4 => ?_⟩
    have e14 := e2.trans e4
    refine ⟨_, rfl, _, rfl, p, l, xs, 2 * j + 1, rfl, lp, e14.keep _ _ hl1 lp, x0, x1, P4, by omega, fun i2 two H5 h2 e5 P5 => ?_⟩
    have e15 := e14.trans e5
    have sv1 := (hv1 one (List.mem_of_getElem? h1)).ext e15 P1
    have sv2 := (hv1 two (List.mem_of_getElem? h2)).ext e15 P1
    clear e14 e4 e5 e2 P2 P4 h1 h2
    refine ⟨_, _, rfl, ?_⟩
    refine ⟨_, rfl, (show 4 ≤ sizeLine by decide), fun l4 fl4 => ⟨l4, four, rfl, .inl (SqL.of upd_same), rfl, rfl, ?_⟩⟩
    have s6 := same_upd (o := .lst [V.str "NoNode", V.str "TooMany", V.str "BadText", V.str "BadLine"]) fl4
    have sv1 := sv1.same s6
    have sv2 := sv2.same s6
    have P6 := P5.same s6
    have e16 := e15.trans (.of s6)
    generalize upd H5 l4 (.lst [V.str "NoNode", V.str "TooMany", V.str "BadText", V.str "BadLine"]) = H6 at s6 sv1 sv2 P6 e16
    clear e15 P5 s6 fl4
    have fin : ∀ (u : Addr) (G : Hp), Same H6 G → G u = some (.lst (outs j one two)) → ∀ H', Same G H' → (Ext p H1 H' ∧ PenAt H' p (2 * (j + 1)) ∧ ∃ v3 v4 v5 v6, [v0, some (V.ref p), some (.ref l), some (.str nm), some one, some two, some (.ref u), v7, v8, v9] = [v0, some (.ref p), some (.ref l), v3, v4, v5, v6, v7, v8, v9]) :=
      fun u G sg _ H' s' => ⟨e16.trans (.of (Same.trans sg s')), (P6.same (Same.trans sg s')).mono (by omega), _, _, _, _, rfl⟩
    rcases oc j hj with ⟨o1, o2, o3⟩ | ⟨o1, o2, o3⟩ | ⟨o1, o2, o3⟩ <;> rw [en] at o1 o2
    · refine ⟨true, congrArg V.bl o1, iteT ⟨_, rfl, _, rfl, (show 2 ≤ sizeLine by decide), fun u fu => ?_⟩⟩
      have z := same_upd (o := .lst [one, two]) fu
      have hu : upd H6 u (.lst [one, two]) u = some (.lst (outs j one two)) := by rw [upd_same, o3]
      refine ⟨_, rfl, rfl, _, rfl, ?_⟩
      rw [o2]
      refine iteF ⟨_, rfl, ?_⟩
      exact k45 _ p j u nm one two _ _ _ _ _ _ _ hnm (sv1.same z) (sv2.same z) hu (fin u _ z hu)
    · refine ⟨false, congrArg V.bl o1, iteF ⟨_, rfl, (show 1 ≤ sizeLine by decide), fun u fu => ?_⟩⟩
      have z := same_upd (o := .lst [one]) fu
      have hu : upd H6 u (.lst [one]) u = some (.lst (outs j one two)) := by rw [upd_same, o3]
      refine ⟨_, rfl, rfl, _, rfl, ?_⟩
      rw [o2]
      refine iteF ⟨_, rfl, ?_⟩
      exact k45 _ p j u nm one two _ _ _ _ _ _ _ hnm (sv1.same z) (sv2.same z) hu (fin u _ z hu)
    · refine ⟨false, congrArg V.bl o1, iteF ⟨_, rfl, (show 1 ≤ sizeLine by decide), fun u0 fu0 => ?_⟩⟩
      have z0 := same_upd (o := .lst [one]) fu0
      refine ⟨_, rfl, rfl, _, rfl, ?_⟩
      rw [o2]
      refine iteT ⟨(show 0 ≤ sizeLine by decide), fun u fu => ?_⟩
      have z := Same.trans z0 (same_upd (o := .lst []) fu)
      have hu : upd (upd H6 u0 (.lst [one])) u (.lst []) u = some (.lst (outs j one two)) := by rw [upd_same, o3]
      exact k45 _ p j u nm one two _ _ _ _ _ _ _ hnm (sv1.same z) (sv2.same z) hu (fin u _ z hu)
  · obtain ⟨e2, P2, a3, a4, a5, a6, rfl⟩ := q
    exact k _ _ _ _ _ (P2.mono (show 2 * 22 ≤ 100 by decide))
end
end K00
set_option Elab.async false
set_option linter.all false
set_option maxRecDepth 100000
set_option maxHeartbeats 2000000
namespace K00
open PySem PySem.Spec PyProof.Rows L2 My MyX MyE MyD MyO MyQ MyU MyV MyRd
section
variable {P : Program} {w : World} {K : PySem.W.Frag} {mg : Str → Option Value} {base : Heap} {cs : Nat → Addr} {PA DE fPi fDi fPe fDe fPb fDb fX fGp fFr fPr fIr fBp fBn fNm fG : Addr} {fdX fdGp fdFr fdPr fdIr fdBp fdBn fdNm fdG : FuncData}
def spLaw (K : PySem.W.Frag) : Sp := fun vs H Q _ => ∃ (a : Addr) (ns : List Int), vs = [.ref a] ∧ SqL K H a (ns.map V.int) ∧ ns.length ≤ 63 ∧ ∀ H', Q (.bl true) H'
theorem ok_law {f : Addr} {fd : FuncData} (F : Fun K "law" "law" sLaw f fd) (B : Blt mg) (T : EqT P w K mg base PA DE fPe fDe fPb fDb) (MT : MkT P w K mg base PA DE fPi fDi 5) (FX : FnT P w K mg base CX0 5 "fixed" fX fdX ["value"] (spFixed 3))
    (GP : FnT P w K mg base CX0 1 "_law_pen" fGp fdGp ["_law_script"] (spPen K)) (G : FnT P w K mg base CX0 2 "_law_pick" fG fdG ["_law_pen_here", "_law_some"] spPick) (NM : FnT P w K mg base CX0 1 "_law_names" fNm fdNm [] spNa)
    (BP : FnT P w K mg base CX0 4 "_law_by_place" fBp fdBp byN (spBy cs)) (BN : FnT P w K mg base CX0 4 "_law_by_name" fBn fdBn byN (spBy cs)) (IR : FnTM P w K mg base CX0 4 "_law_is_right" fIr fdIr irN (spIr cs))
    (FR : FnTM P w K mg base CX0 9 "_law_fixed_right" fFr fdFr ["_law_pen_here"] spFr) (PR : FnTM P w K mg base CX0 15 "_law_papers_right" fPr fdPr ["_law_pen_here"] spPr) : MyM.FnM P w K mg base CX0 18 f fd ["_law_script"] (spLaw K) := by
  refine fun_okM F (k := 17) scLaw (fun vs H Q E h => ?_) (fun cdv A outer s H vs Q E hgd hmo hr h => ?_)
  · obtain ⟨a, ns, rfl, _⟩ := h
    rfl
  · obtain ⟨sa, ns, rfl, hS, hl, q⟩ := h
    obtain ⟨t4, x4, k4⟩ := lw_end (E := E) (f := f) (cdv := cdv) (A := A) (outer := outer) (s := s) (H := H) T MT FX hr
    obtain ⟨t3, x3, k3⟩ := lw_laps B FR PR hgd hmo hr x4
    obtain ⟨t2, x2, k2⟩ := lw_errs B G NM BP BN IR hgd hmo hr x3
    refine ⟨_, pss_cons (ps_set (i := 1) scLaw.nd rfl (Or.inl rfl) (pe_call GP.ok (hr.mono (by decide)) (by rfl) GP.g GP.kp GP.bn .nil pass0 (pa_cons (pv 0) pa_nil))) (pss_cons (ps_set (i := 2) scLaw.nd rfl (Or.inl rfl) (pe_lst (pa_cons pe_non (pa_cons pe_int (pa_cons pe_bl (pa_cons (pe_un un_neg pe_int) (pa_cons (pe_op op_pow pe_int pe_int) (pa_cons pe_str (pa_cons pe_str (pa_cons pe_str (pa_cons (pe_tup (pa_cons pe_int (pa_cons (pe_lst (pa_cons pe_int pa_nil)) pa_nil))) (pa_cons (pe_lst pa_nil) (pa_cons pe_dnewK (pa_cons (pe_lst (pa_cons pe_str (pa_cons pe_non pa_nil))) pa_nil)))))))))))))) x2), ?_⟩
    refine ⟨_, rfl, sa, ns, rfl, hS, hl, fun p H1 s1 fp PN => ?_⟩
    refine ⟨_, rfl, _, _, rfl, rfl, ⟨by decide, by decide, by decide⟩, (show 1 ≤ sizeLine by decide), fun l2 fl2 => ⟨(show 2 ≤ sizeLine by decide), fun t ft => ⟨(show 0 ≤ sizeLine by decide), fun l1 fl1 => fun d fd => ⟨(show 2 ≤ sizeLine by decide), fun l3 fl3 => ⟨(show 12 ≤ sizeLine by decide), fun l fl => ?_⟩⟩⟩⟩⟩
    have z0 := same_upd (o := .lst [.int 2]) fl2
    have h2 : upd H1 l2 (.lst [.int 2]) l2 = some (.lst [.int 2]) := upd_same
    generalize upd H1 l2 (.lst [.int 2]) = A0 at z0 h2 ft fl1 fd fl3 fl ⊢
    have z1 := same_upd (o := .tup [.int 1, .ref l2]) ft
    have ht : upd A0 t (.tup [.int 1, .ref l2]) t = some (.tup [.int 1, .ref l2]) := upd_same
    generalize upd A0 t (.tup [.int 1, .ref l2]) = A1 at z1 ht fl1 fd fl3 fl ⊢
    have z2 := same_upd (o := .lst []) fl1
    have h1 : upd A1 l1 (.lst []) l1 = some (.lst []) := upd_same
    generalize upd A1 l1 (.lst []) = A2 at z2 h1 fd fl3 fl ⊢
    have z3 := same_upd (o := .dK []) fd
    have hd : upd A2 d (.dK []) d = some (.dK []) := upd_same
    generalize upd A2 d (.dK []) = A3 at z3 hd fl3 fl ⊢
    have z4 := same_upd (o := .lst [.str "x", .non]) fl3
    have h3 : upd A3 l3 (.lst [.str "x", .non]) l3 = some (.lst [.str "x", .non]) := upd_same
    generalize upd A3 l3 (.lst [.str "x", .non]) = A4 at z4 h3 fl ⊢
    have zf := fun (o : HO) => same_upd (o := o) fl
    have z01 := Same.trans z0 z1
    have z23 := Same.trans z2 z3
    have P4 := (PN.same z01).same (Same.trans z23 z4)
    have lop : l ≠ p := P4.ne fl
    have l2p : l2 ≠ p := PN.ne fl2
    have l1p : l1 ≠ p := (PN.same z01).ne fl1
    have l3p : l3 ≠ p := ((PN.same z01).same z23).ne fl3
    have h2 := z4 _ _ (z23 _ _ (z1 _ _ h2))
    have ht := z4 _ _ (z23 _ _ ht)
    have h1 := z4 _ _ (z3 _ _ h1)
    have hd := z4 _ _ hd
    clear z0 z1 z2 z3 z4 z01 z23 PN fl2 ft fl1 fd fl3
    refine k2 _ p l _ _ _ _ _ _ _ _ _ _ (P4.same (zf _)) lop upd_same (show 0 < 12 by decide) (show 12 < 1000 by decide) (fun x hx => SvP.same (H := A4) ?_ (zf _)) fun H2 v3 v4 v5 v6 P2 => k3 _ _ _ _ _ _ _ _ _ _ _ _ P2 fun H3 v7 => k4 _ _ _ _ _ _ _ _ _ _ _ _ q
    have nos : ∀ {x : V}, (∀ z, x ≠ .str z) → ∀ z, x = .str z → z.length ≤ 1000 := fun n z e => absurd e (n z)
    simp only [List.mem_cons, List.not_mem_nil, or_false] at hx
    rcases hx with rfl | rfl | rfl | rfl | rfl | rfl | rfl | rfl | rfl | rfl | rfl | rfl
    · exact ⟨_, _, .non, ⟨by decide +kernel, by decide +kernel, by decide +kernel, by decide +kernel⟩, nos fun z q => nomatch q⟩
    · exact ⟨_, _, .int 0, ⟨by decide +kernel, by decide +kernel, by decide +kernel, by decide +kernel⟩, nos fun z q => nomatch q⟩
    · exact ⟨_, _, .bl true, ⟨by decide +kernel, by decide +kernel, by decide +kernel, by decide +kernel⟩, nos fun z q => nomatch q⟩
    · exact ⟨_, _, .int (-5), ⟨by decide +kernel, by decide +kernel, by decide +kernel, by decide +kernel⟩, nos fun z q => nomatch q⟩
    · exact ⟨_, _, .int (10 ^ (30 : Int).toNat), ⟨by decide +kernel, by decide +kernel, by decide +kernel, by decide +kernel⟩, nos fun z q => nomatch q⟩
    · exact ⟨_, _, .str "", ⟨by decide +kernel, by decide +kernel, by decide +kernel, by decide +kernel⟩, fun z q => by cases q; decide +kernel⟩
    · exact ⟨_, _, .str "z0", ⟨by decide +kernel, by decide +kernel, by decide +kernel, by decide +kernel⟩, fun z q => by cases q; decide +kernel⟩
    · exact ⟨_, _, .str "words", ⟨by decide +kernel, by decide +kernel, by decide +kernel, by decide +kernel⟩, fun z q => by cases q; decide +kernel⟩
    · exact ⟨_, _, .tup ht (show 2 ≤ 10 by decide) (.cons (.int 1) (.cons (.lst l2p h2 (show 1 ≤ 10 by decide) (.cons (.int 2) .nil)) .nil)), ⟨by decide +kernel, by decide +kernel, by decide +kernel, by decide +kernel⟩, nos fun z q => nomatch q⟩
    · exact ⟨_, _, .lst l1p h1 (show 0 ≤ 10 by decide) .nil, ⟨by decide +kernel, by decide +kernel, by decide +kernel, by decide +kernel⟩, nos fun z q => nomatch q⟩
    · have asc : Asc [] [] := fun ns ss h1 _ h3 _ => by
        obtain rfl := List.perm_nil.mp h1
        obtain rfl := List.perm_nil.mp h3
        rfl
      exact ⟨_, _, .dic hd (show 0 ≤ 10 by decide) .nil asc (show 0 ≤ 10 by decide) .nil, ⟨by decide +kernel, by decide +kernel, by decide +kernel, by decide +kernel⟩, nos fun z q => nomatch q⟩
    · exact ⟨_, _, .lst l3p h3 (show 2 ≤ 10 by decide) (.cons (.str "x") (.cons .non .nil)), ⟨by decide +kernel, by decide +kernel, by decide +kernel, by decide +kernel⟩, nos fun z q => nomatch q⟩
end
end K00
set_option Elab.async false
set_option linter.all false
set_option maxRecDepth 100000
set_option maxHeartbeats 2000000
set_option Elab.async false
set_option linter.all false
set_option maxRecDepth 100000
set_option maxHeartbeats 16000000
namespace K00
open PySem PySem.Spec PyProof.Rows L2 My MyX MyE MyD MyO MyQ MyU MyV MyRd
theorem glue {P : Program} {w : World} {K : PySem.W.Frag} {mg : Str → Option Value} {base : Heap} {cs : Nat → Addr} {TE MI PA DE fFx fAk fSh fP fD fG fBp fBn fKi fFl fNm fIr fVa fSp fPp fFr fPr fLa fE0 fE1 fE2 fE3 fE4 fE5 fE6 fE7 fE8 fE9 fE10 fE11 fE12 fE13 fE14 fE15 fE16 fE17 fE19 fE20 fE21 fPe fDe fPb fDb fPi fDi : Addr} {fdFx fdAk fdSh fdP fdD fdG fdBp fdBn fdKi fdFl fdNm fdIr fdVa fdSp fdPp fdFr fdPr fdLa fdE0 fdE1 fdE2 fdE3 fdE4 fdE5 fdE6 fdE7 fdE8 fdE9 fdE10 fdE11 fdE12 fdE13 fdE14 fdE15 fdE16 fdE17 fdE19 fdE20 fdE21 fdPe fdDe fdPb fdDb fdPi fdDi : FuncData}
    (B : Blt mg) (BE : BltE mg) (gS : ∃ t, mg "SHOWN" = some (.int 1000000000000 t)) (T0 : TopT K mg "ToolError" TE) (T1 : TopT K mg "Missing" MI)
    (bm18 : ∃ bmB initId, ExcBaseFacts "ValueError" "ValueError.__new__" initId bmB ∧ PySem.W.excIn K (cs 18) bmB "ValueError.__new__" = true) (gC18 : mg "Nothing" = some (.ref (cs 18))) (k18 : PySem.W.keepIn K (.ref (cs 18)) = true)
    (KI : KiT K mg cs) (FLT : FlT K cs) (UP : UpT K mg cs TE MI)
    (fxK : ∃ g, KBn K fdFx ["value"] 0 ["value"] g (fun vs zs => vs ++ zs))
    (PE : PapE K mg PA DE) (gDE : mg "Denial" = some (.ref DE)) (mP : Mk K PA fPi) (mD : Mk K DE fDi) (PIT : PaIT K mg PA fPi)
    (kPD : PySem.W.kitOne K (.ref PA) (.ref DE) = some false) (kDD : PySem.W.kitOne K (.ref DE) (.ref DE) = some true) (nPD : PA ≠ DE) (sDP : PySem.W.subIn K (.ref DE) (.ref PA) = some true) (nDP : PySem.W.notFirst K DE (.ref PA) = true)
    (p0 : PySem.W.notFirst K PA (.type "NoneType") = true) (p1 : PySem.W.notFirst K PA (.type "bool") = true) (p2 : PySem.W.notFirst K PA (.type "int") = true) (p3 : PySem.W.notFirst K PA (.type "str") = true) (p4 : PySem.W.notFirst K PA (.type "list") = true) (p5 : PySem.W.notFirst K PA (.type "tuple") = true) (p6 : PySem.W.notFirst K PA (.type "dict") = true)
    (d0 : PySem.W.notFirst K DE (.type "NoneType") = true) (d1 : PySem.W.notFirst K DE (.type "bool") = true) (d2 : PySem.W.notFirst K DE (.type "int") = true) (d3 : PySem.W.notFirst K DE (.type "str") = true) (d4 : PySem.W.notFirst K DE (.type "list") = true) (d5 : PySem.W.notFirst K DE (.type "tuple") = true) (d6 : PySem.W.notFirst K DE (.type "dict") = true)
    (aPe : PySem.W.findIn K (.ref PA) "__eq__" = some (some (.ref fPe))) (aDe : PySem.W.findIn K (.ref DE) "__eq__" = some (some (.ref fDe))) (oP : PySem.W.findIn K (.ref PA) "__ne__" = some (some (.builtin "object.__ne__"))) (oD : PySem.W.findIn K (.ref DE) "__ne__" = some (some (.builtin "object.__ne__")))
    (aPb : PySem.W.findIn K (.ref PA) "__bool__" = some (some (.ref fPb))) (aDb : PySem.W.findIn K (.ref DE) "__bool__" = some (some (.ref fDb)))
    (iPe : PySem.W.isFn K (.ref fPe) = true) (iDe : PySem.W.isFn K (.ref fDe) = true) (iPb : PySem.W.isFn K (.ref fPb) = true) (iDb : PySem.W.isFn K (.ref fDb) = true)
    (FFx : Fun K "fixed" "fixed" sFixed fFx fdFx)
    (gFx : mg "fixed" = some (.ref fFx))
    (FAk : Fun K "ascending_keys" "ascending_keys" sAsc fAk fdAk)
    (gAk : mg "ascending_keys" = some (.ref fAk))
    (FSh : Fun K "shown" "shown" sShown fSh fdSh)
    (gSh : mg "shown" = some (.ref fSh))
    (FP : Fun K "_law_pen" "_law_pen" sPen fP fdP)
    (gP : mg "_law_pen" = some (.ref fP))
    (FD : Fun K "_law_draw" "_law_draw" sDraw fD fdD)
    (gD : mg "_law_draw" = some (.ref fD))
    (FG : Fun K "_law_pick" "_law_pick" sPick fG fdG)
    (gG : mg "_law_pick" = some (.ref fG))
    (FBp : Fun K "_law_by_place" "_law_by_place" sByP fBp fdBp)
    (gBp : mg "_law_by_place" = some (.ref fBp))
    (FBn : Fun K "_law_by_name" "_law_by_name" sByN fBn fdBn)
    (gBn : mg "_law_by_name" = some (.ref fBn))
    (FKi : Fun K "_law_kinds" "_law_kinds" sKi fKi fdKi)
    (gKi : mg "_law_kinds" = some (.ref fKi))
    (FFl : Fun K "_law_fields" "_law_fields" sFl fFl fdFl)
    (gFl : mg "_law_fields" = some (.ref fFl))
    (FNm : Fun K "_law_names" "_law_names" sNa fNm fdNm)
    (gNm : mg "_law_names" = some (.ref fNm))
    (FIr : Fun K "_law_is_right" "_law_is_right" sIr fIr fdIr)
    (gIr : mg "_law_is_right" = some (.ref fIr))
    (FVa : Fun K "_law_value" "_law_value" sVa fVa fdVa)
    (gVa : mg "_law_value" = some (.ref fVa))
    (FSp : Fun K "_law_spoil" "_law_spoil" sSp fSp fdSp)
    (gSp : mg "_law_spoil" = some (.ref fSp))
    (FPp : Fun K "_law_paper" "_law_paper" sPp fPp fdPp)
    (gPp : mg "_law_paper" = some (.ref fPp))
    (FFr : Fun K "_law_fixed_right" "_law_fixed_right" sFr fFr fdFr)
    (gFr : mg "_law_fixed_right" = some (.ref fFr))
    (FPr : Fun K "_law_papers_right" "_law_papers_right" sPr fPr fdPr)
    (gPr : mg "_law_papers_right" = some (.ref fPr))
    (FLa : Fun K "law" "law" sLaw fLa fdLa)
    (gLa : mg "law" = some (.ref fLa))
    (FE0 : Fun K "__init__" "BadMachine.__init__" sI_BadMachine fE0 fdE0)
    (X0 : ExT K (cs 0) fE0) (gC0 : mg "BadMachine" = some (.ref (cs 0)))
    (n0_part : PySem.W.findIn K (.ref (cs 0)) "part" = some none)
    (kE0 : ∃ g, KBn K fdE0 ["self", "part"] 1 ["part"] g (fun vs zs => vs ++ zs))
    (FE1 : Fun K "__init__" "BadWords.__init__" sI_BadWords fE1 fdE1)
    (X1 : ExT K (cs 1) fE1) (gC1 : mg "BadWords" = some (.ref (cs 1)))
    (n1_part : PySem.W.findIn K (.ref (cs 1)) "part" = some none)
    (kE1 : ∃ g, KBn K fdE1 ["self", "part"] 1 ["part"] g (fun vs zs => vs ++ zs))
    (FE2 : Fun K "__init__" "BadBlock.__init__" sI_BadBlock fE2 fdE2)
    (X2 : ExT K (cs 2) fE2) (gC2 : mg "BadBlock" = some (.ref (cs 2)))
    (n2_part : PySem.W.findIn K (.ref (cs 2)) "part" = some none)
    (kE2 : ∃ g, KBn K fdE2 ["self", "part"] 1 ["part"] g (fun vs zs => vs ++ zs))
    (FE3 : Fun K "__init__" "BadProgram.__init__" sI_BadProgram fE3 fdE3)
    (X3 : ExT K (cs 3) fE3) (gC3 : mg "BadProgram" = some (.ref (cs 3)))
    (n3_part : PySem.W.findIn K (.ref (cs 3)) "part" = some none)
    (kE3 : ∃ g, KBn K fdE3 ["self", "part"] 1 ["part"] g (fun vs zs => vs ++ zs))
    (FE4 : Fun K "__init__" "BadSum.__init__" sI_BadSum fE4 fdE4)
    (X4 : ExT K (cs 4) fE4) (gC4 : mg "BadSum" = some (.ref (cs 4)))
    (n4_part : PySem.W.findIn K (.ref (cs 4)) "part" = some none)
    (kE4 : ∃ g, KBn K fdE4 ["self", "part"] 1 ["part"] g (fun vs zs => vs ++ zs))
    (FE5 : Fun K "__init__" "BadMap.__init__" sI_BadMap fE5 fdE5)
    (X5 : ExT K (cs 5) fE5) (gC5 : mg "BadMap" = some (.ref (cs 5)))
    (n5_part : PySem.W.findIn K (.ref (cs 5)) "part" = some none)
    (kE5 : ∃ g, KBn K fdE5 ["self", "part"] 1 ["part"] g (fun vs zs => vs ++ zs))
    (FE6 : Fun K "__init__" "BadStand.__init__" sI_BadStand fE6 fdE6)
    (X6 : ExT K (cs 6) fE6) (gC6 : mg "BadStand" = some (.ref (cs 6)))
    (n6_part : PySem.W.findIn K (.ref (cs 6)) "part" = some none)
    (kE6 : ∃ g, KBn K fdE6 ["self", "part"] 1 ["part"] g (fun vs zs => vs ++ zs))
    (FE7 : Fun K "__init__" "BadTarget.__init__" sI_BadTarget fE7 fdE7)
    (X7 : ExT K (cs 7) fE7) (gC7 : mg "BadTarget" = some (.ref (cs 7)))
    (n7_part : PySem.W.findIn K (.ref (cs 7)) "part" = some none)
    (kE7 : ∃ g, KBn K fdE7 ["self", "part"] 1 ["part"] g (fun vs zs => vs ++ zs))
    (FE8 : Fun K "__init__" "BadPaper.__init__" sI_BadPaper fE8 fdE8)
    (X8 : ExT K (cs 8) fE8) (gC8 : mg "BadPaper" = some (.ref (cs 8)))
    (n8_part : PySem.W.findIn K (.ref (cs 8)) "part" = some none)
    (kE8 : ∃ g, KBn K fdE8 ["self", "part"] 1 ["part"] g (fun vs zs => vs ++ zs))
    (FE9 : Fun K "__init__" "BadControl.__init__" sI_BadControl fE9 fdE9)
    (X9 : ExT K (cs 9) fE9) (gC9 : mg "BadControl" = some (.ref (cs 9)))
    (n9_part : PySem.W.findIn K (.ref (cs 9)) "part" = some none)
    (kE9 : ∃ g, KBn K fdE9 ["self", "part"] 1 ["part"] g (fun vs zs => vs ++ zs))
    (FE10 : Fun K "__init__" "NoAxis.__init__" sI_NoAxis fE10 fdE10)
    (X10 : ExT K (cs 10) fE10) (gC10 : mg "NoAxis" = some (.ref (cs 10)))
    (n10_axis : PySem.W.findIn K (.ref (cs 10)) "axis" = some none)
    (kE10 : ∃ g, KBn K fdE10 ["self", "axis"] 1 ["axis"] g (fun vs zs => vs ++ zs))
    (FE11 : Fun K "__init__" "NoRegister.__init__" sI_NoRegister fE11 fdE11)
    (X11 : ExT K (cs 11) fE11) (gC11 : mg "NoRegister" = some (.ref (cs 11)))
    (n11_name : PySem.W.findIn K (.ref (cs 11)) "name" = some none)
    (kE11 : ∃ g, KBn K fdE11 ["self", "name"] 1 ["name"] g (fun vs zs => vs ++ zs))
    (FE12 : Fun K "__init__" "NoPlace.__init__" sI_NoPlace fE12 fdE12)
    (X12 : ExT K (cs 12) fE12) (gC12 : mg "NoPlace" = some (.ref (cs 12)))
    (n12_place : PySem.W.findIn K (.ref (cs 12)) "place" = some none)
    (kE12 : ∃ g, KBn K fdE12 ["self", "place"] 1 ["place"] g (fun vs zs => vs ++ zs))
    (FE13 : Fun K "__init__" "NoNode.__init__" sI_NoNode fE13 fdE13)
    (X13 : ExT K (cs 13) fE13) (gC13 : mg "NoNode" = some (.ref (cs 13)))
    (n13_place : PySem.W.findIn K (.ref (cs 13)) "place" = some none) (n13_words : PySem.W.findIn K (.ref (cs 13)) "words" = some none)
    (kE13 : ∃ g, KBn K fdE13 ["self", "place", "words"] 1 ["words", "place"] g (fun vs zs => vs ++ zs.reverse))
    (FE14 : Fun K "__init__" "BadRun.__init__" sI_BadRun fE14 fdE14)
    (X14 : ExT K (cs 14) fE14) (gC14 : mg "BadRun" = some (.ref (cs 14)))
    (n14_at : PySem.W.findIn K (.ref (cs 14)) "at" = some none)
    (kE14 : ∃ g, KBn K fdE14 ["self", "at"] 1 ["at"] g (fun vs zs => vs ++ zs))
    (FE15 : Fun K "__init__" "BadPreamble.__init__" sI_BadPreamble fE15 fdE15)
    (X15 : ExT K (cs 15) fE15) (gC15 : mg "BadPreamble" = some (.ref (cs 15)))
    (n15_at : PySem.W.findIn K (.ref (cs 15)) "at" = some none)
    (kE15 : ∃ g, KBn K fdE15 ["self", "at"] 1 ["at"] g (fun vs zs => vs ++ zs))
    (FE16 : Fun K "__init__" "Stopped.__init__" sI_Stopped fE16 fdE16)
    (X16 : ExT K (cs 16) fE16) (gC16 : mg "Stopped" = some (.ref (cs 16)))
    (n16_place : PySem.W.findIn K (.ref (cs 16)) "place" = some none)
    (kE16 : ∃ g, KBn K fdE16 ["self", "place"] 1 ["place"] g (fun vs zs => vs ++ zs))
    (FE17 : Fun K "__init__" "Running.__init__" sI_Running fE17 fdE17)
    (X17 : ExT K (cs 17) fE17) (gC17 : mg "Running" = some (.ref (cs 17)))
    (n17_place : PySem.W.findIn K (.ref (cs 17)) "place" = some none)
    (kE17 : ∃ g, KBn K fdE17 ["self", "place"] 1 ["place"] g (fun vs zs => vs ++ zs))
    (FE19 : Fun K "__init__" "TooMany.__init__" sI_TooMany fE19 fdE19)
    (X19 : ExT K (cs 19) fE19) (gC19 : mg "TooMany" = some (.ref (cs 19)))
    (n19_what : PySem.W.findIn K (.ref (cs 19)) "what" = some none) (n19_most : PySem.W.findIn K (.ref (cs 19)) "most" = some none)
    (kE19 : ∃ g, KBn K fdE19 ["self", "what", "most"] 1 ["most", "what"] g (fun vs zs => vs ++ zs.reverse))
    (FE20 : Fun K "__init__" "BadText.__init__" sI_BadText fE20 fdE20)
    (X20 : ExT K (cs 20) fE20) (gC20 : mg "BadText" = some (.ref (cs 20)))
    (n20_line : PySem.W.findIn K (.ref (cs 20)) "line" = some none) (n20_word : PySem.W.findIn K (.ref (cs 20)) "word" = some none)
    (kE20 : ∃ g, KBn K fdE20 ["self", "line", "word"] 1 ["word", "line"] g (fun vs zs => vs ++ zs.reverse))
    (FE21 : Fun K "__init__" "BadLine.__init__" sI_BadLine fE21 fdE21)
    (X21 : ExT K (cs 21) fE21) (gC21 : mg "BadLine" = some (.ref (cs 21)))
    (n21_line : PySem.W.findIn K (.ref (cs 21)) "line" = some none) (n21_error : PySem.W.findIn K (.ref (cs 21)) "error" = some none)
    (kE21 : ∃ g, KBn K fdE21 ["self", "line", "error"] 1 ["error", "line"] g (fun vs zs => vs ++ zs.reverse))
    (FPe : Fun K "__eq__" "Paper.__eq__" sPaE fPe fdPe)
    (FDe : Fun K "__eq__" "Denial.__eq__" sDeE fDe fdDe)
    (FPb : Fun K "__bool__" "Paper.__bool__" sPaB fPb fdPb)
    (FDb : Fun K "__bool__" "Denial.__bool__" sDeB fDb fdDb)
    (FPi : Fun K "__init__" "Paper.__init__" sPaI fPi fdPi)
    (FDi : Fun K "__init__" "Denial.__init__" sDeI fDi fdDi) : MyM.FnM P w K mg base CX0 18 fLa fdLa ["_law_script"] (spLaw K) := by
  have bFx := FFx.binds (ps := ["value"]) fun _ _ _ _ _ _ us hl => match us, hl with | [_], _ => rfl
  have bAk := FAk.binds (ps := ["table"]) fun _ _ _ _ _ _ us hl => match us, hl with | [_], _ => rfl
  have bSh := FSh.binds (ps := ["value"]) fun _ _ _ _ _ _ us hl => match us, hl with | [_], _ => rfl
  have bP := FP.binds (ps := ["_law_script"]) fun _ _ _ _ _ _ us hl => match us, hl with | [_], _ => rfl
  have bD := FD.binds (ps := ["_law_pen_here", "_law_many"]) fun _ _ _ _ _ _ us hl => match us, hl with | [_, _], _ => rfl
  have bG := FG.binds (ps := ["_law_pen_here", "_law_some"]) fun _ _ _ _ _ _ us hl => match us, hl with | [_, _], _ => rfl
  have bBp := FBp.binds (ps := ["_law_name", "_law_one", "_law_two"]) fun _ _ _ _ _ _ us hl => match us, hl with | [_, _, _], _ => rfl
  have bBn := FBn.binds (ps := ["_law_name", "_law_one", "_law_two"]) fun _ _ _ _ _ _ us hl => match us, hl with | [_, _, _], _ => rfl
  have bKi := FKi.binds (ps := ["_law_error"]) fun _ _ _ _ _ _ us hl => match us, hl with | [_], _ => rfl
  have bFl := FFl.binds (ps := ["_law_name", "_law_error"]) fun _ _ _ _ _ _ us hl => match us, hl with | [_, _], _ => rfl
  have bNm := FNm.binds (ps := []) fun _ _ _ _ _ _ us hl => match us, hl with | [], _ => rfl
  have bIr := FIr.binds (ps := ["_law_name", "_law_error", "_law_due"]) fun _ _ _ _ _ _ us hl => match us, hl with | [_, _, _], _ => rfl
  have bVa := FVa.binds (ps := ["_law_pen_here", "_law_deep"]) fun _ _ _ _ _ _ us hl => match us, hl with | [_, _], _ => rfl
  have bSp := FSp.binds (ps := ["_law_value_here"]) fun _ _ _ _ _ _ us hl => match us, hl with | [_], _ => rfl
  have bPp := FPp.binds (ps := ["_law_is_no", "_law_word", "_law_parts"]) fun _ _ _ _ _ _ us hl => match us, hl with | [_, _, _], _ => rfl
  have bFr := FFr.binds (ps := ["_law_pen_here"]) fun _ _ _ _ _ _ us hl => match us, hl with | [_], _ => rfl
  have bPr := FPr.binds (ps := ["_law_pen_here"]) fun _ _ _ _ _ _ us hl => match us, hl with | [_], _ => rfl
  have bLa := FLa.binds (ps := ["_law_script"]) fun _ _ _ _ _ _ us hl => match us, hl with | [_], _ => rfl
  have bE0 := FE0.binds (ps := ["self", "part"]) fun _ _ _ _ _ _ us hl => match us, hl with | [_, _], _ => rfl
  have bE1 := FE1.binds (ps := ["self", "part"]) fun _ _ _ _ _ _ us hl => match us, hl with | [_, _], _ => rfl
  have bE2 := FE2.binds (ps := ["self", "part"]) fun _ _ _ _ _ _ us hl => match us, hl with | [_, _], _ => rfl
  have bE3 := FE3.binds (ps := ["self", "part"]) fun _ _ _ _ _ _ us hl => match us, hl with | [_, _], _ => rfl
  have bE4 := FE4.binds (ps := ["self", "part"]) fun _ _ _ _ _ _ us hl => match us, hl with | [_, _], _ => rfl
  have bE5 := FE5.binds (ps := ["self", "part"]) fun _ _ _ _ _ _ us hl => match us, hl with | [_, _], _ => rfl
  have bE6 := FE6.binds (ps := ["self", "part"]) fun _ _ _ _ _ _ us hl => match us, hl with | [_, _], _ => rfl
  have bE7 := FE7.binds (ps := ["self", "part"]) fun _ _ _ _ _ _ us hl => match us, hl with | [_, _], _ => rfl
  have bE8 := FE8.binds (ps := ["self", "part"]) fun _ _ _ _ _ _ us hl => match us, hl with | [_, _], _ => rfl
  have bE9 := FE9.binds (ps := ["self", "part"]) fun _ _ _ _ _ _ us hl => match us, hl with | [_, _], _ => rfl
  have bE10 := FE10.binds (ps := ["self", "axis"]) fun _ _ _ _ _ _ us hl => match us, hl with | [_, _], _ => rfl
  have bE11 := FE11.binds (ps := ["self", "name"]) fun _ _ _ _ _ _ us hl => match us, hl with | [_, _], _ => rfl
  have bE12 := FE12.binds (ps := ["self", "place"]) fun _ _ _ _ _ _ us hl => match us, hl with | [_, _], _ => rfl
  have bE13 := FE13.binds (ps := ["self", "place", "words"]) fun _ _ _ _ _ _ us hl => match us, hl with | [_, _, _], _ => rfl
  have bE14 := FE14.binds (ps := ["self", "at"]) fun _ _ _ _ _ _ us hl => match us, hl with | [_, _], _ => rfl
  have bE15 := FE15.binds (ps := ["self", "at"]) fun _ _ _ _ _ _ us hl => match us, hl with | [_, _], _ => rfl
  have bE16 := FE16.binds (ps := ["self", "place"]) fun _ _ _ _ _ _ us hl => match us, hl with | [_, _], _ => rfl
  have bE17 := FE17.binds (ps := ["self", "place"]) fun _ _ _ _ _ _ us hl => match us, hl with | [_, _], _ => rfl
  have bE19 := FE19.binds (ps := ["self", "what", "most"]) fun _ _ _ _ _ _ us hl => match us, hl with | [_, _, _], _ => rfl
  have bE20 := FE20.binds (ps := ["self", "line", "word"]) fun _ _ _ _ _ _ us hl => match us, hl with | [_, _, _], _ => rfl
  have bE21 := FE21.binds (ps := ["self", "line", "error"]) fun _ _ _ _ _ _ us hl => match us, hl with | [_, _, _], _ => rfl
  have bPe := FPe.binds (ps := ["self", "other"]) fun _ _ _ _ _ _ us hl => match us, hl with | [_, _], _ => rfl
  have bDe := FDe.binds (ps := ["self", "other"]) fun _ _ _ _ _ _ us hl => match us, hl with | [_, _], _ => rfl
  have bPb := FPb.binds (ps := ["self"]) fun _ _ _ _ _ _ us hl => match us, hl with | [_], _ => rfl
  have bDb := FDb.binds (ps := ["self"]) fun _ _ _ _ _ _ us hl => match us, hl with | [_], _ => rfl
  have TSh : FnT P w K mg base CX0 1 "shown" fSh fdSh ["value"] (spShown) := ⟨ok_shown FSh B gS, bSh, gSh, FSh.kp⟩
  have R0 : Ec1 P w K mg base "BadMachine" (cs 0) "part" := ⟨_, _, ⟨X0, ok_BadMachine FE0 X0 T0 n0_part gSh FSh TSh.ok bSh, bE0, gC0⟩, kE0⟩
  have R1 : Ec1 P w K mg base "BadWords" (cs 1) "part" := ⟨_, _, ⟨X1, ok_BadWords FE1 X1 T0 n1_part gSh FSh TSh.ok bSh, bE1, gC1⟩, kE1⟩
  have R2 : Ec1 P w K mg base "BadBlock" (cs 2) "part" := ⟨_, _, ⟨X2, ok_BadBlock FE2 X2 T0 n2_part gSh FSh TSh.ok bSh, bE2, gC2⟩, kE2⟩
  have R3 : Ec1 P w K mg base "BadProgram" (cs 3) "part" := ⟨_, _, ⟨X3, ok_BadProgram FE3 X3 T0 n3_part gSh FSh TSh.ok bSh, bE3, gC3⟩, kE3⟩
  have R4 : Ec1 P w K mg base "BadSum" (cs 4) "part" := ⟨_, _, ⟨X4, ok_BadSum FE4 X4 T0 n4_part gSh FSh TSh.ok bSh, bE4, gC4⟩, kE4⟩
  have R5 : Ec1 P w K mg base "BadMap" (cs 5) "part" := ⟨_, _, ⟨X5, ok_BadMap FE5 X5 T0 n5_part gSh FSh TSh.ok bSh, bE5, gC5⟩, kE5⟩
  have R6 : Ec1 P w K mg base "BadStand" (cs 6) "part" := ⟨_, _, ⟨X6, ok_BadStand FE6 X6 T0 n6_part gSh FSh TSh.ok bSh, bE6, gC6⟩, kE6⟩
  have R7 : Ec1 P w K mg base "BadTarget" (cs 7) "part" := ⟨_, _, ⟨X7, ok_BadTarget FE7 X7 T0 n7_part gSh FSh TSh.ok bSh, bE7, gC7⟩, kE7⟩
  have R8 : Ec1 P w K mg base "BadPaper" (cs 8) "part" := ⟨_, _, ⟨X8, ok_BadPaper FE8 X8 T0 n8_part gSh FSh TSh.ok bSh, bE8, gC8⟩, kE8⟩
  have R9 : Ec1 P w K mg base "BadControl" (cs 9) "part" := ⟨_, _, ⟨X9, ok_BadControl FE9 X9 T0 n9_part gSh FSh TSh.ok bSh, bE9, gC9⟩, kE9⟩
  have R10 : Ec1 P w K mg base "NoAxis" (cs 10) "axis" := ⟨_, _, ⟨X10, ok_NoAxis FE10 X10 T1 n10_axis gSh FSh TSh.ok bSh, bE10, gC10⟩, kE10⟩
  have R11 : Ec1 P w K mg base "NoRegister" (cs 11) "name" := ⟨_, _, ⟨X11, ok_NoRegister FE11 X11 T1 n11_name gSh FSh TSh.ok bSh, bE11, gC11⟩, kE11⟩
  have R12 : Ec1 P w K mg base "NoPlace" (cs 12) "place" := ⟨_, _, ⟨X12, ok_NoPlace FE12 X12 T1 n12_place gSh FSh TSh.ok bSh, bE12, gC12⟩, kE12⟩
  have R13 : Ec2 P w K mg base "NoNode" (cs 13) "place" "words" := ⟨_, _, ⟨X13, ok_NoNode FE13 X13 T1 n13_place n13_words gSh FSh TSh.ok bSh, bE13, gC13⟩, kE13⟩
  have R14 : Ec1 P w K mg base "BadRun" (cs 14) "at" := ⟨_, _, ⟨X14, ok_BadRun FE14 X14 T0 n14_at gSh FSh TSh.ok bSh, bE14, gC14⟩, kE14⟩
  have R15 : Ec1 P w K mg base "BadPreamble" (cs 15) "at" := ⟨_, _, ⟨X15, ok_BadPreamble FE15 X15 T0 n15_at gSh FSh TSh.ok bSh, bE15, gC15⟩, kE15⟩
  have R16 : Ec1 P w K mg base "Stopped" (cs 16) "place" := ⟨_, _, ⟨X16, ok_Stopped FE16 X16 T0 n16_place gSh FSh TSh.ok bSh, bE16, gC16⟩, kE16⟩
  have R17 : Ec1 P w K mg base "Running" (cs 17) "place" := ⟨_, _, ⟨X17, ok_Running FE17 X17 T0 n17_place gSh FSh TSh.ok bSh, bE17, gC17⟩, kE17⟩
  have R19 : Ec2 P w K mg base "TooMany" (cs 19) "what" "most" := ⟨_, _, ⟨X19, ok_TooMany FE19 X19 T0 n19_what n19_most gSh FSh TSh.ok bSh, bE19, gC19⟩, kE19⟩
  have R20 : Ec2 P w K mg base "BadText" (cs 20) "line" "word" := ⟨_, _, ⟨X20, ok_BadText FE20 X20 T0 n20_line n20_word gSh FSh TSh.ok bSh, bE20, gC20⟩, kE20⟩
  have R21 : Ec2 P w K mg base "BadLine" (cs 21) "line" "error" := ⟨_, _, ⟨X21, ok_BadLine FE21 X21 T0 n21_line n21_error gSh FSh TSh.ok bSh, bE21, gC21⟩, kE21⟩
  have ERR : Errs P w K mg base cs := ⟨R0, R1, R2, R3, R4, R5, R6, R7, R8, R9, R10, R11, R12, R13, R14, R15, R16, R17, R19, R20, R21, bm18, gC18, k18⟩
  have TAk : FnT P w K mg base CX0 1 "ascending_keys" fAk fdAk ["table"] (spAsc) := ⟨ok_asc FAk B, bAk, gAk, FAk.kp⟩
  have TFx3 : FnT P w K mg base CX0 5 "fixed" fFx fdFx ["value"] (spFixed 3) := ⟨ok_fixed FFx B gFx bFx TAk 3, bFx, gFx, FFx.kp⟩
  have TFx6 : FnT P w K mg base CX0 8 "fixed" fFx fdFx ["value"] (spFixed 6) := ⟨ok_fixed FFx B gFx bFx TAk 6, bFx, gFx, FFx.kp⟩
  have TP : FnT P w K mg base CX0 1 "_law_pen" fP fdP ["_law_script"] (spPen K) := ⟨ok_pen FP B, bP, gP, FP.kp⟩
  have TD : FnT P w K mg base CX0 1 "_law_draw" fD fdD ["_law_pen_here", "_law_many"] (spDraw) := ⟨ok_draw FD B, bD, gD, FD.kp⟩
  have TG : FnT P w K mg base CX0 2 "_law_pick" fG fdG ["_law_pen_here", "_law_some"] (spPick) := ⟨ok_pick FG B TD, bG, gG, FG.kp⟩
  have TVa3 : FnT P w K mg base CX0 7 "_law_value" fVa fdVa ["_law_pen_here", "_law_deep"] (spVal 3) := ⟨ok_value FVa B gVa bVa TD TG 3, bVa, gVa, FVa.kp⟩
  have TVa2 : FnT P w K mg base CX0 6 "_law_value" fVa fdVa ["_law_pen_here", "_law_deep"] (spVal 2) := ⟨ok_value FVa B gVa bVa TD TG 2, bVa, gVa, FVa.kp⟩
  have TSp : FnT P w K mg base CX0 4 "_law_spoil" fSp fdSp ["_law_value_here"] (spSp 3) := ⟨ok_spoil FSp B gSp bSp 3, bSp, gSp, FSp.kp⟩
  have MT2 : MkT P w K mg base PA DE fPi fDi 2 := ⟨PE.gP, gDE, mP, mD, ok_paM FPi PE.xP.pt TFx3, ok_deM FDi PIT (ok_paM FPi PE.xD.pt TFx3)⟩
  have MT5 : MkT P w K mg base PA DE fPi fDi 5 := ⟨PE.gP, gDE, mP, mD, ok_paM FPi PE.xP.pt TFx6, ok_deM FDi PIT (ok_paM FPi PE.xD.pt TFx6)⟩
  have TPp2 : FnT P w K mg base CX0 10 "_law_paper" fPp fdPp ["_law_is_no", "_law_word", "_law_parts"] (spPap PA DE 2) := ⟨ok_paper FPp B MT2, bPp, gPp, FPp.kp⟩
  have TPp5 : FnT P w K mg base CX0 13 "_law_paper" fPp fdPp ["_law_is_no", "_law_word", "_law_parts"] (spPap PA DE 5) := ⟨ok_paper FPp B MT5, bPp, gPp, FPp.kp⟩
  have EQ : EqT P w K mg base PA DE fPe fDe fPb fDb := ⟨PE, gDE, kPD, kDD, nPD, sDP, nDP, p0, p1, p2, p3, p4, p5, p6, d0, d1, d2, d3, d4, d5, d6, aPe, aDe, oP, oD, aPb, aDb, iPe, iDe, iPb, iDb, fnR_of (ok_eqPa FPe B PE) bPe, fnR_of (ok_eqDe FDe B PE) bDe, fnR_of (ok_boPa FPb) bPb, fnR_of (ok_boDe FDb) bDb⟩
  have TKi : FnT P w K mg base CX0 1 "_law_kinds" fKi fdKi ["_law_error"] (spKi cs) := ⟨ok_kinds FKi B KI, bKi, gKi, FKi.kp⟩
  have TFl : FnT P w K mg base CX0 1 "_law_fields" fFl fdFl ["_law_name", "_law_error"] (spFl cs) := ⟨ok_fields FFl FLT, bFl, gFl, FFl.kp⟩
  have TNm : FnT P w K mg base CX0 1 "_law_names" fNm fdNm [] (spNa) := ⟨ok_lnames FNm, bNm, gNm, FNm.kp⟩
  have TBp : FnT P w K mg base CX0 4 "_law_by_place" fBp fdBp ["_law_name", "_law_one", "_law_two"] (spBy cs) := ⟨ok_byplace FBp ERR, bBp, gBp, FBp.kp⟩
  have TBn : FnT P w K mg base CX0 4 "_law_by_name" fBn fdBn ["_law_name", "_law_one", "_law_two"] (spBy cs) := ⟨ok_byname FBn ERR, bBn, gBn, FBn.kp⟩
  have TIr : FnTM P w K mg base CX0 4 "_law_is_right" fIr fdIr ["_law_name", "_law_error", "_law_due"] (spIr cs) := ⟨ok_isright FIr B BE KI UP TKi TFl, bIr, gIr, FIr.kp⟩
  obtain ⟨gK, fxK⟩ := fxK
  have TFr : FnTM P w K mg base CX0 9 "_law_fixed_right" fFr fdFr ["_law_pen_here"] (spFr) := ⟨ok_fright FFr B TVa3 TFx3 TFx6 fxK TSp, bFr, gFr, FFr.kp⟩
  have TPr : FnTM P w K mg base CX0 15 "_law_papers_right" fPr fdPr ["_law_pen_here"] (spPr) := ⟨ok_pright FPr B EQ TD TG TVa2 TPp2 TPp5 TSp, bPr, gPr, FPr.kp⟩
  exact ok_law FLa B EQ MT5 TFx3 TP TG TNm TBp TBn TIr TFr TPr
end K00
set_option Elab.async false
set_option linter.all false
set_option maxRecDepth 100000
set_option maxHeartbeats 2000000
set_option Elab.async false
set_option linter.all false
set_option maxRecDepth 100000
set_option maxHeartbeats 16000000
namespace K00
open PySem PySem.Spec PyProof.Rows L2 My MyX MyE MyD MyO MyQ MyU MyV MyRd
def kkB (K : PySem.W.Frag) (CS : List Addr) : Bool := (List.range 22).all fun i => (List.range 22).all fun j => decide (PySem.W.kitOne K (.ref (CS.getD j 0)) (.ref (CS.getD i 0)) = some (decide (i = j)))
theorem kkB_ok {K : PySem.W.Frag} {CS : List Addr} (h : kkB K CS = true) : ∀ i j, i < 22 → j < 22 → PySem.W.kitOne K (.ref (CS.getD j 0)) (.ref (CS.getD i 0)) = some (decide (i = j)) := fun i j hi hj =>
  of_decide_eq_true (List.all_eq_true.mp (List.all_eq_true.mp h i (List.mem_range.mpr hi)) j (List.mem_range.mpr hj))
theorem vals_rev {xs : List V} {us : List Value} (h : Vals xs us) : Vals xs.reverse us.reverse := by
  induction h with
  | nil => exact .nil
  | cons a _ k =>
    rw [List.reverse_cons, List.reverse_cons]
    exact Vals.append k (.cons a .nil)
theorem nfK {K : PySem.W.Frag} {C : Addr} {t : String} (h : PySem.W.subIn K (.type t) (.ref C) = some false) : PySem.W.notFirst K C (.type t) = true := by
  unfold PySem.W.notFirst
  rw [h]
  simp
theorem nfR {K : PySem.W.Frag} {C D : Addr} (h : PySem.W.subIn K (.ref D) (.ref C) = some false) : PySem.W.notFirst K C (.ref D) = true := by
  unfold PySem.W.notFirst
  rw [h]
  simp
theorem all_mk {P : Program} {w : World} {K : PySem.W.Frag} {h : Heap} {mg : Str → Option Value} {fa : Addr} (X : K.In h) (G : h.Ns mainGlobals mg) (hfa : mg "law" = some (.ref fa))
    {TE MI PA DE fFx fAk fSh fP fD fG fBp fBn fKi fFl fNm fIr fVa fSp fPp fFr fPr fLa fE0 fE1 fE2 fE3 fE4 fE5 fE6 fE7 fE8 fE9 fE10 fE11 fE12 fE13 fE14 fE15 fE16 fE17 fE19 fE20 fE21 fPe fDe fPb fDb fPi fDi C0 C1 C2 C3 C4 C5 C6 C7 C8 C9 C10 C11 C12 C13 C14 C15 C16 C17 C18 C19 C20 C21 : Addr} {ocFx kVFx dcFx pmFx ctFx cdFx ocAk kVAk dcAk pmAk ctAk cdAk ocSh kVSh dcSh pmSh ctSh cdSh ocP kVP dcP pmP ctP cdP ocD kVD dcD pmD ctD cdD ocG kVG dcG pmG ctG cdG ocBp kVBp dcBp pmBp ctBp cdBp ocBn kVBn dcBn pmBn ctBn cdBn ocKi kVKi dcKi pmKi ctKi cdKi ocFl kVFl dcFl pmFl ctFl cdFl ocNm kVNm dcNm pmNm ctNm cdNm ocIr kVIr dcIr pmIr ctIr cdIr ocVa kVVa dcVa pmVa ctVa cdVa ocSp kVSp dcSp pmSp ctSp cdSp ocPp kVPp dcPp pmPp ctPp cdPp ocFr kVFr dcFr pmFr ctFr cdFr ocPr kVPr dcPr pmPr ctPr cdPr ocLa kVLa dcLa pmLa ctLa cdLa ocE0 kVE0 dcE0 pmE0 ctE0 cdE0 ocE1 kVE1 dcE1 pmE1 ctE1 cdE1 ocE2 kVE2 dcE2 pmE2 ctE2 cdE2 ocE3 kVE3 dcE3 pmE3 ctE3 cdE3 ocE4 kVE4 dcE4 pmE4 ctE4 cdE4 ocE5 kVE5 dcE5 pmE5 ctE5 cdE5 ocE6 kVE6 dcE6 pmE6 ctE6 cdE6 ocE7 kVE7 dcE7 pmE7 ctE7 cdE7 ocE8 kVE8 dcE8 pmE8 ctE8 cdE8 ocE9 kVE9 dcE9 pmE9 ctE9 cdE9 ocE10 kVE10 dcE10 pmE10 ctE10 cdE10 ocE11 kVE11 dcE11 pmE11 ctE11 cdE11 ocE12 kVE12 dcE12 pmE12 ctE12 cdE12 ocE13 kVE13 dcE13 pmE13 ctE13 cdE13 ocE14 kVE14 dcE14 pmE14 ctE14 cdE14 ocE15 kVE15 dcE15 pmE15 ctE15 cdE15 ocE16 kVE16 dcE16 pmE16 ctE16 cdE16 ocE17 kVE17 dcE17 pmE17 ctE17 cdE17 ocE19 kVE19 dcE19 pmE19 ctE19 cdE19 ocE20 kVE20 dcE20 pmE20 ctE20 cdE20 ocE21 kVE21 dcE21 pmE21 ctE21 cdE21 ocPe kVPe dcPe pmPe ctPe cdPe ocDe kVDe dcDe pmDe ctDe cdDe ocPb kVPb dcPb pmPb ctPb cdPb ocDb kVDb dcDb pmDb ctDb cdDb ocPi kVPi dcPi pmPi ctPi cdPi ocDi kVDi dcDi pmDi ctDi cdDi : Value} {odFx anFx odAk anAk odSh anSh odP anP odD anD odG anG odBp anBp odBn anBn odKi anKi odFl anFl odNm anNm odIr anIr odVa anVa odSp anSp odPp anPp odFr anFr odPr anPr odLa anLa odE0 anE0 odE1 anE1 odE2 anE2 odE3 anE3 odE4 anE4 odE5 anE5 odE6 anE6 odE7 anE7 odE8 anE8 odE9 anE9 odE10 anE10 odE11 anE11 odE12 anE12 odE13 anE13 odE14 anE14 odE15 anE15 odE16 anE16 odE17 anE17 odE19 anE19 odE20 anE20 odE21 anE21 odPe anPe odDe anDe odPb anPb odDb anDb odPi anPi odDi anDi : Option Addr} {slFx slAk slSh slP slD slG slBp slBn slKi slFl slNm slIr slVa slSp slPp slFr slPr slLa slE0 slE1 slE2 slE3 slE4 slE5 slE6 slE7 slE8 slE9 slE10 slE11 slE12 slE13 slE14 slE15 slE16 slE17 slE19 slE20 slE21 slPe slDe slPb slDb slPi slDi : Array (Option Value)} {tS : Tok} {nmC0 qC0 : Str} {NC0 : Addr} {bsC0 bmC0 subC0 : List Value} {snC0 : List Str} {abC0 : Bool} {colC0 : Option Bool} {ddC0 : Option Addr} {k0C0 k1C0 k2C0 k3C0 k5C0 : Option Value} {nmC1 qC1 : Str} {NC1 : Addr} {bsC1 bmC1 subC1 : List Value} {snC1 : List Str} {abC1 : Bool} {colC1 : Option Bool} {ddC1 : Option Addr} {k0C1 k1C1 k2C1 k3C1 k5C1 : Option Value} {nmC2 qC2 : Str} {NC2 : Addr} {bsC2 bmC2 subC2 : List Value} {snC2 : List Str} {abC2 : Bool} {colC2 : Option Bool} {ddC2 : Option Addr} {k0C2 k1C2 k2C2 k3C2 k5C2 : Option Value} {nmC3 qC3 : Str} {NC3 : Addr} {bsC3 bmC3 subC3 : List Value} {snC3 : List Str} {abC3 : Bool} {colC3 : Option Bool} {ddC3 : Option Addr} {k0C3 k1C3 k2C3 k3C3 k5C3 : Option Value} {nmC4 qC4 : Str} {NC4 : Addr} {bsC4 bmC4 subC4 : List Value} {snC4 : List Str} {abC4 : Bool} {colC4 : Option Bool} {ddC4 : Option Addr} {k0C4 k1C4 k2C4 k3C4 k5C4 : Option Value} {nmC5 qC5 : Str} {NC5 : Addr} {bsC5 bmC5 subC5 : List Value} {snC5 : List Str} {abC5 : Bool} {colC5 : Option Bool} {ddC5 : Option Addr} {k0C5 k1C5 k2C5 k3C5 k5C5 : Option Value} {nmC6 qC6 : Str} {NC6 : Addr} {bsC6 bmC6 subC6 : List Value} {snC6 : List Str} {abC6 : Bool} {colC6 : Option Bool} {ddC6 : Option Addr} {k0C6 k1C6 k2C6 k3C6 k5C6 : Option Value} {nmC7 qC7 : Str} {NC7 : Addr} {bsC7 bmC7 subC7 : List Value} {snC7 : List Str} {abC7 : Bool} {colC7 : Option Bool} {ddC7 : Option Addr} {k0C7 k1C7 k2C7 k3C7 k5C7 : Option Value} {nmC8 qC8 : Str} {NC8 : Addr} {bsC8 bmC8 subC8 : List Value} {snC8 : List Str} {abC8 : Bool} {colC8 : Option Bool} {ddC8 : Option Addr} {k0C8 k1C8 k2C8 k3C8 k5C8 : Option Value} {nmC9 qC9 : Str} {NC9 : Addr} {bsC9 bmC9 subC9 : List Value} {snC9 : List Str} {abC9 : Bool} {colC9 : Option Bool} {ddC9 : Option Addr} {k0C9 k1C9 k2C9 k3C9 k5C9 : Option Value} {nmC10 qC10 : Str} {NC10 : Addr} {bsC10 bmC10 subC10 : List Value} {snC10 : List Str} {abC10 : Bool} {colC10 : Option Bool} {ddC10 : Option Addr} {k0C10 k1C10 k2C10 k3C10 k5C10 : Option Value} {nmC11 qC11 : Str} {NC11 : Addr} {bsC11 bmC11 subC11 : List Value} {snC11 : List Str} {abC11 : Bool} {colC11 : Option Bool} {ddC11 : Option Addr} {k0C11 k1C11 k2C11 k3C11 k5C11 : Option Value} {nmC12 qC12 : Str} {NC12 : Addr} {bsC12 bmC12 subC12 : List Value} {snC12 : List Str} {abC12 : Bool} {colC12 : Option Bool} {ddC12 : Option Addr} {k0C12 k1C12 k2C12 k3C12 k5C12 : Option Value} {nmC13 qC13 : Str} {NC13 : Addr} {bsC13 bmC13 subC13 : List Value} {snC13 : List Str} {abC13 : Bool} {colC13 : Option Bool} {ddC13 : Option Addr} {k0C13 k1C13 k2C13 k3C13 k5C13 : Option Value} {nmC14 qC14 : Str} {NC14 : Addr} {bsC14 bmC14 subC14 : List Value} {snC14 : List Str} {abC14 : Bool} {colC14 : Option Bool} {ddC14 : Option Addr} {k0C14 k1C14 k2C14 k3C14 k5C14 : Option Value} {nmC15 qC15 : Str} {NC15 : Addr} {bsC15 bmC15 subC15 : List Value} {snC15 : List Str} {abC15 : Bool} {colC15 : Option Bool} {ddC15 : Option Addr} {k0C15 k1C15 k2C15 k3C15 k5C15 : Option Value} {nmC16 qC16 : Str} {NC16 : Addr} {bsC16 bmC16 subC16 : List Value} {snC16 : List Str} {abC16 : Bool} {colC16 : Option Bool} {ddC16 : Option Addr} {k0C16 k1C16 k2C16 k3C16 k5C16 : Option Value} {nmC17 qC17 : Str} {NC17 : Addr} {bsC17 bmC17 subC17 : List Value} {snC17 : List Str} {abC17 : Bool} {colC17 : Option Bool} {ddC17 : Option Addr} {k0C17 k1C17 k2C17 k3C17 k5C17 : Option Value} {nmC19 qC19 : Str} {NC19 : Addr} {bsC19 bmC19 subC19 : List Value} {snC19 : List Str} {abC19 : Bool} {colC19 : Option Bool} {ddC19 : Option Addr} {k0C19 k1C19 k2C19 k3C19 k5C19 : Option Value} {nmC20 qC20 : Str} {NC20 : Addr} {bsC20 bmC20 subC20 : List Value} {snC20 : List Str} {abC20 : Bool} {colC20 : Option Bool} {ddC20 : Option Addr} {k0C20 k1C20 k2C20 k3C20 k5C20 : Option Value} {nmC21 qC21 : Str} {NC21 : Addr} {bsC21 bmC21 subC21 : List Value} {snC21 : List Str} {abC21 : Bool} {colC21 : Option Bool} {ddC21 : Option Addr} {k0C21 k1C21 k2C21 k3C21 k5C21 : Option Value}
    (aTE : PySem.W.nsIn K mainGlobals "ToolError" = some (some (.ref TE)))
    (aMI : PySem.W.nsIn K mainGlobals "Missing" = some (some (.ref MI)))
    (aPA : PySem.W.nsIn K mainGlobals "Paper" = some (some (.ref PA)))
    (aDE : PySem.W.nsIn K mainGlobals "Denial" = some (some (.ref DE)))
    (aC0 : PySem.W.nsIn K mainGlobals "BadMachine" = some (some (.ref C0)))
    (aC1 : PySem.W.nsIn K mainGlobals "BadWords" = some (some (.ref C1)))
    (aC2 : PySem.W.nsIn K mainGlobals "BadBlock" = some (some (.ref C2)))
    (aC3 : PySem.W.nsIn K mainGlobals "BadProgram" = some (some (.ref C3)))
    (aC4 : PySem.W.nsIn K mainGlobals "BadSum" = some (some (.ref C4)))
    (aC5 : PySem.W.nsIn K mainGlobals "BadMap" = some (some (.ref C5)))
    (aC6 : PySem.W.nsIn K mainGlobals "BadStand" = some (some (.ref C6)))
    (aC7 : PySem.W.nsIn K mainGlobals "BadTarget" = some (some (.ref C7)))
    (aC8 : PySem.W.nsIn K mainGlobals "BadPaper" = some (some (.ref C8)))
    (aC9 : PySem.W.nsIn K mainGlobals "BadControl" = some (some (.ref C9)))
    (aC10 : PySem.W.nsIn K mainGlobals "NoAxis" = some (some (.ref C10)))
    (aC11 : PySem.W.nsIn K mainGlobals "NoRegister" = some (some (.ref C11)))
    (aC12 : PySem.W.nsIn K mainGlobals "NoPlace" = some (some (.ref C12)))
    (aC13 : PySem.W.nsIn K mainGlobals "NoNode" = some (some (.ref C13)))
    (aC14 : PySem.W.nsIn K mainGlobals "BadRun" = some (some (.ref C14)))
    (aC15 : PySem.W.nsIn K mainGlobals "BadPreamble" = some (some (.ref C15)))
    (aC16 : PySem.W.nsIn K mainGlobals "Stopped" = some (some (.ref C16)))
    (aC17 : PySem.W.nsIn K mainGlobals "Running" = some (some (.ref C17)))
    (aC18 : PySem.W.nsIn K mainGlobals "Nothing" = some (some (.ref C18)))
    (aC19 : PySem.W.nsIn K mainGlobals "TooMany" = some (some (.ref C19)))
    (aC20 : PySem.W.nsIn K mainGlobals "BadText" = some (some (.ref C20)))
    (aC21 : PySem.W.nsIn K mainGlobals "BadLine" = some (some (.ref C21)))
    (aFx : PySem.W.nsIn K mainGlobals "fixed" = some (some (.ref fFx)))
    (lFx : K.lookup fFx = some ⟨ocFx, odFx, .func (PySem.W.fnOf "fixed" "fixed" (defArgs sFixed) (defBody sFixed) (defScope sFixed) .none kVFx dcFx pmFx anFx cdFx ctFx), slFx⟩)
    (c_Fx : PySem.W.codeIn K cdFx "fixed" = true)
    (kFx : PySem.W.keepIn K (.ref fFx) = true)
    (aAk : PySem.W.nsIn K mainGlobals "ascending_keys" = some (some (.ref fAk)))
    (lAk : K.lookup fAk = some ⟨ocAk, odAk, .func (PySem.W.fnOf "ascending_keys" "ascending_keys" (defArgs sAsc) (defBody sAsc) (defScope sAsc) .none kVAk dcAk pmAk anAk cdAk ctAk), slAk⟩)
    (c_Ak : PySem.W.codeIn K cdAk "ascending_keys" = true)
    (kAk : PySem.W.keepIn K (.ref fAk) = true)
    (aSh : PySem.W.nsIn K mainGlobals "shown" = some (some (.ref fSh)))
    (lSh : K.lookup fSh = some ⟨ocSh, odSh, .func (PySem.W.fnOf "shown" "shown" (defArgs sShown) (defBody sShown) (defScope sShown) .none kVSh dcSh pmSh anSh cdSh ctSh), slSh⟩)
    (c_Sh : PySem.W.codeIn K cdSh "shown" = true)
    (kSh : PySem.W.keepIn K (.ref fSh) = true)
    (aP : PySem.W.nsIn K mainGlobals "_law_pen" = some (some (.ref fP)))
    (lP : K.lookup fP = some ⟨ocP, odP, .func (PySem.W.fnOf "_law_pen" "_law_pen" (defArgs sPen) (defBody sPen) (defScope sPen) .none kVP dcP pmP anP cdP ctP), slP⟩)
    (c_P : PySem.W.codeIn K cdP "_law_pen" = true)
    (kP : PySem.W.keepIn K (.ref fP) = true)
    (aD : PySem.W.nsIn K mainGlobals "_law_draw" = some (some (.ref fD)))
    (lD : K.lookup fD = some ⟨ocD, odD, .func (PySem.W.fnOf "_law_draw" "_law_draw" (defArgs sDraw) (defBody sDraw) (defScope sDraw) .none kVD dcD pmD anD cdD ctD), slD⟩)
    (c_D : PySem.W.codeIn K cdD "_law_draw" = true)
    (kD : PySem.W.keepIn K (.ref fD) = true)
    (aG : PySem.W.nsIn K mainGlobals "_law_pick" = some (some (.ref fG)))
    (lG : K.lookup fG = some ⟨ocG, odG, .func (PySem.W.fnOf "_law_pick" "_law_pick" (defArgs sPick) (defBody sPick) (defScope sPick) .none kVG dcG pmG anG cdG ctG), slG⟩)
    (c_G : PySem.W.codeIn K cdG "_law_pick" = true)
    (kG : PySem.W.keepIn K (.ref fG) = true)
    (aBp : PySem.W.nsIn K mainGlobals "_law_by_place" = some (some (.ref fBp)))
    (lBp : K.lookup fBp = some ⟨ocBp, odBp, .func (PySem.W.fnOf "_law_by_place" "_law_by_place" (defArgs sByP) (defBody sByP) (defScope sByP) .none kVBp dcBp pmBp anBp cdBp ctBp), slBp⟩)
    (c_Bp : PySem.W.codeIn K cdBp "_law_by_place" = true)
    (kBp : PySem.W.keepIn K (.ref fBp) = true)
    (aBn : PySem.W.nsIn K mainGlobals "_law_by_name" = some (some (.ref fBn)))
    (lBn : K.lookup fBn = some ⟨ocBn, odBn, .func (PySem.W.fnOf "_law_by_name" "_law_by_name" (defArgs sByN) (defBody sByN) (defScope sByN) .none kVBn dcBn pmBn anBn cdBn ctBn), slBn⟩)
    (c_Bn : PySem.W.codeIn K cdBn "_law_by_name" = true)
    (kBn : PySem.W.keepIn K (.ref fBn) = true)
    (aKi : PySem.W.nsIn K mainGlobals "_law_kinds" = some (some (.ref fKi)))
    (lKi : K.lookup fKi = some ⟨ocKi, odKi, .func (PySem.W.fnOf "_law_kinds" "_law_kinds" (defArgs sKi) (defBody sKi) (defScope sKi) .none kVKi dcKi pmKi anKi cdKi ctKi), slKi⟩)
    (c_Ki : PySem.W.codeIn K cdKi "_law_kinds" = true)
    (kKi : PySem.W.keepIn K (.ref fKi) = true)
    (aFl : PySem.W.nsIn K mainGlobals "_law_fields" = some (some (.ref fFl)))
    (lFl : K.lookup fFl = some ⟨ocFl, odFl, .func (PySem.W.fnOf "_law_fields" "_law_fields" (defArgs sFl) (defBody sFl) (defScope sFl) .none kVFl dcFl pmFl anFl cdFl ctFl), slFl⟩)
    (c_Fl : PySem.W.codeIn K cdFl "_law_fields" = true)
    (kFl : PySem.W.keepIn K (.ref fFl) = true)
    (aNm : PySem.W.nsIn K mainGlobals "_law_names" = some (some (.ref fNm)))
    (lNm : K.lookup fNm = some ⟨ocNm, odNm, .func (PySem.W.fnOf "_law_names" "_law_names" (defArgs sNa) (defBody sNa) (defScope sNa) .none kVNm dcNm pmNm anNm cdNm ctNm), slNm⟩)
    (c_Nm : PySem.W.codeIn K cdNm "_law_names" = true)
    (kNm : PySem.W.keepIn K (.ref fNm) = true)
    (aIr : PySem.W.nsIn K mainGlobals "_law_is_right" = some (some (.ref fIr)))
    (lIr : K.lookup fIr = some ⟨ocIr, odIr, .func (PySem.W.fnOf "_law_is_right" "_law_is_right" (defArgs sIr) (defBody sIr) (defScope sIr) .none kVIr dcIr pmIr anIr cdIr ctIr), slIr⟩)
    (c_Ir : PySem.W.codeIn K cdIr "_law_is_right" = true)
    (kIr : PySem.W.keepIn K (.ref fIr) = true)
    (aVa : PySem.W.nsIn K mainGlobals "_law_value" = some (some (.ref fVa)))
    (lVa : K.lookup fVa = some ⟨ocVa, odVa, .func (PySem.W.fnOf "_law_value" "_law_value" (defArgs sVa) (defBody sVa) (defScope sVa) .none kVVa dcVa pmVa anVa cdVa ctVa), slVa⟩)
    (c_Va : PySem.W.codeIn K cdVa "_law_value" = true)
    (kVa : PySem.W.keepIn K (.ref fVa) = true)
    (aSp : PySem.W.nsIn K mainGlobals "_law_spoil" = some (some (.ref fSp)))
    (lSp : K.lookup fSp = some ⟨ocSp, odSp, .func (PySem.W.fnOf "_law_spoil" "_law_spoil" (defArgs sSp) (defBody sSp) (defScope sSp) .none kVSp dcSp pmSp anSp cdSp ctSp), slSp⟩)
    (c_Sp : PySem.W.codeIn K cdSp "_law_spoil" = true)
    (kSp : PySem.W.keepIn K (.ref fSp) = true)
    (aPp : PySem.W.nsIn K mainGlobals "_law_paper" = some (some (.ref fPp)))
    (lPp : K.lookup fPp = some ⟨ocPp, odPp, .func (PySem.W.fnOf "_law_paper" "_law_paper" (defArgs sPp) (defBody sPp) (defScope sPp) .none kVPp dcPp pmPp anPp cdPp ctPp), slPp⟩)
    (c_Pp : PySem.W.codeIn K cdPp "_law_paper" = true)
    (kPp : PySem.W.keepIn K (.ref fPp) = true)
    (aFr : PySem.W.nsIn K mainGlobals "_law_fixed_right" = some (some (.ref fFr)))
    (lFr : K.lookup fFr = some ⟨ocFr, odFr, .func (PySem.W.fnOf "_law_fixed_right" "_law_fixed_right" (defArgs sFr) (defBody sFr) (defScope sFr) .none kVFr dcFr pmFr anFr cdFr ctFr), slFr⟩)
    (c_Fr : PySem.W.codeIn K cdFr "_law_fixed_right" = true)
    (kFr : PySem.W.keepIn K (.ref fFr) = true)
    (aPr : PySem.W.nsIn K mainGlobals "_law_papers_right" = some (some (.ref fPr)))
    (lPr : K.lookup fPr = some ⟨ocPr, odPr, .func (PySem.W.fnOf "_law_papers_right" "_law_papers_right" (defArgs sPr) (defBody sPr) (defScope sPr) .none kVPr dcPr pmPr anPr cdPr ctPr), slPr⟩)
    (c_Pr : PySem.W.codeIn K cdPr "_law_papers_right" = true)
    (kPr : PySem.W.keepIn K (.ref fPr) = true)
    (aLa : PySem.W.nsIn K mainGlobals "law" = some (some (.ref fLa)))
    (lLa : K.lookup fLa = some ⟨ocLa, odLa, .func (PySem.W.fnOf "law" "law" (defArgs sLaw) (defBody sLaw) (defScope sLaw) .none kVLa dcLa pmLa anLa cdLa ctLa), slLa⟩)
    (c_La : PySem.W.codeIn K cdLa "law" = true)
    (kLa : PySem.W.keepIn K (.ref fLa) = true)
    (aE0 : PySem.W.findIn K (.ref C0) "__init__" = some (some (.ref fE0)))
    (tE0 : PySem.W.typeIn K (.ref fE0) = some (.type "function"))
    (lE0 : K.lookup fE0 = some ⟨ocE0, odE0, .func (PySem.W.fnOf "__init__" "BadMachine.__init__" (defArgs sI_BadMachine) (defBody sI_BadMachine) (defScope sI_BadMachine) .none kVE0 dcE0 pmE0 anE0 cdE0 ctE0), slE0⟩)
    (c_E0 : PySem.W.codeIn K cdE0 "BadMachine.__init__" = true)
    (kE0 : PySem.W.keepIn K (.ref fE0) = true)
    (aE1 : PySem.W.findIn K (.ref C1) "__init__" = some (some (.ref fE1)))
    (tE1 : PySem.W.typeIn K (.ref fE1) = some (.type "function"))
    (lE1 : K.lookup fE1 = some ⟨ocE1, odE1, .func (PySem.W.fnOf "__init__" "BadWords.__init__" (defArgs sI_BadWords) (defBody sI_BadWords) (defScope sI_BadWords) .none kVE1 dcE1 pmE1 anE1 cdE1 ctE1), slE1⟩)
    (c_E1 : PySem.W.codeIn K cdE1 "BadWords.__init__" = true)
    (kE1 : PySem.W.keepIn K (.ref fE1) = true)
    (aE2 : PySem.W.findIn K (.ref C2) "__init__" = some (some (.ref fE2)))
    (tE2 : PySem.W.typeIn K (.ref fE2) = some (.type "function"))
    (lE2 : K.lookup fE2 = some ⟨ocE2, odE2, .func (PySem.W.fnOf "__init__" "BadBlock.__init__" (defArgs sI_BadBlock) (defBody sI_BadBlock) (defScope sI_BadBlock) .none kVE2 dcE2 pmE2 anE2 cdE2 ctE2), slE2⟩)
    (c_E2 : PySem.W.codeIn K cdE2 "BadBlock.__init__" = true)
    (kE2 : PySem.W.keepIn K (.ref fE2) = true)
    (aE3 : PySem.W.findIn K (.ref C3) "__init__" = some (some (.ref fE3)))
    (tE3 : PySem.W.typeIn K (.ref fE3) = some (.type "function"))
    (lE3 : K.lookup fE3 = some ⟨ocE3, odE3, .func (PySem.W.fnOf "__init__" "BadProgram.__init__" (defArgs sI_BadProgram) (defBody sI_BadProgram) (defScope sI_BadProgram) .none kVE3 dcE3 pmE3 anE3 cdE3 ctE3), slE3⟩)
    (c_E3 : PySem.W.codeIn K cdE3 "BadProgram.__init__" = true)
    (kE3 : PySem.W.keepIn K (.ref fE3) = true)
    (aE4 : PySem.W.findIn K (.ref C4) "__init__" = some (some (.ref fE4)))
    (tE4 : PySem.W.typeIn K (.ref fE4) = some (.type "function"))
    (lE4 : K.lookup fE4 = some ⟨ocE4, odE4, .func (PySem.W.fnOf "__init__" "BadSum.__init__" (defArgs sI_BadSum) (defBody sI_BadSum) (defScope sI_BadSum) .none kVE4 dcE4 pmE4 anE4 cdE4 ctE4), slE4⟩)
    (c_E4 : PySem.W.codeIn K cdE4 "BadSum.__init__" = true)
    (kE4 : PySem.W.keepIn K (.ref fE4) = true)
    (aE5 : PySem.W.findIn K (.ref C5) "__init__" = some (some (.ref fE5)))
    (tE5 : PySem.W.typeIn K (.ref fE5) = some (.type "function"))
    (lE5 : K.lookup fE5 = some ⟨ocE5, odE5, .func (PySem.W.fnOf "__init__" "BadMap.__init__" (defArgs sI_BadMap) (defBody sI_BadMap) (defScope sI_BadMap) .none kVE5 dcE5 pmE5 anE5 cdE5 ctE5), slE5⟩)
    (c_E5 : PySem.W.codeIn K cdE5 "BadMap.__init__" = true)
    (kE5 : PySem.W.keepIn K (.ref fE5) = true)
    (aE6 : PySem.W.findIn K (.ref C6) "__init__" = some (some (.ref fE6)))
    (tE6 : PySem.W.typeIn K (.ref fE6) = some (.type "function"))
    (lE6 : K.lookup fE6 = some ⟨ocE6, odE6, .func (PySem.W.fnOf "__init__" "BadStand.__init__" (defArgs sI_BadStand) (defBody sI_BadStand) (defScope sI_BadStand) .none kVE6 dcE6 pmE6 anE6 cdE6 ctE6), slE6⟩)
    (c_E6 : PySem.W.codeIn K cdE6 "BadStand.__init__" = true)
    (kE6 : PySem.W.keepIn K (.ref fE6) = true)
    (aE7 : PySem.W.findIn K (.ref C7) "__init__" = some (some (.ref fE7)))
    (tE7 : PySem.W.typeIn K (.ref fE7) = some (.type "function"))
    (lE7 : K.lookup fE7 = some ⟨ocE7, odE7, .func (PySem.W.fnOf "__init__" "BadTarget.__init__" (defArgs sI_BadTarget) (defBody sI_BadTarget) (defScope sI_BadTarget) .none kVE7 dcE7 pmE7 anE7 cdE7 ctE7), slE7⟩)
    (c_E7 : PySem.W.codeIn K cdE7 "BadTarget.__init__" = true)
    (kE7 : PySem.W.keepIn K (.ref fE7) = true)
    (aE8 : PySem.W.findIn K (.ref C8) "__init__" = some (some (.ref fE8)))
    (tE8 : PySem.W.typeIn K (.ref fE8) = some (.type "function"))
    (lE8 : K.lookup fE8 = some ⟨ocE8, odE8, .func (PySem.W.fnOf "__init__" "BadPaper.__init__" (defArgs sI_BadPaper) (defBody sI_BadPaper) (defScope sI_BadPaper) .none kVE8 dcE8 pmE8 anE8 cdE8 ctE8), slE8⟩)
    (c_E8 : PySem.W.codeIn K cdE8 "BadPaper.__init__" = true)
    (kE8 : PySem.W.keepIn K (.ref fE8) = true)
    (aE9 : PySem.W.findIn K (.ref C9) "__init__" = some (some (.ref fE9)))
    (tE9 : PySem.W.typeIn K (.ref fE9) = some (.type "function"))
    (lE9 : K.lookup fE9 = some ⟨ocE9, odE9, .func (PySem.W.fnOf "__init__" "BadControl.__init__" (defArgs sI_BadControl) (defBody sI_BadControl) (defScope sI_BadControl) .none kVE9 dcE9 pmE9 anE9 cdE9 ctE9), slE9⟩)
    (c_E9 : PySem.W.codeIn K cdE9 "BadControl.__init__" = true)
    (kE9 : PySem.W.keepIn K (.ref fE9) = true)
    (aE10 : PySem.W.findIn K (.ref C10) "__init__" = some (some (.ref fE10)))
    (tE10 : PySem.W.typeIn K (.ref fE10) = some (.type "function"))
    (lE10 : K.lookup fE10 = some ⟨ocE10, odE10, .func (PySem.W.fnOf "__init__" "NoAxis.__init__" (defArgs sI_NoAxis) (defBody sI_NoAxis) (defScope sI_NoAxis) .none kVE10 dcE10 pmE10 anE10 cdE10 ctE10), slE10⟩)
    (c_E10 : PySem.W.codeIn K cdE10 "NoAxis.__init__" = true)
    (kE10 : PySem.W.keepIn K (.ref fE10) = true)
    (aE11 : PySem.W.findIn K (.ref C11) "__init__" = some (some (.ref fE11)))
    (tE11 : PySem.W.typeIn K (.ref fE11) = some (.type "function"))
    (lE11 : K.lookup fE11 = some ⟨ocE11, odE11, .func (PySem.W.fnOf "__init__" "NoRegister.__init__" (defArgs sI_NoRegister) (defBody sI_NoRegister) (defScope sI_NoRegister) .none kVE11 dcE11 pmE11 anE11 cdE11 ctE11), slE11⟩)
    (c_E11 : PySem.W.codeIn K cdE11 "NoRegister.__init__" = true)
    (kE11 : PySem.W.keepIn K (.ref fE11) = true)
    (aE12 : PySem.W.findIn K (.ref C12) "__init__" = some (some (.ref fE12)))
    (tE12 : PySem.W.typeIn K (.ref fE12) = some (.type "function"))
    (lE12 : K.lookup fE12 = some ⟨ocE12, odE12, .func (PySem.W.fnOf "__init__" "NoPlace.__init__" (defArgs sI_NoPlace) (defBody sI_NoPlace) (defScope sI_NoPlace) .none kVE12 dcE12 pmE12 anE12 cdE12 ctE12), slE12⟩)
    (c_E12 : PySem.W.codeIn K cdE12 "NoPlace.__init__" = true)
    (kE12 : PySem.W.keepIn K (.ref fE12) = true)
    (aE13 : PySem.W.findIn K (.ref C13) "__init__" = some (some (.ref fE13)))
    (tE13 : PySem.W.typeIn K (.ref fE13) = some (.type "function"))
    (lE13 : K.lookup fE13 = some ⟨ocE13, odE13, .func (PySem.W.fnOf "__init__" "NoNode.__init__" (defArgs sI_NoNode) (defBody sI_NoNode) (defScope sI_NoNode) .none kVE13 dcE13 pmE13 anE13 cdE13 ctE13), slE13⟩)
    (c_E13 : PySem.W.codeIn K cdE13 "NoNode.__init__" = true)
    (kE13 : PySem.W.keepIn K (.ref fE13) = true)
    (aE14 : PySem.W.findIn K (.ref C14) "__init__" = some (some (.ref fE14)))
    (tE14 : PySem.W.typeIn K (.ref fE14) = some (.type "function"))
    (lE14 : K.lookup fE14 = some ⟨ocE14, odE14, .func (PySem.W.fnOf "__init__" "BadRun.__init__" (defArgs sI_BadRun) (defBody sI_BadRun) (defScope sI_BadRun) .none kVE14 dcE14 pmE14 anE14 cdE14 ctE14), slE14⟩)
    (c_E14 : PySem.W.codeIn K cdE14 "BadRun.__init__" = true)
    (kE14 : PySem.W.keepIn K (.ref fE14) = true)
    (aE15 : PySem.W.findIn K (.ref C15) "__init__" = some (some (.ref fE15)))
    (tE15 : PySem.W.typeIn K (.ref fE15) = some (.type "function"))
    (lE15 : K.lookup fE15 = some ⟨ocE15, odE15, .func (PySem.W.fnOf "__init__" "BadPreamble.__init__" (defArgs sI_BadPreamble) (defBody sI_BadPreamble) (defScope sI_BadPreamble) .none kVE15 dcE15 pmE15 anE15 cdE15 ctE15), slE15⟩)
    (c_E15 : PySem.W.codeIn K cdE15 "BadPreamble.__init__" = true)
    (kE15 : PySem.W.keepIn K (.ref fE15) = true)
    (aE16 : PySem.W.findIn K (.ref C16) "__init__" = some (some (.ref fE16)))
    (tE16 : PySem.W.typeIn K (.ref fE16) = some (.type "function"))
    (lE16 : K.lookup fE16 = some ⟨ocE16, odE16, .func (PySem.W.fnOf "__init__" "Stopped.__init__" (defArgs sI_Stopped) (defBody sI_Stopped) (defScope sI_Stopped) .none kVE16 dcE16 pmE16 anE16 cdE16 ctE16), slE16⟩)
    (c_E16 : PySem.W.codeIn K cdE16 "Stopped.__init__" = true)
    (kE16 : PySem.W.keepIn K (.ref fE16) = true)
    (aE17 : PySem.W.findIn K (.ref C17) "__init__" = some (some (.ref fE17)))
    (tE17 : PySem.W.typeIn K (.ref fE17) = some (.type "function"))
    (lE17 : K.lookup fE17 = some ⟨ocE17, odE17, .func (PySem.W.fnOf "__init__" "Running.__init__" (defArgs sI_Running) (defBody sI_Running) (defScope sI_Running) .none kVE17 dcE17 pmE17 anE17 cdE17 ctE17), slE17⟩)
    (c_E17 : PySem.W.codeIn K cdE17 "Running.__init__" = true)
    (kE17 : PySem.W.keepIn K (.ref fE17) = true)
    (aE19 : PySem.W.findIn K (.ref C19) "__init__" = some (some (.ref fE19)))
    (tE19 : PySem.W.typeIn K (.ref fE19) = some (.type "function"))
    (lE19 : K.lookup fE19 = some ⟨ocE19, odE19, .func (PySem.W.fnOf "__init__" "TooMany.__init__" (defArgs sI_TooMany) (defBody sI_TooMany) (defScope sI_TooMany) .none kVE19 dcE19 pmE19 anE19 cdE19 ctE19), slE19⟩)
    (c_E19 : PySem.W.codeIn K cdE19 "TooMany.__init__" = true)
    (kE19 : PySem.W.keepIn K (.ref fE19) = true)
    (aE20 : PySem.W.findIn K (.ref C20) "__init__" = some (some (.ref fE20)))
    (tE20 : PySem.W.typeIn K (.ref fE20) = some (.type "function"))
    (lE20 : K.lookup fE20 = some ⟨ocE20, odE20, .func (PySem.W.fnOf "__init__" "BadText.__init__" (defArgs sI_BadText) (defBody sI_BadText) (defScope sI_BadText) .none kVE20 dcE20 pmE20 anE20 cdE20 ctE20), slE20⟩)
    (c_E20 : PySem.W.codeIn K cdE20 "BadText.__init__" = true)
    (kE20 : PySem.W.keepIn K (.ref fE20) = true)
    (aE21 : PySem.W.findIn K (.ref C21) "__init__" = some (some (.ref fE21)))
    (tE21 : PySem.W.typeIn K (.ref fE21) = some (.type "function"))
    (lE21 : K.lookup fE21 = some ⟨ocE21, odE21, .func (PySem.W.fnOf "__init__" "BadLine.__init__" (defArgs sI_BadLine) (defBody sI_BadLine) (defScope sI_BadLine) .none kVE21 dcE21 pmE21 anE21 cdE21 ctE21), slE21⟩)
    (c_E21 : PySem.W.codeIn K cdE21 "BadLine.__init__" = true)
    (kE21 : PySem.W.keepIn K (.ref fE21) = true)
    (aPe : PySem.W.findIn K (.ref PA) "__eq__" = some (some (.ref fPe)))
    (iPe : PySem.W.isFn K (.ref fPe) = true)
    (lPe : K.lookup fPe = some ⟨ocPe, odPe, .func (PySem.W.fnOf "__eq__" "Paper.__eq__" (defArgs sPaE) (defBody sPaE) (defScope sPaE) .none kVPe dcPe pmPe anPe cdPe ctPe), slPe⟩)
    (c_Pe : PySem.W.codeIn K cdPe "Paper.__eq__" = true)
    (kPe : PySem.W.keepIn K (.ref fPe) = true)
    (aDe : PySem.W.findIn K (.ref DE) "__eq__" = some (some (.ref fDe)))
    (iDe : PySem.W.isFn K (.ref fDe) = true)
    (lDe : K.lookup fDe = some ⟨ocDe, odDe, .func (PySem.W.fnOf "__eq__" "Denial.__eq__" (defArgs sDeE) (defBody sDeE) (defScope sDeE) .none kVDe dcDe pmDe anDe cdDe ctDe), slDe⟩)
    (c_De : PySem.W.codeIn K cdDe "Denial.__eq__" = true)
    (kDe : PySem.W.keepIn K (.ref fDe) = true)
    (aPb : PySem.W.findIn K (.ref PA) "__bool__" = some (some (.ref fPb)))
    (iPb : PySem.W.isFn K (.ref fPb) = true)
    (lPb : K.lookup fPb = some ⟨ocPb, odPb, .func (PySem.W.fnOf "__bool__" "Paper.__bool__" (defArgs sPaB) (defBody sPaB) (defScope sPaB) .none kVPb dcPb pmPb anPb cdPb ctPb), slPb⟩)
    (c_Pb : PySem.W.codeIn K cdPb "Paper.__bool__" = true)
    (kPb : PySem.W.keepIn K (.ref fPb) = true)
    (aDb : PySem.W.findIn K (.ref DE) "__bool__" = some (some (.ref fDb)))
    (iDb : PySem.W.isFn K (.ref fDb) = true)
    (lDb : K.lookup fDb = some ⟨ocDb, odDb, .func (PySem.W.fnOf "__bool__" "Denial.__bool__" (defArgs sDeB) (defBody sDeB) (defScope sDeB) .none kVDb dcDb pmDb anDb cdDb ctDb), slDb⟩)
    (c_Db : PySem.W.codeIn K cdDb "Denial.__bool__" = true)
    (kDb : PySem.W.keepIn K (.ref fDb) = true)
    (aPi : PySem.W.findIn K (.ref PA) "__init__" = some (some (.ref fPi)))
    (iPi : PySem.W.isFn K (.ref fPi) = true)
    (lPi : K.lookup fPi = some ⟨ocPi, odPi, .func (PySem.W.fnOf "__init__" "Paper.__init__" (defArgs sPaI) (defBody sPaI) (defScope sPaI) .none kVPi dcPi pmPi anPi cdPi ctPi), slPi⟩)
    (c_Pi : PySem.W.codeIn K cdPi "Paper.__init__" = true)
    (kPi : PySem.W.keepIn K (.ref fPi) = true)
    (aDi : PySem.W.findIn K (.ref DE) "__init__" = some (some (.ref fDi)))
    (iDi : PySem.W.isFn K (.ref fDi) = true)
    (lDi : K.lookup fDi = some ⟨ocDi, odDi, .func (PySem.W.fnOf "__init__" "Denial.__init__" (defArgs sDeI) (defBody sDeI) (defScope sDeI) .none kVDi dcDi pmDi anDi cdDi ctDi), slDi⟩)
    (c_Di : PySem.W.codeIn K cdDi "Denial.__init__" = true)
    (kDi : PySem.W.keepIn K (.ref fDi) = true)
    (xC0 : K.lookup C0 = some (excClassObj nmC0 qC0 C0 NC0 bsC0 bmC0 true snC0 subC0 abC0 colC0 ddC0 k0C0 k1C0 k2C0 k3C0 k5C0 "ValueError.__new__"))
    (vC0 : PySem.HandSPX.refsVE bmC0 = true)
    (saC0 : PySem.W.findIn K (.ref C0) "__setattr__" = some (some (.builtin "object.__setattr__")))
    (tyC0 : PySem.W.typeIn K (.ref C0) = some (.type "type"))
    (exC0 : PySem.W.subIn K (.ref C0) (.type "BaseException") = some true)
    (kcC0 : PySem.W.keepIn K (.ref C0) = true)
    (gaC0 : PySem.W.findIn K (.ref C0) "__getattribute__" = some (some (.builtin "BaseException.__getattribute__")))
    (ggC0 : PySem.W.findIn K (.ref C0) "__getattr__" = some none)
    (hdC0 : PySem.W.hasDictIn K C0 = true)
    (clC0 : (PySem.W.clsIn K C0).isSome = true)
    (caC0 : PySem.W.findIn K (.ref C0) "__class__" = some (some (.builtin "object.__class__")))
    (mrC0 : PySem.W.mroIn K C0 (.type "object") = some true)
    (n0_part : PySem.W.findIn K (.ref C0) "part" = some none)
    (kTC0 : PySem.W.kitOne K (.ref C0) (.ref TE) = some true)
    (kMC0 : PySem.W.kitOne K (.ref C0) (.ref MI) = some false)
    (kVC0 : PySem.W.kitOne K (.ref C0) (.type "ValueError") = some true)
    (kLC0 : PySem.W.kitAny K (.ref C0) [.type "LookupError", .type "ArithmeticError", .type "TypeError"] = some false)
    (xC1 : K.lookup C1 = some (excClassObj nmC1 qC1 C1 NC1 bsC1 bmC1 true snC1 subC1 abC1 colC1 ddC1 k0C1 k1C1 k2C1 k3C1 k5C1 "ValueError.__new__"))
    (vC1 : PySem.HandSPX.refsVE bmC1 = true)
    (saC1 : PySem.W.findIn K (.ref C1) "__setattr__" = some (some (.builtin "object.__setattr__")))
    (tyC1 : PySem.W.typeIn K (.ref C1) = some (.type "type"))
    (exC1 : PySem.W.subIn K (.ref C1) (.type "BaseException") = some true)
    (kcC1 : PySem.W.keepIn K (.ref C1) = true)
    (gaC1 : PySem.W.findIn K (.ref C1) "__getattribute__" = some (some (.builtin "BaseException.__getattribute__")))
    (ggC1 : PySem.W.findIn K (.ref C1) "__getattr__" = some none)
    (hdC1 : PySem.W.hasDictIn K C1 = true)
    (clC1 : (PySem.W.clsIn K C1).isSome = true)
    (caC1 : PySem.W.findIn K (.ref C1) "__class__" = some (some (.builtin "object.__class__")))
    (mrC1 : PySem.W.mroIn K C1 (.type "object") = some true)
    (n1_part : PySem.W.findIn K (.ref C1) "part" = some none)
    (kTC1 : PySem.W.kitOne K (.ref C1) (.ref TE) = some true)
    (kMC1 : PySem.W.kitOne K (.ref C1) (.ref MI) = some false)
    (kVC1 : PySem.W.kitOne K (.ref C1) (.type "ValueError") = some true)
    (kLC1 : PySem.W.kitAny K (.ref C1) [.type "LookupError", .type "ArithmeticError", .type "TypeError"] = some false)
    (xC2 : K.lookup C2 = some (excClassObj nmC2 qC2 C2 NC2 bsC2 bmC2 true snC2 subC2 abC2 colC2 ddC2 k0C2 k1C2 k2C2 k3C2 k5C2 "ValueError.__new__"))
    (vC2 : PySem.HandSPX.refsVE bmC2 = true)
    (saC2 : PySem.W.findIn K (.ref C2) "__setattr__" = some (some (.builtin "object.__setattr__")))
    (tyC2 : PySem.W.typeIn K (.ref C2) = some (.type "type"))
    (exC2 : PySem.W.subIn K (.ref C2) (.type "BaseException") = some true)
    (kcC2 : PySem.W.keepIn K (.ref C2) = true)
    (gaC2 : PySem.W.findIn K (.ref C2) "__getattribute__" = some (some (.builtin "BaseException.__getattribute__")))
    (ggC2 : PySem.W.findIn K (.ref C2) "__getattr__" = some none)
    (hdC2 : PySem.W.hasDictIn K C2 = true)
    (clC2 : (PySem.W.clsIn K C2).isSome = true)
    (caC2 : PySem.W.findIn K (.ref C2) "__class__" = some (some (.builtin "object.__class__")))
    (mrC2 : PySem.W.mroIn K C2 (.type "object") = some true)
    (n2_part : PySem.W.findIn K (.ref C2) "part" = some none)
    (kTC2 : PySem.W.kitOne K (.ref C2) (.ref TE) = some true)
    (kMC2 : PySem.W.kitOne K (.ref C2) (.ref MI) = some false)
    (kVC2 : PySem.W.kitOne K (.ref C2) (.type "ValueError") = some true)
    (kLC2 : PySem.W.kitAny K (.ref C2) [.type "LookupError", .type "ArithmeticError", .type "TypeError"] = some false)
    (xC3 : K.lookup C3 = some (excClassObj nmC3 qC3 C3 NC3 bsC3 bmC3 true snC3 subC3 abC3 colC3 ddC3 k0C3 k1C3 k2C3 k3C3 k5C3 "ValueError.__new__"))
    (vC3 : PySem.HandSPX.refsVE bmC3 = true)
    (saC3 : PySem.W.findIn K (.ref C3) "__setattr__" = some (some (.builtin "object.__setattr__")))
    (tyC3 : PySem.W.typeIn K (.ref C3) = some (.type "type"))
    (exC3 : PySem.W.subIn K (.ref C3) (.type "BaseException") = some true)
    (kcC3 : PySem.W.keepIn K (.ref C3) = true)
    (gaC3 : PySem.W.findIn K (.ref C3) "__getattribute__" = some (some (.builtin "BaseException.__getattribute__")))
    (ggC3 : PySem.W.findIn K (.ref C3) "__getattr__" = some none)
    (hdC3 : PySem.W.hasDictIn K C3 = true)
    (clC3 : (PySem.W.clsIn K C3).isSome = true)
    (caC3 : PySem.W.findIn K (.ref C3) "__class__" = some (some (.builtin "object.__class__")))
    (mrC3 : PySem.W.mroIn K C3 (.type "object") = some true)
    (n3_part : PySem.W.findIn K (.ref C3) "part" = some none)
    (kTC3 : PySem.W.kitOne K (.ref C3) (.ref TE) = some true)
    (kMC3 : PySem.W.kitOne K (.ref C3) (.ref MI) = some false)
    (kVC3 : PySem.W.kitOne K (.ref C3) (.type "ValueError") = some true)
    (kLC3 : PySem.W.kitAny K (.ref C3) [.type "LookupError", .type "ArithmeticError", .type "TypeError"] = some false)
    (xC4 : K.lookup C4 = some (excClassObj nmC4 qC4 C4 NC4 bsC4 bmC4 true snC4 subC4 abC4 colC4 ddC4 k0C4 k1C4 k2C4 k3C4 k5C4 "ValueError.__new__"))
    (vC4 : PySem.HandSPX.refsVE bmC4 = true)
    (saC4 : PySem.W.findIn K (.ref C4) "__setattr__" = some (some (.builtin "object.__setattr__")))
    (tyC4 : PySem.W.typeIn K (.ref C4) = some (.type "type"))
    (exC4 : PySem.W.subIn K (.ref C4) (.type "BaseException") = some true)
    (kcC4 : PySem.W.keepIn K (.ref C4) = true)
    (gaC4 : PySem.W.findIn K (.ref C4) "__getattribute__" = some (some (.builtin "BaseException.__getattribute__")))
    (ggC4 : PySem.W.findIn K (.ref C4) "__getattr__" = some none)
    (hdC4 : PySem.W.hasDictIn K C4 = true)
    (clC4 : (PySem.W.clsIn K C4).isSome = true)
    (caC4 : PySem.W.findIn K (.ref C4) "__class__" = some (some (.builtin "object.__class__")))
    (mrC4 : PySem.W.mroIn K C4 (.type "object") = some true)
    (n4_part : PySem.W.findIn K (.ref C4) "part" = some none)
    (kTC4 : PySem.W.kitOne K (.ref C4) (.ref TE) = some true)
    (kMC4 : PySem.W.kitOne K (.ref C4) (.ref MI) = some false)
    (kVC4 : PySem.W.kitOne K (.ref C4) (.type "ValueError") = some true)
    (kLC4 : PySem.W.kitAny K (.ref C4) [.type "LookupError", .type "ArithmeticError", .type "TypeError"] = some false)
    (xC5 : K.lookup C5 = some (excClassObj nmC5 qC5 C5 NC5 bsC5 bmC5 true snC5 subC5 abC5 colC5 ddC5 k0C5 k1C5 k2C5 k3C5 k5C5 "ValueError.__new__"))
    (vC5 : PySem.HandSPX.refsVE bmC5 = true)
    (saC5 : PySem.W.findIn K (.ref C5) "__setattr__" = some (some (.builtin "object.__setattr__")))
    (tyC5 : PySem.W.typeIn K (.ref C5) = some (.type "type"))
    (exC5 : PySem.W.subIn K (.ref C5) (.type "BaseException") = some true)
    (kcC5 : PySem.W.keepIn K (.ref C5) = true)
    (gaC5 : PySem.W.findIn K (.ref C5) "__getattribute__" = some (some (.builtin "BaseException.__getattribute__")))
    (ggC5 : PySem.W.findIn K (.ref C5) "__getattr__" = some none)
    (hdC5 : PySem.W.hasDictIn K C5 = true)
    (clC5 : (PySem.W.clsIn K C5).isSome = true)
    (caC5 : PySem.W.findIn K (.ref C5) "__class__" = some (some (.builtin "object.__class__")))
    (mrC5 : PySem.W.mroIn K C5 (.type "object") = some true)
    (n5_part : PySem.W.findIn K (.ref C5) "part" = some none)
    (kTC5 : PySem.W.kitOne K (.ref C5) (.ref TE) = some true)
    (kMC5 : PySem.W.kitOne K (.ref C5) (.ref MI) = some false)
    (kVC5 : PySem.W.kitOne K (.ref C5) (.type "ValueError") = some true)
    (kLC5 : PySem.W.kitAny K (.ref C5) [.type "LookupError", .type "ArithmeticError", .type "TypeError"] = some false)
    (xC6 : K.lookup C6 = some (excClassObj nmC6 qC6 C6 NC6 bsC6 bmC6 true snC6 subC6 abC6 colC6 ddC6 k0C6 k1C6 k2C6 k3C6 k5C6 "ValueError.__new__"))
    (vC6 : PySem.HandSPX.refsVE bmC6 = true)
    (saC6 : PySem.W.findIn K (.ref C6) "__setattr__" = some (some (.builtin "object.__setattr__")))
    (tyC6 : PySem.W.typeIn K (.ref C6) = some (.type "type"))
    (exC6 : PySem.W.subIn K (.ref C6) (.type "BaseException") = some true)
    (kcC6 : PySem.W.keepIn K (.ref C6) = true)
    (gaC6 : PySem.W.findIn K (.ref C6) "__getattribute__" = some (some (.builtin "BaseException.__getattribute__")))
    (ggC6 : PySem.W.findIn K (.ref C6) "__getattr__" = some none)
    (hdC6 : PySem.W.hasDictIn K C6 = true)
    (clC6 : (PySem.W.clsIn K C6).isSome = true)
    (caC6 : PySem.W.findIn K (.ref C6) "__class__" = some (some (.builtin "object.__class__")))
    (mrC6 : PySem.W.mroIn K C6 (.type "object") = some true)
    (n6_part : PySem.W.findIn K (.ref C6) "part" = some none)
    (kTC6 : PySem.W.kitOne K (.ref C6) (.ref TE) = some true)
    (kMC6 : PySem.W.kitOne K (.ref C6) (.ref MI) = some false)
    (kVC6 : PySem.W.kitOne K (.ref C6) (.type "ValueError") = some true)
    (kLC6 : PySem.W.kitAny K (.ref C6) [.type "LookupError", .type "ArithmeticError", .type "TypeError"] = some false)
    (xC7 : K.lookup C7 = some (excClassObj nmC7 qC7 C7 NC7 bsC7 bmC7 true snC7 subC7 abC7 colC7 ddC7 k0C7 k1C7 k2C7 k3C7 k5C7 "ValueError.__new__"))
    (vC7 : PySem.HandSPX.refsVE bmC7 = true)
    (saC7 : PySem.W.findIn K (.ref C7) "__setattr__" = some (some (.builtin "object.__setattr__")))
    (tyC7 : PySem.W.typeIn K (.ref C7) = some (.type "type"))
    (exC7 : PySem.W.subIn K (.ref C7) (.type "BaseException") = some true)
    (kcC7 : PySem.W.keepIn K (.ref C7) = true)
    (gaC7 : PySem.W.findIn K (.ref C7) "__getattribute__" = some (some (.builtin "BaseException.__getattribute__")))
    (ggC7 : PySem.W.findIn K (.ref C7) "__getattr__" = some none)
    (hdC7 : PySem.W.hasDictIn K C7 = true)
    (clC7 : (PySem.W.clsIn K C7).isSome = true)
    (caC7 : PySem.W.findIn K (.ref C7) "__class__" = some (some (.builtin "object.__class__")))
    (mrC7 : PySem.W.mroIn K C7 (.type "object") = some true)
    (n7_part : PySem.W.findIn K (.ref C7) "part" = some none)
    (kTC7 : PySem.W.kitOne K (.ref C7) (.ref TE) = some true)
    (kMC7 : PySem.W.kitOne K (.ref C7) (.ref MI) = some false)
    (kVC7 : PySem.W.kitOne K (.ref C7) (.type "ValueError") = some true)
    (kLC7 : PySem.W.kitAny K (.ref C7) [.type "LookupError", .type "ArithmeticError", .type "TypeError"] = some false)
    (xC8 : K.lookup C8 = some (excClassObj nmC8 qC8 C8 NC8 bsC8 bmC8 true snC8 subC8 abC8 colC8 ddC8 k0C8 k1C8 k2C8 k3C8 k5C8 "ValueError.__new__"))
    (vC8 : PySem.HandSPX.refsVE bmC8 = true)
    (saC8 : PySem.W.findIn K (.ref C8) "__setattr__" = some (some (.builtin "object.__setattr__")))
    (tyC8 : PySem.W.typeIn K (.ref C8) = some (.type "type"))
    (exC8 : PySem.W.subIn K (.ref C8) (.type "BaseException") = some true)
    (kcC8 : PySem.W.keepIn K (.ref C8) = true)
    (gaC8 : PySem.W.findIn K (.ref C8) "__getattribute__" = some (some (.builtin "BaseException.__getattribute__")))
    (ggC8 : PySem.W.findIn K (.ref C8) "__getattr__" = some none)
    (hdC8 : PySem.W.hasDictIn K C8 = true)
    (clC8 : (PySem.W.clsIn K C8).isSome = true)
    (caC8 : PySem.W.findIn K (.ref C8) "__class__" = some (some (.builtin "object.__class__")))
    (mrC8 : PySem.W.mroIn K C8 (.type "object") = some true)
    (n8_part : PySem.W.findIn K (.ref C8) "part" = some none)
    (kTC8 : PySem.W.kitOne K (.ref C8) (.ref TE) = some true)
    (kMC8 : PySem.W.kitOne K (.ref C8) (.ref MI) = some false)
    (kVC8 : PySem.W.kitOne K (.ref C8) (.type "ValueError") = some true)
    (kLC8 : PySem.W.kitAny K (.ref C8) [.type "LookupError", .type "ArithmeticError", .type "TypeError"] = some false)
    (xC9 : K.lookup C9 = some (excClassObj nmC9 qC9 C9 NC9 bsC9 bmC9 true snC9 subC9 abC9 colC9 ddC9 k0C9 k1C9 k2C9 k3C9 k5C9 "ValueError.__new__"))
    (vC9 : PySem.HandSPX.refsVE bmC9 = true)
    (saC9 : PySem.W.findIn K (.ref C9) "__setattr__" = some (some (.builtin "object.__setattr__")))
    (tyC9 : PySem.W.typeIn K (.ref C9) = some (.type "type"))
    (exC9 : PySem.W.subIn K (.ref C9) (.type "BaseException") = some true)
    (kcC9 : PySem.W.keepIn K (.ref C9) = true)
    (gaC9 : PySem.W.findIn K (.ref C9) "__getattribute__" = some (some (.builtin "BaseException.__getattribute__")))
    (ggC9 : PySem.W.findIn K (.ref C9) "__getattr__" = some none)
    (hdC9 : PySem.W.hasDictIn K C9 = true)
    (clC9 : (PySem.W.clsIn K C9).isSome = true)
    (caC9 : PySem.W.findIn K (.ref C9) "__class__" = some (some (.builtin "object.__class__")))
    (mrC9 : PySem.W.mroIn K C9 (.type "object") = some true)
    (n9_part : PySem.W.findIn K (.ref C9) "part" = some none)
    (kTC9 : PySem.W.kitOne K (.ref C9) (.ref TE) = some true)
    (kMC9 : PySem.W.kitOne K (.ref C9) (.ref MI) = some false)
    (kVC9 : PySem.W.kitOne K (.ref C9) (.type "ValueError") = some true)
    (kLC9 : PySem.W.kitAny K (.ref C9) [.type "LookupError", .type "ArithmeticError", .type "TypeError"] = some false)
    (xC10 : K.lookup C10 = some (excClassObj nmC10 qC10 C10 NC10 bsC10 bmC10 true snC10 subC10 abC10 colC10 ddC10 k0C10 k1C10 k2C10 k3C10 k5C10 "ValueError.__new__"))
    (vC10 : PySem.HandSPX.refsVE bmC10 = true)
    (saC10 : PySem.W.findIn K (.ref C10) "__setattr__" = some (some (.builtin "object.__setattr__")))
    (tyC10 : PySem.W.typeIn K (.ref C10) = some (.type "type"))
    (exC10 : PySem.W.subIn K (.ref C10) (.type "BaseException") = some true)
    (kcC10 : PySem.W.keepIn K (.ref C10) = true)
    (gaC10 : PySem.W.findIn K (.ref C10) "__getattribute__" = some (some (.builtin "BaseException.__getattribute__")))
    (ggC10 : PySem.W.findIn K (.ref C10) "__getattr__" = some none)
    (hdC10 : PySem.W.hasDictIn K C10 = true)
    (clC10 : (PySem.W.clsIn K C10).isSome = true)
    (caC10 : PySem.W.findIn K (.ref C10) "__class__" = some (some (.builtin "object.__class__")))
    (mrC10 : PySem.W.mroIn K C10 (.type "object") = some true)
    (n10_axis : PySem.W.findIn K (.ref C10) "axis" = some none)
    (kTC10 : PySem.W.kitOne K (.ref C10) (.ref TE) = some true)
    (kMC10 : PySem.W.kitOne K (.ref C10) (.ref MI) = some true)
    (kVC10 : PySem.W.kitOne K (.ref C10) (.type "ValueError") = some true)
    (kLC10 : PySem.W.kitAny K (.ref C10) [.type "LookupError", .type "ArithmeticError", .type "TypeError"] = some false)
    (xC11 : K.lookup C11 = some (excClassObj nmC11 qC11 C11 NC11 bsC11 bmC11 true snC11 subC11 abC11 colC11 ddC11 k0C11 k1C11 k2C11 k3C11 k5C11 "ValueError.__new__"))
    (vC11 : PySem.HandSPX.refsVE bmC11 = true)
    (saC11 : PySem.W.findIn K (.ref C11) "__setattr__" = some (some (.builtin "object.__setattr__")))
    (tyC11 : PySem.W.typeIn K (.ref C11) = some (.type "type"))
    (exC11 : PySem.W.subIn K (.ref C11) (.type "BaseException") = some true)
    (kcC11 : PySem.W.keepIn K (.ref C11) = true)
    (gaC11 : PySem.W.findIn K (.ref C11) "__getattribute__" = some (some (.builtin "BaseException.__getattribute__")))
    (ggC11 : PySem.W.findIn K (.ref C11) "__getattr__" = some none)
    (hdC11 : PySem.W.hasDictIn K C11 = true)
    (clC11 : (PySem.W.clsIn K C11).isSome = true)
    (caC11 : PySem.W.findIn K (.ref C11) "__class__" = some (some (.builtin "object.__class__")))
    (mrC11 : PySem.W.mroIn K C11 (.type "object") = some true)
    (n11_name : PySem.W.findIn K (.ref C11) "name" = some none)
    (kTC11 : PySem.W.kitOne K (.ref C11) (.ref TE) = some true)
    (kMC11 : PySem.W.kitOne K (.ref C11) (.ref MI) = some true)
    (kVC11 : PySem.W.kitOne K (.ref C11) (.type "ValueError") = some true)
    (kLC11 : PySem.W.kitAny K (.ref C11) [.type "LookupError", .type "ArithmeticError", .type "TypeError"] = some false)
    (xC12 : K.lookup C12 = some (excClassObj nmC12 qC12 C12 NC12 bsC12 bmC12 true snC12 subC12 abC12 colC12 ddC12 k0C12 k1C12 k2C12 k3C12 k5C12 "ValueError.__new__"))
    (vC12 : PySem.HandSPX.refsVE bmC12 = true)
    (saC12 : PySem.W.findIn K (.ref C12) "__setattr__" = some (some (.builtin "object.__setattr__")))
    (tyC12 : PySem.W.typeIn K (.ref C12) = some (.type "type"))
    (exC12 : PySem.W.subIn K (.ref C12) (.type "BaseException") = some true)
    (kcC12 : PySem.W.keepIn K (.ref C12) = true)
    (gaC12 : PySem.W.findIn K (.ref C12) "__getattribute__" = some (some (.builtin "BaseException.__getattribute__")))
    (ggC12 : PySem.W.findIn K (.ref C12) "__getattr__" = some none)
    (hdC12 : PySem.W.hasDictIn K C12 = true)
    (clC12 : (PySem.W.clsIn K C12).isSome = true)
    (caC12 : PySem.W.findIn K (.ref C12) "__class__" = some (some (.builtin "object.__class__")))
    (mrC12 : PySem.W.mroIn K C12 (.type "object") = some true)
    (n12_place : PySem.W.findIn K (.ref C12) "place" = some none)
    (kTC12 : PySem.W.kitOne K (.ref C12) (.ref TE) = some true)
    (kMC12 : PySem.W.kitOne K (.ref C12) (.ref MI) = some true)
    (kVC12 : PySem.W.kitOne K (.ref C12) (.type "ValueError") = some true)
    (kLC12 : PySem.W.kitAny K (.ref C12) [.type "LookupError", .type "ArithmeticError", .type "TypeError"] = some false)
    (xC13 : K.lookup C13 = some (excClassObj nmC13 qC13 C13 NC13 bsC13 bmC13 true snC13 subC13 abC13 colC13 ddC13 k0C13 k1C13 k2C13 k3C13 k5C13 "ValueError.__new__"))
    (vC13 : PySem.HandSPX.refsVE bmC13 = true)
    (saC13 : PySem.W.findIn K (.ref C13) "__setattr__" = some (some (.builtin "object.__setattr__")))
    (tyC13 : PySem.W.typeIn K (.ref C13) = some (.type "type"))
    (exC13 : PySem.W.subIn K (.ref C13) (.type "BaseException") = some true)
    (kcC13 : PySem.W.keepIn K (.ref C13) = true)
    (gaC13 : PySem.W.findIn K (.ref C13) "__getattribute__" = some (some (.builtin "BaseException.__getattribute__")))
    (ggC13 : PySem.W.findIn K (.ref C13) "__getattr__" = some none)
    (hdC13 : PySem.W.hasDictIn K C13 = true)
    (clC13 : (PySem.W.clsIn K C13).isSome = true)
    (caC13 : PySem.W.findIn K (.ref C13) "__class__" = some (some (.builtin "object.__class__")))
    (mrC13 : PySem.W.mroIn K C13 (.type "object") = some true)
    (n13_place : PySem.W.findIn K (.ref C13) "place" = some none)
    (n13_words : PySem.W.findIn K (.ref C13) "words" = some none)
    (kTC13 : PySem.W.kitOne K (.ref C13) (.ref TE) = some true)
    (kMC13 : PySem.W.kitOne K (.ref C13) (.ref MI) = some true)
    (kVC13 : PySem.W.kitOne K (.ref C13) (.type "ValueError") = some true)
    (kLC13 : PySem.W.kitAny K (.ref C13) [.type "LookupError", .type "ArithmeticError", .type "TypeError"] = some false)
    (xC14 : K.lookup C14 = some (excClassObj nmC14 qC14 C14 NC14 bsC14 bmC14 true snC14 subC14 abC14 colC14 ddC14 k0C14 k1C14 k2C14 k3C14 k5C14 "ValueError.__new__"))
    (vC14 : PySem.HandSPX.refsVE bmC14 = true)
    (saC14 : PySem.W.findIn K (.ref C14) "__setattr__" = some (some (.builtin "object.__setattr__")))
    (tyC14 : PySem.W.typeIn K (.ref C14) = some (.type "type"))
    (exC14 : PySem.W.subIn K (.ref C14) (.type "BaseException") = some true)
    (kcC14 : PySem.W.keepIn K (.ref C14) = true)
    (gaC14 : PySem.W.findIn K (.ref C14) "__getattribute__" = some (some (.builtin "BaseException.__getattribute__")))
    (ggC14 : PySem.W.findIn K (.ref C14) "__getattr__" = some none)
    (hdC14 : PySem.W.hasDictIn K C14 = true)
    (clC14 : (PySem.W.clsIn K C14).isSome = true)
    (caC14 : PySem.W.findIn K (.ref C14) "__class__" = some (some (.builtin "object.__class__")))
    (mrC14 : PySem.W.mroIn K C14 (.type "object") = some true)
    (n14_at : PySem.W.findIn K (.ref C14) "at" = some none)
    (kTC14 : PySem.W.kitOne K (.ref C14) (.ref TE) = some true)
    (kMC14 : PySem.W.kitOne K (.ref C14) (.ref MI) = some false)
    (kVC14 : PySem.W.kitOne K (.ref C14) (.type "ValueError") = some true)
    (kLC14 : PySem.W.kitAny K (.ref C14) [.type "LookupError", .type "ArithmeticError", .type "TypeError"] = some false)
    (xC15 : K.lookup C15 = some (excClassObj nmC15 qC15 C15 NC15 bsC15 bmC15 true snC15 subC15 abC15 colC15 ddC15 k0C15 k1C15 k2C15 k3C15 k5C15 "ValueError.__new__"))
    (vC15 : PySem.HandSPX.refsVE bmC15 = true)
    (saC15 : PySem.W.findIn K (.ref C15) "__setattr__" = some (some (.builtin "object.__setattr__")))
    (tyC15 : PySem.W.typeIn K (.ref C15) = some (.type "type"))
    (exC15 : PySem.W.subIn K (.ref C15) (.type "BaseException") = some true)
    (kcC15 : PySem.W.keepIn K (.ref C15) = true)
    (gaC15 : PySem.W.findIn K (.ref C15) "__getattribute__" = some (some (.builtin "BaseException.__getattribute__")))
    (ggC15 : PySem.W.findIn K (.ref C15) "__getattr__" = some none)
    (hdC15 : PySem.W.hasDictIn K C15 = true)
    (clC15 : (PySem.W.clsIn K C15).isSome = true)
    (caC15 : PySem.W.findIn K (.ref C15) "__class__" = some (some (.builtin "object.__class__")))
    (mrC15 : PySem.W.mroIn K C15 (.type "object") = some true)
    (n15_at : PySem.W.findIn K (.ref C15) "at" = some none)
    (kTC15 : PySem.W.kitOne K (.ref C15) (.ref TE) = some true)
    (kMC15 : PySem.W.kitOne K (.ref C15) (.ref MI) = some false)
    (kVC15 : PySem.W.kitOne K (.ref C15) (.type "ValueError") = some true)
    (kLC15 : PySem.W.kitAny K (.ref C15) [.type "LookupError", .type "ArithmeticError", .type "TypeError"] = some false)
    (xC16 : K.lookup C16 = some (excClassObj nmC16 qC16 C16 NC16 bsC16 bmC16 true snC16 subC16 abC16 colC16 ddC16 k0C16 k1C16 k2C16 k3C16 k5C16 "ValueError.__new__"))
    (vC16 : PySem.HandSPX.refsVE bmC16 = true)
    (saC16 : PySem.W.findIn K (.ref C16) "__setattr__" = some (some (.builtin "object.__setattr__")))
    (tyC16 : PySem.W.typeIn K (.ref C16) = some (.type "type"))
    (exC16 : PySem.W.subIn K (.ref C16) (.type "BaseException") = some true)
    (kcC16 : PySem.W.keepIn K (.ref C16) = true)
    (gaC16 : PySem.W.findIn K (.ref C16) "__getattribute__" = some (some (.builtin "BaseException.__getattribute__")))
    (ggC16 : PySem.W.findIn K (.ref C16) "__getattr__" = some none)
    (hdC16 : PySem.W.hasDictIn K C16 = true)
    (clC16 : (PySem.W.clsIn K C16).isSome = true)
    (caC16 : PySem.W.findIn K (.ref C16) "__class__" = some (some (.builtin "object.__class__")))
    (mrC16 : PySem.W.mroIn K C16 (.type "object") = some true)
    (n16_place : PySem.W.findIn K (.ref C16) "place" = some none)
    (kTC16 : PySem.W.kitOne K (.ref C16) (.ref TE) = some true)
    (kMC16 : PySem.W.kitOne K (.ref C16) (.ref MI) = some false)
    (kVC16 : PySem.W.kitOne K (.ref C16) (.type "ValueError") = some true)
    (kLC16 : PySem.W.kitAny K (.ref C16) [.type "LookupError", .type "ArithmeticError", .type "TypeError"] = some false)
    (xC17 : K.lookup C17 = some (excClassObj nmC17 qC17 C17 NC17 bsC17 bmC17 true snC17 subC17 abC17 colC17 ddC17 k0C17 k1C17 k2C17 k3C17 k5C17 "ValueError.__new__"))
    (vC17 : PySem.HandSPX.refsVE bmC17 = true)
    (saC17 : PySem.W.findIn K (.ref C17) "__setattr__" = some (some (.builtin "object.__setattr__")))
    (tyC17 : PySem.W.typeIn K (.ref C17) = some (.type "type"))
    (exC17 : PySem.W.subIn K (.ref C17) (.type "BaseException") = some true)
    (kcC17 : PySem.W.keepIn K (.ref C17) = true)
    (gaC17 : PySem.W.findIn K (.ref C17) "__getattribute__" = some (some (.builtin "BaseException.__getattribute__")))
    (ggC17 : PySem.W.findIn K (.ref C17) "__getattr__" = some none)
    (hdC17 : PySem.W.hasDictIn K C17 = true)
    (clC17 : (PySem.W.clsIn K C17).isSome = true)
    (caC17 : PySem.W.findIn K (.ref C17) "__class__" = some (some (.builtin "object.__class__")))
    (mrC17 : PySem.W.mroIn K C17 (.type "object") = some true)
    (n17_place : PySem.W.findIn K (.ref C17) "place" = some none)
    (kTC17 : PySem.W.kitOne K (.ref C17) (.ref TE) = some true)
    (kMC17 : PySem.W.kitOne K (.ref C17) (.ref MI) = some false)
    (kVC17 : PySem.W.kitOne K (.ref C17) (.type "ValueError") = some true)
    (kLC17 : PySem.W.kitAny K (.ref C17) [.type "LookupError", .type "ArithmeticError", .type "TypeError"] = some false)
    (exC18 : PySem.W.subIn K (.ref C18) (.type "BaseException") = some true)
    (kcC18 : PySem.W.keepIn K (.ref C18) = true)
    (gaC18 : PySem.W.findIn K (.ref C18) "__getattribute__" = some (some (.builtin "BaseException.__getattribute__")))
    (ggC18 : PySem.W.findIn K (.ref C18) "__getattr__" = some none)
    (hdC18 : PySem.W.hasDictIn K C18 = true)
    (clC18 : (PySem.W.clsIn K C18).isSome = true)
    (caC18 : PySem.W.findIn K (.ref C18) "__class__" = some (some (.builtin "object.__class__")))
    (mrC18 : PySem.W.mroIn K C18 (.type "object") = some true)
    (kTC18 : PySem.W.kitOne K (.ref C18) (.ref TE) = some true)
    (kMC18 : PySem.W.kitOne K (.ref C18) (.ref MI) = some false)
    (kVC18 : PySem.W.kitOne K (.ref C18) (.type "ValueError") = some true)
    (kLC18 : PySem.W.kitAny K (.ref C18) [.type "LookupError", .type "ArithmeticError", .type "TypeError"] = some false)
    (xC19 : K.lookup C19 = some (excClassObj nmC19 qC19 C19 NC19 bsC19 bmC19 true snC19 subC19 abC19 colC19 ddC19 k0C19 k1C19 k2C19 k3C19 k5C19 "ValueError.__new__"))
    (vC19 : PySem.HandSPX.refsVE bmC19 = true)
    (saC19 : PySem.W.findIn K (.ref C19) "__setattr__" = some (some (.builtin "object.__setattr__")))
    (tyC19 : PySem.W.typeIn K (.ref C19) = some (.type "type"))
    (exC19 : PySem.W.subIn K (.ref C19) (.type "BaseException") = some true)
    (kcC19 : PySem.W.keepIn K (.ref C19) = true)
    (gaC19 : PySem.W.findIn K (.ref C19) "__getattribute__" = some (some (.builtin "BaseException.__getattribute__")))
    (ggC19 : PySem.W.findIn K (.ref C19) "__getattr__" = some none)
    (hdC19 : PySem.W.hasDictIn K C19 = true)
    (clC19 : (PySem.W.clsIn K C19).isSome = true)
    (caC19 : PySem.W.findIn K (.ref C19) "__class__" = some (some (.builtin "object.__class__")))
    (mrC19 : PySem.W.mroIn K C19 (.type "object") = some true)
    (n19_what : PySem.W.findIn K (.ref C19) "what" = some none)
    (n19_most : PySem.W.findIn K (.ref C19) "most" = some none)
    (kTC19 : PySem.W.kitOne K (.ref C19) (.ref TE) = some true)
    (kMC19 : PySem.W.kitOne K (.ref C19) (.ref MI) = some false)
    (kVC19 : PySem.W.kitOne K (.ref C19) (.type "ValueError") = some true)
    (kLC19 : PySem.W.kitAny K (.ref C19) [.type "LookupError", .type "ArithmeticError", .type "TypeError"] = some false)
    (xC20 : K.lookup C20 = some (excClassObj nmC20 qC20 C20 NC20 bsC20 bmC20 true snC20 subC20 abC20 colC20 ddC20 k0C20 k1C20 k2C20 k3C20 k5C20 "ValueError.__new__"))
    (vC20 : PySem.HandSPX.refsVE bmC20 = true)
    (saC20 : PySem.W.findIn K (.ref C20) "__setattr__" = some (some (.builtin "object.__setattr__")))
    (tyC20 : PySem.W.typeIn K (.ref C20) = some (.type "type"))
    (exC20 : PySem.W.subIn K (.ref C20) (.type "BaseException") = some true)
    (kcC20 : PySem.W.keepIn K (.ref C20) = true)
    (gaC20 : PySem.W.findIn K (.ref C20) "__getattribute__" = some (some (.builtin "BaseException.__getattribute__")))
    (ggC20 : PySem.W.findIn K (.ref C20) "__getattr__" = some none)
    (hdC20 : PySem.W.hasDictIn K C20 = true)
    (clC20 : (PySem.W.clsIn K C20).isSome = true)
    (caC20 : PySem.W.findIn K (.ref C20) "__class__" = some (some (.builtin "object.__class__")))
    (mrC20 : PySem.W.mroIn K C20 (.type "object") = some true)
    (n20_line : PySem.W.findIn K (.ref C20) "line" = some none)
    (n20_word : PySem.W.findIn K (.ref C20) "word" = some none)
    (kTC20 : PySem.W.kitOne K (.ref C20) (.ref TE) = some true)
    (kMC20 : PySem.W.kitOne K (.ref C20) (.ref MI) = some false)
    (kVC20 : PySem.W.kitOne K (.ref C20) (.type "ValueError") = some true)
    (kLC20 : PySem.W.kitAny K (.ref C20) [.type "LookupError", .type "ArithmeticError", .type "TypeError"] = some false)
    (xC21 : K.lookup C21 = some (excClassObj nmC21 qC21 C21 NC21 bsC21 bmC21 true snC21 subC21 abC21 colC21 ddC21 k0C21 k1C21 k2C21 k3C21 k5C21 "ValueError.__new__"))
    (vC21 : PySem.HandSPX.refsVE bmC21 = true)
    (saC21 : PySem.W.findIn K (.ref C21) "__setattr__" = some (some (.builtin "object.__setattr__")))
    (tyC21 : PySem.W.typeIn K (.ref C21) = some (.type "type"))
    (exC21 : PySem.W.subIn K (.ref C21) (.type "BaseException") = some true)
    (kcC21 : PySem.W.keepIn K (.ref C21) = true)
    (gaC21 : PySem.W.findIn K (.ref C21) "__getattribute__" = some (some (.builtin "BaseException.__getattribute__")))
    (ggC21 : PySem.W.findIn K (.ref C21) "__getattr__" = some none)
    (hdC21 : PySem.W.hasDictIn K C21 = true)
    (clC21 : (PySem.W.clsIn K C21).isSome = true)
    (caC21 : PySem.W.findIn K (.ref C21) "__class__" = some (some (.builtin "object.__class__")))
    (mrC21 : PySem.W.mroIn K C21 (.type "object") = some true)
    (n21_line : PySem.W.findIn K (.ref C21) "line" = some none)
    (n21_error : PySem.W.findIn K (.ref C21) "error" = some none)
    (kTC21 : PySem.W.kitOne K (.ref C21) (.ref TE) = some true)
    (kMC21 : PySem.W.kitOne K (.ref C21) (.ref MI) = some false)
    (kVC21 : PySem.W.kitOne K (.ref C21) (.type "ValueError") = some true)
    (kLC21 : PySem.W.kitAny K (.ref C21) [.type "LookupError", .type "ArithmeticError", .type "TypeError"] = some false)
    (kk : kkB K [C0, C1, C2, C3, C4, C5, C6, C7, C8, C9, C10, C11, C12, C13, C14, C15, C16, C17, C18, C19, C20, C21] = true)
    (e18 : PySem.W.excIn K C18 [.type "ValueError", .type "Exception", .type "BaseException", .type "object"] "ValueError.__new__" = true)
    (rdTE : PySem.W.readsIn K TE (.type "type") = true)
    (gsTE : PySem.W.specialIn K (.ref TE) "__getattribute__" = some (some (.builtin "type.__getattribute__")))
    (inTE : PySem.W.findCls K (.ref TE) (.type "type") "__init__" = some (.val (.builtin "ValueError.__init__")))
    (rdMI : PySem.W.readsIn K MI (.type "type") = true)
    (gsMI : PySem.W.specialIn K (.ref MI) "__getattribute__" = some (some (.builtin "type.__getattribute__")))
    (inMI : PySem.W.findCls K (.ref MI) (.type "type") "__init__" = some (.val (.builtin "ValueError.__init__")))
    (spO : PySem.W.specialIn K (.builtin "object.__class__") "__get__" = some (some (.builtin "getset_descriptor.__get__")))
    (tkO : PySem.W.takesIn K (.builtin "object.__class__") = some true)
    (pgPA : PySem.W.plainGet K PA Str.empty = true)
    (hdPA : PySem.W.hasDictIn K PA = true)
    (poPA : PySem.W.plainOver K PA = true)
    (saPA : PySem.W.findIn K (.ref PA) "__setattr__" = some (some (.builtin "object.__setattr__")))
    (mkPA : PySem.W.makesIn K PA = true)
    (kcPA : PySem.W.keepIn K (.ref PA) = true)
    (nWPA : PySem.W.findIn K (.ref PA) "word" = some none)
    (nPPA : PySem.W.findIn K (.ref PA) "parts" = some none)
    (caPA : PySem.W.findIn K (.ref PA) "__class__" = some (some (.builtin "object.__class__")))
    (mrPA : PySem.W.mroIn K PA (.type "object") = some true)
    (nePA : PySem.W.findIn K (.ref PA) "__ne__" = some (some (.builtin "object.__ne__")))
    (u0PA : PySem.W.subIn K (.type "NoneType") (.ref PA) = some false)
    (u1PA : PySem.W.subIn K (.type "bool") (.ref PA) = some false)
    (u2PA : PySem.W.subIn K (.type "int") (.ref PA) = some false)
    (u3PA : PySem.W.subIn K (.type "str") (.ref PA) = some false)
    (u4PA : PySem.W.subIn K (.type "list") (.ref PA) = some false)
    (u5PA : PySem.W.subIn K (.type "tuple") (.ref PA) = some false)
    (u6PA : PySem.W.subIn K (.type "dict") (.ref PA) = some false)
    (pgDE : PySem.W.plainGet K DE Str.empty = true)
    (hdDE : PySem.W.hasDictIn K DE = true)
    (poDE : PySem.W.plainOver K DE = true)
    (saDE : PySem.W.findIn K (.ref DE) "__setattr__" = some (some (.builtin "object.__setattr__")))
    (mkDE : PySem.W.makesIn K DE = true)
    (kcDE : PySem.W.keepIn K (.ref DE) = true)
    (nWDE : PySem.W.findIn K (.ref DE) "word" = some none)
    (nPDE : PySem.W.findIn K (.ref DE) "parts" = some none)
    (caDE : PySem.W.findIn K (.ref DE) "__class__" = some (some (.builtin "object.__class__")))
    (mrDE : PySem.W.mroIn K DE (.type "object") = some true)
    (neDE : PySem.W.findIn K (.ref DE) "__ne__" = some (some (.builtin "object.__ne__")))
    (u0DE : PySem.W.subIn K (.type "NoneType") (.ref DE) = some false)
    (u1DE : PySem.W.subIn K (.type "bool") (.ref DE) = some false)
    (u2DE : PySem.W.subIn K (.type "int") (.ref DE) = some false)
    (u3DE : PySem.W.subIn K (.type "str") (.ref DE) = some false)
    (u4DE : PySem.W.subIn K (.type "list") (.ref DE) = some false)
    (u5DE : PySem.W.subIn K (.type "tuple") (.ref DE) = some false)
    (u6DE : PySem.W.subIn K (.type "dict") (.ref DE) = some false)
    (s0PA : PySem.W.kitOne K (.type "NoneType") (.ref PA) = some false)
    (s1PA : PySem.W.kitOne K (.type "bool") (.ref PA) = some false)
    (s2PA : PySem.W.kitOne K (.type "int") (.ref PA) = some false)
    (s3PA : PySem.W.kitOne K (.type "str") (.ref PA) = some false)
    (s4PA : PySem.W.kitOne K (.type "list") (.ref PA) = some false)
    (s5PA : PySem.W.kitOne K (.type "tuple") (.ref PA) = some false)
    (s6PA : PySem.W.kitOne K (.type "dict") (.ref PA) = some false)
    (rdPA : PySem.W.readsIn K PA (.type "type") = true)
    (gsPA : PySem.W.specialIn K (.ref PA) "__getattribute__" = some (some (.builtin "type.__getattribute__")))
    (inPA : PySem.W.findCls K (.ref PA) (.type "type") "__init__" = some (.val (.ref fPi)))
    (kPP : PySem.W.kitOne K (.ref PA) (.ref PA) = some true)
    (kDP : PySem.W.kitOne K (.ref DE) (.ref PA) = some true)
    (kPD : PySem.W.kitOne K (.ref PA) (.ref DE) = some false)
    (kDD : PySem.W.kitOne K (.ref DE) (.ref DE) = some true)
    (nPD : PA ≠ DE)
    (sDP : PySem.W.subIn K (.ref DE) (.ref PA) = some true)
    (sPD : PySem.W.subIn K (.ref PA) (.ref DE) = some false)
    (z_isinstance : PySem.W.nsIn K mainGlobals "isinstance" = some none)
    (z_int : PySem.W.nsIn K mainGlobals "int" = some none)
    (z_bool : PySem.W.nsIn K mainGlobals "bool" = some none)
    (z_str : PySem.W.nsIn K mainGlobals "str" = some none)
    (z_len : PySem.W.nsIn K mainGlobals "len" = some none)
    (z_list : PySem.W.nsIn K mainGlobals "list" = some none)
    (z_dict : PySem.W.nsIn K mainGlobals "dict" = some none)
    (z_tuple : PySem.W.nsIn K mainGlobals "tuple" = some none)
    (z_abs : PySem.W.nsIn K mainGlobals "abs" = some none)
    (z_range : PySem.W.nsIn K mainGlobals "range" = some none)
    (z_repr : PySem.W.nsIn K mainGlobals "repr" = some none)
    (z_sorted : PySem.W.nsIn K mainGlobals "sorted" = some none)
    (z_ValueError : PySem.W.nsIn K mainGlobals "ValueError" = some none)
    (z_LookupError : PySem.W.nsIn K mainGlobals "LookupError" = some none)
    (z_ArithmeticError : PySem.W.nsIn K mainGlobals "ArithmeticError" = some none)
    (z_TypeError : PySem.W.nsIn K mainGlobals "TypeError" = some none)
    (cS : PySem.W.nsIn K mainGlobals "SHOWN" = some (some (.int 1000000000000 tS))) : ∃ fd : FuncData, (∀ (s : Shared) (u : Value), BindsTo s fd ⟨[u], []⟩ [("_law_script", u)]) ∧
      ∀ base : Heap, K.In base → base.Ns mainGlobals mg → MyM.FnM P w K mg base L2.CX0 18 fa fd ["_law_script"] (spLaw K) := by
  have e := hfa.symm.trans (PySem.W.mg_of X G aLa)
  cases e
  have B : Blt mg := ⟨PySem.W.mg_none_of X G z_isinstance, PySem.W.mg_none_of X G z_int, PySem.W.mg_none_of X G z_bool, PySem.W.mg_none_of X G z_str, PySem.W.mg_none_of X G z_len, PySem.W.mg_none_of X G z_list, PySem.W.mg_none_of X G z_dict, PySem.W.mg_none_of X G z_tuple, PySem.W.mg_none_of X G z_abs, PySem.W.mg_none_of X G z_range, PySem.W.mg_none_of X G z_repr, PySem.W.mg_none_of X G z_sorted⟩
  have BE : BltE mg := ⟨PySem.W.mg_none_of X G z_ValueError, PySem.W.mg_none_of X G z_LookupError, PySem.W.mg_none_of X G z_ArithmeticError, PySem.W.mg_none_of X G z_TypeError⟩
  have FFx := fun_mk (st := sFixed) lFx c_Fx kFx
  have FAk := fun_mk (st := sAsc) lAk c_Ak kAk
  have FSh := fun_mk (st := sShown) lSh c_Sh kSh
  have FP := fun_mk (st := sPen) lP c_P kP
  have FD := fun_mk (st := sDraw) lD c_D kD
  have FG := fun_mk (st := sPick) lG c_G kG
  have FBp := fun_mk (st := sByP) lBp c_Bp kBp
  have FBn := fun_mk (st := sByN) lBn c_Bn kBn
  have FKi := fun_mk (st := sKi) lKi c_Ki kKi
  have FFl := fun_mk (st := sFl) lFl c_Fl kFl
  have FNm := fun_mk (st := sNa) lNm c_Nm kNm
  have FIr := fun_mk (st := sIr) lIr c_Ir kIr
  have FVa := fun_mk (st := sVa) lVa c_Va kVa
  have FSp := fun_mk (st := sSp) lSp c_Sp kSp
  have FPp := fun_mk (st := sPp) lPp c_Pp kPp
  have FFr := fun_mk (st := sFr) lFr c_Fr kFr
  have FPr := fun_mk (st := sPr) lPr c_Pr kPr
  have FLa := fun_mk (st := sLaw) lLa c_La kLa
  have FE0 := fun_mk (st := sI_BadMachine) lE0 c_E0 kE0
  have FE1 := fun_mk (st := sI_BadWords) lE1 c_E1 kE1
  have FE2 := fun_mk (st := sI_BadBlock) lE2 c_E2 kE2
  have FE3 := fun_mk (st := sI_BadProgram) lE3 c_E3 kE3
  have FE4 := fun_mk (st := sI_BadSum) lE4 c_E4 kE4
  have FE5 := fun_mk (st := sI_BadMap) lE5 c_E5 kE5
  have FE6 := fun_mk (st := sI_BadStand) lE6 c_E6 kE6
  have FE7 := fun_mk (st := sI_BadTarget) lE7 c_E7 kE7
  have FE8 := fun_mk (st := sI_BadPaper) lE8 c_E8 kE8
  have FE9 := fun_mk (st := sI_BadControl) lE9 c_E9 kE9
  have FE10 := fun_mk (st := sI_NoAxis) lE10 c_E10 kE10
  have FE11 := fun_mk (st := sI_NoRegister) lE11 c_E11 kE11
  have FE12 := fun_mk (st := sI_NoPlace) lE12 c_E12 kE12
  have FE13 := fun_mk (st := sI_NoNode) lE13 c_E13 kE13
  have FE14 := fun_mk (st := sI_BadRun) lE14 c_E14 kE14
  have FE15 := fun_mk (st := sI_BadPreamble) lE15 c_E15 kE15
  have FE16 := fun_mk (st := sI_Stopped) lE16 c_E16 kE16
  have FE17 := fun_mk (st := sI_Running) lE17 c_E17 kE17
  have FE19 := fun_mk (st := sI_TooMany) lE19 c_E19 kE19
  have FE20 := fun_mk (st := sI_BadText) lE20 c_E20 kE20
  have FE21 := fun_mk (st := sI_BadLine) lE21 c_E21 kE21
  have FPe := fun_mk (st := sPaE) lPe c_Pe kPe
  have FDe := fun_mk (st := sDeE) lDe c_De kDe
  have FPb := fun_mk (st := sPaB) lPb c_Pb kPb
  have FDb := fun_mk (st := sDeB) lDb c_Db kDb
  have FPi := fun_mk (st := sPaI) lPi c_Pi kPi
  have FDi := fun_mk (st := sDeI) lDi c_Di kDi
  have T0 : TopT K mg "ToolError" TE := ⟨PySem.W.mg_of X G aTE, ⟨rdTE, gsTE⟩, inTE⟩
  have T1 : TopT K mg "Missing" MI := ⟨PySem.W.mg_of X G aMI, ⟨rdMI, gsMI⟩, inMI⟩
  obtain ⟨cs, ecs⟩ : ∃ cs : Nat → Addr, cs = fun j => ([C0, C1, C2, C3, C4, C5, C6, C7, C8, C9, C10, C11, C12, C13, C14, C15, C16, C17, C18, C19, C20, C21] : List Addr).getD j 0 := ⟨_, rfl⟩
  have q0 : cs 0 = C0 := by rw [ecs]; rfl
  have q1 : cs 1 = C1 := by rw [ecs]; rfl
  have q2 : cs 2 = C2 := by rw [ecs]; rfl
  have q3 : cs 3 = C3 := by rw [ecs]; rfl
  have q4 : cs 4 = C4 := by rw [ecs]; rfl
  have q5 : cs 5 = C5 := by rw [ecs]; rfl
  have q6 : cs 6 = C6 := by rw [ecs]; rfl
  have q7 : cs 7 = C7 := by rw [ecs]; rfl
  have q8 : cs 8 = C8 := by rw [ecs]; rfl
  have q9 : cs 9 = C9 := by rw [ecs]; rfl
  have q10 : cs 10 = C10 := by rw [ecs]; rfl
  have q11 : cs 11 = C11 := by rw [ecs]; rfl
  have q12 : cs 12 = C12 := by rw [ecs]; rfl
  have q13 : cs 13 = C13 := by rw [ecs]; rfl
  have q14 : cs 14 = C14 := by rw [ecs]; rfl
  have q15 : cs 15 = C15 := by rw [ecs]; rfl
  have q16 : cs 16 = C16 := by rw [ecs]; rfl
  have q17 : cs 17 = C17 := by rw [ecs]; rfl
  have q18 : cs 18 = C18 := by rw [ecs]; rfl
  have q19 : cs 19 = C19 := by rw [ecs]; rfl
  have q20 : cs 20 = C20 := by rw [ecs]; rfl
  have q21 : cs 21 = C21 := by rw [ecs]; rfl
  have X0 : ExT K (cs 0) fE0 := by rw [q0]; exact ⟨⟨⟨_, _, _, _, _, _, _, _, _, _, _, _, _, _, _, xC0, vC0⟩, saC0, exC0, tyC0, kcC0⟩, aE0, tE0⟩
  have X1 : ExT K (cs 1) fE1 := by rw [q1]; exact ⟨⟨⟨_, _, _, _, _, _, _, _, _, _, _, _, _, _, _, xC1, vC1⟩, saC1, exC1, tyC1, kcC1⟩, aE1, tE1⟩
  have X2 : ExT K (cs 2) fE2 := by rw [q2]; exact ⟨⟨⟨_, _, _, _, _, _, _, _, _, _, _, _, _, _, _, xC2, vC2⟩, saC2, exC2, tyC2, kcC2⟩, aE2, tE2⟩
  have X3 : ExT K (cs 3) fE3 := by rw [q3]; exact ⟨⟨⟨_, _, _, _, _, _, _, _, _, _, _, _, _, _, _, xC3, vC3⟩, saC3, exC3, tyC3, kcC3⟩, aE3, tE3⟩
  have X4 : ExT K (cs 4) fE4 := by rw [q4]; exact ⟨⟨⟨_, _, _, _, _, _, _, _, _, _, _, _, _, _, _, xC4, vC4⟩, saC4, exC4, tyC4, kcC4⟩, aE4, tE4⟩
  have X5 : ExT K (cs 5) fE5 := by rw [q5]; exact ⟨⟨⟨_, _, _, _, _, _, _, _, _, _, _, _, _, _, _, xC5, vC5⟩, saC5, exC5, tyC5, kcC5⟩, aE5, tE5⟩
  have X6 : ExT K (cs 6) fE6 := by rw [q6]; exact ⟨⟨⟨_, _, _, _, _, _, _, _, _, _, _, _, _, _, _, xC6, vC6⟩, saC6, exC6, tyC6, kcC6⟩, aE6, tE6⟩
  have X7 : ExT K (cs 7) fE7 := by rw [q7]; exact ⟨⟨⟨_, _, _, _, _, _, _, _, _, _, _, _, _, _, _, xC7, vC7⟩, saC7, exC7, tyC7, kcC7⟩, aE7, tE7⟩
  have X8 : ExT K (cs 8) fE8 := by rw [q8]; exact ⟨⟨⟨_, _, _, _, _, _, _, _, _, _, _, _, _, _, _, xC8, vC8⟩, saC8, exC8, tyC8, kcC8⟩, aE8, tE8⟩
  have X9 : ExT K (cs 9) fE9 := by rw [q9]; exact ⟨⟨⟨_, _, _, _, _, _, _, _, _, _, _, _, _, _, _, xC9, vC9⟩, saC9, exC9, tyC9, kcC9⟩, aE9, tE9⟩
  have X10 : ExT K (cs 10) fE10 := by rw [q10]; exact ⟨⟨⟨_, _, _, _, _, _, _, _, _, _, _, _, _, _, _, xC10, vC10⟩, saC10, exC10, tyC10, kcC10⟩, aE10, tE10⟩
  have X11 : ExT K (cs 11) fE11 := by rw [q11]; exact ⟨⟨⟨_, _, _, _, _, _, _, _, _, _, _, _, _, _, _, xC11, vC11⟩, saC11, exC11, tyC11, kcC11⟩, aE11, tE11⟩
  have X12 : ExT K (cs 12) fE12 := by rw [q12]; exact ⟨⟨⟨_, _, _, _, _, _, _, _, _, _, _, _, _, _, _, xC12, vC12⟩, saC12, exC12, tyC12, kcC12⟩, aE12, tE12⟩
  have X13 : ExT K (cs 13) fE13 := by rw [q13]; exact ⟨⟨⟨_, _, _, _, _, _, _, _, _, _, _, _, _, _, _, xC13, vC13⟩, saC13, exC13, tyC13, kcC13⟩, aE13, tE13⟩
  have X14 : ExT K (cs 14) fE14 := by rw [q14]; exact ⟨⟨⟨_, _, _, _, _, _, _, _, _, _, _, _, _, _, _, xC14, vC14⟩, saC14, exC14, tyC14, kcC14⟩, aE14, tE14⟩
  have X15 : ExT K (cs 15) fE15 := by rw [q15]; exact ⟨⟨⟨_, _, _, _, _, _, _, _, _, _, _, _, _, _, _, xC15, vC15⟩, saC15, exC15, tyC15, kcC15⟩, aE15, tE15⟩
  have X16 : ExT K (cs 16) fE16 := by rw [q16]; exact ⟨⟨⟨_, _, _, _, _, _, _, _, _, _, _, _, _, _, _, xC16, vC16⟩, saC16, exC16, tyC16, kcC16⟩, aE16, tE16⟩
  have X17 : ExT K (cs 17) fE17 := by rw [q17]; exact ⟨⟨⟨_, _, _, _, _, _, _, _, _, _, _, _, _, _, _, xC17, vC17⟩, saC17, exC17, tyC17, kcC17⟩, aE17, tE17⟩
  have X19 : ExT K (cs 19) fE19 := by rw [q19]; exact ⟨⟨⟨_, _, _, _, _, _, _, _, _, _, _, _, _, _, _, xC19, vC19⟩, saC19, exC19, tyC19, kcC19⟩, aE19, tE19⟩
  have X20 : ExT K (cs 20) fE20 := by rw [q20]; exact ⟨⟨⟨_, _, _, _, _, _, _, _, _, _, _, _, _, _, _, xC20, vC20⟩, saC20, exC20, tyC20, kcC20⟩, aE20, tE20⟩
  have X21 : ExT K (cs 21) fE21 := by rw [q21]; exact ⟨⟨⟨_, _, _, _, _, _, _, _, _, _, _, _, _, _, _, xC21, vC21⟩, saC21, exC21, tyC21, kcC21⟩, aE21, tE21⟩
  have gC0 : mg "BadMachine" = some (.ref (cs 0)) := by rw [q0]; exact PySem.W.mg_of X G aC0
  have gC1 : mg "BadWords" = some (.ref (cs 1)) := by rw [q1]; exact PySem.W.mg_of X G aC1
  have gC2 : mg "BadBlock" = some (.ref (cs 2)) := by rw [q2]; exact PySem.W.mg_of X G aC2
  have gC3 : mg "BadProgram" = some (.ref (cs 3)) := by rw [q3]; exact PySem.W.mg_of X G aC3
  have gC4 : mg "BadSum" = some (.ref (cs 4)) := by rw [q4]; exact PySem.W.mg_of X G aC4
  have gC5 : mg "BadMap" = some (.ref (cs 5)) := by rw [q5]; exact PySem.W.mg_of X G aC5
  have gC6 : mg "BadStand" = some (.ref (cs 6)) := by rw [q6]; exact PySem.W.mg_of X G aC6
  have gC7 : mg "BadTarget" = some (.ref (cs 7)) := by rw [q7]; exact PySem.W.mg_of X G aC7
  have gC8 : mg "BadPaper" = some (.ref (cs 8)) := by rw [q8]; exact PySem.W.mg_of X G aC8
  have gC9 : mg "BadControl" = some (.ref (cs 9)) := by rw [q9]; exact PySem.W.mg_of X G aC9
  have gC10 : mg "NoAxis" = some (.ref (cs 10)) := by rw [q10]; exact PySem.W.mg_of X G aC10
  have gC11 : mg "NoRegister" = some (.ref (cs 11)) := by rw [q11]; exact PySem.W.mg_of X G aC11
  have gC12 : mg "NoPlace" = some (.ref (cs 12)) := by rw [q12]; exact PySem.W.mg_of X G aC12
  have gC13 : mg "NoNode" = some (.ref (cs 13)) := by rw [q13]; exact PySem.W.mg_of X G aC13
  have gC14 : mg "BadRun" = some (.ref (cs 14)) := by rw [q14]; exact PySem.W.mg_of X G aC14
  have gC15 : mg "BadPreamble" = some (.ref (cs 15)) := by rw [q15]; exact PySem.W.mg_of X G aC15
  have gC16 : mg "Stopped" = some (.ref (cs 16)) := by rw [q16]; exact PySem.W.mg_of X G aC16
  have gC17 : mg "Running" = some (.ref (cs 17)) := by rw [q17]; exact PySem.W.mg_of X G aC17
  have gC18 : mg "Nothing" = some (.ref (cs 18)) := by rw [q18]; exact PySem.W.mg_of X G aC18
  have gC19 : mg "TooMany" = some (.ref (cs 19)) := by rw [q19]; exact PySem.W.mg_of X G aC19
  have gC20 : mg "BadText" = some (.ref (cs 20)) := by rw [q20]; exact PySem.W.mg_of X G aC20
  have gC21 : mg "BadLine" = some (.ref (cs 21)) := by rw [q21]; exact PySem.W.mg_of X G aC21
  have m0_part : PySem.W.findIn K (.ref (cs 0)) "part" = some none := by rw [q0]; exact n0_part
  have m1_part : PySem.W.findIn K (.ref (cs 1)) "part" = some none := by rw [q1]; exact n1_part
  have m2_part : PySem.W.findIn K (.ref (cs 2)) "part" = some none := by rw [q2]; exact n2_part
  have m3_part : PySem.W.findIn K (.ref (cs 3)) "part" = some none := by rw [q3]; exact n3_part
  have m4_part : PySem.W.findIn K (.ref (cs 4)) "part" = some none := by rw [q4]; exact n4_part
  have m5_part : PySem.W.findIn K (.ref (cs 5)) "part" = some none := by rw [q5]; exact n5_part
  have m6_part : PySem.W.findIn K (.ref (cs 6)) "part" = some none := by rw [q6]; exact n6_part
  have m7_part : PySem.W.findIn K (.ref (cs 7)) "part" = some none := by rw [q7]; exact n7_part
  have m8_part : PySem.W.findIn K (.ref (cs 8)) "part" = some none := by rw [q8]; exact n8_part
  have m9_part : PySem.W.findIn K (.ref (cs 9)) "part" = some none := by rw [q9]; exact n9_part
  have m10_axis : PySem.W.findIn K (.ref (cs 10)) "axis" = some none := by rw [q10]; exact n10_axis
  have m11_name : PySem.W.findIn K (.ref (cs 11)) "name" = some none := by rw [q11]; exact n11_name
  have m12_place : PySem.W.findIn K (.ref (cs 12)) "place" = some none := by rw [q12]; exact n12_place
  have m13_place : PySem.W.findIn K (.ref (cs 13)) "place" = some none := by rw [q13]; exact n13_place
  have m13_words : PySem.W.findIn K (.ref (cs 13)) "words" = some none := by rw [q13]; exact n13_words
  have m14_at : PySem.W.findIn K (.ref (cs 14)) "at" = some none := by rw [q14]; exact n14_at
  have m15_at : PySem.W.findIn K (.ref (cs 15)) "at" = some none := by rw [q15]; exact n15_at
  have m16_place : PySem.W.findIn K (.ref (cs 16)) "place" = some none := by rw [q16]; exact n16_place
  have m17_place : PySem.W.findIn K (.ref (cs 17)) "place" = some none := by rw [q17]; exact n17_place
  have m19_what : PySem.W.findIn K (.ref (cs 19)) "what" = some none := by rw [q19]; exact n19_what
  have m19_most : PySem.W.findIn K (.ref (cs 19)) "most" = some none := by rw [q19]; exact n19_most
  have m20_line : PySem.W.findIn K (.ref (cs 20)) "line" = some none := by rw [q20]; exact n20_line
  have m20_word : PySem.W.findIn K (.ref (cs 20)) "word" = some none := by rw [q20]; exact n20_word
  have m21_line : PySem.W.findIn K (.ref (cs 21)) "line" = some none := by rw [q21]; exact n21_line
  have m21_error : PySem.W.findIn K (.ref (cs 21)) "error" = some none := by rw [q21]; exact n21_error
  have IX : ∀ j, j < 22 → MyX.IsX K (cs j) := fun j hj => match j, hj with
    | 0, _ => by rw [q0]; exact ⟨clC0, gaC0, ggC0, exC0, caC0, spO, tkO, mrC0⟩
    | 1, _ => by rw [q1]; exact ⟨clC1, gaC1, ggC1, exC1, caC1, spO, tkO, mrC1⟩
    | 2, _ => by rw [q2]; exact ⟨clC2, gaC2, ggC2, exC2, caC2, spO, tkO, mrC2⟩
    | 3, _ => by rw [q3]; exact ⟨clC3, gaC3, ggC3, exC3, caC3, spO, tkO, mrC3⟩
    | 4, _ => by rw [q4]; exact ⟨clC4, gaC4, ggC4, exC4, caC4, spO, tkO, mrC4⟩
    | 5, _ => by rw [q5]; exact ⟨clC5, gaC5, ggC5, exC5, caC5, spO, tkO, mrC5⟩
    | 6, _ => by rw [q6]; exact ⟨clC6, gaC6, ggC6, exC6, caC6, spO, tkO, mrC6⟩
    | 7, _ => by rw [q7]; exact ⟨clC7, gaC7, ggC7, exC7, caC7, spO, tkO, mrC7⟩
    | 8, _ => by rw [q8]; exact ⟨clC8, gaC8, ggC8, exC8, caC8, spO, tkO, mrC8⟩
    | 9, _ => by rw [q9]; exact ⟨clC9, gaC9, ggC9, exC9, caC9, spO, tkO, mrC9⟩
    | 10, _ => by rw [q10]; exact ⟨clC10, gaC10, ggC10, exC10, caC10, spO, tkO, mrC10⟩
    | 11, _ => by rw [q11]; exact ⟨clC11, gaC11, ggC11, exC11, caC11, spO, tkO, mrC11⟩
    | 12, _ => by rw [q12]; exact ⟨clC12, gaC12, ggC12, exC12, caC12, spO, tkO, mrC12⟩
    | 13, _ => by rw [q13]; exact ⟨clC13, gaC13, ggC13, exC13, caC13, spO, tkO, mrC13⟩
    | 14, _ => by rw [q14]; exact ⟨clC14, gaC14, ggC14, exC14, caC14, spO, tkO, mrC14⟩
    | 15, _ => by rw [q15]; exact ⟨clC15, gaC15, ggC15, exC15, caC15, spO, tkO, mrC15⟩
    | 16, _ => by rw [q16]; exact ⟨clC16, gaC16, ggC16, exC16, caC16, spO, tkO, mrC16⟩
    | 17, _ => by rw [q17]; exact ⟨clC17, gaC17, ggC17, exC17, caC17, spO, tkO, mrC17⟩
    | 18, _ => by rw [q18]; exact ⟨clC18, gaC18, ggC18, exC18, caC18, spO, tkO, mrC18⟩
    | 19, _ => by rw [q19]; exact ⟨clC19, gaC19, ggC19, exC19, caC19, spO, tkO, mrC19⟩
    | 20, _ => by rw [q20]; exact ⟨clC20, gaC20, ggC20, exC20, caC20, spO, tkO, mrC20⟩
    | 21, _ => by rw [q21]; exact ⟨clC21, gaC21, ggC21, exC21, caC21, spO, tkO, mrC21⟩
    | n + 22, h => absurd h (by omega)
  have XF : ∀ j, j < 22 → XfC K (cs j) := fun j hj => match j, hj with
    | 0, _ => by rw [q0]; exact ⟨gaC0, ggC0, exC0, hdC0⟩
    | 1, _ => by rw [q1]; exact ⟨gaC1, ggC1, exC1, hdC1⟩
    | 2, _ => by rw [q2]; exact ⟨gaC2, ggC2, exC2, hdC2⟩
    | 3, _ => by rw [q3]; exact ⟨gaC3, ggC3, exC3, hdC3⟩
    | 4, _ => by rw [q4]; exact ⟨gaC4, ggC4, exC4, hdC4⟩
    | 5, _ => by rw [q5]; exact ⟨gaC5, ggC5, exC5, hdC5⟩
    | 6, _ => by rw [q6]; exact ⟨gaC6, ggC6, exC6, hdC6⟩
    | 7, _ => by rw [q7]; exact ⟨gaC7, ggC7, exC7, hdC7⟩
    | 8, _ => by rw [q8]; exact ⟨gaC8, ggC8, exC8, hdC8⟩
    | 9, _ => by rw [q9]; exact ⟨gaC9, ggC9, exC9, hdC9⟩
    | 10, _ => by rw [q10]; exact ⟨gaC10, ggC10, exC10, hdC10⟩
    | 11, _ => by rw [q11]; exact ⟨gaC11, ggC11, exC11, hdC11⟩
    | 12, _ => by rw [q12]; exact ⟨gaC12, ggC12, exC12, hdC12⟩
    | 13, _ => by rw [q13]; exact ⟨gaC13, ggC13, exC13, hdC13⟩
    | 14, _ => by rw [q14]; exact ⟨gaC14, ggC14, exC14, hdC14⟩
    | 15, _ => by rw [q15]; exact ⟨gaC15, ggC15, exC15, hdC15⟩
    | 16, _ => by rw [q16]; exact ⟨gaC16, ggC16, exC16, hdC16⟩
    | 17, _ => by rw [q17]; exact ⟨gaC17, ggC17, exC17, hdC17⟩
    | 18, _ => by rw [q18]; exact ⟨gaC18, ggC18, exC18, hdC18⟩
    | 19, _ => by rw [q19]; exact ⟨gaC19, ggC19, exC19, hdC19⟩
    | 20, _ => by rw [q20]; exact ⟨gaC20, ggC20, exC20, hdC20⟩
    | 21, _ => by rw [q21]; exact ⟨gaC21, ggC21, exC21, hdC21⟩
    | n + 22, h => absurd h (by omega)
  have NO : ∀ j, j < 22 → ∀ z ∈ flds j .non .non, PySem.W.findIn K (.ref (cs j)) z.1 = some none := fun j hj => match j, hj with
    | 0, _ => fun z hz => by obtain rfl := List.mem_singleton.mp hz; exact m0_part
    | 1, _ => fun z hz => by obtain rfl := List.mem_singleton.mp hz; exact m1_part
    | 2, _ => fun z hz => by obtain rfl := List.mem_singleton.mp hz; exact m2_part
    | 3, _ => fun z hz => by obtain rfl := List.mem_singleton.mp hz; exact m3_part
    | 4, _ => fun z hz => by obtain rfl := List.mem_singleton.mp hz; exact m4_part
    | 5, _ => fun z hz => by obtain rfl := List.mem_singleton.mp hz; exact m5_part
    | 6, _ => fun z hz => by obtain rfl := List.mem_singleton.mp hz; exact m6_part
    | 7, _ => fun z hz => by obtain rfl := List.mem_singleton.mp hz; exact m7_part
    | 8, _ => fun z hz => by obtain rfl := List.mem_singleton.mp hz; exact m8_part
    | 9, _ => fun z hz => by obtain rfl := List.mem_singleton.mp hz; exact m9_part
    | 10, _ => fun z hz => by obtain rfl := List.mem_singleton.mp hz; exact m10_axis
    | 11, _ => fun z hz => by obtain rfl := List.mem_singleton.mp hz; exact m11_name
    | 12, _ => fun z hz => by obtain rfl := List.mem_singleton.mp hz; exact m12_place
    | 13, _ => fun z hz => by
      rcases List.mem_cons.mp hz with rfl | hz
      · exact m13_words
      · obtain rfl := List.mem_singleton.mp hz; exact m13_place
    | 14, _ => fun z hz => by obtain rfl := List.mem_singleton.mp hz; exact m14_at
    | 15, _ => fun z hz => by obtain rfl := List.mem_singleton.mp hz; exact m15_at
    | 16, _ => fun z hz => by obtain rfl := List.mem_singleton.mp hz; exact m16_place
    | 17, _ => fun z hz => by obtain rfl := List.mem_singleton.mp hz; exact m17_place
    | 18, _ => fun z hz => nomatch hz
    | 19, _ => fun z hz => by
      rcases List.mem_cons.mp hz with rfl | hz
      · exact m19_most
      · obtain rfl := List.mem_singleton.mp hz; exact m19_what
    | 20, _ => fun z hz => by
      rcases List.mem_cons.mp hz with rfl | hz
      · exact m20_word
      · obtain rfl := List.mem_singleton.mp hz; exact m20_line
    | 21, _ => fun z hz => by
      rcases List.mem_cons.mp hz with rfl | hz
      · exact m21_error
      · obtain rfl := List.mem_singleton.mp hz; exact m21_line
    | n + 22, h => absurd h (by omega)
  have KT : ∀ j, j < 22 → PySem.W.kitOne K (.ref (cs j)) (.ref TE) = some true := fun j hj => match j, hj with
    | 0, _ => by rw [q0]; exact kTC0
    | 1, _ => by rw [q1]; exact kTC1
    | 2, _ => by rw [q2]; exact kTC2
    | 3, _ => by rw [q3]; exact kTC3
    | 4, _ => by rw [q4]; exact kTC4
    | 5, _ => by rw [q5]; exact kTC5
    | 6, _ => by rw [q6]; exact kTC6
    | 7, _ => by rw [q7]; exact kTC7
    | 8, _ => by rw [q8]; exact kTC8
    | 9, _ => by rw [q9]; exact kTC9
    | 10, _ => by rw [q10]; exact kTC10
    | 11, _ => by rw [q11]; exact kTC11
    | 12, _ => by rw [q12]; exact kTC12
    | 13, _ => by rw [q13]; exact kTC13
    | 14, _ => by rw [q14]; exact kTC14
    | 15, _ => by rw [q15]; exact kTC15
    | 16, _ => by rw [q16]; exact kTC16
    | 17, _ => by rw [q17]; exact kTC17
    | 18, _ => by rw [q18]; exact kTC18
    | 19, _ => by rw [q19]; exact kTC19
    | 20, _ => by rw [q20]; exact kTC20
    | 21, _ => by rw [q21]; exact kTC21
    | n + 22, h => absurd h (by omega)
  have KM : ∀ j, j < 22 → PySem.W.kitOne K (.ref (cs j)) (.ref MI) = some (decide (10 ≤ j ∧ j ≤ 13)) := fun j hj => match j, hj with
    | 0, _ => by rw [q0]; exact kMC0
    | 1, _ => by rw [q1]; exact kMC1
    | 2, _ => by rw [q2]; exact kMC2
    | 3, _ => by rw [q3]; exact kMC3
    | 4, _ => by rw [q4]; exact kMC4
    | 5, _ => by rw [q5]; exact kMC5
    | 6, _ => by rw [q6]; exact kMC6
    | 7, _ => by rw [q7]; exact kMC7
    | 8, _ => by rw [q8]; exact kMC8
    | 9, _ => by rw [q9]; exact kMC9
    | 10, _ => by rw [q10]; exact kMC10
    | 11, _ => by rw [q11]; exact kMC11
    | 12, _ => by rw [q12]; exact kMC12
    | 13, _ => by rw [q13]; exact kMC13
    | 14, _ => by rw [q14]; exact kMC14
    | 15, _ => by rw [q15]; exact kMC15
    | 16, _ => by rw [q16]; exact kMC16
    | 17, _ => by rw [q17]; exact kMC17
    | 18, _ => by rw [q18]; exact kMC18
    | 19, _ => by rw [q19]; exact kMC19
    | 20, _ => by rw [q20]; exact kMC20
    | 21, _ => by rw [q21]; exact kMC21
    | n + 22, h => absurd h (by omega)
  have KV : ∀ j, j < 22 → PySem.W.kitOne K (.ref (cs j)) (.type "ValueError") = some true := fun j hj => match j, hj with
    | 0, _ => by rw [q0]; exact kVC0
    | 1, _ => by rw [q1]; exact kVC1
    | 2, _ => by rw [q2]; exact kVC2
    | 3, _ => by rw [q3]; exact kVC3
    | 4, _ => by rw [q4]; exact kVC4
    | 5, _ => by rw [q5]; exact kVC5
    | 6, _ => by rw [q6]; exact kVC6
    | 7, _ => by rw [q7]; exact kVC7
    | 8, _ => by rw [q8]; exact kVC8
    | 9, _ => by rw [q9]; exact kVC9
    | 10, _ => by rw [q10]; exact kVC10
    | 11, _ => by rw [q11]; exact kVC11
    | 12, _ => by rw [q12]; exact kVC12
    | 13, _ => by rw [q13]; exact kVC13
    | 14, _ => by rw [q14]; exact kVC14
    | 15, _ => by rw [q15]; exact kVC15
    | 16, _ => by rw [q16]; exact kVC16
    | 17, _ => by rw [q17]; exact kVC17
    | 18, _ => by rw [q18]; exact kVC18
    | 19, _ => by rw [q19]; exact kVC19
    | 20, _ => by rw [q20]; exact kVC20
    | 21, _ => by rw [q21]; exact kVC21
    | n + 22, h => absurd h (by omega)
  have KL : ∀ j, j < 22 → PySem.W.kitAny K (.ref (cs j)) [.type "LookupError", .type "ArithmeticError", .type "TypeError"] = some false := fun j hj => match j, hj with
    | 0, _ => by rw [q0]; exact kLC0
    | 1, _ => by rw [q1]; exact kLC1
    | 2, _ => by rw [q2]; exact kLC2
    | 3, _ => by rw [q3]; exact kLC3
    | 4, _ => by rw [q4]; exact kLC4
    | 5, _ => by rw [q5]; exact kLC5
    | 6, _ => by rw [q6]; exact kLC6
    | 7, _ => by rw [q7]; exact kLC7
    | 8, _ => by rw [q8]; exact kLC8
    | 9, _ => by rw [q9]; exact kLC9
    | 10, _ => by rw [q10]; exact kLC10
    | 11, _ => by rw [q11]; exact kLC11
    | 12, _ => by rw [q12]; exact kLC12
    | 13, _ => by rw [q13]; exact kLC13
    | 14, _ => by rw [q14]; exact kLC14
    | 15, _ => by rw [q15]; exact kLC15
    | 16, _ => by rw [q16]; exact kLC16
    | 17, _ => by rw [q17]; exact kLC17
    | 18, _ => by rw [q18]; exact kLC18
    | 19, _ => by rw [q19]; exact kLC19
    | 20, _ => by rw [q20]; exact kLC20
    | 21, _ => by rw [q21]; exact kLC21
    | n + 22, h => absurd h (by omega)
  have KK : ∀ i j, i < 22 → j < 22 → PySem.W.kitOne K (.ref (cs j)) (.ref (cs i)) = some (decide (i = j)) := by rw [ecs]; exact kkB_ok kk
  have KI : KiT K mg cs := ⟨IX, KK, gC0, gC1, gC2, gC3, gC4, gC5, gC6, gC7, gC8, gC9, gC10, gC11, gC12, gC13, gC14, gC15, gC16, gC17, gC18, gC19, gC20, gC21⟩
  have UP : UpT K mg cs TE MI := ⟨PySem.W.mg_of X G aTE, PySem.W.mg_of X G aMI, KT, KM, KV, KL⟩
  have PPA : PapX K PA := ⟨⟨⟨pgPA, hdPA, poPA, saPA⟩, nWPA, nPPA⟩, caPA, spO, tkO, mrPA⟩
  have PDE : PapX K DE := ⟨⟨⟨pgDE, hdDE, poDE, saDE⟩, nWDE, nPDE⟩, caDE, spO, tkO, mrDE⟩
  have PE : PapE K mg PA DE := ⟨PySem.W.mg_of X G aPA, PPA, PDE, kPP, kDP, s0PA, s1PA, s2PA, s3PA, s4PA, s5PA, s6PA⟩
  have bm18 : ∃ bmB initId, ExcBaseFacts "ValueError" "ValueError.__new__" initId bmB ∧ PySem.W.excIn K (cs 18) bmB "ValueError.__new__" = true := by rw [q18]; exact ⟨_, _, PySem.F.excBase_ValueError, e18⟩
  have k18 : PySem.W.keepIn K (.ref (cs 18)) = true := by rw [q18]; exact kcC18
  refine ⟨PySem.W.fnOf "law" "law" (defArgs sLaw) (defBody sLaw) (defScope sLaw) .none kVLa dcLa pmLa anLa cdLa ctLa, fun s u => .of_eq rfl, fun base _ _ => ?_⟩
  exact glue B BE ⟨tS, PySem.W.mg_of X G cS⟩ T0 T1 bm18 gC18 k18 KI ⟨XF, NO⟩ UP ⟨fun us ws => us ++ ws, ⟨fun s us ws _ hu hw => match us, hu, ws, hw with | [], _, [_], _ => .of_eq rfl, fun r1 r2 => Vals.append r1 r2⟩⟩ PE (PySem.W.mg_of X G aDE) ⟨mkPA, aPi, iPi, kcPA⟩ ⟨mkDE, aDi, iDi, kcDE⟩ ⟨PySem.W.mg_of X G aPA, ⟨rdPA, gsPA⟩, inPA, kPi⟩ kPD kDD nPD sDP (nfR sPD) (nfK u0PA) (nfK u1PA) (nfK u2PA) (nfK u3PA) (nfK u4PA) (nfK u5PA) (nfK u6PA) (nfK u0DE) (nfK u1DE) (nfK u2DE) (nfK u3DE) (nfK u4DE) (nfK u5DE) (nfK u6DE) aPe aDe nePA neDE aPb aDb iPe iDe iPb iDb FFx (PySem.W.mg_of X G aFx) FAk (PySem.W.mg_of X G aAk) FSh (PySem.W.mg_of X G aSh) FP (PySem.W.mg_of X G aP) FD (PySem.W.mg_of X G aD) FG (PySem.W.mg_of X G aG) FBp (PySem.W.mg_of X G aBp) FBn (PySem.W.mg_of X G aBn) FKi (PySem.W.mg_of X G aKi) FFl (PySem.W.mg_of X G aFl) FNm (PySem.W.mg_of X G aNm) FIr (PySem.W.mg_of X G aIr) FVa (PySem.W.mg_of X G aVa) FSp (PySem.W.mg_of X G aSp) FPp (PySem.W.mg_of X G aPp) FFr (PySem.W.mg_of X G aFr) FPr (PySem.W.mg_of X G aPr) FLa hfa FE0 X0 gC0 m0_part ⟨fun us ws => us ++ ws, ⟨fun s us ws _ hu hw => match us, hu, ws, hw with | [_], _, [_], _ => .of_eq rfl, fun r1 r2 => Vals.append r1 r2⟩⟩ FE1 X1 gC1 m1_part ⟨fun us ws => us ++ ws, ⟨fun s us ws _ hu hw => match us, hu, ws, hw with | [_], _, [_], _ => .of_eq rfl, fun r1 r2 => Vals.append r1 r2⟩⟩ FE2 X2 gC2 m2_part ⟨fun us ws => us ++ ws, ⟨fun s us ws _ hu hw => match us, hu, ws, hw with | [_], _, [_], _ => .of_eq rfl, fun r1 r2 => Vals.append r1 r2⟩⟩ FE3 X3 gC3 m3_part ⟨fun us ws => us ++ ws, ⟨fun s us ws _ hu hw => match us, hu, ws, hw with | [_], _, [_], _ => .of_eq rfl, fun r1 r2 => Vals.append r1 r2⟩⟩ FE4 X4 gC4 m4_part ⟨fun us ws => us ++ ws, ⟨fun s us ws _ hu hw => match us, hu, ws, hw with | [_], _, [_], _ => .of_eq rfl, fun r1 r2 => Vals.append r1 r2⟩⟩ FE5 X5 gC5 m5_part ⟨fun us ws => us ++ ws, ⟨fun s us ws _ hu hw => match us, hu, ws, hw with | [_], _, [_], _ => .of_eq rfl, fun r1 r2 => Vals.append r1 r2⟩⟩ FE6 X6 gC6 m6_part ⟨fun us ws => us ++ ws, ⟨fun s us ws _ hu hw => match us, hu, ws, hw with | [_], _, [_], _ => .of_eq rfl, fun r1 r2 => Vals.append r1 r2⟩⟩ FE7 X7 gC7 m7_part ⟨fun us ws => us ++ ws, ⟨fun s us ws _ hu hw => match us, hu, ws, hw with | [_], _, [_], _ => .of_eq rfl, fun r1 r2 => Vals.append r1 r2⟩⟩ FE8 X8 gC8 m8_part ⟨fun us ws => us ++ ws, ⟨fun s us ws _ hu hw => match us, hu, ws, hw with | [_], _, [_], _ => .of_eq rfl, fun r1 r2 => Vals.append r1 r2⟩⟩ FE9 X9 gC9 m9_part ⟨fun us ws => us ++ ws, ⟨fun s us ws _ hu hw => match us, hu, ws, hw with | [_], _, [_], _ => .of_eq rfl, fun r1 r2 => Vals.append r1 r2⟩⟩ FE10 X10 gC10 m10_axis ⟨fun us ws => us ++ ws, ⟨fun s us ws _ hu hw => match us, hu, ws, hw with | [_], _, [_], _ => .of_eq rfl, fun r1 r2 => Vals.append r1 r2⟩⟩ FE11 X11 gC11 m11_name ⟨fun us ws => us ++ ws, ⟨fun s us ws _ hu hw => match us, hu, ws, hw with | [_], _, [_], _ => .of_eq rfl, fun r1 r2 => Vals.append r1 r2⟩⟩ FE12 X12 gC12 m12_place ⟨fun us ws => us ++ ws, ⟨fun s us ws _ hu hw => match us, hu, ws, hw with | [_], _, [_], _ => .of_eq rfl, fun r1 r2 => Vals.append r1 r2⟩⟩ FE13 X13 gC13 m13_place m13_words ⟨fun us ws => us ++ ws.reverse, ⟨fun s us ws _ hu hw => match us, hu, ws, hw with | [_], _, [_, _], _ => .of_eq rfl, fun r1 r2 => Vals.append r1 (vals_rev r2)⟩⟩ FE14 X14 gC14 m14_at ⟨fun us ws => us ++ ws, ⟨fun s us ws _ hu hw => match us, hu, ws, hw with | [_], _, [_], _ => .of_eq rfl, fun r1 r2 => Vals.append r1 r2⟩⟩ FE15 X15 gC15 m15_at ⟨fun us ws => us ++ ws, ⟨fun s us ws _ hu hw => match us, hu, ws, hw with | [_], _, [_], _ => .of_eq rfl, fun r1 r2 => Vals.append r1 r2⟩⟩ FE16 X16 gC16 m16_place ⟨fun us ws => us ++ ws, ⟨fun s us ws _ hu hw => match us, hu, ws, hw with | [_], _, [_], _ => .of_eq rfl, fun r1 r2 => Vals.append r1 r2⟩⟩ FE17 X17 gC17 m17_place ⟨fun us ws => us ++ ws, ⟨fun s us ws _ hu hw => match us, hu, ws, hw with | [_], _, [_], _ => .of_eq rfl, fun r1 r2 => Vals.append r1 r2⟩⟩ FE19 X19 gC19 m19_what m19_most ⟨fun us ws => us ++ ws.reverse, ⟨fun s us ws _ hu hw => match us, hu, ws, hw with | [_], _, [_, _], _ => .of_eq rfl, fun r1 r2 => Vals.append r1 (vals_rev r2)⟩⟩ FE20 X20 gC20 m20_line m20_word ⟨fun us ws => us ++ ws.reverse, ⟨fun s us ws _ hu hw => match us, hu, ws, hw with | [_], _, [_, _], _ => .of_eq rfl, fun r1 r2 => Vals.append r1 (vals_rev r2)⟩⟩ FE21 X21 gC21 m21_line m21_error ⟨fun us ws => us ++ ws.reverse, ⟨fun s us ws _ hu hw => match us, hu, ws, hw with | [_], _, [_, _], _ => .of_eq rfl, fun r1 r2 => Vals.append r1 (vals_rev r2)⟩⟩ FPe FDe FPb FDb FPi FDi
end K00
set_option Elab.async false
set_option linter.all false
set_option maxRecDepth 100000
set_option maxHeartbeats 2000000
set_option Elab.async false
set_option linter.all false
set_option maxRecDepth 100000
set_option maxHeartbeats 16000000
namespace K00
open PySem PySem.Spec PyProof.Rows L2 My MyX MyE MyD MyO MyQ MyU MyV MyRd
theorem law_at {l : PySem.W.OpenLaw} {w : World} {K : PySem.W.Frag} {h : Heap} {mg : Str → Option Value} {fa : Addr} (X : K.In h) (G : h.Ns mainGlobals mg) (hfa : mg "law" = some (.ref fa))
    {TE MI PA DE fFx fAk fSh fP fD fG fBp fBn fKi fFl fNm fIr fVa fSp fPp fFr fPr fLa fE0 fE1 fE2 fE3 fE4 fE5 fE6 fE7 fE8 fE9 fE10 fE11 fE12 fE13 fE14 fE15 fE16 fE17 fE19 fE20 fE21 fPe fDe fPb fDb fPi fDi C0 C1 C2 C3 C4 C5 C6 C7 C8 C9 C10 C11 C12 C13 C14 C15 C16 C17 C18 C19 C20 C21 : Addr} {ocFx kVFx dcFx pmFx ctFx cdFx ocAk kVAk dcAk pmAk ctAk cdAk ocSh kVSh dcSh pmSh ctSh cdSh ocP kVP dcP pmP ctP cdP ocD kVD dcD pmD ctD cdD ocG kVG dcG pmG ctG cdG ocBp kVBp dcBp pmBp ctBp cdBp ocBn kVBn dcBn pmBn ctBn cdBn ocKi kVKi dcKi pmKi ctKi cdKi ocFl kVFl dcFl pmFl ctFl cdFl ocNm kVNm dcNm pmNm ctNm cdNm ocIr kVIr dcIr pmIr ctIr cdIr ocVa kVVa dcVa pmVa ctVa cdVa ocSp kVSp dcSp pmSp ctSp cdSp ocPp kVPp dcPp pmPp ctPp cdPp ocFr kVFr dcFr pmFr ctFr cdFr ocPr kVPr dcPr pmPr ctPr cdPr ocLa kVLa dcLa pmLa ctLa cdLa ocE0 kVE0 dcE0 pmE0 ctE0 cdE0 ocE1 kVE1 dcE1 pmE1 ctE1 cdE1 ocE2 kVE2 dcE2 pmE2 ctE2 cdE2 ocE3 kVE3 dcE3 pmE3 ctE3 cdE3 ocE4 kVE4 dcE4 pmE4 ctE4 cdE4 ocE5 kVE5 dcE5 pmE5 ctE5 cdE5 ocE6 kVE6 dcE6 pmE6 ctE6 cdE6 ocE7 kVE7 dcE7 pmE7 ctE7 cdE7 ocE8 kVE8 dcE8 pmE8 ctE8 cdE8 ocE9 kVE9 dcE9 pmE9 ctE9 cdE9 ocE10 kVE10 dcE10 pmE10 ctE10 cdE10 ocE11 kVE11 dcE11 pmE11 ctE11 cdE11 ocE12 kVE12 dcE12 pmE12 ctE12 cdE12 ocE13 kVE13 dcE13 pmE13 ctE13 cdE13 ocE14 kVE14 dcE14 pmE14 ctE14 cdE14 ocE15 kVE15 dcE15 pmE15 ctE15 cdE15 ocE16 kVE16 dcE16 pmE16 ctE16 cdE16 ocE17 kVE17 dcE17 pmE17 ctE17 cdE17 ocE19 kVE19 dcE19 pmE19 ctE19 cdE19 ocE20 kVE20 dcE20 pmE20 ctE20 cdE20 ocE21 kVE21 dcE21 pmE21 ctE21 cdE21 ocPe kVPe dcPe pmPe ctPe cdPe ocDe kVDe dcDe pmDe ctDe cdDe ocPb kVPb dcPb pmPb ctPb cdPb ocDb kVDb dcDb pmDb ctDb cdDb ocPi kVPi dcPi pmPi ctPi cdPi ocDi kVDi dcDi pmDi ctDi cdDi : Value} {odFx anFx odAk anAk odSh anSh odP anP odD anD odG anG odBp anBp odBn anBn odKi anKi odFl anFl odNm anNm odIr anIr odVa anVa odSp anSp odPp anPp odFr anFr odPr anPr odLa anLa odE0 anE0 odE1 anE1 odE2 anE2 odE3 anE3 odE4 anE4 odE5 anE5 odE6 anE6 odE7 anE7 odE8 anE8 odE9 anE9 odE10 anE10 odE11 anE11 odE12 anE12 odE13 anE13 odE14 anE14 odE15 anE15 odE16 anE16 odE17 anE17 odE19 anE19 odE20 anE20 odE21 anE21 odPe anPe odDe anDe odPb anPb odDb anDb odPi anPi odDi anDi : Option Addr} {slFx slAk slSh slP slD slG slBp slBn slKi slFl slNm slIr slVa slSp slPp slFr slPr slLa slE0 slE1 slE2 slE3 slE4 slE5 slE6 slE7 slE8 slE9 slE10 slE11 slE12 slE13 slE14 slE15 slE16 slE17 slE19 slE20 slE21 slPe slDe slPb slDb slPi slDi : Array (Option Value)} {tS : Tok} {nmC0 qC0 : Str} {NC0 : Addr} {bsC0 bmC0 subC0 : List Value} {snC0 : List Str} {abC0 : Bool} {colC0 : Option Bool} {ddC0 : Option Addr} {k0C0 k1C0 k2C0 k3C0 k5C0 : Option Value} {nmC1 qC1 : Str} {NC1 : Addr} {bsC1 bmC1 subC1 : List Value} {snC1 : List Str} {abC1 : Bool} {colC1 : Option Bool} {ddC1 : Option Addr} {k0C1 k1C1 k2C1 k3C1 k5C1 : Option Value} {nmC2 qC2 : Str} {NC2 : Addr} {bsC2 bmC2 subC2 : List Value} {snC2 : List Str} {abC2 : Bool} {colC2 : Option Bool} {ddC2 : Option Addr} {k0C2 k1C2 k2C2 k3C2 k5C2 : Option Value} {nmC3 qC3 : Str} {NC3 : Addr} {bsC3 bmC3 subC3 : List Value} {snC3 : List Str} {abC3 : Bool} {colC3 : Option Bool} {ddC3 : Option Addr} {k0C3 k1C3 k2C3 k3C3 k5C3 : Option Value} {nmC4 qC4 : Str} {NC4 : Addr} {bsC4 bmC4 subC4 : List Value} {snC4 : List Str} {abC4 : Bool} {colC4 : Option Bool} {ddC4 : Option Addr} {k0C4 k1C4 k2C4 k3C4 k5C4 : Option Value} {nmC5 qC5 : Str} {NC5 : Addr} {bsC5 bmC5 subC5 : List Value} {snC5 : List Str} {abC5 : Bool} {colC5 : Option Bool} {ddC5 : Option Addr} {k0C5 k1C5 k2C5 k3C5 k5C5 : Option Value} {nmC6 qC6 : Str} {NC6 : Addr} {bsC6 bmC6 subC6 : List Value} {snC6 : List Str} {abC6 : Bool} {colC6 : Option Bool} {ddC6 : Option Addr} {k0C6 k1C6 k2C6 k3C6 k5C6 : Option Value} {nmC7 qC7 : Str} {NC7 : Addr} {bsC7 bmC7 subC7 : List Value} {snC7 : List Str} {abC7 : Bool} {colC7 : Option Bool} {ddC7 : Option Addr} {k0C7 k1C7 k2C7 k3C7 k5C7 : Option Value} {nmC8 qC8 : Str} {NC8 : Addr} {bsC8 bmC8 subC8 : List Value} {snC8 : List Str} {abC8 : Bool} {colC8 : Option Bool} {ddC8 : Option Addr} {k0C8 k1C8 k2C8 k3C8 k5C8 : Option Value} {nmC9 qC9 : Str} {NC9 : Addr} {bsC9 bmC9 subC9 : List Value} {snC9 : List Str} {abC9 : Bool} {colC9 : Option Bool} {ddC9 : Option Addr} {k0C9 k1C9 k2C9 k3C9 k5C9 : Option Value} {nmC10 qC10 : Str} {NC10 : Addr} {bsC10 bmC10 subC10 : List Value} {snC10 : List Str} {abC10 : Bool} {colC10 : Option Bool} {ddC10 : Option Addr} {k0C10 k1C10 k2C10 k3C10 k5C10 : Option Value} {nmC11 qC11 : Str} {NC11 : Addr} {bsC11 bmC11 subC11 : List Value} {snC11 : List Str} {abC11 : Bool} {colC11 : Option Bool} {ddC11 : Option Addr} {k0C11 k1C11 k2C11 k3C11 k5C11 : Option Value} {nmC12 qC12 : Str} {NC12 : Addr} {bsC12 bmC12 subC12 : List Value} {snC12 : List Str} {abC12 : Bool} {colC12 : Option Bool} {ddC12 : Option Addr} {k0C12 k1C12 k2C12 k3C12 k5C12 : Option Value} {nmC13 qC13 : Str} {NC13 : Addr} {bsC13 bmC13 subC13 : List Value} {snC13 : List Str} {abC13 : Bool} {colC13 : Option Bool} {ddC13 : Option Addr} {k0C13 k1C13 k2C13 k3C13 k5C13 : Option Value} {nmC14 qC14 : Str} {NC14 : Addr} {bsC14 bmC14 subC14 : List Value} {snC14 : List Str} {abC14 : Bool} {colC14 : Option Bool} {ddC14 : Option Addr} {k0C14 k1C14 k2C14 k3C14 k5C14 : Option Value} {nmC15 qC15 : Str} {NC15 : Addr} {bsC15 bmC15 subC15 : List Value} {snC15 : List Str} {abC15 : Bool} {colC15 : Option Bool} {ddC15 : Option Addr} {k0C15 k1C15 k2C15 k3C15 k5C15 : Option Value} {nmC16 qC16 : Str} {NC16 : Addr} {bsC16 bmC16 subC16 : List Value} {snC16 : List Str} {abC16 : Bool} {colC16 : Option Bool} {ddC16 : Option Addr} {k0C16 k1C16 k2C16 k3C16 k5C16 : Option Value} {nmC17 qC17 : Str} {NC17 : Addr} {bsC17 bmC17 subC17 : List Value} {snC17 : List Str} {abC17 : Bool} {colC17 : Option Bool} {ddC17 : Option Addr} {k0C17 k1C17 k2C17 k3C17 k5C17 : Option Value} {nmC19 qC19 : Str} {NC19 : Addr} {bsC19 bmC19 subC19 : List Value} {snC19 : List Str} {abC19 : Bool} {colC19 : Option Bool} {ddC19 : Option Addr} {k0C19 k1C19 k2C19 k3C19 k5C19 : Option Value} {nmC20 qC20 : Str} {NC20 : Addr} {bsC20 bmC20 subC20 : List Value} {snC20 : List Str} {abC20 : Bool} {colC20 : Option Bool} {ddC20 : Option Addr} {k0C20 k1C20 k2C20 k3C20 k5C20 : Option Value} {nmC21 qC21 : Str} {NC21 : Addr} {bsC21 bmC21 subC21 : List Value} {snC21 : List Str} {abC21 : Bool} {colC21 : Option Bool} {ddC21 : Option Addr} {k0C21 k1C21 k2C21 k3C21 k5C21 : Option Value}
    (aTE : PySem.W.nsIn K mainGlobals "ToolError" = some (some (.ref TE)))
    (aMI : PySem.W.nsIn K mainGlobals "Missing" = some (some (.ref MI)))
    (aPA : PySem.W.nsIn K mainGlobals "Paper" = some (some (.ref PA)))
    (aDE : PySem.W.nsIn K mainGlobals "Denial" = some (some (.ref DE)))
    (aC0 : PySem.W.nsIn K mainGlobals "BadMachine" = some (some (.ref C0)))
    (aC1 : PySem.W.nsIn K mainGlobals "BadWords" = some (some (.ref C1)))
    (aC2 : PySem.W.nsIn K mainGlobals "BadBlock" = some (some (.ref C2)))
    (aC3 : PySem.W.nsIn K mainGlobals "BadProgram" = some (some (.ref C3)))
    (aC4 : PySem.W.nsIn K mainGlobals "BadSum" = some (some (.ref C4)))
    (aC5 : PySem.W.nsIn K mainGlobals "BadMap" = some (some (.ref C5)))
    (aC6 : PySem.W.nsIn K mainGlobals "BadStand" = some (some (.ref C6)))
    (aC7 : PySem.W.nsIn K mainGlobals "BadTarget" = some (some (.ref C7)))
    (aC8 : PySem.W.nsIn K mainGlobals "BadPaper" = some (some (.ref C8)))
    (aC9 : PySem.W.nsIn K mainGlobals "BadControl" = some (some (.ref C9)))
    (aC10 : PySem.W.nsIn K mainGlobals "NoAxis" = some (some (.ref C10)))
    (aC11 : PySem.W.nsIn K mainGlobals "NoRegister" = some (some (.ref C11)))
    (aC12 : PySem.W.nsIn K mainGlobals "NoPlace" = some (some (.ref C12)))
    (aC13 : PySem.W.nsIn K mainGlobals "NoNode" = some (some (.ref C13)))
    (aC14 : PySem.W.nsIn K mainGlobals "BadRun" = some (some (.ref C14)))
    (aC15 : PySem.W.nsIn K mainGlobals "BadPreamble" = some (some (.ref C15)))
    (aC16 : PySem.W.nsIn K mainGlobals "Stopped" = some (some (.ref C16)))
    (aC17 : PySem.W.nsIn K mainGlobals "Running" = some (some (.ref C17)))
    (aC18 : PySem.W.nsIn K mainGlobals "Nothing" = some (some (.ref C18)))
    (aC19 : PySem.W.nsIn K mainGlobals "TooMany" = some (some (.ref C19)))
    (aC20 : PySem.W.nsIn K mainGlobals "BadText" = some (some (.ref C20)))
    (aC21 : PySem.W.nsIn K mainGlobals "BadLine" = some (some (.ref C21)))
    (aFx : PySem.W.nsIn K mainGlobals "fixed" = some (some (.ref fFx)))
    (lFx : K.lookup fFx = some ⟨ocFx, odFx, .func (PySem.W.fnOf "fixed" "fixed" (defArgs sFixed) (defBody sFixed) (defScope sFixed) .none kVFx dcFx pmFx anFx cdFx ctFx), slFx⟩)
    (c_Fx : PySem.W.codeIn K cdFx "fixed" = true)
    (kFx : PySem.W.keepIn K (.ref fFx) = true)
    (aAk : PySem.W.nsIn K mainGlobals "ascending_keys" = some (some (.ref fAk)))
    (lAk : K.lookup fAk = some ⟨ocAk, odAk, .func (PySem.W.fnOf "ascending_keys" "ascending_keys" (defArgs sAsc) (defBody sAsc) (defScope sAsc) .none kVAk dcAk pmAk anAk cdAk ctAk), slAk⟩)
    (c_Ak : PySem.W.codeIn K cdAk "ascending_keys" = true)
    (kAk : PySem.W.keepIn K (.ref fAk) = true)
    (aSh : PySem.W.nsIn K mainGlobals "shown" = some (some (.ref fSh)))
    (lSh : K.lookup fSh = some ⟨ocSh, odSh, .func (PySem.W.fnOf "shown" "shown" (defArgs sShown) (defBody sShown) (defScope sShown) .none kVSh dcSh pmSh anSh cdSh ctSh), slSh⟩)
    (c_Sh : PySem.W.codeIn K cdSh "shown" = true)
    (kSh : PySem.W.keepIn K (.ref fSh) = true)
    (aP : PySem.W.nsIn K mainGlobals "_law_pen" = some (some (.ref fP)))
    (lP : K.lookup fP = some ⟨ocP, odP, .func (PySem.W.fnOf "_law_pen" "_law_pen" (defArgs sPen) (defBody sPen) (defScope sPen) .none kVP dcP pmP anP cdP ctP), slP⟩)
    (c_P : PySem.W.codeIn K cdP "_law_pen" = true)
    (kP : PySem.W.keepIn K (.ref fP) = true)
    (aD : PySem.W.nsIn K mainGlobals "_law_draw" = some (some (.ref fD)))
    (lD : K.lookup fD = some ⟨ocD, odD, .func (PySem.W.fnOf "_law_draw" "_law_draw" (defArgs sDraw) (defBody sDraw) (defScope sDraw) .none kVD dcD pmD anD cdD ctD), slD⟩)
    (c_D : PySem.W.codeIn K cdD "_law_draw" = true)
    (kD : PySem.W.keepIn K (.ref fD) = true)
    (aG : PySem.W.nsIn K mainGlobals "_law_pick" = some (some (.ref fG)))
    (lG : K.lookup fG = some ⟨ocG, odG, .func (PySem.W.fnOf "_law_pick" "_law_pick" (defArgs sPick) (defBody sPick) (defScope sPick) .none kVG dcG pmG anG cdG ctG), slG⟩)
    (c_G : PySem.W.codeIn K cdG "_law_pick" = true)
    (kG : PySem.W.keepIn K (.ref fG) = true)
    (aBp : PySem.W.nsIn K mainGlobals "_law_by_place" = some (some (.ref fBp)))
    (lBp : K.lookup fBp = some ⟨ocBp, odBp, .func (PySem.W.fnOf "_law_by_place" "_law_by_place" (defArgs sByP) (defBody sByP) (defScope sByP) .none kVBp dcBp pmBp anBp cdBp ctBp), slBp⟩)
    (c_Bp : PySem.W.codeIn K cdBp "_law_by_place" = true)
    (kBp : PySem.W.keepIn K (.ref fBp) = true)
    (aBn : PySem.W.nsIn K mainGlobals "_law_by_name" = some (some (.ref fBn)))
    (lBn : K.lookup fBn = some ⟨ocBn, odBn, .func (PySem.W.fnOf "_law_by_name" "_law_by_name" (defArgs sByN) (defBody sByN) (defScope sByN) .none kVBn dcBn pmBn anBn cdBn ctBn), slBn⟩)
    (c_Bn : PySem.W.codeIn K cdBn "_law_by_name" = true)
    (kBn : PySem.W.keepIn K (.ref fBn) = true)
    (aKi : PySem.W.nsIn K mainGlobals "_law_kinds" = some (some (.ref fKi)))
    (lKi : K.lookup fKi = some ⟨ocKi, odKi, .func (PySem.W.fnOf "_law_kinds" "_law_kinds" (defArgs sKi) (defBody sKi) (defScope sKi) .none kVKi dcKi pmKi anKi cdKi ctKi), slKi⟩)
    (c_Ki : PySem.W.codeIn K cdKi "_law_kinds" = true)
    (kKi : PySem.W.keepIn K (.ref fKi) = true)
    (aFl : PySem.W.nsIn K mainGlobals "_law_fields" = some (some (.ref fFl)))
    (lFl : K.lookup fFl = some ⟨ocFl, odFl, .func (PySem.W.fnOf "_law_fields" "_law_fields" (defArgs sFl) (defBody sFl) (defScope sFl) .none kVFl dcFl pmFl anFl cdFl ctFl), slFl⟩)
    (c_Fl : PySem.W.codeIn K cdFl "_law_fields" = true)
    (kFl : PySem.W.keepIn K (.ref fFl) = true)
    (aNm : PySem.W.nsIn K mainGlobals "_law_names" = some (some (.ref fNm)))
    (lNm : K.lookup fNm = some ⟨ocNm, odNm, .func (PySem.W.fnOf "_law_names" "_law_names" (defArgs sNa) (defBody sNa) (defScope sNa) .none kVNm dcNm pmNm anNm cdNm ctNm), slNm⟩)
    (c_Nm : PySem.W.codeIn K cdNm "_law_names" = true)
    (kNm : PySem.W.keepIn K (.ref fNm) = true)
    (aIr : PySem.W.nsIn K mainGlobals "_law_is_right" = some (some (.ref fIr)))
    (lIr : K.lookup fIr = some ⟨ocIr, odIr, .func (PySem.W.fnOf "_law_is_right" "_law_is_right" (defArgs sIr) (defBody sIr) (defScope sIr) .none kVIr dcIr pmIr anIr cdIr ctIr), slIr⟩)
    (c_Ir : PySem.W.codeIn K cdIr "_law_is_right" = true)
    (kIr : PySem.W.keepIn K (.ref fIr) = true)
    (aVa : PySem.W.nsIn K mainGlobals "_law_value" = some (some (.ref fVa)))
    (lVa : K.lookup fVa = some ⟨ocVa, odVa, .func (PySem.W.fnOf "_law_value" "_law_value" (defArgs sVa) (defBody sVa) (defScope sVa) .none kVVa dcVa pmVa anVa cdVa ctVa), slVa⟩)
    (c_Va : PySem.W.codeIn K cdVa "_law_value" = true)
    (kVa : PySem.W.keepIn K (.ref fVa) = true)
    (aSp : PySem.W.nsIn K mainGlobals "_law_spoil" = some (some (.ref fSp)))
    (lSp : K.lookup fSp = some ⟨ocSp, odSp, .func (PySem.W.fnOf "_law_spoil" "_law_spoil" (defArgs sSp) (defBody sSp) (defScope sSp) .none kVSp dcSp pmSp anSp cdSp ctSp), slSp⟩)
    (c_Sp : PySem.W.codeIn K cdSp "_law_spoil" = true)
    (kSp : PySem.W.keepIn K (.ref fSp) = true)
    (aPp : PySem.W.nsIn K mainGlobals "_law_paper" = some (some (.ref fPp)))
    (lPp : K.lookup fPp = some ⟨ocPp, odPp, .func (PySem.W.fnOf "_law_paper" "_law_paper" (defArgs sPp) (defBody sPp) (defScope sPp) .none kVPp dcPp pmPp anPp cdPp ctPp), slPp⟩)
    (c_Pp : PySem.W.codeIn K cdPp "_law_paper" = true)
    (kPp : PySem.W.keepIn K (.ref fPp) = true)
    (aFr : PySem.W.nsIn K mainGlobals "_law_fixed_right" = some (some (.ref fFr)))
    (lFr : K.lookup fFr = some ⟨ocFr, odFr, .func (PySem.W.fnOf "_law_fixed_right" "_law_fixed_right" (defArgs sFr) (defBody sFr) (defScope sFr) .none kVFr dcFr pmFr anFr cdFr ctFr), slFr⟩)
    (c_Fr : PySem.W.codeIn K cdFr "_law_fixed_right" = true)
    (kFr : PySem.W.keepIn K (.ref fFr) = true)
    (aPr : PySem.W.nsIn K mainGlobals "_law_papers_right" = some (some (.ref fPr)))
    (lPr : K.lookup fPr = some ⟨ocPr, odPr, .func (PySem.W.fnOf "_law_papers_right" "_law_papers_right" (defArgs sPr) (defBody sPr) (defScope sPr) .none kVPr dcPr pmPr anPr cdPr ctPr), slPr⟩)
    (c_Pr : PySem.W.codeIn K cdPr "_law_papers_right" = true)
    (kPr : PySem.W.keepIn K (.ref fPr) = true)
    (aLa : PySem.W.nsIn K mainGlobals "law" = some (some (.ref fLa)))
    (lLa : K.lookup fLa = some ⟨ocLa, odLa, .func (PySem.W.fnOf "law" "law" (defArgs sLaw) (defBody sLaw) (defScope sLaw) .none kVLa dcLa pmLa anLa cdLa ctLa), slLa⟩)
    (c_La : PySem.W.codeIn K cdLa "law" = true)
    (kLa : PySem.W.keepIn K (.ref fLa) = true)
    (aE0 : PySem.W.findIn K (.ref C0) "__init__" = some (some (.ref fE0)))
    (tE0 : PySem.W.typeIn K (.ref fE0) = some (.type "function"))
    (lE0 : K.lookup fE0 = some ⟨ocE0, odE0, .func (PySem.W.fnOf "__init__" "BadMachine.__init__" (defArgs sI_BadMachine) (defBody sI_BadMachine) (defScope sI_BadMachine) .none kVE0 dcE0 pmE0 anE0 cdE0 ctE0), slE0⟩)
    (c_E0 : PySem.W.codeIn K cdE0 "BadMachine.__init__" = true)
    (kE0 : PySem.W.keepIn K (.ref fE0) = true)
    (aE1 : PySem.W.findIn K (.ref C1) "__init__" = some (some (.ref fE1)))
    (tE1 : PySem.W.typeIn K (.ref fE1) = some (.type "function"))
    (lE1 : K.lookup fE1 = some ⟨ocE1, odE1, .func (PySem.W.fnOf "__init__" "BadWords.__init__" (defArgs sI_BadWords) (defBody sI_BadWords) (defScope sI_BadWords) .none kVE1 dcE1 pmE1 anE1 cdE1 ctE1), slE1⟩)
    (c_E1 : PySem.W.codeIn K cdE1 "BadWords.__init__" = true)
    (kE1 : PySem.W.keepIn K (.ref fE1) = true)
    (aE2 : PySem.W.findIn K (.ref C2) "__init__" = some (some (.ref fE2)))
    (tE2 : PySem.W.typeIn K (.ref fE2) = some (.type "function"))
    (lE2 : K.lookup fE2 = some ⟨ocE2, odE2, .func (PySem.W.fnOf "__init__" "BadBlock.__init__" (defArgs sI_BadBlock) (defBody sI_BadBlock) (defScope sI_BadBlock) .none kVE2 dcE2 pmE2 anE2 cdE2 ctE2), slE2⟩)
    (c_E2 : PySem.W.codeIn K cdE2 "BadBlock.__init__" = true)
    (kE2 : PySem.W.keepIn K (.ref fE2) = true)
    (aE3 : PySem.W.findIn K (.ref C3) "__init__" = some (some (.ref fE3)))
    (tE3 : PySem.W.typeIn K (.ref fE3) = some (.type "function"))
    (lE3 : K.lookup fE3 = some ⟨ocE3, odE3, .func (PySem.W.fnOf "__init__" "BadProgram.__init__" (defArgs sI_BadProgram) (defBody sI_BadProgram) (defScope sI_BadProgram) .none kVE3 dcE3 pmE3 anE3 cdE3 ctE3), slE3⟩)
    (c_E3 : PySem.W.codeIn K cdE3 "BadProgram.__init__" = true)
    (kE3 : PySem.W.keepIn K (.ref fE3) = true)
    (aE4 : PySem.W.findIn K (.ref C4) "__init__" = some (some (.ref fE4)))
    (tE4 : PySem.W.typeIn K (.ref fE4) = some (.type "function"))
    (lE4 : K.lookup fE4 = some ⟨ocE4, odE4, .func (PySem.W.fnOf "__init__" "BadSum.__init__" (defArgs sI_BadSum) (defBody sI_BadSum) (defScope sI_BadSum) .none kVE4 dcE4 pmE4 anE4 cdE4 ctE4), slE4⟩)
    (c_E4 : PySem.W.codeIn K cdE4 "BadSum.__init__" = true)
    (kE4 : PySem.W.keepIn K (.ref fE4) = true)
    (aE5 : PySem.W.findIn K (.ref C5) "__init__" = some (some (.ref fE5)))
    (tE5 : PySem.W.typeIn K (.ref fE5) = some (.type "function"))
    (lE5 : K.lookup fE5 = some ⟨ocE5, odE5, .func (PySem.W.fnOf "__init__" "BadMap.__init__" (defArgs sI_BadMap) (defBody sI_BadMap) (defScope sI_BadMap) .none kVE5 dcE5 pmE5 anE5 cdE5 ctE5), slE5⟩)
    (c_E5 : PySem.W.codeIn K cdE5 "BadMap.__init__" = true)
    (kE5 : PySem.W.keepIn K (.ref fE5) = true)
    (aE6 : PySem.W.findIn K (.ref C6) "__init__" = some (some (.ref fE6)))
    (tE6 : PySem.W.typeIn K (.ref fE6) = some (.type "function"))
    (lE6 : K.lookup fE6 = some ⟨ocE6, odE6, .func (PySem.W.fnOf "__init__" "BadStand.__init__" (defArgs sI_BadStand) (defBody sI_BadStand) (defScope sI_BadStand) .none kVE6 dcE6 pmE6 anE6 cdE6 ctE6), slE6⟩)
    (c_E6 : PySem.W.codeIn K cdE6 "BadStand.__init__" = true)
    (kE6 : PySem.W.keepIn K (.ref fE6) = true)
    (aE7 : PySem.W.findIn K (.ref C7) "__init__" = some (some (.ref fE7)))
    (tE7 : PySem.W.typeIn K (.ref fE7) = some (.type "function"))
    (lE7 : K.lookup fE7 = some ⟨ocE7, odE7, .func (PySem.W.fnOf "__init__" "BadTarget.__init__" (defArgs sI_BadTarget) (defBody sI_BadTarget) (defScope sI_BadTarget) .none kVE7 dcE7 pmE7 anE7 cdE7 ctE7), slE7⟩)
    (c_E7 : PySem.W.codeIn K cdE7 "BadTarget.__init__" = true)
    (kE7 : PySem.W.keepIn K (.ref fE7) = true)
    (aE8 : PySem.W.findIn K (.ref C8) "__init__" = some (some (.ref fE8)))
    (tE8 : PySem.W.typeIn K (.ref fE8) = some (.type "function"))
    (lE8 : K.lookup fE8 = some ⟨ocE8, odE8, .func (PySem.W.fnOf "__init__" "BadPaper.__init__" (defArgs sI_BadPaper) (defBody sI_BadPaper) (defScope sI_BadPaper) .none kVE8 dcE8 pmE8 anE8 cdE8 ctE8), slE8⟩)
    (c_E8 : PySem.W.codeIn K cdE8 "BadPaper.__init__" = true)
    (kE8 : PySem.W.keepIn K (.ref fE8) = true)
    (aE9 : PySem.W.findIn K (.ref C9) "__init__" = some (some (.ref fE9)))
    (tE9 : PySem.W.typeIn K (.ref fE9) = some (.type "function"))
    (lE9 : K.lookup fE9 = some ⟨ocE9, odE9, .func (PySem.W.fnOf "__init__" "BadControl.__init__" (defArgs sI_BadControl) (defBody sI_BadControl) (defScope sI_BadControl) .none kVE9 dcE9 pmE9 anE9 cdE9 ctE9), slE9⟩)
    (c_E9 : PySem.W.codeIn K cdE9 "BadControl.__init__" = true)
    (kE9 : PySem.W.keepIn K (.ref fE9) = true)
    (aE10 : PySem.W.findIn K (.ref C10) "__init__" = some (some (.ref fE10)))
    (tE10 : PySem.W.typeIn K (.ref fE10) = some (.type "function"))
    (lE10 : K.lookup fE10 = some ⟨ocE10, odE10, .func (PySem.W.fnOf "__init__" "NoAxis.__init__" (defArgs sI_NoAxis) (defBody sI_NoAxis) (defScope sI_NoAxis) .none kVE10 dcE10 pmE10 anE10 cdE10 ctE10), slE10⟩)
    (c_E10 : PySem.W.codeIn K cdE10 "NoAxis.__init__" = true)
    (kE10 : PySem.W.keepIn K (.ref fE10) = true)
    (aE11 : PySem.W.findIn K (.ref C11) "__init__" = some (some (.ref fE11)))
    (tE11 : PySem.W.typeIn K (.ref fE11) = some (.type "function"))
    (lE11 : K.lookup fE11 = some ⟨ocE11, odE11, .func (PySem.W.fnOf "__init__" "NoRegister.__init__" (defArgs sI_NoRegister) (defBody sI_NoRegister) (defScope sI_NoRegister) .none kVE11 dcE11 pmE11 anE11 cdE11 ctE11), slE11⟩)
    (c_E11 : PySem.W.codeIn K cdE11 "NoRegister.__init__" = true)
    (kE11 : PySem.W.keepIn K (.ref fE11) = true)
    (aE12 : PySem.W.findIn K (.ref C12) "__init__" = some (some (.ref fE12)))
    (tE12 : PySem.W.typeIn K (.ref fE12) = some (.type "function"))
    (lE12 : K.lookup fE12 = some ⟨ocE12, odE12, .func (PySem.W.fnOf "__init__" "NoPlace.__init__" (defArgs sI_NoPlace) (defBody sI_NoPlace) (defScope sI_NoPlace) .none kVE12 dcE12 pmE12 anE12 cdE12 ctE12), slE12⟩)
    (c_E12 : PySem.W.codeIn K cdE12 "NoPlace.__init__" = true)
    (kE12 : PySem.W.keepIn K (.ref fE12) = true)
    (aE13 : PySem.W.findIn K (.ref C13) "__init__" = some (some (.ref fE13)))
    (tE13 : PySem.W.typeIn K (.ref fE13) = some (.type "function"))
    (lE13 : K.lookup fE13 = some ⟨ocE13, odE13, .func (PySem.W.fnOf "__init__" "NoNode.__init__" (defArgs sI_NoNode) (defBody sI_NoNode) (defScope sI_NoNode) .none kVE13 dcE13 pmE13 anE13 cdE13 ctE13), slE13⟩)
    (c_E13 : PySem.W.codeIn K cdE13 "NoNode.__init__" = true)
    (kE13 : PySem.W.keepIn K (.ref fE13) = true)
    (aE14 : PySem.W.findIn K (.ref C14) "__init__" = some (some (.ref fE14)))
    (tE14 : PySem.W.typeIn K (.ref fE14) = some (.type "function"))
    (lE14 : K.lookup fE14 = some ⟨ocE14, odE14, .func (PySem.W.fnOf "__init__" "BadRun.__init__" (defArgs sI_BadRun) (defBody sI_BadRun) (defScope sI_BadRun) .none kVE14 dcE14 pmE14 anE14 cdE14 ctE14), slE14⟩)
    (c_E14 : PySem.W.codeIn K cdE14 "BadRun.__init__" = true)
    (kE14 : PySem.W.keepIn K (.ref fE14) = true)
    (aE15 : PySem.W.findIn K (.ref C15) "__init__" = some (some (.ref fE15)))
    (tE15 : PySem.W.typeIn K (.ref fE15) = some (.type "function"))
    (lE15 : K.lookup fE15 = some ⟨ocE15, odE15, .func (PySem.W.fnOf "__init__" "BadPreamble.__init__" (defArgs sI_BadPreamble) (defBody sI_BadPreamble) (defScope sI_BadPreamble) .none kVE15 dcE15 pmE15 anE15 cdE15 ctE15), slE15⟩)
    (c_E15 : PySem.W.codeIn K cdE15 "BadPreamble.__init__" = true)
    (kE15 : PySem.W.keepIn K (.ref fE15) = true)
    (aE16 : PySem.W.findIn K (.ref C16) "__init__" = some (some (.ref fE16)))
    (tE16 : PySem.W.typeIn K (.ref fE16) = some (.type "function"))
    (lE16 : K.lookup fE16 = some ⟨ocE16, odE16, .func (PySem.W.fnOf "__init__" "Stopped.__init__" (defArgs sI_Stopped) (defBody sI_Stopped) (defScope sI_Stopped) .none kVE16 dcE16 pmE16 anE16 cdE16 ctE16), slE16⟩)
    (c_E16 : PySem.W.codeIn K cdE16 "Stopped.__init__" = true)
    (kE16 : PySem.W.keepIn K (.ref fE16) = true)
    (aE17 : PySem.W.findIn K (.ref C17) "__init__" = some (some (.ref fE17)))
    (tE17 : PySem.W.typeIn K (.ref fE17) = some (.type "function"))
    (lE17 : K.lookup fE17 = some ⟨ocE17, odE17, .func (PySem.W.fnOf "__init__" "Running.__init__" (defArgs sI_Running) (defBody sI_Running) (defScope sI_Running) .none kVE17 dcE17 pmE17 anE17 cdE17 ctE17), slE17⟩)
    (c_E17 : PySem.W.codeIn K cdE17 "Running.__init__" = true)
    (kE17 : PySem.W.keepIn K (.ref fE17) = true)
    (aE19 : PySem.W.findIn K (.ref C19) "__init__" = some (some (.ref fE19)))
    (tE19 : PySem.W.typeIn K (.ref fE19) = some (.type "function"))
    (lE19 : K.lookup fE19 = some ⟨ocE19, odE19, .func (PySem.W.fnOf "__init__" "TooMany.__init__" (defArgs sI_TooMany) (defBody sI_TooMany) (defScope sI_TooMany) .none kVE19 dcE19 pmE19 anE19 cdE19 ctE19), slE19⟩)
    (c_E19 : PySem.W.codeIn K cdE19 "TooMany.__init__" = true)
    (kE19 : PySem.W.keepIn K (.ref fE19) = true)
    (aE20 : PySem.W.findIn K (.ref C20) "__init__" = some (some (.ref fE20)))
    (tE20 : PySem.W.typeIn K (.ref fE20) = some (.type "function"))
    (lE20 : K.lookup fE20 = some ⟨ocE20, odE20, .func (PySem.W.fnOf "__init__" "BadText.__init__" (defArgs sI_BadText) (defBody sI_BadText) (defScope sI_BadText) .none kVE20 dcE20 pmE20 anE20 cdE20 ctE20), slE20⟩)
    (c_E20 : PySem.W.codeIn K cdE20 "BadText.__init__" = true)
    (kE20 : PySem.W.keepIn K (.ref fE20) = true)
    (aE21 : PySem.W.findIn K (.ref C21) "__init__" = some (some (.ref fE21)))
    (tE21 : PySem.W.typeIn K (.ref fE21) = some (.type "function"))
    (lE21 : K.lookup fE21 = some ⟨ocE21, odE21, .func (PySem.W.fnOf "__init__" "BadLine.__init__" (defArgs sI_BadLine) (defBody sI_BadLine) (defScope sI_BadLine) .none kVE21 dcE21 pmE21 anE21 cdE21 ctE21), slE21⟩)
    (c_E21 : PySem.W.codeIn K cdE21 "BadLine.__init__" = true)
    (kE21 : PySem.W.keepIn K (.ref fE21) = true)
    (aPe : PySem.W.findIn K (.ref PA) "__eq__" = some (some (.ref fPe)))
    (iPe : PySem.W.isFn K (.ref fPe) = true)
    (lPe : K.lookup fPe = some ⟨ocPe, odPe, .func (PySem.W.fnOf "__eq__" "Paper.__eq__" (defArgs sPaE) (defBody sPaE) (defScope sPaE) .none kVPe dcPe pmPe anPe cdPe ctPe), slPe⟩)
    (c_Pe : PySem.W.codeIn K cdPe "Paper.__eq__" = true)
    (kPe : PySem.W.keepIn K (.ref fPe) = true)
    (aDe : PySem.W.findIn K (.ref DE) "__eq__" = some (some (.ref fDe)))
    (iDe : PySem.W.isFn K (.ref fDe) = true)
    (lDe : K.lookup fDe = some ⟨ocDe, odDe, .func (PySem.W.fnOf "__eq__" "Denial.__eq__" (defArgs sDeE) (defBody sDeE) (defScope sDeE) .none kVDe dcDe pmDe anDe cdDe ctDe), slDe⟩)
    (c_De : PySem.W.codeIn K cdDe "Denial.__eq__" = true)
    (kDe : PySem.W.keepIn K (.ref fDe) = true)
    (aPb : PySem.W.findIn K (.ref PA) "__bool__" = some (some (.ref fPb)))
    (iPb : PySem.W.isFn K (.ref fPb) = true)
    (lPb : K.lookup fPb = some ⟨ocPb, odPb, .func (PySem.W.fnOf "__bool__" "Paper.__bool__" (defArgs sPaB) (defBody sPaB) (defScope sPaB) .none kVPb dcPb pmPb anPb cdPb ctPb), slPb⟩)
    (c_Pb : PySem.W.codeIn K cdPb "Paper.__bool__" = true)
    (kPb : PySem.W.keepIn K (.ref fPb) = true)
    (aDb : PySem.W.findIn K (.ref DE) "__bool__" = some (some (.ref fDb)))
    (iDb : PySem.W.isFn K (.ref fDb) = true)
    (lDb : K.lookup fDb = some ⟨ocDb, odDb, .func (PySem.W.fnOf "__bool__" "Denial.__bool__" (defArgs sDeB) (defBody sDeB) (defScope sDeB) .none kVDb dcDb pmDb anDb cdDb ctDb), slDb⟩)
    (c_Db : PySem.W.codeIn K cdDb "Denial.__bool__" = true)
    (kDb : PySem.W.keepIn K (.ref fDb) = true)
    (aPi : PySem.W.findIn K (.ref PA) "__init__" = some (some (.ref fPi)))
    (iPi : PySem.W.isFn K (.ref fPi) = true)
    (lPi : K.lookup fPi = some ⟨ocPi, odPi, .func (PySem.W.fnOf "__init__" "Paper.__init__" (defArgs sPaI) (defBody sPaI) (defScope sPaI) .none kVPi dcPi pmPi anPi cdPi ctPi), slPi⟩)
    (c_Pi : PySem.W.codeIn K cdPi "Paper.__init__" = true)
    (kPi : PySem.W.keepIn K (.ref fPi) = true)
    (aDi : PySem.W.findIn K (.ref DE) "__init__" = some (some (.ref fDi)))
    (iDi : PySem.W.isFn K (.ref fDi) = true)
    (lDi : K.lookup fDi = some ⟨ocDi, odDi, .func (PySem.W.fnOf "__init__" "Denial.__init__" (defArgs sDeI) (defBody sDeI) (defScope sDeI) .none kVDi dcDi pmDi anDi cdDi ctDi), slDi⟩)
    (c_Di : PySem.W.codeIn K cdDi "Denial.__init__" = true)
    (kDi : PySem.W.keepIn K (.ref fDi) = true)
    (xC0 : K.lookup C0 = some (excClassObj nmC0 qC0 C0 NC0 bsC0 bmC0 true snC0 subC0 abC0 colC0 ddC0 k0C0 k1C0 k2C0 k3C0 k5C0 "ValueError.__new__"))
    (vC0 : PySem.HandSPX.refsVE bmC0 = true)
    (saC0 : PySem.W.findIn K (.ref C0) "__setattr__" = some (some (.builtin "object.__setattr__")))
    (tyC0 : PySem.W.typeIn K (.ref C0) = some (.type "type"))
    (exC0 : PySem.W.subIn K (.ref C0) (.type "BaseException") = some true)
    (kcC0 : PySem.W.keepIn K (.ref C0) = true)
    (gaC0 : PySem.W.findIn K (.ref C0) "__getattribute__" = some (some (.builtin "BaseException.__getattribute__")))
    (ggC0 : PySem.W.findIn K (.ref C0) "__getattr__" = some none)
    (hdC0 : PySem.W.hasDictIn K C0 = true)
    (clC0 : (PySem.W.clsIn K C0).isSome = true)
    (caC0 : PySem.W.findIn K (.ref C0) "__class__" = some (some (.builtin "object.__class__")))
    (mrC0 : PySem.W.mroIn K C0 (.type "object") = some true)
    (n0_part : PySem.W.findIn K (.ref C0) "part" = some none)
    (kTC0 : PySem.W.kitOne K (.ref C0) (.ref TE) = some true)
    (kMC0 : PySem.W.kitOne K (.ref C0) (.ref MI) = some false)
    (kVC0 : PySem.W.kitOne K (.ref C0) (.type "ValueError") = some true)
    (kLC0 : PySem.W.kitAny K (.ref C0) [.type "LookupError", .type "ArithmeticError", .type "TypeError"] = some false)
    (xC1 : K.lookup C1 = some (excClassObj nmC1 qC1 C1 NC1 bsC1 bmC1 true snC1 subC1 abC1 colC1 ddC1 k0C1 k1C1 k2C1 k3C1 k5C1 "ValueError.__new__"))
    (vC1 : PySem.HandSPX.refsVE bmC1 = true)
    (saC1 : PySem.W.findIn K (.ref C1) "__setattr__" = some (some (.builtin "object.__setattr__")))
    (tyC1 : PySem.W.typeIn K (.ref C1) = some (.type "type"))
    (exC1 : PySem.W.subIn K (.ref C1) (.type "BaseException") = some true)
    (kcC1 : PySem.W.keepIn K (.ref C1) = true)
    (gaC1 : PySem.W.findIn K (.ref C1) "__getattribute__" = some (some (.builtin "BaseException.__getattribute__")))
    (ggC1 : PySem.W.findIn K (.ref C1) "__getattr__" = some none)
    (hdC1 : PySem.W.hasDictIn K C1 = true)
    (clC1 : (PySem.W.clsIn K C1).isSome = true)
    (caC1 : PySem.W.findIn K (.ref C1) "__class__" = some (some (.builtin "object.__class__")))
    (mrC1 : PySem.W.mroIn K C1 (.type "object") = some true)
    (n1_part : PySem.W.findIn K (.ref C1) "part" = some none)
    (kTC1 : PySem.W.kitOne K (.ref C1) (.ref TE) = some true)
    (kMC1 : PySem.W.kitOne K (.ref C1) (.ref MI) = some false)
    (kVC1 : PySem.W.kitOne K (.ref C1) (.type "ValueError") = some true)
    (kLC1 : PySem.W.kitAny K (.ref C1) [.type "LookupError", .type "ArithmeticError", .type "TypeError"] = some false)
    (xC2 : K.lookup C2 = some (excClassObj nmC2 qC2 C2 NC2 bsC2 bmC2 true snC2 subC2 abC2 colC2 ddC2 k0C2 k1C2 k2C2 k3C2 k5C2 "ValueError.__new__"))
    (vC2 : PySem.HandSPX.refsVE bmC2 = true)
    (saC2 : PySem.W.findIn K (.ref C2) "__setattr__" = some (some (.builtin "object.__setattr__")))
    (tyC2 : PySem.W.typeIn K (.ref C2) = some (.type "type"))
    (exC2 : PySem.W.subIn K (.ref C2) (.type "BaseException") = some true)
    (kcC2 : PySem.W.keepIn K (.ref C2) = true)
    (gaC2 : PySem.W.findIn K (.ref C2) "__getattribute__" = some (some (.builtin "BaseException.__getattribute__")))
    (ggC2 : PySem.W.findIn K (.ref C2) "__getattr__" = some none)
    (hdC2 : PySem.W.hasDictIn K C2 = true)
    (clC2 : (PySem.W.clsIn K C2).isSome = true)
    (caC2 : PySem.W.findIn K (.ref C2) "__class__" = some (some (.builtin "object.__class__")))
    (mrC2 : PySem.W.mroIn K C2 (.type "object") = some true)
    (n2_part : PySem.W.findIn K (.ref C2) "part" = some none)
    (kTC2 : PySem.W.kitOne K (.ref C2) (.ref TE) = some true)
    (kMC2 : PySem.W.kitOne K (.ref C2) (.ref MI) = some false)
    (kVC2 : PySem.W.kitOne K (.ref C2) (.type "ValueError") = some true)
    (kLC2 : PySem.W.kitAny K (.ref C2) [.type "LookupError", .type "ArithmeticError", .type "TypeError"] = some false)
    (xC3 : K.lookup C3 = some (excClassObj nmC3 qC3 C3 NC3 bsC3 bmC3 true snC3 subC3 abC3 colC3 ddC3 k0C3 k1C3 k2C3 k3C3 k5C3 "ValueError.__new__"))
    (vC3 : PySem.HandSPX.refsVE bmC3 = true)
    (saC3 : PySem.W.findIn K (.ref C3) "__setattr__" = some (some (.builtin "object.__setattr__")))
    (tyC3 : PySem.W.typeIn K (.ref C3) = some (.type "type"))
    (exC3 : PySem.W.subIn K (.ref C3) (.type "BaseException") = some true)
    (kcC3 : PySem.W.keepIn K (.ref C3) = true)
    (gaC3 : PySem.W.findIn K (.ref C3) "__getattribute__" = some (some (.builtin "BaseException.__getattribute__")))
    (ggC3 : PySem.W.findIn K (.ref C3) "__getattr__" = some none)
    (hdC3 : PySem.W.hasDictIn K C3 = true)
    (clC3 : (PySem.W.clsIn K C3).isSome = true)
    (caC3 : PySem.W.findIn K (.ref C3) "__class__" = some (some (.builtin "object.__class__")))
    (mrC3 : PySem.W.mroIn K C3 (.type "object") = some true)
    (n3_part : PySem.W.findIn K (.ref C3) "part" = some none)
    (kTC3 : PySem.W.kitOne K (.ref C3) (.ref TE) = some true)
    (kMC3 : PySem.W.kitOne K (.ref C3) (.ref MI) = some false)
    (kVC3 : PySem.W.kitOne K (.ref C3) (.type "ValueError") = some true)
    (kLC3 : PySem.W.kitAny K (.ref C3) [.type "LookupError", .type "ArithmeticError", .type "TypeError"] = some false)
    (xC4 : K.lookup C4 = some (excClassObj nmC4 qC4 C4 NC4 bsC4 bmC4 true snC4 subC4 abC4 colC4 ddC4 k0C4 k1C4 k2C4 k3C4 k5C4 "ValueError.__new__"))
    (vC4 : PySem.HandSPX.refsVE bmC4 = true)
    (saC4 : PySem.W.findIn K (.ref C4) "__setattr__" = some (some (.builtin "object.__setattr__")))
    (tyC4 : PySem.W.typeIn K (.ref C4) = some (.type "type"))
    (exC4 : PySem.W.subIn K (.ref C4) (.type "BaseException") = some true)
    (kcC4 : PySem.W.keepIn K (.ref C4) = true)
    (gaC4 : PySem.W.findIn K (.ref C4) "__getattribute__" = some (some (.builtin "BaseException.__getattribute__")))
    (ggC4 : PySem.W.findIn K (.ref C4) "__getattr__" = some none)
    (hdC4 : PySem.W.hasDictIn K C4 = true)
    (clC4 : (PySem.W.clsIn K C4).isSome = true)
    (caC4 : PySem.W.findIn K (.ref C4) "__class__" = some (some (.builtin "object.__class__")))
    (mrC4 : PySem.W.mroIn K C4 (.type "object") = some true)
    (n4_part : PySem.W.findIn K (.ref C4) "part" = some none)
    (kTC4 : PySem.W.kitOne K (.ref C4) (.ref TE) = some true)
    (kMC4 : PySem.W.kitOne K (.ref C4) (.ref MI) = some false)
    (kVC4 : PySem.W.kitOne K (.ref C4) (.type "ValueError") = some true)
    (kLC4 : PySem.W.kitAny K (.ref C4) [.type "LookupError", .type "ArithmeticError", .type "TypeError"] = some false)
    (xC5 : K.lookup C5 = some (excClassObj nmC5 qC5 C5 NC5 bsC5 bmC5 true snC5 subC5 abC5 colC5 ddC5 k0C5 k1C5 k2C5 k3C5 k5C5 "ValueError.__new__"))
    (vC5 : PySem.HandSPX.refsVE bmC5 = true)
    (saC5 : PySem.W.findIn K (.ref C5) "__setattr__" = some (some (.builtin "object.__setattr__")))
    (tyC5 : PySem.W.typeIn K (.ref C5) = some (.type "type"))
    (exC5 : PySem.W.subIn K (.ref C5) (.type "BaseException") = some true)
    (kcC5 : PySem.W.keepIn K (.ref C5) = true)
    (gaC5 : PySem.W.findIn K (.ref C5) "__getattribute__" = some (some (.builtin "BaseException.__getattribute__")))
    (ggC5 : PySem.W.findIn K (.ref C5) "__getattr__" = some none)
    (hdC5 : PySem.W.hasDictIn K C5 = true)
    (clC5 : (PySem.W.clsIn K C5).isSome = true)
    (caC5 : PySem.W.findIn K (.ref C5) "__class__" = some (some (.builtin "object.__class__")))
    (mrC5 : PySem.W.mroIn K C5 (.type "object") = some true)
    (n5_part : PySem.W.findIn K (.ref C5) "part" = some none)
    (kTC5 : PySem.W.kitOne K (.ref C5) (.ref TE) = some true)
    (kMC5 : PySem.W.kitOne K (.ref C5) (.ref MI) = some false)
    (kVC5 : PySem.W.kitOne K (.ref C5) (.type "ValueError") = some true)
    (kLC5 : PySem.W.kitAny K (.ref C5) [.type "LookupError", .type "ArithmeticError", .type "TypeError"] = some false)
    (xC6 : K.lookup C6 = some (excClassObj nmC6 qC6 C6 NC6 bsC6 bmC6 true snC6 subC6 abC6 colC6 ddC6 k0C6 k1C6 k2C6 k3C6 k5C6 "ValueError.__new__"))
    (vC6 : PySem.HandSPX.refsVE bmC6 = true)
    (saC6 : PySem.W.findIn K (.ref C6) "__setattr__" = some (some (.builtin "object.__setattr__")))
    (tyC6 : PySem.W.typeIn K (.ref C6) = some (.type "type"))
    (exC6 : PySem.W.subIn K (.ref C6) (.type "BaseException") = some true)
    (kcC6 : PySem.W.keepIn K (.ref C6) = true)
    (gaC6 : PySem.W.findIn K (.ref C6) "__getattribute__" = some (some (.builtin "BaseException.__getattribute__")))
    (ggC6 : PySem.W.findIn K (.ref C6) "__getattr__" = some none)
    (hdC6 : PySem.W.hasDictIn K C6 = true)
    (clC6 : (PySem.W.clsIn K C6).isSome = true)
    (caC6 : PySem.W.findIn K (.ref C6) "__class__" = some (some (.builtin "object.__class__")))
    (mrC6 : PySem.W.mroIn K C6 (.type "object") = some true)
    (n6_part : PySem.W.findIn K (.ref C6) "part" = some none)
    (kTC6 : PySem.W.kitOne K (.ref C6) (.ref TE) = some true)
    (kMC6 : PySem.W.kitOne K (.ref C6) (.ref MI) = some false)
    (kVC6 : PySem.W.kitOne K (.ref C6) (.type "ValueError") = some true)
    (kLC6 : PySem.W.kitAny K (.ref C6) [.type "LookupError", .type "ArithmeticError", .type "TypeError"] = some false)
    (xC7 : K.lookup C7 = some (excClassObj nmC7 qC7 C7 NC7 bsC7 bmC7 true snC7 subC7 abC7 colC7 ddC7 k0C7 k1C7 k2C7 k3C7 k5C7 "ValueError.__new__"))
    (vC7 : PySem.HandSPX.refsVE bmC7 = true)
    (saC7 : PySem.W.findIn K (.ref C7) "__setattr__" = some (some (.builtin "object.__setattr__")))
    (tyC7 : PySem.W.typeIn K (.ref C7) = some (.type "type"))
    (exC7 : PySem.W.subIn K (.ref C7) (.type "BaseException") = some true)
    (kcC7 : PySem.W.keepIn K (.ref C7) = true)
    (gaC7 : PySem.W.findIn K (.ref C7) "__getattribute__" = some (some (.builtin "BaseException.__getattribute__")))
    (ggC7 : PySem.W.findIn K (.ref C7) "__getattr__" = some none)
    (hdC7 : PySem.W.hasDictIn K C7 = true)
    (clC7 : (PySem.W.clsIn K C7).isSome = true)
    (caC7 : PySem.W.findIn K (.ref C7) "__class__" = some (some (.builtin "object.__class__")))
    (mrC7 : PySem.W.mroIn K C7 (.type "object") = some true)
    (n7_part : PySem.W.findIn K (.ref C7) "part" = some none)
    (kTC7 : PySem.W.kitOne K (.ref C7) (.ref TE) = some true)
    (kMC7 : PySem.W.kitOne K (.ref C7) (.ref MI) = some false)
    (kVC7 : PySem.W.kitOne K (.ref C7) (.type "ValueError") = some true)
    (kLC7 : PySem.W.kitAny K (.ref C7) [.type "LookupError", .type "ArithmeticError", .type "TypeError"] = some false)
    (xC8 : K.lookup C8 = some (excClassObj nmC8 qC8 C8 NC8 bsC8 bmC8 true snC8 subC8 abC8 colC8 ddC8 k0C8 k1C8 k2C8 k3C8 k5C8 "ValueError.__new__"))
    (vC8 : PySem.HandSPX.refsVE bmC8 = true)
    (saC8 : PySem.W.findIn K (.ref C8) "__setattr__" = some (some (.builtin "object.__setattr__")))
    (tyC8 : PySem.W.typeIn K (.ref C8) = some (.type "type"))
    (exC8 : PySem.W.subIn K (.ref C8) (.type "BaseException") = some true)
    (kcC8 : PySem.W.keepIn K (.ref C8) = true)
    (gaC8 : PySem.W.findIn K (.ref C8) "__getattribute__" = some (some (.builtin "BaseException.__getattribute__")))
    (ggC8 : PySem.W.findIn K (.ref C8) "__getattr__" = some none)
    (hdC8 : PySem.W.hasDictIn K C8 = true)
    (clC8 : (PySem.W.clsIn K C8).isSome = true)
    (caC8 : PySem.W.findIn K (.ref C8) "__class__" = some (some (.builtin "object.__class__")))
    (mrC8 : PySem.W.mroIn K C8 (.type "object") = some true)
    (n8_part : PySem.W.findIn K (.ref C8) "part" = some none)
    (kTC8 : PySem.W.kitOne K (.ref C8) (.ref TE) = some true)
    (kMC8 : PySem.W.kitOne K (.ref C8) (.ref MI) = some false)
    (kVC8 : PySem.W.kitOne K (.ref C8) (.type "ValueError") = some true)
    (kLC8 : PySem.W.kitAny K (.ref C8) [.type "LookupError", .type "ArithmeticError", .type "TypeError"] = some false)
    (xC9 : K.lookup C9 = some (excClassObj nmC9 qC9 C9 NC9 bsC9 bmC9 true snC9 subC9 abC9 colC9 ddC9 k0C9 k1C9 k2C9 k3C9 k5C9 "ValueError.__new__"))
    (vC9 : PySem.HandSPX.refsVE bmC9 = true)
    (saC9 : PySem.W.findIn K (.ref C9) "__setattr__" = some (some (.builtin "object.__setattr__")))
    (tyC9 : PySem.W.typeIn K (.ref C9) = some (.type "type"))
    (exC9 : PySem.W.subIn K (.ref C9) (.type "BaseException") = some true)
    (kcC9 : PySem.W.keepIn K (.ref C9) = true)
    (gaC9 : PySem.W.findIn K (.ref C9) "__getattribute__" = some (some (.builtin "BaseException.__getattribute__")))
    (ggC9 : PySem.W.findIn K (.ref C9) "__getattr__" = some none)
    (hdC9 : PySem.W.hasDictIn K C9 = true)
    (clC9 : (PySem.W.clsIn K C9).isSome = true)
    (caC9 : PySem.W.findIn K (.ref C9) "__class__" = some (some (.builtin "object.__class__")))
    (mrC9 : PySem.W.mroIn K C9 (.type "object") = some true)
    (n9_part : PySem.W.findIn K (.ref C9) "part" = some none)
    (kTC9 : PySem.W.kitOne K (.ref C9) (.ref TE) = some true)
    (kMC9 : PySem.W.kitOne K (.ref C9) (.ref MI) = some false)
    (kVC9 : PySem.W.kitOne K (.ref C9) (.type "ValueError") = some true)
    (kLC9 : PySem.W.kitAny K (.ref C9) [.type "LookupError", .type "ArithmeticError", .type "TypeError"] = some false)
    (xC10 : K.lookup C10 = some (excClassObj nmC10 qC10 C10 NC10 bsC10 bmC10 true snC10 subC10 abC10 colC10 ddC10 k0C10 k1C10 k2C10 k3C10 k5C10 "ValueError.__new__"))
    (vC10 : PySem.HandSPX.refsVE bmC10 = true)
    (saC10 : PySem.W.findIn K (.ref C10) "__setattr__" = some (some (.builtin "object.__setattr__")))
    (tyC10 : PySem.W.typeIn K (.ref C10) = some (.type "type"))
    (exC10 : PySem.W.subIn K (.ref C10) (.type "BaseException") = some true)
    (kcC10 : PySem.W.keepIn K (.ref C10) = true)
    (gaC10 : PySem.W.findIn K (.ref C10) "__getattribute__" = some (some (.builtin "BaseException.__getattribute__")))
    (ggC10 : PySem.W.findIn K (.ref C10) "__getattr__" = some none)
    (hdC10 : PySem.W.hasDictIn K C10 = true)
    (clC10 : (PySem.W.clsIn K C10).isSome = true)
    (caC10 : PySem.W.findIn K (.ref C10) "__class__" = some (some (.builtin "object.__class__")))
    (mrC10 : PySem.W.mroIn K C10 (.type "object") = some true)
    (n10_axis : PySem.W.findIn K (.ref C10) "axis" = some none)
    (kTC10 : PySem.W.kitOne K (.ref C10) (.ref TE) = some true)
    (kMC10 : PySem.W.kitOne K (.ref C10) (.ref MI) = some true)
    (kVC10 : PySem.W.kitOne K (.ref C10) (.type "ValueError") = some true)
    (kLC10 : PySem.W.kitAny K (.ref C10) [.type "LookupError", .type "ArithmeticError", .type "TypeError"] = some false)
    (xC11 : K.lookup C11 = some (excClassObj nmC11 qC11 C11 NC11 bsC11 bmC11 true snC11 subC11 abC11 colC11 ddC11 k0C11 k1C11 k2C11 k3C11 k5C11 "ValueError.__new__"))
    (vC11 : PySem.HandSPX.refsVE bmC11 = true)
    (saC11 : PySem.W.findIn K (.ref C11) "__setattr__" = some (some (.builtin "object.__setattr__")))
    (tyC11 : PySem.W.typeIn K (.ref C11) = some (.type "type"))
    (exC11 : PySem.W.subIn K (.ref C11) (.type "BaseException") = some true)
    (kcC11 : PySem.W.keepIn K (.ref C11) = true)
    (gaC11 : PySem.W.findIn K (.ref C11) "__getattribute__" = some (some (.builtin "BaseException.__getattribute__")))
    (ggC11 : PySem.W.findIn K (.ref C11) "__getattr__" = some none)
    (hdC11 : PySem.W.hasDictIn K C11 = true)
    (clC11 : (PySem.W.clsIn K C11).isSome = true)
    (caC11 : PySem.W.findIn K (.ref C11) "__class__" = some (some (.builtin "object.__class__")))
    (mrC11 : PySem.W.mroIn K C11 (.type "object") = some true)
    (n11_name : PySem.W.findIn K (.ref C11) "name" = some none)
    (kTC11 : PySem.W.kitOne K (.ref C11) (.ref TE) = some true)
    (kMC11 : PySem.W.kitOne K (.ref C11) (.ref MI) = some true)
    (kVC11 : PySem.W.kitOne K (.ref C11) (.type "ValueError") = some true)
    (kLC11 : PySem.W.kitAny K (.ref C11) [.type "LookupError", .type "ArithmeticError", .type "TypeError"] = some false)
    (xC12 : K.lookup C12 = some (excClassObj nmC12 qC12 C12 NC12 bsC12 bmC12 true snC12 subC12 abC12 colC12 ddC12 k0C12 k1C12 k2C12 k3C12 k5C12 "ValueError.__new__"))
    (vC12 : PySem.HandSPX.refsVE bmC12 = true)
    (saC12 : PySem.W.findIn K (.ref C12) "__setattr__" = some (some (.builtin "object.__setattr__")))
    (tyC12 : PySem.W.typeIn K (.ref C12) = some (.type "type"))
    (exC12 : PySem.W.subIn K (.ref C12) (.type "BaseException") = some true)
    (kcC12 : PySem.W.keepIn K (.ref C12) = true)
    (gaC12 : PySem.W.findIn K (.ref C12) "__getattribute__" = some (some (.builtin "BaseException.__getattribute__")))
    (ggC12 : PySem.W.findIn K (.ref C12) "__getattr__" = some none)
    (hdC12 : PySem.W.hasDictIn K C12 = true)
    (clC12 : (PySem.W.clsIn K C12).isSome = true)
    (caC12 : PySem.W.findIn K (.ref C12) "__class__" = some (some (.builtin "object.__class__")))
    (mrC12 : PySem.W.mroIn K C12 (.type "object") = some true)
    (n12_place : PySem.W.findIn K (.ref C12) "place" = some none)
    (kTC12 : PySem.W.kitOne K (.ref C12) (.ref TE) = some true)
    (kMC12 : PySem.W.kitOne K (.ref C12) (.ref MI) = some true)
    (kVC12 : PySem.W.kitOne K (.ref C12) (.type "ValueError") = some true)
    (kLC12 : PySem.W.kitAny K (.ref C12) [.type "LookupError", .type "ArithmeticError", .type "TypeError"] = some false)
    (xC13 : K.lookup C13 = some (excClassObj nmC13 qC13 C13 NC13 bsC13 bmC13 true snC13 subC13 abC13 colC13 ddC13 k0C13 k1C13 k2C13 k3C13 k5C13 "ValueError.__new__"))
    (vC13 : PySem.HandSPX.refsVE bmC13 = true)
    (saC13 : PySem.W.findIn K (.ref C13) "__setattr__" = some (some (.builtin "object.__setattr__")))
    (tyC13 : PySem.W.typeIn K (.ref C13) = some (.type "type"))
    (exC13 : PySem.W.subIn K (.ref C13) (.type "BaseException") = some true)
    (kcC13 : PySem.W.keepIn K (.ref C13) = true)
    (gaC13 : PySem.W.findIn K (.ref C13) "__getattribute__" = some (some (.builtin "BaseException.__getattribute__")))
    (ggC13 : PySem.W.findIn K (.ref C13) "__getattr__" = some none)
    (hdC13 : PySem.W.hasDictIn K C13 = true)
    (clC13 : (PySem.W.clsIn K C13).isSome = true)
    (caC13 : PySem.W.findIn K (.ref C13) "__class__" = some (some (.builtin "object.__class__")))
    (mrC13 : PySem.W.mroIn K C13 (.type "object") = some true)
    (n13_place : PySem.W.findIn K (.ref C13) "place" = some none)
    (n13_words : PySem.W.findIn K (.ref C13) "words" = some none)
    (kTC13 : PySem.W.kitOne K (.ref C13) (.ref TE) = some true)
    (kMC13 : PySem.W.kitOne K (.ref C13) (.ref MI) = some true)
    (kVC13 : PySem.W.kitOne K (.ref C13) (.type "ValueError") = some true)
    (kLC13 : PySem.W.kitAny K (.ref C13) [.type "LookupError", .type "ArithmeticError", .type "TypeError"] = some false)
    (xC14 : K.lookup C14 = some (excClassObj nmC14 qC14 C14 NC14 bsC14 bmC14 true snC14 subC14 abC14 colC14 ddC14 k0C14 k1C14 k2C14 k3C14 k5C14 "ValueError.__new__"))
    (vC14 : PySem.HandSPX.refsVE bmC14 = true)
    (saC14 : PySem.W.findIn K (.ref C14) "__setattr__" = some (some (.builtin "object.__setattr__")))
    (tyC14 : PySem.W.typeIn K (.ref C14) = some (.type "type"))
    (exC14 : PySem.W.subIn K (.ref C14) (.type "BaseException") = some true)
    (kcC14 : PySem.W.keepIn K (.ref C14) = true)
    (gaC14 : PySem.W.findIn K (.ref C14) "__getattribute__" = some (some (.builtin "BaseException.__getattribute__")))
    (ggC14 : PySem.W.findIn K (.ref C14) "__getattr__" = some none)
    (hdC14 : PySem.W.hasDictIn K C14 = true)
    (clC14 : (PySem.W.clsIn K C14).isSome = true)
    (caC14 : PySem.W.findIn K (.ref C14) "__class__" = some (some (.builtin "object.__class__")))
    (mrC14 : PySem.W.mroIn K C14 (.type "object") = some true)
    (n14_at : PySem.W.findIn K (.ref C14) "at" = some none)
    (kTC14 : PySem.W.kitOne K (.ref C14) (.ref TE) = some true)
    (kMC14 : PySem.W.kitOne K (.ref C14) (.ref MI) = some false)
    (kVC14 : PySem.W.kitOne K (.ref C14) (.type "ValueError") = some true)
    (kLC14 : PySem.W.kitAny K (.ref C14) [.type "LookupError", .type "ArithmeticError", .type "TypeError"] = some false)
    (xC15 : K.lookup C15 = some (excClassObj nmC15 qC15 C15 NC15 bsC15 bmC15 true snC15 subC15 abC15 colC15 ddC15 k0C15 k1C15 k2C15 k3C15 k5C15 "ValueError.__new__"))
    (vC15 : PySem.HandSPX.refsVE bmC15 = true)
    (saC15 : PySem.W.findIn K (.ref C15) "__setattr__" = some (some (.builtin "object.__setattr__")))
    (tyC15 : PySem.W.typeIn K (.ref C15) = some (.type "type"))
    (exC15 : PySem.W.subIn K (.ref C15) (.type "BaseException") = some true)
    (kcC15 : PySem.W.keepIn K (.ref C15) = true)
    (gaC15 : PySem.W.findIn K (.ref C15) "__getattribute__" = some (some (.builtin "BaseException.__getattribute__")))
    (ggC15 : PySem.W.findIn K (.ref C15) "__getattr__" = some none)
    (hdC15 : PySem.W.hasDictIn K C15 = true)
    (clC15 : (PySem.W.clsIn K C15).isSome = true)
    (caC15 : PySem.W.findIn K (.ref C15) "__class__" = some (some (.builtin "object.__class__")))
    (mrC15 : PySem.W.mroIn K C15 (.type "object") = some true)
    (n15_at : PySem.W.findIn K (.ref C15) "at" = some none)
    (kTC15 : PySem.W.kitOne K (.ref C15) (.ref TE) = some true)
    (kMC15 : PySem.W.kitOne K (.ref C15) (.ref MI) = some false)
    (kVC15 : PySem.W.kitOne K (.ref C15) (.type "ValueError") = some true)
    (kLC15 : PySem.W.kitAny K (.ref C15) [.type "LookupError", .type "ArithmeticError", .type "TypeError"] = some false)
    (xC16 : K.lookup C16 = some (excClassObj nmC16 qC16 C16 NC16 bsC16 bmC16 true snC16 subC16 abC16 colC16 ddC16 k0C16 k1C16 k2C16 k3C16 k5C16 "ValueError.__new__"))
    (vC16 : PySem.HandSPX.refsVE bmC16 = true)
    (saC16 : PySem.W.findIn K (.ref C16) "__setattr__" = some (some (.builtin "object.__setattr__")))
    (tyC16 : PySem.W.typeIn K (.ref C16) = some (.type "type"))
    (exC16 : PySem.W.subIn K (.ref C16) (.type "BaseException") = some true)
    (kcC16 : PySem.W.keepIn K (.ref C16) = true)
    (gaC16 : PySem.W.findIn K (.ref C16) "__getattribute__" = some (some (.builtin "BaseException.__getattribute__")))
    (ggC16 : PySem.W.findIn K (.ref C16) "__getattr__" = some none)
    (hdC16 : PySem.W.hasDictIn K C16 = true)
    (clC16 : (PySem.W.clsIn K C16).isSome = true)
    (caC16 : PySem.W.findIn K (.ref C16) "__class__" = some (some (.builtin "object.__class__")))
    (mrC16 : PySem.W.mroIn K C16 (.type "object") = some true)
    (n16_place : PySem.W.findIn K (.ref C16) "place" = some none)
    (kTC16 : PySem.W.kitOne K (.ref C16) (.ref TE) = some true)
    (kMC16 : PySem.W.kitOne K (.ref C16) (.ref MI) = some false)
    (kVC16 : PySem.W.kitOne K (.ref C16) (.type "ValueError") = some true)
    (kLC16 : PySem.W.kitAny K (.ref C16) [.type "LookupError", .type "ArithmeticError", .type "TypeError"] = some false)
    (xC17 : K.lookup C17 = some (excClassObj nmC17 qC17 C17 NC17 bsC17 bmC17 true snC17 subC17 abC17 colC17 ddC17 k0C17 k1C17 k2C17 k3C17 k5C17 "ValueError.__new__"))
    (vC17 : PySem.HandSPX.refsVE bmC17 = true)
    (saC17 : PySem.W.findIn K (.ref C17) "__setattr__" = some (some (.builtin "object.__setattr__")))
    (tyC17 : PySem.W.typeIn K (.ref C17) = some (.type "type"))
    (exC17 : PySem.W.subIn K (.ref C17) (.type "BaseException") = some true)
    (kcC17 : PySem.W.keepIn K (.ref C17) = true)
    (gaC17 : PySem.W.findIn K (.ref C17) "__getattribute__" = some (some (.builtin "BaseException.__getattribute__")))
    (ggC17 : PySem.W.findIn K (.ref C17) "__getattr__" = some none)
    (hdC17 : PySem.W.hasDictIn K C17 = true)
    (clC17 : (PySem.W.clsIn K C17).isSome = true)
    (caC17 : PySem.W.findIn K (.ref C17) "__class__" = some (some (.builtin "object.__class__")))
    (mrC17 : PySem.W.mroIn K C17 (.type "object") = some true)
    (n17_place : PySem.W.findIn K (.ref C17) "place" = some none)
    (kTC17 : PySem.W.kitOne K (.ref C17) (.ref TE) = some true)
    (kMC17 : PySem.W.kitOne K (.ref C17) (.ref MI) = some false)
    (kVC17 : PySem.W.kitOne K (.ref C17) (.type "ValueError") = some true)
    (kLC17 : PySem.W.kitAny K (.ref C17) [.type "LookupError", .type "ArithmeticError", .type "TypeError"] = some false)
    (exC18 : PySem.W.subIn K (.ref C18) (.type "BaseException") = some true)
    (kcC18 : PySem.W.keepIn K (.ref C18) = true)
    (gaC18 : PySem.W.findIn K (.ref C18) "__getattribute__" = some (some (.builtin "BaseException.__getattribute__")))
    (ggC18 : PySem.W.findIn K (.ref C18) "__getattr__" = some none)
    (hdC18 : PySem.W.hasDictIn K C18 = true)
    (clC18 : (PySem.W.clsIn K C18).isSome = true)
    (caC18 : PySem.W.findIn K (.ref C18) "__class__" = some (some (.builtin "object.__class__")))
    (mrC18 : PySem.W.mroIn K C18 (.type "object") = some true)
    (kTC18 : PySem.W.kitOne K (.ref C18) (.ref TE) = some true)
    (kMC18 : PySem.W.kitOne K (.ref C18) (.ref MI) = some false)
    (kVC18 : PySem.W.kitOne K (.ref C18) (.type "ValueError") = some true)
    (kLC18 : PySem.W.kitAny K (.ref C18) [.type "LookupError", .type "ArithmeticError", .type "TypeError"] = some false)
    (xC19 : K.lookup C19 = some (excClassObj nmC19 qC19 C19 NC19 bsC19 bmC19 true snC19 subC19 abC19 colC19 ddC19 k0C19 k1C19 k2C19 k3C19 k5C19 "ValueError.__new__"))
    (vC19 : PySem.HandSPX.refsVE bmC19 = true)
    (saC19 : PySem.W.findIn K (.ref C19) "__setattr__" = some (some (.builtin "object.__setattr__")))
    (tyC19 : PySem.W.typeIn K (.ref C19) = some (.type "type"))
    (exC19 : PySem.W.subIn K (.ref C19) (.type "BaseException") = some true)
    (kcC19 : PySem.W.keepIn K (.ref C19) = true)
    (gaC19 : PySem.W.findIn K (.ref C19) "__getattribute__" = some (some (.builtin "BaseException.__getattribute__")))
    (ggC19 : PySem.W.findIn K (.ref C19) "__getattr__" = some none)
    (hdC19 : PySem.W.hasDictIn K C19 = true)
    (clC19 : (PySem.W.clsIn K C19).isSome = true)
    (caC19 : PySem.W.findIn K (.ref C19) "__class__" = some (some (.builtin "object.__class__")))
    (mrC19 : PySem.W.mroIn K C19 (.type "object") = some true)
    (n19_what : PySem.W.findIn K (.ref C19) "what" = some none)
    (n19_most : PySem.W.findIn K (.ref C19) "most" = some none)
    (kTC19 : PySem.W.kitOne K (.ref C19) (.ref TE) = some true)
    (kMC19 : PySem.W.kitOne K (.ref C19) (.ref MI) = some false)
    (kVC19 : PySem.W.kitOne K (.ref C19) (.type "ValueError") = some true)
    (kLC19 : PySem.W.kitAny K (.ref C19) [.type "LookupError", .type "ArithmeticError", .type "TypeError"] = some false)
    (xC20 : K.lookup C20 = some (excClassObj nmC20 qC20 C20 NC20 bsC20 bmC20 true snC20 subC20 abC20 colC20 ddC20 k0C20 k1C20 k2C20 k3C20 k5C20 "ValueError.__new__"))
    (vC20 : PySem.HandSPX.refsVE bmC20 = true)
    (saC20 : PySem.W.findIn K (.ref C20) "__setattr__" = some (some (.builtin "object.__setattr__")))
    (tyC20 : PySem.W.typeIn K (.ref C20) = some (.type "type"))
    (exC20 : PySem.W.subIn K (.ref C20) (.type "BaseException") = some true)
    (kcC20 : PySem.W.keepIn K (.ref C20) = true)
    (gaC20 : PySem.W.findIn K (.ref C20) "__getattribute__" = some (some (.builtin "BaseException.__getattribute__")))
    (ggC20 : PySem.W.findIn K (.ref C20) "__getattr__" = some none)
    (hdC20 : PySem.W.hasDictIn K C20 = true)
    (clC20 : (PySem.W.clsIn K C20).isSome = true)
    (caC20 : PySem.W.findIn K (.ref C20) "__class__" = some (some (.builtin "object.__class__")))
    (mrC20 : PySem.W.mroIn K C20 (.type "object") = some true)
    (n20_line : PySem.W.findIn K (.ref C20) "line" = some none)
    (n20_word : PySem.W.findIn K (.ref C20) "word" = some none)
    (kTC20 : PySem.W.kitOne K (.ref C20) (.ref TE) = some true)
    (kMC20 : PySem.W.kitOne K (.ref C20) (.ref MI) = some false)
    (kVC20 : PySem.W.kitOne K (.ref C20) (.type "ValueError") = some true)
    (kLC20 : PySem.W.kitAny K (.ref C20) [.type "LookupError", .type "ArithmeticError", .type "TypeError"] = some false)
    (xC21 : K.lookup C21 = some (excClassObj nmC21 qC21 C21 NC21 bsC21 bmC21 true snC21 subC21 abC21 colC21 ddC21 k0C21 k1C21 k2C21 k3C21 k5C21 "ValueError.__new__"))
    (vC21 : PySem.HandSPX.refsVE bmC21 = true)
    (saC21 : PySem.W.findIn K (.ref C21) "__setattr__" = some (some (.builtin "object.__setattr__")))
    (tyC21 : PySem.W.typeIn K (.ref C21) = some (.type "type"))
    (exC21 : PySem.W.subIn K (.ref C21) (.type "BaseException") = some true)
    (kcC21 : PySem.W.keepIn K (.ref C21) = true)
    (gaC21 : PySem.W.findIn K (.ref C21) "__getattribute__" = some (some (.builtin "BaseException.__getattribute__")))
    (ggC21 : PySem.W.findIn K (.ref C21) "__getattr__" = some none)
    (hdC21 : PySem.W.hasDictIn K C21 = true)
    (clC21 : (PySem.W.clsIn K C21).isSome = true)
    (caC21 : PySem.W.findIn K (.ref C21) "__class__" = some (some (.builtin "object.__class__")))
    (mrC21 : PySem.W.mroIn K C21 (.type "object") = some true)
    (n21_line : PySem.W.findIn K (.ref C21) "line" = some none)
    (n21_error : PySem.W.findIn K (.ref C21) "error" = some none)
    (kTC21 : PySem.W.kitOne K (.ref C21) (.ref TE) = some true)
    (kMC21 : PySem.W.kitOne K (.ref C21) (.ref MI) = some false)
    (kVC21 : PySem.W.kitOne K (.ref C21) (.type "ValueError") = some true)
    (kLC21 : PySem.W.kitAny K (.ref C21) [.type "LookupError", .type "ArithmeticError", .type "TypeError"] = some false)
    (kk : kkB K [C0, C1, C2, C3, C4, C5, C6, C7, C8, C9, C10, C11, C12, C13, C14, C15, C16, C17, C18, C19, C20, C21] = true)
    (e18 : PySem.W.excIn K C18 [.type "ValueError", .type "Exception", .type "BaseException", .type "object"] "ValueError.__new__" = true)
    (rdTE : PySem.W.readsIn K TE (.type "type") = true)
    (gsTE : PySem.W.specialIn K (.ref TE) "__getattribute__" = some (some (.builtin "type.__getattribute__")))
    (inTE : PySem.W.findCls K (.ref TE) (.type "type") "__init__" = some (.val (.builtin "ValueError.__init__")))
    (rdMI : PySem.W.readsIn K MI (.type "type") = true)
    (gsMI : PySem.W.specialIn K (.ref MI) "__getattribute__" = some (some (.builtin "type.__getattribute__")))
    (inMI : PySem.W.findCls K (.ref MI) (.type "type") "__init__" = some (.val (.builtin "ValueError.__init__")))
    (spO : PySem.W.specialIn K (.builtin "object.__class__") "__get__" = some (some (.builtin "getset_descriptor.__get__")))
    (tkO : PySem.W.takesIn K (.builtin "object.__class__") = some true)
    (pgPA : PySem.W.plainGet K PA Str.empty = true)
    (hdPA : PySem.W.hasDictIn K PA = true)
    (poPA : PySem.W.plainOver K PA = true)
    (saPA : PySem.W.findIn K (.ref PA) "__setattr__" = some (some (.builtin "object.__setattr__")))
    (mkPA : PySem.W.makesIn K PA = true)
    (kcPA : PySem.W.keepIn K (.ref PA) = true)
    (nWPA : PySem.W.findIn K (.ref PA) "word" = some none)
    (nPPA : PySem.W.findIn K (.ref PA) "parts" = some none)
    (caPA : PySem.W.findIn K (.ref PA) "__class__" = some (some (.builtin "object.__class__")))
    (mrPA : PySem.W.mroIn K PA (.type "object") = some true)
    (nePA : PySem.W.findIn K (.ref PA) "__ne__" = some (some (.builtin "object.__ne__")))
    (u0PA : PySem.W.subIn K (.type "NoneType") (.ref PA) = some false)
    (u1PA : PySem.W.subIn K (.type "bool") (.ref PA) = some false)
    (u2PA : PySem.W.subIn K (.type "int") (.ref PA) = some false)
    (u3PA : PySem.W.subIn K (.type "str") (.ref PA) = some false)
    (u4PA : PySem.W.subIn K (.type "list") (.ref PA) = some false)
    (u5PA : PySem.W.subIn K (.type "tuple") (.ref PA) = some false)
    (u6PA : PySem.W.subIn K (.type "dict") (.ref PA) = some false)
    (pgDE : PySem.W.plainGet K DE Str.empty = true)
    (hdDE : PySem.W.hasDictIn K DE = true)
    (poDE : PySem.W.plainOver K DE = true)
    (saDE : PySem.W.findIn K (.ref DE) "__setattr__" = some (some (.builtin "object.__setattr__")))
    (mkDE : PySem.W.makesIn K DE = true)
    (kcDE : PySem.W.keepIn K (.ref DE) = true)
    (nWDE : PySem.W.findIn K (.ref DE) "word" = some none)
    (nPDE : PySem.W.findIn K (.ref DE) "parts" = some none)
    (caDE : PySem.W.findIn K (.ref DE) "__class__" = some (some (.builtin "object.__class__")))
    (mrDE : PySem.W.mroIn K DE (.type "object") = some true)
    (neDE : PySem.W.findIn K (.ref DE) "__ne__" = some (some (.builtin "object.__ne__")))
    (u0DE : PySem.W.subIn K (.type "NoneType") (.ref DE) = some false)
    (u1DE : PySem.W.subIn K (.type "bool") (.ref DE) = some false)
    (u2DE : PySem.W.subIn K (.type "int") (.ref DE) = some false)
    (u3DE : PySem.W.subIn K (.type "str") (.ref DE) = some false)
    (u4DE : PySem.W.subIn K (.type "list") (.ref DE) = some false)
    (u5DE : PySem.W.subIn K (.type "tuple") (.ref DE) = some false)
    (u6DE : PySem.W.subIn K (.type "dict") (.ref DE) = some false)
    (s0PA : PySem.W.kitOne K (.type "NoneType") (.ref PA) = some false)
    (s1PA : PySem.W.kitOne K (.type "bool") (.ref PA) = some false)
    (s2PA : PySem.W.kitOne K (.type "int") (.ref PA) = some false)
    (s3PA : PySem.W.kitOne K (.type "str") (.ref PA) = some false)
    (s4PA : PySem.W.kitOne K (.type "list") (.ref PA) = some false)
    (s5PA : PySem.W.kitOne K (.type "tuple") (.ref PA) = some false)
    (s6PA : PySem.W.kitOne K (.type "dict") (.ref PA) = some false)
    (rdPA : PySem.W.readsIn K PA (.type "type") = true)
    (gsPA : PySem.W.specialIn K (.ref PA) "__getattribute__" = some (some (.builtin "type.__getattribute__")))
    (inPA : PySem.W.findCls K (.ref PA) (.type "type") "__init__" = some (.val (.ref fPi)))
    (kPP : PySem.W.kitOne K (.ref PA) (.ref PA) = some true)
    (kDP : PySem.W.kitOne K (.ref DE) (.ref PA) = some true)
    (kPD : PySem.W.kitOne K (.ref PA) (.ref DE) = some false)
    (kDD : PySem.W.kitOne K (.ref DE) (.ref DE) = some true)
    (nPD : PA ≠ DE)
    (sDP : PySem.W.subIn K (.ref DE) (.ref PA) = some true)
    (sPD : PySem.W.subIn K (.ref PA) (.ref DE) = some false)
    (z_isinstance : PySem.W.nsIn K mainGlobals "isinstance" = some none)
    (z_int : PySem.W.nsIn K mainGlobals "int" = some none)
    (z_bool : PySem.W.nsIn K mainGlobals "bool" = some none)
    (z_str : PySem.W.nsIn K mainGlobals "str" = some none)
    (z_len : PySem.W.nsIn K mainGlobals "len" = some none)
    (z_list : PySem.W.nsIn K mainGlobals "list" = some none)
    (z_dict : PySem.W.nsIn K mainGlobals "dict" = some none)
    (z_tuple : PySem.W.nsIn K mainGlobals "tuple" = some none)
    (z_abs : PySem.W.nsIn K mainGlobals "abs" = some none)
    (z_range : PySem.W.nsIn K mainGlobals "range" = some none)
    (z_repr : PySem.W.nsIn K mainGlobals "repr" = some none)
    (z_sorted : PySem.W.nsIn K mainGlobals "sorted" = some none)
    (z_ValueError : PySem.W.nsIn K mainGlobals "ValueError" = some none)
    (z_LookupError : PySem.W.nsIn K mainGlobals "LookupError" = some none)
    (z_ArithmeticError : PySem.W.nsIn K mainGlobals "ArithmeticError" = some none)
    (z_TypeError : PySem.W.nsIn K mainGlobals "TypeError" = some none)
    (cS : PySem.W.nsIn K mainGlobals "SHOWN" = some (some (.int 1000000000000 tS))) : MyAM.LawAtM l w K L2.CX0 18 63 "_law_script" mg fa h := by
  obtain ⟨fd, hb, hF⟩ := @all_mk l.prog w K h mg fa X G hfa TE MI PA DE fFx fAk fSh fP fD fG fBp fBn fKi fFl fNm fIr fVa fSp fPp fFr fPr fLa fE0 fE1 fE2 fE3 fE4 fE5 fE6 fE7 fE8 fE9 fE10 fE11 fE12 fE13 fE14 fE15 fE16 fE17 fE19 fE20 fE21 fPe fDe fPb fDb fPi fDi C0 C1 C2 C3 C4 C5 C6 C7 C8 C9 C10 C11 C12 C13 C14 C15 C16 C17 C18 C19 C20 C21 ocFx kVFx dcFx pmFx ctFx cdFx ocAk kVAk dcAk pmAk ctAk cdAk ocSh kVSh dcSh pmSh ctSh cdSh ocP kVP dcP pmP ctP cdP ocD kVD dcD pmD ctD cdD ocG kVG dcG pmG ctG cdG ocBp kVBp dcBp pmBp ctBp cdBp ocBn kVBn dcBn pmBn ctBn cdBn ocKi kVKi dcKi pmKi ctKi cdKi ocFl kVFl dcFl pmFl ctFl cdFl ocNm kVNm dcNm pmNm ctNm cdNm ocIr kVIr dcIr pmIr ctIr cdIr ocVa kVVa dcVa pmVa ctVa cdVa ocSp kVSp dcSp pmSp ctSp cdSp ocPp kVPp dcPp pmPp ctPp cdPp ocFr kVFr dcFr pmFr ctFr cdFr ocPr kVPr dcPr pmPr ctPr cdPr ocLa kVLa dcLa pmLa ctLa cdLa ocE0 kVE0 dcE0 pmE0 ctE0 cdE0 ocE1 kVE1 dcE1 pmE1 ctE1 cdE1 ocE2 kVE2 dcE2 pmE2 ctE2 cdE2 ocE3 kVE3 dcE3 pmE3 ctE3 cdE3 ocE4 kVE4 dcE4 pmE4 ctE4 cdE4 ocE5 kVE5 dcE5 pmE5 ctE5 cdE5 ocE6 kVE6 dcE6 pmE6 ctE6 cdE6 ocE7 kVE7 dcE7 pmE7 ctE7 cdE7 ocE8 kVE8 dcE8 pmE8 ctE8 cdE8 ocE9 kVE9 dcE9 pmE9 ctE9 cdE9 ocE10 kVE10 dcE10 pmE10 ctE10 cdE10 ocE11 kVE11 dcE11 pmE11 ctE11 cdE11 ocE12 kVE12 dcE12 pmE12 ctE12 cdE12 ocE13 kVE13 dcE13 pmE13 ctE13 cdE13 ocE14 kVE14 dcE14 pmE14 ctE14 cdE14 ocE15 kVE15 dcE15 pmE15 ctE15 cdE15 ocE16 kVE16 dcE16 pmE16 ctE16 cdE16 ocE17 kVE17 dcE17 pmE17 ctE17 cdE17 ocE19 kVE19 dcE19 pmE19 ctE19 cdE19 ocE20 kVE20 dcE20 pmE20 ctE20 cdE20 ocE21 kVE21 dcE21 pmE21 ctE21 cdE21 ocPe kVPe dcPe pmPe ctPe cdPe ocDe kVDe dcDe pmDe ctDe cdDe ocPb kVPb dcPb pmPb ctPb cdPb ocDb kVDb dcDb pmDb ctDb cdDb ocPi kVPi dcPi pmPi ctPi cdPi ocDi kVDi dcDi pmDi ctDi cdDi odFx anFx odAk anAk odSh anSh odP anP odD anD odG anG odBp anBp odBn anBn odKi anKi odFl anFl odNm anNm odIr anIr odVa anVa odSp anSp odPp anPp odFr anFr odPr anPr odLa anLa odE0 anE0 odE1 anE1 odE2 anE2 odE3 anE3 odE4 anE4 odE5 anE5 odE6 anE6 odE7 anE7 odE8 anE8 odE9 anE9 odE10 anE10 odE11 anE11 odE12 anE12 odE13 anE13 odE14 anE14 odE15 anE15 odE16 anE16 odE17 anE17 odE19 anE19 odE20 anE20 odE21 anE21 odPe anPe odDe anDe odPb anPb odDb anDb odPi anPi odDi anDi slFx slAk slSh slP slD slG slBp slBn slKi slFl slNm slIr slVa slSp slPp slFr slPr slLa slE0 slE1 slE2 slE3 slE4 slE5 slE6 slE7 slE8 slE9 slE10 slE11 slE12 slE13 slE14 slE15 slE16 slE17 slE19 slE20 slE21 slPe slDe slPb slDb slPi slDi tS nmC0 qC0 NC0 bsC0 bmC0 subC0 snC0 abC0 colC0 ddC0 k0C0 k1C0 k2C0 k3C0 k5C0 nmC1 qC1 NC1 bsC1 bmC1 subC1 snC1 abC1 colC1 ddC1 k0C1 k1C1 k2C1 k3C1 k5C1 nmC2 qC2 NC2 bsC2 bmC2 subC2 snC2 abC2 colC2 ddC2 k0C2 k1C2 k2C2 k3C2 k5C2 nmC3 qC3 NC3 bsC3 bmC3 subC3 snC3 abC3 colC3 ddC3 k0C3 k1C3 k2C3 k3C3 k5C3 nmC4 qC4 NC4 bsC4 bmC4 subC4 snC4 abC4 colC4 ddC4 k0C4 k1C4 k2C4 k3C4 k5C4 nmC5 qC5 NC5 bsC5 bmC5 subC5 snC5 abC5 colC5 ddC5 k0C5 k1C5 k2C5 k3C5 k5C5 nmC6 qC6 NC6 bsC6 bmC6 subC6 snC6 abC6 colC6 ddC6 k0C6 k1C6 k2C6 k3C6 k5C6 nmC7 qC7 NC7 bsC7 bmC7 subC7 snC7 abC7 colC7 ddC7 k0C7 k1C7 k2C7 k3C7 k5C7 nmC8 qC8 NC8 bsC8 bmC8 subC8 snC8 abC8 colC8 ddC8 k0C8 k1C8 k2C8 k3C8 k5C8 nmC9 qC9 NC9 bsC9 bmC9 subC9 snC9 abC9 colC9 ddC9 k0C9 k1C9 k2C9 k3C9 k5C9 nmC10 qC10 NC10 bsC10 bmC10 subC10 snC10 abC10 colC10 ddC10 k0C10 k1C10 k2C10 k3C10 k5C10 nmC11 qC11 NC11 bsC11 bmC11 subC11 snC11 abC11 colC11 ddC11 k0C11 k1C11 k2C11 k3C11 k5C11 nmC12 qC12 NC12 bsC12 bmC12 subC12 snC12 abC12 colC12 ddC12 k0C12 k1C12 k2C12 k3C12 k5C12 nmC13 qC13 NC13 bsC13 bmC13 subC13 snC13 abC13 colC13 ddC13 k0C13 k1C13 k2C13 k3C13 k5C13 nmC14 qC14 NC14 bsC14 bmC14 subC14 snC14 abC14 colC14 ddC14 k0C14 k1C14 k2C14 k3C14 k5C14 nmC15 qC15 NC15 bsC15 bmC15 subC15 snC15 abC15 colC15 ddC15 k0C15 k1C15 k2C15 k3C15 k5C15 nmC16 qC16 NC16 bsC16 bmC16 subC16 snC16 abC16 colC16 ddC16 k0C16 k1C16 k2C16 k3C16 k5C16 nmC17 qC17 NC17 bsC17 bmC17 subC17 snC17 abC17 colC17 ddC17 k0C17 k1C17 k2C17 k3C17 k5C17 nmC19 qC19 NC19 bsC19 bmC19 subC19 snC19 abC19 colC19 ddC19 k0C19 k1C19 k2C19 k3C19 k5C19 nmC20 qC20 NC20 bsC20 bmC20 subC20 snC20 abC20 colC20 ddC20 k0C20 k1C20 k2C20 k3C20 k5C20 nmC21 qC21 NC21 bsC21 bmC21 subC21 snC21 abC21 colC21 ddC21 k0C21 k1C21 k2C21 k3C21 k5C21 aTE aMI aPA aDE aC0 aC1 aC2 aC3 aC4 aC5 aC6 aC7 aC8 aC9 aC10 aC11 aC12 aC13 aC14 aC15 aC16 aC17 aC18 aC19 aC20 aC21 aFx lFx c_Fx kFx aAk lAk c_Ak kAk aSh lSh c_Sh kSh aP lP c_P kP aD lD c_D kD aG lG c_G kG aBp lBp c_Bp kBp aBn lBn c_Bn kBn aKi lKi c_Ki kKi aFl lFl c_Fl kFl aNm lNm c_Nm kNm aIr lIr c_Ir kIr aVa lVa c_Va kVa aSp lSp c_Sp kSp aPp lPp c_Pp kPp aFr lFr c_Fr kFr aPr lPr c_Pr kPr aLa lLa c_La kLa aE0 tE0 lE0 c_E0 kE0 aE1 tE1 lE1 c_E1 kE1 aE2 tE2 lE2 c_E2 kE2 aE3 tE3 lE3 c_E3 kE3 aE4 tE4 lE4 c_E4 kE4 aE5 tE5 lE5 c_E5 kE5 aE6 tE6 lE6 c_E6 kE6 aE7 tE7 lE7 c_E7 kE7 aE8 tE8 lE8 c_E8 kE8 aE9 tE9 lE9 c_E9 kE9 aE10 tE10 lE10 c_E10 kE10 aE11 tE11 lE11 c_E11 kE11 aE12 tE12 lE12 c_E12 kE12 aE13 tE13 lE13 c_E13 kE13 aE14 tE14 lE14 c_E14 kE14 aE15 tE15 lE15 c_E15 kE15 aE16 tE16 lE16 c_E16 kE16 aE17 tE17 lE17 c_E17 kE17 aE19 tE19 lE19 c_E19 kE19 aE20 tE20 lE20 c_E20 kE20 aE21 tE21 lE21 c_E21 kE21 aPe iPe lPe c_Pe kPe aDe iDe lDe c_De kDe aPb iPb lPb c_Pb kPb aDb iDb lDb c_Db kDb aPi iPi lPi c_Pi kPi aDi iDi lDi c_Di kDi xC0 vC0 saC0 tyC0 exC0 kcC0 gaC0 ggC0 hdC0 clC0 caC0 mrC0 n0_part kTC0 kMC0 kVC0 kLC0 xC1 vC1 saC1 tyC1 exC1 kcC1 gaC1 ggC1 hdC1 clC1 caC1 mrC1 n1_part kTC1 kMC1 kVC1 kLC1 xC2 vC2 saC2 tyC2 exC2 kcC2 gaC2 ggC2 hdC2 clC2 caC2 mrC2 n2_part kTC2 kMC2 kVC2 kLC2 xC3 vC3 saC3 tyC3 exC3 kcC3 gaC3 ggC3 hdC3 clC3 caC3 mrC3 n3_part kTC3 kMC3 kVC3 kLC3 xC4 vC4 saC4 tyC4 exC4 kcC4 gaC4 ggC4 hdC4 clC4 caC4 mrC4 n4_part kTC4 kMC4 kVC4 kLC4 xC5 vC5 saC5 tyC5 exC5 kcC5 gaC5 ggC5 hdC5 clC5 caC5 mrC5 n5_part kTC5 kMC5 kVC5 kLC5 xC6 vC6 saC6 tyC6 exC6 kcC6 gaC6 ggC6 hdC6 clC6 caC6 mrC6 n6_part kTC6 kMC6 kVC6 kLC6 xC7 vC7 saC7 tyC7 exC7 kcC7 gaC7 ggC7 hdC7 clC7 caC7 mrC7 n7_part kTC7 kMC7 kVC7 kLC7 xC8 vC8 saC8 tyC8 exC8 kcC8 gaC8 ggC8 hdC8 clC8 caC8 mrC8 n8_part kTC8 kMC8 kVC8 kLC8 xC9 vC9 saC9 tyC9 exC9 kcC9 gaC9 ggC9 hdC9 clC9 caC9 mrC9 n9_part kTC9 kMC9 kVC9 kLC9 xC10 vC10 saC10 tyC10 exC10 kcC10 gaC10 ggC10 hdC10 clC10 caC10 mrC10 n10_axis kTC10 kMC10 kVC10 kLC10 xC11 vC11 saC11 tyC11 exC11 kcC11 gaC11 ggC11 hdC11 clC11 caC11 mrC11 n11_name kTC11 kMC11 kVC11 kLC11 xC12 vC12 saC12 tyC12 exC12 kcC12 gaC12 ggC12 hdC12 clC12 caC12 mrC12 n12_place kTC12 kMC12 kVC12 kLC12 xC13 vC13 saC13 tyC13 exC13 kcC13 gaC13 ggC13 hdC13 clC13 caC13 mrC13 n13_place n13_words kTC13 kMC13 kVC13 kLC13 xC14 vC14 saC14 tyC14 exC14 kcC14 gaC14 ggC14 hdC14 clC14 caC14 mrC14 n14_at kTC14 kMC14 kVC14 kLC14 xC15 vC15 saC15 tyC15 exC15 kcC15 gaC15 ggC15 hdC15 clC15 caC15 mrC15 n15_at kTC15 kMC15 kVC15 kLC15 xC16 vC16 saC16 tyC16 exC16 kcC16 gaC16 ggC16 hdC16 clC16 caC16 mrC16 n16_place kTC16 kMC16 kVC16 kLC16 xC17 vC17 saC17 tyC17 exC17 kcC17 gaC17 ggC17 hdC17 clC17 caC17 mrC17 n17_place kTC17 kMC17 kVC17 kLC17 exC18 kcC18 gaC18 ggC18 hdC18 clC18 caC18 mrC18 kTC18 kMC18 kVC18 kLC18 xC19 vC19 saC19 tyC19 exC19 kcC19 gaC19 ggC19 hdC19 clC19 caC19 mrC19 n19_what n19_most kTC19 kMC19 kVC19 kLC19 xC20 vC20 saC20 tyC20 exC20 kcC20 gaC20 ggC20 hdC20 clC20 caC20 mrC20 n20_line n20_word kTC20 kMC20 kVC20 kLC20 xC21 vC21 saC21 tyC21 exC21 kcC21 gaC21 ggC21 hdC21 clC21 caC21 mrC21 n21_line n21_error kTC21 kMC21 kVC21 kLC21 kk e18 rdTE gsTE inTE rdMI gsMI inMI spO tkO pgPA hdPA poPA saPA mkPA kcPA nWPA nPPA caPA mrPA nePA u0PA u1PA u2PA u3PA u4PA u5PA u6PA pgDE hdDE poDE saDE mkDE kcDE nWDE nPDE caDE mrDE neDE u0DE u1DE u2DE u3DE u4DE u5DE u6DE s0PA s1PA s2PA s3PA s4PA s5PA s6PA rdPA gsPA inPA kPP kDP kPD kDD nPD sDP sPD z_isinstance z_int z_bool z_str z_len z_list z_dict z_tuple z_abs z_range z_repr z_sorted z_ValueError z_LookupError z_ArithmeticError z_TypeError cS
  exact ⟨fd, [], spLaw K, fun p hp => absurd hp List.not_mem_nil, fun p hp => absurd hp List.not_mem_nil, fun p hp => absurd hp List.not_mem_nil, hb, fun H a ns hl _ hs => ⟨a, ns, rfl, hs, hl, fun _ => rfl⟩, fun base b1 b2 _ => hF base b1 b2⟩
end K00
set_option Elab.async false
set_option linter.all false
set_option maxRecDepth 100000
set_option maxHeartbeats 2000000
namespace K00H
open PySem PySem.W PySem.Calls PyProof.Rows
abbrev R : OpenRow := OpenLaw.row PySem.Challenge.rw_takenup_k00_errors_and_papers
abbrev qv : Program := view R.prog [47]
def names0 : List PySem.Str := ["__name__", "fixed", "ascending_keys", "Paper", "Denial", "SHOWN", "shown", "ToolError", "BadMachine", "BadWords", "BadBlock", "BadProgram"]
def names1 : List PySem.Str := ["BadSum", "BadMap", "BadStand", "BadTarget", "BadPaper", "BadControl", "Missing", "NoAxis", "NoRegister", "NoPlace", "NoNode", "BadRun"]
def names2 : List PySem.Str := ["BadPreamble", "Stopped", "Running", "Nothing", "TooMany", "BadText", "BadLine", "_law_pen", "_law_draw", "_law_pick", "_law_by_place", "_law_by_name"]
def names3 : List PySem.Str := ["_law_kinds", "_law_fields", "_law_names", "_law_is_right", "_law_value", "_law_spoil", "_law_paper", "_law_fixed_right", "_law_papers_right"]
def names : List PySem.Str := names0 ++ names1 ++ names2 ++ names3
end K00H
set_option Elab.async false
open PySem PySem.W PyProof.Rows
local macro_rules
  | `(tactic| o_head ($f:term $K $as $e)) => `(tactic| refine HandSHeadRun.head_any (r := K00H.R) (q := K00H.qv) (H := $f $K $as $e) (ob := MyHk.kOb $as) (M := 12000) (loose := K00H.names) (kwd := []) (fun s => MyHk.kOb_eq _ _ _ s) (by kernel_rfl) (fun s => by kernel_rfl) (fun w os => by kernel_rfl) (by rfl) (by rfl) (by rfl) (by rfl) (by first | assumption | decide +kernel) (by decide +kernel) ⟨rfl, rfl, rfl, rfl, rfl, by decide +kernel⟩ ?hw ?hc)
set_option maxRecDepth 100000 in
set_option maxHeartbeats 0 in
theorem PySem.Challenge.cw_takenup_k00_errors_and_papers_holds : PySem.Challenge.rw_takenup_k00_errors_and_papers.Holds := by
  w_on; o_law; k_head; (case hw => w_witness2)
  k_fill
  refine MyAM.walk_ofM (n := 63) (k := 18) (x := "_law_script") (CX := fun _ => L2.CX0) (by decide +kernel) rfl (by decide) rfl ⟨rfl, by decide, by decide⟩ (fun w h Y => PySem.W.kIn_of Y) ?F (fun _ _ _ _ _ z => z)
  case F =>
    intro w mg fa h Y KX G hmg
    refine' K00.law_at KX G hmg ?g_aTE ?g_aMI ?g_aPA ?g_aDE ?g_aC0 ?g_aC1 ?g_aC2 ?g_aC3 ?g_aC4 ?g_aC5 ?g_aC6 ?g_aC7 ?g_aC8 ?g_aC9 ?g_aC10 ?g_aC11 ?g_aC12 ?g_aC13 ?g_aC14 ?g_aC15 ?g_aC16 ?g_aC17 ?g_aC18 ?g_aC19 ?g_aC20 ?g_aC21 ?g_aFx ?g_lFx ?g_c_Fx ?g_kFx ?g_aAk ?g_lAk ?g_c_Ak ?g_kAk ?g_aSh ?g_lSh ?g_c_Sh ?g_kSh ?g_aP ?g_lP ?g_c_P ?g_kP ?g_aD ?g_lD ?g_c_D ?g_kD ?g_aG ?g_lG ?g_c_G ?g_kG ?g_aBp ?g_lBp ?g_c_Bp ?g_kBp ?g_aBn ?g_lBn ?g_c_Bn ?g_kBn ?g_aKi ?g_lKi ?g_c_Ki ?g_kKi ?g_aFl ?g_lFl ?g_c_Fl ?g_kFl ?g_aNm ?g_lNm ?g_c_Nm ?g_kNm ?g_aIr ?g_lIr ?g_c_Ir ?g_kIr ?g_aVa ?g_lVa ?g_c_Va ?g_kVa ?g_aSp ?g_lSp ?g_c_Sp ?g_kSp ?g_aPp ?g_lPp ?g_c_Pp ?g_kPp ?g_aFr ?g_lFr ?g_c_Fr ?g_kFr ?g_aPr ?g_lPr ?g_c_Pr ?g_kPr ?g_aLa ?g_lLa ?g_c_La ?g_kLa ?g_aE0 ?g_tE0 ?g_lE0 ?g_c_E0 ?g_kE0 ?g_aE1 ?g_tE1 ?g_lE1 ?g_c_E1 ?g_kE1 ?g_aE2 ?g_tE2 ?g_lE2 ?g_c_E2 ?g_kE2 ?g_aE3 ?g_tE3 ?g_lE3 ?g_c_E3 ?g_kE3 ?g_aE4 ?g_tE4 ?g_lE4 ?g_c_E4 ?g_kE4 ?g_aE5 ?g_tE5 ?g_lE5 ?g_c_E5 ?g_kE5 ?g_aE6 ?g_tE6 ?g_lE6 ?g_c_E6 ?g_kE6 ?g_aE7 ?g_tE7 ?g_lE7 ?g_c_E7 ?g_kE7 ?g_aE8 ?g_tE8 ?g_lE8 ?g_c_E8 ?g_kE8 ?g_aE9 ?g_tE9 ?g_lE9 ?g_c_E9 ?g_kE9 ?g_aE10 ?g_tE10 ?g_lE10 ?g_c_E10 ?g_kE10 ?g_aE11 ?g_tE11 ?g_lE11 ?g_c_E11 ?g_kE11 ?g_aE12 ?g_tE12 ?g_lE12 ?g_c_E12 ?g_kE12 ?g_aE13 ?g_tE13 ?g_lE13 ?g_c_E13 ?g_kE13 ?g_aE14 ?g_tE14 ?g_lE14 ?g_c_E14 ?g_kE14 ?g_aE15 ?g_tE15 ?g_lE15 ?g_c_E15 ?g_kE15 ?g_aE16 ?g_tE16 ?g_lE16 ?g_c_E16 ?g_kE16 ?g_aE17 ?g_tE17 ?g_lE17 ?g_c_E17 ?g_kE17 ?g_aE19 ?g_tE19 ?g_lE19 ?g_c_E19 ?g_kE19 ?g_aE20 ?g_tE20 ?g_lE20 ?g_c_E20 ?g_kE20 ?g_aE21 ?g_tE21 ?g_lE21 ?g_c_E21 ?g_kE21 ?g_aPe ?g_iPe ?g_lPe ?g_c_Pe ?g_kPe ?g_aDe ?g_iDe ?g_lDe ?g_c_De ?g_kDe ?g_aPb ?g_iPb ?g_lPb ?g_c_Pb ?g_kPb ?g_aDb ?g_iDb ?g_lDb ?g_c_Db ?g_kDb ?g_aPi ?g_iPi ?g_lPi ?g_c_Pi ?g_kPi ?g_aDi ?g_iDi ?g_lDi ?g_c_Di ?g_kDi ?g_xC0 ?g_vC0 ?g_saC0 ?g_tyC0 ?g_exC0 ?g_kcC0 ?g_gaC0 ?g_ggC0 ?g_hdC0 ?g_clC0 ?g_caC0 ?g_mrC0 ?g_n0_part ?g_kTC0 ?g_kMC0 ?g_kVC0 ?g_kLC0 ?g_xC1 ?g_vC1 ?g_saC1 ?g_tyC1 ?g_exC1 ?g_kcC1 ?g_gaC1 ?g_ggC1 ?g_hdC1 ?g_clC1 ?g_caC1 ?g_mrC1 ?g_n1_part ?g_kTC1 ?g_kMC1 ?g_kVC1 ?g_kLC1 ?g_xC2 ?g_vC2 ?g_saC2 ?g_tyC2 ?g_exC2 ?g_kcC2 ?g_gaC2 ?g_ggC2 ?g_hdC2 ?g_clC2 ?g_caC2 ?g_mrC2 ?g_n2_part ?g_kTC2 ?g_kMC2 ?g_kVC2 ?g_kLC2 ?g_xC3 ?g_vC3 ?g_saC3 ?g_tyC3 ?g_exC3 ?g_kcC3 ?g_gaC3 ?g_ggC3 ?g_hdC3 ?g_clC3 ?g_caC3 ?g_mrC3 ?g_n3_part ?g_kTC3 ?g_kMC3 ?g_kVC3 ?g_kLC3 ?g_xC4 ?g_vC4 ?g_saC4 ?g_tyC4 ?g_exC4 ?g_kcC4 ?g_gaC4 ?g_ggC4 ?g_hdC4 ?g_clC4 ?g_caC4 ?g_mrC4 ?g_n4_part ?g_kTC4 ?g_kMC4 ?g_kVC4 ?g_kLC4 ?g_xC5 ?g_vC5 ?g_saC5 ?g_tyC5 ?g_exC5 ?g_kcC5 ?g_gaC5 ?g_ggC5 ?g_hdC5 ?g_clC5 ?g_caC5 ?g_mrC5 ?g_n5_part ?g_kTC5 ?g_kMC5 ?g_kVC5 ?g_kLC5 ?g_xC6 ?g_vC6 ?g_saC6 ?g_tyC6 ?g_exC6 ?g_kcC6 ?g_gaC6 ?g_ggC6 ?g_hdC6 ?g_clC6 ?g_caC6 ?g_mrC6 ?g_n6_part ?g_kTC6 ?g_kMC6 ?g_kVC6 ?g_kLC6 ?g_xC7 ?g_vC7 ?g_saC7 ?g_tyC7 ?g_exC7 ?g_kcC7 ?g_gaC7 ?g_ggC7 ?g_hdC7 ?g_clC7 ?g_caC7 ?g_mrC7 ?g_n7_part ?g_kTC7 ?g_kMC7 ?g_kVC7 ?g_kLC7 ?g_xC8 ?g_vC8 ?g_saC8 ?g_tyC8 ?g_exC8 ?g_kcC8 ?g_gaC8 ?g_ggC8 ?g_hdC8 ?g_clC8 ?g_caC8 ?g_mrC8 ?g_n8_part ?g_kTC8 ?g_kMC8 ?g_kVC8 ?g_kLC8 ?g_xC9 ?g_vC9 ?g_saC9 ?g_tyC9 ?g_exC9 ?g_kcC9 ?g_gaC9 ?g_ggC9 ?g_hdC9 ?g_clC9 ?g_caC9 ?g_mrC9 ?g_n9_part ?g_kTC9 ?g_kMC9 ?g_kVC9 ?g_kLC9 ?g_xC10 ?g_vC10 ?g_saC10 ?g_tyC10 ?g_exC10 ?g_kcC10 ?g_gaC10 ?g_ggC10 ?g_hdC10 ?g_clC10 ?g_caC10 ?g_mrC10 ?g_n10_axis ?g_kTC10 ?g_kMC10 ?g_kVC10 ?g_kLC10 ?g_xC11 ?g_vC11 ?g_saC11 ?g_tyC11 ?g_exC11 ?g_kcC11 ?g_gaC11 ?g_ggC11 ?g_hdC11 ?g_clC11 ?g_caC11 ?g_mrC11 ?g_n11_name ?g_kTC11 ?g_kMC11 ?g_kVC11 ?g_kLC11 ?g_xC12 ?g_vC12 ?g_saC12 ?g_tyC12 ?g_exC12 ?g_kcC12 ?g_gaC12 ?g_ggC12 ?g_hdC12 ?g_clC12 ?g_caC12 ?g_mrC12 ?g_n12_place ?g_kTC12 ?g_kMC12 ?g_kVC12 ?g_kLC12 ?g_xC13 ?g_vC13 ?g_saC13 ?g_tyC13 ?g_exC13 ?g_kcC13 ?g_gaC13 ?g_ggC13 ?g_hdC13 ?g_clC13 ?g_caC13 ?g_mrC13 ?g_n13_place ?g_n13_words ?g_kTC13 ?g_kMC13 ?g_kVC13 ?g_kLC13 ?g_xC14 ?g_vC14 ?g_saC14 ?g_tyC14 ?g_exC14 ?g_kcC14 ?g_gaC14 ?g_ggC14 ?g_hdC14 ?g_clC14 ?g_caC14 ?g_mrC14 ?g_n14_at ?g_kTC14 ?g_kMC14 ?g_kVC14 ?g_kLC14 ?g_xC15 ?g_vC15 ?g_saC15 ?g_tyC15 ?g_exC15 ?g_kcC15 ?g_gaC15 ?g_ggC15 ?g_hdC15 ?g_clC15 ?g_caC15 ?g_mrC15 ?g_n15_at ?g_kTC15 ?g_kMC15 ?g_kVC15 ?g_kLC15 ?g_xC16 ?g_vC16 ?g_saC16 ?g_tyC16 ?g_exC16 ?g_kcC16 ?g_gaC16 ?g_ggC16 ?g_hdC16 ?g_clC16 ?g_caC16 ?g_mrC16 ?g_n16_place ?g_kTC16 ?g_kMC16 ?g_kVC16 ?g_kLC16 ?g_xC17 ?g_vC17 ?g_saC17 ?g_tyC17 ?g_exC17 ?g_kcC17 ?g_gaC17 ?g_ggC17 ?g_hdC17 ?g_clC17 ?g_caC17 ?g_mrC17 ?g_n17_place ?g_kTC17 ?g_kMC17 ?g_kVC17 ?g_kLC17 ?g_exC18 ?g_kcC18 ?g_gaC18 ?g_ggC18 ?g_hdC18 ?g_clC18 ?g_caC18 ?g_mrC18 ?g_kTC18 ?g_kMC18 ?g_kVC18 ?g_kLC18 ?g_xC19 ?g_vC19 ?g_saC19 ?g_tyC19 ?g_exC19 ?g_kcC19 ?g_gaC19 ?g_ggC19 ?g_hdC19 ?g_clC19 ?g_caC19 ?g_mrC19 ?g_n19_what ?g_n19_most ?g_kTC19 ?g_kMC19 ?g_kVC19 ?g_kLC19 ?g_xC20 ?g_vC20 ?g_saC20 ?g_tyC20 ?g_exC20 ?g_kcC20 ?g_gaC20 ?g_ggC20 ?g_hdC20 ?g_clC20 ?g_caC20 ?g_mrC20 ?g_n20_line ?g_n20_word ?g_kTC20 ?g_kMC20 ?g_kVC20 ?g_kLC20 ?g_xC21 ?g_vC21 ?g_saC21 ?g_tyC21 ?g_exC21 ?g_kcC21 ?g_gaC21 ?g_ggC21 ?g_hdC21 ?g_clC21 ?g_caC21 ?g_mrC21 ?g_n21_line ?g_n21_error ?g_kTC21 ?g_kMC21 ?g_kVC21 ?g_kLC21 ?g_kk ?g_e18 ?g_rdTE ?g_gsTE ?g_inTE ?g_rdMI ?g_gsMI ?g_inMI ?g_spO ?g_tkO ?g_pgPA ?g_hdPA ?g_poPA ?g_saPA ?g_mkPA ?g_kcPA ?g_nWPA ?g_nPPA ?g_caPA ?g_mrPA ?g_nePA ?g_u0PA ?g_u1PA ?g_u2PA ?g_u3PA ?g_u4PA ?g_u5PA ?g_u6PA ?g_pgDE ?g_hdDE ?g_poDE ?g_saDE ?g_mkDE ?g_kcDE ?g_nWDE ?g_nPDE ?g_caDE ?g_mrDE ?g_neDE ?g_u0DE ?g_u1DE ?g_u2DE ?g_u3DE ?g_u4DE ?g_u5DE ?g_u6DE ?g_s0PA ?g_s1PA ?g_s2PA ?g_s3PA ?g_s4PA ?g_s5PA ?g_s6PA ?g_rdPA ?g_gsPA ?g_inPA ?g_kPP ?g_kDP ?g_kPD ?g_kDD ?g_nPD ?g_sDP ?g_sPD ?g_z_isinstance ?g_z_int ?g_z_bool ?g_z_str ?g_z_len ?g_z_list ?g_z_dict ?g_z_tuple ?g_z_abs ?g_z_range ?g_z_repr ?g_z_sorted ?g_z_ValueError ?g_z_LookupError ?g_z_ArithmeticError ?g_z_TypeError ?g_cS
    case g_aTE => first | k_is | kernel_rfl | rfl
    case g_aMI => first | k_is | kernel_rfl | rfl
    case g_aPA => first | k_is | kernel_rfl | rfl
    case g_aDE => first | k_is | kernel_rfl | rfl
    case g_aC0 => first | k_is | kernel_rfl | rfl
    case g_aC1 => first | k_is | kernel_rfl | rfl
    case g_aC2 => first | k_is | kernel_rfl | rfl
    case g_aC3 => first | k_is | kernel_rfl | rfl
    case g_aC4 => first | k_is | kernel_rfl | rfl
    case g_aC5 => first | k_is | kernel_rfl | rfl
    case g_aC6 => first | k_is | kernel_rfl | rfl
    case g_aC7 => first | k_is | kernel_rfl | rfl
    case g_aC8 => first | k_is | kernel_rfl | rfl
    case g_aC9 => first | k_is | kernel_rfl | rfl
    case g_aC10 => first | k_is | kernel_rfl | rfl
    case g_aC11 => first | k_is | kernel_rfl | rfl
    case g_aC12 => first | k_is | kernel_rfl | rfl
    case g_aC13 => first | k_is | kernel_rfl | rfl
    case g_aC14 => first | k_is | kernel_rfl | rfl
    case g_aC15 => first | k_is | kernel_rfl | rfl
    case g_aC16 => first | k_is | kernel_rfl | rfl
    case g_aC17 => first | k_is | kernel_rfl | rfl
    case g_aC18 => first | k_is | kernel_rfl | rfl
    case g_aC19 => first | k_is | kernel_rfl | rfl
    case g_aC20 => first | k_is | kernel_rfl | rfl
    case g_aC21 => first | k_is | kernel_rfl | rfl
    case g_aFx => first | k_is | kernel_rfl | rfl
    case g_lFx => first | k_is | kernel_rfl | rfl
    case g_c_Fx => first | k_is | kernel_rfl | rfl
    case g_kFx => first | k_is | kernel_rfl | rfl
    case g_aAk => first | k_is | kernel_rfl | rfl
    case g_lAk => first | k_is | kernel_rfl | rfl
    case g_c_Ak => first | k_is | kernel_rfl | rfl
    case g_kAk => first | k_is | kernel_rfl | rfl
    case g_aSh => first | k_is | kernel_rfl | rfl
    case g_lSh => first | k_is | kernel_rfl | rfl
    case g_c_Sh => first | k_is | kernel_rfl | rfl
    case g_kSh => first | k_is | kernel_rfl | rfl
    case g_aP => first | k_is | kernel_rfl | rfl
    case g_lP => first | k_is | kernel_rfl | rfl
    case g_c_P => first | k_is | kernel_rfl | rfl
    case g_kP => first | k_is | kernel_rfl | rfl
    case g_aD => first | k_is | kernel_rfl | rfl
    case g_lD => first | k_is | kernel_rfl | rfl
    case g_c_D => first | k_is | kernel_rfl | rfl
    case g_kD => first | k_is | kernel_rfl | rfl
    case g_aG => first | k_is | kernel_rfl | rfl
    case g_lG => first | k_is | kernel_rfl | rfl
    case g_c_G => first | k_is | kernel_rfl | rfl
    case g_kG => first | k_is | kernel_rfl | rfl
    case g_aBp => first | k_is | kernel_rfl | rfl
    case g_lBp => first | k_is | kernel_rfl | rfl
    case g_c_Bp => first | k_is | kernel_rfl | rfl
    case g_kBp => first | k_is | kernel_rfl | rfl
    case g_aBn => first | k_is | kernel_rfl | rfl
    case g_lBn => first | k_is | kernel_rfl | rfl
    case g_c_Bn => first | k_is | kernel_rfl | rfl
    case g_kBn => first | k_is | kernel_rfl | rfl
    case g_aKi => first | k_is | kernel_rfl | rfl
    case g_lKi => first | k_is | kernel_rfl | rfl
    case g_c_Ki => first | k_is | kernel_rfl | rfl
    case g_kKi => first | k_is | kernel_rfl | rfl
    case g_aFl => first | k_is | kernel_rfl | rfl
    case g_lFl => first | k_is | kernel_rfl | rfl
    case g_c_Fl => first | k_is | kernel_rfl | rfl
    case g_kFl => first | k_is | kernel_rfl | rfl
    case g_aNm => first | k_is | kernel_rfl | rfl
    case g_lNm => first | k_is | kernel_rfl | rfl
    case g_c_Nm => first | k_is | kernel_rfl | rfl
    case g_kNm => first | k_is | kernel_rfl | rfl
    case g_aIr => first | k_is | kernel_rfl | rfl
    case g_lIr => first | k_is | kernel_rfl | rfl
    case g_c_Ir => first | k_is | kernel_rfl | rfl
    case g_kIr => first | k_is | kernel_rfl | rfl
    case g_aVa => first | k_is | kernel_rfl | rfl
    case g_lVa => first | k_is | kernel_rfl | rfl
    case g_c_Va => first | k_is | kernel_rfl | rfl
    case g_kVa => first | k_is | kernel_rfl | rfl
    case g_aSp => first | k_is | kernel_rfl | rfl
    case g_lSp => first | k_is | kernel_rfl | rfl
    case g_c_Sp => first | k_is | kernel_rfl | rfl
    case g_kSp => first | k_is | kernel_rfl | rfl
    case g_aPp => first | k_is | kernel_rfl | rfl
    case g_lPp => first | k_is | kernel_rfl | rfl
    case g_c_Pp => first | k_is | kernel_rfl | rfl
    case g_kPp => first | k_is | kernel_rfl | rfl
    case g_aFr => first | k_is | kernel_rfl | rfl
    case g_lFr => first | k_is | kernel_rfl | rfl
    case g_c_Fr => first | k_is | kernel_rfl | rfl
    case g_kFr => first | k_is | kernel_rfl | rfl
    case g_aPr => first | k_is | kernel_rfl | rfl
    case g_lPr => first | k_is | kernel_rfl | rfl
    case g_c_Pr => first | k_is | kernel_rfl | rfl
    case g_kPr => first | k_is | kernel_rfl | rfl
    case g_aLa => first | k_is | kernel_rfl | rfl
    case g_lLa => first | k_is | kernel_rfl | rfl
    case g_c_La => first | k_is | kernel_rfl | rfl
    case g_kLa => first | k_is | kernel_rfl | rfl
    case g_aE0 => first | k_is | kernel_rfl | rfl
    case g_tE0 => first | k_is | kernel_rfl | rfl
    case g_lE0 => first | k_is | kernel_rfl | rfl
    case g_c_E0 => first | k_is | kernel_rfl | rfl
    case g_kE0 => first | k_is | kernel_rfl | rfl
    case g_aE1 => first | k_is | kernel_rfl | rfl
    case g_tE1 => first | k_is | kernel_rfl | rfl
    case g_lE1 => first | k_is | kernel_rfl | rfl
    case g_c_E1 => first | k_is | kernel_rfl | rfl
    case g_kE1 => first | k_is | kernel_rfl | rfl
    case g_aE2 => first | k_is | kernel_rfl | rfl
    case g_tE2 => first | k_is | kernel_rfl | rfl
    case g_lE2 => first | k_is | kernel_rfl | rfl
    case g_c_E2 => first | k_is | kernel_rfl | rfl
    case g_kE2 => first | k_is | kernel_rfl | rfl
    case g_aE3 => first | k_is | kernel_rfl | rfl
    case g_tE3 => first | k_is | kernel_rfl | rfl
    case g_lE3 => first | k_is | kernel_rfl | rfl
    case g_c_E3 => first | k_is | kernel_rfl | rfl
    case g_kE3 => first | k_is | kernel_rfl | rfl
    case g_aE4 => first | k_is | kernel_rfl | rfl
    case g_tE4 => first | k_is | kernel_rfl | rfl
    case g_lE4 => first | k_is | kernel_rfl | rfl
    case g_c_E4 => first | k_is | kernel_rfl | rfl
    case g_kE4 => first | k_is | kernel_rfl | rfl
    case g_aE5 => first | k_is | kernel_rfl | rfl
    case g_tE5 => first | k_is | kernel_rfl | rfl
    case g_lE5 => first | k_is | kernel_rfl | rfl
    case g_c_E5 => first | k_is | kernel_rfl | rfl
    case g_kE5 => first | k_is | kernel_rfl | rfl
    case g_aE6 => first | k_is | kernel_rfl | rfl
    case g_tE6 => first | k_is | kernel_rfl | rfl
    case g_lE6 => first | k_is | kernel_rfl | rfl
    case g_c_E6 => first | k_is | kernel_rfl | rfl
    case g_kE6 => first | k_is | kernel_rfl | rfl
    case g_aE7 => first | k_is | kernel_rfl | rfl
    case g_tE7 => first | k_is | kernel_rfl | rfl
    case g_lE7 => first | k_is | kernel_rfl | rfl
    case g_c_E7 => first | k_is | kernel_rfl | rfl
    case g_kE7 => first | k_is | kernel_rfl | rfl
    case g_aE8 => first | k_is | kernel_rfl | rfl
    case g_tE8 => first | k_is | kernel_rfl | rfl
    case g_lE8 => first | k_is | kernel_rfl | rfl
    case g_c_E8 => first | k_is | kernel_rfl | rfl
    case g_kE8 => first | k_is | kernel_rfl | rfl
    case g_aE9 => first | k_is | kernel_rfl | rfl
    case g_tE9 => first | k_is | kernel_rfl | rfl
    case g_lE9 => first | k_is | kernel_rfl | rfl
    case g_c_E9 => first | k_is | kernel_rfl | rfl
    case g_kE9 => first | k_is | kernel_rfl | rfl
    case g_aE10 => first | k_is | kernel_rfl | rfl
    case g_tE10 => first | k_is | kernel_rfl | rfl
    case g_lE10 => first | k_is | kernel_rfl | rfl
    case g_c_E10 => first | k_is | kernel_rfl | rfl
    case g_kE10 => first | k_is | kernel_rfl | rfl
    case g_aE11 => first | k_is | kernel_rfl | rfl
    case g_tE11 => first | k_is | kernel_rfl | rfl
    case g_lE11 => first | k_is | kernel_rfl | rfl
    case g_c_E11 => first | k_is | kernel_rfl | rfl
    case g_kE11 => first | k_is | kernel_rfl | rfl
    case g_aE12 => first | k_is | kernel_rfl | rfl
    case g_tE12 => first | k_is | kernel_rfl | rfl
    case g_lE12 => first | k_is | kernel_rfl | rfl
    case g_c_E12 => first | k_is | kernel_rfl | rfl
    case g_kE12 => first | k_is | kernel_rfl | rfl
    case g_aE13 => first | k_is | kernel_rfl | rfl
    case g_tE13 => first | k_is | kernel_rfl | rfl
    case g_lE13 => first | k_is | kernel_rfl | rfl
    case g_c_E13 => first | k_is | kernel_rfl | rfl
    case g_kE13 => first | k_is | kernel_rfl | rfl
    case g_aE14 => first | k_is | kernel_rfl | rfl
    case g_tE14 => first | k_is | kernel_rfl | rfl
    case g_lE14 => first | k_is | kernel_rfl | rfl
    case g_c_E14 => first | k_is | kernel_rfl | rfl
    case g_kE14 => first | k_is | kernel_rfl | rfl
    case g_aE15 => first | k_is | kernel_rfl | rfl
    case g_tE15 => first | k_is | kernel_rfl | rfl
    case g_lE15 => first | k_is | kernel_rfl | rfl
    case g_c_E15 => first | k_is | kernel_rfl | rfl
    case g_kE15 => first | k_is | kernel_rfl | rfl
    case g_aE16 => first | k_is | kernel_rfl | rfl
    case g_tE16 => first | k_is | kernel_rfl | rfl
    case g_lE16 => first | k_is | kernel_rfl | rfl
    case g_c_E16 => first | k_is | kernel_rfl | rfl
    case g_kE16 => first | k_is | kernel_rfl | rfl
    case g_aE17 => first | k_is | kernel_rfl | rfl
    case g_tE17 => first | k_is | kernel_rfl | rfl
    case g_lE17 => first | k_is | kernel_rfl | rfl
    case g_c_E17 => first | k_is | kernel_rfl | rfl
    case g_kE17 => first | k_is | kernel_rfl | rfl
    case g_aE19 => first | k_is | kernel_rfl | rfl
    case g_tE19 => first | k_is | kernel_rfl | rfl
    case g_lE19 => first | k_is | kernel_rfl | rfl
    case g_c_E19 => first | k_is | kernel_rfl | rfl
    case g_kE19 => first | k_is | kernel_rfl | rfl
    case g_aE20 => first | k_is | kernel_rfl | rfl
    case g_tE20 => first | k_is | kernel_rfl | rfl
    case g_lE20 => first | k_is | kernel_rfl | rfl
    case g_c_E20 => first | k_is | kernel_rfl | rfl
    case g_kE20 => first | k_is | kernel_rfl | rfl
    case g_aE21 => first | k_is | kernel_rfl | rfl
    case g_tE21 => first | k_is | kernel_rfl | rfl
    case g_lE21 => first | k_is | kernel_rfl | rfl
    case g_c_E21 => first | k_is | kernel_rfl | rfl
    case g_kE21 => first | k_is | kernel_rfl | rfl
    case g_aPe => first | k_is | kernel_rfl | rfl
    case g_iPe => first | k_is | kernel_rfl | rfl
    case g_lPe => first | k_is | kernel_rfl | rfl
    case g_c_Pe => first | k_is | kernel_rfl | rfl
    case g_kPe => first | k_is | kernel_rfl | rfl
    case g_aDe => first | k_is | kernel_rfl | rfl
    case g_iDe => first | k_is | kernel_rfl | rfl
    case g_lDe => first | k_is | kernel_rfl | rfl
    case g_c_De => first | k_is | kernel_rfl | rfl
    case g_kDe => first | k_is | kernel_rfl | rfl
    case g_aPb => first | k_is | kernel_rfl | rfl
    case g_iPb => first | k_is | kernel_rfl | rfl
    case g_lPb => first | k_is | kernel_rfl | rfl
    case g_c_Pb => first | k_is | kernel_rfl | rfl
    case g_kPb => first | k_is | kernel_rfl | rfl
    case g_aDb => first | k_is | kernel_rfl | rfl
    case g_iDb => first | k_is | kernel_rfl | rfl
    case g_lDb => first | k_is | kernel_rfl | rfl
    case g_c_Db => first | k_is | kernel_rfl | rfl
    case g_kDb => first | k_is | kernel_rfl | rfl
    case g_aPi => first | k_is | kernel_rfl | rfl
    case g_iPi => first | k_is | kernel_rfl | rfl
    case g_lPi => first | k_is | kernel_rfl | rfl
    case g_c_Pi => first | k_is | kernel_rfl | rfl
    case g_kPi => first | k_is | kernel_rfl | rfl
    case g_aDi => first | k_is | kernel_rfl | rfl
    case g_iDi => first | k_is | kernel_rfl | rfl
    case g_lDi => first | k_is | kernel_rfl | rfl
    case g_c_Di => first | k_is | kernel_rfl | rfl
    case g_kDi => first | k_is | kernel_rfl | rfl
    case g_xC0 => first | k_is | kernel_rfl | rfl
    case g_vC0 => first | k_is | kernel_rfl | rfl
    case g_saC0 => first | k_is | kernel_rfl | rfl
    case g_tyC0 => first | k_is | kernel_rfl | rfl
    case g_exC0 => first | k_is | kernel_rfl | rfl
    case g_kcC0 => first | k_is | kernel_rfl | rfl
    case g_gaC0 => first | k_is | kernel_rfl | rfl
    case g_ggC0 => first | k_is | kernel_rfl | rfl
    case g_hdC0 => first | k_is | kernel_rfl | rfl
    case g_clC0 => first | k_is | kernel_rfl | rfl
    case g_caC0 => first | k_is | kernel_rfl | rfl
    case g_mrC0 => first | k_is | kernel_rfl | rfl
    case g_n0_part => first | k_is | kernel_rfl | rfl
    case g_kTC0 => first | k_is | kernel_rfl | rfl
    case g_kMC0 => first | k_is | kernel_rfl | rfl
    case g_kVC0 => first | k_is | kernel_rfl | rfl
    case g_kLC0 => first | k_is | kernel_rfl | rfl
    case g_xC1 => first | k_is | kernel_rfl | rfl
    case g_vC1 => first | k_is | kernel_rfl | rfl
    case g_saC1 => first | k_is | kernel_rfl | rfl
    case g_tyC1 => first | k_is | kernel_rfl | rfl
    case g_exC1 => first | k_is | kernel_rfl | rfl
    case g_kcC1 => first | k_is | kernel_rfl | rfl
    case g_gaC1 => first | k_is | kernel_rfl | rfl
    case g_ggC1 => first | k_is | kernel_rfl | rfl
    case g_hdC1 => first | k_is | kernel_rfl | rfl
    case g_clC1 => first | k_is | kernel_rfl | rfl
    case g_caC1 => first | k_is | kernel_rfl | rfl
    case g_mrC1 => first | k_is | kernel_rfl | rfl
    case g_n1_part => first | k_is | kernel_rfl | rfl
    case g_kTC1 => first | k_is | kernel_rfl | rfl
    case g_kMC1 => first | k_is | kernel_rfl | rfl
    case g_kVC1 => first | k_is | kernel_rfl | rfl
    case g_kLC1 => first | k_is | kernel_rfl | rfl
    case g_xC2 => first | k_is | kernel_rfl | rfl
    case g_vC2 => first | k_is | kernel_rfl | rfl
    case g_saC2 => first | k_is | kernel_rfl | rfl
    case g_tyC2 => first | k_is | kernel_rfl | rfl
    case g_exC2 => first | k_is | kernel_rfl | rfl
    case g_kcC2 => first | k_is | kernel_rfl | rfl
    case g_gaC2 => first | k_is | kernel_rfl | rfl
    case g_ggC2 => first | k_is | kernel_rfl | rfl
    case g_hdC2 => first | k_is | kernel_rfl | rfl
    case g_clC2 => first | k_is | kernel_rfl | rfl
    case g_caC2 => first | k_is | kernel_rfl | rfl
    case g_mrC2 => first | k_is | kernel_rfl | rfl
    case g_n2_part => first | k_is | kernel_rfl | rfl
    case g_kTC2 => first | k_is | kernel_rfl | rfl
    case g_kMC2 => first | k_is | kernel_rfl | rfl
    case g_kVC2 => first | k_is | kernel_rfl | rfl
    case g_kLC2 => first | k_is | kernel_rfl | rfl
    case g_xC3 => first | k_is | kernel_rfl | rfl
    case g_vC3 => first | k_is | kernel_rfl | rfl
    case g_saC3 => first | k_is | kernel_rfl | rfl
    case g_tyC3 => first | k_is | kernel_rfl | rfl
    case g_exC3 => first | k_is | kernel_rfl | rfl
    case g_kcC3 => first | k_is | kernel_rfl | rfl
    case g_gaC3 => first | k_is | kernel_rfl | rfl
    case g_ggC3 => first | k_is | kernel_rfl | rfl
    case g_hdC3 => first | k_is | kernel_rfl | rfl
    case g_clC3 => first | k_is | kernel_rfl | rfl
    case g_caC3 => first | k_is | kernel_rfl | rfl
    case g_mrC3 => first | k_is | kernel_rfl | rfl
    case g_n3_part => first | k_is | kernel_rfl | rfl
    case g_kTC3 => first | k_is | kernel_rfl | rfl
    case g_kMC3 => first | k_is | kernel_rfl | rfl
    case g_kVC3 => first | k_is | kernel_rfl | rfl
    case g_kLC3 => first | k_is | kernel_rfl | rfl
    case g_xC4 => first | k_is | kernel_rfl | rfl
    case g_vC4 => first | k_is | kernel_rfl | rfl
    case g_saC4 => first | k_is | kernel_rfl | rfl
    case g_tyC4 => first | k_is | kernel_rfl | rfl
    case g_exC4 => first | k_is | kernel_rfl | rfl
    case g_kcC4 => first | k_is | kernel_rfl | rfl
    case g_gaC4 => first | k_is | kernel_rfl | rfl
    case g_ggC4 => first | k_is | kernel_rfl | rfl
    case g_hdC4 => first | k_is | kernel_rfl | rfl
    case g_clC4 => first | k_is | kernel_rfl | rfl
    case g_caC4 => first | k_is | kernel_rfl | rfl
    case g_mrC4 => first | k_is | kernel_rfl | rfl
    case g_n4_part => first | k_is | kernel_rfl | rfl
    case g_kTC4 => first | k_is | kernel_rfl | rfl
    case g_kMC4 => first | k_is | kernel_rfl | rfl
    case g_kVC4 => first | k_is | kernel_rfl | rfl
    case g_kLC4 => first | k_is | kernel_rfl | rfl
    case g_xC5 => first | k_is | kernel_rfl | rfl
    case g_vC5 => first | k_is | kernel_rfl | rfl
    case g_saC5 => first | k_is | kernel_rfl | rfl
    case g_tyC5 => first | k_is | kernel_rfl | rfl
    case g_exC5 => first | k_is | kernel_rfl | rfl
    case g_kcC5 => first | k_is | kernel_rfl | rfl
    case g_gaC5 => first | k_is | kernel_rfl | rfl
    case g_ggC5 => first | k_is | kernel_rfl | rfl
    case g_hdC5 => first | k_is | kernel_rfl | rfl
    case g_clC5 => first | k_is | kernel_rfl | rfl
    case g_caC5 => first | k_is | kernel_rfl | rfl
    case g_mrC5 => first | k_is | kernel_rfl | rfl
    case g_n5_part => first | k_is | kernel_rfl | rfl
    case g_kTC5 => first | k_is | kernel_rfl | rfl
    case g_kMC5 => first | k_is | kernel_rfl | rfl
    case g_kVC5 => first | k_is | kernel_rfl | rfl
    case g_kLC5 => first | k_is | kernel_rfl | rfl
    case g_xC6 => first | k_is | kernel_rfl | rfl
    case g_vC6 => first | k_is | kernel_rfl | rfl
    case g_saC6 => first | k_is | kernel_rfl | rfl
    case g_tyC6 => first | k_is | kernel_rfl | rfl
    case g_exC6 => first | k_is | kernel_rfl | rfl
    case g_kcC6 => first | k_is | kernel_rfl | rfl
    case g_gaC6 => first | k_is | kernel_rfl | rfl
    case g_ggC6 => first | k_is | kernel_rfl | rfl
    case g_hdC6 => first | k_is | kernel_rfl | rfl
    case g_clC6 => first | k_is | kernel_rfl | rfl
    case g_caC6 => first | k_is | kernel_rfl | rfl
    case g_mrC6 => first | k_is | kernel_rfl | rfl
    case g_n6_part => first | k_is | kernel_rfl | rfl
    case g_kTC6 => first | k_is | kernel_rfl | rfl
    case g_kMC6 => first | k_is | kernel_rfl | rfl
    case g_kVC6 => first | k_is | kernel_rfl | rfl
    case g_kLC6 => first | k_is | kernel_rfl | rfl
    case g_xC7 => first | k_is | kernel_rfl | rfl
    case g_vC7 => first | k_is | kernel_rfl | rfl
    case g_saC7 => first | k_is | kernel_rfl | rfl
    case g_tyC7 => first | k_is | kernel_rfl | rfl
    case g_exC7 => first | k_is | kernel_rfl | rfl
    case g_kcC7 => first | k_is | kernel_rfl | rfl
    case g_gaC7 => first | k_is | kernel_rfl | rfl
    case g_ggC7 => first | k_is | kernel_rfl | rfl
    case g_hdC7 => first | k_is | kernel_rfl | rfl
    case g_clC7 => first | k_is | kernel_rfl | rfl
    case g_caC7 => first | k_is | kernel_rfl | rfl
    case g_mrC7 => first | k_is | kernel_rfl | rfl
    case g_n7_part => first | k_is | kernel_rfl | rfl
    case g_kTC7 => first | k_is | kernel_rfl | rfl
    case g_kMC7 => first | k_is | kernel_rfl | rfl
    case g_kVC7 => first | k_is | kernel_rfl | rfl
    case g_kLC7 => first | k_is | kernel_rfl | rfl
    case g_xC8 => first | k_is | kernel_rfl | rfl
    case g_vC8 => first | k_is | kernel_rfl | rfl
    case g_saC8 => first | k_is | kernel_rfl | rfl
    case g_tyC8 => first | k_is | kernel_rfl | rfl
    case g_exC8 => first | k_is | kernel_rfl | rfl
    case g_kcC8 => first | k_is | kernel_rfl | rfl
    case g_gaC8 => first | k_is | kernel_rfl | rfl
    case g_ggC8 => first | k_is | kernel_rfl | rfl
    case g_hdC8 => first | k_is | kernel_rfl | rfl
    case g_clC8 => first | k_is | kernel_rfl | rfl
    case g_caC8 => first | k_is | kernel_rfl | rfl
    case g_mrC8 => first | k_is | kernel_rfl | rfl
    case g_n8_part => first | k_is | kernel_rfl | rfl
    case g_kTC8 => first | k_is | kernel_rfl | rfl
    case g_kMC8 => first | k_is | kernel_rfl | rfl
    case g_kVC8 => first | k_is | kernel_rfl | rfl
    case g_kLC8 => first | k_is | kernel_rfl | rfl
    case g_xC9 => first | k_is | kernel_rfl | rfl
    case g_vC9 => first | k_is | kernel_rfl | rfl
    case g_saC9 => first | k_is | kernel_rfl | rfl
    case g_tyC9 => first | k_is | kernel_rfl | rfl
    case g_exC9 => first | k_is | kernel_rfl | rfl
    case g_kcC9 => first | k_is | kernel_rfl | rfl
    case g_gaC9 => first | k_is | kernel_rfl | rfl
    case g_ggC9 => first | k_is | kernel_rfl | rfl
    case g_hdC9 => first | k_is | kernel_rfl | rfl
    case g_clC9 => first | k_is | kernel_rfl | rfl
    case g_caC9 => first | k_is | kernel_rfl | rfl
    case g_mrC9 => first | k_is | kernel_rfl | rfl
    case g_n9_part => first | k_is | kernel_rfl | rfl
    case g_kTC9 => first | k_is | kernel_rfl | rfl
    case g_kMC9 => first | k_is | kernel_rfl | rfl
    case g_kVC9 => first | k_is | kernel_rfl | rfl
    case g_kLC9 => first | k_is | kernel_rfl | rfl
    case g_xC10 => first | k_is | kernel_rfl | rfl
    case g_vC10 => first | k_is | kernel_rfl | rfl
    case g_saC10 => first | k_is | kernel_rfl | rfl
    case g_tyC10 => first | k_is | kernel_rfl | rfl
    case g_exC10 => first | k_is | kernel_rfl | rfl
    case g_kcC10 => first | k_is | kernel_rfl | rfl
    case g_gaC10 => first | k_is | kernel_rfl | rfl
    case g_ggC10 => first | k_is | kernel_rfl | rfl
    case g_hdC10 => first | k_is | kernel_rfl | rfl
    case g_clC10 => first | k_is | kernel_rfl | rfl
    case g_caC10 => first | k_is | kernel_rfl | rfl
    case g_mrC10 => first | k_is | kernel_rfl | rfl
    case g_n10_axis => first | k_is | kernel_rfl | rfl
    case g_kTC10 => first | k_is | kernel_rfl | rfl
    case g_kMC10 => first | k_is | kernel_rfl | rfl
    case g_kVC10 => first | k_is | kernel_rfl | rfl
    case g_kLC10 => first | k_is | kernel_rfl | rfl
    case g_xC11 => first | k_is | kernel_rfl | rfl
    case g_vC11 => first | k_is | kernel_rfl | rfl
    case g_saC11 => first | k_is | kernel_rfl | rfl
    case g_tyC11 => first | k_is | kernel_rfl | rfl
    case g_exC11 => first | k_is | kernel_rfl | rfl
    case g_kcC11 => first | k_is | kernel_rfl | rfl
    case g_gaC11 => first | k_is | kernel_rfl | rfl
    case g_ggC11 => first | k_is | kernel_rfl | rfl
    case g_hdC11 => first | k_is | kernel_rfl | rfl
    case g_clC11 => first | k_is | kernel_rfl | rfl
    case g_caC11 => first | k_is | kernel_rfl | rfl
    case g_mrC11 => first | k_is | kernel_rfl | rfl
    case g_n11_name => first | k_is | kernel_rfl | rfl
    case g_kTC11 => first | k_is | kernel_rfl | rfl
    case g_kMC11 => first | k_is | kernel_rfl | rfl
    case g_kVC11 => first | k_is | kernel_rfl | rfl
    case g_kLC11 => first | k_is | kernel_rfl | rfl
    case g_xC12 => first | k_is | kernel_rfl | rfl
    case g_vC12 => first | k_is | kernel_rfl | rfl
    case g_saC12 => first | k_is | kernel_rfl | rfl
    case g_tyC12 => first | k_is | kernel_rfl | rfl
    case g_exC12 => first | k_is | kernel_rfl | rfl
    case g_kcC12 => first | k_is | kernel_rfl | rfl
    case g_gaC12 => first | k_is | kernel_rfl | rfl
    case g_ggC12 => first | k_is | kernel_rfl | rfl
    case g_hdC12 => first | k_is | kernel_rfl | rfl
    case g_clC12 => first | k_is | kernel_rfl | rfl
    case g_caC12 => first | k_is | kernel_rfl | rfl
    case g_mrC12 => first | k_is | kernel_rfl | rfl
    case g_n12_place => first | k_is | kernel_rfl | rfl
    case g_kTC12 => first | k_is | kernel_rfl | rfl
    case g_kMC12 => first | k_is | kernel_rfl | rfl
    case g_kVC12 => first | k_is | kernel_rfl | rfl
    case g_kLC12 => first | k_is | kernel_rfl | rfl
    case g_xC13 => first | k_is | kernel_rfl | rfl
    case g_vC13 => first | k_is | kernel_rfl | rfl
    case g_saC13 => first | k_is | kernel_rfl | rfl
    case g_tyC13 => first | k_is | kernel_rfl | rfl
    case g_exC13 => first | k_is | kernel_rfl | rfl
    case g_kcC13 => first | k_is | kernel_rfl | rfl
    case g_gaC13 => first | k_is | kernel_rfl | rfl
    case g_ggC13 => first | k_is | kernel_rfl | rfl
    case g_hdC13 => first | k_is | kernel_rfl | rfl
    case g_clC13 => first | k_is | kernel_rfl | rfl
    case g_caC13 => first | k_is | kernel_rfl | rfl
    case g_mrC13 => first | k_is | kernel_rfl | rfl
    case g_n13_place => first | k_is | kernel_rfl | rfl
    case g_n13_words => first | k_is | kernel_rfl | rfl
    case g_kTC13 => first | k_is | kernel_rfl | rfl
    case g_kMC13 => first | k_is | kernel_rfl | rfl
    case g_kVC13 => first | k_is | kernel_rfl | rfl
    case g_kLC13 => first | k_is | kernel_rfl | rfl
    case g_xC14 => first | k_is | kernel_rfl | rfl
    case g_vC14 => first | k_is | kernel_rfl | rfl
    case g_saC14 => first | k_is | kernel_rfl | rfl
    case g_tyC14 => first | k_is | kernel_rfl | rfl
    case g_exC14 => first | k_is | kernel_rfl | rfl
    case g_kcC14 => first | k_is | kernel_rfl | rfl
    case g_gaC14 => first | k_is | kernel_rfl | rfl
    case g_ggC14 => first | k_is | kernel_rfl | rfl
    case g_hdC14 => first | k_is | kernel_rfl | rfl
    case g_clC14 => first | k_is | kernel_rfl | rfl
    case g_caC14 => first | k_is | kernel_rfl | rfl
    case g_mrC14 => first | k_is | kernel_rfl | rfl
    case g_n14_at => first | k_is | kernel_rfl | rfl
    case g_kTC14 => first | k_is | kernel_rfl | rfl
    case g_kMC14 => first | k_is | kernel_rfl | rfl
    case g_kVC14 => first | k_is | kernel_rfl | rfl
    case g_kLC14 => first | k_is | kernel_rfl | rfl
    case g_xC15 => first | k_is | kernel_rfl | rfl
    case g_vC15 => first | k_is | kernel_rfl | rfl
    case g_saC15 => first | k_is | kernel_rfl | rfl
    case g_tyC15 => first | k_is | kernel_rfl | rfl
    case g_exC15 => first | k_is | kernel_rfl | rfl
    case g_kcC15 => first | k_is | kernel_rfl | rfl
    case g_gaC15 => first | k_is | kernel_rfl | rfl
    case g_ggC15 => first | k_is | kernel_rfl | rfl
    case g_hdC15 => first | k_is | kernel_rfl | rfl
    case g_clC15 => first | k_is | kernel_rfl | rfl
    case g_caC15 => first | k_is | kernel_rfl | rfl
    case g_mrC15 => first | k_is | kernel_rfl | rfl
    case g_n15_at => first | k_is | kernel_rfl | rfl
    case g_kTC15 => first | k_is | kernel_rfl | rfl
    case g_kMC15 => first | k_is | kernel_rfl | rfl
    case g_kVC15 => first | k_is | kernel_rfl | rfl
    case g_kLC15 => first | k_is | kernel_rfl | rfl
    case g_xC16 => first | k_is | kernel_rfl | rfl
    case g_vC16 => first | k_is | kernel_rfl | rfl
    case g_saC16 => first | k_is | kernel_rfl | rfl
    case g_tyC16 => first | k_is | kernel_rfl | rfl
    case g_exC16 => first | k_is | kernel_rfl | rfl
    case g_kcC16 => first | k_is | kernel_rfl | rfl
    case g_gaC16 => first | k_is | kernel_rfl | rfl
    case g_ggC16 => first | k_is | kernel_rfl | rfl
    case g_hdC16 => first | k_is | kernel_rfl | rfl
    case g_clC16 => first | k_is | kernel_rfl | rfl
    case g_caC16 => first | k_is | kernel_rfl | rfl
    case g_mrC16 => first | k_is | kernel_rfl | rfl
    case g_n16_place => first | k_is | kernel_rfl | rfl
    case g_kTC16 => first | k_is | kernel_rfl | rfl
    case g_kMC16 => first | k_is | kernel_rfl | rfl
    case g_kVC16 => first | k_is | kernel_rfl | rfl
    case g_kLC16 => first | k_is | kernel_rfl | rfl
    case g_xC17 => first | k_is | kernel_rfl | rfl
    case g_vC17 => first | k_is | kernel_rfl | rfl
    case g_saC17 => first | k_is | kernel_rfl | rfl
    case g_tyC17 => first | k_is | kernel_rfl | rfl
    case g_exC17 => first | k_is | kernel_rfl | rfl
    case g_kcC17 => first | k_is | kernel_rfl | rfl
    case g_gaC17 => first | k_is | kernel_rfl | rfl
    case g_ggC17 => first | k_is | kernel_rfl | rfl
    case g_hdC17 => first | k_is | kernel_rfl | rfl
    case g_clC17 => first | k_is | kernel_rfl | rfl
    case g_caC17 => first | k_is | kernel_rfl | rfl
    case g_mrC17 => first | k_is | kernel_rfl | rfl
    case g_n17_place => first | k_is | kernel_rfl | rfl
    case g_kTC17 => first | k_is | kernel_rfl | rfl
    case g_kMC17 => first | k_is | kernel_rfl | rfl
    case g_kVC17 => first | k_is | kernel_rfl | rfl
    case g_kLC17 => first | k_is | kernel_rfl | rfl
    case g_exC18 => first | k_is | kernel_rfl | rfl
    case g_kcC18 => first | k_is | kernel_rfl | rfl
    case g_gaC18 => first | k_is | kernel_rfl | rfl
    case g_ggC18 => first | k_is | kernel_rfl | rfl
    case g_hdC18 => first | k_is | kernel_rfl | rfl
    case g_clC18 => first | k_is | kernel_rfl | rfl
    case g_caC18 => first | k_is | kernel_rfl | rfl
    case g_mrC18 => first | k_is | kernel_rfl | rfl
    case g_kTC18 => first | k_is | kernel_rfl | rfl
    case g_kMC18 => first | k_is | kernel_rfl | rfl
    case g_kVC18 => first | k_is | kernel_rfl | rfl
    case g_kLC18 => first | k_is | kernel_rfl | rfl
    case g_xC19 => first | k_is | kernel_rfl | rfl
    case g_vC19 => first | k_is | kernel_rfl | rfl
    case g_saC19 => first | k_is | kernel_rfl | rfl
    case g_tyC19 => first | k_is | kernel_rfl | rfl
    case g_exC19 => first | k_is | kernel_rfl | rfl
    case g_kcC19 => first | k_is | kernel_rfl | rfl
    case g_gaC19 => first | k_is | kernel_rfl | rfl
    case g_ggC19 => first | k_is | kernel_rfl | rfl
    case g_hdC19 => first | k_is | kernel_rfl | rfl
    case g_clC19 => first | k_is | kernel_rfl | rfl
    case g_caC19 => first | k_is | kernel_rfl | rfl
    case g_mrC19 => first | k_is | kernel_rfl | rfl
    case g_n19_what => first | k_is | kernel_rfl | rfl
    case g_n19_most => first | k_is | kernel_rfl | rfl
    case g_kTC19 => first | k_is | kernel_rfl | rfl
    case g_kMC19 => first | k_is | kernel_rfl | rfl
    case g_kVC19 => first | k_is | kernel_rfl | rfl
    case g_kLC19 => first | k_is | kernel_rfl | rfl
    case g_xC20 => first | k_is | kernel_rfl | rfl
    case g_vC20 => first | k_is | kernel_rfl | rfl
    case g_saC20 => first | k_is | kernel_rfl | rfl
    case g_tyC20 => first | k_is | kernel_rfl | rfl
    case g_exC20 => first | k_is | kernel_rfl | rfl
    case g_kcC20 => first | k_is | kernel_rfl | rfl
    case g_gaC20 => first | k_is | kernel_rfl | rfl
    case g_ggC20 => first | k_is | kernel_rfl | rfl
    case g_hdC20 => first | k_is | kernel_rfl | rfl
    case g_clC20 => first | k_is | kernel_rfl | rfl
    case g_caC20 => first | k_is | kernel_rfl | rfl
    case g_mrC20 => first | k_is | kernel_rfl | rfl
    case g_n20_line => first | k_is | kernel_rfl | rfl
    case g_n20_word => first | k_is | kernel_rfl | rfl
    case g_kTC20 => first | k_is | kernel_rfl | rfl
    case g_kMC20 => first | k_is | kernel_rfl | rfl
    case g_kVC20 => first | k_is | kernel_rfl | rfl
    case g_kLC20 => first | k_is | kernel_rfl | rfl
    case g_xC21 => first | k_is | kernel_rfl | rfl
    case g_vC21 => first | k_is | kernel_rfl | rfl
    case g_saC21 => first | k_is | kernel_rfl | rfl
    case g_tyC21 => first | k_is | kernel_rfl | rfl
    case g_exC21 => first | k_is | kernel_rfl | rfl
    case g_kcC21 => first | k_is | kernel_rfl | rfl
    case g_gaC21 => first | k_is | kernel_rfl | rfl
    case g_ggC21 => first | k_is | kernel_rfl | rfl
    case g_hdC21 => first | k_is | kernel_rfl | rfl
    case g_clC21 => first | k_is | kernel_rfl | rfl
    case g_caC21 => first | k_is | kernel_rfl | rfl
    case g_mrC21 => first | k_is | kernel_rfl | rfl
    case g_n21_line => first | k_is | kernel_rfl | rfl
    case g_n21_error => first | k_is | kernel_rfl | rfl
    case g_kTC21 => first | k_is | kernel_rfl | rfl
    case g_kMC21 => first | k_is | kernel_rfl | rfl
    case g_kVC21 => first | k_is | kernel_rfl | rfl
    case g_kLC21 => first | k_is | kernel_rfl | rfl
    case g_kk => first | k_is | kernel_rfl | rfl
    case g_e18 => first | k_is | kernel_rfl | rfl
    case g_rdTE => first | k_is | kernel_rfl | rfl
    case g_gsTE => first | k_is | kernel_rfl | rfl
    case g_inTE => first | k_is | kernel_rfl | rfl
    case g_rdMI => first | k_is | kernel_rfl | rfl
    case g_gsMI => first | k_is | kernel_rfl | rfl
    case g_inMI => first | k_is | kernel_rfl | rfl
    case g_spO => first | k_is | kernel_rfl | rfl
    case g_tkO => first | k_is | kernel_rfl | rfl
    case g_pgPA => first | k_is | kernel_rfl | rfl
    case g_hdPA => first | k_is | kernel_rfl | rfl
    case g_poPA => first | k_is | kernel_rfl | rfl
    case g_saPA => first | k_is | kernel_rfl | rfl
    case g_mkPA => first | k_is | kernel_rfl | rfl
    case g_kcPA => first | k_is | kernel_rfl | rfl
    case g_nWPA => first | k_is | kernel_rfl | rfl
    case g_nPPA => first | k_is | kernel_rfl | rfl
    case g_caPA => first | k_is | kernel_rfl | rfl
    case g_mrPA => first | k_is | kernel_rfl | rfl
    case g_nePA => first | k_is | kernel_rfl | rfl
    case g_u0PA => first | k_is | kernel_rfl | rfl
    case g_u1PA => first | k_is | kernel_rfl | rfl
    case g_u2PA => first | k_is | kernel_rfl | rfl
    case g_u3PA => first | k_is | kernel_rfl | rfl
    case g_u4PA => first | k_is | kernel_rfl | rfl
    case g_u5PA => first | k_is | kernel_rfl | rfl
    case g_u6PA => first | k_is | kernel_rfl | rfl
    case g_pgDE => first | k_is | kernel_rfl | rfl
    case g_hdDE => first | k_is | kernel_rfl | rfl
    case g_poDE => first | k_is | kernel_rfl | rfl
    case g_saDE => first | k_is | kernel_rfl | rfl
    case g_mkDE => first | k_is | kernel_rfl | rfl
    case g_kcDE => first | k_is | kernel_rfl | rfl
    case g_nWDE => first | k_is | kernel_rfl | rfl
    case g_nPDE => first | k_is | kernel_rfl | rfl
    case g_caDE => first | k_is | kernel_rfl | rfl
    case g_mrDE => first | k_is | kernel_rfl | rfl
    case g_neDE => first | k_is | kernel_rfl | rfl
    case g_u0DE => first | k_is | kernel_rfl | rfl
    case g_u1DE => first | k_is | kernel_rfl | rfl
    case g_u2DE => first | k_is | kernel_rfl | rfl
    case g_u3DE => first | k_is | kernel_rfl | rfl
    case g_u4DE => first | k_is | kernel_rfl | rfl
    case g_u5DE => first | k_is | kernel_rfl | rfl
    case g_u6DE => first | k_is | kernel_rfl | rfl
    case g_s0PA => first | k_is | kernel_rfl | rfl
    case g_s1PA => first | k_is | kernel_rfl | rfl
    case g_s2PA => first | k_is | kernel_rfl | rfl
    case g_s3PA => first | k_is | kernel_rfl | rfl
    case g_s4PA => first | k_is | kernel_rfl | rfl
    case g_s5PA => first | k_is | kernel_rfl | rfl
    case g_s6PA => first | k_is | kernel_rfl | rfl
    case g_rdPA => first | k_is | kernel_rfl | rfl
    case g_gsPA => first | k_is | kernel_rfl | rfl
    case g_inPA => first | k_is | kernel_rfl | rfl
    case g_kPP => first | k_is | kernel_rfl | rfl
    case g_kDP => first | k_is | kernel_rfl | rfl
    case g_kPD => first | k_is | kernel_rfl | rfl
    case g_kDD => first | k_is | kernel_rfl | rfl
    case g_nPD => decide
    case g_sDP => first | k_is | kernel_rfl | rfl
    case g_sPD => first | k_is | kernel_rfl | rfl
    case g_z_isinstance => first | k_is | kernel_rfl | rfl
    case g_z_int => first | k_is | kernel_rfl | rfl
    case g_z_bool => first | k_is | kernel_rfl | rfl
    case g_z_str => first | k_is | kernel_rfl | rfl
    case g_z_len => first | k_is | kernel_rfl | rfl
    case g_z_list => first | k_is | kernel_rfl | rfl
    case g_z_dict => first | k_is | kernel_rfl | rfl
    case g_z_tuple => first | k_is | kernel_rfl | rfl
    case g_z_abs => first | k_is | kernel_rfl | rfl
    case g_z_range => first | k_is | kernel_rfl | rfl
    case g_z_repr => first | k_is | kernel_rfl | rfl
    case g_z_sorted => first | k_is | kernel_rfl | rfl
    case g_z_ValueError => first | k_is | kernel_rfl | rfl
    case g_z_LookupError => first | k_is | kernel_rfl | rfl
    case g_z_ArithmeticError => first | k_is | kernel_rfl | rfl
    case g_z_TypeError => first | k_is | kernel_rfl | rfl
    case g_cS => first | k_is | kernel_rfl | rfl
    all_goals exact #[]
