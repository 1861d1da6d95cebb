import PyProof.Rows.All
import Wide.All
import OpenK.AllK
import Wide.FinOn
import HandS.ForExc
import HandS.ForMost
import HandS.Wide
import HandS.IsInst
import PySem.Challenge.RW_feasted_k01_whole_valleys
import HandS.ExcInit
import HandS.Walk
import KE.GoesEnum
import KE.GoesMore
import HandS.Iter
import HandS.SetKeys
import HandS.DictComp
import PyProof.IsiBase
import PyProof.IsiH_set
import HandS.OwnEq
import HandS.NamedTupSort
import HandS.Style
import HandS.Zip
import HandS.TryMany
import HandS.ExcField
import HandS.Lambda
import HandS.MakeKwOnly
import HandS.Codes
import HandS.EndTab
import KE.KNestM
-- KBase
section
set_option Elab.async false
set_option linter.all false
set_option maxRecDepth 100000
set_option maxHeartbeats 4000000
namespace K1
open PySem PySem.Spec PyProof.Rows L2
def top (i : Nat) : Stmt := PySem.Challenge.pw_feasted_k01_whole_valleys.main.body.getD i (.Pass ⟨0, 0, 0, 0⟩)
abbrev sIsInt : Stmt := top 12
abbrev sFromOne : Stmt := top 13
abbrev sIsList : Stmt := top 14
abbrev sIsPair : Stmt := top 15
abbrev sIsName : Stmt := top 16
abbrev sDraw : Stmt := top 28
abbrev sPick : Stmt := top 29
abbrev sMixed : Stmt := top 30
/-- a statement that is never reached -/
theorem ps_dead {X : Cx} {st : Stmt} : PS X st (fun _ _ _ => False) := ⟨fun _ _ _ _ _ _ h => h.elim⟩
theorem pe_dead {X : Cx} {e : Expr} : PE X e (fun _ _ _ => False) := ⟨fun _ _ _ _ _ _ h => h.elim⟩
/-- a power whose bits are below the model's line -/
def CPowX (i j : Int) : Prop := 0 ≤ j ∧ (Builtin.Int.intBits i : Int) * j ≤ 2 ^ 27
theorem op_powX {X : Cx} : OpR X (binaryOp .Pow) (rI CPowX fun i j => .int (i ^ j.toNat)) := opI fun _ _ _ _ _ _ _ hc q => pow_int hc.1 hc.2 q
theorem Same.upd {H : Hp} {p : Addr} {o : HO} (h : H p = none) : Same H (upd H p o) := fun b u e => by rw [upd_ne (ne_of_none e h)]; exact e
end K1
end
-- KKinds
section
set_option Elab.async false
set_option linter.all false
set_option maxRecDepth 100000
set_option maxHeartbeats 4000000
namespace K1
open PySem PySem.Spec PyProof.Rows L2
def letters : Str := "abcdefghijklmnopqrstuvwxyz"
def figures : Str := "0123456789"
def okSign (c : Nat) : Bool := decide (c ∈ letters.cps.toList) || decide (c ∈ figures.cps.toList)
def nameOk (s : Str) : Bool := decide (1 ≤ s.length) && (decide (s.length ≤ 8) && ((s.cps.toList.head?.any fun c => decide (c ∈ letters.cps.toList)) && s.cps.toList.all okSign))
/-- the types of the values that are asked of -/
def kinds : List String := ["int", "bool", "str", "NoneType", "list", "tuple", "dict"]
theorem TyX.ext {K : PySem.W.Frag} {H H' : Hp} {x : V} {t : Value} (h : TyX K H x t) (e : Same H H') : TyX K H' x t := by
  cases h with
  | base b =>
    refine .base ?_
    cases b with
    | non => exact .non
    | bl y => exact .bl y
    | int i => exact .int i
    | str y => exact .str y
    | flt y => exact .flt y
    | lst ea => exact .lst (e _ _ ea)
    | frz ea => exact .frz (e _ _ ea)
    | tup ea => exact .tup (e _ _ ea)
    | dK ea => exact .dK (e _ _ ea)
    | dT ea => exact .dT (e _ _ ea)
    | ins ea cl ha hn htk hm => exact .ins (e _ _ ea) cl ha hn htk hm
  | byt y => exact .byt y
  | set ea => exact .set (e _ _ ea)
  | kList a b => exact .kList a b
  | kTuple a b => exact .kTuple a b
  | kDict a b => exact .kDict a b
  | fTuple ea => exact .fTuple (e _ _ ea)
  | fDict ea => exact .fDict (e _ _ ea)
theorem kit_int {K : PySem.W.Frag} {t : String} (h : t ∈ kinds) : PySem.W.kitOne K (.type t) (.type "int") = some (decide (t = "int" ∨ t = "bool")) := by
  simp only [kinds, List.mem_cons, List.not_mem_nil, or_false] at h
  rcases h with rfl | rfl | rfl | rfl | rfl | rfl | rfl <;> exact kit_ty (by decide +kernel)
theorem kit_bool {K : PySem.W.Frag} {t : String} (h : t ∈ kinds) : PySem.W.kitOne K (.type t) (.type "bool") = some (decide (t = "bool")) := by
  simp only [kinds, List.mem_cons, List.not_mem_nil, or_false] at h
  rcases h with rfl | rfl | rfl | rfl | rfl | rfl | rfl <;> exact kit_ty (by decide +kernel)
theorem kit_str {K : PySem.W.Frag} {t : String} (h : t ∈ kinds) : PySem.W.kitOne K (.type t) (.type "str") = some (decide (t = "str")) := by
  simp only [kinds, List.mem_cons, List.not_mem_nil, or_false] at h
  rcases h with rfl | rfl | rfl | rfl | rfl | rfl | rfl <;> exact kit_ty (by decide +kernel)
theorem kit_list {K : PySem.W.Frag} {t : String} (h : t ∈ kinds) : PySem.W.kitOne K (.type t) (.type "list") = some (decide (t = "list")) := by
  simp only [kinds, List.mem_cons, List.not_mem_nil, or_false] at h
  rcases h with rfl | rfl | rfl | rfl | rfl | rfl | rfl <;> exact kit_ty (by decide +kernel)
theorem kit_tuple {K : PySem.W.Frag} {t : String} (h : t ∈ kinds) : PySem.W.kitOne K (.type t) (.type "tuple") = some (decide (t = "tuple")) := by
  simp only [kinds, List.mem_cons, List.not_mem_nil, or_false] at h
  rcases h with rfl | rfl | rfl | rfl | rfl | rfl | rfl <;> exact kit_ty (by decide +kernel)
theorem kit_dict {K : PySem.W.Frag} {t : String} (h : t ∈ kinds) : PySem.W.kitOne K (.type t) (.type "dict") = some (decide (t = "dict")) := by
  simp only [kinds, List.mem_cons, List.not_mem_nil, or_false] at h
  rcases h with rfl | rfl | rfl | rfl | rfl | rfl | rfl <;> exact kit_ty (by decide +kernel)
def isSeqT (t : String) : Bool := decide (t = "list") || decide (t = "tuple")
theorem kit_seq {K : PySem.W.Frag} {t : String} (h : t ∈ kinds) : PySem.W.kitAny K (.type t) [.type "list", .type "tuple"] = some (isSeqT t) := by
  unfold PySem.W.kitAny
  rw [kit_list h]
  unfold isSeqT
  by_cases e : t = "list"
  · rw [decide_eq_true e]; rfl
  · rw [decide_eq_false e]
    show PySem.W.kitAny K (.type t) [.type "tuple"] = _
    unfold PySem.W.kitAny
    rw [kit_tuple h]
    by_cases e2 : t = "tuple"
    · rw [decide_eq_true e2]; rfl
    · rw [decide_eq_false e2]; rfl
/-- a tracked list or tuple of just these -/
def SeqV (H : Hp) (v : V) (xs : List V) : Prop := ∃ p, v = .ref p ∧ (H p = some (.lst xs) ∨ H p = some (.tup xs))
theorem SeqV.ext {H H' : Hp} {v : V} {xs : List V} (h : SeqV H v xs) (e : Same H H') : SeqV H' v xs := by
  obtain ⟨p, rfl, h⟩ := h
  exact ⟨p, rfl, h.imp (e _ _) (e _ _)⟩
theorem SeqV.ty {K : PySem.W.Frag} {H : Hp} {v : V} {xs : List V} (h : SeqV H v xs) : ∃ t, TyX K H v (.type t) ∧ t ∈ kinds ∧ isSeqT t = true := by
  obtain ⟨p, rfl, h | h⟩ := h
  · exact ⟨"list", .base (.lst h), by decide, by decide⟩
  · exact ⟨"tuple", .base (.tup h), by decide, by decide⟩
theorem SeqV.sq {K : PySem.W.Frag} {H : Hp} {v : V} {xs : List V} (h : SeqV H v xs) : ∃ p, v = .ref p ∧ (SqL K H p xs ∨ SqT K H p xs) := by
  obtain ⟨p, rfl, h | h⟩ := h
  · exact ⟨p, rfl, .inl (SqL.of h)⟩
  · exact ⟨p, rfl, .inr (SqT.of h)⟩
/-- a value that is neither list nor tuple -/
def NoSeq (K : PySem.W.Frag) (H : Hp) (v : V) : Prop := ∃ t, TyX K H v (.type t) ∧ t ∈ kinds ∧ isSeqT t = false
theorem NoSeq.ext {K : PySem.W.Frag} {H H' : Hp} {v : V} (h : NoSeq K H v) (e : Same H H') : NoSeq K H' v := by
  obtain ⟨t, a, b⟩ := h
  exact ⟨t, TyX.ext a e, b⟩
abbrev V.isIntV : V → Bool | .int _ => true | _ => false
/-- an int, or a value of another type -/
def KnownV (K : PySem.W.Frag) (H : Hp) (v : V) : Prop := ∃ t, TyX K H v (.type t) ∧ t ∈ kinds
theorem KnownV.ext {K : PySem.W.Frag} {H H' : Hp} {v : V} (h : KnownV K H v) (e : Same H H') : KnownV K H' v := by
  obtain ⟨t, a, b⟩ := h
  exact ⟨t, TyX.ext a e, b⟩
/-! promises -/
def spIsInt (K : PySem.W.Frag) : Sp := fun vs H Q _ => ∃ (v : V) (t : String), vs = [v] ∧ TyX K H v (.type t) ∧ t ∈ kinds ∧ Q (.bl (decide (t = "int"))) H
/-- an int from 1 on: told of ints; of all other types no -/
def spFromOne (K : PySem.W.Frag) : Sp := fun vs H Q _ => ∃ (v : V), vs = [v] ∧ ((∃ i, v = .int i ∧ Q (.bl (decide (1 ≤ i))) H) ∨ (∃ t, TyX K H v (.type t) ∧ t ∈ kinds ∧ t ≠ "int" ∧ Q (.bl false) H))
def spIsList (K : PySem.W.Frag) : Sp := fun vs H Q _ => ∃ (v : V) (t : String), vs = [v] ∧ TyX K H v (.type t) ∧ t ∈ kinds ∧ ∀ H', Same H H' → Q (.bl (isSeqT t)) H'
def spIsPair (K : PySem.W.Frag) : Sp := fun vs H Q _ => ∃ (v : V), vs = [v] ∧ ((∃ xs, SeqV H v xs ∧ ∀ H', Same H H' → Q (.bl (decide (xs.length = 2))) H') ∨ (NoSeq K H v ∧ ∀ H', Same H H' → Q (.bl false) H'))
def spIsName (K : PySem.W.Frag) : Sp := fun vs H Q _ => ∃ (v : V), vs = [v] ∧ ((∃ s, v = .str s ∧ s.length ≤ 1000 ∧ ∀ H', Same H H' → Q (.bl (nameOk s)) H') ∨ (∃ t, TyX K H v (.type t) ∧ t ∈ kinds ∧ t ≠ "str" ∧ Q (.bl false) H))
theorem scIsInt : FnScope ["thing"] ["thing"] (defScope sIsInt) := ⟨rfl, rfl, rfl, by decide +kernel, rfl, by decide +kernel, by decide +kernel⟩
theorem scFromOne : FnScope ["thing"] ["thing"] (defScope sFromOne) := ⟨rfl, rfl, rfl, by decide +kernel, rfl, by decide +kernel, by decide +kernel⟩
theorem scIsList : FnScope ["thing"] ["thing"] (defScope sIsList) := ⟨rfl, rfl, rfl, by decide +kernel, rfl, by decide +kernel, by decide +kernel⟩
theorem scIsPair : FnScope ["thing"] ["thing"] (defScope sIsPair) := ⟨rfl, rfl, rfl, by decide +kernel, rfl, by decide +kernel, by decide +kernel⟩
theorem scIsName : FnScope ["thing", "sign"] ["thing"] (defScope sIsName) := ⟨rfl, rfl, rfl, by decide +kernel, rfl, by decide +kernel, by decide +kernel⟩
/-- the built-ins that the text names are still built-in -/
structure Bl (mg : Str → Option Value) : Prop where
  isi : mg "isinstance" = none
  int : mg "int" = none
  bool : mg "bool" = none
  str : mg "str" = none
  list : mg "list" = none
  tuple : mg "tuple" = none
  dict : mg "dict" = none
  len : mg "len" = none
  all : mg "all" = none
section
variable {P : Program} {w : World} {K : PySem.W.Frag} {mg : Str → Option Value} {base : Heap}
theorem ok_isInt {f : Addr} {fd : FuncData} (F : Fun K "is_integer" "is_integer" sIsInt f fd) (B : Bl mg) : FnOk P w K mg base CX0 1 f fd ["thing"] (spIsInt K) := by
  refine F.ok scIsInt (fun vs H Q E h => ?_) (fun cdv A outer s H vs Q E hr h => ?_)
  · obtain ⟨v, t, rfl, _⟩ := h
    rfl
  obtain ⟨v, t, rfl, ty, kt, q⟩ := h
  refine ⟨_, pss_one (by exact ps_ret (pe_and (pe_callB call_isi rfl B.isi PyProof.Rows.boot_isinstance (pa_cons (pv 0) (pa_cons (pe_bltn (v := .ty "int") rfl B.int PyProof.Rows.boot_int rfl) pa_nil)))
    (pe_one (pe_not (pe_callB call_isi rfl B.isi PyProof.Rows.boot_isinstance (pa_cons (pv 0) (pa_cons (pe_bltn (v := .ty "bool") rfl B.bool PyProof.Rows.boot_bool rfl) pa_nil))))))), ?_⟩
  refine ⟨_, rfl, v, _, _, _, _, rfl, .ty "int", ty, kit_int kt, _, rfl, ?_⟩
  refine ite2 (fun c => ?_) (fun c => ?_)
  · refine ⟨_, rfl, v, _, _, _, _, rfl, .ty "bool", ty, kit_bool kt, _, rfl, ?_⟩
    have c' := of_decide_eq_true c
    have e : (!decide (t = "bool")) = decide (t = "int") := by
      rcases c' with rfl | rfl <;> decide
    rw [e]
    exact q
  · have c' := of_decide_eq_false (Bool.eq_false_iff.mpr c)
    have e : decide (t = "int") = false := decide_eq_false fun z => c' (.inl z)
    rw [e] at q
    exact q
theorem ok_fromOne {f g : Addr} {fd gd : FuncData} (F : Fun K "is_from_one" "is_from_one" sFromOne f fd) (FI : Fun K "is_integer" "is_integer" sIsInt g gd) (b : Binds K gd ["thing"] []) (m : mg "is_integer" = some (.ref g)) (B : Bl mg) :
    FnOk P w K mg base CX0 2 f fd ["thing"] (spFromOne K) := by
  have G := ok_isInt (P := P) (w := w) (base := base) FI B
  refine F.ok scFromOne (fun vs H Q E h => ?_) (fun cdv A outer s H vs Q E hr h => ?_)
  · obtain ⟨v, rfl, _⟩ := h
    rfl
  obtain ⟨v, rfl, h⟩ := h
  refine ⟨_, pss_one (by exact ps_ret (pe_and (pe_call G hr rfl m FI.kp b .nil pass0 (pa_cons (pv 0) pa_nil)) (pe_one (pe_cmpR op_ge (pv 0) pe_int (nomark _))))), ?_⟩
  rcases h with ⟨i, rfl, q⟩ | ⟨t, ty, kt, nt, q⟩
  · exact ⟨_, rfl, .int i, "int", rfl, .base (.int i), by decide, _, rfl, iteT ⟨_, rfl, i, 1, rfl, rfl, q⟩⟩
  · refine ⟨_, rfl, v, t, rfl, ty, kt, _, rfl, ?_⟩
    rw [decide_eq_false nt]
    exact iteF q
theorem ok_isList {f : Addr} {fd : FuncData} (F : Fun K "is_list" "is_list" sIsList f fd) (B : Bl mg) : FnOk P w K mg base CX0 1 f fd ["thing"] (spIsList K) := by
  refine F.ok scIsList (fun vs H Q E h => ?_) (fun cdv A outer s H vs Q E hr h => ?_)
  · obtain ⟨v, t, rfl, _⟩ := h
    rfl
  obtain ⟨v, t, rfl, ty, kt, q⟩ := h
  refine ⟨_, pss_one (by exact ps_ret (pe_callB call_isiT rfl B.isi PyProof.Rows.boot_isinstance (pa_cons (pv 0) (pa_cons (pe_tup (pa_cons (pe_bltn (v := .ty "list") rfl B.list PyProof.Rows.boot_list rfl)
    (pa_cons (pe_bltn (v := .ty "tuple") rfl B.tuple PyProof.Rows.boot_tuple rfl) pa_nil))) pa_nil)))), ?_⟩
  refine ⟨_, rfl, (by show 2 ≤ sizeLine; decide), fun p hp => ?_⟩
  have e := K1.Same.upd (H := H) (p := p) (o := .tup [.ty "list", .ty "tuple"]) hp
  exact ⟨v, p, _, _, _, _, rfl, upd_same, .cons (.ty "list") (.cons (.ty "tuple") .nil), TyX.ext ty e, kit_seq kt, q _ e⟩
theorem ok_isPair {f g : Addr} {fd gd : FuncData} (F : Fun K "is_pair" "is_pair" sIsPair f fd) (FI : Fun K "is_list" "is_list" sIsList g gd) (b : Binds K gd ["thing"] []) (m : mg "is_list" = some (.ref g)) (B : Bl mg) :
    FnOk P w K mg base CX0 2 f fd ["thing"] (spIsPair K) := by
  have G := ok_isList (P := P) (w := w) (base := base) FI B
  refine F.ok scIsPair (fun vs H Q E h => ?_) (fun cdv A outer s H vs Q E hr h => ?_)
  · obtain ⟨v, rfl, _⟩ := h
    rfl
  obtain ⟨v, rfl, h⟩ := h
  refine ⟨_, pss_one (by exact ps_ret (pe_and (pe_call G hr rfl m FI.kp b .nil pass0 (pa_cons (pv 0) pa_nil)) (pe_one (pe_cmpR op_eq (pe_callB call_len_seq rfl B.len PySem.boot_len (pa_cons (pv 0) pa_nil)) pe_int (nomark _))))), ?_⟩
  rcases h with ⟨xs, sv, q⟩ | ⟨⟨t, ty, kt, nt⟩, q⟩
  · obtain ⟨t, ty, kt, st⟩ := sv.ty (K := K)
    refine ⟨_, rfl, v, t, rfl, ty, kt, fun H' e => ⟨_, rfl, ?_⟩⟩
    rw [st]
    refine iteT ?_
    obtain ⟨p, rfl, sq⟩ := (sv.ext e).sq (K := K)
    refine ⟨_, rfl, p, xs, rfl, sq, rfl, ?_⟩
    have z : decide (V.int (xs.length : Int) = V.int 2) = decide (xs.length = 2) := by
      apply decide_eq_decide.mpr
      constructor
      · intro h; have := V.int.inj h; omega
      · intro h; rw [h]; rfl
    rw [z]
    exact q H' e
  · refine ⟨_, rfl, v, t, rfl, ty, kt, fun H' e => ⟨_, rfl, ?_⟩⟩
    rw [nt]
    exact iteF (q H' e)
end
end K1
end
-- KErr
section
set_option Elab.async false
set_option linter.all false
set_option maxRecDepth 100000
set_option maxHeartbeats 4000000
namespace K1
open PySem PySem.Spec PyProof.Rows L2
abbrev sIH : Stmt := inClass (top 3) 0
abbrev sIR : Stmt := inClass (top 4) 0
abbrev sID : Stmt := inClass (top 5) 0
/-- what the written part says of FeastError, at CF -/
structure FeC (K : PySem.W.Frag) (mg : Str → Option Value) (CF : Addr) : Prop where
  m : mg "FeastError" = some (.ref CF)
  sp : PySem.W.specialIn K (.ref CF) "__getattribute__" = some (some (.builtin "type.__getattribute__"))
  rd : PySem.W.readsIn K CF (.type "type") = true
  ini : PySem.W.findCls K (.ref CF) (.type "type") "__init__" = some (.val (.builtin "ValueError.__init__"))
section
variable {X : Cx} {e : Expr} {es : List Expr} {ta : TA} {p1 p2 pos : Pos}
theorem pe_feinit {pl : Sem Bool} {CF : Addr} (hg : Gl X "FeastError") (T : FeC X.K X.mg CF) (ha : PA X (e :: es) ta)
    (hc : eval (.Call (.Attribute (.Name "FeastError" p1) "__init__" p2) (e :: es) [] pos) X.env = (do
      let ov ← eval (.Name "FeastError" p1) X.env
      standAt p2.atName
      let (f, first) ← holding [ov] (getMethod ov "__init__" pl)
      callWith pos f first (backTo pos (starEach (e :: es) X.env)) (backToKw pos (keywordEach [] X.env))) := by rfl)
    (he : starEach (e :: es) X.env = (false, eval e X.env) :: starEach es X.env := by rfl) (hpl : (backTo pos (starEach es X.env)).any (·.1) = false := by rfl) :
    PE X (.Call (.Attribute (.Name "FeastError" p1) "__init__" p2) (e :: es) [] pos) (tVeI X.K ta) := by
  refine ⟨fun pins s σ H Q I h => ?_⟩
  refine PySem.W.methodCall_KW (ld_glob I hg T.m ?_ (by decide)) hc
  refine PySem.W.method_cls I.kIn T.sp (PySem.W.cls_value I.kIn T.rd T.ini (by decide +kernel) ?_)
  show wpAny _ _ (callWith pos (Value.builtin "ValueError.__init__") [] (backTo pos (starEach (e :: es) X.env)) []) _ _ _
  refine PyProof.Rows.callWith_method1 (thn (ha.run pos pins _ σ H _ (I.tok _) h) fun us s1 ⟨vs, H1, I1, r1, a, C, ws, ev, hl, T, ea, q⟩ => ?_) he hpl
  subst ev
  cases r1 with
  | @cons _ u0 _ ur ra rw' =>
    obtain rfl : u0 = Value.ref a := ra
    have hlen : ur.length ≤ sizeLine := by
      rw [← Paired.length rw', sizeLine_eq]
      omega
    exact oinit_ok T I1 ea hlen fun s' J => ⟨.non, H1, J, rfl, q⟩
end
/-- what the written part says of an error's class with one field -/
structure ErC (K : PySem.W.Frag) (mg : Str → Option Value) (x : Str) (C f : Addr) : Prop where
  m : mg x = some (.ref C)
  ox : OexC K C
  no : PySem.W.findIn K (.ref C) "index" = some none
  ini : PySem.W.findIn K (.ref C) "__init__" = some (some (.ref f))
  ty : PySem.W.typeIn K (.ref f) = some (.type "function")
def spErI (C : Addr) : Sp := fun vs H Q _ => ∃ (a : Addr) (v : V), vs = [.ref a, v] ∧ H a = some (exo a C none) ∧ ∀ d, H d = none → d ≠ a → Q .non (upd (upd H d (exd d [("index", v)])) a (exo a C (some d)))
theorem scIH : FnScope ["self", "index"] ["self", "index"] (defScope sIH) := ⟨rfl, rfl, rfl, by decide +kernel, rfl, by decide +kernel, by decide +kernel⟩
theorem scIR : FnScope ["self", "index"] ["self", "index"] (defScope sIR) := ⟨rfl, rfl, rfl, by decide +kernel, rfl, by decide +kernel, by decide +kernel⟩
theorem scID : FnScope ["self", "index"] ["self", "index"] (defScope sID) := ⟨rfl, rfl, rfl, by decide +kernel, rfl, by decide +kernel, by decide +kernel⟩
section
variable {P : Program} {w : World} {K : PySem.W.Frag} {mg : Str → Option Value} {base : Heap} {CF : Addr}
theorem ok_iH {f C : Addr} {fd : FuncData} (F : Fun K "__init__" "BadHouses.__init__" sIH f fd) (T : FeC K mg CF) (TC : ErC K mg "BadHouses" C f) : FnOk P w K mg base CX0 1 f fd ["self", "index"] (spErI C) := by
  refine F.ok scIH (fun vs H Q E h => ?_) (fun cdv A outer s H vs Q E hr h => ?_)
  · obtain ⟨a, v, rfl, _⟩ := h
    rfl
  obtain ⟨a, v, rfl, ha, q⟩ := h
  refine ⟨_, pss_cons (by exact ps_expr (pe_feinit rfl T (pa_cons (pv 0) (pa_cons pe_str pa_nil)))) (pss_one (by exact ps_ost (pv 0) (pv 1))), ?_⟩
  refine ⟨_, rfl, a, C, [.str _], rfl, (by decide), TC.ox, ha, _, rfl, _, rfl, a, C, rfl, TC.ox, TC.no, .inl ⟨ha, fun d hd n => q d hd n⟩⟩
theorem ok_iR {f C : Addr} {fd : FuncData} (F : Fun K "__init__" "BadRoads.__init__" sIR f fd) (T : FeC K mg CF) (TC : ErC K mg "BadRoads" C f) : FnOk P w K mg base CX0 1 f fd ["self", "index"] (spErI C) := by
  refine F.ok scIR (fun vs H Q E h => ?_) (fun cdv A outer s H vs Q E hr h => ?_)
  · obtain ⟨a, v, rfl, _⟩ := h
    rfl
  obtain ⟨a, v, rfl, ha, q⟩ := h
  refine ⟨_, pss_cons (by exact ps_expr (pe_feinit rfl T (pa_cons (pv 0) (pa_cons pe_str pa_nil)))) (pss_one (by exact ps_ost (pv 0) (pv 1))), ?_⟩
  refine ⟨_, rfl, a, C, [.str _], rfl, (by decide), TC.ox, ha, _, rfl, _, rfl, a, C, rfl, TC.ox, TC.no, .inl ⟨ha, fun d hd n => q d hd n⟩⟩
theorem ok_iD {f C : Addr} {fd : FuncData} (F : Fun K "__init__" "BadHeads.__init__" sID f fd) (T : FeC K mg CF) (TC : ErC K mg "BadHeads" C f) : FnOk P w K mg base CX0 1 f fd ["self", "index"] (spErI C) := by
  refine F.ok scID (fun vs H Q E h => ?_) (fun cdv A outer s H vs Q E hr h => ?_)
  · obtain ⟨a, v, rfl, _⟩ := h
    rfl
  obtain ⟨a, v, rfl, ha, q⟩ := h
  refine ⟨_, pss_cons (by exact ps_expr (pe_feinit rfl T (pa_cons (pv 0) (pa_cons pe_str pa_nil)))) (pss_one (by exact ps_ost (pv 0) (pv 1))), ?_⟩
  refine ⟨_, rfl, a, C, [.str _], rfl, (by decide), TC.ox, ha, _, rfl, _, rfl, a, C, rfl, TC.ox, TC.no, .inl ⟨ha, fun d hd n => q d hd n⟩⟩
end
end K1
end
-- KName
section
set_option Elab.async false
set_option linter.all false
set_option maxRecDepth 100000
set_option maxHeartbeats 4000000
namespace K1
open PySem PySem.Spec PyProof.Rows L2
structure Signs (mg : Str → Option Value) : Prop where
  let_ : ∃ t, mg "LETTERS" = some (.str letters t)
  fig : ∃ t, mg "FIGURES" = some (.str figures t)
  lon : ∃ t, mg "LONGEST_NAME" = some (.int 8 t)
theorem map_take_succ {α β : Type} {l : List α} {f : α → β} {i : Nat} {c : α} (h : l[i]? = some c) : (l.take (i + 1)).map f = (l.take i).map f ++ [f c] := by
  rw [List.take_add_one, h]
  simp
section
variable {P : Program} {w : World} {K : PySem.W.Frag} {mg : Str → Option Value} {base : Heap}
theorem ok_isName {f : Addr} {fd : FuncData} (F : Fun K "is_name" "is_name" sIsName f fd) (B : Bl mg) (S : Signs mg) : FnOk P w K mg base CX0 1 f fd ["thing"] (spIsName K) := by
  refine F.ok scIsName (fun vs H Q E h => ?_) (fun cdv A outer s H vs Q E hr h => ?_)
  · obtain ⟨v, rfl, _⟩ := h
    rfl
  obtain ⟨v, rfl, h⟩ := h
  obtain ⟨t1, mL⟩ := S.let_
  obtain ⟨t2, mF⟩ := S.fig
  obtain ⟨t3, mN⟩ := S.lon
  have nd := scIsName.nd
  refine ⟨_, pss_cons (by exact ps_if (PW.pt (pw_or (pt_not (pt_val (pe_callB call_isi rfl B.isi PyProof.Rows.boot_isinstance (pa_cons (pv 0) (pa_cons (pe_bltn (v := .ty "str") rfl B.str PyProof.Rows.boot_str rfl) pa_nil)))))
      (pw_or1 (pt_not (pt_chain op_le op_le pe_int (pe_callB call_len_str rfl B.len PySem.boot_len (pa_cons (pv 0) pa_nil)) (pe_glob (v := .int 8) rfl mN ⟨_, rfl⟩)))))) (pss_one (ps_ret pe_bl)) pss_nil)
    (pss_one (by exact ps_ret (pe_and (pe_cmpR op_in_sign (pe_ix ix_str (pv 0) pe_int (fun _ _ => rfl)) (pe_glob (v := .str letters) rfl mL ⟨_, rfl⟩) (by with_unfolding_all rfl))
      (pe_one (pe_callB (cr_all rfl) rfl B.all PyProof.Rows.boot_all (pa_cons (pe_lc (own := [("sign", 1)]) (g := gName 1) (tt := tYes) rfl nd (by exact pi_str (pv 0))
        (by exact blkOk_by (N := ["thing", "sign"]) (sc := defScope sIsName) (by decide +kernel)) (fun _ _ _ _ _ => by exact pg_name (i := 1) nd rfl (Or.inl rfl)) (fun _ _ _ _ _ => pts_nil)
        (fun _ _ _ _ _ => by exact pe_or (pe_cmpR op_in_sign (pv 1) (pe_glob (v := .str letters) rfl mL ⟨_, rfl⟩) (by with_unfolding_all rfl)) (pe_one (pe_cmpR op_in_sign (pv 1) (pe_glob (v := .str figures) rfl mF ⟨_, rfl⟩) (by with_unfolding_all rfl))))) pa_nil)))))), ?_⟩
  rcases h with ⟨z, rfl, hz, q⟩ | ⟨t, ty, kt, nt, q⟩
  · have zl : z.length ≤ sizeLine := Nat.le_of_lt (small1000 hz)
    refine ⟨_, rfl, .str z, _, _, _, _, rfl, .ty "str", .base (.str z), kit_str (t := "str") (by decide), _, rfl, ?_⟩
    refine iteF ?_
    refine ⟨_, rfl, z, rfl, zl, ?_⟩
    refine ⟨_, _, rfl, rfl, _, rfl, ?_⟩
    have q0 : ∀ H', Same H H' → nameOk z = false → Q (.bl false) H' := fun H' e n => by rw [← n]; exact q H' e
    refine ite2 (fun c1 => ?_) (fun c1 => ?_)
    · refine ⟨_, _, rfl, rfl, _, rfl, ?_⟩
      by_cases c2 : (z.length : Int) ≤ 8
      · rw [decide_eq_true c2]
        refine iteF ?_
        have c1' : (1 : Int) ≤ (z.length : Int) := of_decide_eq_true c1
        have hlen : z.cps.toList.length = z.length := rfl
        obtain ⟨c, r, hcr⟩ : ∃ c r, z.cps.toList = c :: r := by
          cases e : z.cps.toList with
          | nil => rw [e] at hlen; simp at hlen; omega
          | cons c r => exact ⟨c, r, rfl⟩
        have ec : z.cps.toList[0]? = some c := by rw [hcr]; rfl
        have hnm : nameOk z = (decide (c ∈ letters.cps.toList) && z.cps.toList.all okSign) := by
          unfold nameOk
          have d1 : decide (1 ≤ z.length) = true := decide_eq_true (by omega)
          have d2 : decide (z.length ≤ 8) = true := decide_eq_true (by omega)
          rw [d1, d2, Bool.true_and, Bool.true_and]
          rw [hcr]
          rfl
        refine ⟨_, rfl, z, 0, c, rfl, rfl, zl, atI_nat (j := 0) ec, c, letters, rfl, rfl, _, rfl, ?_⟩
        by_cases cl : c ∈ letters.cps.toList
        · rw [decide_eq_true cl]
          refine iteT ?_
          refine ⟨_, rfl, z, rfl, fun D hD => ?_⟩
          refine lc_it walk_str (fun i Hc => Same H Hc ∧ Hc D = some (.lst (((z.cps.toList.take i).map okSign).map V.bl))) ⟨K1.Same.upd hD, upd_same⟩ (fun _ _ _ _ => True.intro) ?_ ?_
          · rintro i x Hc H' hi ⟨e1, e2⟩ ⟨rfl, d, hd, rfl⟩
            have hd' : z.cps.toList[i]? = some d := by rw [Array.getElem?_toList]; exact hd
            refine ⟨rfl, ?_⟩
            unfold tYes
            refine iteT ?_
            refine ⟨_, rfl, d, letters, rfl, rfl, _, rfl, ?_⟩
            have fin : ∀ b, b = okSign d → ∃ acc, H' D = some (.lst acc) ∧ acc.length < sizeLine ∧ Same H (upd H' D (.lst (acc ++ [.bl b]))) ∧ upd H' D (.lst (acc ++ [.bl b])) D = some (.lst (((z.cps.toList.take (i + 1)).map okSign).map V.bl)) := fun b hb => by
              refine ⟨_, e2, ?_, fun a o n => ?_, ?_⟩
              · rw [List.length_map, List.length_map]
                exact small1000 (Nat.le_trans (List.length_take_le _ _) (by have : i < z.cps.toList.length := hi; omega))
              · rw [upd_ne (ne_of_none n hD)]
                exact e1 a o n
              · rw [upd_same, map_take_succ hd', List.map_append, hb]
                rfl
            by_cases cd : d ∈ letters.cps.toList
            · rw [decide_eq_true cd]
              refine iteT (fin true ?_)
              unfold okSign
              rw [decide_eq_true cd, Bool.true_or]
            · rw [decide_eq_false cd]
              refine iteF ⟨_, rfl, d, figures, rfl, rfl, fin _ ?_⟩
              unfold okSign
              rw [decide_eq_false cd, Bool.false_or]
          · rintro Hc ⟨e1, e2⟩
            refine ⟨D, _, rfl, SqL.of e2, ?_⟩
            have ht : z.cps.toList.take z.cps.size = z.cps.toList := List.take_of_length_le (Nat.le_of_eq hlen)
            have : ((z.cps.toList.take z.cps.size).map okSign).all id = nameOk z := by
              rw [ht, hnm, decide_eq_true cl, Bool.true_and, List.all_map]
              rfl
            rw [this]
            exact q Hc e1
        · rw [decide_eq_false cl]
          refine iteF (q0 H (Same.refl H) ?_)
          rw [hnm, decide_eq_false cl, Bool.false_and]
      · rw [decide_eq_false c2]
        refine iteT (q0 H (Same.refl H) ?_)
        unfold nameOk
        have d2 : decide (z.length ≤ 8) = false := decide_eq_false (by omega)
        rw [d2, Bool.false_and, Bool.and_false]
    · have c1' : ¬ (1 : Int) ≤ (z.length : Int) := of_decide_eq_false (Bool.eq_false_iff.mpr c1)
      refine ⟨_, rfl, iteT (q0 H (Same.refl H) ?_)⟩
      unfold nameOk
      have d2 : decide (1 ≤ z.length) = false := decide_eq_false (by omega)
      rw [d2, Bool.false_and]
  · refine ⟨_, rfl, v, _, _, _, _, rfl, .ty "str", ty, kit_str kt, _, rfl, ?_⟩
    rw [decide_eq_false nt]
    exact iteT (iteT q)
end
end K1
end
-- KEnumT
section
set_option Elab.async false
set_option linter.all false
set_option maxRecDepth 100000
set_option maxHeartbeats 4000000
/-! enumerate over a tuple -/
namespace K1E
open PySem
open AutoSeq1 (wpAny_loadPart')
theorem meets_new (l : Addr) (items : Array Value) (n : Nat) (dct : Option Addr) (sl : Array (Option Value)) :
    Meets (Builtin.«enumerate.__new__» ⟨[.type "enumerate", .ref l], []⟩) (fun _ R s => s.heap.get? l = some { cls := .type "tuple", dict := dct, data := .seq items n, slots := sl } ∧
      R (.ok (.ret (.ref (s.heap.push { cls := .type "tuple_iterator", data := .fields #[.ref l, .int 0 0] }).objs.size)))
        { s with heap := (s.heap.push { cls := .type "tuple_iterator", data := .fields #[.ref l, .int 0 0] }).push { cls := .type "enumerate", data := .fields #[.none, .bool false, .ref s.heap.objs.size, rawInt 0, .none, .none] } }) :=
  .of_wp fun prog w A R s h => by
    obtain ⟨hp, g, d, tk, os⟩ := s; obtain ⟨hl, h⟩ := h
    have hsub := sub_enumerate
    have hT : Heap.IsTuple (Shared.heap ⟨hp, g, d, tk, os⟩) l items := ⟨_, hl, rfl, n, rfl⟩
    wp_walk using wpAny_loadPart' hl
    refine wpAny_stack_any fun st => wpAny_pure ?_
    split
    · rename_i c _ _ _ _ _
      cases (c == Value.type "enumerate")
      · wp_walk using wpAny_loadPart' hl, wpAny_pyIter_tuple hT
        exact ⟨_, rfl, h⟩
      · wp_walk using wpAny_loadPart' hl, wpAny_pyIter_tuple hT
        exact ⟨_, rfl, h⟩
    · wp_walk using wpAny_loadPart' hl, wpAny_pyIter_tuple hT
      exact ⟨_, rfl, h⟩
section
variable {prog : Program} {w : World} {A : Around} {E : Value → Shared → Prop} {s : Shared}
theorem call_enum_tuple {l : Addr} {items : Array Value} {Q : Value → Shared → Prop} (hL : s.heap.IsTuple l items)
    (h : ∀ h', IsEnum h' (s.heap.objs.size + 1) s.heap.objs.size 0 .none → h'.IsTupleIter s.heap.objs.size l 0 → h'.objs.size = s.heap.objs.size + 2 →
      (∀ b o, s.heap.get? b = some o → h'.get? b = some o) → Q (.ref (s.heap.objs.size + 1)) { s with heap := h' }) :
    wpAny (model prog w) A (call (.type "enumerate") [.ref l]) Q E s := by
  obtain ⟨⟨c, dct, dt, sl⟩, hl, hc, n, hd⟩ := hL
  replace hc : c = .type "tuple" := hc
  replace hd : dt = .seq items n := hd
  subst hc hd
  refine callType_new F.called_enumerate (by decide) (F.typeCall_enumerate_1 _) (F.newCall_enumerate_1 _) (fun obj => F.args_object_init_2 obj _) F.entry_enumerate_new (meets_new l items n dct sl) ⟨hl, ?_⟩
  have hz : (s.heap.push { cls := .type "tuple_iterator", data := .fields #[.ref l, .int 0 0] }).objs.size = s.heap.objs.size + 1 := Heap.size_push ..
  show _ ∧ _
  rw [hz]
  have he : IsEnum ((s.heap.push { cls := .type "tuple_iterator", data := .fields #[.ref l, .int 0 0] }).push
      { cls := .type "enumerate", data := .fields #[.none, .bool false, .ref s.heap.objs.size, rawInt 0, .none, .none] }) (s.heap.objs.size + 1) s.heap.objs.size 0 .none := by
    have q := Heap.get?_push_size (s.heap.push { cls := .type "tuple_iterator", data := .fields #[.ref l, .int 0 0] })
      (o := { cls := .type "enumerate", data := .fields #[.none, .bool false, .ref s.heap.objs.size, rawInt 0, .none, .none] }) rfl
    rw [hz] at q
    exact q
  exact ⟨⟨_, he, rfl⟩, h _ he ⟨_, Heap.get?_push_of_some _ (Heap.get?_push_size _ rfl), rfl, rfl⟩ (by rw [Heap.size_push, hz]) fun b o y => Heap.get?_push_of_some _ (Heap.get?_push_of_some _ y)⟩
end
end K1E
namespace K1
open PySem PySem.Spec PyProof.Rows L2
/-- the tuple at a, each item in a new pair -/
def IteT (K : PySem.W.Frag) (a : Addr) : It :=
  ⟨fun i H => ∃ (xs : List V) (x : V), SqT K H a xs ∧ xs[i]? = some x, fun i H v H' => ∃ T x, v = .ref T ∧ H T = none ∧ H' = upd H T (.tup [.int (i : Nat), x]) ∧ ∀ xs, SqT K H a xs → xs[i]? = some x, fun i H => ∃ xs : List V, SqT K H a xs ∧ xs.length ≤ i⟩
theorem turn_enumT {P : Program} {w : World} {K : PySem.W.Frag} {elts : List Expr} {kk : Nat} {tpos : Pos} (a e it : Addr) :
    Turn P w K (.Tuple elts kk tpos) (IteT K a) [e, it] e (fun i h => (∃ old, IsEnum h e it ((i : Nat) : Int) old) ∧ h.IsTupleIter it a i ∧ e ≠ it) where
  mem := by simp
  obj := fun i h st b hb => by
    obtain ⟨⟨old, he⟩, ⟨o, ho, hc, hd⟩, _⟩ := st
    have e' : b = e ∨ b = it := by simpa using hb
    rcases e' with z | z
    · rw [z]; exact ⟨_, he, fun v q => nomatch q⟩
    · rw [z]; exact ⟨o, ho, fun v q => by rw [hd] at q; cases q⟩
  keep := fun i h h' st k => let ⟨⟨old, he⟩, hi, hne⟩ := st; ⟨⟨old, k e (by simp) _ he⟩, hi.at fun o q => k it (by simp) o q, hne⟩
  item := by
    intro X hP hw hK hc i pins s σ H E I hf st hg
    subst hP hw hK
    obtain ⟨⟨old, he⟩, hit, hne⟩ := st
    obtain ⟨xs, x, hq, hx⟩ := hg
    obtain ⟨its, rv, p, hz⟩ := I.tuple hq
    obtain ⟨u, hu, ru⟩ := rv.get hx
    have hel : e < s.heap.objs.size := Heap.lt_size he
    have hil : it < s.heap.objs.size := by obtain ⟨_, q, _⟩ := hit; exact Heap.lt_size q
    have p' : s.heap.IsTuple a its.toArray := p
    have hlt : i < its.toArray.size := by
      have hh : i < its.length := by
        rcases Nat.lt_or_ge i its.length with q | q
        · exact q
        · rw [List.getElem?_eq_none q] at hu; cases hu
      simpa using hh
    have hia : it ≠ a := fun z => by
      obtain ⟨o, q1, q2, _⟩ := hit
      obtain ⟨o2, q3, q4, _⟩ := p'
      rw [z, q3] at q1
      have q5 := Option.some.inj q1
      rw [← q5, q4] at q2
      exact absurd q2 (by decide)
    have hea : e ≠ a := fun z => by
      obtain ⟨o2, q3, q4, _⟩ := p'
      have he' : s.heap.get? e = _ := he
      rw [z, q3] at he'
      have q5 := Option.some.inj he'
      rw [q5] at q4
      exact absurd (show Value.type "enumerate" = Value.type "tuple" from q4) (by decide)
    refine wpAny_pyNext_enum_itemD (Draws.tuple (A := X.A.in1) (show X.A.in1.handled = Option.none from I.ok.hd hc) it a hia.symm its.toArray) he ⟨hit, p'⟩ hlt hne (fun z => ?_) fun y h' tk hy ho hst hT hsz hk => ?_
    · rcases List.mem_cons.mp z with z | z
      · exact hne z
      · exact hea (List.mem_singleton.mp z)
    have hyu : y = u := by
      have h1 : its.toArray[i]? = some u := by simpa using hu
      rw [h1] at hy
      exact (Option.some.inj hy).symm
    subst hyu
    refine ⟨_, rfl, wpAny_letOwnedTupleGo_enum (s := { s with heap := h', toks := tk + 1 }) ho fun h'' he' sb => ?_⟩
    have hT2 : h''.get? s.heap.objs.size = some { cls := .type "tuple", data := .seq #[.int i tk, y] } := (sb.2 _ (Nat.ne_of_gt hel)).trans hT
    have new : ObjOk X.prog X.w (upd H s.heap.objs.size (.tup [.int (i : Nat), x])) h'' s.heap.objs.size (.tup [.int (i : Nat), x]) :=
      ⟨by show 2 ≤ sizeLine; decide, [.int i tk, y], .cons ⟨_, rfl⟩ (.cons ru .nil), ⟨_, hT2, rfl, _, rfl⟩⟩
    have I1 : Inv X pins σ (upd H s.heap.objs.size (.tup [.int (i : Nat), x])) { s with heap := h'', toks := tk + 1 } :=
      I.turnedNew (ch := [e, it]) (fun b ob hb q => (sb.2 b (fun z => hb (by simp [z]))).trans (hk b ob (fun z => hb (by simp [z])) (fun z => hb (by simp [z])) q)) hf (Nat.le_refl _) new
    refine ⟨.ref s.heap.objs.size, _, I1, rfl, ⟨_, x, rfl, I.hok.fresh (Nat.le_refl _), rfl, fun ys hy => by rw [I.tuple_inj hy hq]; exact hx⟩, ⟨⟨y, ?_⟩, hst.1.at fun o q => (sb.2 it (Ne.symm hne)).trans q, hne⟩, fun b hb => ?_⟩
    · have e1 : ((i + 1 : Nat) : Int) = (i : Int) + 1 := by omega
      rw [e1]; exact he'
    · have hb' : b < s.heap.objs.size := by
        have e' : b = e ∨ b = it := by simpa using hb
        rcases e' with z | z
        · rw [z]; exact hel
        · rw [z]; exact hil
      rw [upd_ne (Nat.ne_of_lt hb')]
      exact (hf b hb).1
  done := by
    intro X hP hw hK hc i pins s σ H E I hf st hg
    subst hP hw hK
    obtain ⟨⟨old, he⟩, hit, hne⟩ := st
    obtain ⟨xs, hq, hx⟩ := hg
    obtain ⟨its, rv, p, hz⟩ := I.tuple hq
    obtain ⟨f0, f1, f2, f3, f4, f5⟩ := hf it (by simp)
    have hl := rv.length
    have p' : s.heap.IsTuple a its.toArray := p
    have hT : s.TypeIs (.ref e) "enumerate" := ⟨_, he, rfl⟩
    unfold pyNext
    refine wpAny_bind (wpAny_attempt (wpAny_callSpecial?_slot (name := Str.ofString "__next__") hT F.slot_enumerate_next (wpAny_call_entry F.slot_enumerate_next hT F.entry_enumerate_next ?_ (F.args_enumerate_next_1 _))))
    show wpAny _ _ (field (.ref e) 2 >>= _) _ _ _
    refine wpAny_bind (wpAny_field he rfl (x := .ref it) rfl ?_)
    refine wpAny_bind (wpAny_nextOf_tuple_end (I.ok.hd hc) hit p' (by simp; omega) fun h' x he' hx' => ?_)
    obtain ⟨o, ho, hc2⟩ := hx'
    refine wpAny_bind (wpAny_isInstance (T := "StopIteration") (b := true) ⟨o, ho, hc2⟩ isSubtype_stop ?_)
    exact wpAny_pure ⟨rfl, I.turned (t' := s.toks) (fun b o hb q => he' b o hb q) f0 f1 f3 f4 f5⟩
  self := fun A i s Q E st h => let ⟨⟨_, he⟩, _⟩ := st; wpAny_pyIter_enum he h
def iEnumA (K : PySem.W.Frag) (ta : TA) : TI := fun σ H R => ta σ H fun vs H1 => ∃ a xs, vs = [.ref a] ∧ ((SqL K H1 a xs ∧ R (Ite K a) H1) ∨ (SqT K H1 a xs ∧ R (IteT K a) H1))
theorem pi_enumA {X : Cx} {e : Expr} {ta : TA} {p pos tpos : Pos} {elts : List Expr} {kk : Nat} (hg : Gl X "enumerate") (hm : X.mg "enumerate" = none) (ha : PA X [e] ta) (hs : starEach [e] X.env = [(false, eval e X.env)] := by rfl) :
    PI X (.Tuple elts kk tpos) (.Call (.Name "enumerate" p) [e] [] pos) (iEnumA X.K ta) := by
  refine ⟨fun pins s σ H R I h => ?_⟩
  refine Call_ (ld_blt I hg hm boot_enumerate (PyProof.Rows.callWith_type1 (thn (ha.run pos pins s σ H _ I h) fun us s1 ⟨vs, H1, I1, r1, q1⟩ => ?_) hs rfl))
  obtain ⟨a, xs, ex, hq⟩ := q1
  subst ex
  cases r1 with
  | cons r rr =>
    cases rr
    cases r
    rcases hq with ⟨hq, q⟩ | ⟨hq, q⟩
    · obtain ⟨its, rv, p', hz⟩ := I1.list hq
      refine call_enumerate_list p'.isList fun h' he hit hsz hk => wpAny_pyIter_enum he ?_
      have I2 : Inv X pins σ H1 { s1 with heap := h' } := I1.kept (t' := s1.toks) hk
      refine ⟨s1.heap.objs.size + 1, [s1.heap.objs.size + 1, s1.heap.objs.size], _, _, H1, rfl, I2, turn_enum a (s1.heap.objs.size + 1) s1.heap.objs.size, ⟨⟨.none, he⟩, hit, Nat.succ_ne_self _⟩, fun b hb => ?_, q⟩
      have e' : b = s1.heap.objs.size + 1 ∨ b = s1.heap.objs.size := by simpa using hb
      have hle : s1.heap.objs.size ≤ b := by
        rcases e' with z | z
        · rw [z]; exact Nat.le_add_right _ _
        · rw [z]; exact Nat.le_refl _
      exact I1.fpOk hle (I1.hok.fresh hle)
    · obtain ⟨its, rv, p', hz⟩ := I1.tuple hq
      refine K1E.call_enum_tuple (show s1.heap.IsTuple a its.toArray from p') fun h' he hit hsz hk => wpAny_pyIter_enum he ?_
      have I2 : Inv X pins σ H1 { s1 with heap := h' } := I1.kept (t' := s1.toks) hk
      refine ⟨s1.heap.objs.size + 1, [s1.heap.objs.size + 1, s1.heap.objs.size], _, _, H1, rfl, I2, turn_enumT a (s1.heap.objs.size + 1) s1.heap.objs.size, ⟨⟨.none, he⟩, hit, Nat.succ_ne_self _⟩, fun b hb => ?_, q⟩
      have e' : b = s1.heap.objs.size + 1 ∨ b = s1.heap.objs.size := by simpa using hb
      have hle : s1.heap.objs.size ≤ b := by
        rcases e' with z | z
        · rw [z]; exact Nat.le_add_right _ _
        · rw [z]; exact Nat.le_refl _
      exact I1.fpOk hle (I1.hok.fresh hle)
theorem walk_enumT {K : PySem.W.Frag} {a : Addr} {xs : List V} : Walk (IteT K a) xs.length (fun H => SqT K H a xs) (YPair (fun i => some (.int (i : Nat))) (fun i => xs[i]?)) := by
  refine ⟨fun i _ hi q => ⟨xs, xs[i], q, by simp [hi]⟩, fun _ q => ⟨xs, q, Nat.le_refl _⟩, fun i H v H' _ q y => ?_⟩
  obtain ⟨T, x, h1, h2, h3, h4⟩ := y
  exact ⟨T, .int (i : Nat), x, h1, h2, h3, rfl, h4 xs q⟩
end K1
end
-- KSeq
section
set_option Elab.async false
set_option linter.all false
set_option maxRecDepth 100000
set_option maxHeartbeats 4000000
namespace K1
open PySem PySem.Spec PyProof.Rows L2
/-- a list or a tuple at a, of xs -/
def SqA (K : PySem.W.Frag) (H : Hp) (a : Addr) (xs : List V) : Prop := SqL K H a xs ∨ SqT K H a xs
theorem SqT.same {K : PySem.W.Frag} {H H' : Hp} {a : Addr} {xs : List V} (e : Same H H') (h : SqT K H a xs) : SqT K H' a xs := by
  rcases h with (h | ⟨o, h⟩) | h
  · exact .inl (.inl (e _ _ h))
  · exact .inl (.inr ⟨o, e _ _ h⟩)
  · exact .inr h
theorem SqA.same {K : PySem.W.Frag} {H H' : Hp} {a : Addr} {xs : List V} (h : SqA K H a xs) (e : Same H H') : SqA K H' a xs := h.imp e.seq (SqT.same e)
/-- what stands at a still stands there -/
def At1 (a : Addr) (H H' : Hp) : Prop := ∀ o, H a = some o → H' a = some o
theorem At1.l {K : PySem.W.Frag} {H H' : Hp} {a : Addr} {xs : List V} (e : At1 a H H') (h : SqL K H a xs) : SqL K H' a xs := by
  rcases h with (h | ⟨o, h⟩) | h
  · exact .inl (.inl (e _ h))
  · exact .inl (.inr ⟨o, e _ h⟩)
  · exact .inr h
theorem At1.t {K : PySem.W.Frag} {H H' : Hp} {a : Addr} {xs : List V} (e : At1 a H H') (h : SqT K H a xs) : SqT K H' a xs := by
  rcases h with (h | ⟨o, h⟩) | h
  · exact .inl (.inl (e _ h))
  · exact .inl (.inr ⟨o, e _ h⟩)
  · exact .inr h
/-- enumerate of the list or tuple in slot i: by any walk over new pairs -/
def iEnumV (K : PySem.W.Frag) (i : Nat) : TI := fun σ H R => ∃ a xs, σ[i]? = some (some (.ref a)) ∧ SqA K H a xs ∧
  ∀ J G, Walk J xs.length G (YPair (fun i => some (.int (i : Nat))) (fun i => xs[i]?)) → (∀ H', At1 a H H' → G H') → R J H
/-- the items of the list or tuple in slot i -/
def iSeqV (K : PySem.W.Frag) (i : Nat) : TI := fun σ H R => ∃ a xs, σ[i]? = some (some (.ref a)) ∧ SqA K H a xs ∧ ∀ J G, Walk J xs.length G (YAt xs) → (∀ H', At1 a H H' → G H') → R J H
/-- a reading of arguments may be taken weaker -/
theorem PI.imp {X : Cx} {tg iter : Expr} {wi wi' : TI} (h : PI X tg iter wi) (hw : ∀ σ H R, wi' σ H R → wi σ H R) : PI X tg iter wi' := ⟨fun pins s σ H R I q => h.run pins s σ H R I (hw σ H R q)⟩
theorem PG.imp {X : Cx} {tg : Expr} {g g' : TG} (h : PG X tg g) (hw : ∀ v σ H Q, g' v σ H Q → g v σ H Q) : PG X tg g' := ⟨fun pins s σ H v u Q I r q => h.run pins s σ H v u Q I r (hw v σ H Q q)⟩
theorem pi_enumV {X : Cx} (i : Nat) {x : Str} {p px pos tpos : Pos} {elts : List Expr} {kk : Nat} (hg : Gl X "enumerate") (hm : X.mg "enumerate" = none) (hv : PE X (.Name x px) (tVar i)) (hs : starEach [.Name x px] X.env = [(false, eval (.Name x px) X.env)] := by rfl) :
    PI X (.Tuple elts kk tpos) (.Call (.Name "enumerate" p) [.Name x px] [] pos) (iEnumV X.K i) := by
  refine PI.imp (pi_enumA hg hm (pa_cons hv pa_nil) hs) fun σ H R q => ?_
  obtain ⟨a, xs, hσ, hq, q⟩ := q
  rcases hq with hq | hq
  · exact ⟨_, hσ, a, xs, rfl, .inl ⟨hq, q _ _ walk_enum fun H' h' => At1.l h' hq⟩⟩
  · exact ⟨_, hσ, a, xs, rfl, .inr ⟨hq, q _ _ walk_enumT fun H' h' => At1.t h' hq⟩⟩
theorem pi_seqV {X : Cx} {tg : Expr} (i : Nat) {x : Str} {px : Pos} (hv : PE X (.Name x px) (tVar i)) : PI X tg (.Name x px) (iSeqV X.K i) := by
  refine ⟨fun pins s σ H R I q => ?_⟩
  obtain ⟨a, xs, hσ, hq, q⟩ := q
  rcases hq with hq | hq
  · exact (pi_list hv).run pins s σ H R I ⟨_, hσ, a, rfl, ⟨xs, hq⟩, q _ _ walk_list fun H' h' => At1.l h' hq⟩
  · exact (pi_tup hv).run pins s σ H R I ⟨_, hσ, a, rfl, ⟨xs, hq⟩, q _ _ walk_tup fun H' h' => At1.t h' hq⟩
end K1
end
-- KNeed
section
set_option Elab.async false
set_option linter.all false
set_option maxRecDepth 100000
set_option maxHeartbeats 4000000
namespace K1
open PySem PySem.Spec PyProof.Rows L2
abbrev sNH : Stmt := top 19
/-- an error of the class at C with this index goes out; all that was tracked is as it was -/
def Goes (C : Addr) (i : Int) (H : Hp) (E : XK) : Prop := ∀ (d : Addr) (H' : Hp), Same H H' → H d = none → H' d = some (.xd [("index", .int i)]) → E (.ref C) (some d) H'
theorem Goes.ext {C : Addr} {i : Int} {H H1 : Hp} {E : XK} (g : Goes C i H E) (e : Same H H1) : Goes C i H1 E := fun d H' e2 n h => g d H' (e.trans e2) (e.free n) h
/-- good names -/
def Good (ss : List Str) : Prop := ss.Nodup ∧ ∀ s ∈ ss, nameOk s = true ∧ s.length ≤ 1000
theorem mem_take_succ {α : Type} {l : List α} {i : Nat} {u : α} (h : i < l.length) : u ∈ l.take (i + 1) ↔ u ∈ l.take i ∨ u = l[i] := by
  rw [List.take_add_one, List.getElem?_eq_getElem h, Option.toList, List.mem_append, List.mem_singleton]
/-- no name behind these -/
def BadName (K : PySem.W.Frag) (H : Hp) (ss : List Str) (x : V) : Prop := (∃ t, TyX K H x (.type t) ∧ t ∈ kinds ∧ t ≠ "str") ∨ ∃ s, x = .str s ∧ s.length ≤ 1000 ∧ (nameOk s = false ∨ s ∈ ss)
theorem BadName.ext {K : PySem.W.Frag} {H H' : Hp} {ss : List Str} {x : V} (h : BadName K H ss x) (e : Same H H') : BadName K H' ss x := h.imp (fun ⟨t, a, b⟩ => ⟨t, TyX.ext a e, b⟩) id
def spNH (K : PySem.W.Frag) (C : Addr) : Sp := fun vs H Q E => ∃ v, vs = [v] ∧
  ((NoSeq K H v ∧ Goes C 0 H E) ∨ (SeqV H v [] ∧ Goes C 0 H E) ∨
   (∃ ss, SeqV H v (ss.map V.str) ∧ ss ≠ [] ∧ ss.length ≤ 1000 ∧ Good ss ∧ ∀ H', Same H H' → Q .non H') ∨
   (∃ ss x rest, SeqV H v (ss.map V.str ++ x :: rest) ∧ ss.length ≤ 1000 ∧ Good ss ∧ BadName K H ss x ∧ Goes C (ss.length : Nat) H E))
theorem scNH : FnScope ["houses", "seen", "index", "name"] ["houses"] (defScope sNH) := ⟨rfl, rfl, rfl, by decide +kernel, rfl, by decide +kernel, by decide +kernel⟩
/-- what stands behind an error that was made: its dict -/
theorem made_err {C d a : Addr} {v : V} {H : Hp} : upd (del (upd (upd H d (exd d [("index", v)])) a (exo a C (some d))) a) d (.xd [("index", v)]) d = some (.xd [("index", v)]) := upd_same
section
variable {P : Program} {w : World} {K : PySem.W.Frag} {mg : Str → Option Value} {base : Heap} {CF : Addr}
/-- the reading of X(index), as a raise asks it -/
theorem raise_idx {C : Addr} {E : XK} {H0 H : Hp} {i : Int} (g : Goes C i H0 E) (e : Same H0 H) :
    ∀ a, H a = none → spErI C [V.ref a, V.int i] (upd H a (exo a C none)) (fun v H2 => v = .non ∧ ∃ (d : Addr) (fs : List (Str × V)), H2 a = some (exo a C (some d)) ∧ H2 d = some (exd d fs) ∧ H d = none ∧ E (.ref C) (some d) (upd (del H2 a) d (.xd fs))) (fun _ _ _ => False) := by
  intro a ha
  refine ⟨a, .int i, rfl, upd_same, fun d hd hda => ⟨rfl, d, [("index", .int i)], upd_same, ?_, ?_, ?_⟩⟩
  · rw [upd_ne hda, upd_same]
  · rw [upd_ne hda] at hd
    exact hd
  · rw [upd_ne hda] at hd
    refine g d _ (fun b o n => ?_) (e.free hd) upd_same
    have n1 := e b o n
    have b1 : b ≠ a := ne_of_none n1 ha
    have b2 : b ≠ d := ne_of_none n1 hd
    rw [upd_ne b2, del_ne b1, upd_ne b1, upd_ne b2, upd_ne b1]
    exact n1
theorem ok_NH {f g fN fE C : Addr} {fd gd nd ed : FuncData} (F : Fun K "_need_houses" "_need_houses" sNH f fd) (B : Bl mg) (S : Signs mg) (me : mg "enumerate" = none) (ms : mg "set" = none)
    (FI : Fun K "is_list" "is_list" sIsList g gd) (b : Binds K gd ["thing"] []) (m : mg "is_list" = some (.ref g))
    (FN : Fun K "is_name" "is_name" sIsName fN nd) (bN : Binds K nd ["thing"] []) (mN : mg "is_name" = some (.ref fN))
    (T : FeC K mg CF) (TC : ErC K mg "BadHouses" C fE) (FE : Fun K "__init__" "BadHouses.__init__" sIH fE ed) (bE : Binds K ed ["self", "index"] []) :
    FnOk P w K mg base (L2.CX P w) 4 f fd ["houses"] (spNH K C) := by
  have G := ok_isList (P := P) (w := w) (base := base) FI B
  have GN := ok_isName (P := P) (w := w) (base := base) FN B S
  have GE := ok_iH (P := P) (w := w) (base := base) FE T TC
  refine F.okX scNH (fun vs H Q E h => ?_) (fun cdv A outer s H vs Q E hr h => ?_)
  · obtain ⟨v, rfl, _⟩ := h
    rfl
  obtain ⟨v, rfl, h⟩ := h
  have nd := scNH.nd
  have hu := hu_of hr
  have hr1 : Room 1 _ := hr.mono (by decide)
  have hr2 : Room 2 _ := hr.mono (by decide)
  refine ⟨_, pss_cons (by exact (ps_if (PW.pt (pw_or (pt_not (pt_val (pe_call G hr1 rfl m FI.kp b .nil pass0 (pa_cons (pv 0) pa_nil)))) (pw_or1 (pt_cmpR op_eq (pe_callB call_len_seq rfl B.len PySem.boot_len (pa_cons (pv 0) pa_nil)) pe_int (nomark _)))))
      (pss_one (by exact (ps_raise rfl (takes_of rfl rfl rfl rfl) (pmk_oex TC.ox TC.ini TC.ty GE hr2 bE .nil pass0 rfl TC.m (pa_cons pe_int pa_nil))))) pss_nil))
    (pss_cons (by exact (ps_set (i := 1) nd rfl (.inl rfl) (pe_callTy0 cr_set0K rfl ms PyProof.Rows.boot_set)))
    (pss_one (by exact (ps_for (passes_of rfl) rfl (by exact pi_enumV 0 rfl me (pv 0)) (pg_tup rfl (pgs_cons (pg_name (i := 2) nd rfl (.inl rfl)) (pgs_cons (pg_name (i := 3) nd rfl (.inl rfl)) pgs_nil)))
      (pss_cons (by exact (ps_if (PW.pt (pw_or (pt_not (pt_val (pe_call GN hr1 rfl mN FN.kp bN .nil pass0 (pa_cons (pv 3) pa_nil)))) (pw_or1 (pt_cmpR or_sinK (pv 3) (pv 1) (by with_unfolding_all rfl)))))
          (pss_one (by exact (ps_raise rfl (takes_of rfl rfl rfl rfl) (pmk_oex TC.ox TC.ini TC.ty GE hr2 bE .nil pass0 rfl TC.m (pa_cons (pv 2) pa_nil))))) pss_nil))
        (pss_one (by exact (ps_expr (pe_saddK (pv 1) (pa_cons (pv 3) pa_nil)))))))))), ?_⟩
  have two : ∀ xs, SeqV H v xs → ∃ t, TyX K H v (.type t) ∧ t ∈ kinds ∧ isSeqT t = true := fun xs sv => sv.ty
  rcases h with ⟨⟨t, ty, kt, nt⟩, g⟩ | ⟨sv, g⟩ | h
  · refine ⟨_, rfl, v, t, rfl, ty, kt, fun H' e => ⟨_, rfl, ?_⟩⟩
    rw [nt]
    exact iteT (iteT ⟨by decide, raise_idx g e⟩)
  · obtain ⟨t, ty, kt, st⟩ := sv.ty (K := K)
    refine ⟨_, rfl, v, t, rfl, ty, kt, fun H' e => ⟨_, rfl, ?_⟩⟩
    rw [st]
    obtain ⟨p, rfl, sq⟩ := (sv.ext e).sq (K := K)
    exact iteF ⟨_, rfl, p, [], rfl, sq, rfl, _, rfl, iteT ⟨by decide, raise_idx g e⟩⟩
  · -- names: the good ones ss, then perhaps a bad one
    obtain ⟨ss, xs, sv, hne, hl, good, rest⟩ : ∃ (ss : List Str) (xs : List V), SeqV H v xs ∧ xs ≠ [] ∧ ss.length ≤ 1000 ∧ Good ss ∧
        ((xs = ss.map V.str ∧ ∀ H', Same H H' → Q .non H') ∨ (∃ x r, xs = ss.map V.str ++ x :: r ∧ BadName K H ss x ∧ Goes C (ss.length : Nat) H E)) := by
      rcases h with ⟨ss, sv, hne, hl, good, q⟩ | ⟨ss, x, r, sv, hl, good, bad, g⟩
      · exact ⟨ss, _, sv, by simpa using hne, hl, good, .inl ⟨rfl, q⟩⟩
      · exact ⟨ss, _, sv, by simp, hl, good, .inr ⟨x, r, rfl, bad, g⟩⟩
    obtain ⟨t, ty, kt, st⟩ := sv.ty (K := K)
    refine ⟨_, rfl, v, t, rfl, ty, kt, fun H1 e1 => ⟨_, rfl, ?_⟩⟩
    rw [st]
    refine iteF ?_
    obtain ⟨p, rfl, hp⟩ := sv.ext e1
    have sq : SqA K H1 p xs := hp.imp (fun h => SqL.of h) (fun h => SqT.of h)
    have z0 : decide (V.int (xs.length : Int) = V.int 0) = false := decide_eq_false fun z => hne (List.length_eq_zero_iff.mp (by have := V.int.inj z; omega))
    refine ⟨_, rfl, p, xs, rfl, sq, rfl, _, rfl, ?_⟩
    rw [z0]
    refine iteF ?_
    refine ⟨rfl, fun sA hsA => ?_⟩
    have e2 : Same H (upd H1 sA (SetK P w sA (fun _ => false) 0)) := e1.trans (K1.Same.upd hsA)
    have hsA0 : H sA = none := e1.free hsA
    have sq2 : SqA K (upd H1 sA (SetK P w sA (fun _ => false) 0)) p xs := SqA.same (H := H1) sq (K1.Same.upd hsA)
    refine ⟨p, xs, rfl, sq2, fun J G wk hG => ?_⟩
    have xat : ∀ i (hi : i < ss.length), xs[i]? = some (.str ss[i]) := fun i hi => by
      rcases rest with ⟨rfl, _⟩ | ⟨x, r, rfl, _⟩
      · rw [List.getElem?_map, List.getElem?_eq_getElem hi]; rfl
      · rw [List.getElem?_append_left (by rw [List.length_map]; exact hi), List.getElem?_map, List.getElem?_eq_getElem hi]; rfl
    have lng : ss.length ≤ xs.length := by
      rcases rest with ⟨rfl, _⟩ | ⟨x, r, rfl, _⟩
      · simp
      · simp
    refine for_it wk (fun i σ Hc => i ≤ ss.length ∧ (∃ a b, σ = [some (.ref p), some (.ref sA), a, b]) ∧ Same H Hc ∧ (∀ c o, c ≠ sA → upd H1 sA (SetK P w sA (fun _ => false) 0) c = some o → Hc c = some o) ∧
      ∃ (S : Key → Bool) (k : Nat), Hc sA = some (SetK P w sA S k) ∧ k ≤ i ∧ ∀ u : Str, S (.inr u) = decide (u ∈ ss.take i)) ?_ ?_ ?_ ?_
    · exact ⟨Nat.zero_le _, ⟨_, _, rfl⟩, e2, fun c o _ h => h, _, 0, upd_same, Nat.le_refl _, fun u => by simp⟩
    · rintro i σ Hc hi ⟨h1, h2, h3, h4, h5⟩
      have pn : p ≠ sA := hp.elim (fun h => ne_of_none h hsA) (fun h => ne_of_none h hsA)
      exact hG Hc fun o ho => h4 p o pn ho
    · rintro i x σ Hc H' hi ⟨h1, ⟨sa, sb, rfl⟩, h3, h4, S, k, h5, h6, h7⟩ ⟨T, x1, x2, rfl, hT, rfl, e1', e2'⟩
      obtain rfl : x1 = .int (i : Nat) := (Option.some.inj e1').symm
      have e2' : xs[i]? = some x2 := e2'
      have hT2 := K1.Same.upd (H := Hc) (p := T) (o := .tup [.int (i : Nat), x2]) hT
      have eT : Same H (upd Hc T (.tup [.int (i : Nat), x2])) := h3.trans hT2
      refine ⟨T, _, rfl, SqT.of upd_same, rfl, _, _, rfl, _, _, rfl, rfl, ?_⟩
      by_cases hlt : i < ss.length
      · have ex2 : x2 = .str ss[i] := by
          have := xat i hlt
          rw [this] at e2'
          exact (Option.some.inj e2').symm
        subst ex2
        have gi := good.2 ss[i] (List.getElem_mem hlt)
        refine ⟨_, rfl, .str ss[i], rfl, .inl ⟨ss[i], rfl, gi.2, fun H2 f2 => ⟨_, rfl, ?_⟩⟩⟩
        rw [gi.1]
        refine iteF ?_
        have sA2 := f2 _ _ (hT2 _ _ h5)
        have nin : ¬ ss[i] ∈ ss.take i := fun hm => by
          obtain ⟨j, hj, ej⟩ := List.getElem_of_mem hm
          rw [List.length_take] at hj
          rw [List.getElem_take] at ej
          have := (List.getElem_inj good.1).mp ej
          omega
        refine ⟨_, rfl, _, rfl, .inr ss[i], sA, S, k, rfl, rfl, sA2, _, rfl, ?_⟩
        rw [h7, decide_eq_false nin]
        refine iteF ?_
        refine ⟨_, rfl, ⟨sA, S, k, rfl, sA2⟩, _, rfl, sA, .inr ss[i], S, k, rfl, rfl, sA2, (by show k + 1 < 4096; omega), ?_⟩
        refine ⟨hlt, ⟨_, _, rfl⟩, fun c o n => ?_, fun c o n1 n2 => ?_, _, _, upd_same, ?_, fun u => ?_⟩
        · rw [upd_ne (ne_of_none n hsA0)]
          exact f2 _ _ (eT _ _ n)
        · rw [upd_ne n1]
          exact f2 _ _ (hT2 _ _ (h4 c o n1 n2))
        · split <;> omega
        · show (S (.inr u) || decide ((Sum.inr u : Key) = Sum.inr ss[i])) = decide (u ∈ ss.take (i + 1))
          rw [h7, key_rr, ← Bool.decide_or]
          exact decide_eq_decide.mpr (mem_take_succ hlt).symm
      · rcases rest with ⟨rfl, _⟩ | ⟨x, r, hxs, bad, g⟩
        · rw [List.length_map] at hi
          exact absurd hi hlt
        · have ei : i = ss.length := by omega
          subst ei
          have ex2 : x2 = x := by
            rw [hxs, List.getElem?_append_right (by rw [List.length_map]; exact Nat.le_refl _), List.length_map, Nat.sub_self] at e2'
            exact (Option.some.inj e2').symm
          subst ex2
          rcases bad.ext eT with ⟨t, ty, kt, nt⟩ | ⟨u, rfl, hu1, hu2⟩
          · exact ⟨_, rfl, x2, rfl, .inr ⟨t, ty, kt, nt, _, rfl, iteT (iteT ⟨_, rfl, (by show 1 ≤ 1000; decide), raise_idx g eT⟩)⟩⟩
          · refine ⟨_, rfl, .str u, rfl, .inl ⟨u, rfl, hu1, fun H2 f2 => ⟨_, rfl, ?_⟩⟩⟩
            rcases hu2 with hu2 | hu2
            · rw [hu2]
              exact iteT (iteT ⟨_, rfl, (by show 1 ≤ 1000; decide), raise_idx g (eT.trans f2)⟩)
            · cases hn : nameOk u with
              | false => exact iteT (iteT ⟨_, rfl, (by show 1 ≤ 1000; decide), raise_idx g (eT.trans f2)⟩)
              | true =>
                refine iteF ?_
                refine ⟨_, rfl, _, rfl, .inr u, sA, S, k, rfl, rfl, f2 _ _ (hT2 _ _ h5), _, rfl, ?_⟩
                rw [h7, List.take_of_length_le (Nat.le_refl _), decide_eq_true hu2]
                exact iteT ⟨_, rfl, (by show 1 ≤ 1000; decide), raise_idx g (eT.trans f2)⟩
    · rintro σ Hc ⟨h1, h2, h3, h4, h5⟩
      rcases rest with ⟨rfl, q⟩ | ⟨x, r, rfl, bad, g⟩
      · exact q Hc h3
      · rw [List.length_append, List.length_map, List.length_cons] at h1
        omega
end
end K1
end
-- KUF
section
set_option Elab.async false
set_option linter.all false
set_option maxRecDepth 100000
set_option maxHeartbeats 4000000
namespace K1
open PySem PySem.Spec PyProof.Rows L2
/-- the dict of leaders: rt tells whom one comes to at last, rk falls on the way -/
structure UF (hs : List Str) (kvs : List (Key × V)) (rt : Str → Str) (rk : Str → Nat) : Prop where
  len : kvs.length ≤ hs.length
  ex : ∃ ld : Str → Str, (∀ s, valV kvs (.inr s) = if s ∈ hs then some (.str (ld s)) else none) ∧
    ∀ s ∈ hs, ld s ∈ hs ∧ rt (ld s) = rt s ∧ rt s ∈ hs ∧ (ld s = s → rt s = s) ∧ (ld s ≠ s → rk (ld s) < rk s) ∧ ld (rt s) = rt s
theorem putK_len {kvs : List (Key × V)} {k : Key} {v : V} (h : (valV kvs k).isSome = true) : (putK kvs k v).length = kvs.length := by
  unfold putK
  rw [← valV_any] at h
  rw [if_pos h, List.length_map]
theorem ite_rr {α : Type} (s x : Str) (p q : α) : (if (Sum.inr s : Key) = Sum.inr x then p else q) = if s = x then p else q := by
  by_cases e : s = x
  · rw [if_pos e, if_pos (by rw [e])]
  · rw [if_neg e, if_neg (fun z => e (Sum.inr.inj z))]
/-- the way is made shorter -/
theorem UF.halve {hs : List Str} {kvs : List (Key × V)} {rt : Str → Str} {rk : Str → Nat} {x : Str} (u : UF hs kvs rt rk) (hx : x ∈ hs) :
    ∃ y, valV kvs (.inr x) = some (.str y) ∧ y ∈ hs ∧ (y = x → rt x = x) ∧ (y ≠ x → ∃ z, valV kvs (.inr y) = some (.str z) ∧ z ∈ hs ∧ rk z < rk x ∧ rt z = rt x ∧ UF hs (putK kvs (.inr x) (.str z)) rt rk) := by
  obtain ⟨hl, ld, h1, h2⟩ := u
  have a := h2 x hx
  have b := h2 (ld x) a.1
  refine ⟨ld x, by rw [h1, if_pos hx], a.1, a.2.2.2.1, fun ne => ⟨ld (ld x), by rw [h1, if_pos a.1], b.1, ?_, by rw [b.2.1, a.2.1], ?_⟩⟩
  · have r1 := a.2.2.2.2.1 ne
    by_cases e : ld (ld x) = ld x
    · rw [e]; exact r1
    · exact Nat.lt_trans (b.2.2.2.2.1 e) r1
  · refine ⟨?_, fun s => if s = x then ld (ld x) else ld s, fun s => ?_, fun s hs' => ?_⟩
    · rw [putK_len (by rw [h1, if_pos hx]; rfl)]
      exact hl
    · rw [valV_put, ite_rr]
      show _ = if s ∈ hs then some (V.str (if s = x then ld (ld x) else ld s)) else none
      by_cases e : s = x
      · rw [if_pos e, if_pos e, e, if_pos hx]
      · rw [if_neg e, if_neg e, h1]
    · have c := h2 s hs'
      have rx : rt s ≠ x := fun e => by
        have q := c.2.2.2.2.2
        rw [e] at q
        exact ne q
      by_cases e : s = x
      · subst e
        simp only [if_true]
        refine ⟨b.1, by rw [b.2.1, a.2.1], c.2.2.1, fun e2 => ?_, fun e2 => ?_, by rw [if_neg rx]; exact c.2.2.2.2.2⟩
        · exfalso
          have r1 := a.2.2.2.2.1 ne
          by_cases e3 : ld (ld s) = ld s
          · rw [e3] at e2; exact ne e2
          · have r2 := b.2.2.2.2.1 e3
            rw [e2] at r2
            omega
        · have r1 := a.2.2.2.2.1 ne
          by_cases e3 : ld (ld s) = ld s
          · rw [e3]; exact r1
          · exact Nat.lt_trans (b.2.2.2.2.1 e3) r1
      · simp only [if_neg e, if_neg rx]
        exact c
theorem UF.start {hs : List Str} (nd : hs.Nodup) : UF hs (hs.map fun s => ((.inr s : Key), V.str s)) (fun s => s) (fun _ => 0) := by
  refine ⟨by rw [List.length_map]; exact Nat.le_refl _, fun s => s, fun s => ?_, fun s h => ⟨h, rfl, h, fun _ => rfl, fun e => absurd rfl e, rfl⟩⟩
  induction hs with
  | nil => rfl
  | cons a r ih =>
    have n := List.nodup_cons.mp nd
    by_cases e : a = s
    · subst e
      rw [List.map_cons, valV_pos rfl, if_pos (List.mem_cons_self ..)]
    · rw [List.map_cons, valV_neg (fun q => e (Sum.inr.inj q)), ih n.2]
      by_cases m : s ∈ r
      · rw [if_pos m, if_pos (List.mem_cons_of_mem _ m)]
      · rw [if_neg m, if_neg (fun q => (List.mem_cons.mp q).elim (fun z => e z.symm) m)]
/-- two that lead are joined -/
def joinRt (rt : Str → Str) (a b : Str) : Str → Str := fun s => if rt s = rt a then rt b else rt s
theorem UF.join {hs : List Str} {kvs : List (Key × V)} {rt : Str → Str} {rk : Str → Nat} {a b : Str} (u : UF hs kvs rt rk) (ha : a ∈ hs) (hb : b ∈ hs) (ne : rt a ≠ rt b) :
    ∃ rk', UF hs (putK kvs (.inr (rt a)) (.str (rt b))) (joinRt rt a b) rk' := by
  obtain ⟨hl, ld, h1, h2⟩ := u
  have ca := h2 a ha
  have cb := h2 b hb
  have rra : rt (rt a) = rt a := (h2 _ ca.2.2.1).2.2.2.1 ca.2.2.2.2.2
  have rrb : rt (rt b) = rt b := (h2 _ cb.2.2.1).2.2.2.1 cb.2.2.2.2.2
  refine ⟨fun s => if rt s = rt a then rk s + rk (rt b) + 1 else rk s, ?_, fun s => if s = rt a then rt b else ld s, fun s => ?_, fun s hs' => ?_⟩
  · rw [putK_len (by rw [h1, if_pos ca.2.2.1]; rfl)]
    exact hl
  · rw [valV_put, ite_rr]
    show _ = if s ∈ hs then some (V.str (if s = rt a then rt b else ld s)) else none
    by_cases e : s = rt a
    · rw [if_pos e, if_pos e, e, if_pos ca.2.2.1]
    · rw [if_neg e, if_neg e, h1]
  · have c := h2 s hs'
    unfold joinRt
    by_cases e : s = rt a
    · subst e
      simp only [if_true, rra, rrb, if_neg ne.symm]
      refine ⟨cb.2.2.1, trivial, cb.2.2.1, fun z => z, fun _ => by omega, cb.2.2.2.2.2⟩
    · simp only [if_neg e]
      rw [c.2.1]
      by_cases q : rt s = rt a
      · simp only [if_pos q, if_neg ne.symm, rrb]
        refine ⟨c.1, trivial, cb.2.2.1, fun z => ?_, fun z => ?_, cb.2.2.2.2.2⟩
        · exact absurd ((c.2.2.2.1 z).symm.trans q) e
        · have := c.2.2.2.2.1 z
          omega
      · simp only [if_neg q]
        refine ⟨c.1, trivial, c.2.2.1, c.2.2.2.1, c.2.2.2.2.1, ?_⟩
        exact c.2.2.2.2.2
end K1
end
-- KLead
section
set_option Elab.async false
set_option linter.all false
set_option maxRecDepth 100000
set_option maxHeartbeats 4000000
namespace K1
open PySem PySem.Spec PyProof.Rows L2
abbrev sLead : Stmt := top 22
abbrev sKeys : Stmt := top 21
def spLead : Sp := fun vs H Q _ => ∃ (a : Addr) (h : Str) (kvs : List (Key × V)) (hs : List Str) (rt : Str → Str) (rk : Str → Nat), vs = [.ref a, .str h] ∧ H a = some (.dK kvs) ∧ UF hs kvs rt rk ∧ h ∈ hs ∧ hs.length ≤ 1000 ∧
  ∀ kvs', UF hs kvs' rt rk → Q (.str (rt h)) (upd H a (.dK kvs'))
theorem scLead : FnScope ["leads", "house"] ["leads", "house"] (defScope sLead) := ⟨rfl, rfl, rfl, by decide +kernel, rfl, by decide +kernel, by decide +kernel⟩
def muLead (rk : Str → Nat) (σ : L2.St) : Nat := match σ with
  | [_, some (.str x)] => rk x
  | _ => 0
section
variable {P : Program} {w : World} {K : PySem.W.Frag} {mg : Str → Option Value} {base : Heap}
theorem ok_lead {f : Addr} {fd : FuncData} (F : Fun K "_leader" "_leader" sLead f fd) : FnOk P w K mg base CX0 1 f fd ["leads", "house"] spLead := by
  refine F.ok scLead (fun vs H Q E h => ?_) (fun cdv A outer s H vs Q E hr h => ?_)
  · obtain ⟨a, h, kvs, hs, rt, rk, rfl, _⟩ := h
    rfl
  obtain ⟨a, h, kvs, hs, rt, rk, rfl, ha, u, hh, hl, q⟩ := h
  have nd := scLead.nd
  have hu := hu_of hr
  refine ⟨_, pss_cons (by exact (ps_while PassesOwn.never (pt_cmpR op_ne (pe_dget hu (pv 0) (pv 1) (fun _ _ => rfl)) (pv 1) (nomark _))
      (pss_cons (by exact (ps_dput hu (pv 0) (pv 1) (pe_dget hu (pv 0) (pe_dget hu (pv 0) (pv 1) (fun _ _ => rfl)) (fun _ _ => rfl)) rfl))
      (pss_one (by exact (ps_set (i := 1) nd rfl (.inl rfl) (pe_dget hu (pv 0) (pv 1) (fun _ _ => rfl))))))))
    (pss_one (by exact (ps_ret (pv 1)))), ?_⟩
  refine while_by (fun σ Hc => ∃ kvs' x, σ = [some (.ref a), some (.str x)] ∧ Hc = upd H a (.dK kvs') ∧ UF hs kvs' rt rk ∧ x ∈ hs ∧ rt x = rt h) (fun σ _ => muLead rk σ) ⟨kvs, h, rfl, ?_, u, hh, rfl⟩ ?_ ?_
  · funext b
    by_cases e : b = a
    · rw [e, upd_same, ha]
    · rw [upd_ne e]
  · rintro σ Hc ⟨kvs', x, rfl, rfl, u', hx, er⟩
    obtain ⟨y, g1, hy, e1, e2⟩ := u'.halve hx
    have hd : upd H a (.dK kvs') a = some (.dK kvs') := upd_same
    have dg : ∀ {s z}, valV kvs' (.inr s) = some z → DGet (upd H a (.dK kvs')) a (.str s) (some z) := fun {s z} g => by
      have q := DGet.k (k := .inr s) hd
      rw [g] at q
      exact q
    refine ⟨_, rfl, _, rfl, a, .str y, rfl, dg g1, _, rfl, rfl, _, rfl, ?_⟩
    by_cases e : y = x
    · subst e
      rw [decide_eq_true rfl]
      refine iteF ⟨_, rfl, ?_⟩
      have := q kvs' u'
      rw [← er, e1 rfl] at this
      exact this
    · have ne : (!decide (V.str y = V.str x)) = true := by rw [decide_eq_false (fun z => e (V.str.inj z))]; rfl
      rw [ne]
      refine iteT ?_
      obtain ⟨z, g2, hz, lt, er2, u2⟩ := e2 e
      have dp : DPut (upd H a (.dK kvs')) a (.str x) (.str z) (upd (upd H a (.dK kvs')) a (.dK (putK kvs' (.inr x) (.str z)))) := DPut.k (k := .inr x) hd (Nat.lt_of_le_of_lt u'.len (small1000 hl))
      rw [upd_upd] at dp
      refine ⟨_, rfl, _, rfl, _, rfl, a, .str y, rfl, dg g1, a, .str z, rfl, dg g2, _, rfl, _, rfl, a, _, rfl, dp, ?_⟩
      have g3 : valV (putK kvs' (.inr x) (.str z)) (.inr x) = some (.str z) := by rw [valV_put, if_pos rfl]
      have dg3 : DGet (upd H a (.dK (putK kvs' (.inr x) (.str z)))) a (.str x) (some (.str z)) := by
        have q := DGet.k (k := .inr x) (show upd H a (.dK (putK kvs' (.inr x) (.str z))) a = some (.dK (putK kvs' (.inr x) (.str z))) from upd_same)
        rw [g3] at q
        exact q
      exact ⟨_, rfl, _, rfl, a, .str z, rfl, dg3, ⟨_, z, rfl, rfl, u2, hz, er2.trans er⟩, lt⟩
  · rintro σ Hc Q1 Q2 hQ ⟨v1, h1, v2, h2, a', v3, h3, h4, v5, h5, h6, k, h7, h8⟩
    exact ⟨v1, h1, v2, h2, a', v3, h3, h4, v5, h5, h6, k, h7, hQ _ _ h8⟩
end
end K1
end
-- KKeys
section
set_option Elab.async false
set_option linter.all false
set_option maxRecDepth 100000
set_option maxHeartbeats 4000000
namespace K1
open PySem PySem.Spec PyProof.Rows L2
def isKey (hs : List Str) : V → Bool
  | .str s => decide (s ∈ hs)
  | _ => false
/-- a text, or a value of another known type -/
def TextOr (K : PySem.W.Frag) (H : Hp) (x : V) : Prop := (∃ s, x = .str s) ∨ ∃ t, TyX K H x (.type t) ∧ t ∈ kinds ∧ t ≠ "str"
theorem TextOr.ext {K : PySem.W.Frag} {H H' : Hp} {x : V} (h : TextOr K H x) (e : Same H H') : TextOr K H' x := h.imp id fun ⟨t, a, b⟩ => ⟨t, TyX.ext a e, b⟩
theorem isKey_no {K : PySem.W.Frag} {H : Hp} {hs : List Str} {x : V} {t : String} (h : TyX K H x (.type t)) (n : t ≠ "str") : isKey hs x = false := by
  cases x with
  | str s =>
    exfalso
    cases h with
    | base b =>
      cases b with
      | str y => exact n rfl
  | _ => rfl
theorem dc_it {J : It} {n : Nat} {G : Hp → Prop} {Y : Nat → Hp → V → Hp → Prop} (w : Walk J n G Y) {g : TG} {tt : TT} {tk tv : TE} {vs : List Nat} {σ : L2.St} {H1 : Hp} {D : Addr} {Qd : Hp → Prop} (Pv : Nat → Hp → Prop) (h0 : Pv 0 (upd H1 D (.dK []))) (hG : ∀ i H, i ≤ n → Pv i H → G H)
    (hs : ∀ i x H H', i < n → Pv i H → Y i H x H' → g x (wipe σ vs) H' fun σ2 H2 => wipe σ2 vs = wipe σ vs ∧ tt σ2 H2 fun b H3 =>
      if b = true then tk σ2 H3 fun y H4 => tv σ2 H4 fun z H5 => ∃ kvs k, y = kV k ∧ H5 D = some (.dK kvs) ∧ kvs.length < sizeLine ∧ Pv (i + 1) (upd H5 D (.dK (putK kvs k z))) else Pv (i + 1) H3) (hd : ∀ H, Pv n H → Qd H) :
    ∃ W : Nat → Nat → Hp → Prop, (∃ m, W 0 m (upd H1 D (.dK []))) ∧ ∀ i m H, W i m H →
      (J.stop i H ∧ Qd H) ∨ (J.go i H ∧ ∃ Nx : Hp → Prop, (∀ H', Nx H' → ∃ m', m' < m ∧ W (i + 1) m' H') ∧ ∀ x H', J.yld i H x H' → g x (wipe σ vs) H' fun σ2 H2 => wipe σ2 vs = wipe σ vs ∧ tt σ2 H2 fun b H3 =>
        if b = true then tk σ2 H3 fun y H4 => tv σ2 H4 fun z H5 => ∃ kvs k, y = kV k ∧ H5 D = some (.dK kvs) ∧ kvs.length < sizeLine ∧ Nx (upd H5 D (.dK (putK kvs k z))) else Nx H3) := by
  refine ⟨fun i m H => m = n - i ∧ i ≤ n ∧ Pv i H, ⟨n, by simp, Nat.zero_le _, h0⟩, ?_⟩
  rintro i m H ⟨rfl, hi, p⟩
  have q := hG i H hi p
  by_cases hlt : i < n
  · exact .inr ⟨w.goes i H hlt q, Pv (i + 1), fun H' p' => ⟨n - (i + 1), by omega, rfl, hlt, p'⟩, fun x H' y => hs i x H H' hlt p (w.yields i H x H' hlt q y)⟩
  · have e : i = n := by omega
    subst e
    exact .inl ⟨w.stops H q, hd H p⟩
def spKeys (K : PySem.W.Frag) : Sp := fun vs H Q _ => ∃ (v : V) (d : Addr) (xs : List V) (kvs : List (Key × V)) (hs : List Str), vs = [v, .ref d] ∧ SeqV H v xs ∧ xs.length ≤ 1000 ∧ (∀ x ∈ xs, TextOr K H x) ∧ H d = some (.dK kvs) ∧ (∀ s, (valV kvs (.inr s)).isSome = decide (s ∈ hs)) ∧
  ∀ H', Same H H' → Q (.bl (xs.all (isKey hs))) H'
theorem scKeys : FnScope ["things", "table", "thing"] ["things", "table"] (defScope sKeys) := ⟨rfl, rfl, rfl, by decide +kernel, rfl, by decide +kernel, by decide +kernel⟩
section
variable {P : Program} {w : World} {K : PySem.W.Frag} {mg : Str → Option Value} {base : Heap}
theorem ok_keys {f : Addr} {fd : FuncData} (F : Fun K "_are_keys" "_are_keys" sKeys f fd) (B : Bl mg) : FnOk P w K mg base CX0 1 f fd ["things", "table"] (spKeys K) := by
  refine F.ok scKeys (fun vs H Q E h => ?_) (fun cdv A outer s H vs Q E hr h => ?_)
  · obtain ⟨v, d, xs, kvs, hs, rfl, _⟩ := h
    rfl
  obtain ⟨v, d, xs, kvs, hs, rfl, sv, hl, ht, hd, hk, q⟩ := h
  have nd := scKeys.nd
  have hu := hu_of hr
  refine ⟨_, pss_one (by exact ps_ret (pe_callB (cr_all rfl) rfl B.all PyProof.Rows.boot_all (pa_cons (pe_lc (own := [("thing", 2)]) (g := gName 2) (tt := tYes)
      (te := tAndV (tCB (rIsi K) (tCons (tVar 2) (tCons (tC (.ty "str")) tNil))) (tDIn (tVar 2) (tVar 1))) rfl nd (by exact pi_seqV 0 (pv 0))
        (by exact blkOk_by (N := ["things", "table", "thing"]) (sc := defScope sKeys) (by decide +kernel)) (fun _ _ _ _ _ => by exact pg_name (i := 2) nd rfl (Or.inl rfl)) (fun _ _ _ _ _ => pts_nil)
        (fun _ _ _ _ _ => by exact pe_and (pe_callB call_isi rfl B.isi PyProof.Rows.boot_isinstance (pa_cons (pv 2) (pa_cons (pe_bltn (v := .ty "str") rfl B.str PyProof.Rows.boot_str rfl) pa_nil))) (pe_one (pe_cmp (pc_din hu (pv 2) (pv 1)) (by with_unfolding_all rfl))))) pa_nil))), ?_⟩
  obtain ⟨p, rfl, hp⟩ := sv
  have sq : SqA K H p xs := hp.imp (fun h => SqL.of h) (fun h => SqT.of h)
  refine ⟨p, xs, rfl, sq, fun J G wk hG D hD => ?_⟩
  refine lc_it wk (fun i Hc => Same H Hc ∧ Hc D = some (.lst (((xs.take i).map (isKey hs)).map V.bl))) ⟨K1.Same.upd hD, upd_same⟩ (fun i Hc _ h => hG Hc fun o ho => h.1 _ _ ho) ?_ ?_
  · rintro i x Hc H' hi ⟨e1, e2⟩ ⟨rfl, hx⟩
    refine ⟨rfl, ?_⟩
    unfold tYes
    refine iteT ?_
    have fin : ∀ b, b = isKey hs x → ∃ acc, H' D = some (.lst acc) ∧ acc.length < sizeLine ∧ Same H (upd H' D (.lst (acc ++ [.bl b]))) ∧ upd H' D (.lst (acc ++ [.bl b])) D = some (.lst (((xs.take (i + 1)).map (isKey hs)).map V.bl)) := fun b hb => by
      refine ⟨_, e2, ?_, fun a o n => ?_, ?_⟩
      · rw [List.length_map, List.length_map]
        exact small1000 (Nat.le_trans (List.length_take_le _ _) (by omega))
      · rw [upd_ne (ne_of_none n hD)]
        exact e1 a o n
      · rw [upd_same, map_take_succ hx, List.map_append, hb]
        rfl
    rcases (ht x (List.mem_of_getElem? hx)).ext e1 with ⟨s, rfl⟩ | ⟨t, ty, kt, nt⟩
    · refine ⟨_, rfl, .str s, _, _, _, _, rfl, .ty "str", .base (.str s), kit_str (t := "str") (by decide), _, rfl, ?_⟩
      refine iteT ⟨_, rfl, _, rfl, d, _, rfl, DGet.k (k := .inr s) (e1 _ _ hd), fin _ ?_⟩
      rw [hk]
      rfl
    · refine ⟨_, rfl, x, _, _, _, _, rfl, .ty "str", ty, kit_str kt, _, rfl, ?_⟩
      rw [decide_eq_false nt]
      exact iteF (fin _ (isKey_no ty nt).symm)
  · rintro Hc ⟨e1, e2⟩
    refine ⟨D, _, rfl, SqL.of e2, ?_⟩
    have : ((xs.take xs.length).map (isKey hs)).all id = xs.all (isKey hs) := by
      rw [List.take_length, List.all_map]
      rfl
    rw [this]
    exact q Hc e1
end
end K1
end
-- KRoads
section
set_option Elab.async false
set_option linter.all false
set_option maxRecDepth 100000
set_option maxHeartbeats 4000000
namespace K1
open PySem PySem.Spec PyProof.Rows L2
abbrev sNR : Stmt := top 20
/-- whom one comes to, these roads joined one after another -/
def rtOf (rs : List (Str × Str)) : Str → Str := rs.foldl (fun rt e => joinRt rt e.1 e.2) fun s => s
theorem rtOf_snoc {rs : List (Str × Str)} {e : Str × Str} : rtOf (rs ++ [e]) = joinRt (rtOf rs) e.1 e.2 := by
  unfold rtOf
  rw [List.foldl_append]
  rfl
theorem rtOf_succ {rs : List (Str × Str)} {i : Nat} (h : i < rs.length) : rtOf (rs.take (i + 1)) = joinRt (rtOf (rs.take i)) rs[i].1 rs[i].2 := by
  rw [List.take_add_one, List.getElem?_eq_getElem h]
  exact rtOf_snoc
def EndsIn (ss : List Str) (rs : List (Str × Str)) : Prop := ∀ r ∈ rs, r.1 ∈ ss ∧ r.2 ∈ ss
def Forest (rs : List (Str × Str)) : Prop := ∀ i (h : i < rs.length), rtOf (rs.take i) rs[i].1 ≠ rtOf (rs.take i) rs[i].2
def PairV (H : Hp) (x : V) (r : Str × Str) : Prop := SeqV H x [.str r.1, .str r.2]
def BadRoad (K : PySem.W.Frag) (H : Hp) (ss : List Str) (rs : List (Str × Str)) (x : V) : Prop :=
  NoSeq K H x ∨ (∃ ys, SeqV H x ys ∧ ys.length ≠ 2) ∨ (∃ y z, SeqV H x [y, z] ∧ TextOr K H y ∧ TextOr K H z ∧ (isKey ss y && isKey ss z) = false) ∨
  (∃ a b, SeqV H x [.str a, .str b] ∧ a ∈ ss ∧ b ∈ ss ∧ rtOf rs a = rtOf rs b)
theorem BadRoad.ext {K : PySem.W.Frag} {H H' : Hp} {ss : List Str} {rs : List (Str × Str)} {x : V} (h : BadRoad K H ss rs x) (e : Same H H') : BadRoad K H' ss rs x := by
  rcases h with h | ⟨ys, h, n⟩ | ⟨y, z, h, a, b, c⟩ | ⟨a, b, h, q⟩
  · exact .inl (h.ext e)
  · exact .inr (.inl ⟨ys, h.ext e, n⟩)
  · exact .inr (.inr (.inl ⟨y, z, h.ext e, a.ext e, b.ext e, c⟩))
  · exact .inr (.inr (.inr ⟨a, b, h.ext e, q⟩))
theorem paired_get {α β : Type} {F : α → β → Prop} : ∀ {xs : List α} {ys : List β}, Paired F xs ys → ∀ {i : Nat} (h : i < ys.length), ∃ x, xs[i]? = some x ∧ F x ys[i]
  | _, _, .cons f r, 0, _ => ⟨_, rfl, f⟩
  | _, _, .cons f r, i + 1, h => by
    obtain ⟨x, e, q⟩ := paired_get r (i := i) (by simpa using h)
    exact ⟨x, by simpa using e, q⟩
theorem paired_imp {α β : Type} {F G : α → β → Prop} (h : ∀ a b, F a b → G a b) : ∀ {xs : List α} {ys : List β}, Paired F xs ys → Paired G xs ys
  | _, _, .nil => .nil
  | _, _, .cons f r => .cons (h _ _ f) (paired_imp h r)
theorem ixA {K : PySem.W.Frag} {H : Hp} {v y : V} {xs : List V} {i : Int} {Q : VK} (s : SeqV H v xs) (e : atI xs i = some y) (q : Q y H) : rIx K v (.int i) H Q := by
  obtain ⟨p, rfl, h | h⟩ := s
  · exact .inl ⟨p, xs, i, y, rfl, rfl, SqL.of h, e, q⟩
  · exact .inr (.inl ⟨p, xs, i, y, rfl, rfl, SqT.of h, e, q⟩)
section
variable {X : Cx}
/-- name = {..} on one line, the name a local -/
theorem ps_setDc {i : Nat} {y : Str} {py : Pos} {kx vx tg iter : Expr} {ifs : List Expr} {scope : Scope} {own : List (Str × Nat)} {pos spos : Pos} {wi : TI} {g : TG} {tt : TT} {tk tv : TE} (hc : X.calm = true) (hN : X.N.Nodup) (hy : X.N[i]? = some y) (hyl : X.env.scope.names.lookup y = some .local)
    (hsw : swapsWith (.DictComp kx vx [⟨tg, iter, ifs, 0⟩] scope pos) (some (.Name y py)) spos.line X.env = pure true) (hi : PI X tg iter wi) (ok : BlkOk X.N X.env.scope scope own)
    (hg : ∀ (s : Shared) (H : Hp) (C : Addr) (cl : List (Str × Addr)) (fp : List Addr), PG (X.blk s H scope (compEnvC scope cl C X.env) fp) tg g) (ht : ∀ (s : Shared) (H : Hp) (C : Addr) (cl : List (Str × Addr)) (fp : List Addr), PTs (X.blk s H scope (compEnvC scope cl C X.env) fp) ifs tt)
    (hk : ∀ (s : Shared) (H : Hp) (C : Addr) (cl : List (Str × Addr)) (fp : List Addr), PE (X.blk s H scope (compEnvC scope cl C X.env) fp) kx tk)
    (he : ∀ (s : Shared) (H : Hp) (C : Addr) (cl : List (Str × Addr)) (fp : List Addr), PE (X.blk s H scope (compEnvC scope cl C X.env) fp) vx tv) (hs : ∀ x, foldedSetIterable iter X.env x = pure x := by intro _; rfl) :
    PS X (.Assign [.Name y py] (.DictComp kx vx [⟨tg, iter, ifs, 0⟩] scope pos) spos) (tAsg (tDc wi g tt tk tv (own.map (·.2))) (gName i)) := by
  refine ⟨fun pins s σ H D I h => ?_⟩
  rw [exec_Assign_Name_used _ _ _ _ hsw]
  refine wpAny_bind (wpAny_standAt (wpAny_bind ?_))
  show wpAny _ X.A (do let _ ← comprehension (.DictComp kx vx [⟨tg, iter, ifs, 0⟩] scope pos) scope X.env (firstIterPos [⟨tg, iter, ifs, 0⟩] pos) newDict false (eval iter X.env) (some (assign (.Name y py) X.env))) _ _ s
  have h : tDc wi g tt tk tv (own.map (·.2)) σ H (fun x H1 => gName i x σ H1 D.nx) := h
  refine wpAny_bind (thn (dc_core (Qf := fun _ s' => SP X pins D .next s') hc hN I hi ok hg ht hk he hs h fun L C s' m H' I' q hn f => ?_) fun _ s' hq => wpAny_pure (wpAny_pure hq))
  show wpAny _ _ (assign (.Name y py) X.env (.ref L)) _ _ _
  refine wpAny_assign_Name (store_ok2 (v := V.ref L) I' hN hy (.inl hyl) rfl (fun s2 I2 ⟨a, sb, ha⟩ => ?_) (.inr hyl))
  obtain ⟨f0, f1, f2, f3, f4, f5⟩ := f
  have haC : C ≠ a := by
    rcases ha with z | z
    · rw [z]; exact f1
    · exact fun e => f4 y a z e.symm
  refine ⟨m, hn.sameBut sb haC, fun h3 sb3 => ?_⟩
  exact ⟨_, H', I2.turned (t' := s2.toks) (fun b o hb e => (sb3.2 b hb).trans e) f0 f1 f3 f4 f5, q⟩
theorem sw_trueD {kx vx : Expr} {gs : List Comprehension} {scope : Scope} {pos py : Pos} {y : Str} {l : Nat} {env : Env} (hk : env.scope.kind = .function) (hy : env.scope.names.lookup y = some .local) (hl : (py.line == pos.line) = true)
    (ha : (scope.names.any fun (n, k) => n == y && (k == .local || k == .cell)) = false) : swapsWith (.DictComp kx vx gs scope pos) (some (.Name y py)) l env = pure true := by
  have ky : env.kindOf y = some .local := hy
  have hb : env.blockKind = .function := by unfold Env.blockKind; rw [hk]; rfl
  unfold swapsWith
  simp only [hb, ky, ha, Expr.pos, hl]
  rfl
end
def spNR (K : PySem.W.Frag) (C : Addr) : Sp := fun vs H Q E => ∃ u v ss, vs = [u, v] ∧ SeqV H u (ss.map V.str) ∧ Good ss ∧ ss.length ≤ 1000 ∧
  ((NoSeq K H v ∧ Goes C 0 H E) ∨
   ∃ (vs : List V) (rs : List (Str × Str)) (tail : List V), SeqV H v (vs ++ tail) ∧ Paired (PairV H) vs rs ∧ EndsIn ss rs ∧ Forest rs ∧
    ((tail = [] ∧ rs.length + 1 = ss.length ∧ ∀ H', Same H H' → Q .non H') ∨ (tail = [] ∧ rs.length + 1 ≠ ss.length ∧ Goes C (rs.length : Nat) H E) ∨
     (∃ x rest, tail = x :: rest ∧ BadRoad K H ss rs x ∧ Goes C (rs.length : Nat) H E)))
theorem scNR : FnScope ["houses", "roads", "leads", "index", "road", "one", "other", "house"] ["houses", "roads"] (defScope sNR) := ⟨rfl, rfl, rfl, by decide +kernel, rfl, by decide +kernel, by decide +kernel⟩
section
variable {P : Program} {w : World} {K : PySem.W.Frag} {mg : Str → Option Value} {base : Heap} {CF : Addr}
theorem UF.some {hs : List Str} {kvs : List (Key × V)} {rt : Str → Str} {rk : Str → Nat} (u : UF hs kvs rt rk) (s : Str) : (valV kvs (.inr s)).isSome = decide (s ∈ hs) := by
  obtain ⟨_, ld, h1, _⟩ := u
  rw [h1]
  by_cases e : s ∈ hs
  · rw [if_pos e, decide_eq_true e]; rfl
  · rw [if_neg e, decide_eq_false e]; rfl
theorem nodup_take_not {ss : List Str} (h : ss.Nodup) {i : Nat} (hi : i < ss.length) : ¬ ss[i] ∈ ss.take i := fun hm => by
  obtain ⟨j, hj, ej⟩ := List.getElem_of_mem hm
  rw [List.length_take] at hj
  rw [List.getElem_take] at ej
  have := (List.getElem_inj h).mp ej
  omega
theorem ok_NR {f g fP fK fL fE C : Addr} {fd gd pd kd ld ed : FuncData} (F : Fun K "_need_roads" "_need_roads" sNR f fd) (B : Bl mg) (me : mg "enumerate" = none)
    (FI : Fun K "is_list" "is_list" sIsList g gd) (b : Binds K gd ["thing"] []) (m : mg "is_list" = some (.ref g))
    (FP : Fun K "is_pair" "is_pair" sIsPair fP pd) (bP : Binds K pd ["thing"] []) (mP : mg "is_pair" = some (.ref fP))
    (FK : Fun K "_are_keys" "_are_keys" sKeys fK kd) (bK : Binds K kd ["things", "table"] []) (mK : mg "_are_keys" = some (.ref fK))
    (FL : Fun K "_leader" "_leader" sLead fL ld) (bL : Binds K ld ["leads", "house"] []) (mL : mg "_leader" = some (.ref fL))
    (T : FeC K mg CF) (TC : ErC K mg "BadRoads" C fE) (FE : Fun K "__init__" "BadRoads.__init__" sIR fE ed) (bE : Binds K ed ["self", "index"] []) :
    FnOk P w K mg base (L2.CX P w) 4 f fd ["houses", "roads"] (spNR K C) := by
  have G := ok_isList (P := P) (w := w) (base := base) FI B
  have GP := ok_isPair (P := P) (w := w) (base := base) FP FI b m B
  have GK := ok_keys (P := P) (w := w) (base := base) FK B
  have GL := ok_lead (P := P) (w := w) (mg := mg) (base := base) FL
  have GE := ok_iR (P := P) (w := w) (base := base) FE T TC
  refine F.okX scNR (fun vs H Q E h => ?_) (fun cdv A outer s H vs Q E hr h => ?_)
  · obtain ⟨u, v, ss, rfl, _⟩ := h
    rfl
  obtain ⟨u, v, ss, rfl, su, good, hl, h⟩ := h
  have nd := scNR.nd
  have hu := hu_of hr
  have hr1 : Room 1 _ := hr.mono (by decide)
  have hr2 : Room 2 _ := hr.mono (by decide)
  refine ⟨_, pss_cons (by exact (ps_if (pt_not (pt_val (pe_call G hr1 rfl m FI.kp b .nil pass0 (pa_cons (pv 1) pa_nil))))
      (pss_one (by exact (ps_raise rfl (takes_of rfl rfl rfl rfl) (pmk_oex TC.ox TC.ini TC.ty GE hr2 bE .nil pass0 rfl TC.m (pa_cons pe_int pa_nil))))) pss_nil))
    (pss_cons (by exact (ps_setDc (i := 2) (own := [("house", 7)]) (g := gName 7) (tt := tYes) rfl nd rfl rfl (sw_trueD rfl rfl rfl (by decide +kernel)) (by exact pi_seqV 0 (pv 0))
        (by exact blkOk_by (N := ["houses", "roads", "leads", "index", "road", "one", "other", "house"]) (sc := defScope sNR) (by decide +kernel)) (fun _ _ _ _ _ => by exact pg_name (i := 7) nd rfl (Or.inl rfl)) (fun _ _ _ _ _ => pts_nil) (fun _ _ _ _ _ => pv 7) (fun _ _ _ _ _ => pv 7)))
    (pss_cons (by exact (ps_for (passes_of rfl) rfl (by exact pi_enumV 1 rfl me (pv 1)) (pg_tup rfl (pgs_cons (pg_name (i := 3) nd rfl (.inl rfl)) (pgs_cons (pg_name (i := 4) nd rfl (.inl rfl)) pgs_nil)))
      (pss_cons (by exact (ps_if (PW.pt (pw_or (pt_not (pt_val (pe_call GP hr2 rfl mP FP.kp bP .nil pass0 (pa_cons (pv 4) pa_nil)))) (pw_or1 (pt_not (pt_val (pe_call GK hr1 rfl mK FK.kp bK .nil pass0 (pa_cons (pv 4) (pa_cons (pv 2) pa_nil))))))))
          (pss_one (by exact (ps_raise rfl (takes_of rfl rfl rfl rfl) (pmk_oex TC.ox TC.ini TC.ty GE hr2 bE .nil pass0 rfl TC.m (pa_cons (pv 3) pa_nil))))) pss_nil))
      (pss_cons (by exact (ps_set (i := 5) nd rfl (.inl rfl) (pe_call GL hr1 rfl mL FL.kp bL .nil pass0 (pa_cons (pv 2) (pa_cons (pe_ix ix_seq (pv 4) pe_int (fun _ _ => rfl)) pa_nil)))))
      (pss_cons (by exact (ps_set (i := 6) nd rfl (.inl rfl) (pe_call GL hr1 rfl mL FL.kp bL .nil pass0 (pa_cons (pv 2) (pa_cons (pe_ix ix_seq (pv 4) pe_int (fun _ _ => rfl)) pa_nil)))))
      (pss_cons (by exact (ps_if (pt_cmpR op_eq (pv 5) (pv 6) (nomark _))
          (pss_one (by exact (ps_raise rfl (takes_of rfl rfl rfl rfl) (pmk_oex TC.ox TC.ini TC.ty GE hr2 bE .nil pass0 rfl TC.m (pa_cons (pv 3) pa_nil))))) pss_nil))
      (pss_one (by exact (ps_dput hu (pv 2) (pv 5) (pv 6) rfl)))))))))
    (pss_one (by exact (ps_if (pt_cmpR op_ne (pe_callB call_len_seq rfl B.len PySem.boot_len (pa_cons (pv 1) pa_nil)) (pe_op op_sub (pe_callB call_len_seq rfl B.len PySem.boot_len (pa_cons (pv 0) pa_nil)) pe_int) (nomark _))
          (pss_one (by exact (ps_raise rfl (takes_of rfl rfl rfl rfl) (pmk_oex TC.ox TC.ini TC.ty GE hr2 bE .nil pass0 rfl TC.m (pa_cons (pe_callB call_len_seq rfl B.len PySem.boot_len (pa_cons (pv 1) pa_nil)) pa_nil))))) pss_nil))))), ?_⟩
  rcases h with ⟨⟨t, ty, kt, nt⟩, g⟩ | ⟨vs, rs, tail, sv, prs, ends, forest, rest⟩
  · refine ⟨_, rfl, v, t, rfl, ty, kt, fun H' e => ⟨_, rfl, ?_⟩⟩
    rw [nt]
    exact iteT ⟨(by show 1 ≤ 1000; decide), raise_idx g e⟩
  obtain ⟨t, ty, kt, st⟩ := sv.ty (K := K)
  refine ⟨_, rfl, v, t, rfl, ty, kt, fun H1 e1 => ⟨_, rfl, ?_⟩⟩
  rw [st]
  refine iteF ?_
  obtain ⟨p, rfl, hp⟩ := sv.ext e1
  have sq : SqA K H1 p (vs ++ tail) := hp.imp (fun h => SqL.of h) (fun h => SqT.of h)
  obtain ⟨p2, rfl, hp2⟩ := su.ext e1
  have sq2 : SqA K H1 p2 (ss.map V.str) := hp2.imp (fun h => SqL.of h) (fun h => SqT.of h)
  have lvs : vs.length = rs.length := prs.length
  have prs1 : Paired (PairV H1) vs rs := paired_imp (fun _ _ q => SeqV.ext q e1) prs
  -- the dict of leaders
  refine ⟨p2, _, rfl, sq2, fun J G wk hG L hL => ?_⟩
  refine dc_it wk (fun i Hc => Same H1 Hc ∧ Hc L = some (.dK ((ss.take i).map fun s => ((.inr s : Key), V.str s)))) ⟨K1.Same.upd hL, upd_same⟩ (fun i Hc _ h => hG Hc fun o ho => h.1 _ _ ho) ?_ ?_
  · rintro i x Hc H' hi ⟨f1, f2⟩ ⟨rfl, hx⟩
    rw [List.length_map] at hi
    have ex : x = .str ss[i] := by
      have q : (ss.map V.str)[i]? = some x := hx
      rw [List.getElem?_map, List.getElem?_eq_getElem hi] at q
      exact (Option.some.inj q).symm
    subst ex
    refine ⟨rfl, ?_⟩
    unfold tYes
    refine iteT ?_
    refine ⟨_, rfl, _, rfl, _, .inr ss[i], rfl, f2, ?_, fun a o n => ?_, ?_⟩
    · rw [List.length_map]
      exact small1000 (Nat.le_trans (List.length_take_le _ _) (by omega))
    · rw [upd_ne (ne_of_none n hL)]
      exact f1 a o n
    · have nw : valV ((ss.take i).map fun s => ((.inr s : Key), V.str s)) (.inr ss[i]) = none := by
        have u := (UF.start (hs := ss.take i) (good.1.sublist (List.take_sublist _ _)))
        have := u.some ss[i]
        rw [decide_eq_false (nodup_take_not good.1 hi)] at this
        exact Option.not_isSome_iff_eq_none.mp (by rw [this]; exact Bool.false_ne_true)
      rw [upd_same, putK_new _ nw, map_take_succ (List.getElem?_eq_getElem hi)]
  rintro H2 ⟨f1, f2⟩
  rw [List.length_map, List.take_length] at f2
  have e2 : Same H H2 := e1.trans f1
  have hL0 : H L = none := e1.free hL
  refine ⟨p, _, rfl, SqA.same sq f1, fun J G wk hG => ?_⟩
  have xat : ∀ i (hi : i < rs.length), ∃ x, (vs ++ tail)[i]? = some x ∧ PairV H1 x rs[i] := fun i hi => by
    obtain ⟨x, a, b⟩ := paired_get prs1 hi
    exact ⟨x, by rw [List.getElem?_append_left (by omega)]; exact a, b⟩
  have lng : rs.length ≤ (vs ++ tail).length := by rw [List.length_append]; omega
  refine for_it wk (fun i σ Hc => i ≤ rs.length ∧ (∃ a b c d, σ = [some (.ref p2), some (.ref p), some (.ref L), a, b, c, d, none]) ∧ Same H1 Hc ∧ ∃ kvs rk, Hc L = some (.dK kvs) ∧ UF ss kvs (rtOf (rs.take i)) rk) ?_ ?_ ?_ ?_
  · exact ⟨Nat.zero_le _, ⟨_, _, _, _, rfl⟩, f1, _, _, f2, UF.start good.1⟩
  · rintro i σ Hc hi ⟨h1, h2, h3, h4⟩
    refine hG Hc fun o ho => ?_
    have : ∀ o', H1 p = some o' → Hc p = some o := fun o' q => by
      have q2 := f1 _ _ q
      rw [ho] at q2
      rw [Option.some.inj q2]
      exact h3 _ _ q
    exact hp.elim (this _) (this _)
  · rintro i x σ Hc H' hi ⟨h1, ⟨sa, sb, sc, sd, rfl⟩, h3, kvs, rk, h4, uf⟩ ⟨T, x1, x2, rfl, hT, rfl, e1', e2'⟩
    obtain rfl : x1 = .int (i : Nat) := (Option.some.inj e1').symm
    have e2' : (vs ++ tail)[i]? = some x2 := e2'
    have hT2 := K1.Same.upd (H := Hc) (p := T) (o := .tup [.int (i : Nat), x2]) hT
    have eT : Same H1 (upd Hc T (.tup [.int (i : Nat), x2])) := h3.trans hT2
    refine ⟨T, _, rfl, SqT.of upd_same, rfl, _, _, rfl, _, _, rfl, rfl, ?_⟩
    by_cases hlt : i < rs.length
    · obtain ⟨y, ey, py⟩ := xat i hlt
      have ex2 : x2 = y := Option.some.inj (e2'.symm.trans ey)
      subst ex2
      have ee := ends _ (List.getElem_mem hlt)
      have sx : SeqV (upd Hc T (.tup [.int (i : Nat), x2])) x2 [.str rs[i].1, .str rs[i].2] := SeqV.ext py eT
      refine ⟨_, rfl, x2, rfl, .inl ⟨_, sx, fun H3 g3 => ⟨_, rfl, ?_⟩⟩⟩
      refine iteF ⟨_, rfl, _, rfl, x2, L, _, kvs, ss, rfl, sx.ext g3, (by show 2 ≤ 1000; decide), fun z hz => ?_, g3 _ _ (hT2 _ _ h4), uf.some, fun H4 g4 => ⟨_, rfl, ?_⟩⟩
      · rcases List.mem_cons.mp hz with rfl | hz
        · exact .inl ⟨_, rfl⟩
        · rcases List.mem_cons.mp hz with rfl | hz
          · exact .inl ⟨_, rfl⟩
          · cases hz
      have z1 : ([V.str rs[i].1, V.str rs[i].2].all (isKey ss)) = true := by
        show (decide (rs[i].1 ∈ ss) && (decide (rs[i].2 ∈ ss) && true)) = true
        rw [decide_eq_true ee.1, decide_eq_true ee.2]
        rfl
      rw [z1]
      refine iteF ?_
      have s4 := (sx.ext g3).ext g4
      have L4 : H4 L = some (.dK kvs) := g4 _ _ (g3 _ _ (hT2 _ _ h4))
      have e4 : Same H1 H4 := eT.trans (g3.trans g4)
      refine ⟨_, rfl, _, rfl, ixA s4 rfl ⟨L, _, kvs, ss, _, rk, rfl, L4, uf, ee.1, hl, fun k1 u1 => ?_⟩⟩
      have xL : ∀ {o}, H1 L = some o → False := fun q => by rw [hL] at q; cases q
      have up : ∀ {Hx : Hp} {o : HO}, Same H1 Hx → Same H1 (upd Hx L o) := fun e b o n => by
        rw [upd_ne (ne_of_none n hL)]
        exact e b o n
      have s5 : SeqV (upd H4 L (.dK k1)) x2 [.str rs[i].1, .str rs[i].2] := SeqV.ext py (up e4)
      refine ⟨_, rfl, _, rfl, ixA s5 rfl ⟨L, _, k1, ss, _, rk, rfl, upd_same, u1, ee.2, hl, fun k2 u2 => ?_⟩⟩
      rw [upd_upd]
      refine ⟨_, rfl, _, rfl, rfl, _, rfl, ?_⟩
      have ne := forest i hlt
      rw [decide_eq_false (fun q => ne (V.str.inj q))]
      obtain ⟨rk', u3⟩ := u2.join ee.1 ee.2 ne
      have dp : DPut (upd H4 L (.dK k2)) L (.str (rtOf (rs.take i) rs[i].1)) (.str (rtOf (rs.take i) rs[i].2)) (upd (upd H4 L (.dK k2)) L (.dK (putK k2 (.inr (rtOf (rs.take i) rs[i].1)) (.str (rtOf (rs.take i) rs[i].2))))) := DPut.k (k := .inr _) upd_same (Nat.lt_of_le_of_lt u2.len (small1000 hl))
      rw [upd_upd] at dp
      refine iteF ⟨_, rfl, _, rfl, _, rfl, L, _, rfl, dp, hlt, ⟨_, _, _, _, rfl⟩, up e4, _, rk', upd_same, ?_⟩
      rw [rtOf_succ hlt]
      exact u3
    · have ei : i = rs.length := by omega
      subst ei
      rcases rest with ⟨rfl, _⟩ | ⟨rfl, _⟩ | ⟨x, rst, rfl, bad, g⟩
      · rw [List.append_nil] at hi
        omega
      · rw [List.append_nil] at hi
        omega
      have ex2 : x2 = x := by
        rw [List.getElem?_append_right (by omega), ← lvs, Nat.sub_self] at e2'
        exact (Option.some.inj e2').symm
      subst ex2
      have eT0 := e1.trans eT
      rcases bad.ext eT0 with bad | ⟨ys, sy, ny⟩ | ⟨y, z, sy, ty1, ty2, nk⟩ | ⟨a, b, sy, ha, hb, eq⟩
      · exact ⟨_, rfl, x2, rfl, .inr ⟨bad, fun H3 g3 => ⟨_, rfl, iteT (iteT ⟨_, rfl, (by show 1 ≤ 1000; decide), raise_idx g (eT0.trans g3)⟩)⟩⟩⟩
      · refine ⟨_, rfl, x2, rfl, .inl ⟨ys, sy, fun H3 g3 => ⟨_, rfl, ?_⟩⟩⟩
        rw [decide_eq_false ny]
        exact iteT (iteT ⟨_, rfl, (by show 1 ≤ 1000; decide), raise_idx g (eT0.trans g3)⟩)
      · refine ⟨_, rfl, x2, rfl, .inl ⟨_, sy, fun H3 g3 => ⟨_, rfl, ?_⟩⟩⟩
        refine iteF ⟨_, rfl, _, rfl, x2, L, _, kvs, ss, rfl, sy.ext g3, (by show 2 ≤ 1000; decide), fun q hq => ?_, g3 _ _ (hT2 _ _ h4), uf.some, fun H4 g4 => ⟨_, rfl, ?_⟩⟩
        · rcases List.mem_cons.mp hq with rfl | hq
          · exact ty1.ext g3
          · rcases List.mem_cons.mp hq with rfl | hq
            · exact ty2.ext g3
            · cases hq
        have z1 : ([y, z].all (isKey ss)) = false := by
          show (isKey ss y && (isKey ss z && true)) = false
          rw [Bool.and_true]
          exact nk
        rw [z1]
        exact iteT ⟨_, rfl, (by show 1 ≤ 1000; decide), raise_idx g (eT0.trans (g3.trans g4))⟩
      · refine ⟨_, rfl, x2, rfl, .inl ⟨_, sy, fun H3 g3 => ⟨_, rfl, ?_⟩⟩⟩
        refine iteF ⟨_, rfl, _, rfl, x2, L, _, kvs, ss, rfl, sy.ext g3, (by show 2 ≤ 1000; decide), fun q hq => ?_, g3 _ _ (hT2 _ _ h4), uf.some, fun H4 g4 => ⟨_, rfl, ?_⟩⟩
        · rcases List.mem_cons.mp hq with rfl | hq
          · exact .inl ⟨_, rfl⟩
          · rcases List.mem_cons.mp hq with rfl | hq
            · exact .inl ⟨_, rfl⟩
            · cases hq
        have z1 : ([V.str a, V.str b].all (isKey ss)) = true := by
          show (decide (a ∈ ss) && (decide (b ∈ ss) && true)) = true
          rw [decide_eq_true ha, decide_eq_true hb]
          rfl
        rw [z1]
        refine iteF ?_
        have s4 := (sy.ext g3).ext g4
        have L4 : H4 L = some (.dK kvs) := g4 _ _ (g3 _ _ (hT2 _ _ h4))
        have e4 : Same H H4 := eT0.trans (g3.trans g4)
        have up : ∀ {Hx : Hp} {o : HO}, Same H Hx → Same H (upd Hx L o) := fun e b o n => by
          rw [upd_ne (ne_of_none n hL0)]
          exact e b o n
        have pL : ∀ o, SeqV (upd H4 L o) x2 [.str a, .str b] := fun o => by
          obtain ⟨px, rfl, hx⟩ := s4
          have nx : px ≠ L := fun q => by
            rw [q, L4] at hx
            rcases hx with hx | hx <;> cases hx
          exact ⟨px, rfl, by rw [upd_ne nx]; exact hx⟩
        refine ⟨_, rfl, _, rfl, ixA s4 rfl ⟨L, _, kvs, ss, _, rk, rfl, L4, uf, ha, hl, fun k1 u1 => ?_⟩⟩
        refine ⟨_, rfl, _, rfl, ixA (pL _) rfl ⟨L, _, k1, ss, _, rk, rfl, upd_same, u1, hb, hl, fun k2 u2 => ?_⟩⟩
        rw [upd_upd]
        refine ⟨_, rfl, _, rfl, rfl, _, rfl, ?_⟩
        rw [List.take_length, eq, decide_eq_true rfl]
        exact iteT ⟨_, rfl, (by show 1 ≤ 1000; decide), raise_idx g (up e4)⟩
  · rintro σ Hc ⟨h1, ⟨sa, sb, sc, sd, rfl⟩, h3, kvs, rk, h4, uf⟩
    have g1 := SqA.same sq h3
    have g2 := SqA.same sq2 h3
    have e3 : Same H Hc := e1.trans h3
    refine ⟨_, rfl, p, _, rfl, g1, _, rfl, p2, _, rfl, g2, _, _, rfl, rfl, rfl, _, rfl, ?_⟩
    rcases rest with ⟨rfl, hl2, q⟩ | ⟨rfl, hl2, g⟩ | ⟨x, r, rfl, _⟩
    · have z : decide (V.int (((vs ++ []).length : Nat) : Int) = V.int ((((ss.map V.str).length : Nat) : Int) - 1)) = true := by
        rw [List.append_nil, List.length_map, lvs]
        exact decide_eq_true (by rw [← hl2]; congr 1; omega)
      rw [z]
      exact iteF (q Hc e3)
    · have z : decide (V.int (((vs ++ []).length : Nat) : Int) = V.int ((((ss.map V.str).length : Nat) : Int) - 1)) = false := by
        rw [List.append_nil, List.length_map, lvs]
        exact decide_eq_false (fun q => hl2 (by have := V.int.inj q; omega))
      rw [z]
      have ll : (vs ++ []).length = rs.length := by rw [List.append_nil, lvs]
      refine iteT ⟨_, rfl, p, _, rfl, g1, (by show 1 ≤ 1000; decide), ?_⟩
      rw [ll]
      exact raise_idx g e3
    · rw [List.length_append, List.length_cons] at h1
      omega
end
end K1
end
-- KVal
section
set_option Elab.async false
set_option linter.all false
set_option maxRecDepth 100000
set_option maxHeartbeats 4000000
namespace K1
open PySem PySem.Spec PyProof.Rows L2
abbrev sBW : Stmt := top 24
abbrev sNB : Stmt := top 25
def TupP (H : Hp) (q : Addr) (r : Str × Str) : Prop := H q = some (.tup [.str r.1, .str r.2])
theorem TupP.ext {H H' : Hp} {qs : List Addr} {rs : List (Str × Str)} (h : Paired (TupP H) qs rs) (e : Same H H') : Paired (TupP H') qs rs := paired_imp (fun _ _ q => e _ _ q) h
def spBW : Sp := fun vs H Q _ => ∃ (p : Addr) (qs : List Addr) (rs : List (Str × Str)), vs = [.ref p] ∧ H p = some (.lst (qs.map V.ref)) ∧ Paired (TupP H) qs rs ∧ rs.length ≤ 1000 ∧ ∀ r H', Same H H' → Q (.ref r) H'
theorem scBW : FnScope ["roads", "places", "place", "one", "other"] ["roads"] (defScope sBW) := ⟨rfl, rfl, rfl, by decide +kernel, rfl, by decide +kernel, by decide +kernel⟩
theorem putK_le {κ : Type} [DecidableEq κ] {kvs : List (κ × V)} {k : κ} {v : V} : (putK kvs k v).length ≤ kvs.length + 1 := by
  unfold putK
  split
  · rw [List.length_map]; exact Nat.le_succ _
  · rw [List.length_append]; exact Nat.le_refl _
section
variable {P : Program} {w : World} {K : PySem.W.Frag} {mg : Str → Option Value} {base : Heap}
theorem paired_ref {H : Hp} {qs : List Addr} {rs : List (Str × Str)} (h : Paired (TupP H) qs rs) {i : Nat} (hi : i < rs.length) {x : V} (e : (qs.map V.ref)[i]? = some x) : ∃ q, x = .ref q ∧ H q = some (.tup [.str rs[i].1, .str rs[i].2]) := by
  obtain ⟨q, eq, pq⟩ := paired_get h hi
  rw [List.getElem?_map, eq] at e
  exact ⟨q, (Option.some.inj e).symm, pq⟩
theorem ok_BW {f : Addr} {fd : FuncData} (F : Fun K "_both_ways" "_both_ways" sBW f fd) (me : mg "enumerate" = none) : FnOk P w K mg base CX0 1 f fd ["roads"] spBW := by
  refine F.ok scBW (fun vs H Q E h => ?_) (fun cdv A outer s H vs Q E hr h => ?_)
  · obtain ⟨p, qs, rs, rfl, _⟩ := h
    rfl
  obtain ⟨p, qs, rs, rfl, hp, pr, hl, q⟩ := h
  have nd := scBW.nd
  have hu := hu_of hr
  refine ⟨_, pss_cons (by exact (ps_set (i := 1) nd rfl (.inl rfl) pe_dnewT))
    (pss_cons (by exact (ps_for PassesOwn.never rfl (by exact pi_enumV 0 rfl me (pv 0)) (pg_tup rfl (pgs_cons (pg_name (i := 2) nd rfl (.inl rfl)) (pgs_cons (pg_tup rfl (pgs_cons (pg_name (i := 3) nd rfl (.inl rfl)) (pgs_cons (pg_name (i := 4) nd rfl (.inl rfl)) pgs_nil))) pgs_nil)))
      (pss_cons (by exact (ps_dput hu (pv 1) (pe_tup (pa_cons (pv 3) (pa_cons (pv 4) pa_nil))) (pv 2) rfl))
      (pss_one (by exact (ps_dput hu (pv 1) (pe_tup (pa_cons (pv 4) (pa_cons (pv 3) pa_nil))) (pv 2) rfl))))))
    (pss_one (by exact (ps_ret (pv 1))))), ?_⟩
  intro L hL
  have ep : L ≠ p := fun z => by rw [z, hp] at hL; cases hL
  have lqs : qs.length = rs.length := pr.length
  refine ⟨p, _, rfl, .inl (SqL.of (by rw [upd_ne ep.symm]; exact hp)), fun J G wk hG => ?_⟩
  refine for_it wk (fun i σ Hc => (∃ a b c, σ = [some (.ref p), some (.ref L), a, b, c]) ∧ Same H Hc ∧ ∃ kvs, Hc L = some (.dT kvs) ∧ kvs.length ≤ 2 * i) ⟨⟨_, _, _, rfl⟩, K1.Same.upd hL, _, upd_same, Nat.le_refl _⟩ (fun i σ Hc _ h => hG Hc fun o ho => ?_) ?_ ?_
  · rw [upd_ne ep.symm, hp] at ho
    rw [← Option.some.inj ho]
    exact h.2.1 _ _ hp
  · rintro i x σ Hc H' hi ⟨⟨sa, sb, sc, rfl⟩, h1, kvs, h2, h3⟩ ⟨T, x1, x2, rfl, hT, rfl, e1', e2'⟩
    rw [List.length_map, lqs] at hi
    obtain rfl : x1 = .int (i : Nat) := (Option.some.inj e1').symm
    obtain ⟨t, rfl, ht⟩ := paired_ref pr hi e2'
    have hT2 := K1.Same.upd (H := Hc) (p := T) (o := .tup [.int (i : Nat), .ref t]) hT
    have e1 : Same H (upd Hc T (.tup [.int (i : Nat), .ref t])) := h1.trans hT2
    refine ⟨T, _, rfl, SqT.of upd_same, rfl, _, _, rfl, _, _, rfl, t, _, rfl, SqT.of (e1 _ _ ht), rfl, _, _, rfl, _, _, rfl, rfl, rfl, ?_⟩
    have step : ∀ (H1 : Hp) (kv : List (List Key × V)) (a b : Str), Same H H1 → H1 L = some (.dT kv) → kv.length ≤ 2 * i + 1 → ∀ (R : Hp → Prop), (∀ H2, Same H H2 → (∃ kv', H2 L = some (.dT kv') ∧ kv'.length ≤ kv.length + 1) → R H2) →
        2 ≤ sizeLine ∧ ∀ b', H1 b' = none → ∃ a' H3, V.ref L = .ref a' ∧ DPut (upd H1 b' (.tup [.str a, .str b])) a' (.ref b') (.int (i : Nat)) H3 ∧ R H3 := by
      intro H1 kv a b f1 f2 f3 R hR
      refine ⟨by decide, fun b' hb => ⟨L, _, rfl, DPut.t (k := [.inr a, .inr b]) (by rw [upd_ne (ne_of_none f2 hb)]; exact f2) upd_same (Nat.lt_of_le_of_lt f3 (by show 2 * i + 1 < 2 ^ 24; omega)), hR _ (fun c o n => ?_) ⟨_, upd_same, putK_le⟩⟩⟩
      rw [upd_ne (ne_of_none n hL), upd_ne (ne_of_none (f1 _ _ n) hb)]
      exact f1 _ _ n
    refine ⟨_, rfl, _, rfl, _, rfl, _, rfl, ?_⟩
    refine step _ kvs rs[i].1 rs[i].2 e1 (hT2 _ _ h2) (by omega) _ ?_
    rintro H2 g1 ⟨kv1, g2, g3⟩
    refine ⟨_, rfl, _, rfl, _, rfl, _, rfl, ?_⟩
    refine step H2 kv1 rs[i].2 rs[i].1 g1 g2 (by omega) _ ?_
    rintro H3 k1 ⟨kv2, k2, k3⟩
    exact ⟨⟨_, _, _, rfl⟩, k1, kv2, k2, by omega⟩
  · rintro σ Hc ⟨⟨sa, sb, sc, rfl⟩, h1, _⟩
    exact ⟨_, rfl, q L Hc h1⟩
end
end K1
end
-- KNb
section
set_option Elab.async false
set_option linter.all false
set_option maxRecDepth 100000
set_option maxHeartbeats 4000000
namespace K1
open PySem PySem.Spec PyProof.Rows L2
def spNB : Sp := fun vs H Q _ => ∃ (p1 p2 : Addr) (ss : List Str) (qs : List Addr) (rs : List (Str × Str)), vs = [.ref p1, .ref p2] ∧ H p1 = some (.lst (ss.map V.str)) ∧ ss.length ≤ 1000 ∧ ss.Nodup ∧ H p2 = some (.lst (qs.map V.ref)) ∧ Paired (TupP H) qs rs ∧ EndsIn ss rs ∧ rs.length ≤ 1000 ∧ ∀ r H', Same H H' → Q (.ref r) H'
theorem scNB : FnScope ["houses", "roads", "found", "one", "other", "house", "far"] ["houses", "roads"] (defScope sNB) := ⟨rfl, rfl, rfl, by decide +kernel, rfl, by decide +kernel, by decide +kernel⟩
def dcScope (sc : Scope) : Stmt → Scope
  | .Return (some (.DictComp _ _ _ s _)) _ => s
  | _ => sc
/-- the dicts of the neighbours: each house has its own, found by it -/
def NbAt (H0 Hc : Hp) (D : Addr) (hs : List Str) (n : Nat) : Prop := ∃ kvs : List (Key × V), Hc D = some (.dK kvs) ∧ kvs.length ≤ hs.length ∧ ∀ s ∈ hs, ∃ d m, valV kvs (.inr s) = some (.ref d) ∧ H0 d = none ∧ d ≠ D ∧ Hc d = some (.dK m) ∧ m.length ≤ n
section
variable {P : Program} {w : World} {K : PySem.W.Frag} {mg : Str → Option Value} {base : Heap}
theorem NbAt.put {H0 Hc : Hp} {D : Addr} {hs : List Str} {n : Nat} {s : Str} {d : Addr} {m : List (Key × V)} {k : Key} {v : V} (h : NbAt H0 Hc D hs n) (hd : d ≠ D) (hm : Hc d = some (.dK m)) (hl : m.length ≤ n) : NbAt H0 (upd Hc d (.dK (putK m k v))) D hs (n + 1) := by
  obtain ⟨kvs, h1, h2, h3⟩ := h
  refine ⟨kvs, by rw [upd_ne hd.symm]; exact h1, h2, fun s hs => ?_⟩
  obtain ⟨d', m', a1, a2, a3, a4, a5⟩ := h3 s hs
  by_cases e : d' = d
  · refine ⟨d', _, a1, a2, a3, by rw [e]; exact upd_same, Nat.le_trans putK_le (by omega)⟩
  · exact ⟨d', m', a1, a2, a3, by rw [upd_ne e]; exact a4, by omega⟩
theorem NbAt.keep {H0 Hc H2 : Hp} {D : Addr} {hs : List Str} {n : Nat} (h : NbAt H0 Hc D hs n) (e : Same Hc H2) : NbAt H0 H2 D hs n := by
  obtain ⟨kvs, h1, h2, h3⟩ := h
  refine ⟨kvs, e _ _ h1, h2, fun s hs => ?_⟩
  obtain ⟨d', m', a1, a2, a3, a4, a5⟩ := h3 s hs
  exact ⟨d', m', a1, a2, a3, e _ _ a4, a5⟩
theorem ok_NB {f : Addr} {fd : FuncData} (F : Fun K "_neighbours" "_neighbours" sNB f fd) : FnOk P w K mg base CX0 1 f fd ["houses", "roads"] spNB := by
  refine F.ok scNB (fun vs H Q E h => ?_) (fun cdv A outer s H vs Q E hr h => ?_)
  · obtain ⟨p1, p2, ss, qs, rs, rfl, _⟩ := h
    rfl
  obtain ⟨p1, p2, ss, qs, rs, rfl, h1, hl, hN, h2, pr, ends, hlr, q⟩ := h
  have nd := scNB.nd
  have hu := hu_of hr
  refine ⟨_, pss_cons (by exact (ps_set (i := 2) nd rfl (.inr rfl) (pe_dc (own := [("house", 5)]) (g := gName 5) (tt := tYes) rfl nd (by exact pi_seqV 0 (pv 0))
        (by exact blkOk_by (N := ["houses", "roads", "found", "one", "other", "house", "far"]) (sc := defScope sNB) (by decide +kernel)) (fun _ _ _ _ _ => by exact pg_name (i := 5) nd rfl (Or.inl rfl)) (fun _ _ _ _ _ => pts_nil) (fun _ _ _ _ _ => pv 5) (fun _ _ _ _ _ => pe_dnewK))))
    (pss_cons (by exact (ps_for PassesOwn.never rfl (by exact pi_seqV 1 (pv 1)) (pg_tup rfl (pgs_cons (pg_name (i := 3) nd rfl (.inl rfl)) (pgs_cons (pg_name (i := 4) nd rfl (.inl rfl)) pgs_nil)))
      (pss_cons (by exact (ps_dput hu (pe_dget hu (pv 2) (pv 3) (fun _ _ => rfl)) (pv 4) pe_bl rfl))
      (pss_one (by exact (ps_dput hu (pe_dget hu (pv 2) (pv 4) (fun _ _ => rfl)) (pv 3) pe_bl rfl))))))
    (pss_one (by exact (ps_ret (pe_dc (own := [("house", 5)]) (g := gName 5) (tt := tYes) (tk := tVar 5) (tv := tLc (iSeqV K 0) (gName 6) (tB (tDIn (tVar 6) (tDGet (tVar 2) (tVar 5)))) (tVar 6) [6]) rfl nd (by exact pi_seqV 0 (pv 0))
        (by exact blkOk_by (N := ["houses", "roads", "found", "one", "other", "house", "far"]) (sc := defScope sNB) (by decide +kernel)) (fun _ _ _ _ _ => by exact pg_name (i := 5) nd rfl (Or.inr rfl)) (fun _ _ _ _ _ => pts_nil) (fun _ _ _ _ _ => by exact pv 5)
        (fun _ _ _ _ _ => by
          refine pe_lc (own := [("far", 6)]) ?_ ?_ ?_ ?_ ?_ ?_ ?_ ?_
          · rfl
          · exact nd
          · exact pi_seqV 0 (pv 0)
          · exact blkOk_by (by with_unfolding_all rfl)
          · intro _ _ _ _ _
            exact pg_name (i := 6) nd rfl (Or.inl rfl)
          · intro _ _ _ _ _
            exact pts_one (pt_cmp (pc_din hu (pv 6) (pe_dget hu (pv 2) (pv 5) (fun _ _ => rfl))) (by with_unfolding_all rfl))
          · intro _ _ _ _ _
            exact pv 6
          · intro _
            rfl)))))), ?_⟩
  have lqs : qs.length = rs.length := pr.length
  -- the dict of dicts
  refine ⟨p1, _, rfl, .inl (SqL.of h1), fun J G wk hG D hD => ?_⟩
  have up : ∀ {Hx : Hp} {d : Addr} {o : HO}, H d = none → Same H Hx → Same H (upd Hx d o) := fun n e b o nn => by
    rw [upd_ne (ne_of_none nn n)]
    exact e b o nn
  have at_ : ∀ i x, (ss.map V.str)[i]? = some x → ∃ h : i < ss.length, x = .str ss[i] := fun i x e => by
    rw [List.getElem?_map] at e
    rcases Nat.lt_or_ge i ss.length with hi | hi
    · rw [List.getElem?_eq_getElem hi] at e
      exact ⟨hi, (Option.some.inj e).symm⟩
    · rw [List.getElem?_eq_none hi] at e
      cases e
  refine dc_it wk (fun i Hc => Same H Hc ∧ NbAt H Hc D (ss.take i) 0) ⟨K1.Same.upd hD, [], upd_same, Nat.zero_le _, fun s hs => absurd hs (by simp)⟩ (fun i Hc _ h => hG Hc fun o ho => h.1 _ _ ho) ?_ ?_
  · rintro i x Hc H' hi ⟨f1, kvs, f2, f3, f4⟩ ⟨rfl, hx⟩
    obtain ⟨hi', rfl⟩ := at_ i x hx
    refine ⟨rfl, ?_⟩
    unfold tYes
    refine iteT ?_
    refine ⟨_, rfl, fun d hd => ?_⟩
    have dD : d ≠ D := fun z => by rw [z, f2] at hd; cases hd
    have d0 : H d = none := f1.free hd
    refine ⟨kvs, .inr ss[i], rfl, by rw [upd_ne dD.symm]; exact f2, Nat.lt_of_le_of_lt f3 (small1000 (Nat.le_trans (List.length_take_le _ _) (by omega))), up hD (up d0 f1), putK kvs (.inr ss[i]) (.ref d), upd_same, ?_, fun s hs => ?_⟩
    · refine Nat.le_trans putK_le ?_
      rw [List.length_take] at f3 ⊢
      omega
    · rcases (mem_take_succ hi').mp hs with hs | rfl
      · obtain ⟨d', m, a1, a2, a3, a4, a5⟩ := f4 s hs
        have ne : ¬ (Sum.inr s : Key) = .inr ss[i] := fun z => nodup_take_not hN hi' (by rw [← Sum.inr.inj z]; exact hs)
        have ne2 : d' ≠ d := fun z => by rw [z, hd] at a4; cases a4
        exact ⟨d', m, by rw [valV_put, if_neg ne]; exact a1, a2, a3, by rw [upd_ne a3, upd_ne ne2]; exact a4, a5⟩
      · exact ⟨d, [], by rw [valV_put, if_pos rfl], d0, dD, by rw [upd_ne dD, upd_same], Nat.le_refl _⟩
  rintro H1 ⟨e1, nb⟩
  have nb : NbAt H H1 D ss 0 := by
    rw [List.length_map, List.take_length] at nb
    exact nb
  -- the roads
  refine ⟨p2, _, rfl, .inl (SqL.of (e1 _ _ h2)), fun J G wk hG => ?_⟩
  refine for_it wk (fun i σ Hc => (∃ a b, σ = [some (.ref p1), some (.ref p2), some (.ref D), a, b, none, none]) ∧ Same H Hc ∧ NbAt H Hc D ss (2 * i)) ⟨⟨_, _, rfl⟩, e1, nb⟩ (fun i σ Hc _ h => hG Hc fun o ho => by
    rw [e1 _ _ h2] at ho
    rw [← Option.some.inj ho]
    exact h.2.1 _ _ h2) ?_ ?_
  · rintro i x σ Hc H' hi ⟨⟨sa, sb, rfl⟩, g1, g2⟩ ⟨rfl, hx⟩
    rw [List.length_map, lqs] at hi
    obtain ⟨t, rfl, ht⟩ := paired_ref pr hi hx
    refine ⟨t, _, rfl, SqT.of (g1 _ _ ht), rfl, _, _, rfl, _, _, rfl, rfl, ?_⟩
    have ee := ends _ (List.getElem_mem hi)
    obtain ⟨kvs, b1, b2, b3⟩ := id g2
    obtain ⟨d, m, a1, a2, a3, a4, a5⟩ := b3 rs[i].1 ee.1
    have dg1 := DGet.k (k := .inr rs[i].1) b1
    rw [a1] at dg1
    have g3 := NbAt.put (s := rs[i].1) (k := .inr rs[i].2) (v := .bl true) g2 a3 a4 a5
    have g4 : Same H (upd H' d (.dK (putK m (.inr rs[i].2) (.bl true)))) := up a2 g1
    refine ⟨_, rfl, _, rfl, D, _, rfl, dg1, _, rfl, d, _, rfl, DPut.k (k := .inr rs[i].2) a4 (by show m.length < 2 ^ 24; omega), ?_⟩
    obtain ⟨kvs', c1, c2, c3⟩ := id g3
    obtain ⟨d', m', x1, x2, x3, x4, x5⟩ := c3 rs[i].2 ee.2
    have dg2 := DGet.k (k := .inr rs[i].2) c1
    rw [x1] at dg2
    refine ⟨_, rfl, _, rfl, D, _, rfl, dg2, _, rfl, d', _, rfl, DPut.k (k := .inr rs[i].1) x4 (by show m'.length < 2 ^ 24; omega), ⟨_, _, rfl⟩, up x2 g4, ?_⟩
    exact NbAt.put (s := rs[i].2) g3 x3 x4 x5
  rintro σ H2 ⟨⟨sa, sb, rfl⟩, g1, g2⟩
  -- the dict of lists
  obtain ⟨kvs, b1, b2, b3⟩ := id g2
  refine ⟨p1, _, rfl, .inl (SqL.of (g1 _ _ h1)), fun J G wk hG D2 hD2 => ?_⟩
  have hD20 : H D2 = none := g1.free hD2
  refine dc_it wk (fun i Hc => Same H2 Hc ∧ ∃ kv, Hc D2 = some (.dK kv) ∧ kv.length ≤ i) ⟨K1.Same.upd hD2, [], upd_same, Nat.zero_le _⟩ (fun i Hc _ h => hG Hc fun o ho => h.1 _ _ ho) ?_ ?_
  · rintro i x Hc H' hi ⟨f1, kv, f2, f3⟩ ⟨rfl, hx⟩
    obtain ⟨hi', rfl⟩ := at_ i x hx
    refine ⟨rfl, ?_⟩
    unfold tYes
    refine iteT ?_
    refine ⟨_, rfl, ?_⟩
    refine ⟨p1, _, rfl, .inl (SqL.of (f1 _ _ (g1 _ _ h1))), fun J2 G2 wk2 hG2 L hL => ?_⟩
    refine lc_it wk2 (fun j Hd => Same H' Hd ∧ ∃ acc, Hd L = some (.lst acc) ∧ acc.length ≤ j) ⟨K1.Same.upd hL, [], upd_same, Nat.zero_le _⟩ (fun j Hd _ h => hG2 Hd fun o ho => h.1 _ _ ho) ?_ ?_
    · rintro j y Hd H'' hj ⟨k1, acc, k2, k3⟩ ⟨rfl, hy⟩
      rw [List.length_map] at hj
      obtain ⟨hj', rfl⟩ := at_ j y hy
      refine ⟨rfl, ?_⟩
      obtain ⟨d, m, a1, a2, a3, a4, a5⟩ := b3 ss[i] (List.getElem_mem hi')
      have dg := DGet.k (k := .inr ss[i]) (k1 _ _ (f1 _ _ b1))
      rw [a1] at dg
      refine ⟨_, rfl, _, rfl, _, rfl, D, _, rfl, dg, d, _, rfl, DGet.k (k := .inr ss[j]) (k1 _ _ (f1 _ _ a4)), _, rfl, ?_⟩
      refine ite2 (fun c => ?_) (fun c => ?_)
      · refine ⟨_, rfl, acc, k2, by show acc.length < 2 ^ 24; omega, fun b o n => ?_, _, upd_same, by rw [List.length_append]; simp; omega⟩
        rw [upd_ne (ne_of_none n hL)]
        exact k1 b o n
      · exact ⟨k1, acc, k2, by omega⟩
    · rintro Hd ⟨k1, acc, k2, k3⟩
      have LD : L ≠ D2 := fun z => by rw [z, f2] at hL; cases hL
      refine ⟨kv, .inr ss[i], rfl, k1 _ _ f2, by show kv.length < 2 ^ 24; rw [List.length_map] at hi; omega, fun b o n => ?_, _, upd_same, Nat.le_trans putK_le (by omega)⟩
      rw [upd_ne (ne_of_none n hD2)]
      exact k1 b o (f1 b o n)
  · rintro Hc ⟨f1, _⟩
    exact q D2 Hc (g1.trans f1)
end
end K1
end
-- KHeads
section
set_option Elab.async false
set_option linter.all false
set_option maxRecDepth 100000
set_option maxHeartbeats 4000000
namespace K1
open PySem PySem.Spec PyProof.Rows L2
abbrev sND : Stmt := top 23
/-- no head -/
def BadHead (K : PySem.W.Frag) (H : Hp) (x : V) : Prop := (∃ t, TyX K H x (.type t) ∧ t ∈ kinds ∧ t ≠ "int") ∨ ∃ i, x = .int i ∧ i < 1
theorem BadHead.ext {K : PySem.W.Frag} {H H' : Hp} {x : V} (h : BadHead K H x) (e : Same H H') : BadHead K H' x := h.imp (fun ⟨t, a, b⟩ => ⟨t, TyX.ext a e, b⟩) id
def spND (K : PySem.W.Frag) (C : Addr) : Sp := fun vs H Q E => ∃ u v hs, vs = [u, v] ∧ SeqV H u hs ∧
  ((NoSeq K H v ∧ Goes C 0 H E) ∨
   (∃ ns : List Int, SeqV H v (ns.map V.int) ∧ (∀ n ∈ ns, 1 ≤ n) ∧ ns.length = hs.length ∧ ∀ H', Same H H' → Q .non H') ∨
   (∃ ns : List Int, SeqV H v (ns.map V.int) ∧ (∀ n ∈ ns, 1 ≤ n) ∧ ns.length < hs.length ∧ Goes C (ns.length : Nat) H E) ∨
   (∃ (ns : List Int) (x : V) (rest : List V), SeqV H v (ns.map V.int ++ x :: rest) ∧ (∀ n ∈ ns, 1 ≤ n) ∧ ns.length ≤ hs.length ∧ (ns.length = hs.length ∨ BadHead K H x) ∧ Goes C (ns.length : Nat) H E))
theorem scND : FnScope ["houses", "heads", "index", "many"] ["houses", "heads"] (defScope sND) := ⟨rfl, rfl, rfl, by decide +kernel, rfl, by decide +kernel, by decide +kernel⟩
section
variable {P : Program} {w : World} {K : PySem.W.Frag} {mg : Str → Option Value} {base : Heap} {CF : Addr}
theorem ok_ND {f g fN fI fE C : Addr} {fd gd nd id' ed : FuncData} (F : Fun K "_need_heads" "_need_heads" sND f fd) (B : Bl mg) (me : mg "enumerate" = none)
    (FI : Fun K "is_list" "is_list" sIsList g gd) (b : Binds K gd ["thing"] []) (m : mg "is_list" = some (.ref g))
    (FN : Fun K "is_from_one" "is_from_one" sFromOne fN nd) (bN : Binds K nd ["thing"] []) (mN : mg "is_from_one" = some (.ref fN))
    (FJ : Fun K "is_integer" "is_integer" sIsInt fI id') (bJ : Binds K id' ["thing"] []) (mJ : mg "is_integer" = some (.ref fI))
    (T : FeC K mg CF) (TC : ErC K mg "BadHeads" C fE) (FE : Fun K "__init__" "BadHeads.__init__" sID fE ed) (bE : Binds K ed ["self", "index"] []) :
    FnOk P w K mg base (L2.CX P w) 4 f fd ["houses", "heads"] (spND K C) := by
  have G := ok_isList (P := P) (w := w) (base := base) FI B
  have GN := ok_fromOne (P := P) (w := w) (base := base) FN FJ bJ mJ B
  have GE := ok_iD (P := P) (w := w) (base := base) FE T TC
  refine F.okX scND (fun vs H Q E h => ?_) (fun cdv A outer s H vs Q E hr h => ?_)
  · obtain ⟨u, v, hs, rfl, _⟩ := h
    rfl
  obtain ⟨u, v, hs, rfl, su, h⟩ := h
  have nd := scND.nd
  have hr1 : Room 1 _ := hr.mono (by decide)
  have hr2 : Room 2 _ := hr.mono (by decide)
  refine ⟨_, pss_cons (by exact (ps_if (pt_not (pt_val (pe_call G hr1 rfl m FI.kp b .nil pass0 (pa_cons (pv 1) pa_nil))))
      (pss_one (by exact (ps_raise rfl (takes_of rfl rfl rfl rfl) (pmk_oex TC.ox TC.ini TC.ty GE hr2 bE .nil pass0 rfl TC.m (pa_cons pe_int pa_nil))))) pss_nil))
    (pss_cons (by exact (ps_for (passes_of rfl) rfl (by exact pi_enumV 1 rfl me (pv 1)) (pg_tup rfl (pgs_cons (pg_name (i := 2) nd rfl (.inl rfl)) (pgs_cons (pg_name (i := 3) nd rfl (.inl rfl)) pgs_nil)))
      (pss_one (by exact (ps_if (PW.pt (pw_or (pt_cmpR op_ge (pv 2) (pe_callB call_len_seq rfl B.len PySem.boot_len (pa_cons (pv 0) pa_nil)) (nomark _)) (pw_or1 (pt_not (pt_val (pe_call GN hr2 rfl mN FN.kp bN .nil pass0 (pa_cons (pv 3) pa_nil)))))))
          (pss_one (by exact (ps_raise rfl (takes_of rfl rfl rfl rfl) (pmk_oex TC.ox TC.ini TC.ty GE hr2 bE .nil pass0 rfl TC.m (pa_cons (pv 2) pa_nil))))) pss_nil)))))
    (pss_one (by exact (ps_if (pt_cmpR op_lt (pe_callB call_len_seq rfl B.len PySem.boot_len (pa_cons (pv 1) pa_nil)) (pe_callB call_len_seq rfl B.len PySem.boot_len (pa_cons (pv 0) pa_nil)) (nomark _))
          (pss_one (by exact (ps_raise rfl (takes_of rfl rfl rfl rfl) (pmk_oex TC.ox TC.ini TC.ty GE hr2 bE .nil pass0 rfl TC.m (pa_cons (pe_callB call_len_seq rfl B.len PySem.boot_len (pa_cons (pv 1) pa_nil)) pa_nil))))) pss_nil)))), ?_⟩
  rcases h with ⟨⟨t, ty, kt, nt⟩, g⟩ | h
  · refine ⟨_, rfl, v, t, rfl, ty, kt, fun H' e => ⟨_, rfl, ?_⟩⟩
    rw [nt]
    exact iteT ⟨(by show 1 ≤ 1000; decide), raise_idx g e⟩
  obtain ⟨ns, xs, sv, good, hle, rest⟩ : ∃ (ns : List Int) (xs : List V), SeqV H v xs ∧ (∀ n ∈ ns, 1 ≤ n) ∧ ns.length ≤ hs.length ∧
      ((xs = ns.map V.int ∧ ns.length = hs.length ∧ ∀ H', Same H H' → Q .non H') ∨ (xs = ns.map V.int ∧ ns.length < hs.length ∧ Goes C (ns.length : Nat) H E) ∨
        (∃ x r, xs = ns.map V.int ++ x :: r ∧ (ns.length = hs.length ∨ BadHead K H x) ∧ Goes C (ns.length : Nat) H E)) := by
    rcases h with ⟨ns, sv, a, b, q⟩ | ⟨ns, sv, a, b, q⟩ | ⟨ns, x, r, sv, a, b, c, q⟩
    · exact ⟨ns, _, sv, a, Nat.le_of_eq b, .inl ⟨rfl, b, q⟩⟩
    · exact ⟨ns, _, sv, a, Nat.le_of_lt b, .inr (.inl ⟨rfl, b, q⟩)⟩
    · exact ⟨ns, _, sv, a, b, .inr (.inr ⟨x, r, rfl, c, q⟩)⟩
  obtain ⟨t, ty, kt, st⟩ := sv.ty (K := K)
  refine ⟨_, rfl, v, t, rfl, ty, kt, fun H1 e1 => ⟨_, rfl, ?_⟩⟩
  rw [st]
  refine iteF ?_
  obtain ⟨p, rfl, hp⟩ := sv.ext e1
  have sq : SqA K H1 p xs := hp.imp (fun h => SqL.of h) (fun h => SqT.of h)
  obtain ⟨p2, rfl, sq2⟩ := (su.ext e1).sq (K := K)
  have sq2' : SqA K H1 p2 hs := sq2
  have xat : ∀ i (hi : i < ns.length), xs[i]? = some (.int ns[i]) := fun i hi => by
    rcases rest with ⟨rfl, _⟩ | ⟨rfl, _⟩ | ⟨x, r, rfl, _⟩
    · rw [List.getElem?_map, List.getElem?_eq_getElem hi]; rfl
    · rw [List.getElem?_map, List.getElem?_eq_getElem hi]; rfl
    · rw [List.getElem?_append_left (by rw [List.length_map]; exact hi), List.getElem?_map, List.getElem?_eq_getElem hi]; rfl
  refine ⟨p, xs, rfl, sq, fun J G wk hG => ?_⟩
  refine for_it wk (fun i σ Hc => i ≤ ns.length ∧ (∃ a b, σ = [some (.ref p2), some (.ref p), a, b]) ∧ Same H1 Hc) ⟨Nat.zero_le _, ⟨_, _, rfl⟩, Same.refl _⟩ (fun i σ Hc hi h => hG Hc fun o ho => h.2.2 _ _ ho) ?_ ?_
  · rintro i x σ Hc H' hi ⟨h1, ⟨sa, sb, rfl⟩, h3⟩ ⟨T, x1, x2, rfl, hT, rfl, e1', e2'⟩
    obtain rfl : x1 = .int (i : Nat) := (Option.some.inj e1').symm
    have e2' : xs[i]? = some x2 := e2'
    have eT : Same H1 (upd Hc T (.tup [.int (i : Nat), x2])) := h3.trans (K1.Same.upd hT)
    refine ⟨T, _, rfl, SqT.of upd_same, rfl, _, _, rfl, _, _, rfl, rfl, ?_⟩
    refine ⟨_, rfl, _, rfl, p2, hs, rfl, SqA.same sq2' eT, _, _, rfl, rfl, _, rfl, ?_⟩
    by_cases hlt : i < ns.length
    · have ex2 : x2 = .int ns[i] := by
        have q := xat i hlt
        rw [q] at e2'
        exact (Option.some.inj e2').symm
      subst ex2
      rw [decide_eq_false (show ¬ ((hs.length : Nat) : Int) ≤ ((i : Nat) : Int) by omega)]
      refine iteF ⟨_, rfl, .int ns[i], rfl, .inl ⟨ns[i], rfl, _, rfl, ?_⟩⟩
      rw [decide_eq_true (good _ (List.getElem_mem hlt))]
      exact iteF ⟨hlt, ⟨_, _, rfl⟩, eT⟩
    · obtain ⟨x, r, hxs, bad, g⟩ : ∃ x r, xs = ns.map V.int ++ x :: r ∧ (ns.length = hs.length ∨ BadHead K H x) ∧ Goes C (ns.length : Nat) H E := by
        rcases rest with ⟨rfl, _⟩ | ⟨rfl, _⟩ | q
        · rw [List.length_map] at hi
          exact absurd hi hlt
        · rw [List.length_map] at hi
          exact absurd hi hlt
        · exact q
      have ei : i = ns.length := by omega
      subst ei
      have ex2 : x2 = x := by
        rw [hxs, List.getElem?_append_right (by rw [List.length_map]; exact Nat.le_refl _), List.length_map, Nat.sub_self] at e2'
        exact (Option.some.inj e2').symm
      subst ex2
      by_cases hh : ns.length = hs.length
      · rw [decide_eq_true (show ((hs.length : Nat) : Int) ≤ ((ns.length : Nat) : Int) by omega)]
        exact iteT (iteT ⟨_, rfl, (by show 1 ≤ 1000; decide), raise_idx g (e1.trans eT)⟩)
      · rw [decide_eq_false (show ¬ ((hs.length : Nat) : Int) ≤ ((ns.length : Nat) : Int) by omega)]
        rcases bad with q | bad
        · exact absurd q hh
        rcases bad.ext (e1.trans eT) with ⟨t, ty, kt, nt⟩ | ⟨j, rfl, hj⟩
        · exact iteF ⟨_, rfl, x2, rfl, .inr ⟨t, ty, kt, nt, _, rfl, iteT ⟨_, rfl, (by show 1 ≤ 1000; decide), raise_idx g (e1.trans eT)⟩⟩⟩
        · refine iteF ⟨_, rfl, .int j, rfl, .inl ⟨j, rfl, _, rfl, ?_⟩⟩
          rw [decide_eq_false (by omega)]
          exact iteT ⟨_, rfl, (by show 1 ≤ 1000; decide), raise_idx g (e1.trans eT)⟩
  · rintro σ Hc ⟨h1, ⟨sa, sb, rfl⟩, h3⟩
    have f1 := SqA.same sq h3
    have f2 := SqA.same sq2' h3
    refine ⟨_, rfl, p, xs, rfl, f1, _, rfl, p2, hs, rfl, f2, _, _, rfl, rfl, _, rfl, ?_⟩
    rcases rest with ⟨rfl, hl, q⟩ | ⟨rfl, hl, g⟩ | ⟨x, r, rfl, _⟩
    · rw [List.length_map, hl, decide_eq_false (by omega)]
      exact iteF (q Hc (e1.trans h3))
    · rw [List.length_map, decide_eq_true (by omega)]
      refine iteT ⟨_, rfl, p, _, rfl, f1, (by show 1 ≤ 1000; decide), ?_⟩
      rw [List.length_map]
      exact raise_idx g (e1.trans h3)
    · rw [List.length_append, List.length_map, List.length_cons] at h1
      omega
end
end K1
end
-- KDraw
section
set_option Elab.async false
set_option linter.all false
set_option maxRecDepth 100000
set_option maxHeartbeats 4000000
namespace K1
open PySem PySem.Spec PyProof.Rows L2
/-- the spring at a, with at most n draws by mixed numbers -/
def Spr (H : Hp) (a : Addr) (n : Nat) : Prop := ∃ x y z : Int, H a = some (.lst [.int x, .int y, .int z]) ∧ 0 ≤ x ∧ 0 ≤ y ∧ y < 2147483543 ∧ 0 ≤ z ∧ z ≤ (n : Int)
/-- all but what stands at a is as it was -/
def Kept (a : Addr) (H H' : Hp) : Prop := ∀ b o, b ≠ a → H b = some o → H' b = some o
theorem Kept.refl {a : Addr} {H : Hp} : Kept a H H := fun _ _ _ h => h
theorem Kept.trans {a : Addr} {H H1 H2 : Hp} (p : Kept a H H1) (q : Kept a H1 H2) : Kept a H H2 := fun b o n h => q b o n (p b o n h)
theorem Kept.upd {a : Addr} {H : Hp} {o : HO} : Kept a H (L2.upd H a o) := fun b u n h => by rw [upd_ne n]; exact h
theorem Kept.new {a p : Addr} {H : Hp} {o : HO} (h : H p = none) : Kept a H (L2.upd H p o) := fun b u n e => by rw [upd_ne (ne_of_none e h)]; exact e
theorem Kept.same {a : Addr} {H H1 : Hp} (e : Same H H1) : Kept a H H1 := fun b o _ h => e b o h
def spDraw : Sp := fun vs H Q _ => ∃ (a : Addr) (many : Int) (n : Nat), vs = [.ref a, .int many] ∧ Spr H a n ∧ n ≤ 1000000 ∧ 0 < many ∧ many.natAbs < 2 ^ 100 ∧
  ∀ (d : Int) (H' : Hp), 0 ≤ d → d < many → Kept a H H' → Spr H' a (n + 1) → Q (.int d) H'
theorem scDraw : FnScope ["spring", "many", "digit", "mixed"] ["spring", "many"] (defScope sDraw) := ⟨rfl, rfl, rfl, by decide +kernel, rfl, by decide +kernel, by decide +kernel⟩
section
variable {P : Program} {w : World} {K : PySem.W.Frag} {mg : Str → Option Value} {base : Heap}
theorem ok_draw {f : Addr} {fd : FuncData} (F : Fun K "_law_draw" "_law_draw" sDraw f fd) (mI : mg "int" = none) : FnOk P w K mg base CX0 1 f fd ["spring", "many"] spDraw := by
  refine F.ok scDraw (fun vs H Q E h => ?_) (fun cdv A outer s H vs Q E hr h => ?_)
  · obtain ⟨a, many, n, rfl, _⟩ := h
    rfl
  obtain ⟨a, many, n, rfl, ⟨x, y, z, ha, hx, hy, hy2, hz, hz2⟩, hn, hm, hm2, q⟩ := h
  have nd := scDraw.nd
  refine ⟨_, pss_cons (ps_if (pt_cmpR op_gt (pe_ix ix_list (pv 0) pe_int (fun _ _ => rfl)) pe_int (nomark _))
      (pss_cons (ps_set (i := 2) nd rfl (.inl rfl) (pe_op op_mod (pe_callTy call_int1 rfl mI PyProof.Rows.boot_int (pa_cons (pe_ix ix_list (pv 0) pe_int (fun _ _ => rfl)) pa_nil)) (pv 1)))
      (pss_cons (ps_asg (by exact pe_op op_fdivW (pe_ix ix_list (pv 0) pe_int (fun _ _ => rfl)) (pv 1)) (by exact pg_sub (pv 0) pe_int set_list))
      (pss_one (ps_ret (pv 2))))) pss_nil)
    (pss_cons (by exact ps_asg (by exact pe_op op_add (pe_ix ix_list (pv 0) pe_int (fun _ _ => rfl)) pe_int) (by exact pg_sub (pv 0) pe_int set_list))
    (pss_cons (by exact ps_set (i := 3) nd rfl (.inl rfl) (pe_op op_mod (pe_op op_pow (pe_callTy call_int1 rfl mI PyProof.Rows.boot_int (pa_cons
        (pe_op op_add (pe_op op_add (pe_ix ix_list (pv 0) pe_int (fun _ _ => rfl)) (pe_op op_mul pe_int (pe_ix ix_list (pv 0) pe_int (fun _ _ => rfl)))) pe_int) pa_nil)) pe_int) pe_int))
    (pss_one (by exact ps_ret (pe_op op_mod (pe_op op_fdiv (pe_op op_mod (pe_op op_pow (pe_callTy call_int1 rfl mI PyProof.Rows.boot_int (pa_cons
        (pe_op op_add (pe_op op_add (pe_op op_mul (pv 3) pe_int) (pe_op op_mul pe_int (pe_ix ix_list (pv 0) pe_int (fun _ _ => rfl)))) pe_int) pa_nil)) pe_int) pe_int) pe_int) (pv 1)))))), ?_⟩
  have at0 : atI ([.int x, .int y, .int z] : List V) 0 = some (.int x) := rfl
  have at1 : atI ([.int x, .int y, .int z] : List V) 1 = some (.int y) := rfl
  have at2 : atI ([.int x, .int y, .int z] : List V) 2 = some (.int z) := rfl
  refine ⟨_, rfl, a, _, _, _, rfl, rfl, SqL.of ha, at0, _, _, rfl, rfl, _, rfl, ?_⟩
  refine ite2 (fun c => ?_) (fun c => ?_)
  · have c' : x > 0 := of_decide_eq_true c
    refine ⟨_, rfl, a, _, _, _, rfl, rfl, SqL.of ha, at0, .inl ⟨_, rfl, _, rfl, _, _, rfl, rfl, hm, ?_⟩⟩
    refine ⟨_, rfl, a, _, _, _, rfl, rfl, SqL.of ha, at0, _, rfl, _, _, rfl, rfl, wide_div hm hm2 (by decide) (by decide), _, rfl, a, _, _, _, rfl, rfl, ha, rfl, ?_⟩
    refine ⟨_, rfl, q _ _ (Int.emod_nonneg _ (by omega)) (Int.emod_lt_of_pos _ hm) Kept.upd ?_⟩
    exact ⟨x / many, y, z, upd_same, Int.ediv_nonneg hx (by omega), hy, hy2, hz, by omega⟩
  · have ha1 : upd H a (.lst [.int x, .int y, .int (z + 1)]) a = some (.lst [.int x, .int y, .int (z + 1)]) := upd_same
    have e0 : atI ([.int x, .int y, .int (z + 1)] : List V) 1 = some (.int y) := rfl
    have e2 : atI ([.int x, .int y, .int (z + 1)] : List V) 2 = some (.int (z + 1)) := rfl
    refine ⟨_, rfl, a, _, _, _, rfl, rfl, SqL.of ha, at2, _, _, rfl, rfl, _, rfl, a, _, _, _, rfl, rfl, ha, rfl, ?_⟩
    refine ⟨_, rfl, a, _, _, _, rfl, rfl, SqL.of ha1, e0, _, rfl, a, _, _, _, rfl, rfl, SqL.of ha1, e2, _, _, rfl, rfl, .inl (by constructor <;> decide), _, _, rfl, rfl, _, _, rfl, rfl,
      .inl ⟨_, rfl, _, _, rfl, rfl, ⟨by decide, by decide, ?_⟩, _, _, rfl, rfl, (by show (0 : Int) < 2147483587; decide), ?_⟩⟩
    · omega
    refine ⟨_, rfl, _, _, rfl, rfl, .inr (by constructor <;> decide), _, rfl, a, _, _, _, rfl, rfl, SqL.of ha1, e2, _, _, rfl, rfl, .inl (by constructor <;> decide), _, _, rfl, rfl, _, _, rfl, rfl,
      .inl ⟨_, rfl, _, _, rfl, rfl, ⟨by decide, by decide, ?_⟩, _, _, rfl, rfl, (by show (0 : Int) < 2147483549; decide), _, _, rfl, rfl, (by constructor <;> decide), _, rfl, _, _, rfl, rfl, hm, ?_⟩⟩
    · generalize hg : (y + 7368787 * (z + 1) + 271828) ^ ((3 : Int).toNat) = g
      have g1 := Int.emod_nonneg g (show (2147483587 : Int) ≠ 0 by decide)
      have g2 := Int.emod_lt_of_pos g (show (0 : Int) < 2147483587 by decide)
      omega
    · exact q _ _ (Int.emod_nonneg _ (by omega)) (Int.emod_lt_of_pos _ hm) Kept.upd ⟨x, y, z + 1, upd_same, hx, hy, hy2, by omega, by omega⟩
end
end K1
end
-- KDraw2
section
set_option Elab.async false
set_option linter.all false
set_option maxRecDepth 100000
set_option maxHeartbeats 4000000
namespace K1
open PySem PySem.Spec PyProof.Rows L2
def spPick : Sp := fun vs H Q _ => ∃ (a p : Addr) (xs : List V) (n : Nat), vs = [.ref a, .ref p] ∧ Spr H a n ∧ n ≤ 1000000 ∧ H p = some (.lst xs) ∧ p ≠ a ∧ xs ≠ [] ∧ xs.length ≤ 1000 ∧
  ∀ (x : V) (H' : Hp), x ∈ xs → Kept a H H' → Spr H' a (n + 1) → Q x H'
def spMixed : Sp := fun vs H Q _ => ∃ (a p : Addr) (xs : List V) (n : Nat), vs = [.ref a, .ref p] ∧ Spr H a n ∧ n + 1000 ≤ 1000000 ∧ H p = some (.lst xs) ∧ p ≠ a ∧ xs.length ≤ 1000 ∧
  ∀ (r : Addr) (ys : List V) (H' : Hp), ys.Perm xs → H r = none → r ≠ a → H' r = some (.lst ys) → Kept a H H' → Spr H' a (n + xs.length) → Q (.ref r) H'
theorem scPick : FnScope ["spring", "some"] ["spring", "some"] (defScope sPick) := ⟨rfl, rfl, rfl, by decide +kernel, rfl, by decide +kernel, by decide +kernel⟩
theorem scMixed : FnScope ["spring", "some", "left", "k"] ["spring", "some"] (defScope sMixed) := ⟨rfl, rfl, rfl, by decide +kernel, rfl, by decide +kernel, by decide +kernel⟩
theorem Spr.kept {H : Hp} {a : Addr} {n : Nat} (h : Spr H a n) : H a ≠ none := by
  obtain ⟨x, y, z, e, _⟩ := h
  rw [e]
  exact Option.some_ne_none _
theorem Spr.upd {H : Hp} {a p : Addr} {n : Nat} {o : HO} (h : Spr H a n) (hp : p ≠ a) : Spr (L2.upd H p o) a n := by
  obtain ⟨x, y, z, e, q⟩ := h
  exact ⟨x, y, z, by rw [upd_ne hp.symm]; exact e, q⟩
theorem Spr.ne {H : Hp} {a p : Addr} {n : Nat} (h : Spr H a n) (hp : H p = none) : p ≠ a := fun e => by
  rw [e] at hp
  exact h.kept hp
theorem Spr.mono {H : Hp} {a : Addr} {n m : Nat} (h : Spr H a n) (l : n ≤ m) : Spr H a m := by
  obtain ⟨x, y, z, e, h1, h2, h3, h4, h5⟩ := h
  exact ⟨x, y, z, e, h1, h2, h3, h4, by omega⟩
theorem at_mem {xs : List V} {d : Int} (h0 : 0 ≤ d) (h1 : d < (xs.length : Int)) : ∃ x, atI xs d = some x ∧ x ∈ xs ∧ xs[d.toNat]? = some x := by
  have hk : d.toNat < xs.length := by omega
  have ek : d = ((d.toNat : Nat) : Int) := by omega
  refine ⟨xs[d.toNat], ?_, List.getElem_mem _, List.getElem?_eq_getElem hk⟩
  have q := atI_nat (xs := xs) (j := d.toNat) (v := xs[d.toNat]) (List.getElem?_eq_getElem hk)
  rwa [← ek] at q
section
variable {P : Program} {w : World} {K : PySem.W.Frag} {mg : Str → Option Value} {base : Heap} {fD : Addr} {fdD : FuncData}
theorem ok_pick {f : Addr} {fd : FuncData} (F : Fun K "_law_pick" "_law_pick" sPick f fd) (G : FnOk P w K mg base CX0 1 fD fdD ["spring", "many"] spDraw) (b : Binds K fdD ["spring", "many"] []) (k : PySem.W.keepIn K (.ref fD) = true) (m : mg "_law_draw" = some (.ref fD)) (ml : mg "len" = none) :
    FnOk P w K mg base CX0 2 f fd ["spring", "some"] spPick := by
  refine F.ok scPick (fun vs H Q E h => ?_) (fun cdv A outer s H vs Q E hr h => ?_)
  · obtain ⟨a, p, xs, n, rfl, _⟩ := h
    rfl
  obtain ⟨a, p, xs, n, rfl, hs, hn, hp, hpa, hne, hlen, q⟩ := h
  refine ⟨_, pss_one (by exact ps_ret (pe_ix ix_list (pv 1) (pe_call G hr rfl m k b .nil pass0 (pa_cons (pv 0) (pa_cons (pe_callB call_len_seq rfl ml PySem.boot_len (pa_cons (pv 1) pa_nil)) pa_nil))) (fun _ _ => rfl))), ?_⟩
  have hpos : 0 < xs.length := List.length_pos_iff.mpr hne
  refine ⟨_, rfl, _, rfl, _, rfl, p, _, rfl, .inl (SqL.of hp), a, _, n, rfl, hs, hn, by omega, ?_, fun d H' h0 h1 kp s' => ?_⟩
  · show ((xs.length : Nat) : Int).natAbs < 2 ^ 100
    rw [Int.natAbs_natCast]
    exact Nat.lt_of_le_of_lt hlen (by decide)
  obtain ⟨x, e1, e2, _⟩ := at_mem h0 h1
  exact ⟨p, xs, d, x, rfl, rfl, SqL.of (kp p _ hpa hp), e1, q x H' e2 kp s'⟩
theorem perm_pop {acc ls xs : List V} {i : Nat} {x : V} (h : (acc ++ ls).Perm xs) (e : ls[i]? = some x) : (acc ++ [x] ++ ls.eraseIdx i).Perm xs := by
  refine List.Perm.trans ?_ h
  rw [List.append_assoc]
  refine List.Perm.append_left acc ?_
  obtain ⟨hi, rfl⟩ := List.getElem?_eq_some_iff.mp e
  have e : ls = ls.take i ++ ls[i] :: ls.drop (i + 1) := by
    rw [← List.drop_eq_getElem_cons hi, List.take_append_drop]
  rw [List.eraseIdx_eq_take_drop_succ]
  conv => rhs; rw [e]
  exact (List.perm_middle (l₁ := ls.take i) (a := ls[i]) (l₂ := ls.drop (i + 1))).symm
def rLen (K : PySem.W.Frag) : List V → Hp → VK → Prop := fun xs H Q => ∃ p ys, xs = [.ref p] ∧ (SqL K H p ys ∨ SqT K H p ys) ∧ Q (.int (ys.length : Int)) H
theorem call_len' {X : Cx} : CallR X (.builtin "len") (rLen X.K) := call_len_seq
theorem ok_mixed {f : Addr} {fd : FuncData} (F : Fun K "_law_mixed" "_law_mixed" sMixed f fd) (G : FnOk P w K mg base CX0 1 fD fdD ["spring", "many"] spDraw) (b : Binds K fdD ["spring", "many"] []) (k : PySem.W.keepIn K (.ref fD) = true) (m : mg "_law_draw" = some (.ref fD)) (ml : mg "len" = none) (mL : mg "list" = none) (mr : mg "range" = none) :
    FnOk P w K mg base CX0 2 f fd ["spring", "some"] spMixed := by
  refine F.ok scMixed (fun vs H Q E h => ?_) (fun cdv A outer s H vs Q E hr h => ?_)
  · obtain ⟨a, p, xs, n, rfl, _⟩ := h
    rfl
  obtain ⟨a, p, xs, n, rfl, hs, hn, hp, hpa, hlen, q⟩ := h
  have nd := scMixed.nd
  refine ⟨_, pss_cons (by exact ps_set (i := 2) nd rfl (Or.inr rfl) (pe_callTy call_list_of rfl mL PyProof.Rows.boot_list (pa_cons (pv 1) pa_nil)))
    (pss_one (by exact ps_ret (pe_lc (own := [("k", 3)]) (g := gName 3) (tt := tYes) (te := tBM K "list" rPopAt (tVar 2) (tCons (tCall spDraw [] E0 (tCons (tVar 0) (tCons (tCB (rLen K) (tCons (tVar 2) tNil)) tNil))) tNil)) rfl nd (by exact pi_range1 rfl mr (pa_cons (pe_callB call_len_seq rfl ml PySem.boot_len (pa_cons (pv 2) pa_nil)) pa_nil))
      (by exact blkOk_by (N := ["spring", "some", "left", "k"]) (sc := defScope sMixed) (by decide +kernel)) (fun _ _ _ _ _ => by exact pg_name (i := 3) nd rfl (Or.inl rfl)) (fun _ _ _ _ _ => pts_nil)
      (fun _ _ _ _ _ => by exact pe_bm PySem.F.plainAttrs_list PySem.F.slot_list_pop PySem.F.type_list_pop mt_popAt (pv 2) (by exact pa_cons (pe_call G hr rfl m k b .nil pass0 (pa_cons (pv 0) (pa_cons (pe_callB call_len' rfl ml PySem.boot_len (pa_cons (pv 2) pa_nil)) pa_nil))) pa_nil))))), ?_⟩
  refine ⟨_, rfl, p, xs, rfl, .inl (SqL.of hp), fun l hl => ?_⟩
  have hla := hs.ne hl
  have hl1 : L2.upd H l (.lst xs) l = some (.lst xs) := upd_same
  refine ⟨_, rfl, l, xs, rfl, .inl (SqL.of hl1), _, rfl, by omega, by omega, fun D hD => ?_⟩
  have hDl : D ≠ l := fun e => by rw [e, upd_same] at hD; cases hD
  have hDH : H D = none := by rw [upd_ne hDl] at hD; exact hD
  have hDa := hs.ne hDH
  rw [Int.toNat_natCast]
  refine lc_range (fun i Hc => ∃ ls acc : List V, Hc l = some (.lst ls) ∧ Hc D = some (.lst acc) ∧ (acc ++ ls).Perm xs ∧ acc.length = i ∧ Kept a H Hc ∧ Spr Hc a (n + i)) ?_ ?_ ?_
  · exact ⟨xs, [], by rw [upd_ne hDl.symm]; exact hl1, upd_same, List.Perm.refl _, rfl, (Kept.new hl).trans (Kept.new hD), (hs.upd hla).upd hDa⟩
  · rintro i Hc hi ⟨ls, acc, h1, h2, h3, h4, h5, h6⟩
    have hlen2 : acc.length + ls.length = xs.length := by rw [← List.length_append]; exact h3.length_eq
    refine ⟨rfl, ?_⟩
    unfold tYes
    refine iteT ?_
    refine ⟨_, rfl, .inl ⟨rfl, _, SqL.of h1⟩, _, rfl, _, rfl, l, _, rfl, .inl (SqL.of h1), a, _, n + i, rfl, h6, by omega, by omega, ?_, fun d H' g0 g1 kp s' => ?_⟩
    · show ((ls.length : Nat) : Int).natAbs < 2 ^ 100
      rw [Int.natAbs_natCast]
      exact Nat.lt_of_le_of_lt (show ls.length ≤ 1000 by omega) (by decide)
    obtain ⟨x, e1, e2, e3⟩ := at_mem g0 g1
    have hl2 : H' l = some (.lst ls) := kp l _ hla h1
    have hD2 : H' D = some (.lst acc) := kp D _ hDa h2
    refine ⟨l, ls, d, d.toNat, x, rfl, rfl, hl2, by omega, by omega, ?_, e3, acc, by rw [upd_ne hDl]; exact hD2, small1000 (by omega), ?_⟩
    · have hneg : ¬ d < 0 := by omega
      unfold seqIndex?
      simp [hneg, g0, g1]
    · refine ⟨ls.eraseIdx d.toNat, acc ++ [x], by rw [upd_ne hDl.symm, upd_same], upd_same, perm_pop h3 e3, by rw [List.length_append, h4]; rfl, fun c o n1 n2 => ?_, ?_⟩
      · have c1 : c ≠ l := fun z => by rw [z, hl] at n2; cases n2
        have c2 : c ≠ D := fun z => by rw [z, hDH] at n2; cases n2
        rw [upd_ne c2, upd_ne c1]
        exact kp c o n1 (h5 c o n1 n2)
      · exact (s'.upd hla).upd hDa
  · rintro Hc ⟨ls, acc, h1, h2, h3, h4, h5, h6⟩
    have hlen2 : acc.length + ls.length = xs.length := by rw [← List.length_append]; exact h3.length_eq
    have e : ls = [] := List.length_eq_zero_iff.mp (by omega)
    subst e
    rw [List.append_nil] at h3
    exact q D acc Hc h3 hDH hDa h2 h5 h6
end
end K1
end
-- KInit
section
set_option Elab.async false
set_option linter.all false
set_option maxRecDepth 100000
set_option maxHeartbeats 4000000
namespace K1
open PySem PySem.Spec PyProof.Rows L2
abbrev sVI : Stmt := inClass (top 18) 0
def HousesBad (K : PySem.W.Frag) (H : Hp) (h : V) (i : Nat) : Prop := (NoSeq K H h ∧ i = 0) ∨ (SeqV H h [] ∧ i = 0) ∨ ∃ ss x rest, SeqV H h (ss.map V.str ++ x :: rest) ∧ ss.length ≤ 1000 ∧ Good ss ∧ BadName K H ss x ∧ i = ss.length
def HousesOk (H : Hp) (h : V) (ss : List Str) : Prop := SeqV H h (ss.map V.str) ∧ ss ≠ [] ∧ ss.length ≤ 1000 ∧ Good ss
def RoadsOk (H : Hp) (ss : List Str) (r : V) (rs : List (Str × Str)) : Prop := ∃ vs, SeqV H r vs ∧ Paired (PairV H) vs rs ∧ EndsIn ss rs ∧ Forest rs ∧ rs.length + 1 = ss.length
def RoadsBad (K : PySem.W.Frag) (H : Hp) (ss : List Str) (r : V) (i : Nat) : Prop := (NoSeq K H r ∧ i = 0) ∨ ∃ (vs : List V) (rs : List (Str × Str)) (tail : List V), SeqV H r (vs ++ tail) ∧ Paired (PairV H) vs rs ∧ EndsIn ss rs ∧ Forest rs ∧ i = rs.length ∧
  ((tail = [] ∧ rs.length + 1 ≠ ss.length) ∨ ∃ x rest, tail = x :: rest ∧ BadRoad K H ss rs x)
def HeadsOk (H : Hp) (ss : List Str) (g : V) (ns : List Int) : Prop := SeqV H g (ns.map V.int) ∧ (∀ n ∈ ns, 1 ≤ n) ∧ ns.length = ss.length
def HeadsBad (K : PySem.W.Frag) (H : Hp) (ss : List Str) (g : V) (i : Nat) : Prop := (NoSeq K H g ∧ i = 0) ∨ (∃ ns : List Int, SeqV H g (ns.map V.int) ∧ (∀ n ∈ ns, 1 ≤ n) ∧ ns.length < ss.length ∧ i = ns.length) ∨
  ∃ (ns : List Int) (x : V) (rest : List V), SeqV H g (ns.map V.int ++ x :: rest) ∧ (∀ n ∈ ns, 1 ≤ n) ∧ ns.length ≤ ss.length ∧ (ns.length = ss.length ∨ BadHead K H x) ∧ i = ns.length
/-- a Valley at x, which keeps these three lists -/
structure ValI (C : Addr) (H : Hp) (x l1 l2 l3 : Addr) (qs : List Addr) (ss : List Str) (rs : List (Str × Str)) (ns : List Int) : Prop where
  ins : ∃ dx fs, H x = some (.ins C dx fs) ∧ fs.lookup ("_houses" : Str) = some (V.ref l1) ∧ fs.lookup ("_roads" : Str) = some (V.ref l2) ∧ fs.lookup ("_heads" : Str) = some (V.ref l3) ∧ ∀ m : Str, m ≠ "_houses" → m ≠ "_roads" → m ≠ "_heads" → m ≠ "_people" → m ≠ "_places" → m ≠ "_beside" → fs.lookup m = none
  h1 : H l1 = some (.lst (ss.map V.str))
  h2 : H l2 = some (.lst (qs.map V.ref))
  pr : Paired (TupP H) qs rs
  h3 : H l3 = some (.lst (ns.map V.int))
structure VcT (K : PySem.W.Frag) (C : Addr) : Prop where
  cl : Cls K C
  n1 : NoAttr K C "_houses"
  n2 : NoAttr K C "_roads"
  n3 : NoAttr K C "_heads"
  n4 : NoAttr K C "_people"
  n5 : NoAttr K C "_places"
  n6 : NoAttr K C "_beside"
def spVI (K : PySem.W.Frag) (C CH CR CD : Addr) : Sp := fun vs H Q E => ∃ x h r g dx, vs = [.ref x, h, r, g] ∧ H x = some (.ins C dx []) ∧
  ((∃ i : Nat, HousesBad K H h i ∧ Goes CH i H E) ∨ (∃ ss, ∃ i : Nat, HousesOk H h ss ∧ RoadsBad K H ss r i ∧ Goes CR i H E) ∨ (∃ ss rs, ∃ i : Nat, HousesOk H h ss ∧ RoadsOk H ss r rs ∧ HeadsBad K H ss g i ∧ Goes CD i H E) ∨
   (∃ ss rs ns, HousesOk H h ss ∧ RoadsOk H ss r rs ∧ HeadsOk H ss g ns ∧ ∀ H' l1 l2 l3 qs, Kept x H H' → ValI C H' x l1 l2 l3 qs ss rs ns → H l1 = none → H l2 = none → H l3 = none → (∀ q ∈ qs, H q = none) → Q .non H'))
theorem scVI : FnScope ["self", "houses", "roads", "heads", "one", "other", "house", "index"] ["self", "houses", "roads", "heads"] (defScope sVI) := ⟨rfl, rfl, rfl, by decide +kernel, rfl, by decide +kernel, by decide +kernel⟩
/-- a written tuple of targets, a list or a tuple handed in -/
def gSeq (K : PySem.W.Frag) (n : Nat) (t : TGs) : TG := fun v σ H Q => ∃ a xs, v = .ref a ∧ SqA K H a xs ∧ xs.length = n ∧ t xs σ H Q
theorem pg_seq {X : Cx} {pos : Pos} {es : List Expr} {k : Nat} {t : TGs} {n : Nat} (hc : X.calm = true) (h : PGs X es t) (hn : (assignEach es X.env).length = n := by rfl) (hst : (assignEach es X.env).findIdx? (·.1) = none := by rfl) : PG X (.Tuple es k pos) (gSeq X.K n t) := by
  refine ⟨fun pins s σ H v u Q I r q => ?_⟩
  obtain ⟨a, xs, rfl, hq | hq, l, q⟩ := q
  · exact (pg_lst hc h hn hst).run pins s σ H _ u Q I r ⟨a, xs, rfl, hq, l, q⟩
  · exact (pg_tup hc h hn hst).run pins s σ H _ u Q I r ⟨a, xs, rfl, hq, l, q⟩
theorem SeqV.kept {H H' : Hp} {v : V} {xs : List V} {x C dx : Addr} {fs : List (Str × V)} (h : SeqV H v xs) (hx : H x = some (.ins C dx fs)) (k : Kept x H H') : SeqV H' v xs := by
  obtain ⟨p, rfl, h⟩ := h
  have ne : p ≠ x := fun z => by
    rw [z, hx] at h
    rcases h with h | h <;> cases h
  exact ⟨p, rfl, h.imp (k _ _ ne) (k _ _ ne)⟩
theorem PairV.kept {H H' : Hp} {vs : List V} {rs : List (Str × Str)} {x C dx : Addr} {fs : List (Str × V)} (h : Paired (PairV H) vs rs) (hx : H x = some (.ins C dx fs)) (k : Kept x H H') : Paired (PairV H') vs rs := paired_imp (fun _ _ q => SeqV.kept q hx k) h
section
variable {P : Program} {w : World} {K : PySem.W.Frag} {mg : Str → Option Value} {base : Heap} {CF C CH CR CD : Addr}
theorem ok_VI {f fN fR fD fB fG : Addr} {fd nd_ rd_ dd_ bd gd : FuncData} (F : Fun K "__init__" "Valley.__init__" sVI f fd) (B : Bl mg) (me : mg "enumerate" = none) (T : VcT K C)
    (GN : FnOk P w K mg base (L2.CX P w) 4 fN nd_ ["houses"] (spNH K CH)) (kN : PySem.W.keepIn K (.ref fN) = true) (bN : Binds K nd_ ["houses"] []) (mN : mg "_need_houses" = some (.ref fN))
    (GR : FnOk P w K mg base (L2.CX P w) 4 fR rd_ ["houses", "roads"] (spNR K CR)) (kR : PySem.W.keepIn K (.ref fR) = true) (bR : Binds K rd_ ["houses", "roads"] []) (mR : mg "_need_roads" = some (.ref fR))
    (GD : FnOk P w K mg base (L2.CX P w) 4 fD dd_ ["houses", "heads"] (spND K CD)) (kD : PySem.W.keepIn K (.ref fD) = true) (bD : Binds K dd_ ["houses", "heads"] []) (mD : mg "_need_heads" = some (.ref fD))
    (FB : Fun K "_both_ways" "_both_ways" sBW fB bd) (bB : Binds K bd ["roads"] []) (mB : mg "_both_ways" = some (.ref fB))
    (FG : Fun K "_neighbours" "_neighbours" sNB fG gd) (bG : Binds K gd ["houses", "roads"] []) (mG : mg "_neighbours" = some (.ref fG)) :
    FnOk P w K mg base (L2.CX P w) 5 f fd ["self", "houses", "roads", "heads"] (spVI K C CH CR CD) := by
  have GB := ok_BW (P := P) (w := w) (base := base) FB me
  have GG := ok_NB (P := P) (w := w) (mg := mg) (base := base) FG
  refine F.okX scVI (fun vs H Q E h => ?_) (fun cdv A outer s H vs Q E hr h => ?_)
  · obtain ⟨x, hh, r, g, dx, rfl, _⟩ := h
    rfl
  obtain ⟨x, hh, r, g, dx, rfl, hx, h⟩ := h
  have nd := scVI.nd
  have hu := hu_of hr
  have hr1 : Room 1 _ := hr.mono (by decide)
  refine ⟨_, pss_cons (by exact (ps_expr (pe_call GN hr rfl mN kN bN .nil (passes_call (takes_of rfl rfl rfl rfl) (fun _ _ _ _ h => h)) (pa_cons (pv 1) pa_nil))))
    (pss_cons (by exact (ps_expr (pe_call GR hr rfl mR kR bR .nil (passes_call (takes_of rfl rfl rfl rfl) (fun _ _ _ _ h => h)) (pa_cons (pv 1) (pa_cons (pv 2) pa_nil)))))
    (pss_cons (by exact (ps_expr (pe_call GD hr rfl mD kD bD .nil (passes_call (takes_of rfl rfl rfl rfl) (fun _ _ _ _ h => h)) (pa_cons (pv 1) (pa_cons (pv 3) pa_nil)))))
    (pss_cons (by exact (ps_fld (pv 0) (pe_callTy call_list_of rfl B.list PyProof.Rows.boot_list (pa_cons (pv 1) pa_nil)) rfl))
    (pss_cons (by exact (ps_fld (pv 0) (pe_lc (own := [("one", 4), ("other", 5)]) (g := gSeq K 2 (gCons (gName 4) (gCons (gName 5) gNil))) (tt := tYes) (te := tTup (tCons (tVar 4) (tCons (tVar 5) tNil))) rfl nd (by exact pi_seqV 2 (pv 2))
        (by exact blkOk_by (N := ["self", "houses", "roads", "heads", "one", "other", "house", "index"]) (sc := defScope sVI) (by decide +kernel)) (fun _ _ _ _ _ => by exact pg_seq rfl (pgs_cons (pg_name (i := 4) nd rfl (.inl rfl)) (pgs_cons (pg_name (i := 5) nd rfl (.inl rfl)) pgs_nil)))
        (fun _ _ _ _ _ => pts_nil) (fun _ _ _ _ _ => by exact pe_tup (pa_cons (pv 4) (pa_cons (pv 5) pa_nil)))) rfl))
    (pss_cons (by exact (ps_fld (pv 0) (pe_callTy call_list_of rfl B.list PyProof.Rows.boot_list (pa_cons (pv 3) pa_nil)) rfl))
    (pss_cons (by exact (ps_fld (pv 0) (pe_dc (own := [("house", 6), ("index", 7)]) (g := gTup K 2 (gCons (gName 7) (gCons (gName 6) gNil))) (tt := tYes) (tk := tVar 6) (tv := tOp (rIx K) (tVar 3) (tVar 7)) rfl nd (by exact pi_enumV 1 rfl me (pv 1))
        (by exact blkOk_by (N := ["self", "houses", "roads", "heads", "one", "other", "house", "index"]) (sc := defScope sVI) (by decide +kernel)) (fun _ _ _ _ _ => by exact pg_tup rfl (pgs_cons (pg_name (i := 7) nd rfl (.inl rfl)) (pgs_cons (pg_name (i := 6) nd rfl (.inl rfl)) pgs_nil)))
        (fun _ _ _ _ _ => pts_nil) (fun _ _ _ _ _ => by exact pv 6) (fun _ _ _ _ _ => by exact pe_ix ix_seq (pv 3) (pv 7) (fun _ _ => rfl))) rfl))
    (pss_cons (by exact (ps_fld (pv 0) (pe_call GB hr1 rfl mB FB.kp bB .nil pass0 (pa_cons (pe_fld (pv 0) rfl) pa_nil)) rfl))
    (pss_one (by exact (ps_fld (pv 0) (pe_call GG hr1 rfl mG FG.kp bG .nil pass0 (pa_cons (pe_fld (pv 0) rfl) (pa_cons (pe_fld (pv 0) rfl) pa_nil))) rfl)))))))))), ?_⟩
  rcases h with ⟨i, bad, go⟩ | h
  · refine ⟨_, rfl, hh, rfl, ?_⟩
    rcases bad with ⟨n, rfl⟩ | ⟨n, rfl⟩ | ⟨ss, y, rest, a1, a2, a3, a4, rfl⟩
    · exact .inl ⟨n, go⟩
    · exact .inr (.inl ⟨n, go⟩)
    · exact .inr (.inr (.inr ⟨ss, y, rest, a1, a2, a3, a4, go⟩))
  obtain ⟨ss, ⟨sh, hne, hl, good⟩, h⟩ : ∃ ss, HousesOk H hh ss ∧ ((∃ i : Nat, RoadsBad K H ss r i ∧ Goes CR i H E) ∨ (∃ rs, ∃ i : Nat, RoadsOk H ss r rs ∧ HeadsBad K H ss g i ∧ Goes CD i H E) ∨
      (∃ rs ns, RoadsOk H ss r rs ∧ HeadsOk H ss g ns ∧ ∀ H' l1 l2 l3 qs, Kept x H H' → ValI C H' x l1 l2 l3 qs ss rs ns → H l1 = none → H l2 = none → H l3 = none → (∀ q ∈ qs, H q = none) → Q .non H')) := by
    rcases h with ⟨ss, i, a, b, c⟩ | ⟨ss, rs, i, a, b, c, d⟩ | ⟨ss, rs, ns, a, b, c, d⟩
    · exact ⟨ss, a, .inl ⟨i, b, c⟩⟩
    · exact ⟨ss, a, .inr (.inl ⟨rs, i, b, c, d⟩)⟩
    · exact ⟨ss, a, .inr (.inr ⟨rs, ns, b, c, d⟩)⟩
  refine ⟨_, rfl, hh, rfl, .inr (.inr (.inl ⟨ss, sh, hne, hl, good, fun H1 e1 => ?_⟩))⟩
  rcases h with ⟨i, bad, go⟩ | h
  · refine ⟨_, rfl, _, rfl, hh, r, ss, rfl, sh.ext e1, good, hl, ?_⟩
    rcases bad with ⟨n, rfl⟩ | ⟨vs, rs, tail, a1, a2, a3, a4, rfl, a5⟩
    · exact .inl ⟨n.ext e1, go.ext e1⟩
    · refine .inr ⟨vs, rs, tail, a1.ext e1, paired_imp (fun _ _ q => SeqV.ext q e1) a2, a3, a4, ?_⟩
      rcases a5 with ⟨rfl, n⟩ | ⟨y, rest, rfl, b⟩
      · exact .inr (.inl ⟨rfl, n, go.ext e1⟩)
      · exact .inr (.inr ⟨y, rest, rfl, b.ext e1, go.ext e1⟩)
  obtain ⟨rs, ⟨vs, sr, pr, ends, forest, hrl⟩, h⟩ : ∃ rs, RoadsOk H ss r rs ∧ ((∃ i : Nat, HeadsBad K H ss g i ∧ Goes CD i H E) ∨
      (∃ ns, HeadsOk H ss g ns ∧ ∀ H' l1 l2 l3 qs, Kept x H H' → ValI C H' x l1 l2 l3 qs ss rs ns → H l1 = none → H l2 = none → H l3 = none → (∀ q ∈ qs, H q = none) → Q .non H')) := by
    rcases h with ⟨rs, i, b, c, d⟩ | ⟨rs, ns, b, c, d⟩
    · exact ⟨rs, b, .inl ⟨i, c, d⟩⟩
    · exact ⟨rs, b, .inr ⟨ns, c, d⟩⟩
  refine ⟨_, rfl, _, rfl, hh, r, ss, rfl, sh.ext e1, good, hl, .inr ⟨vs, rs, [], by rw [List.append_nil]; exact sr.ext e1, paired_imp (fun _ _ q => SeqV.ext q e1) pr, ends, forest, .inl ⟨rfl, hrl, fun H2 e2' => ?_⟩⟩⟩
  have e2 := e1.trans e2'
  rcases h with ⟨i, bad, go⟩ | ⟨ns, ⟨sg, hn1, hnl⟩, q⟩
  · refine ⟨_, rfl, _, rfl, hh, g, ss.map V.str, rfl, sh.ext e2, ?_⟩
    rcases bad with ⟨n, rfl⟩ | ⟨ns, a1, a2, a3, rfl⟩ | ⟨ns, y, rest, a1, a2, a3, a4, rfl⟩
    · exact .inl ⟨n.ext e2, go.ext e2⟩
    · exact .inr (.inr (.inl ⟨ns, a1.ext e2, a2, by rw [List.length_map]; exact a3, go.ext e2⟩))
    · exact .inr (.inr (.inr ⟨ns, y, rest, a1.ext e2, a2, by rw [List.length_map]; exact a3, by rw [List.length_map]; exact a4.imp id fun b => b.ext e2, go.ext e2⟩))
  refine ⟨_, rfl, _, rfl, hh, g, ss.map V.str, rfl, sh.ext e2, .inr (.inl ⟨ns, sg.ext e2, hn1, by rw [List.length_map]; exact hnl, fun H3 e3' => ?_⟩)⟩
  have e3 := e2.trans e3'
  have x3 := e3 _ _ hx
  have k3 : Kept x H H3 := Kept.same e3
  -- list(houses)
  obtain ⟨p1, rfl, q1⟩ := (sh.ext e3).sq (K := K)
  refine ⟨_, rfl, p1, _, rfl, q1, fun l1 hl1 => ?_⟩
  have n1 : l1 ≠ x := fun z => by rw [z, x3] at hl1; cases hl1
  have l1H : H l1 = none := e3.free hl1
  refine ⟨_, rfl, x, C, dx, [], rfl, (by rw [upd_ne n1.symm]; exact x3), T.cl, T.n1, (by decide), ?_⟩
  have k4 : Kept x H3 (upd (upd H3 l1 (.lst (ss.map V.str))) x (.ins C dx (putF "_houses" (.ref l1) []))) := (Kept.new hl1).trans Kept.upd
  have f1 : upd (upd H3 l1 (.lst (ss.map V.str))) x (.ins C dx (putF "_houses" (.ref l1) [])) l1 = some (.lst (ss.map V.str)) := by rw [upd_ne n1, upd_same]
  have x4 : upd (upd H3 l1 (.lst (ss.map V.str))) x (.ins C dx (putF "_houses" (.ref l1) [])) x = some (.ins C dx (putF "_houses" (.ref l1) [])) := upd_same
  generalize upd (upd H3 l1 (.lst (ss.map V.str))) x (.ins C dx (putF "_houses" (.ref l1) [])) = H4 at k4 f1 x4 ⊢
  have k04 := k3.trans k4
  have fr : ∀ {Hz : Hp} {l : Addr}, Kept x H Hz → Hz l = none → l ≠ x → H l = none := fun {Hz l} k n ne => by
    cases e : H l with
    | none => rfl
    | some o => rw [k _ _ ne e] at n; cases n
  -- the roads' pairs
  obtain ⟨p2, rfl, q2⟩ := sr.kept hx k04
  have sq2 : SqA K H4 p2 vs := q2.imp (fun h => SqL.of h) (fun h => SqT.of h)
  refine ⟨p2, _, rfl, sq2, fun J G wk hG l2 hl2 => ?_⟩
  have n2 : l2 ≠ x := fun z => by rw [z, x4] at hl2; cases hl2
  have lvs : vs.length = rs.length := pr.length
  refine lc_it wk (fun i Hc => Same H4 Hc ∧ ∃ qs, Hc l2 = some (.lst (qs.map V.ref)) ∧ Paired (TupP Hc) qs (rs.take i) ∧ (∀ z ∈ qs, H4 z = none ∧ z ≠ l2)) ⟨K1.Same.upd hl2, [], upd_same, .nil, fun z hz => absurd hz (by simp)⟩ (fun i Hc _ h => hG Hc fun o ho => h.1 _ _ ho) ?_ ?_
  · rintro i y Hc H' hi ⟨a1, qs, a2, a3, a4⟩ ⟨rfl, hy⟩
    rw [lvs] at hi
    obtain ⟨y', ey, py⟩ := paired_get (PairV.kept pr hx k04) hi
    have : y = y' := Option.some.inj (hy.symm.trans ey)
    subst this
    obtain ⟨py1, rfl, py2⟩ := SeqV.ext py a1
    refine ⟨py1, _, rfl, py2.imp (fun h => SqL.of h) (fun h => SqT.of h), rfl, _, _, rfl, _, _, rfl, rfl, rfl, ?_⟩
    unfold tYes
    refine iteT ?_
    refine ⟨_, rfl, _, rfl, (by show 2 ≤ sizeLine; decide), fun b hb => ?_⟩
    have bl : b ≠ l2 := fun z => by rw [z, a2] at hb; cases hb
    have lq : qs.length ≤ rs.length := by rw [a3.length, List.length_take]; omega
    have sb := K1.Same.upd (H := H') (p := b) (o := .tup [.str rs[i].1, .str rs[i].2]) hb
    refine ⟨qs.map V.ref, by rw [upd_ne bl.symm]; exact a2, by rw [List.length_map]; exact small1000 (by omega), ?_, qs ++ [b], by rw [upd_same, List.map_append]; rfl, ?_, fun z hz => ?_⟩
    · intro c o n
      rw [upd_ne (ne_of_none n hl2)]
      exact sb _ _ (a1 _ _ n)
    · have up2 : ∀ z o, z ≠ l2 → upd H' b (.tup [.str rs[i].1, .str rs[i].2]) z = some o → upd (upd H' b (.tup [.str rs[i].1, .str rs[i].2])) l2 (.lst (qs.map V.ref ++ [.ref b])) z = some o := fun z o n e => by rw [upd_ne n]; exact e
      rw [List.take_add_one, List.getElem?_eq_getElem hi]
      have pz : ∀ {as : List Addr} {bs : List (Str × Str)}, Paired (TupP H') as bs → (∀ z ∈ as, z ≠ l2) → Paired (TupP (upd (upd H' b (.tup [.str rs[i].1, .str rs[i].2])) l2 (.lst (qs.map V.ref ++ [.ref b])))) (as ++ [b]) (bs ++ [rs[i]]) := by
        intro as bs h
        induction h with
        | nil => intro _; exact .cons (up2 _ _ bl upd_same) .nil
        | cons f1 f2 ih =>
          intro nz
          exact .cons (up2 _ _ (nz _ (List.mem_cons_self ..)) (sb _ _ f1)) (ih fun z hz => nz z (List.mem_cons_of_mem _ hz))
      exact pz a3 fun z hz => (a4 z hz).2
    · rcases List.mem_append.mp hz with hz | hz
      · exact a4 z hz
      · rw [List.mem_singleton.mp hz]
        exact ⟨a1.free hb, bl⟩
  rintro H5 ⟨e5, qs, a2, a3, a4⟩
  rw [lvs, List.take_length] at a3
  have x5 := e5 _ _ x4
  refine ⟨_, rfl, x, C, dx, _, rfl, x5, T.cl, T.n2, (Nat.lt_of_le_of_lt (length_putF _ _ _) (by decide)), ?_⟩
  have k5 : Kept x H (upd H5 x (.ins C dx (putF "_roads" (.ref l2) (putF "_houses" (.ref l1) [])))) := (k04.trans (Kept.same e5)).trans Kept.upd
  have up5 : ∀ z o, z ≠ x → H5 z = some o → upd H5 x (.ins C dx (putF "_roads" (.ref l2) (putF "_houses" (.ref l1) []))) z = some o := fun z o n e => by rw [upd_ne n]; exact e
  have g1 := up5 _ _ n1 (e5 _ _ f1)
  have g2 := up5 _ _ n2 a2
  have nq : ∀ z ∈ qs, z ≠ x := fun z hz e => by rw [e] at hz; rw [(a4 x hz).1] at x4; cases x4
  have pq : ∀ {Hz : Hp}, Kept x H5 Hz → Paired (TupP Hz) qs rs := fun {Hz} k => by
    have : ∀ {as : List Addr} {bs : List (Str × Str)}, Paired (TupP H5) as bs → (∀ z ∈ as, z ≠ x) → Paired (TupP Hz) as bs := by
      intro as bs h
      induction h with
      | nil => intro _; exact .nil
      | cons f1 f2 ih => intro nz; exact .cons (k _ _ (nz _ (List.mem_cons_self ..)) f1) (ih fun z hz => nz z (List.mem_cons_of_mem _ hz))
    exact this a3 nq
  have k56 : Kept x H5 (upd H5 x (.ins C dx (putF "_roads" (.ref l2) (putF "_houses" (.ref l1) [])))) := Kept.upd
  have x6 : upd H5 x (.ins C dx (putF "_roads" (.ref l2) (putF "_houses" (.ref l1) []))) x = some (.ins C dx (putF "_roads" (.ref l2) (putF "_houses" (.ref l1) []))) := upd_same
  generalize upd H5 x (.ins C dx (putF "_roads" (.ref l2) (putF "_houses" (.ref l1) []))) = H6 at k5 g1 g2 k56 x6 ⊢
  clear up5
  -- list(heads)
  obtain ⟨p3, rfl, q3⟩ := (sg.kept hx k5).sq (K := K)
  refine ⟨_, rfl, p3, _, rfl, q3, fun l3 hl3 => ?_⟩
  have n3 : l3 ≠ x := fun z => by rw [z, x6] at hl3; cases hl3
  refine ⟨_, rfl, x, C, dx, _, rfl, (by rw [upd_ne n3.symm]; exact x6), T.cl, T.n3, (Nat.lt_of_le_of_lt (Nat.le_trans (length_putF _ _ _) (Nat.succ_le_succ (length_putF _ _ _))) (by decide)), ?_⟩
  have k67 : Kept x H6 (upd (upd H6 l3 (.lst (ns.map V.int))) x (.ins C dx (putF "_heads" (.ref l3) (putF "_roads" (.ref l2) (putF "_houses" (.ref l1) []))))) := (Kept.new hl3).trans Kept.upd
  have g3 : upd (upd H6 l3 (.lst (ns.map V.int))) x (.ins C dx (putF "_heads" (.ref l3) (putF "_roads" (.ref l2) (putF "_houses" (.ref l1) [])))) l3 = some (.lst (ns.map V.int)) := by rw [upd_ne n3, upd_same]
  have x7 : upd (upd H6 l3 (.lst (ns.map V.int))) x (.ins C dx (putF "_heads" (.ref l3) (putF "_roads" (.ref l2) (putF "_houses" (.ref l1) [])))) x = some (.ins C dx (putF "_heads" (.ref l3) (putF "_roads" (.ref l2) (putF "_houses" (.ref l1) [])))) := upd_same
  have l3H : H l3 = none := fr k5 hl3 n3
  generalize upd (upd H6 l3 (.lst (ns.map V.int))) x (.ins C dx (putF "_heads" (.ref l3) (putF "_roads" (.ref l2) (putF "_houses" (.ref l1) [])))) = H7 at k67 g3 x7 ⊢
  have k07 := k5.trans k67
  -- the people
  obtain ⟨p1', e1', q1'⟩ := sh.kept hx k07
  cases e1'
  obtain ⟨p3', e3'', q3'⟩ := sg.kept hx k07
  cases e3''
  have sq7 : SqA K H7 p1 (ss.map V.str) := q1'.imp (fun h => SqL.of h) (fun h => SqT.of h)
  refine ⟨p1, _, rfl, sq7, fun J G wk hG D hD => ?_⟩
  have nD : D ≠ x := fun z => by rw [z, x7] at hD; cases hD
  refine dc_it wk (fun i Hc => Same H7 Hc ∧ ∃ kv, Hc D = some (.dK kv) ∧ kv.length ≤ i) ⟨K1.Same.upd hD, [], upd_same, Nat.zero_le _⟩ (fun i Hc _ h => hG Hc fun o ho => h.1 _ _ ho) ?_ ?_
  · rintro i y Hc H' hi ⟨b1, kv, b2, b3⟩ ⟨Tp, x1, x2, rfl, hT, rfl, ex1, ex2⟩
    rw [List.length_map] at hi
    obtain rfl : x1 = .int (i : Nat) := (Option.some.inj ex1).symm
    have ex2 : (ss.map V.str)[i]? = some x2 := ex2
    rw [List.getElem?_map, List.getElem?_eq_getElem hi] at ex2
    obtain rfl : x2 = .str ss[i] := (Option.some.inj ex2).symm
    have hT2 := K1.Same.upd (H := Hc) (p := Tp) (o := .tup [.int (i : Nat), .str ss[i]]) hT
    refine ⟨Tp, _, rfl, SqT.of upd_same, rfl, _, _, rfl, _, _, rfl, rfl, rfl, ?_⟩
    unfold tYes
    refine iteT ?_
    have hi2 : i < ns.length := by omega
    have sv : SeqV (upd Hc Tp (.tup [.int (i : Nat), .str ss[i]])) (.ref p3) (ns.map V.int) := SeqV.ext (SeqV.ext ⟨p3, rfl, q3'⟩ b1) hT2
    refine ⟨_, rfl, _, rfl, _, rfl, ixA sv (atI_nat (j := i) (v := .int ns[i]) (by rw [List.getElem?_map, List.getElem?_eq_getElem hi2]; rfl)) ?_⟩
    refine ⟨kv, .inr ss[i], rfl, hT2 _ _ b2, small1000 (by omega), fun c o n => ?_, _, upd_same, Nat.le_trans putK_le (by omega)⟩
    rw [upd_ne (ne_of_none n hD)]
    exact hT2 _ _ (b1 _ _ n)
  rintro H8 ⟨e8, _⟩
  have x8 := e8 _ _ x7
  refine ⟨_, rfl, x, C, dx, _, rfl, x8, T.cl, T.n4, (Nat.lt_of_le_of_lt (Nat.le_trans (length_putF _ _ _) (Nat.succ_le_succ (Nat.le_trans (length_putF _ _ _) (Nat.succ_le_succ (length_putF _ _ _))))) (by decide)), ?_⟩
  have k79 : Kept x H7 (upd H8 x (.ins C dx (putF "_people" (.ref D) (putF "_heads" (.ref l3) (putF "_roads" (.ref l2) (putF "_houses" (.ref l1) [])))))) := (Kept.same e8).trans Kept.upd
  have x9 : upd H8 x (.ins C dx (putF "_people" (.ref D) (putF "_heads" (.ref l3) (putF "_roads" (.ref l2) (putF "_houses" (.ref l1) []))))) x = some (.ins C dx (putF "_people" (.ref D) (putF "_heads" (.ref l3) (putF "_roads" (.ref l2) (putF "_houses" (.ref l1) []))))) := upd_same
  generalize upd H8 x (.ins C dx (putF "_people" (.ref D) (putF "_heads" (.ref l3) (putF "_roads" (.ref l2) (putF "_houses" (.ref l1) []))))) = H9 at k79 x9 ⊢
  have k69 := k67.trans k79
  have k59 := k56.trans k69
  have o2 := k69 _ _ n2 g2
  have p9 := pq k59
  have lk2 : (putF "_people" (V.ref D) (putF "_heads" (.ref l3) (putF "_roads" (.ref l2) (putF "_houses" (.ref l1) [])))).lookup ("_roads" : Str) = some (.ref l2) := by
    rw [lookup_putF, if_neg (by decide +kernel), lookup_putF, if_neg (by decide +kernel), lookup_putF, if_pos rfl]
  refine ⟨_, rfl, x, C, dx, _, _, rfl, x9, T.cl, T.n2, lk2, l2, qs, rs, rfl, o2, p9, by omega, fun r1 H10 e10 => ?_⟩
  have x10 := e10 _ _ x9
  refine ⟨_, rfl, x, C, dx, _, rfl, x10, T.cl, T.n5, (Nat.lt_of_le_of_lt (Nat.le_trans (length_putF _ _ _) (Nat.succ_le_succ (Nat.le_trans (length_putF _ _ _) (Nat.succ_le_succ (Nat.le_trans (length_putF _ _ _) (Nat.succ_le_succ (length_putF _ _ _))))))) (by decide)), ?_⟩
  have k911 : Kept x H9 (upd H10 x (.ins C dx (putF "_places" (.ref r1) (putF "_people" (.ref D) (putF "_heads" (.ref l3) (putF "_roads" (.ref l2) (putF "_houses" (.ref l1) []))))))) := (Kept.same e10).trans Kept.upd
  have x11 : upd H10 x (.ins C dx (putF "_places" (.ref r1) (putF "_people" (.ref D) (putF "_heads" (.ref l3) (putF "_roads" (.ref l2) (putF "_houses" (.ref l1) [])))))) x = some (.ins C dx (putF "_places" (.ref r1) (putF "_people" (.ref D) (putF "_heads" (.ref l3) (putF "_roads" (.ref l2) (putF "_houses" (.ref l1) [])))))) := upd_same
  generalize upd H10 x (.ins C dx (putF "_places" (.ref r1) (putF "_people" (.ref D) (putF "_heads" (.ref l3) (putF "_roads" (.ref l2) (putF "_houses" (.ref l1) [])))))) = H11 at k911 x11 ⊢
  have k6_11 := k69.trans k911
  have k5_11 := k56.trans k6_11
  have lk1 : (putF "_places" (V.ref r1) (putF "_people" (V.ref D) (putF "_heads" (.ref l3) (putF "_roads" (.ref l2) (putF "_houses" (.ref l1) []))))).lookup ("_houses" : Str) = some (.ref l1) := by
    rw [lookup_putF, if_neg (by decide +kernel), lookup_putF, if_neg (by decide +kernel), lookup_putF, if_neg (by decide +kernel), lookup_putF, if_neg (by decide +kernel), lookup_putF, if_pos rfl]
  have lk2' : (putF "_places" (V.ref r1) (putF "_people" (V.ref D) (putF "_heads" (.ref l3) (putF "_roads" (.ref l2) (putF "_houses" (.ref l1) []))))).lookup ("_roads" : Str) = some (.ref l2) := by
    rw [lookup_putF, if_neg (by decide +kernel)]
    exact lk2
  refine ⟨_, rfl, x, C, dx, _, _, rfl, x11, T.cl, T.n1, lk1, _, rfl, x, C, dx, _, _, rfl, x11, T.cl, T.n2, lk2', l1, l2, ss, qs, rs, rfl, k6_11 _ _ n1 g1, hl, good.1, k6_11 _ _ n2 g2, pq k5_11, ends, by omega, fun r2 H12 e12 => ?_⟩
  have x12 := e12 _ _ x11
  refine ⟨_, rfl, x, C, dx, _, rfl, x12, T.cl, T.n6, (Nat.lt_of_le_of_lt (Nat.le_trans (length_putF _ _ _) (Nat.succ_le_succ (Nat.le_trans (length_putF _ _ _) (Nat.succ_le_succ (Nat.le_trans (length_putF _ _ _) (Nat.succ_le_succ (Nat.le_trans (length_putF _ _ _) (Nat.succ_le_succ (length_putF _ _ _))))))))) (by decide)), ?_⟩
  have k11_13 : Kept x H11 (upd H12 x (.ins C dx (putF "_beside" (.ref r2) (putF "_places" (.ref r1) (putF "_people" (.ref D) (putF "_heads" (.ref l3) (putF "_roads" (.ref l2) (putF "_houses" (.ref l1) [])))))))) := (Kept.same e12).trans Kept.upd
  have k6_13 := k6_11.trans k11_13
  refine q _ l1 l2 l3 qs (k5.trans k6_13) ⟨⟨dx, _, upd_same, ?_, ?_, ?_, fun m m1 m2 m3 m4 m5 m6 => ?_⟩, k6_13 _ _ n1 g1, k6_13 _ _ n2 g2, pq (k56.trans k6_13), (k79.trans (k911.trans k11_13)) _ _ n3 g3⟩ l1H (fr k04 hl2 n2) l3H (fun z hz => fr k04 (a4 z hz).1 (nq z hz))
  · rw [lookup_putF, if_neg (by decide +kernel)]
    exact lk1
  · rw [lookup_putF, if_neg (by decide +kernel)]
    exact lk2'
  · rw [lookup_putF, if_neg (by decide +kernel), lookup_putF, if_neg (by decide +kernel), lookup_putF, if_neg (by decide +kernel), lookup_putF, if_pos rfl]
  · rw [lookup_putF, if_neg m6, lookup_putF, if_neg m5, lookup_putF, if_neg m4, lookup_putF, if_neg m3, lookup_putF, if_neg m2, lookup_putF, if_neg m1]
    rfl
end
end K1
end
-- KFun
section
set_option Elab.async false
set_option linter.all false
set_option maxRecDepth 100000
set_option maxHeartbeats 4000000
/-! isinstance of a def -/
namespace K1F
open PySem
theorem slotGa : Slot "function" "__getattribute__" "object.__getattribute__" :=
  .of (owner := "object") (n := "__getattribute__") (by rw [typeLookup_type, builtinLookup_eq_fast]; kernel_rfl) (by decide +kernel) (by decide +kernel) (by decide +kernel)
    (by first | exact .inl (by decide +kernel) | exact .inr (by decide +kernel)) (by rw [isSubtype_type]; kernel_rfl)
theorem entryGa : entryFor table "object.__getattribute__" = some Builtin.«object.__getattribute__» := entryFor_of_tree (by kernel_rfl)
theorem lkClass : typeLookup (.type "function") "__class__" = pure (some (.builtin "object.__class__")) := by rw [typeLookup_type, builtinLookup_eq_fast]; kernel_rfl
theorem ownClass : isSubtype (.type "function") (.type (".".intercalate ("object.__class__".cutAt '.').dropLast)) = pure true := by
  rw [F.owner_object_class, isSubtype_type]; kernel_rfl
theorem argsGa (a b : Value) : argsOk "object.__getattribute__" ⟨[a, b], []⟩ := by
  unfold argsOk; kernel_rfl
section
variable {prog : Program} {w : World} {A : Around} {E : Value → Shared → Prop} {h : Heap} {g : Array GenState} {d : Drawn} {t : Nat} {os : OsState} {a : Addr} {o : Obj}
theorem fnGet {R : Result → Shared → Prop} (hx : h.get? a = some o) (hc : o.cls = .type "function") (hq : R (.ok (.ret (.type "function"))) ⟨h, g, d, t, os⟩) :
    codeAny (model prog w) A (.call (.builtin "getset_descriptor.__get__") ⟨[.builtin "object.__class__", .ref a, .type "function"], []⟩) R ⟨h, g, d, t, os⟩ := by
  have z1 : (⟨h, g, d, t, os⟩ : Shared).TypeIs (.ref a) "function" := ⟨_, hx, hc⟩
  have z2 : (⟨h, g, d, t, os⟩ : Shared).TypeIs (.builtin "object.__class__") "getset_descriptor" := F.typeOf_object_class
  have z3 := ownClass
  refine codeAny_call_builtin F.slot_gs_get.plain F.entry_gs_get (F.slot_gs_get.check _ _ _ _ _ _ _ _ z2 (F.args_gs_get _ _ _) ?_)
  repeat (any_goals (first | assumption | wp_step))
  refine ⟨Code.quiet_builtin _ (by decide +kernel), codeAny_builtin F.entry_object_class ?_⟩
  repeat (any_goals (first | assumption | wp_step))
theorem fnEntry {tk : Tok} {Q : Fin → Shared → Prop} (hx : h.get? a = some o) (hc : o.cls = .type "function") (hq : Q (.done (.ret (.type "function"))) ⟨h, g, d, t, os⟩) :
    wpAny (model prog w) A (Builtin.«object.__getattribute__» ⟨[.ref a, .str "__class__" tk], []⟩) Q E ⟨h, g, d, t, os⟩ := by
  have z1 : (⟨h, g, d, t, os⟩ : Shared).TypeIs (.ref a) "function" := ⟨_, hx, hc⟩
  have z2 : (⟨h, g, d, t, os⟩ : Shared).TypeIs (.builtin "object.__class__") "getset_descriptor" := F.typeOf_object_class
  have z3 := lkClass
  have z4 := F.typeOf_object_class
  have z5 := F.slot_gs_get.lookup
  have z6 := F.slot_gs_set.lookup
  repeat (any_goals (first | assumption | wp_step))
  refine fnGet hx hc ?_
  repeat (any_goals (first | assumption | wp_step))
theorem fnCall {tk : Tok} {R : Result → Shared → Prop} (hx : h.get? a = some o) (hc : o.cls = .type "function") (hq : R (.ok (.ret (.type "function"))) ⟨h, g, d, t, os⟩) :
    codeAny (model prog w) A (.call (.builtin "object.__getattribute__") ⟨[.ref a, .str "__class__" tk], []⟩) R ⟨h, g, d, t, os⟩ :=
  codeAny_call_builtin slotGa.plain entryGa (slotGa.check _ _ _ _ _ _ _ _ (show (⟨h, g, d, t, os⟩ : Shared).TypeIs (.ref a) "function" from ⟨_, hx, hc⟩) (argsGa _ _) (fnEntry hx hc hq))
theorem fnBy {tk : Tok} {Q : Value → Shared → Prop} (hx : h.get? a = some o) (hc : o.cls = .type "function") (hq : Q (.type "function") ⟨h, g, d, t, os⟩) : wpAny (model prog w) A (getAttrBy (.ref a) (.str "__class__" tk) false) Q E ⟨h, g, d, t, os⟩ := by
  have z1 : (⟨h, g, d, t, os⟩ : Shared).TypeIs (.ref a) "function" := ⟨_, hx, hc⟩
  have z2 := slotGa.lookup
  have z3 := slotGa.bind (.ref a)
  repeat (any_goals (first | assumption | wp_step))
  refine fnCall hx hc ?_
  repeat (any_goals (first | assumption | wp_step))
theorem fnAttr {Q : Option Value → Shared → Prop} (hx : h.get? a = some o) (hc : o.cls = .type "function") (hq : Q (some (.type "function")) ⟨h, g, d, t + 1, os⟩) : wpAny (model prog w) A (getAttr? (.ref a) "__class__") Q E ⟨h, g, d, t, os⟩ := by
  unfold getAttr? getAttrBy?
  repeat (any_goals (first | assumption | with_reducible apply fnBy hx hc | wp_step))
end
theorem kitFn {K : PySem.W.Frag} {a : Addr} : PySem.W.KitX K (.ref a) (.type "function") (PySem.W.KitAt a "function") :=
  PySem.W.kitx_of PySem.W.kitAt_ty (fun {_ _ _ _ _ s} p k => by obtain ⟨h, g, d, t, os⟩ := s; obtain ⟨o, h1, h2⟩ := p; exact fnAttr h1 h2 k)
end K1F
end
-- KOwn
section
set_option Elab.async false
set_option linter.all false
set_option maxRecDepth 100000
set_option maxHeartbeats 4000000
/-! == and != by an own __eq__, whatever it says and whatever stands on the right; isinstance of a def -/
namespace K1
open PySem PySem.Spec PyProof.Rows L2
/-- as TyX, defs too -/
def TyF (K : PySem.W.Frag) (H : Hp) (x : V) (t : Value) : Prop := TyX K H x t ∨ ∃ f o, x = .ref f ∧ K.lookup f = some o ∧ o.cls = .type "function" ∧ t = .type "function"
section
variable {X : Cx} {pins : List (Addr × Obj)} {σ : L2.St} {H : Hp} {s : Shared}
theorem kit_ofF {x : V} {u t : Value} (I : Inv X pins σ H s) (rx : RelV x u) (ty : TyF X.K H x t) : ∃ P : Heap → Prop, PySem.W.KitX X.K u t P ∧ P s.heap ∧ u ≠ .builtin "__main__.__loader__#opaque" := by
  rcases ty with ty | ⟨f, o, rfl, hl, hc, rfl⟩
  · exact kit_of I rx ty
  · cases (show u = Value.ref f from rx)
    exact ⟨_, K1F.kitFn, ⟨o, I.kIn _ _ hl, hc⟩, fun z => nomatch z⟩
def rIsiF (K : PySem.W.Frag) : List V → Hp → VK → Prop := fun xs H Q => ∃ (x c : V) (t u : Value) (b : Bool), xs = [x, c] ∧ ClsV c u ∧ TyF K H x t ∧ PySem.W.kitOne K t u = some b ∧ Q (.bl b) H
theorem call_isiF : CallR X (.builtin "isinstance") (rIsiF X.K) := by
  intro pins s σ H xs us Q I r h
  obtain ⟨x, c, t, u, b, rfl, k, ty, e, q⟩ := h
  obtain ⟨u1, u2, rfl, r1, r2⟩ := vals2 r
  obtain rfl := ClsV.eq k r2
  obtain ⟨P, Z, p, hx⟩ := kit_ofF I r1 ty
  exact PySem.W.kia_one Z I.kIn p e hx fun tk => ⟨.bl b, H, I.tok tk, rfl, q⟩
/-- the own __eq__, called -/
theorem callOwn {CX : CXT} {f a : Addr} {fd : FuncData} {ps : List Str} {sp : Sp} {E : XK} {n : Nat} {A : Around} {y : V} {u : Value} {R : Bool → Hp → Prop} (F : FnOk X.prog X.w X.K X.mg X.base CX n f fd ps sp) (hb : L2.Binds X.K fd ps []) (hx : Passes CX X E)
    (hr : Room n A) (hfr : A.frames = X.A.frames) (I : Inv X pins σ H s) (ry : RelV y u) (hsp : sp [.ref a, y] H (fun v H' => ∃ b, v = .bl b ∧ R b H') E) :
    wpAny (model X.prog X.w) A (call (.ref f) [.ref a, u]) (fun r s' => ∃ b H', r = .bool b ∧ Inv X pins σ H' s' ∧ R b H') X.xe s := by
  have e0 : Env0 X.prog X.w X.K X.mg X.base A X.stack s H := by
    have e := I.env0
    exact ⟨by rw [hfr]; exact e.frames, e.mod, e.bs, e.bsz, e.funs, e.frf, e.hok, e.bare⟩
  have hl := F.len _ _ _ _ hsp
  have r2 : Vals [V.ref a, y] [Value.ref a, u] := .cons rfl (.cons ry .nil)
  refine wpAny_call (codeAny_mono (F.run A X.stack s H ⟨[.ref a, u], []⟩ [.ref a, u] [.ref a, y] _ E hr e0 (by
    have := hb s [.ref a, u] I.kIn (by simpa using hl)
    simpa using this) r2 hsp) fun r s' hq => ?_)
  cases r with
  | error e => exact hx pins σ H s e s' I hq
  | ok fl =>
    cases fl with
    | ret w =>
      obtain ⟨z, H', I', rz, b, ez, q⟩ := I.after hq
      subst ez
      cases rz
      exact ⟨b, H', rfl, I', q⟩
    | next => exact False.elim hq
    | brk => exact False.elim hq
    | cont => exact False.elim hq
def rOwn (K : PySem.W.Frag) (C : Addr) (sp : Sp) (E : XK) (g : Bool → Bool) : R2 := fun x y H Q => ∃ a dx fs t, x = .ref a ∧ H a = some (.ins C dx fs) ∧ TyF K H y t ∧ PySem.W.notFirst K C t = true ∧ sp [x, y] H (fun v H' => ∃ b, v = .bl b ∧ Q (.bl (g b)) H') E
theorem op_eqOwn {CX : CXT} {C f : Addr} {fd : FuncData} {ps : List Str} {sp : Sp} {E : XK} {n : Nat} (F : FnOk X.prog X.w X.K X.mg X.base CX n f fd ps sp)
    (hs : PySem.W.findIn X.K (.ref C) "__eq__" = some (some (.ref f))) (hf : PySem.W.isFn X.K (.ref f) = true) (hb : L2.Binds X.K fd ps []) (hx : Passes CX X E) (hr : Room n X.A) : OpR X (compareOp .Eq) (rOwn X.K C sp E id) := by
  intro pins s σ H x y v u Q I rx ry hq
  obtain ⟨a, dx, fs, t, rfl, ha, ty, nf, hsp⟩ := hq
  cases rx
  obtain ⟨mA, J, _⟩ := ins_get I.hok ha
  obtain ⟨od, J, _⟩ := J.look
  obtain ⟨P, Z, p, _⟩ := kit_ofF I ry ty
  obtain ⟨m, hF⟩ := I.fr
  show wpAny (model X.prog X.w) X.A (richCompare .Eq (.ref a) u) (EP X pins σ Q) X.xe s
  refine PySem.W.cmp_K (op := .Eq) (tb := t) hr.units0 hF I.ok.mod.kin J (Z.ty _ _ I.kIn p) nf hs hf ?_
  refine wpAny_mono (callOwn (R := fun b H' => Q (.bl b) H') F hb hx hr rfl I ry hsp) (fun r s' q => ?_) fun _ _ z => z
  obtain ⟨b, H', rfl, I', q⟩ := q
  exact ⟨.bl b, H', I', rfl, q⟩
theorem op_neOwn {CX : CXT} {C f : Addr} {fd : FuncData} {ps : List Str} {sp : Sp} {E : XK} {n : Nat} (F : FnOk X.prog X.w X.K X.mg X.base CX n f fd ps sp)
    (hs : PySem.W.findIn X.K (.ref C) "__eq__" = some (some (.ref f))) (hn : PySem.W.findIn X.K (.ref C) "__ne__" = some (some (.builtin "object.__ne__"))) (hob : PySem.W.mroIn X.K C (.type "object") = some true)
    (hf : PySem.W.isFn X.K (.ref f) = true) (hb : L2.Binds X.K fd ps []) (hx : Passes CX X E) (hr : Room (n + 1) X.A) : OpR X (compareOp .NotEq) (rOwn X.K C sp E not) := by
  intro pins s σ H x y v u Q I rx ry hq
  obtain ⟨a, dx, fs, t, rfl, ha, ty, nf, hsp⟩ := hq
  cases rx
  obtain ⟨mA, J, _⟩ := ins_get I.hok ha
  obtain ⟨od, J, _⟩ := J.look
  obtain ⟨P, Z, p, _⟩ := kit_ofF I ry ty
  have hy := Z.ty (model X.prog X.w) _ I.kIn p
  have sp1 : PySem.W.Looks (model X.prog X.w) s.heap (specialOf (.ref a) "__ne__") (some (.builtin "object.__ne__")) := J.type.andThen (PySem.W.looks_findIn I.kIn hn)
  have inst : PySem.W.Looks (model X.prog X.w) s.heap (isInstance (.ref a) (.type "object")) true := J.type.andThen (PySem.W.looks_mroIn I.kIn hob)
  have one : wpAny (model X.prog X.w) X.A (tryCompare (.ref a) "__ne__" u) (fun r s' => ∃ b H', r = some (.bool (!b)) ∧ Inv X pins σ H' s' ∧ Q (.bl (!b)) H') X.xe s := by
    unfold tryCompare
    refine wpAny_bind (NtL.csib sp1 (PySem.F.cmp_object.ne.bind _) ?_)
    refine wpAny_call (codeAny_call_builtin PySem.F.cmp_object.ne.plain PySem.F.cmpEntry_ne (@PySem.W.check_slot (model X.prog X.w) _ _ _ "object.__ne__" "object" "__ne__" (.ref a) [u] [] _ PySem.F.cmpKind_ne PySem.F.cmpSplit_ne inst (PySem.F.cmpArgs_ne _ _) ?_))
    unfold Builtin.«object.__ne__»
    have hr1 : Room n X.A.in1 := hr.in1
    show wpAny (model X.prog X.w) X.A.in1 (do
      cRoomFor "comparison" [.ref a, u]
      match ← callSpecialIfBound? (.ref a) "__eq__" [u] with
      | some .notImplemented | none => ret .notImplemented
      | some r => ret (.bool (!(← truthy r)))) _ _ s
    refine wpAny_bind (wpAny_cRoomFor hr1.units0 ?_)
    refine wpAny_bind (PySem.W.ifBound_K I.kIn J hs hf (wpAny_mono (callOwn (R := fun b H' => Q (.bl (!b)) H') F hb hx hr1 rfl I ry hsp) (fun r s' q => ?_) fun _ _ z => z))
    obtain ⟨b, H', rfl, I', q⟩ := q
    cases b
    · exact wpAny_pure (wpAny_pure ⟨false, H', rfl, I', q⟩)
    · exact wpAny_pure (wpAny_pure ⟨true, H', rfl, I', q⟩)
  show wpAny (model X.prog X.w) X.A (richCompare .NotEq (.ref a) u) (EP X pins σ Q) X.xe s
  unfold richCompare
  simp only [oneThing_ref]
  refine wpAny_holding (wpAny_bind (wpAny_cRoomFor hr.units0 ?_))
  refine wpAny_bind (J.type.here (wpAny_bind (hy.here ?_)))
  split
  · rename_i q
    have e : PySem.W.subIn X.K t (.ref C) = some false := by
      rcases Bool.or_eq_true_iff.mp nf with e | e
      · rw [beq_iff_eq.mp e] at q; simp at q
      · exact beq_iff_eq.mp e
    refine wpAny_bind ((PySem.W.looks_subIn I.kIn e).here ?_)
    simp only [Bool.false_eq_true, if_false]
    refine wpAny_bind (wpAny_mono one (fun r s' z => ?_) fun _ _ e => e)
    obtain ⟨b, H', rfl, I', hq⟩ := z
    exact wpAny_pure ⟨.bl _, H', I', rfl, hq⟩
  · refine wpAny_bind (wpAny_pure ?_)
    simp only [Bool.false_eq_true, if_false]
    refine wpAny_bind (wpAny_mono one (fun r s' z => ?_) fun _ _ e => e)
    obtain ⟨b, H', rfl, I', hq⟩ := z
    exact wpAny_pure ⟨.bl _, H', I', rfl, hq⟩
end
end K1
end
-- KEq
section
set_option Elab.async false
set_option linter.all false
set_option maxRecDepth 100000
set_option maxHeartbeats 4000000
namespace K1
open PySem PySem.Spec PyProof.Rows L2
abbrev sVE : Stmt := inClass (top 18) 1
abbrev sVH : Stmt := inClass (top 18) 2
abbrev sVR : Stmt := inClass (top 18) 3
abbrev sVD : Stmt := inClass (top 18) 4
def dN (ss : List Str) : PyData := .list (ss.map PyData.str)
def dR (rs : List (Str × Str)) : PyData := .list (rs.map fun r => .tuple [.str r.1, .str r.2])
def dI (ns : List Int) : PyData := .list (ns.map PyData.int)
theorem eqvAll_map {α : Type} [DecidableEq α] {f : α → PyData} (h : ∀ a b, PyData.eqv (f a) (f b) = decide (a = b)) : ∀ xs ys : List α, PyData.eqvAll (xs.map f) (ys.map f) = decide (xs = ys)
  | [], [] => rfl
  | [], _ :: _ => rfl
  | _ :: _, [] => rfl
  | x :: xs, y :: ys => by
    show (PyData.eqv (f x) (f y) && PyData.eqvAll (xs.map f) (ys.map f)) = _
    rw [h, eqvAll_map h xs ys, ← Bool.decide_and]
    exact decide_eq_decide.mpr (by rw [List.cons.injEq])
theorem eqv_str (a b : Str) : PyData.eqv (.str a) (.str b) = decide (a = b) := by
  show (a == b) = _
  by_cases e : a = b
  · rw [decide_eq_true e, e]; exact beq_self_eq_true b
  · rw [decide_eq_false e]; exact beq_eq_false_iff_ne.mpr e
theorem eqv_int (a b : Int) : PyData.eqv (.int a) (.int b) = decide (a = b) := by
  show (a == b) = _
  by_cases e : a = b
  · rw [decide_eq_true e, e]; exact beq_self_eq_true b
  · rw [decide_eq_false e]; exact beq_eq_false_iff_ne.mpr e
theorem eqv_pair (a b : Str × Str) : PyData.eqv (.tuple [.str a.1, .str a.2]) (.tuple [.str b.1, .str b.2]) = decide (a = b) := by
  show (PyData.eqv (.str a.1) (.str b.1) && (PyData.eqv (.str a.2) (.str b.2) && true)) = _
  rw [eqv_str, eqv_str, Bool.and_true, ← Bool.decide_and]
  exact decide_eq_decide.mpr (by rw [Prod.ext_iff])
theorem eqv_dN (a b : List Str) : PyData.eqv (dN a) (dN b) = decide (a = b) := eqvAll_map eqv_str a b
theorem eqv_dR (a b : List (Str × Str)) : PyData.eqv (dR a) (dR b) = decide (a = b) := eqvAll_map eqv_pair a b
theorem eqv_dI (a b : List Int) : PyData.eqv (dI a) (dI b) = decide (a = b) := eqvAll_map eqv_int a b
theorem strOk_of {s : Str} (h : nameOk s = true) : PyData.strOk s = true := by
  unfold nameOk at h
  have h2 := (Bool.and_eq_true_iff.mp (Bool.and_eq_true_iff.mp (Bool.and_eq_true_iff.mp h).2).2).2
  unfold PyData.strOk
  rw [← Array.all_toList]
  rw [List.all_eq_true] at h2 ⊢
  intro c hc
  have q := h2 c hc
  unfold okSign at q
  have l1 : ∀ c ∈ letters.cps.toList, c < 0x110000 := by decide +kernel
  have l2 : ∀ c ∈ figures.cps.toList, c < 0x110000 := by decide +kernel
  rcases Bool.or_eq_true_iff.mp q with q | q
  · exact decide_eq_true (l1 c (of_decide_eq_true q))
  · exact decide_eq_true (l2 c (of_decide_eq_true q))
theorem lay_map {α : Type} {f : α → PyData} : ∀ {xs : List α}, (∀ x ∈ xs, (f x).canLay0 = true) → PyData.canLayAll0 (xs.map f) = true
  | [], _ => rfl
  | x :: xs, h => by
    show ((f x).canLay0 && PyData.canLayAll0 (xs.map f)) = true
    rw [h x (List.mem_cons_self ..), lay_map fun y hy => h y (List.mem_cons_of_mem _ hy)]
    rfl
theorem dep_map {α : Type} {f : α → PyData} {n : Nat} : ∀ {xs : List α}, (∀ x ∈ xs, (f x).depth ≤ n) → PyData.depthAll (xs.map f) ≤ n
  | [], _ => Nat.zero_le _
  | x :: xs, h => by
    show max (f x).depth (PyData.depthAll (xs.map f)) ≤ n
    exact Nat.max_le.mpr ⟨h x (List.mem_cons_self ..), dep_map fun y hy => h y (List.mem_cons_of_mem _ hy)⟩
theorem shaped_list {α : Type} {f : α → PyData} {xs : List α} (h1 : ∀ x ∈ xs, (f x).canLay0 = true) (h2 : ∀ x ∈ xs, (f x).depth ≤ 5) : SeqAt.shaped (.list (xs.map f)) = true := by
  show (PyData.canLayAll0 (xs.map f) && decide (PyData.depthAll (xs.map f) + 1 ≤ 64)) = true
  have := dep_map h2
  rw [lay_map h1, decide_eq_true (by omega)]
  rfl
theorem shaped_dN {ss : List Str} (h : ∀ s ∈ ss, nameOk s = true) : SeqAt.shaped (dN ss) = true := shaped_list (fun s hs => strOk_of (h s hs)) (fun _ _ => by show 0 ≤ 5; decide)
theorem shaped_dI (ns : List Int) : SeqAt.shaped (dI ns) = true := shaped_list (fun _ _ => rfl) (fun _ _ => by show 0 ≤ 5; decide)
theorem shaped_dR {rs : List (Str × Str)} (h : ∀ r ∈ rs, nameOk r.1 = true ∧ nameOk r.2 = true) : SeqAt.shaped (dR rs) = true := shaped_list (fun r hr => by
  show (PyData.strOk r.1 && (PyData.strOk r.2 && true)) = true
  rw [strOk_of (h r hr).1, strOk_of (h r hr).2]
  rfl) (fun _ _ => by show max 0 (max 0 0) + 1 ≤ 5; decide)
theorem dpAll {α : Type} {K : PySem.W.Frag} {H : Hp} {f : α → V} {g : α → PyData} (h : ∀ x, Dp K H (f x) (g x)) : ∀ xs : List α, DpAll K H (xs.map f) (xs.map g)
  | [] => .nil
  | x :: xs => .cons (h x) (dpAll h xs)
theorem dp_dN {K : PySem.W.Frag} {H : Hp} {l : Addr} {ss : List Str} (h : H l = some (.lst (ss.map V.str))) : Dp K H (.ref l) (dN ss) := .lst (SqL.of h) (dpAll (fun s => .str s) ss)
theorem dp_dI {K : PySem.W.Frag} {H : Hp} {l : Addr} {ns : List Int} (h : H l = some (.lst (ns.map V.int))) : Dp K H (.ref l) (dI ns) := .lst (SqL.of h) (dpAll (fun s => .int s) ns)
theorem dp_dR {K : PySem.W.Frag} {H : Hp} {l : Addr} {qs : List Addr} {rs : List (Str × Str)} (h : H l = some (.lst (qs.map V.ref))) (p : Paired (TupP H) qs rs) : Dp K H (.ref l) (dR rs) := by
  refine .lst (SqL.of h) ?_
  clear h
  induction p with
  | nil => exact .nil
  | cons f1 f2 ih => exact .cons (.tup (SqT.of f1) (.cons (.str _) (.cons (.str _) .nil))) ih
/-- what the text says of Valley beyond its fields -/
structure VcE (K : PySem.W.Frag) (C : Addr) : Prop extends VcT K C where
  ha : PySem.W.findIn K (.ref C) "__class__" = some (some (.builtin "object.__class__"))
  hn : PySem.W.specialIn K (.builtin "object.__class__") "__get__" = some (some (.builtin "getset_descriptor.__get__"))
  htk : PySem.W.takesIn K (.builtin "object.__class__") = some true
  hm : PySem.W.mroIn K C (.type "object") = some true
  own : PySem.W.kitOne K (.ref C) (.ref C) = some true
  no : ∀ t ∈ kinds ++ ["function"], PySem.W.kitOne K (.type t) (.ref C) = some false
def GoodV (ss : List Str) (rs : List (Str × Str)) : Prop := (∀ s ∈ ss, nameOk s = true) ∧ EndsIn ss rs
theorem GoodV.roads {ss : List Str} {rs : List (Str × Str)} (g : GoodV ss rs) : ∀ r ∈ rs, nameOk r.1 = true ∧ nameOk r.2 = true := fun r hr => ⟨g.1 _ (g.2 r hr).1, g.1 _ (g.2 r hr).2⟩
def spVE (K : PySem.W.Frag) (C : Addr) : Sp := fun vs H Q _ => ∃ x l1 l2 l3 qs ss rs ns y, vs = [.ref x, y] ∧ ValI C H x l1 l2 l3 qs ss rs ns ∧ GoodV ss rs ∧
  ((∃ t, TyF K H y (.type t) ∧ t ∈ kinds ++ ["function"] ∧ Q (.bl false) H) ∨ (∃ z m1 m2 m3 qs' ss' rs' ns', y = .ref z ∧ ValI C H z m1 m2 m3 qs' ss' rs' ns' ∧ GoodV ss' rs' ∧ Q (.bl (decide (ss = ss' ∧ rs = rs' ∧ ns = ns'))) H))
theorem scVE : FnScope ["self", "other"] ["self", "other"] (defScope sVE) := ⟨rfl, rfl, rfl, by decide +kernel, rfl, by decide +kernel, by decide +kernel⟩
theorem scVH : FnScope ["self"] ["self"] (defScope sVH) := ⟨rfl, rfl, rfl, by decide +kernel, rfl, by decide +kernel, by decide +kernel⟩
theorem scVR : FnScope ["self"] ["self"] (defScope sVR) := ⟨rfl, rfl, rfl, by decide +kernel, rfl, by decide +kernel, by decide +kernel⟩
theorem scVD : FnScope ["self"] ["self"] (defScope sVD) := ⟨rfl, rfl, rfl, by decide +kernel, rfl, by decide +kernel, by decide +kernel⟩
def spVH (C : Addr) : Sp := fun vs H Q _ => ∃ x l1 l2 l3 qs ss rs ns, vs = [.ref x] ∧ ValI C H x l1 l2 l3 qs ss rs ns ∧ ∀ l, H l = none → Q (.ref l) (upd H l (.lst (ss.map V.str)))
def spVR (C : Addr) : Sp := fun vs H Q _ => ∃ x l1 l2 l3 qs ss rs ns, vs = [.ref x] ∧ ValI C H x l1 l2 l3 qs ss rs ns ∧ ∀ l, H l = none → Q (.ref l) (upd H l (.lst (qs.map V.ref)))
def spVD (C : Addr) : Sp := fun vs H Q _ => ∃ x l1 l2 l3 qs ss rs ns, vs = [.ref x] ∧ ValI C H x l1 l2 l3 qs ss rs ns ∧ ∀ l, H l = none → Q (.ref l) (upd H l (.lst (ns.map V.int)))
section
variable {P : Program} {w : World} {K : PySem.W.Frag} {mg : Str → Option Value} {base : Heap} {C : Addr}
theorem ok_VE {f : Addr} {fd : FuncData} (F : Fun K "__eq__" "Valley.__eq__" sVE f fd) (B : Bl mg) (T : VcE K C) (mV : mg "Valley" = some (.ref C)) : FnOk P w K mg base CX0 1 f fd ["self", "other"] (spVE K C) := by
  refine F.ok scVE (fun vs H Q E h => ?_) (fun cdv A outer s H vs Q E hr h => ?_)
  · obtain ⟨x, l1, l2, l3, qs, ss, rs, ns, y, rfl, _⟩ := h
    rfl
  obtain ⟨x, l1, l2, l3, qs, ss, rs, ns, y, rfl, vx, gx, h⟩ := h
  have hu := hr.units
  refine ⟨_, pss_cons (by exact (ps_if (pt_not (pt_val (pe_callB call_isiF rfl B.isi PyProof.Rows.boot_isinstance (pa_cons (pv 1) (pa_cons (pe_glob (v := .ref C) rfl mV rfl) pa_nil)))))
      (pss_one (ps_ret pe_bl)) pss_nil))
    (pss_one (by exact (ps_ret (pe_and (pe_cmpR (op_eqD hu) (pe_fld (pv 0) rfl) (pe_fld (pv 1) rfl) (nomark _)) (pe_and (pe_cmpR (op_eqD hu) (pe_fld (pv 0) rfl) (pe_fld (pv 1) rfl) (nomark _)) (pe_one (pe_cmpR (op_eqD hu) (pe_fld (pv 0) rfl) (pe_fld (pv 1) rfl) (nomark _)))))))), ?_⟩
  rcases h with ⟨t, ty, kt, q⟩ | ⟨z, m1, m2, m3, qs', ss', rs', ns', rfl, vz, gz, q⟩
  · exact ⟨_, rfl, y, _, _, _, _, rfl, .own C, ty, T.no t kt, _, rfl, iteT q⟩
  · obtain ⟨dz, fz, iz, z1, z2, z3, _⟩ := vz.ins
    obtain ⟨dx, fx, ix, x1, x2, x3, _⟩ := vx.ins
    refine ⟨_, rfl, .ref z, _, _, _, _, rfl, .own C, .inl (.base (.ins iz T.cl T.ha T.hn T.htk T.hm)), T.own, _, rfl, iteF ?_⟩
    refine ⟨_, rfl, x, C, dx, fx, _, rfl, ix, T.cl, T.n1, x1, _, rfl, z, C, dz, fz, _, rfl, iz, T.cl, T.n1, z1, dN ss, dN ss', dp_dN vx.h1, dp_dN vz.h1, shaped_dN gx.1, shaped_dN gz.1, _, rfl, ?_⟩
    rw [eqv_dN]
    by_cases e1 : ss = ss'
    · rw [decide_eq_true e1]
      refine iteT ⟨_, rfl, x, C, dx, fx, _, rfl, ix, T.cl, T.n2, x2, _, rfl, z, C, dz, fz, _, rfl, iz, T.cl, T.n2, z2, dR rs, dR rs', dp_dR vx.h2 vx.pr, dp_dR vz.h2 vz.pr, shaped_dR gx.roads, shaped_dR gz.roads, _, rfl, ?_⟩
      rw [eqv_dR]
      by_cases e2 : rs = rs'
      · rw [decide_eq_true e2]
        refine iteT ⟨_, rfl, x, C, dx, fx, _, rfl, ix, T.cl, T.n3, x3, _, rfl, z, C, dz, fz, _, rfl, iz, T.cl, T.n3, z3, dI ns, dI ns', dp_dI vx.h3, dp_dI vz.h3, shaped_dI ns, shaped_dI ns', ?_⟩
        rw [eqv_dI]
        have e : decide (ss = ss' ∧ rs = rs' ∧ ns = ns') = decide (ns = ns') := decide_eq_decide.mpr ⟨fun h => h.2.2, fun h => ⟨e1, e2, h⟩⟩
        rw [e] at q
        exact q
      · rw [decide_eq_false e2]
        rw [decide_eq_false (fun h => e2 h.2.1)] at q
        exact iteF q
    · rw [decide_eq_false e1]
      rw [decide_eq_false (fun h => e1 h.1)] at q
      exact iteF q
theorem ok_VH {f : Addr} {fd : FuncData} (F : Fun K "houses" "Valley.houses" sVH f fd) (B : Bl mg) (T : VcE K C) : FnOk P w K mg base CX0 1 f fd ["self"] (spVH C) := by
  refine F.ok scVH (fun vs H Q E h => ?_) (fun cdv A outer s H vs Q E hr h => ?_)
  · obtain ⟨x, l1, l2, l3, qs, ss, rs, ns, rfl, _⟩ := h
    rfl
  obtain ⟨x, l1, l2, l3, qs, ss, rs, ns, rfl, vx, q⟩ := h
  obtain ⟨dx, fx, ix, x1, x2, x3, _⟩ := vx.ins
  refine ⟨_, pss_one (by exact (ps_ret (pe_callTy call_list_of rfl B.list PyProof.Rows.boot_list (pa_cons (pe_fld (pv 0) rfl) pa_nil)))), ?_⟩
  exact ⟨_, rfl, x, C, dx, fx, _, rfl, ix, T.cl, T.n1, x1, l1, _, rfl, .inl (SqL.of vx.h1), q⟩
theorem ok_VR {f : Addr} {fd : FuncData} (F : Fun K "roads" "Valley.roads" sVR f fd) (B : Bl mg) (T : VcE K C) : FnOk P w K mg base CX0 1 f fd ["self"] (spVR C) := by
  refine F.ok scVR (fun vs H Q E h => ?_) (fun cdv A outer s H vs Q E hr h => ?_)
  · obtain ⟨x, l1, l2, l3, qs, ss, rs, ns, rfl, _⟩ := h
    rfl
  obtain ⟨x, l1, l2, l3, qs, ss, rs, ns, rfl, vx, q⟩ := h
  obtain ⟨dx, fx, ix, x1, x2, x3, _⟩ := vx.ins
  refine ⟨_, pss_one (by exact (ps_ret (pe_callTy call_list_of rfl B.list PyProof.Rows.boot_list (pa_cons (pe_fld (pv 0) rfl) pa_nil)))), ?_⟩
  exact ⟨_, rfl, x, C, dx, fx, _, rfl, ix, T.cl, T.n2, x2, l2, _, rfl, .inl (SqL.of vx.h2), q⟩
theorem ok_VD {f : Addr} {fd : FuncData} (F : Fun K "heads" "Valley.heads" sVD f fd) (B : Bl mg) (T : VcE K C) : FnOk P w K mg base CX0 1 f fd ["self"] (spVD C) := by
  refine F.ok scVD (fun vs H Q E h => ?_) (fun cdv A outer s H vs Q E hr h => ?_)
  · obtain ⟨x, l1, l2, l3, qs, ss, rs, ns, rfl, _⟩ := h
    rfl
  obtain ⟨x, l1, l2, l3, qs, ss, rs, ns, rfl, vx, q⟩ := h
  obtain ⟨dx, fx, ix, x1, x2, x3, _⟩ := vx.ins
  refine ⟨_, pss_one (by exact (ps_ret (pe_callTy call_list_of rfl B.list PyProof.Rows.boot_list (pa_cons (pe_fld (pv 0) rfl) pa_nil)))), ?_⟩
  exact ⟨_, rfl, x, C, dx, fx, _, rfl, ix, T.cl, T.n3, x3, l3, _, rfl, .inl (SqL.of vx.h3), q⟩
end
end K1
end
-- KMisc
section
set_option Elab.async false
set_option linter.all false
set_option maxRecDepth 100000
set_option maxHeartbeats 4000000
/-! d.update(d2) of keys that are ints or texts; (x, y)[::-1] -/
namespace K1
open PySem PySem.Spec PyProof.Rows L2

theorem KV_merge {kvs : List (Key × V)} {vs : List (Key × Value)} (r : KV kvs vs) : ∀ {ms : List (Key × V)} {ws : List (Key × Value)}, KV ms ws → KV (mergeK kvs ms) (merged vs ws) := by
  intro ms ws h
  induction h generalizing kvs vs with
  | nil => exact r
  | @cons x y l1 l2 f1 f2 ih =>
    obtain ⟨e1, e2⟩ := f1
    refine ih ?_
    have q := KV.put r x.1 e2
    show KV (putK kvs x.1 x.2) (stored vs y.1 y.2)
    rw [← e1]
    exact q
theorem mergeK_len (kvs ms : List (Key × V)) : (mergeK kvs ms).length ≤ kvs.length + ms.length := by
  induction ms generalizing kvs with
  | nil => exact Nat.le_refl _
  | cons m r ih =>
    have := ih (putK kvs m.1 m.2)
    have h2 := length_putK kvs m.1 m.2
    show (mergeK (putK kvs m.1 m.2) r).length ≤ _
    rw [List.length_cons]
    omega
def rUpdK : V → List V → Hp → VK → Prop := fun x xs H Q => ∃ (a b : Addr) (kvs ms : List (Key × V)), x = .ref a ∧ xs = [.ref b] ∧ a ≠ b ∧ H a = some (.dK kvs) ∧ H b = some (.dK ms) ∧ kvs.length + ms.length ≤ 100000 ∧ Q .non (upd H a (.dK (mergeK kvs ms)))
theorem mt_updK {X : Cx} : MtR X "dict.update" rUpdK := by
  intro pins s σ H x xs v us Q I rx r h
  obtain ⟨a, b, kvs, ms, rfl, rfl, ne, ha, hb, hl, q⟩ := h
  obtain ⟨u1, rfl, r1⟩ := vals1 r
  cases rx
  cases r1
  obtain ⟨z1, s1, vs, rel, d1⟩ := dk_of I.hok ha
  obtain ⟨z2, s2, ws, rel2, d2⟩ := dk_of I.hok hb
  have l1 : vs.length = kvs.length := rel.length.symm
  have l2 : ws.length = ms.length := rel2.length.symm
  refine call_meetsIn PySem.F.slot_dict_update d1.typeIs PySem.F.entry_dict_update (PySem.F.args_dict_update_2 _ _) (meets_dict_update (mixKind X.prog X.w) a b ne s2) ⟨vs, ws, d1, d2, by rw [l1, l2]; exact Nat.le_trans hl (by decide), fun h' e1 e2 sb => ?_⟩
  have he : ∃ o, h'.get? a = some o := let ⟨o, _, _, ho, _⟩ := e1; ⟨o, ho⟩
  have hln : (mergeK kvs ms).length ≤ sizeLine := Nat.le_trans (mergeK_len kvs ms) (Nat.le_trans hl (by decide))
  exact ⟨.non, _, d_write I (by rw [ha]; exact True.intro) sb he (dk_new hln s1 (KV_merge rel rel2) e1), rfl, q⟩
end K1
namespace K1S
open PySem PySem.Spec PyProof.Rows L2 HT
section
variable {prog : Program} {w : World} {A : Around} {E : Value → Shared → Prop} {s : Shared}
theorem backApplied {sl : Addr} {vl vu vs : Value} {Q : Int × Int × Nat → Shared → Prop} (hs : s.heap.IsSliceOf sl vl vu vs) (pl : IsPart vl none) (pu : IsPart vu none) (ps : IsPart vs (some (-1)))
    (h : Q (1, -1, 2) s) : wpAny (model prog w) A (Builtin.Slice.sliceApplied (.ref sl) (pure ((2 : Nat) : Int))) Q E s := by
  obtain ⟨os, hos, hcs, hds⟩ := id hs
  unfold Builtin.Slice.sliceApplied Builtin.Slice.sliceFields
  refine wpAny_bind (wpAny_bind (wpAny_field hos hds (x := vl) rfl (wpAny_bind (wpAny_field hos hds (x := vu) rfl (wpAny_bind (wpAny_field hos hds (x := vs) rfl (wpAny_pure ?_)))))))
  refine wpAny_bind (slicePart_ ps ?_)
  show wpAny _ _ (if ((-1 : Int) == 0) = true then _ else _) _ _ s
  rw [if_neg (by decide)]
  refine wpAny_bind (slicePart_ pl (wpAny_bind (slicePart_ pu (wpAny_bind (wpAny_pure ?_)))))
  exact wpAny_pure h
theorem back2 {t sl : Addr} {x y : Value} {vl vu vs : Value} {Q : Value → Shared → Prop} (ht : IsTup s.heap t #[x, y]) (hs : s.heap.IsSliceOf sl vl vu vs) (pl : IsPart vl none) (pu : IsPart vu none) (ps : IsPart vs (some (-1)))
    (h : Q (.ref s.heap.objs.size) { s with heap := s.heap.push { cls := .type "tuple", data := .seq #[y, x] } }) : wpAny (model prog w) A (getItem (.ref t) (.ref sl)) Q E s := by
  have htake : sizeOk (.seq #[y, x]) := by show 2 ≤ sizeLine; decide
  obtain ⟨os, hos, hcs, hds⟩ := id hs
  have hTs : s.TypeIs (.ref sl) "slice" := ⟨os, hos, hcs⟩
  unfold getItem
  try with_reducible refine wpAny_holding ?_
  first | refine wpAny_bind (wpAny_pure ?_) | skip
  refine wpAny_bind (wpAny_sequenceKey ht.typeIs (by decide) ?_)
  refine wpAny_bind (wpAny_callSpecial?_slot (name := Str.ofString "__getitem__") ht.typeIs PyProof.Rows.slot_tuple_getitem
    (wpAny_call_entry PyProof.Rows.slot_tuple_getitem ht.typeIs entry_tuple_getitem ?_ (args_tuple_getitem _ _)))
  show wpAny _ _ (Builtin.Tuple.tupleItemsOf (.ref t) >>= _) _ _ s
  refine wpAny_bind (tupleItemsOf_ ht ?_)
  refine wpAny_bind (wpAny_typeOf hTs ?_)
  rw [if_pos (by decide)]
  refine wpAny_bind (backApplied hs pl pu ps ?_)
  first
    | exact wpAny_bind (m := Builtin.Tuple.tupleExact _) (wpAny_newObj_type (wpAny_pure ⟨_, rfl, wpAny_pure h⟩) htake)
    | exact wpAny_bind (m := Builtin.Tuple.tupleExact _) (wpAny_newObj_type (wpAny_bind (wpAny_pure (wpAny_pure ⟨_, rfl, wpAny_pure h⟩))) htake)
    | exact wpAny_bind (wpAny_bind (m := Builtin.Tuple.tupleExact _) (wpAny_newObj_type (wpAny_pure (wpAny_pure ⟨_, rfl, wpAny_pure h⟩)) htake))
    | exact wpAny_bind (wpAny_bind (m := Builtin.Tuple.tupleExact _) (wpAny_newObj_type (wpAny_pure ⟨_, rfl, wpAny_pure h⟩) htake))
end
end K1S
namespace K1
open PySem PySem.Spec PyProof.Rows L2
def tBack (K : PySem.W.Frag) (te : TE) : TE := fun σ H Q => te σ H fun v H1 => ∃ a x y, v = .ref a ∧ SqT K H1 a [x, y] ∧ ∀ p, H1 p = none → Q (.ref p) (upd H1 p (.tup [y, x]))
theorem pe_back {X : Cx} {e : Expr} {te : TE} {k : Nat} {p1 p2 p3 pos : Pos} (he : PE X e te) : PE X (.Subscript e (.Slice none none (some (.UnaryOp .USub (.Constant (.int 1) k p1) p2)) p3) pos) (tBack X.K te) := by
  refine ⟨fun pins s σ H Q I h => ?_⟩
  refine Subscript_ (thn (he.run pins s σ H _ I h) fun v s1 ⟨v1, H1, I1, r1, q1⟩ => ?_)
  obtain ⟨a, x, y, ex, hx, q⟩ := q1
  subst ex
  cases r1
  have hst : PO X (some (.UnaryOp .USub (.Constant (.int 1) k p1) p2)) (tPart (tUn (rU fun i => .int (-i)) (tC (.int 1)))) := po_some (pe_un un_neg pe_int)
  refine wpAny_Slice (thn (po_none.run pins s1 σ H1 (fun o H2 => o = none ∧ H2 = H1) I1 ⟨rfl, rfl⟩) fun vl s2 ⟨l, H2, I2, pl, el, e2⟩ => ?_)
  subst el e2
  refine thn (po_none.run pins s2 σ H2 (fun o H3 => o = none ∧ H3 = H2) I2 ⟨rfl, rfl⟩) fun vu s3 ⟨u, H3, I3, pu, eu, e3⟩ => ?_
  subst eu e3
  refine thn (hst.run pins s3 σ H3 (fun o H4 => o = some (-1) ∧ H4 = H3) I3 ⟨1, rfl, -1, rfl, rfl, rfl⟩) fun vs s4 ⟨o, H4, I4, ps, eo, e4⟩ => ?_
  subst eo e4
  have I5 : Inv X pins σ H4 { s4 with heap := s4.heap.push { cls := .type "slice", data := .fields #[vl, vu, vs] } } := I4.kept (t' := s4.toks) fun b ob q => Heap.get?_push_of_some _ q
  obtain ⟨its, r, ht, hz⟩ := I5.tuple hx
  obtain ⟨u1, u2, rfl, ra, rb⟩ := vals2 r
  show wpAny (model X.prog X.w) X.A (subscriptTail e (.Slice none none (some (.UnaryOp .USub (.Constant (.int 1) k p1) p2)) p3) (.ref a) (.ref s4.heap.objs.size)) (EP X pins σ Q) X.xe { s4 with heap := s4.heap.push { cls := .type "slice", data := .fields #[vl, vu, vs] } }
  refine tail_any (ops := [.ref a, .ref s4.heap.objs.size]) ht.typeIs (PyProof.Rows.slot_tuple_getitem.lookup) ?_ (by with_unfolding_all rfl)
  refine K1S.back2 ht (Heap.IsSliceOf.new _ vl vu vs) pl pu ps ?_
  refine ⟨.ref _, _, I5.laid (t' := s4.toks) (o := .tup [y, x]) (fun b ob q => Heap.get?_push_of_some _ q) (Nat.le_refl _) ?_, rfl, q _ (I5.hok.fresh (Nat.le_refl _))⟩
  exact ⟨by show 2 ≤ sizeLine; decide, [u2, u1], .cons rb (.cons ra .nil), IsTup.new _ _⟩
end K1
end
-- KLaw1
section
set_option Elab.async false
set_option linter.all false
set_option maxRecDepth 100000
set_option maxHeartbeats 4000000
namespace K1
open PySem PySem.Spec PyProof.Rows L2
abbrev sSpring : Stmt := top 27
abbrev sVN : Stmt := top 33
def spSpring (K : PySem.W.Frag) : Sp := fun vs H Q _ => ∃ (a : Addr) (t : Int) (ns : List Int), vs = [.ref a, .int t] ∧ SqL K H a (ns.map V.int) ∧ 0 ≤ t ∧ t ≤ 1000 ∧ ns.length ≤ 1000 ∧ ∀ p H', Same H H' → H p = none → Spr H' p 0 → Q (.ref p) H'
theorem scSpring : FnScope ["script", "turn", "cell", "mixed", "at", "one"] ["script", "turn"] (defScope sSpring) := ⟨rfl, rfl, rfl, by decide +kernel, rfl, by decide +kernel, by decide +kernel⟩
theorem atI_map {ns : List Int} {t : Int} (h0 : 0 ≤ t) (h1 : t < (ns.length : Int)) : ∃ n : Int, atI (ns.map V.int) t = some (.int n) := by
  have hk : t.toNat < ns.length := by omega
  have q : atI (ns.map V.int) ((t.toNat : Nat) : Int) = some (.int ns[t.toNat]) := atI_nat (by rw [List.getElem?_map, List.getElem?_eq_getElem hk]; rfl)
  rw [show ((t.toNat : Nat) : Int) = t by omega] at q
  exact ⟨_, q⟩
section
variable {P : Program} {w : World} {K : PySem.W.Frag} {mg : Str → Option Value} {base : Heap}
theorem ok_spring {f : Addr} {fd : FuncData} (F : Fun K "_law_spring" "_law_spring" sSpring f fd) (B : Bl mg) (me : mg "enumerate" = none) : FnOk P w K mg base CX0 1 f fd ["script", "turn"] (spSpring K) := by
  refine F.ok scSpring (fun vs H Q E h => ?_) (fun cdv A outer s H vs Q E hr h => ?_)
  · obtain ⟨a, t, ns, rfl, _⟩ := h
    rfl
  obtain ⟨a, t, ns, rfl, hS, t0, t1, hl, q⟩ := h
  have nd := scSpring.nd
  refine ⟨_, pss_cons (by exact (ps_par (i := 2) (j := 3) rfl nd rfl rfl (by decide) rfl rfl (pa_cons (pe_ifExp (pt_cmpR op_lt (pv 1) (pe_callB call_len_seq rfl B.len PySem.boot_len (pa_cons (pv 0) pa_nil)) (nomark _)) (pe_ix ix_list (pv 0) (pv 1) (fun _ _ => rfl))
      (pe_op op_add (pe_op op_add (pe_op op_mul pe_int (pv 1)) pe_int) (pe_callB call_len_seq rfl B.len PySem.boot_len (pa_cons (pv 0) pa_nil)))) (pa_cons (pe_op op_add pe_int (pe_op op_mul pe_int (pv 1))) pa_nil)) (by rfl)))
    (pss_cons (by exact (ps_for PassesOwn.never rfl (by exact pi_enum rfl me (pa_cons (pe_slice sl_list (pv 0) po_none (po_some pe_int)) pa_nil)) (pg_tup rfl (pgs_cons (pg_name (i := 4) nd rfl (.inl rfl)) (pgs_cons (pg_name (i := 5) nd rfl (.inl rfl)) pgs_nil)))
      (pss_one (by exact (ps_set (i := 3) nd rfl (.inl rfl) (pe_op op_mod (pe_callTy call_int1 rfl B.int PyProof.Rows.boot_int (pa_cons (pe_op op_add (pe_op op_add (pe_op op_add (pe_op op_mul (pv 3) pe_int) (pv 5)) (pe_op op_mul pe_int (pv 4))) pe_int) pa_nil)) pe_int))))))
    (pss_one (by exact (ps_ret (pe_lst (pa_cons (pe_ifExp (pt_cmpR op_ge (pv 2) (pe_op op_pow pe_int pe_int) (nomark _)) (pv 2) pe_int)
      (pa_cons (pe_op op_mod (pe_callTy call_int1 rfl B.int PyProof.Rows.boot_int (pa_cons (pe_op op_add (pv 3) (pe_op op_mul pe_int (pv 2))) pa_nil)) pe_int) (pa_cons pe_int pa_nil)))))))), ?_⟩
  have hlen : (ns.map V.int).length = ns.length := List.length_map _
  refine ⟨_, rfl, _, rfl, a, _, rfl, .inl hS, _, _, rfl, rfl, _, rfl, ?_⟩
  refine ite2 (fun c => ?_) (fun c => ?_)
  all_goals first
    | (have c' : t < (((ns.map V.int).length : Nat) : Int) := of_decide_eq_true c
       rw [hlen] at c'
       obtain ⟨cell, ec⟩ := atI_map t0 c'
       refine ⟨_, rfl, _, rfl, a, _, _, _, rfl, rfl, hS, ec, ?_⟩)
    | refine ⟨_, rfl, _, _, rfl, rfl, .inl (by constructor <;> decide), _, _, rfl, rfl, _, rfl, a, _, rfl, .inl hS, _, _, rfl, rfl, ?_⟩
  all_goals
    refine ⟨_, rfl, _, _, rfl, rfl, .inl (by constructor <;> decide), _, _, rfl, rfl, _, _, rfl, ?_⟩
    refine ⟨_, rfl, 64, rfl, a, _, rfl, hS, fun L hL => ⟨L, _, rfl, SqL.of upd_same, ?_⟩⟩
    have eL := K1.Same.upd (o := .lst (cutV (ns.map V.int) none (some 64))) hL
    refine for_it (walk_enum (K := K)) (fun i σ Hc => (∃ (c m : Int) (sa sb : Option V), σ = [some (.ref a), some (.int t), some (.int c), some (.int m), sa, sb] ∧ 0 ≤ m ∧ m < 1000000000000) ∧ Same H Hc ∧ Hc L = some (.lst (cutV (ns.map V.int) none (some 64)))) ⟨⟨_, _, _, _, rfl, by omega, by omega⟩, eL, upd_same⟩ (fun i σ Hc _ h => SqL.of h.2.2) ?_ ?_
    · rintro i x σ Hc H' hi ⟨⟨c, m, sa, sb, rfl, m0, m1⟩, h1, h2⟩ ⟨T, x1, x2, rfl, hT, rfl, e1', e2'⟩
      obtain rfl : x1 = .int (i : Nat) := (Option.some.inj e1').symm
      have e2' : (cutV (ns.map V.int) none (some 64))[i]? = some x2 := e2'
      obtain ⟨n, rfl⟩ : ∃ n : Int, x2 = .int n := by
        have m1 := List.mem_of_mem_drop (List.mem_of_mem_take (List.mem_of_getElem? e2'))
        obtain ⟨n, _, e⟩ := List.mem_map.mp m1
        exact ⟨n, e.symm⟩
      have hT2 := K1.Same.upd (H := Hc) (p := T) (o := .tup [.int (i : Nat), .int n]) hT
      refine ⟨T, _, rfl, SqT.of upd_same, rfl, _, _, rfl, _, _, rfl, rfl, ?_⟩
      refine ⟨_, rfl, _, _, rfl, rfl, .inl ⟨by omega, by omega⟩, _, rfl, _, _, rfl, rfl, _, rfl, _, _, rfl, rfl, .inl (by constructor <;> decide), _, _, rfl, rfl, _, _, rfl, rfl, .inl ⟨_, rfl, _, _, rfl, rfl, (by show (0 : Int) < 2147483543; decide), ?_⟩⟩
      refine ⟨⟨c, _, _, _, rfl, Int.emod_nonneg _ (by decide), ?_⟩, h1.trans hT2, hT2 _ _ h2⟩
      have := Int.emod_lt_of_pos (m * 69621 + n + 9 * (i : Nat) + 5) (show (0 : Int) < 2147483543 by decide)
      omega
    · rintro σ Hc ⟨⟨c, m, sa, sb, rfl, m0, m1⟩, h1, h2⟩
      refine ⟨_, rfl, _, _, rfl, rfl, ⟨by decide, by decide, by decide⟩, _, _, rfl, rfl, _, rfl, ?_⟩
      have y0 := Int.emod_nonneg (m + 53 * c) (show (2147483543 : Int) ≠ 0 by decide)
      have y1 := Int.emod_lt_of_pos (m + 53 * c) (show (0 : Int) < 2147483543 by decide)
      refine ite2 (fun c2 => ?_) (fun c2 => ?_)
      · have c3 : c ≥ 10 ^ ((18 : Int).toNat) := of_decide_eq_true c2
        refine ⟨_, rfl, _, rfl, _, rfl, _, _, rfl, rfl, .inl (by constructor <;> decide), _, _, rfl, rfl, .inl ⟨_, rfl, _, _, rfl, rfl, (by show (0 : Int) < 2147483543; decide), (by show 3 ≤ sizeLine; decide), fun l hl => ?_⟩⟩
        exact q l _ (h1.trans (K1.Same.upd hl)) (h1.free hl) ⟨c, _, 0, upd_same, Int.le_trans (by decide) c3, y0, y1, Int.le_refl 0, Int.le_refl 0⟩
      · refine ⟨_, rfl, _, rfl, _, _, rfl, rfl, .inl (by constructor <;> decide), _, _, rfl, rfl, .inl ⟨_, rfl, _, _, rfl, rfl, (by show (0 : Int) < 2147483543; decide), (by show 3 ≤ sizeLine; decide), fun l hl => ?_⟩⟩
        exact q l _ (h1.trans (K1.Same.upd hl)) (h1.free hl) ⟨0, _, 0, upd_same, Int.le_refl 0, y0, y1, Int.le_refl 0, Int.le_refl 0⟩
end
end K1
end
-- KLaw2
section
set_option Elab.async false
set_option linter.all false
set_option maxRecDepth 100000
set_option maxHeartbeats 4000000
namespace K1
open PySem PySem.Spec PyProof.Rows L2
def names12 : List Str := ["c3", "b", "z", "aa", "mill", "a", "x0", "eightsgn", "q", "no", "y7", "m1"]
def nameK (k : Nat) : Str := ("h" : Str) ++ Str.ofString (toString ((0 : Int) + (k : Int)))
def names60 : List Str := (List.range 60).map nameK
def goodB (ss : List Str) : Bool := ss.Nodup && ss.all fun s => nameOk s && decide (s.length ≤ 1000)
theorem good_of {ss : List Str} (h : decide ss.Nodup = true) (h2 : (ss.all fun s => nameOk s && decide (s.length ≤ 1000)) = true) : Good ss := by
  refine ⟨of_decide_eq_true h, fun s hs => ?_⟩
  have := List.all_eq_true.mp h2 s hs
  exact ⟨(Bool.and_eq_true_iff.mp this).1, of_decide_eq_true (Bool.and_eq_true_iff.mp this).2⟩
theorem good12 : Good names12 := good_of (by decide +kernel) (by decide +kernel)
theorem good60 : Good names60 := good_of (by decide +kernel) (by decide +kernel)
theorem Good.perm {as bs : List Str} (g : Good bs) (p : as.Perm bs) : Good as := ⟨p.nodup_iff.mpr g.1, fun s hs => g.2 s (p.mem_iff.mp hs)⟩
theorem Good.take {as : List Str} (g : Good as) (n : Nat) : Good (as.take n) := ⟨g.1.sublist (List.take_sublist _ _), fun s hs => g.2 s (List.mem_of_mem_take hs)⟩
def unS : V → Str
  | .str s => s
  | _ => ""
theorem unS_map (ss : List Str) : (ss.map V.str).map unS = ss := by
  rw [List.map_map]
  exact List.map_id _
theorem perm_str {ys : List V} {ss : List Str} (p : ys.Perm (ss.map V.str)) : ∃ ts : List Str, ys = ts.map V.str ∧ ts.Perm ss := by
  refine ⟨ys.map unS, ?_, by have := p.map unS; rwa [unS_map] at this⟩
  rw [List.map_map]
  have : ∀ y ∈ ys, (V.str ∘ unS) y = y := fun y hy => by
    obtain ⟨s, _, rfl⟩ := List.mem_map.mp (p.mem_iff.mp hy)
    rfl
  exact (List.map_congr_left this).trans (List.map_id _) |>.symm
theorem cut_to (xs : List V) (k : Nat) : cutV xs none (some (k : Int)) = xs.take k := by
  unfold cutV
  rw [HT.sIx_none, HT.sIx_nat, List.drop_zero, Nat.sub_zero]
  by_cases h : k ≤ xs.length
  · rw [Nat.min_eq_left h]
  · rw [Nat.min_eq_right (by omega), List.take_length, List.take_of_length_le (by omega)]
def NoB (ss : List Str) : Prop := ∀ s ∈ ss, s ≠ "nobody"
theorem nob12 : NoB names12 := by
  have : (names12.all fun s => decide (s ≠ "nobody")) = true := by decide +kernel
  exact fun s hs => of_decide_eq_true (List.all_eq_true.mp this s hs)
theorem nob60 : NoB names60 := by
  have : (names60.all fun s => decide (s ≠ "nobody")) = true := by decide +kernel
  exact fun s hs => of_decide_eq_true (List.all_eq_true.mp this s hs)
def spVN : Sp := fun vs H Q _ => ∃ (a : Addr) (l m : Int) (n : Nat), vs = [.ref a, .int l, .int m] ∧ Spr H a n ∧ n + 2000 ≤ 1000000 ∧ 1 ≤ l ∧ l ≤ m ∧ m ≤ 60 ∧
  ∀ (r : Addr) (ss : List Str) (H' : Hp), H r = none → r ≠ a → Kept a H H' → Spr H' a (n + 100) → H' r = some (.lst (ss.map V.str)) → Good ss → NoB ss → l ≤ (ss.length : Int) → (ss.length : Int) ≤ m → Q (.ref r) H'
theorem scVN : FnScope ["spring", "least", "most", "many", "some", "k"] ["spring", "least", "most"] (defScope sVN) := ⟨rfl, rfl, rfl, by decide +kernel, rfl, by decide +kernel, by decide +kernel⟩
section
variable {P : Program} {w : World} {K : PySem.W.Frag} {mg : Str → Option Value} {base : Heap} {fD fM : Addr} {fdD fdM : FuncData}
theorem ok_VN {f : Addr} {fd : FuncData} (F : Fun K "_law_v_names" "_law_v_names" sVN f fd) (B : Bl mg) (mr : mg "range" = none)
    (G : FnOk P w K mg base CX0 1 fD fdD ["spring", "many"] spDraw) (b : Binds K fdD ["spring", "many"] []) (k : PySem.W.keepIn K (.ref fD) = true) (m : mg "_law_draw" = some (.ref fD))
    (GM : FnOk P w K mg base CX0 2 fM fdM ["spring", "some"] spMixed) (bM : Binds K fdM ["spring", "some"] []) (kM : PySem.W.keepIn K (.ref fM) = true) (mM : mg "_law_mixed" = some (.ref fM)) :
    FnOk P w K mg base CX0 3 f fd ["spring", "least", "most"] spVN := by
  refine F.ok scVN (fun vs H Q E h => ?_) (fun cdv A outer s H vs Q E hr h => ?_)
  · obtain ⟨a, l, mo, n, rfl, _⟩ := h
    rfl
  obtain ⟨a, l, mo, n, rfl, hs, hn, hl, hlm, hm, q⟩ := h
  have nd := scVN.nd
  have hr1 : Room 1 _ := hr.mono (by decide)
  refine ⟨_, (pss_cons (by exact (ps_set (i := 3) nd rfl (.inl rfl) (pe_op op_add (pv 1) (pe_call G hr1 rfl m k b .nil pass0 (pa_cons (pv 0) (pa_cons (pe_op op_add (pe_op op_sub (pv 2) (pv 1)) pe_int) pa_nil)))))) (pss_cons (by exact (ps_set (i := 4) nd rfl (.inl rfl) (pe_lst (pa_cons pe_str (pa_cons pe_str (pa_cons pe_str (pa_cons pe_str (pa_cons pe_str (pa_cons pe_str (pa_cons pe_str (pa_cons pe_str (pa_cons pe_str (pa_cons pe_str (pa_cons pe_str (pa_cons pe_str pa_nil))))))))))))))) (pss_one (by exact (ps_ret (pe_slice sl_list (pe_call GM hr rfl mM kM bM .nil pass0 (pa_cons (pv 0) (pa_cons (pe_ifExp (pt_cmpR op_le (pv 3) pe_int (nomark _)) (pv 4) (pe_lc (own := [("k", 5)]) (g := gName 5) (tt := tYes) rfl nd (by exact pi_range1 rfl mr (pa_cons pe_int pa_nil)) (by exact blkOk_by (N := ["spring", "least", "most", "many", "some", "k"]) (sc := defScope sVN) (by decide +kernel)) (fun _ _ _ _ _ => by exact (pg_name (i := 5) nd rfl (.inl rfl))) (fun _ _ _ _ _ => by exact pts_nil) (fun _ _ _ _ _ => by exact (pe_op op_add_str pe_str (pe_callTy call_str_int rfl B.str PyProof.Rows.boot_str (pa_cons (pv 5) pa_nil)))))) pa_nil))) po_none (po_some (pv 3)))))))), ?_⟩
  refine ⟨_, rfl, _, rfl, _, rfl, _, rfl, _, _, rfl, rfl, _, _, rfl, rfl, a, _, n, rfl, hs, by omega, by omega, ?_, fun d H1 d0 d1 kp s1 => ?_⟩
  · have : (mo - l + 1).natAbs ≤ 100 := by omega
    exact Nat.lt_of_le_of_lt this (by decide)
  refine ⟨_, _, rfl, rfl, (by show 12 ≤ sizeLine; decide), fun L hL => ?_⟩
  have La := s1.ne hL
  have LH : H L = none := by
    cases e : H L with
    | none => rfl
    | some o => rw [kp _ _ La e] at hL; cases hL
  have k2 : Kept a H (L2.upd H1 L (.lst (names12.map V.str))) := kp.trans (Kept.new hL)
  have s2 : Spr (L2.upd H1 L (.lst (names12.map V.str))) a (n + 1) := s1.upd La
  have fin : ∀ (p : Addr) (ts : List Str) (Hx : Hp), Good ts → NoB ts → ts.length ≤ 60 → (l + d ≤ (ts.length : Int)) → Hx p = some (.lst (ts.map V.str)) → p ≠ a → Kept a H Hx → Spr Hx a (n + 1) →
      spMixed [.ref a, .ref p] Hx (fun v H' => ∃ r xs, v = .ref r ∧ SqL K H' r xs ∧ ∀ z, H' z = none → Q (.ref z) (L2.upd H' z (.lst (cutV xs none (some (l + d)))))) E0 := by
    intro p ts Hx gt nbt lt hk hp pa kx sx
    refine ⟨a, p, ts.map V.str, n + 1, rfl, sx, by omega, hp, pa, by rw [List.length_map]; omega, fun r ys H3 pm rn ra hr3 k3 s3 => ?_⟩
    obtain ⟨us, rfl, pu⟩ := perm_str pm
    refine ⟨r, _, rfl, SqL.of hr3, fun z hz => ?_⟩
    have za := s3.ne hz
    have e : cutV (us.map V.str) none (some (l + d)) = (us.take (l + d).toNat).map V.str := by
      rw [show l + d = (((l + d).toNat : Nat) : Int) by omega, cut_to, ← List.map_take]
      rfl
    have lu := pu.length_eq
    have k4 := kx.trans k3
    have zH : H z = none := by
      cases e : H z with
      | none => rfl
      | some o => rw [k4 _ _ za e] at hz; cases hz
    refine q z (us.take (l + d).toNat) _ zH za (k4.trans (Kept.new hz)) ((s3.upd za).mono (by rw [List.length_map]; omega)) (by rw [upd_same, e]) ((gt.perm pu).take _) (fun s hs => nbt s (pu.mem_iff.mp (List.mem_of_mem_take hs))) ?_ ?_
    · rw [List.length_take]; omega
    · rw [List.length_take]; omega
  refine ⟨_, rfl, _, rfl, _, _, rfl, rfl, _, rfl, ?_⟩
  refine ite2 (fun c => ?_) (fun c => ?_)
  · have c' : l + d ≤ 12 := of_decide_eq_true c
    refine ⟨_, rfl, ?_⟩
    obtain ⟨a', p', xs, n', e1, e2, e3, e4, e5, e6, e7⟩ := fin L names12 _ good12 nob12 (by decide) c' upd_same La k2 s2
    refine ⟨a', p', xs, n', e1, e2, e3, e4, e5, e6, fun r ys H' x1 x2 x3 x4 x5 x6 => ?_⟩
    obtain ⟨r', ws, y1, y2, y3⟩ := e7 r ys H' x1 x2 x3 x4 x5 x6
    exact ⟨_, rfl, _, rfl, r', ws, y1, y2, y3⟩
  · refine ⟨60, rfl, by decide, by decide, fun D hD => ?_⟩
    have DL : D ≠ L := fun z => by rw [z, upd_same] at hD; cases hD
    have Da := s2.ne hD
    refine lc_range (fun i Hc => Same (L2.upd H1 L (.lst (names12.map V.str))) Hc ∧ Hc D = some (.lst ((names60.take i).map V.str))) ⟨K1.Same.upd hD, upd_same⟩ ?_ ?_
    · rintro i Hc hi ⟨f1, f2⟩
      refine ⟨rfl, ?_⟩
      unfold tYes
      refine iteT ?_
      have hi2 : i < 60 := hi
      have e60 : names60[i]? = some (nameK i) := by
        unfold names60
        rw [List.getElem?_map, List.getElem?_range hi2]
        rfl
      refine ⟨_, rfl, _, rfl, ?_, _, _, rfl, rfl, ?_, _, f2, ?_, fun b o nn => ?_, ?_⟩
      · have : ((0 : Int) + (i : Int)).natAbs < 64 := by omega
        exact Nat.lt_of_le_of_lt (Nat.log2_le_self _) (by omega)
      · have := (good60.2 (nameK i) (List.mem_of_getElem? e60)).2
        unfold nameK at this
        have e : (("h" : Str) ++ Str.ofString (toString ((0 : Int) + (i : Int)))).length = ("h" : Str).length + (Str.ofString (toString ((0 : Int) + (i : Int)))).length := Array.size_append
        rw [e] at this
        exact Nat.le_trans this (by decide)
      · rw [List.length_map]
        exact small1000 (Nat.le_trans (List.length_take_le _ _) (by omega))
      · rw [upd_ne (ne_of_none nn hD)]
        exact f1 b o nn
      · rw [upd_same, map_take_succ e60]
        rfl
    · rintro Hc ⟨f1, f2⟩
      have l60 : names60.length = 60 := by decide +kernel
      have f3 : Hc D = some (.lst (names60.map V.str)) := by
        have e : names60.take 60 = names60 := List.take_of_length_le (by rw [l60]; decide)
        rw [← e]
        exact f2
      have k3 : Kept a (L2.upd H1 L (.lst (names12.map V.str))) Hc := Kept.same f1
      have s3 : Spr Hc a (n + 1) := by
        obtain ⟨x, y, z, e, r⟩ := s2
        exact ⟨x, y, z, f1 _ _ e, r⟩
      obtain ⟨a', p', xs, n', e1, e2, e3, e4, e5, e6, e7⟩ := fin D names60 Hc good60 nob60 (by rw [l60]; decide) (by rw [l60]; omega) f3 Da (k2.trans k3) s3
      refine ⟨a', p', xs, n', e1, e2, e3, e4, e5, e6, fun r ys H' x1 x2 x3 x4 x5 x6 => ?_⟩
      obtain ⟨r', ws, y1, y2, y3⟩ := e7 r ys H' x1 x2 x3 x4 x5 x6
      exact ⟨_, rfl, _, rfl, r', ws, y1, y2, y3⟩
end
end K1
end
-- KLaw3
section
set_option Elab.async false
set_option linter.all false
set_option maxRecDepth 100000
set_option maxHeartbeats 4000000
namespace K1
open PySem PySem.Spec PyProof.Rows L2
abbrev sVRo : Stmt := top 34
/-- each road parts its two ends, and no other road's -/
def Cut (rs : List (Str × Str)) : Prop := rs.Nodup ∧ ∀ e ∈ rs, ∃ c : Str → Bool, c e.1 ≠ c e.2 ∧ ∀ e' ∈ rs, e' ≠ e → c e'.1 = c e'.2
theorem Cut.nil : Cut [] := ⟨List.nodup_nil, fun e he => absurd he (by simp)⟩
theorem Cut.perm {as bs : List (Str × Str)} (h : Cut bs) (p : as.Perm bs) : Cut as := by
  refine ⟨p.nodup_iff.mpr h.1, fun e he => ?_⟩
  obtain ⟨c, h1, h2⟩ := h.2 e (p.mem_iff.mp he)
  exact ⟨c, h1, fun e' he' n => h2 e' (p.mem_iff.mp he') n⟩
theorem Cut.add {rs : List (Str × Str)} {u v : Str} {e0 : Str × Str} (h : Cut rs) (hv : ∀ r ∈ rs, r.1 ≠ v ∧ r.2 ≠ v) (huv : u ≠ v) (he : e0 = (u, v) ∨ e0 = (v, u)) : Cut (rs ++ [e0]) := by
  have ends : (e0.1 = u ∧ e0.2 = v) ∨ (e0.1 = v ∧ e0.2 = u) := he.imp (fun h => by rw [h]; exact ⟨rfl, rfl⟩) (fun h => by rw [h]; exact ⟨rfl, rfl⟩)
  have n0 : ¬ e0 ∈ rs := fun hm => by
    rcases ends with ⟨_, z⟩ | ⟨z, _⟩
    · exact (hv e0 hm).2 z
    · exact (hv e0 hm).1 z
  refine ⟨?_, fun e hm => ?_⟩
  · rw [List.nodup_append]
    refine ⟨h.1, by simp, fun x hx y hy => ?_⟩
    rw [List.mem_singleton.mp hy]
    intro z
    rw [z] at hx
    exact n0 hx
  · rcases List.mem_append.mp hm with hm | hm
    · obtain ⟨c, h1, h2⟩ := h.2 e hm
      refine ⟨fun s => if s = v then c u else c s, ?_, fun e' he' n => ?_⟩
      · show (if e.1 = v then c u else c e.1) ≠ (if e.2 = v then c u else c e.2)
        rw [if_neg (hv e hm).1, if_neg (hv e hm).2]
        exact h1
      · show (if e'.1 = v then c u else c e'.1) = (if e'.2 = v then c u else c e'.2)
        rcases List.mem_append.mp he' with he' | he'
        · rw [if_neg (hv e' he').1, if_neg (hv e' he').2]
          exact h2 e' he' n
        · rw [List.mem_singleton.mp he']
          rcases ends with ⟨z1, z2⟩ | ⟨z1, z2⟩
          · rw [z1, z2, if_neg huv, if_pos rfl]
          · rw [z1, z2, if_neg huv, if_pos rfl]
    · rw [List.mem_singleton.mp hm]
      refine ⟨fun s => decide (s = v), ?_, fun e' he' n => ?_⟩
      · show decide (e0.1 = v) ≠ decide (e0.2 = v)
        rcases ends with ⟨z1, z2⟩ | ⟨z1, z2⟩
        · rw [z1, z2, decide_eq_false huv, decide_eq_true rfl]; decide
        · rw [z1, z2, decide_eq_false huv, decide_eq_true rfl]; decide
      · show decide (e'.1 = v) = decide (e'.2 = v)
        rcases List.mem_append.mp he' with he' | he'
        · rw [decide_eq_false (hv e' he').1, decide_eq_false (hv e' he').2]
        · exact absurd (List.mem_singleton.mp he') n
theorem nodup_take_not' {α : Type} {ss : List α} (h : ss.Nodup) {i : Nat} (hi : i < ss.length) : ¬ ss[i] ∈ ss.take i := fun hm => by
  obtain ⟨j, hj, ej⟩ := List.getElem_of_mem hm
  rw [List.length_take] at hj
  rw [List.getElem_take] at ej
  have := (List.getElem_inj h).mp ej
  omega
theorem col_join {c : Str → Bool} {rt : Str → Str} {a b : Str} (h : ∀ s, c (rt s) = c s) (e : c a = c b) (s : Str) : c (joinRt rt a b s) = c s := by
  unfold joinRt
  by_cases z : rt s = rt a
  · rw [if_pos z, h, ← e, ← h a, ← z, h]
  · rw [if_neg z, h]
theorem col_rt {c : Str → Bool} : ∀ (n : Nat) {rs : List (Str × Str)}, rs.length = n → (∀ e ∈ rs, c e.1 = c e.2) → ∀ s, c (rtOf rs s) = c s
  | 0, rs, h0, _, s => by rw [List.length_eq_zero_iff.mp h0]; rfl
  | n + 1, rs, h0, h, s => by
    have hne : rs ≠ [] := fun z => by rw [z] at h0; cases h0
    have e := List.dropLast_concat_getLast hne
    rw [← e, rtOf_snoc]
    refine col_join (fun t => col_rt n (by rw [List.length_dropLast]; omega) (fun e he => h e ((List.dropLast_sublist _).mem he)) t) (h _ (List.getLast_mem hne)) s
theorem Cut.forest {rs : List (Str × Str)} (h : Cut rs) : Forest rs := by
  intro i hi z
  obtain ⟨c, h1, h2⟩ := h.2 rs[i] (List.getElem_mem hi)
  have hc : ∀ s, c (rtOf (rs.take i) s) = c s := col_rt _ rfl fun e he => h2 e (List.mem_of_mem_take he) (fun q => nodup_take_not' h.1 hi (by rw [← q]; exact he))
  exact h1 (by rw [← hc rs[i].1, z, hc])
def spVRo : Sp := fun vs H Q _ => ∃ (a p : Addr) (n : Nat) (ss : List Str), vs = [.ref a, .ref p] ∧ Spr H a n ∧ n + 2000 ≤ 1000000 ∧ H p = some (.lst (ss.map V.str)) ∧ p ≠ a ∧ Good ss ∧ 1 ≤ ss.length ∧ ss.length ≤ 60 ∧
  ∀ (r : Addr) (qs : List Addr) (rs : List (Str × Str)) (H' : Hp), H r = none → r ≠ a → Kept a H H' → Spr H' a (n + 400) → H' r = some (.lst (qs.map V.ref)) → Paired (TupP H') qs rs → (∀ q ∈ qs, H q = none) → Cut rs → EndsIn ss rs → rs.length + 1 = ss.length → Q (.ref r) H'
theorem scVRo : FnScope ["spring", "names", "shape", "found", "k", "at", "pair"] ["spring", "names"] (defScope sVRo) := ⟨rfl, rfl, rfl, by decide +kernel, rfl, by decide +kernel, by decide +kernel⟩
theorem at4 {a0 a1 a2 a3 s : Int} (h0 : 0 ≤ s) (h1 : s < 4) : ∃ x : Int, atI [V.int a0, V.int a1, V.int a2, V.int a3] s = some (.int x) ∧ (x = a0 ∨ x = a1 ∨ x = a2 ∨ x = a3) := by
  have : s = 0 ∨ s = 1 ∨ s = 2 ∨ s = 3 := by omega
  rcases this with rfl | rfl | rfl | rfl
  · exact ⟨a0, rfl, .inl rfl⟩
  · exact ⟨a1, rfl, .inr (.inl rfl)⟩
  · exact ⟨a2, rfl, .inr (.inr (.inl rfl))⟩
  · exact ⟨a3, rfl, .inr (.inr (.inr rfl))⟩
def unR : V → Addr
  | .ref a => a
  | _ => 0
theorem paired_perm {H : Hp} {qs : List Addr} {rs : List (Str × Str)} (h : Paired (TupP H) qs rs) {ys : List V} (p : ys.Perm (qs.map V.ref)) : ∃ qs' rs', ys = qs'.map V.ref ∧ qs'.Perm qs ∧ rs'.Perm rs ∧ Paired (TupP H) qs' rs' := by
  have e1 : ys = (ys.map unR).map V.ref := by
    rw [List.map_map]
    have : ∀ y ∈ ys, (V.ref ∘ unR) y = y := fun y hy => by
      obtain ⟨s, _, rfl⟩ := List.mem_map.mp (p.mem_iff.mp hy)
      rfl
    exact (List.map_congr_left this).trans (List.map_id _) |>.symm
  have p2 : (ys.map unR).Perm qs := by
    have := p.map unR
    rw [List.map_map] at this
    exact this.trans (List.Perm.of_eq (List.map_id _))
  have key : ∀ {as bs : List Addr}, as.Perm bs → ∀ {ts : List (Str × Str)}, Paired (TupP H) bs ts → ∃ us, us.Perm ts ∧ Paired (TupP H) as us := by
    intro as bs pm
    induction pm with
    | nil => intro ts h; cases h; exact ⟨[], .nil, .nil⟩
    | cons x _ ih =>
      intro ts h
      cases h with
      | cons f r =>
        obtain ⟨us, q1, q2⟩ := ih r
        exact ⟨_ :: us, q1.cons _, .cons f q2⟩
    | swap x y l =>
      intro ts h
      cases h with
      | cons f r =>
        cases r with
        | cons f2 r2 => exact ⟨_ :: _ :: _, .swap _ _ _, .cons f2 (.cons f r2)⟩
    | trans _ _ ih1 ih2 =>
      intro ts h
      obtain ⟨us, q1, q2⟩ := ih2 h
      obtain ⟨ws, q3, q4⟩ := ih1 q2
      exact ⟨ws, q3.trans q1, q4⟩
  obtain ⟨us, q1, q2⟩ := key p2 h
  exact ⟨_, us, e1, p2, q1, q2⟩
theorem Spr.tup {H : Hp} {a q : Addr} {n : Nat} {xs : List V} (h : Spr H a n) (e : H q = some (.tup xs)) : q ≠ a := fun z => by
  obtain ⟨x, y, z2, e2, _⟩ := h
  rw [z, e2] at e
  cases e
theorem TupP.kept {H H' : Hp} {a : Addr} {n : Nat} {qs : List Addr} {rs : List (Str × Str)} (h : Paired (TupP H) qs rs) (s : Spr H a n) (k : Kept a H H') : Paired (TupP H') qs rs := paired_imp (fun _ _ q => k _ _ (s.tup q) q) h
section
variable {P : Program} {w : World} {K : PySem.W.Frag} {mg : Str → Option Value} {base : Heap} {fD fM : Addr} {fdD fdM : FuncData}
theorem ok_VRo {f : Addr} {fd : FuncData} (F : Fun K "_law_v_roads" "_law_v_roads" sVRo f fd) (B : Bl mg) (mr : mg "range" = none) (mx : mg "max" = none)
    (G : FnOk P w K mg base CX0 1 fD fdD ["spring", "many"] spDraw) (b : Binds K fdD ["spring", "many"] []) (k : PySem.W.keepIn K (.ref fD) = true) (m : mg "_law_draw" = some (.ref fD))
    (GM : FnOk P w K mg base CX0 2 fM fdM ["spring", "some"] spMixed) (bM : Binds K fdM ["spring", "some"] []) (kM : PySem.W.keepIn K (.ref fM) = true) (mM : mg "_law_mixed" = some (.ref fM)) :
    FnOk P w K mg base CX0 3 f fd ["spring", "names"] spVRo := by
  refine F.ok scVRo (fun vs H Q E h => ?_) (fun cdv A outer s H vs Q E hr h => ?_)
  · obtain ⟨a, p, n, ss, rfl, _⟩ := h
    rfl
  obtain ⟨a, p, n, ss, rfl, hs, hn, hp, pa, good, l1, l60, q⟩ := h
  have nd := scVRo.nd
  have hr1 : Room 1 _ := hr.mono (by decide)
  refine ⟨_, (pss_cons (by exact (ps_par (i := 2) (j := 3) rfl nd rfl rfl (by decide) rfl rfl (pa_cons (pe_call G hr1 rfl m k b .nil pass0 (pa_cons (pv 0) (pa_cons pe_int pa_nil))) (pa_cons (pe_lst pa_nil) pa_nil)) (by rfl))) (pss_cons (by exact (ps_for PassesOwn.never rfl (by exact pi_range2 rfl mr (pa_cons pe_int (pa_cons (pe_callB call_len_seq rfl B.len PySem.boot_len (pa_cons (pv 1) pa_nil)) pa_nil))) (pg_name (i := 4) nd rfl (.inl rfl)) (pss_cons (by exact (ps_set (i := 5) nd rfl (.inl rfl) (pe_ix ix_list (pe_lst (pa_cons (pe_op op_sub (pv 4) pe_int) (pa_cons pe_int (pa_cons (pe_call G hr1 rfl m k b .nil pass0 (pa_cons (pv 0) (pa_cons (pv 4) pa_nil))) (pa_cons (pe_callB (call_max2 rfl) rfl mx (by decide +kernel) (pa_cons pe_int (pa_cons (pe_op op_sub (pe_op op_sub (pv 4) pe_int) (pe_call G hr1 rfl m k b .nil pass0 (pa_cons (pv 0) (pa_cons pe_int pa_nil)))) pa_nil))) pa_nil))))) (pv 2) (fun _ _ => rfl)))) (pss_cons (by exact (ps_set (i := 6) nd rfl (.inl rfl) (pe_tup (pa_cons (pe_ix ix_list (pv 1) (pv 5) (fun _ _ => rfl)) (pa_cons (pe_ix ix_list (pv 1) (pv 4) (fun _ _ => rfl)) pa_nil))))) (pss_one (by exact (ps_expr (pe_bm PySem.F.plainAttrs_list PySem.F.slot_list_append PySem.F.type_list_append mt_append (pv 3) (pa_cons (pe_ifExp (pt_cmpR op_eq (pe_call G hr1 rfl m k b .nil pass0 (pa_cons (pv 0) (pa_cons pe_int pa_nil))) pe_int (nomark _)) (pv 6) (pe_back (pv 6))) pa_nil))))))))) (pss_one (by exact (ps_ret (pe_call GM hr rfl mM kM bM .nil pass0 (pa_cons (pv 0) (pa_cons (pv 3) pa_nil)))))))), ?_⟩
  refine ⟨_, rfl, a, 4, n, rfl, hs, by omega, by decide, by decide, fun sh H1 s0 s1 kp hs1 => ?_⟩
  refine ⟨Nat.zero_le _, fun L hL => ?_⟩
  have La := hs1.ne hL
  have fr0 : ∀ {Hx : Hp} {z : Addr}, Kept a H Hx → Hx z = none → z ≠ a → H z = none := fun {Hx z} kx hz za => by
    cases e : H z with
    | none => rfl
    | some o => rw [kx _ _ za e] at hz; cases hz
  have LH := fr0 kp hL La
  have pL : p ≠ L := ne_of_none hp LH
  refine ⟨_, _, rfl, _, rfl, p, _, rfl, .inl (SqL.of (by rw [upd_ne pL]; exact kp _ _ pa hp)), _, _, rfl, ⟨by decide, by decide, by rw [List.length_map]; omega, by rw [List.length_map]; omega⟩, ?_⟩
  have hN : ((((ss.map V.str).length : Nat) : Int) - 1).toNat = ss.length - 1 := by rw [List.length_map]; omega
  rw [hN]
  refine for_range (lo := 1) (n := ss.length - 1) (fun i σ Hc => (∃ x y z, σ = [some (.ref a), some (.ref p), some (.int sh), some (.ref L), x, y, z]) ∧ Kept a H Hc ∧ Spr Hc a (n + 1 + 4 * i) ∧ ∃ qs rs, Hc L = some (.lst (qs.map V.ref)) ∧ Paired (TupP Hc) qs rs ∧ (∀ q ∈ qs, H q = none) ∧ Cut rs ∧ EndsIn (ss.take (i + 1)) rs ∧ rs.length = i) ?_ ?_ ?_
  · exact ⟨⟨_, _, _, rfl⟩, kp.trans (Kept.new hL), (hs1.upd La).mono (by omega), [], [], upd_same, .nil, fun q hq => absurd hq (by simp), Cut.nil, fun r hr => absurd hr (by simp), rfl⟩
  · rintro i σ Hc hi ⟨⟨x, y, z, rfl⟩, k1, sp1, qs, rs, g1, g2, g3, g4, g5, g6⟩
    have i59 : i < 60 := by omega
    have ck : ((1 : Int) + (i : Int)).natAbs < 2 ^ 100 := Nat.lt_of_le_of_lt (show ((1 : Int) + (i : Int)).natAbs ≤ 100 by omega) (by decide)
    refine ⟨_, rfl, _, _, rfl, rfl, _, rfl, _, rfl, a, _, _, rfl, sp1, by omega, by omega, ck, fun d2 H2 d20 d21 k2 sp2 => ?_⟩
    refine ⟨_, rfl, _, _, rfl, rfl, _, rfl, a, _, _, rfl, sp2, by omega, by decide, by decide, fun d3 H3 d30 d31 k3 sp3 => ?_⟩
    refine ⟨_, _, rfl, rfl, _, _, rfl, (by show 4 ≤ sizeLine; decide), fun l4 hl4 => ?_⟩
    obtain ⟨x5, e5, o5⟩ := at4 (a0 := 1 + (i : Int) - 1) (a1 := 0) (a2 := d2) (a3 := if 1 + (i : Int) - 1 - d3 > 0 then 1 + (i : Int) - 1 - d3 else 0) s0 s1
    have x50 : 0 ≤ x5 ∧ x5 ≤ (i : Int) := by
      rcases o5 with rfl | rfl | rfl | rfl
      · omega
      · omega
      · omega
      · split <;> omega
    have l4a := sp3.ne hl4
    have k13 := k1.trans (k2.trans k3)
    have k14 : Kept a H (L2.upd H3 l4 (.lst [.int (1 + (i : Int) - 1), .int 0, .int d2, .int (if 1 + (i : Int) - 1 - d3 > 0 then 1 + (i : Int) - 1 - d3 else 0)])) := k13.trans (Kept.new hl4)
    have sp4 : Spr (L2.upd H3 l4 (.lst [.int (1 + (i : Int) - 1), .int 0, .int d2, .int (if 1 + (i : Int) - 1 - d3 > 0 then 1 + (i : Int) - 1 - d3 else 0)])) a (n + 1 + 4 * i + 1 + 1) := sp3.upd l4a
    have g14 : L2.upd H3 l4 (.lst [.int (1 + (i : Int) - 1), .int 0, .int d2, .int (if 1 + (i : Int) - 1 - d3 > 0 then 1 + (i : Int) - 1 - d3 else 0)]) L = some (.lst (qs.map V.ref)) := by
      have h3 := (k2.trans k3) _ _ La g1
      rw [upd_ne (ne_of_none h3 hl4)]
      exact h3
    have t14 : Paired (TupP (L2.upd H3 l4 (.lst [.int (1 + (i : Int) - 1), .int 0, .int d2, .int (if 1 + (i : Int) - 1 - d3 > 0 then 1 + (i : Int) - 1 - d3 else 0)]))) qs rs := TupP.kept g2 sp1 ((k2.trans k3).trans (Kept.new hl4))
    refine ⟨_, rfl, l4, _, sh, _, rfl, rfl, SqL.of upd_same, e5, ?_⟩
    generalize L2.upd H3 l4 (.lst [.int (1 + (i : Int) - 1), .int 0, .int d2, .int (if 1 + (i : Int) - 1 - d3 > 0 then 1 + (i : Int) - 1 - d3 else 0)]) = H4 at k14 sp4 g14 t14 ⊢
    have hp4 := k14 _ _ pa hp
    have hx5 : x5.toNat < ss.length := by omega
    have hik : i + 1 < ss.length := by omega
    have ea : atI (ss.map V.str) x5 = some (.str ss[x5.toNat]) := by
      have := atI_nat (xs := ss.map V.str) (j := x5.toNat) (v := .str ss[x5.toNat]) (by rw [List.getElem?_map, List.getElem?_eq_getElem hx5]; rfl)
      rwa [show ((x5.toNat : Nat) : Int) = x5 by omega] at this
    have ek : atI (ss.map V.str) (1 + (i : Int)) = some (.str ss[i + 1]) := by
      have := atI_nat (xs := ss.map V.str) (j := i + 1) (v := .str ss[i + 1]) (by rw [List.getElem?_map, List.getElem?_eq_getElem hik]; rfl)
      rwa [show (((i + 1 : Nat)) : Int) = 1 + (i : Int) by omega] at this
    refine ⟨_, rfl, _, rfl, p, _, x5, _, rfl, rfl, SqL.of hp4, ea, _, rfl, _, rfl, p, _, _, _, rfl, rfl, SqL.of hp4, ek, (by show 2 ≤ sizeLine; decide), fun t ht => ?_⟩
    have ta := sp4.ne ht
    have tL : t ≠ L := fun z => by rw [z, g14] at ht; cases ht
    have k15 : Kept a H (L2.upd H4 t (.tup [.str ss[x5.toNat], .str ss[i + 1]])) := k14.trans (Kept.new ht)
    have sp5 : Spr (L2.upd H4 t (.tup [.str ss[x5.toNat], .str ss[i + 1]])) a (n + 1 + 4 * i + 1 + 1) := sp4.upd ta
    have g15 : L2.upd H4 t (.tup [.str ss[x5.toNat], .str ss[i + 1]]) L = some (.lst (qs.map V.ref)) := by rw [upd_ne tL.symm]; exact g14
    have t15 := TupP.kept t14 sp4 (Kept.new (a := a) ht (o := .tup [.str ss[x5.toNat], .str ss[i + 1]]))
    have tt : L2.upd H4 t (.tup [.str ss[x5.toNat], .str ss[i + 1]]) t = some (.tup [.str ss[x5.toNat], .str ss[i + 1]]) := upd_same
    have tH := fr0 k14 ht ta
    generalize L2.upd H4 t (.tup [.str ss[x5.toNat], .str ss[i + 1]]) = H5 at k15 sp5 g15 t15 tt ⊢
    refine ⟨_, rfl, .inl ⟨rfl, _, SqL.of g15⟩, _, rfl, a, _, _, rfl, sp5, by omega, by decide, by decide, fun d6 H6 d60 d61 k6 sp6 => ?_⟩
    have nv : ¬ ss[i + 1] ∈ ss.take (i + 1) := nodup_take_not good.1 hik
    have mv : ss[x5.toNat] ∈ ss.take (i + 1) := List.mem_take_iff_getElem.mpr ⟨x5.toNat, by omega, rfl⟩
    have ends2 : ∀ r ∈ rs, r.1 ≠ ss[i + 1] ∧ r.2 ≠ ss[i + 1] := fun r hr => ⟨fun z => nv (by rw [← z]; exact (g5 r hr).1), fun z => nv (by rw [← z]; exact (g5 r hr).2)⟩
    have huv : ss[x5.toNat] ≠ ss[i + 1] := fun z => nv (by rw [← z]; exact mv)
    have up1 : ∀ s ∈ ss.take (i + 1), s ∈ ss.take (i + 1 + 1) := fun s hs => (mem_take_succ hik).mpr (.inl hs)
    have lq : qs.length = rs.length := g2.length
    -- the new pair stands at t2
    have fin : ∀ (t2 : Addr) (e0 : Str × Str) (H7 : Hp), (e0 = (ss[x5.toNat], ss[i + 1]) ∨ e0 = (ss[i + 1], ss[x5.toNat])) → Kept a H H7 → Spr H7 a (n + 1 + 4 * i + 1 + 1 + 1) → H7 L = some (.lst (qs.map V.ref)) → Paired (TupP H7) qs rs → TupP H7 t2 e0 → H t2 = none →
        ∃ l xs y, V.ref L = .ref l ∧ [V.ref t2] = [y] ∧ H7 l = some (.lst xs) ∧ xs.length < sizeLine ∧ ((∃ x y z, ([some (.ref a), some (.ref p), some (.int sh), some (.ref L), some (.int (1 + (i : Int))), some (.int x5), some (.ref t)] : L2.St) = [some (.ref a), some (.ref p), some (.int sh), some (.ref L), x, y, z]) ∧
          Kept a H (L2.upd H7 l (.lst (xs ++ [y]))) ∧ Spr (L2.upd H7 l (.lst (xs ++ [y]))) a (n + 1 + 4 * (i + 1)) ∧ ∃ qs rs, L2.upd H7 l (.lst (xs ++ [y])) L = some (.lst (qs.map V.ref)) ∧ Paired (TupP (L2.upd H7 l (.lst (xs ++ [y])))) qs rs ∧ (∀ q ∈ qs, H q = none) ∧ Cut rs ∧ EndsIn (ss.take (i + 1 + 1)) rs ∧ rs.length = i + 1) := by
      intro t2 e0 H7 he kx sx gx tx tp tn
      have keepT : ∀ q r, TupP H7 q r → TupP (L2.upd H7 L (.lst (qs.map V.ref ++ [.ref t2]))) q r := fun q r e => by
        have ne : q ≠ L := fun z => by
          have e' : H7 q = _ := e
          rw [z, gx] at e'
          cases e'
        show L2.upd H7 L _ q = _
        rw [upd_ne ne]
        exact e
      refine ⟨L, _, _, rfl, rfl, gx, by rw [List.length_map]; exact small1000 (by omega), ⟨_, _, _, rfl⟩, fun b o nb e => ?_, (sx.upd La).mono (by omega), qs ++ [t2], rs ++ [e0], ?_, ?_, fun q hq => ?_, g4.add ends2 huv he, fun r hr => ?_, by rw [List.length_append, g6]; rfl⟩
      · rw [upd_ne (ne_of_none e LH)]
        exact kx b o nb e
      · rw [upd_same, List.map_append]
        rfl
      · have pz : ∀ {as : List Addr} {bs : List (Str × Str)}, Paired (TupP H7) as bs → Paired (TupP (L2.upd H7 L (.lst (qs.map V.ref ++ [.ref t2])))) (as ++ [t2]) (bs ++ [e0]) := by
          intro as bs h
          induction h with
          | nil => exact .cons (keepT _ _ tp) .nil
          | cons f1 f2 ih => exact .cons (keepT _ _ f1) ih
        exact pz tx
      · rcases List.mem_append.mp hq with hq | hq
        · exact g3 q hq
        · rw [List.mem_singleton.mp hq]
          exact tn
      · rcases List.mem_append.mp hr with hr | hr
        · exact ⟨up1 _ (g5 r hr).1, up1 _ (g5 r hr).2⟩
        · rw [List.mem_singleton.mp hr]
          have m2 : ss[i + 1] ∈ ss.take (i + 1 + 1) := (mem_take_succ hik).mpr (.inr rfl)
          rcases he with rfl | rfl
          · exact ⟨up1 _ mv, m2⟩
          · exact ⟨m2, up1 _ mv⟩
    have g16 := k6 _ _ La g15
    have t16 := TupP.kept t15 sp5 k6
    have tt6 := k6 _ _ ta tt
    refine ⟨rfl, _, rfl, ?_⟩
    refine ite2 (fun c => ?_) (fun c => ?_)
    · exact ⟨_, rfl, fin t _ H6 (.inl rfl) (k15.trans k6) sp6 g16 t16 tt6 tH⟩
    · refine ⟨_, rfl, t, _, _, rfl, SqT.of tt6, fun t2 ht2 => ?_⟩
      have ta2 := sp6.ne ht2
      have tn2 : t2 ≠ L := fun z => by rw [z, g16] at ht2; cases ht2
      refine fin t2 (ss[i + 1], ss[x5.toNat]) _ (.inr rfl) ((k15.trans k6).trans (Kept.new ht2)) (sp6.upd ta2) (by rw [upd_ne tn2.symm]; exact g16) (TupP.kept t16 sp6 (Kept.new ht2)) upd_same (fr0 (k15.trans k6) ht2 ta2)
  · rintro σ Hc ⟨⟨x, y, z, rfl⟩, k1, sp1, qs, rs, g1, g2, g3, g4, g5, g6⟩
    have lq : qs.length = rs.length := g2.length
    refine ⟨_, rfl, _, rfl, a, L, qs.map V.ref, _, rfl, sp1, by omega, g1, La, by rw [List.length_map]; omega, fun r ys H' pm rn ra hr3 k3 s3 => ?_⟩
    obtain ⟨qs', rs', rfl, pq, pr, pp⟩ := paired_perm g2 pm
    have le : ss.take (ss.length - 1 + 1) = ss := List.take_of_length_le (by omega)
    rw [le] at g5
    refine q r qs' rs' H' (fr0 k1 rn ra) ra (k1.trans k3) (s3.mono (by rw [List.length_map]; omega)) hr3 (TupP.kept pp sp1 k3) (fun z hz => g3 z (pq.mem_iff.mp hz)) (g4.perm pr) (fun r hr => g5 r (pr.mem_iff.mp hr)) (by rw [pr.length_eq]; omega)
end
end K1
end
-- KLaw4
section
set_option Elab.async false
set_option linter.all false
set_option maxRecDepth 100000
set_option maxHeartbeats 4000000
namespace K1
open PySem PySem.Spec PyProof.Rows L2
abbrev sVV : Stmt := top 35
/-- the law's own valley: a triple of three lists -/
structure VAt (a : Addr) (H : Hp) (t p1 p2 p3 : Addr) (qs : List Addr) (ss : List Str) (rs : List (Str × Str)) (ns : List Int) : Prop where
  t0 : H t = some (.tup [.ref p1, .ref p2, .ref p3])
  h1 : H p1 = some (.lst (ss.map V.str))
  h2 : H p2 = some (.lst (qs.map V.ref))
  pr : Paired (TupP H) qs rs
  h3 : H p3 = some (.lst (ns.map V.int))
  n1 : p1 ≠ a
  n2 : p2 ≠ a
  n3 : p3 ≠ a
structure VOk (ss : List Str) (rs : List (Str × Str)) (ns : List Int) : Prop where
  good : Good ss
  pos : 1 ≤ ss.length
  le : ss.length ≤ 60
  cut : Cut rs
  ends : EndsIn ss rs
  rl : rs.length + 1 = ss.length
  nl : ns.length = ss.length
  ge : ∀ n ∈ ns, 1 ≤ n
  nob : NoB ss
theorem VAt.kept {a : Addr} {H H' : Hp} {t p1 p2 p3 : Addr} {qs : List Addr} {ss : List Str} {rs : List (Str × Str)} {ns : List Int} {n : Nat} (v : VAt a H t p1 p2 p3 qs ss rs ns) (s : Spr H a n) (k : Kept a H H') : VAt a H' t p1 p2 p3 qs ss rs ns :=
  ⟨k _ _ (s.tup v.t0) v.t0, k _ _ v.n1 v.h1, k _ _ v.n2 v.h2, TupP.kept v.pr s k, k _ _ v.n3 v.h3, v.n1, v.n2, v.n3⟩
def spVV : Sp := fun vs H Q _ => ∃ (a : Addr) (l m : Int) (n : Nat), vs = [.ref a, .int l, .int m] ∧ Spr H a n ∧ n + 5000 ≤ 1000000 ∧ 1 ≤ l ∧ l ≤ m ∧ m ≤ 60 ∧
  ∀ (t p1 p2 p3 : Addr) (qs : List Addr) (ss : List Str) (rs : List (Str × Str)) (ns : List Int) (H' : Hp), Kept a H H' → Spr H' a (n + 1000) → VAt a H' t p1 p2 p3 qs ss rs ns → VOk ss rs ns → l ≤ (ss.length : Int) → (ss.length : Int) ≤ m → Q (.ref t) H'
theorem scVV : FnScope ["spring", "least", "most", "names", "top", "name"] ["spring", "least", "most"] (defScope sVV) := ⟨rfl, rfl, rfl, by decide +kernel, rfl, by decide +kernel, by decide +kernel⟩
theorem fr_kept {a : Addr} {H Hx : Hp} {z : Addr} (kx : Kept a H Hx) (hz : Hx z = none) (za : z ≠ a) : H z = none := by
  cases e : H z with
  | none => rfl
  | some o => rw [kx _ _ za e] at hz; cases hz
section
variable {P : Program} {w : World} {K : PySem.W.Frag} {mg : Str → Option Value} {base : Heap} {fD fM fN fP fR : Addr} {fdD fdM fdN fdP fdR : FuncData}
theorem ok_VV {f : Addr} {fd : FuncData} (F : Fun K "_law_v_valley" "_law_v_valley" sVV f fd) (B : Bl mg)
    (GD : FnOk P w K mg base CX0 1 fD fdD ["spring", "many"] spDraw) (bD : Binds K fdD ["spring", "many"] []) (kD : PySem.W.keepIn K (.ref fD) = true) (mD : mg "_law_draw" = some (.ref fD))
    (GM : FnOk P w K mg base CX0 2 fM fdM ["spring", "some"] spMixed) (bM : Binds K fdM ["spring", "some"] []) (kM : PySem.W.keepIn K (.ref fM) = true) (mM : mg "_law_mixed" = some (.ref fM))
    (GP : FnOk P w K mg base CX0 2 fP fdP ["spring", "some"] spPick) (bP : Binds K fdP ["spring", "some"] []) (kP : PySem.W.keepIn K (.ref fP) = true) (mP : mg "_law_pick" = some (.ref fP))
    (GN : FnOk P w K mg base CX0 3 fN fdN ["spring", "least", "most"] spVN) (bN : Binds K fdN ["spring", "least", "most"] []) (kN : PySem.W.keepIn K (.ref fN) = true) (mN : mg "_law_v_names" = some (.ref fN))
    (GR : FnOk P w K mg base CX0 3 fR fdR ["spring", "names"] spVRo) (bR : Binds K fdR ["spring", "names"] []) (kR : PySem.W.keepIn K (.ref fR) = true) (mR : mg "_law_v_roads" = some (.ref fR)) :
    FnOk P w K mg base CX0 4 f fd ["spring", "least", "most"] spVV := by
  refine F.ok scVV (fun vs H Q E h => ?_) (fun cdv A outer s H vs Q E hr h => ?_)
  · obtain ⟨a, l, m, n, rfl, _⟩ := h
    rfl
  obtain ⟨a, l, m, n, rfl, hs, hn, hl, hlm, hm, q⟩ := h
  have nd := scVV.nd
  have hr1 : Room 1 _ := hr.mono (by decide)
  have hr2 : Room 2 _ := hr.mono (by decide)
  refine ⟨_, (pss_cons (by exact (ps_asg (pe_tup (pa_cons (pe_call GN hr rfl mN kN bN .nil pass0 (pa_cons (pv 0) (pa_cons (pv 1) (pa_cons (pv 2) pa_nil)))) (pa_cons (pe_call GP hr2 rfl mP kP bP .nil pass0 (pa_cons (pv 0) (pa_cons (pe_lst (pa_cons pe_int (pa_cons pe_int (pa_cons (pe_op op_pow pe_int pe_int) pa_nil)))) pa_nil))) pa_nil))) (pg_tup rfl (pgs_cons (pg_name (i := 3) nd rfl (.inl rfl)) (pgs_cons (pg_name (i := 4) nd rfl (.inr rfl)) pgs_nil))))) (pss_one (by exact (ps_ret (pe_tup (pa_cons (pe_call GM hr2 rfl mM kM bM .nil pass0 (pa_cons (pv 0) (pa_cons (pv 3) pa_nil))) (pa_cons (pe_call GR hr rfl mR kR bR .nil pass0 (pa_cons (pv 0) (pa_cons (pv 3) pa_nil))) (pa_cons (pe_lc (own := [("name", 5)]) (g := gName 5) (tt := tYes) rfl nd (by exact pi_seqV 3 (pv 3)) (by exact blkOk_by (N := ["spring", "least", "most", "names", "top", "name"]) (sc := defScope sVV) (by decide +kernel)) (fun _ _ _ _ _ => by exact (pg_name (i := 5) nd rfl (.inl rfl))) (fun _ _ _ _ _ => by exact pts_nil) (fun _ _ _ _ _ => by exact (pe_op op_add pe_int (pe_call GD hr1 rfl mD kD bD .nil pass0 (pa_cons (pv 0) (pa_cons (pv 4) pa_nil)))))) pa_nil)))))))), ?_⟩
  refine ⟨_, rfl, _, rfl, _, rfl, a, l, m, n, rfl, hs, by omega, hl, hlm, hm, fun p ss0 H1 p0 pa k1 s1 hp good nob g1 g2 => ?_⟩
  refine ⟨_, rfl, _, _, rfl, rfl, ⟨by decide, by decide, by decide⟩, (by show 3 ≤ sizeLine; decide), fun l1 hl1 => ?_⟩
  have l1a := s1.ne hl1
  have p1n := ne_of_none hp hl1
  refine ⟨a, l1, _, n + 100, rfl, s1.upd l1a, by omega, upd_same, l1a, by simp, (by show 3 ≤ 1000; decide), fun x H2 hx k2 s2 => ?_⟩
  have k12 : Kept a H1 H2 := (Kept.new hl1).trans k2
  have hp2 := k12 _ _ pa hp
  obtain ⟨top, rfl, tp1, tp2⟩ : ∃ t : Int, x = .int t ∧ 0 < t ∧ t.natAbs < 2 ^ 100 := by
    rcases List.mem_cons.mp hx with rfl | hx
    · exact ⟨1, rfl, by decide, by decide⟩
    · rcases List.mem_cons.mp hx with rfl | hx
      · exact ⟨4, rfl, by decide, by decide⟩
      · rcases List.mem_cons.mp hx with rfl | hx
        · exact ⟨_, rfl, by decide, by decide⟩
        · cases hx
  refine ⟨(by show 2 ≤ sizeLine; decide), fun u hu => ⟨u, _, rfl, SqT.of upd_same, rfl, _, _, rfl, _, _, rfl, rfl, ?_⟩⟩
  have ua := s2.ne hu
  have pu := ne_of_none hp2 hu
  have k13 : Kept a H1 (L2.upd H2 u (.tup [.ref p, .int top])) := k12.trans (Kept.new hu)
  have s3 : Spr (L2.upd H2 u (.tup [.ref p, .int top])) a (n + 100 + 1) := s2.upd ua
  have hp3 : L2.upd H2 u (.tup [.ref p, .int top]) p = some (.lst (ss0.map V.str)) := by rw [upd_ne pu]; exact hp2
  generalize L2.upd H2 u (.tup [.ref p, .int top]) = H3 at k13 s3 hp3 ⊢
  refine ⟨_, rfl, _, rfl, a, p, ss0.map V.str, _, rfl, s3, by omega, hp3, pa, by rw [List.length_map]; omega, fun r1 ys H4 pm rn1 ra1 hr1' k4 s4 => ?_⟩
  rw [List.length_map] at s4
  obtain ⟨ss, rfl, ps⟩ := perm_str pm
  have hp4 := k4 _ _ pa hp3
  refine ⟨_, rfl, _, rfl, a, p, _, ss0, rfl, s4, by omega, hp4, pa, good, by omega, by omega, fun r2 qs rs H5 rn2 ra2 k5 s5 hr2' pr qf cut ends hrl => ?_⟩
  have hp5 := k5 _ _ pa hp4
  have h15 := k5 _ _ ra1 hr1'
  refine ⟨p, _, rfl, .inl (SqL.of hp5), fun J G wk hG D hD => ?_⟩
  have Da := s5.ne hD
  have l0 : ss.length = ss0.length := ps.length_eq
  refine lc_it wk (fun i Hc => Kept a H5 Hc ∧ Spr Hc a (n + 700 + i) ∧ ∃ ns : List Int, Hc D = some (.lst (ns.map V.int)) ∧ ns.length = i ∧ ∀ z ∈ ns, 1 ≤ z) ⟨Kept.new hD, (s5.upd Da).mono (by omega), [], upd_same, rfl, fun z hz => absurd hz (by simp)⟩ (fun i Hc _ h => hG Hc fun o ho => h.1 _ _ pa ho) ?_ ?_
  · rintro i y Hc H' hi ⟨c1, c2, ns, c3, c4, c5⟩ ⟨rfl, hy⟩
    rw [List.length_map] at hi
    refine ⟨rfl, ?_⟩
    unfold tYes
    refine iteT ?_
    refine ⟨_, rfl, _, rfl, a, top, _, rfl, c2, by omega, tp1, tp2, fun d H6 d0 d1 k6 s6 => ?_⟩
    have c3' := k6 _ _ Da c3
    refine ⟨_, _, rfl, rfl, _, c3', by rw [List.length_map]; exact small1000 (by omega), fun b o nb e => ?_, (s6.upd Da).mono (by omega), ns ++ [1 + d], by rw [upd_same, List.map_append]; rfl, by rw [List.length_append, c4]; rfl, fun z hz => ?_⟩
    · rw [upd_ne (ne_of_none e hD)]
      exact k6 b o nb (c1 b o nb e)
    · rcases List.mem_append.mp hz with hz | hz
      · exact c5 z hz
      · rw [List.mem_singleton.mp hz]
        omega
  · rintro Hc ⟨c1, c2, ns, c3, c4, c5⟩
    rw [List.length_map] at c4
    refine ⟨(by show 3 ≤ sizeLine; decide), fun t ht => ?_⟩
    have ta := c2.ne ht
    have kk : Kept a Hc (L2.upd Hc t (.tup [.ref r1, .ref r2, .ref D])) := Kept.new ht
    have kall : Kept a H1 (L2.upd Hc t (.tup [.ref r1, .ref r2, .ref D])) := k13.trans (k4.trans (k5.trans (c1.trans kk)))
    refine q t r1 r2 D qs ss rs ns _ (k1.trans kall) ((c2.upd ta).mono (by rw [List.length_map]; omega)) ⟨upd_same, kk _ _ ra1 (c1 _ _ ra1 h15), kk _ _ ra2 (c1 _ _ ra2 hr2'), TupP.kept pr s5 (c1.trans kk), kk _ _ Da c3, ra1, ra2, Da⟩
      ⟨good.perm ps, by omega, by omega, cut, fun r hr => ⟨ps.mem_iff.mpr (ends r hr).1, ps.mem_iff.mpr (ends r hr).2⟩, by omega, by omega, c5, fun s hs => nob s (ps.mem_iff.mp hs)⟩ (by omega) (by omega)
end
end K1
end
-- KLaw5
section
set_option Elab.async false
set_option linter.all false
set_option maxRecDepth 100000
set_option maxHeartbeats 4000000
namespace K1
open PySem PySem.Spec PyProof.Rows L2
abbrev sLo : Stmt := top 32
open Classical in
/-- the heap without these -/
noncomputable def wo (Z : Addr → Prop) (H : Hp) : Hp := fun b => if Z b then none else H b
theorem wo_some {Z : Addr → Prop} {H : Hp} {b : Addr} {o : HO} : wo Z H b = some o ↔ ¬ Z b ∧ H b = some o := by
  unfold wo
  by_cases h : Z b
  · rw [if_pos h]
    exact ⟨fun q => (by cases q), fun q => absurd h q.1⟩
  · rw [if_neg h]
    exact ⟨fun q => ⟨h, q⟩, fun q => q.2⟩
theorem wo_same {Z : Addr → Prop} {H H' : Hp} (k : ∀ b o, ¬ Z b → H b = some o → H' b = some o) : Same (wo Z H) (wo Z H') := fun b o e => by
  obtain ⟨n, e⟩ := wo_some.mp e
  exact wo_some.mpr ⟨n, k b o n e⟩
theorem wo_le {Z Z' : Addr → Prop} {H : Hp} (k : ∀ b, Z b → Z' b) : Same (wo Z' H) (wo Z H) := fun b o e => by
  obtain ⟨n, e⟩ := wo_some.mp e
  exact wo_some.mpr ⟨fun z => n (k b z), e⟩
theorem wo_out {Z : Addr → Prop} {H : Hp} : Same (wo Z H) H := fun b o e => (wo_some.mp e).2
abbrev Rel (α : Type) := Hp → V → α → Prop
def MonR {α : Type} (R : Rel α) : Prop := ∀ H H' v x, Same H H' → R H v x → R H' v x
def SeqR {α : Type} (R : Rel α) : Rel (List α) := fun H v xs => ∃ vs, SeqV H v vs ∧ xs.length ≤ 60 ∧ Paired (R H) vs xs
def Flat0 (K : PySem.W.Frag) : Rel V := fun H v x => v = x ∧ NoSeq K H v
theorem mon_flat0 {K : PySem.W.Frag} : MonR (Flat0 K) := fun H H' v x e h => ⟨h.1, h.2.ext e⟩
theorem mon_seq {α : Type} {R : Rel α} (m : MonR R) : MonR (SeqR R) := fun H H' v x e ⟨vs, a, b, c⟩ => ⟨vs, a.ext e, b, paired_imp (fun _ _ q => m _ _ _ _ e q) c⟩
def spLo {α : Type} (R : Rel α) (c : Nat) : Sp := fun vs H Q _ => ∃ (a : Addr) (v : V) (x : α) (n : Nat) (Z : Addr → Prop), vs = [.ref a, v] ∧ Spr H a n ∧ n + c ≤ 1000000 ∧ Z a ∧ (∀ z, Z z → H z ≠ none) ∧ R (wo Z H) v x ∧
  ∀ y H', Kept a H H' → Spr H' a (n + c) → R (wo Z H') y x → Q y H'
theorem scLo : FnScope ["spring", "thing", "found", "one"] ["spring", "thing"] (defScope sLo) := ⟨rfl, rfl, rfl, by decide +kernel, rfl, by decide +kernel, by decide +kernel⟩
theorem Spr.same {H H' : Hp} {a : Addr} {n : Nat} (s : Spr H a n) (e : Same H H') : Spr H' a n := by
  obtain ⟨x, y, z, h, r⟩ := s
  exact ⟨x, y, z, e _ _ h, r⟩
section
variable {P : Program} {w : World} {K : PySem.W.Frag} {mg : Str → Option Value} {base : Heap} {fD : Addr} {fdD : FuncData}
theorem ok_lo0 {f : Addr} {fd : FuncData} (F : Fun K "_law_loose" "_law_loose" sLo f fd) (B : Bl mg) : FnOk P w K mg base CX0 1 f fd ["spring", "thing"] (spLo (Flat0 K) 0) := by
  refine F.ok scLo (fun vs H Q E h => ?_) (fun cdv A outer s H vs Q E hr h => ?_)
  · obtain ⟨a, v, x, n, Z, rfl, _⟩ := h
    rfl
  obtain ⟨a, v, x, n, Z, rfl, hs, hn, za, hz, ⟨rfl, t, ty, kt, st⟩, q⟩ := h
  have nd := scLo.nd
  refine ⟨_, (pss_cons (by exact (ps_if (pt_not (pt_val (pe_callB call_isiT rfl B.isi PyProof.Rows.boot_isinstance (pa_cons (pv 1) (pa_cons (pe_tup (pa_cons (pe_bltn (v := .ty "list") rfl B.list PyProof.Rows.boot_list rfl) (pa_cons (pe_bltn (v := .ty "tuple") rfl B.tuple PyProof.Rows.boot_tuple rfl) pa_nil))) pa_nil))))) (pss_one (by exact (ps_ret (pv 1)))) pss_nil)) (pss_cons (by exact (ps_never)) (pss_one (by exact (ps_never))))), ?_⟩
  refine ⟨_, rfl, (by show 2 ≤ sizeLine; decide), fun p hp => ?_⟩
  have e := K1.Same.upd (H := H) (p := p) (o := .tup [.ty "list", .ty "tuple"]) hp
  refine ⟨v, p, _, _, _, _, rfl, upd_same, .cons (.ty "list") (.cons (.ty "tuple") .nil), TyX.ext ty (wo_out.trans e), kit_seq kt, _, rfl, ?_⟩
  rw [st]
  refine iteT ⟨_, rfl, q _ _ (Kept.same e) (hs.same e) ⟨rfl, t, TyX.ext ty (wo_same fun b o _ h => e b o h), kt, st⟩⟩
theorem ok_lo {α : Type} {R : Rel α} {c k : Nat} {f : Addr} {fd : FuncData} (mon : MonR R) (F : Fun K "_law_loose" "_law_loose" sLo f fd) (B : Bl mg) (mF : mg "_law_loose" = some (.ref f)) (b : Binds K fd ["spring", "thing"] [])
    (GD : FnOk P w K mg base CX0 1 fD fdD ["spring", "many"] spDraw) (bD : Binds K fdD ["spring", "many"] []) (kD : PySem.W.keepIn K (.ref fD) = true) (mD : mg "_law_draw" = some (.ref fD))
    (hk : 1 ≤ k) (G : FnOk P w K mg base CX0 k f fd ["spring", "thing"] (spLo R c)) : FnOk P w K mg base CX0 (k + 1) f fd ["spring", "thing"] (spLo (SeqR R) (60 * c + 1)) := by
  refine F.ok scLo (fun vs H Q E h => ?_) (fun cdv A outer s H vs Q E hr h => ?_)
  · obtain ⟨a, v, x, n, Z, rfl, _⟩ := h
    rfl
  obtain ⟨a, v, xs, n, Z, rfl, hs, hn, za, hz, ⟨vs, sv, hl, pv_⟩, q⟩ := h
  have nd := scLo.nd
  have hr1 : Room 1 _ := hr.mono hk
  refine ⟨_, (pss_cons (by exact (ps_if (pt_not (pt_val (pe_callB call_isiT rfl B.isi PyProof.Rows.boot_isinstance (pa_cons (pv 1) (pa_cons (pe_tup (pa_cons (pe_bltn (v := .ty "list") rfl B.list PyProof.Rows.boot_list rfl) (pa_cons (pe_bltn (v := .ty "tuple") rfl B.tuple PyProof.Rows.boot_tuple rfl) pa_nil))) pa_nil))))) (pss_one (by exact (ps_ret (pv 1)))) pss_nil)) (pss_cons (by exact (ps_setLc (i := 2) (own := [("one", 3)]) (g := gName 3) (tt := tYes) rfl nd rfl rfl (sw_true rfl rfl rfl (by decide +kernel)) (by exact pi_seqV 1 (pv 1)) (by exact blkOk_by (N := ["spring", "thing", "found", "one"]) (sc := defScope sLo) (by decide +kernel)) (fun _ _ _ _ _ => by exact (pg_name (i := 3) nd rfl (.inl rfl))) (fun _ _ _ _ _ => by exact pts_nil) (fun _ _ _ _ _ => by exact (pe_call G hr rfl mF F.kp b .nil pass0 (pa_cons (pv 0) (pa_cons (pv 3) pa_nil)))))) (pss_one (by exact (ps_ret (pe_ifExp (pt_cmpR op_eq (pe_call GD hr1 rfl mD kD bD .nil pass0 (pa_cons (pv 0) (pa_cons pe_int pa_nil))) pe_int (nomark _)) (pe_callTy call_tuple_of rfl B.tuple PyProof.Rows.boot_tuple (pa_cons (pv 2) pa_nil)) (pv 2))))))), ?_⟩
  obtain ⟨t, ty, kt, st⟩ := sv.ty (K := K)
  refine ⟨_, rfl, (by show 2 ≤ sizeLine; decide), fun p hp => ?_⟩
  have e := K1.Same.upd (H := H) (p := p) (o := .tup [.ty "list", .ty "tuple"]) hp
  refine ⟨v, p, _, _, _, _, rfl, upd_same, .cons (.ty "list") (.cons (.ty "tuple") .nil), TyX.ext ty (wo_out.trans e), kit_seq kt, _, rfl, ?_⟩
  rw [st]
  refine iteF ?_
  have hs1 := hs.same e
  have kp1 : Kept a H (L2.upd H p (.tup [.ty "list", .ty "tuple"])) := Kept.same e
  generalize L2.upd H p (.tup [.ty "list", .ty "tuple"]) = H1 at e hs1 kp1 ⊢
  obtain ⟨pv0, rfl, hpv⟩ := id sv
  have hpz : ¬ Z pv0 := hpv.elim (fun h => (wo_some.mp h).1) (fun h => (wo_some.mp h).1)
  have pva : pv0 ≠ a := fun z => hpz (by rw [z]; exact za)
  have hpv1 : H1 pv0 = some (.lst vs) ∨ H1 pv0 = some (.tup vs) := hpv.imp (fun h => e _ _ (wo_some.mp h).2) (fun h => e _ _ (wo_some.mp h).2)
  refine ⟨pv0, vs, rfl, hpv1.imp (fun h => SqL.of h) (fun h => SqT.of h), fun J Gw wk hG D hD => ?_⟩
  have Da := hs1.ne hD
  have DH : H D = none := e.free hD
  have lvs : vs.length = xs.length := pv_.length
  have nzD : ¬ Z D := fun z => hz D z DH
  refine lc_it wk (fun i Hc => Kept a H1 Hc ∧ Spr Hc a (n + c * i) ∧ ∃ acc, Hc D = some (.lst acc) ∧ acc.length = i ∧ Paired (R (wo (fun z => Z z ∨ z = D) Hc)) acc (xs.take i)) ⟨Kept.new hD, (hs1.upd Da).mono (by omega), [], upd_same, rfl, .nil⟩ (fun i Hc _ h => hG Hc fun o ho => h.1 _ _ pva ho) ?_ ?_
  · rintro i y Hc H' hi ⟨c1, c2, acc, c3, c4, c5⟩ ⟨rfl, hy⟩
    have hi2 : i < xs.length := by omega
    obtain ⟨y', ey, ry⟩ := paired_get pv_ hi2
    have : y' = y := Option.some.inj (ey.symm.trans hy)
    subst this
    refine ⟨rfl, ?_⟩
    unfold tYes
    refine iteT ?_
    have sm : Same (wo Z H) (wo (fun z => Z z ∨ z = D) H') := fun b o eb => by
      obtain ⟨n1, e1⟩ := wo_some.mp eb
      refine wo_some.mpr ⟨fun z => z.elim n1 fun z => ?_, c1 _ _ (fun z => n1 (by rw [z]; exact za)) (e _ _ e1)⟩
      rw [z, DH] at e1
      cases e1
    have hci : c * i + c ≤ c * 60 := by
      have : c * (i + 1) ≤ c * 60 := Nat.mul_le_mul (Nat.le_refl c) (by omega)
      rwa [Nat.mul_add, Nat.mul_one] at this
    refine ⟨_, rfl, _, rfl, a, y', xs[i], n + c * i, fun z => Z z ∨ z = D, rfl, c2, by omega, .inl za, fun z zz => ?_, mon _ _ _ _ sm ry, fun y2 H6 k6 s6 r6 => ?_⟩
    · rcases zz with zz | rfl
      · intro q0
        by_cases z1 : z = a
        · rw [z1] at q0
          exact c2.kept q0
        · exact hz z zz (fr_kept (kp1.trans c1) q0 z1)
      · rw [c3]
        exact Option.some_ne_none _
    · have sD : ∀ acc', Same (wo (fun z => Z z ∨ z = D) H6) (wo (fun z => Z z ∨ z = D) (L2.upd H6 D acc')) := fun acc' => wo_same fun b o nb eb => by
        rw [upd_ne (fun z => nb (.inr z))]
        exact eb
      have c3' := k6 _ _ Da c3
      refine ⟨acc, c3', by rw [c4]; exact small1000 (by omega), fun b o nb eb => ?_, (s6.upd Da).mono (by rw [Nat.mul_add, Nat.mul_one]; omega), acc ++ [y2], upd_same, by rw [List.length_append, c4]; rfl, ?_⟩
      · rw [upd_ne (ne_of_none eb hD)]
        exact k6 b o nb (c1 b o nb eb)
      · rw [List.take_add_one, List.getElem?_eq_getElem hi2]
        have s36 : Same (wo (fun z => Z z ∨ z = D) H') (wo (fun z => Z z ∨ z = D) H6) := wo_same fun b o nb eb => k6 b o (fun z => nb (.inl (by rw [z]; exact za))) eb
        have pz : ∀ {as : List V} {bs : List α}, Paired (R (wo (fun z => Z z ∨ z = D) H')) as bs → Paired (R (wo (fun z => Z z ∨ z = D) (L2.upd H6 D (.lst (acc ++ [y2]))))) (as ++ [y2]) (bs ++ [xs[i]]) := by
          intro as bs h
          induction h with
          | nil => exact .cons (mon _ _ _ _ (sD _) r6) .nil
          | cons f1 f2 ih => exact .cons (mon _ _ _ _ (s36.trans (sD _)) f1) ih
        exact pz c5
  · rintro Hc ⟨c1, c2, acc, c3, c4, c5⟩
    rw [lvs, List.take_length] at c5
    have hcl : c * vs.length ≤ 60 * c := by rw [Nat.mul_comm]; exact Nat.mul_le_mul (by omega) (Nat.le_refl c)
    refine ⟨_, rfl, a, 2, _, rfl, c2, by omega, by decide, by decide, fun d H6 d0 d1 k6 s6 => ⟨rfl, _, rfl, ?_⟩⟩
    have c36 := k6 _ _ Da c3
    have kall : Kept a H H6 := kp1.trans (c1.trans k6)
    have s6' : Spr H6 a (n + (60 * c + 1)) := s6.mono (by omega)
    have fin : ∀ Hf, Same H6 Hf → Paired (R (wo Z Hf)) acc xs := fun Hf ef => paired_imp (fun _ _ r => mon _ _ _ _ (Same.trans (wo_le fun b z => .inl z) (wo_same fun b o nb eb => ef _ _ (k6 b o (fun z => nb (by rw [z]; exact za)) eb))) r) c5
    refine ite2 (fun cc => ?_) (fun cc => ?_)
    · refine ⟨_, rfl, D, acc, rfl, .inl ⟨SqL.of c36, fun u hu => ?_⟩⟩
      have eu := K1.Same.upd (o := .tup acc) hu
      have ua := s6.ne hu
      exact q (.ref u) _ (kall.trans (Kept.new hu)) (s6'.same eu) ⟨acc, ⟨u, rfl, .inr (wo_some.mpr ⟨fun z => hz u z (fr_kept kall hu ua), upd_same⟩)⟩, hl, fin _ eu⟩
    · exact ⟨_, rfl, q (.ref D) _ kall s6' ⟨acc, ⟨D, rfl, .inl (wo_some.mpr ⟨nzD, c36⟩)⟩, hl, fin _ (Same.refl _)⟩⟩
end
end K1
end
-- KLaw6
section
set_option Elab.async false
set_option linter.all false
set_option maxRecDepth 100000
set_option maxHeartbeats 4000000
namespace K1
open PySem PySem.Spec PyProof.Rows L2
abbrev sVM : Stmt := top 36
theorem flat_str {K : PySem.W.Frag} {H : Hp} (s : Str) : Flat0 K H (.str s) (.str s) := ⟨rfl, "str", .base (.str s), by decide, by decide⟩
theorem flat_int {K : PySem.W.Frag} {H : Hp} (s : Int) : Flat0 K H (.int s) (.int s) := ⟨rfl, "int", .base (.int s), by decide, by decide⟩
theorem paired_same {α : Type} {F : α → α → Prop} : ∀ {xs : List α}, (∀ x ∈ xs, F x x) → Paired F xs xs
  | [], _ => .nil
  | x :: xs, h => .cons (h x (List.mem_cons_self ..)) (paired_same fun y hy => h y (List.mem_cons_of_mem _ hy))
theorem flat_eq {K : PySem.W.Frag} {H : Hp} : ∀ {vs xs : List V}, Paired (Flat0 K H) vs xs → vs = xs
  | _, _, .nil => rfl
  | _, _, .cons f r => by rw [f.1, flat_eq r]
theorem paired_map {α β γ : Type} {F : α → β → Prop} {g : γ → β} : ∀ {xs : List α} {ys : List γ}, Paired F xs (ys.map g) → Paired (fun x y => F x (g y)) xs ys
  | _, [], .nil => .nil
  | _, _ :: _, .cons f r => .cons f (paired_map r)
theorem map_paired {α β γ : Type} {F : α → β → Prop} {g : γ → α} : ∀ {xs : List γ} {ys : List β}, Paired (fun x y => F (g x) y) xs ys → Paired F (xs.map g) ys
  | _, _, .nil => .nil
  | _, _, .cons f r => .cons f (map_paired r)
def prV (r : Str × Str) : List V := [.str r.1, .str r.2]
def spVM (C : Addr) : Sp := fun vs H Q _ => ∃ (a t p1 p2 p3 : Addr) (qs : List Addr) (ss : List Str) (rs : List (Str × Str)) (ns : List Int) (n : Nat), vs = [.ref a, .ref t] ∧ Spr H a n ∧ n + 200 ≤ 1000000 ∧ VAt a H t p1 p2 p3 qs ss rs ns ∧ VOk ss rs ns ∧
  ∀ x l1 l2 l3 qs' H', Kept a H H' → Spr H' a (n + 200) → ValI C H' x l1 l2 l3 qs' ss rs ns → l1 ≠ a → l2 ≠ a → l3 ≠ a → Q (.ref x) H'
theorem scVM : FnScope ["spring", "valley"] ["spring", "valley"] (defScope sVM) := ⟨rfl, rfl, rfl, by decide +kernel, rfl, by decide +kernel, by decide +kernel⟩
theorem same_make {H : Hp} {x dx C : Addr} (nx : H x = none) (nd : H dx = none) : Same H (L2.upd (L2.upd H dx (.own x)) x (.ins C dx [])) := fun b o e => by
  rw [upd_ne (ne_of_none e nx), upd_ne (ne_of_none e nd)]
  exact e
theorem Spr.keptx {H H' : Hp} {a x : Addr} {n : Nat} (s : Spr H a n) (ne : a ≠ x) (k : Kept x H H') : Spr H' a n := by
  obtain ⟨u, y, z, e, r⟩ := s
  exact ⟨u, y, z, k _ _ ne e, r⟩
/-- the three lists, handed in some way, make a Valley -/
theorem made_of {K : PySem.W.Frag} {C CH CR CD a x dx : Addr} {H H3 : Hp} {Q : VK} {E : XK} {y1 y2 y3 : V} {ss : List Str} {rs : List (Str × Str)} {ns : List Int} {n : Nat} (ok : VOk ss rs ns) (s3 : Spr H3 a n) (k3 : Kept a H H3) (s0 : H a ≠ none) (nx : H3 x = none) (ndx : H3 dx = none)
    (v1 : SeqV H3 y1 (ss.map V.str)) (v2 : ∃ vs, SeqV H3 y2 vs ∧ Paired (PairV H3) vs rs) (v3 : SeqV H3 y3 (ns.map V.int))
    (q : ∀ l1 l2 l3 qs' H', Kept a H H' → Spr H' a n → ValI C H' x l1 l2 l3 qs' ss rs ns → H3 l1 = none → H3 l2 = none → H3 l3 = none → (∀ q ∈ qs', H3 q = none) → Same H3 H' → Q .non H') :
    spVI K C CH CR CD ([.ref x, y1, y2, y3]) (L2.upd (L2.upd H3 dx (.own x)) x (.ins C dx [])) Q E := by
  have e := same_make (C := C) nx ndx
  obtain ⟨vs, a1, a2⟩ := v2
  have hne : ss ≠ [] := fun z => by have := ok.pos; rw [z] at this; simp at this
  refine ⟨x, y1, y2, y3, dx, rfl, upd_same, .inr (.inr (.inr ⟨ss, rs, ns, ⟨v1.ext e, hne, by have := ok.le; omega, ok.good⟩, ⟨vs, a1.ext e, paired_imp (fun _ _ q => SeqV.ext q e) a2, ok.ends, ok.cut.forest, ok.rl⟩, ⟨v3.ext e, ok.ge, ok.nl⟩, fun H' l1 l2 l3 qs k v f1 f2 f3 f4 => ?_⟩))⟩
  have ax : a ≠ x := fun z => by
    rw [← z] at nx
    exact s3.kept nx
  have back : ∀ {z}, L2.upd (L2.upd H3 dx (.own x)) x (.ins C dx []) z = none → H3 z = none := fun {z} hz => by
    cases q : H3 z with
    | none => rfl
    | some o => rw [e _ _ q] at hz; cases hz
  have sm : Same H3 H' := fun b o eb => k b o (ne_of_none eb nx) (e b o eb)
  exact q l1 l2 l3 qs H' (k3.trans (Kept.same sm)) (s3.same sm) v (back f1) (back f2) (back f3) (fun z hz => back (f4 z hz)) sm
section
variable {P : Program} {w : World} {K : PySem.W.Frag} {mg : Str → Option Value} {base : Heap} {C CH CR CD fL fV : Addr} {fdL fdV : FuncData}
theorem ok_VM {f : Addr} {fd : FuncData} (F : Fun K "_law_v_made" "_law_v_made" sVM f fd) (mV : mg "Valley" = some (.ref C)) (M : Mk K C fV)
    (GV : FnOk P w K mg base (L2.CX P w) 5 fV fdV ["self", "houses", "roads", "heads"] (spVI K C CH CR CD)) (bV : Binds K fdV ["self", "houses", "roads", "heads"] [])
    (GL1 : FnOk P w K mg base CX0 2 fL fdL ["spring", "thing"] (spLo (SeqR (Flat0 K)) 1)) (GL2 : FnOk P w K mg base CX0 3 fL fdL ["spring", "thing"] (spLo (SeqR (SeqR (Flat0 K))) 61))
    (bL : Binds K fdL ["spring", "thing"] []) (kL : PySem.W.keepIn K (.ref fL) = true) (mL : mg "_law_loose" = some (.ref fL)) :
    FnOk P w K mg base CX0 7 f fd ["spring", "valley"] (spVM C) := by
  refine F.ok scVM (fun vs H Q E h => ?_) (fun cdv A outer s H vs Q E hr h => ?_)
  · obtain ⟨a, t, p1, p2, p3, qs, ss, rs, ns, n, rfl, _⟩ := h
    rfl
  obtain ⟨a, t, p1, p2, p3, qs, ss, rs, ns, n, rfl, hs, hn, v, ok, q⟩ := h
  have hrA : Room 2 _ := hr.mono (by decide)
  have hrB : Room 3 _ := hr.mono (by decide)
  refine ⟨_, (pss_one (by exact (ps_ret (pe_make M GV hr rfl mV bV .nil passL (pa_cons (pe_call GL1 hrA rfl mL kL bL .nil pass0 (pa_cons (pv 0) (pa_cons (pe_ix ix_tup (pv 1) pe_int (fun _ _ => rfl)) pa_nil))) (pa_cons (pe_call GL2 hrB rfl mL kL bL .nil pass0 (pa_cons (pv 0) (pa_cons (pe_ix ix_tup (pv 1) pe_int (fun _ _ => rfl)) pa_nil))) (pa_cons (pe_call GL1 hrA rfl mL kL bL .nil pass0 (pa_cons (pv 0) (pa_cons (pe_ix ix_tup (pv 1) pe_int (fun _ _ => rfl)) pa_nil))) pa_nil))))))), ?_⟩
  have zz : ∀ {Hx : Hp} {m : Nat}, Spr Hx a m → ∀ z, z = a → Hx z ≠ none := fun s z e => by rw [e]; exact s.kept
  have i0 : atI [V.ref p1, V.ref p2, V.ref p3] 0 = some (.ref p1) := rfl
  have i1 : atI [V.ref p1, V.ref p2, V.ref p3] 1 = some (.ref p2) := rfl
  have i2 : atI [V.ref p1, V.ref p2, V.ref p3] 2 = some (.ref p3) := rfl
  have pl := ok.le
  refine ⟨_, rfl, _, rfl, t, _, _, _, rfl, rfl, SqT.of v.t0, i0, a, _, ss.map V.str, n, fun z => z = a, rfl, hs, by omega, rfl, zz hs, ⟨ss.map V.str, ⟨p1, rfl, .inl (wo_some.mpr ⟨v.n1, v.h1⟩)⟩, by rw [List.length_map]; exact pl, paired_same fun x hx => ?_⟩, fun y1 H1 k1 s1 r1 => ?_⟩
  · obtain ⟨s, _, rfl⟩ := List.mem_map.mp hx
    exact flat_str s
  have v1 := v.kept hs k1
  refine ⟨_, rfl, _, rfl, t, _, _, _, rfl, rfl, SqT.of v1.t0, i1, a, _, rs.map prV, _, fun z => z = a, rfl, s1, by omega, rfl, zz s1, ⟨qs.map V.ref, ⟨p2, rfl, .inl (wo_some.mpr ⟨v.n2, v1.h2⟩)⟩, by rw [List.length_map]; have := ok.rl; omega, ?_⟩, fun y2 H2 k2 s2 r2 => ?_⟩
  · have : Paired (fun (q : Addr) (r : Str × Str) => SeqR (Flat0 K) (wo (fun z => z = a) H1) (.ref q) (prV r)) qs rs := paired_imp (fun qq r e => ⟨prV r, ⟨qq, rfl, .inr (wo_some.mpr ⟨s1.tup e, e⟩)⟩, by show 2 ≤ 60; decide, .cons (flat_str _) (.cons (flat_str _) .nil)⟩) v1.pr
    have h2 : ∀ {as : List Addr} {bs : List (Str × Str)}, Paired (fun (q : Addr) (r : Str × Str) => SeqR (Flat0 K) (wo (fun z => z = a) H1) (.ref q) (prV r)) as bs → Paired (SeqR (Flat0 K) (wo (fun z => z = a) H1)) (as.map V.ref) (bs.map prV) := by
      intro as bs h
      induction h with
      | nil => exact .nil
      | cons f1 f2 ih => exact .cons f1 ih
    exact h2 this
  have v2 := v1.kept s1 k2
  refine ⟨_, rfl, _, rfl, t, _, _, _, rfl, rfl, SqT.of v2.t0, i2, a, _, ns.map V.int, _, fun z => z = a, rfl, s2, by omega, rfl, zz s2, ⟨ns.map V.int, ⟨p3, rfl, .inl (wo_some.mpr ⟨v.n3, v2.h3⟩)⟩, by rw [List.length_map, ok.nl]; exact pl, paired_same fun x hx => ?_⟩, fun y3 H3 k3 s3 r3 => ?_⟩
  · obtain ⟨s, _, rfl⟩ := List.mem_map.mp hx
    exact flat_int s
  have w1 : Same (wo (fun z => z = a) H1) H3 := Same.trans (wo_same fun b o nb e => k2 b o nb e) (Same.trans (wo_same fun b o nb e => k3 b o nb e) wo_out)
  have w2 : Same (wo (fun z => z = a) H2) H3 := Same.trans (wo_same fun b o nb e => k3 b o nb e) wo_out
  obtain ⟨vs1, sv1, _, q1⟩ := r1
  obtain ⟨vs2, sv2, _, q2⟩ := r2
  obtain ⟨vs3, sv3, _, q3⟩ := r3
  rw [flat_eq q1] at sv1
  rw [flat_eq q3] at sv3
  intro x dx nx ndx nex
  refine made_of ok s3 (k1.trans (k2.trans k3)) hs.kept nx ndx (sv1.ext w1) ⟨vs2, sv2.ext w2, ?_⟩ (sv3.ext wo_out) fun l1 l2 l3 qs' H' kk ss' vv f1 f2 f3 f4 sm => ⟨rfl, ?_⟩
  · refine paired_imp (fun x r h => ?_) (paired_map q2)
    obtain ⟨us, su, _, qu⟩ := h
    rw [flat_eq qu] at su
    exact SeqV.ext su w2
  · exact q x l1 l2 l3 qs' H' kk (ss'.mono (by omega)) vv (s3.ne f1) (s3.ne f2) (s3.ne f3)
end
end K1
end
-- KLaw7
section
set_option Elab.async false
set_option linter.all false
set_option maxRecDepth 100000
set_option maxHeartbeats 4000000
namespace K1
open PySem PySem.Spec PyProof.Rows L2
abbrev sSm : Stmt := top 31
abbrev RelE := Hp → V → V → Prop
def MonE (R : RelE) : Prop := ∀ H H' x y, Same H H' → R H x y → R H' x y
def FlatE : RelE := fun _ x y => x = y ∧ ((∃ i, x = .int i) ∨ (∃ b, x = .bl b) ∨ ∃ s, x = .str s)
def SeqE (R : RelE) : RelE := fun H x y => ∃ p q xs ys, x = .ref p ∧ y = .ref q ∧ ((H p = some (.lst xs) ∧ H q = some (.lst ys)) ∨ (H p = some (.tup xs) ∧ H q = some (.tup ys))) ∧ xs.length ≤ 100 ∧ Paired (R H) xs ys
def NextE (R : RelE) : RelE := fun H x y => FlatE H x y ∨ SeqE R H x y
theorem SeqE.mon {R : RelE} (m : MonE R) : MonE (SeqE R) := fun H H' x y e ⟨p, q, xs, ys, a, b, c, d, f⟩ => ⟨p, q, xs, ys, a, b, c.imp (fun c => ⟨e _ _ c.1, e _ _ c.2⟩) (fun c => ⟨e _ _ c.1, e _ _ c.2⟩), d, paired_imp (fun _ _ r => m _ _ _ _ e r) f⟩
theorem NextE.mon {R : RelE} (m : MonE R) : MonE (NextE R) := fun H H' x y e h => h.imp id (SeqE.mon m H H' x y e)
def spSm (R : RelE) : Sp := fun vs H Q _ => ∃ x y, vs = [x, y] ∧ R H x y ∧ ∀ H', Same H H' → Q (.bl true) H'
theorem scSm : FnScope ["found", "due", "one", "other"] ["found", "due"] (defScope sSm) := ⟨rfl, rfl, rfl, by decide +kernel, rfl, by decide +kernel, by decide +kernel⟩
theorem walk_zipT {K : PySem.W.Frag} {a b : Addr} {xs ys : List V} {n : Nat} (hn : n = min xs.length ys.length) : Walk (RZ.ItzT K a b) n (fun H => SqT K H a xs ∧ SqT K H b ys) (YPair (fun i => xs[i]?) (fun i => ys[i]?)) := by
  subst hn
  refine ⟨fun i _ hi q => ?_, fun _ q => ⟨xs, ys, q.1, q.2, by omega⟩, fun i H v H' _ q y => ?_⟩
  · have z1 : i < xs.length := by omega
    have z2 : i < ys.length := by omega
    exact ⟨xs, ys, xs[i], ys[i], q.1, q.2, by simp [z1], by simp [z2]⟩
  · obtain ⟨T, x, z, e1, e2, e3, e4, e5⟩ := y
    exact ⟨T, x, z, e1, e2, e3, e4 xs q.1, e5 ys q.2⟩
theorem kit_dlt {K : PySem.W.Frag} {t : String} (h : t = "int" ∨ t = "bool" ∨ t = "str") : PySem.W.kitAny K (.type t) [.type "dict", .type "list", .type "tuple"] = some false := by
  unfold PySem.W.kitAny
  rcases h with rfl | rfl | rfl
  · rw [kit_dict (t := "int") (by decide)]; exact kit_seq (t := "int") (by decide)
  · rw [kit_dict (t := "bool") (by decide)]; exact kit_seq (t := "bool") (by decide)
  · rw [kit_dict (t := "str") (by decide)]; exact kit_seq (t := "str") (by decide)
section
variable {P : Program} {w : World} {K : PySem.W.Frag} {mg : Str → Option Value} {base : Heap}
theorem ok_sm_none {f : Addr} {fd : FuncData} : FnOk P w K mg base CX0 0 f fd ["found", "due"] (spSm fun _ _ _ => False) := by
  have no : ∀ vs H Q E, ¬ spSm (fun _ _ _ => False) vs H Q E := fun vs H Q E h => by
    obtain ⟨x, y, _, h, _⟩ := h
    exact h
  exact ⟨fun vs H Q E h => absurd h (no vs H Q E), fun A outer s H args us vs Q E _ _ _ _ h => absurd h (no vs H Q E)⟩
theorem ok_sm {R : RelE} {k : Nat} {f : Addr} {fd : FuncData} (mon : MonE R) (F : Fun K "_law_same" "_law_same" sSm f fd) (B : Bl mg) (mz : mg "zip" = none) (mF : mg "_law_same" = some (.ref f)) (b : Binds K fd ["found", "due"] [])
    (G : FnOk P w K mg base CX0 k f fd ["found", "due"] (spSm R)) : FnOk P w K mg base CX0 (k + 1) f fd ["found", "due"] (spSm (NextE R)) := by
  refine F.ok scSm (fun vs H Q E h => ?_) (fun cdv A outer s H vs Q E hr h => ?_)
  · obtain ⟨x, y, rfl, _⟩ := h
    rfl
  obtain ⟨x, y, rfl, h, q⟩ := h
  have nd := scSm.nd
  refine ⟨_, (pss_cons (by exact (ps_if (pt_val (pe_callB call_isi rfl B.isi PyProof.Rows.boot_isinstance (pa_cons (pv 1) (pa_cons (pe_bltn (v := .ty "dict") rfl B.dict PyProof.Rows.boot_dict rfl) pa_nil)))) (pss_one (by exact (ps_never))) pss_nil)) (pss_cons (by exact (ps_if (pt_val (pe_callB call_isiT rfl B.isi PyProof.Rows.boot_isinstance (pa_cons (pv 1) (pa_cons (pe_tup (pa_cons (pe_bltn (v := .ty "list") rfl B.list PyProof.Rows.boot_list rfl) (pa_cons (pe_bltn (v := .ty "tuple") rfl B.tuple PyProof.Rows.boot_tuple rfl) pa_nil))) pa_nil)))) (pss_cons (by exact (ps_if (PW.pt (pw_or (pt_cmpR op_ne (pe_callB call_isi rfl B.isi PyProof.Rows.boot_isinstance (pa_cons (pv 0) (pa_cons (pe_bltn (v := .ty "tuple") rfl B.tuple PyProof.Rows.boot_tuple rfl) pa_nil))) (pe_callB call_isi rfl B.isi PyProof.Rows.boot_isinstance (pa_cons (pv 1) (pa_cons (pe_bltn (v := .ty "tuple") rfl B.tuple PyProof.Rows.boot_tuple rfl) pa_nil))) (nomark _)) (pw_or1 (pt_cmpR op_ne (pe_callB call_isi rfl B.isi PyProof.Rows.boot_isinstance (pa_cons (pv 0) (pa_cons (pe_bltn (v := .ty "list") rfl B.list PyProof.Rows.boot_list rfl) pa_nil))) (pe_callB call_isi rfl B.isi PyProof.Rows.boot_isinstance (pa_cons (pv 1) (pa_cons (pe_bltn (v := .ty "list") rfl B.list PyProof.Rows.boot_list rfl) pa_nil))) (nomark _))))) (pss_one (by exact (ps_ret pe_bl))) pss_nil)) (pss_one (by exact (ps_ret (pe_and (pe_cmpR op_eq (pe_callB call_len_seq rfl B.len PySem.boot_len (pa_cons (pv 0) pa_nil)) (pe_callB call_len_seq rfl B.len PySem.boot_len (pa_cons (pv 1) pa_nil)) (nomark _)) (pe_one (pe_callB (cr_all rfl) rfl B.all PyProof.Rows.boot_all (pa_cons (pe_lc (own := [("one", 2), ("other", 3)]) (g := gTup K 2 (gCons (gName 2) (gCons (gName 3) gNil))) (tt := tYes) (te := tCall (spSm R) [] E0 (tCons (tVar 2) (tCons (tVar 3) tNil))) rfl nd (by exact RZ.pi_zipA rfl mz (pa_cons (pv 0) (pa_cons (pv 1) pa_nil))) (by exact blkOk_by (N := ["found", "due", "one", "other"]) (sc := defScope sSm) (by decide +kernel)) (fun _ _ _ _ _ => by exact (pg_tup rfl (pgs_cons (pg_name (i := 2) nd rfl (.inl rfl)) (pgs_cons (pg_name (i := 3) nd rfl (.inl rfl)) pgs_nil)))) (fun _ _ _ _ _ => by exact pts_nil) (fun _ _ _ _ _ => by exact (pe_call G hr rfl mF F.kp b .nil pass0 (pa_cons (pv 2) (pa_cons (pv 3) pa_nil))))) pa_nil)))))))) pss_nil)) (pss_cons (by exact (ps_if (PW.pt (pw_or (pt_val (pe_callB call_isiT rfl B.isi PyProof.Rows.boot_isinstance (pa_cons (pv 0) (pa_cons (pe_tup (pa_cons (pe_bltn (v := .ty "dict") rfl B.dict PyProof.Rows.boot_dict rfl) (pa_cons (pe_bltn (v := .ty "list") rfl B.list PyProof.Rows.boot_list rfl) (pa_cons (pe_bltn (v := .ty "tuple") rfl B.tuple PyProof.Rows.boot_tuple rfl) pa_nil)))) pa_nil)))) (pw_or1 (pt_cmpR op_ne (pe_callB call_isi rfl B.isi PyProof.Rows.boot_isinstance (pa_cons (pv 0) (pa_cons (pe_bltn (v := .ty "bool") rfl B.bool PyProof.Rows.boot_bool rfl) pa_nil))) (pe_callB call_isi rfl B.isi PyProof.Rows.boot_isinstance (pa_cons (pv 1) (pa_cons (pe_bltn (v := .ty "bool") rfl B.bool PyProof.Rows.boot_bool rfl) pa_nil))) (nomark _))))) (pss_one (by exact (ps_ret pe_bl))) pss_nil)) (pss_one (by exact (ps_ret (pe_cmpR op_eq (pv 0) (pv 1) (nomark _)))))))), ?_⟩
  rcases h with ⟨rfl, fl⟩ | ⟨p, r, xs, ys, rfl, rfl, kinds2, hl, pr⟩
  · obtain ⟨t, ty, tk⟩ : ∃ t, TyOf K H x (.type t) ∧ (t = "int" ∨ t = "bool" ∨ t = "str") := by
      rcases fl with ⟨i, rfl⟩ | ⟨i, rfl⟩ | ⟨i, rfl⟩
      · exact ⟨"int", .int i, .inl rfl⟩
      · exact ⟨"bool", .bl i, .inr (.inl rfl)⟩
      · exact ⟨"str", .str i, .inr (.inr rfl)⟩
    have kt : t ∈ kinds := by rcases tk with rfl | rfl | rfl <;> decide
    have nD : decide (t = "dict") = false := by rcases tk with rfl | rfl | rfl <;> decide
    have nS : isSeqT t = false := by rcases tk with rfl | rfl | rfl <;> decide
    have tx : ∀ {Hx}, TyX K Hx x (.type t) := fun {Hx} => by
      rcases fl with ⟨i, rfl⟩ | ⟨i, rfl⟩ | ⟨i, rfl⟩ <;> cases ty
      · exact .base (.int i)
      · exact .base (.bl i)
      · exact .base (.str i)
    refine ⟨_, rfl, x, _, _, _, _, rfl, .ty "dict", tx, kit_dict kt, _, rfl, ?_⟩
    rw [nD]
    refine iteF ?_
    refine ⟨_, rfl, (by show 2 ≤ sizeLine; decide), fun u1 hu1 => ?_⟩
    refine ⟨x, u1, _, _, _, _, rfl, upd_same, .cons (.ty "list") (.cons (.ty "tuple") .nil), tx, kit_seq kt, _, rfl, ?_⟩
    rw [nS]
    refine iteF ?_
    have e1 := K1.Same.upd (H := H) (p := u1) (o := .tup [.ty "list", .ty "tuple"]) hu1
    refine ⟨_, rfl, (by show 3 ≤ sizeLine; decide), fun u2 hu2 => ?_⟩
    refine ⟨x, u2, _, _, _, _, rfl, upd_same, .cons (.ty "dict") (.cons (.ty "list") (.cons (.ty "tuple") .nil)), tx, kit_dlt tk, _, rfl, ?_⟩
    refine iteF ?_
    have e2 := e1.trans (K1.Same.upd (o := .tup [.ty "dict", .ty "list", .ty "tuple"]) hu2)
    refine ⟨_, rfl, x, _, _, _, _, rfl, .ty "bool", tx, kit_bool kt, _, rfl, x, _, _, _, _, rfl, .ty "bool", tx, kit_bool kt, rfl, _, rfl, ?_⟩
    rw [decide_eq_true rfl]
    refine iteF ?_
    have fin : Q (.bl true) _ := q _ e2
    rcases fl with ⟨i, rfl⟩ | ⟨i, rfl⟩ | ⟨i, rfl⟩
    · refine ⟨_, rfl, _, rfl, rfl, ?_⟩
      rw [decide_eq_true rfl]
      exact fin
    · refine ⟨_, rfl, _, rfl, rfl, ?_⟩
      rw [decide_eq_true rfl]
      exact fin
    · refine ⟨_, rfl, _, rfl, rfl, ?_⟩
      rw [decide_eq_true rfl]
      exact fin
  · obtain ⟨t, kt, nD, nS, tx, ty⟩ : ∃ t, t ∈ kinds ∧ decide (t = "dict") = false ∧ isSeqT t = true ∧ (∀ Hx, Same H Hx → TyX K Hx (.ref p) (.type t)) ∧ (∀ Hx, Same H Hx → TyX K Hx (.ref r) (.type t)) := by
      rcases kinds2 with ⟨h1, h2⟩ | ⟨h1, h2⟩
      · exact ⟨"list", by decide, by decide, by decide, fun Hx e => .base (.lst (e _ _ h1)), fun Hx e => .base (.lst (e _ _ h2))⟩
      · exact ⟨"tuple", by decide, by decide, by decide, fun Hx e => .base (.tup (e _ _ h1)), fun Hx e => .base (.tup (e _ _ h2))⟩
    refine ⟨_, rfl, _, _, _, _, _, rfl, .ty "dict", ty _ (Same.refl _), kit_dict kt, _, rfl, ?_⟩
    rw [nD]
    refine iteF ?_
    refine ⟨_, rfl, (by show 2 ≤ sizeLine; decide), fun u1 hu1 => ?_⟩
    have e1 := K1.Same.upd (H := H) (p := u1) (o := .tup [.ty "list", .ty "tuple"]) hu1
    refine ⟨_, u1, _, _, _, _, rfl, upd_same, .cons (.ty "list") (.cons (.ty "tuple") .nil), ty _ e1, kit_seq kt, _, rfl, ?_⟩
    rw [nS]
    refine iteT ?_
    generalize L2.upd H u1 (.tup [.ty "list", .ty "tuple"]) = H1 at e1 ⊢
    refine ⟨_, rfl, _, _, _, _, _, rfl, .ty "tuple", tx _ e1, kit_tuple kt, _, rfl, _, _, _, _, _, rfl, .ty "tuple", ty _ e1, kit_tuple kt, rfl, _, rfl, ?_⟩
    rw [decide_eq_true rfl]
    refine iteF ?_
    refine ⟨_, rfl, _, _, _, _, _, rfl, .ty "list", tx _ e1, kit_list kt, _, rfl, _, _, _, _, _, rfl, .ty "list", ty _ e1, kit_list kt, rfl, _, rfl, ?_⟩
    rw [decide_eq_true rfl]
    refine iteF ?_
    have ll := pr.length
    have sp : SqA K H1 p xs := kinds2.imp (fun h => SqL.of (e1 _ _ h.1)) (fun h => SqT.of (e1 _ _ h.1))
    have sr : SqA K H1 r ys := kinds2.imp (fun h => SqL.of (e1 _ _ h.2)) (fun h => SqT.of (e1 _ _ h.2))
    refine ⟨_, rfl, p, xs, rfl, sp, _, rfl, r, ys, rfl, sr, rfl, _, rfl, ?_⟩
    rw [ll, decide_eq_true rfl]
    refine iteT ?_
    have pr1 : Paired (R H1) xs ys := paired_imp (fun _ _ z => mon _ _ _ _ e1 z) pr
    -- the walk over both
    have main : ∀ (J : It) (G0 : Hp → Prop), Walk J xs.length G0 (YPair (fun i => xs[i]?) (fun i => ys[i]?)) → (∀ Hx, Same H1 Hx → G0 Hx) → ∀ (D : Addr), H1 D = none → ∃ W : Nat → Nat → Hp → Prop, (∃ m, W 0 m (L2.upd H1 D (.lst []))) ∧ ∀ i m Hc, W i m Hc →
        (J.stop i Hc ∧ ∃ (a : Addr) (bs : List Bool), [V.ref D] = [V.ref a] ∧ SqL K Hc a (bs.map V.bl) ∧ Q (.bl (bs.all id)) Hc) ∨ (J.go i Hc ∧ ∃ Nx : Hp → Prop, (∀ H', Nx H' → ∃ m', m' < m ∧ W (i + 1) m' H') ∧ ∀ v H', J.yld i Hc v H' →
          gTup K 2 (gCons (gName 2) (gCons (gName 3) gNil)) v (wipe (L2.start ["found", "due", "one", "other"] [.ref p, .ref r]) [2, 3]) H' fun σ2 H2 => wipe σ2 [2, 3] = wipe (L2.start ["found", "due", "one", "other"] [.ref p, .ref r]) [2, 3] ∧ tYes σ2 H2 fun b H3 =>
            if b = true then tCall (spSm R) [] E0 (tCons (tVar 2) (tCons (tVar 3) tNil)) σ2 H3 fun y H4 => ∃ acc, H4 D = some (.lst acc) ∧ acc.length < sizeLine ∧ Nx (L2.upd H4 D (.lst (acc ++ [y]))) else Nx H3) := by
      intro J G0 wk hG D hD
      refine lc_it (Qd := fun Hc => ∃ (a : Addr) (bs : List Bool), [V.ref D] = [V.ref a] ∧ SqL K Hc a (bs.map V.bl) ∧ Q (.bl (bs.all id)) Hc) wk (fun i Hc => Same H1 Hc ∧ Hc D = some (.lst ((List.replicate i true).map V.bl))) ⟨K1.Same.upd hD, upd_same⟩ (fun i Hc _ h => hG Hc h.1) ?_ ?_
      · rintro i v Hc H' hi ⟨c1, c2⟩ ⟨T, x1, x2, rfl, hT, rfl, ex1, ex2⟩
        have ex1 : xs[i]? = some x1 := ex1
        have ex2 : ys[i]? = some x2 := ex2
        have hT2 := K1.Same.upd (H := Hc) (p := T) (o := .tup [x1, x2]) hT
        refine ⟨T, _, rfl, SqT.of upd_same, rfl, _, _, rfl, _, _, rfl, rfl, rfl, ?_⟩
        unfold tYes
        refine iteT ?_
        have hi2 : i < ys.length := by omega
        obtain ⟨x1', e3, r3⟩ := paired_get pr1 hi2
        have z1 : x1' = x1 := Option.some.inj (e3.symm.trans ex1)
        have z2 : ys[i] = x2 := Option.some.inj ((List.getElem?_eq_getElem hi2).symm.trans ex2)
        rw [z1, z2] at r3
        refine ⟨_, rfl, _, rfl, x1, x2, rfl, mon _ _ _ _ (c1.trans hT2) r3, fun H6 e6 => ?_⟩
        refine ⟨_, e6 _ _ (hT2 _ _ c2), by rw [List.length_map, List.length_replicate]; exact small1000 (by omega), fun c o n => ?_, ?_⟩
        · rw [upd_ne (ne_of_none n hD)]
          exact e6 _ _ (hT2 _ _ (c1 _ _ n))
        · rw [upd_same, List.replicate_succ', List.map_append]
          rfl
      · rintro Hc ⟨c1, c2⟩
        refine ⟨D, _, rfl, SqL.of c2, ?_⟩
        have : ((List.replicate xs.length true).all id) = true := by
          rw [List.all_replicate]
          split <;> rfl
        rw [this]
        exact q Hc (e1.trans c1)
    refine ⟨_, rfl, _, rfl, p, r, xs, ys, rfl, ?_⟩
    rcases kinds2 with ⟨h1, h2⟩ | ⟨h1, h2⟩
    · exact .inl ⟨SqL.of (e1 _ _ h1), SqL.of (e1 _ _ h2), fun D hD => main _ _ (walk_zip (by omega)) (fun Hx e => ⟨SqL.of (e _ _ (e1 _ _ h1)), SqL.of (e _ _ (e1 _ _ h2))⟩) D hD⟩
    · exact .inr ⟨SqT.of (e1 _ _ h1), SqT.of (e1 _ _ h2), fun D hD => main _ _ (walk_zipT (by omega)) (fun Hx e => ⟨SqT.of (e _ _ (e1 _ _ h1)), SqT.of (e _ _ (e1 _ _ h2))⟩) D hD⟩
end
end K1
end
-- KLaw8
section
set_option Elab.async false
set_option linter.all false
set_option maxRecDepth 100000
set_option maxHeartbeats 4000000
namespace K1
open PySem PySem.Spec PyProof.Rows L2
abbrev sVT : Stmt := top 37
theorem merge_new : ∀ {ps : List (Key × V)} {acc : List (Key × V)}, (∀ p ∈ ps, valV acc p.1 = none) → (ps.map (·.1)).Nodup → mergeK acc ps = acc ++ ps
  | [], acc, _, _ => by
    show acc = acc ++ []
    rw [List.append_nil]
  | p :: ps, acc, h1, h2 => by
    rw [List.map_cons, List.nodup_cons] at h2
    have h0 := h1 p (List.mem_cons_self ..)
    show mergeK (putK acc p.1 p.2) ps = _
    rw [putK_new _ h0, merge_new (fun q hq => ?_) h2.2, List.append_assoc]
    · rfl
    · rw [valV_snoc _ _ _ _ h0, if_neg (fun z => h2.1 (by rw [← z]; exact List.mem_map.mpr ⟨q, hq, rfl⟩))]
      exact h1 q (List.mem_cons_of_mem _ hq)
def allTo (ts : List Str) (x : V) : List (Key × V) := ts.map fun s => ((.inr s : Key), x)
theorem merge_same {ts : List Str} {x : V} : ∀ {kvs : List (Key × V)} {u : Str}, valV (mergeK kvs (allTo ts x)) (.inr u) = if u ∈ ts then some x else valV kvs (.inr u) := by
  induction ts with
  | nil =>
    intro kvs u
    rw [if_neg (by simp)]
    rfl
  | cons s r ih =>
    intro kvs u
    show valV (mergeK (putK kvs (.inr s) x) (allTo r x)) (.inr u) = _
    rw [ih, valV_put, ite_rr]
    by_cases h : u ∈ r
    · rw [if_pos h, if_pos (List.mem_cons_of_mem _ h)]
    · rw [if_neg h]
      by_cases e : u = s
      · rw [if_pos e, if_pos (by rw [e]; exact List.mem_cons_self ..)]
      · rw [if_neg e, if_neg (fun z => (List.mem_cons.mp z).elim e h)]
theorem merge_len {ts : List Str} {x : V} : ∀ {kvs : List (Key × V)}, (∀ s ∈ ts, (valV kvs (.inr s)).isSome = true) → (mergeK kvs (allTo ts x)).length = kvs.length := by
  induction ts with
  | nil => intro kvs _; rfl
  | cons s r ih =>
    intro kvs h
    show (mergeK (putK kvs (.inr s) x) (allTo r x)).length = _
    rw [ih fun u hu => ?_, putK_len (h s (List.mem_cons_self ..))]
    rw [valV_put]
    split
    · rfl
    · exact h u (List.mem_cons_of_mem _ hu)
theorem allTo_new {ts : List Str} {x : V} (nd : ts.Nodup) : mergeK [] (allTo ts x) = allTo ts x := by
  rw [merge_new (fun p _ => rfl), List.nil_append]
  unfold allTo
  rw [List.map_map]
  exact List.Pairwise.map _ (fun a b (h : a ≠ b) z => h (Sum.inr.inj z)) nd
theorem valV_keys {kvs : List (Key × V)} {ss : List Str} (h : kvs.map (·.1) = ss.map Sum.inr) {s : Str} (hs : s ∈ ss) : ∃ v, valV kvs (.inr s) = some v ∧ ((.inr s : Key), v) ∈ kvs := by
  have hk : (Sum.inr s : Key) ∈ kvs.map (·.1) := by rw [h]; exact List.mem_map.mpr ⟨s, hs, rfl⟩
  obtain ⟨p, hp, ep⟩ := List.mem_map.mp hk
  have ha : (kvs.any fun kv => decide (kv.1 = Sum.inr s)) = true := List.any_eq_true.mpr ⟨p, hp, decide_eq_true ep⟩
  rw [valV_any] at ha
  obtain ⟨v, hv⟩ := Option.isSome_iff_exists.mp ha
  refine ⟨v, hv, ?_⟩
  unfold valV at hv
  obtain ⟨q, hq, eq⟩ := Option.map_eq_some_iff.mp hv
  have m := List.mem_of_find?_eq_some hq
  have e0 := List.find?_some hq
  have e1 : q.1 = Sum.inr s := of_decide_eq_true e0
  rw [← e1, ← eq]
  exact m
theorem nodup_len {α : Type} [DecidableEq α] : ∀ {xs ys : List α}, xs.Nodup → (∀ x ∈ xs, x ∈ ys) → xs.length ≤ ys.length
  | [], _, _, _ => Nat.zero_le _
  | x :: xs, ys, n, h => by
    rw [List.nodup_cons] at n
    have hx := h x (List.mem_cons_self ..)
    have ih := nodup_len (ys := ys.erase x) n.2 fun y hy => (List.mem_erase_of_ne (fun z => n.1 (by rw [← z]; exact hy))).mpr (h y (List.mem_cons_of_mem _ hy))
    rw [List.length_erase_of_mem hx] at ih
    have := List.length_pos_of_mem hx
    rw [List.length_cons]
    omega
/-- a lot: two or more, all joined by these roads -/
structure LotP (ss : List Str) (rs : List (Str × Str)) (l : List Str) : Prop where
  two : 2 ≤ l.length
  ins : ∀ u ∈ l, u ∈ ss
  one : ∀ u ∈ l, ∀ v ∈ l, rtOf rs u = rtOf rs v
def TabP (H : Hp) (t : Addr) (l : List Str) : Prop := ∃ q m, H t = some (.tup [.ref q, .ref m]) ∧ H m = some (.lst (l.map V.str))
def spVT : Sp := fun vs H Q _ => ∃ (t p e : Addr) (x2 x3 : V) (ss : List Str) (qs : List Addr) (rs : List (Str × Str)), vs = [.ref t, .ref e] ∧ H t = some (.tup [.ref p, x2, x3]) ∧ H p = some (.lst (ss.map V.str)) ∧ H e = some (.lst (qs.map V.ref)) ∧ Paired (TupP H) qs rs ∧
  ss.Nodup ∧ ss.length ≤ 60 ∧ EndsIn ss rs ∧ Forest rs ∧ rs.length ≤ 60 ∧
  ∀ (r : Addr) (ts : List Addr) (lots : List (List Str)) (H' : Hp), Same H H' → H r = none → H' r = some (.lst (ts.map V.ref)) → Paired (TabP H') ts lots → (∀ l ∈ lots, LotP ss rs l) → lots.length = rs.length → Q (.ref r) H'
theorem scVT : FnScope ["valley", "evening", "name", "lots", "found", "road", "both", "known"] ["valley", "evening"] (defScope sVT) := ⟨rfl, rfl, rfl, by decide +kernel, rfl, by decide +kernel, by decide +kernel⟩
/-- the dict of lots -/
def LotsAt (Hc : Hp) (D : Addr) (ss : List Str) (rt : Str → Str) : Prop := ∃ kvs : List (Key × V), Hc D = some (.dK kvs) ∧ kvs.length = ss.length ∧ ∀ s ∈ ss, ∃ (d : Addr) (l : List Str), valV kvs (.inr s) = some (.ref d) ∧ Hc d = some (.lst (l.map V.str)) ∧ l.Nodup ∧ s ∈ l ∧ ∀ u ∈ l, u ∈ ss ∧ rt u = rt s
theorem str_at {ss : List Str} {i : Nat} {x : V} (e : (ss.map V.str)[i]? = some x) : ∃ h : i < ss.length, x = .str ss[i] := by
  rw [List.getElem?_map] at e
  rcases Nat.lt_or_ge i ss.length with hi | hi
  · rw [List.getElem?_eq_getElem hi] at e
    exact ⟨hi, (Option.some.inj e).symm⟩
  · rw [List.getElem?_eq_none hi] at e
    cases e
theorem ne_strs {H : Hp} {d L : Addr} {l : List Str} {ts : List Addr} {s : Str} (h : H d = some (.lst (l.map V.str))) (hs : s ∈ l) (h2 : H L = some (.lst (ts.map V.ref))) : d ≠ L := fun z => by
  rw [z, h2] at h
  have e : ts.map V.ref = l.map V.str := HO.lst.inj (Option.some.inj h)
  have m : V.str s ∈ ts.map V.ref := by rw [e]; exact List.mem_map.mpr ⟨s, hs, rfl⟩
  obtain ⟨a, _, q⟩ := List.mem_map.mp m
  cases q
theorem snoc_paired {α β : Type} {F G : α → β → Prop} {a : α} {b : β} (h : G a b) : ∀ {xs : List α} {ys : List β}, Paired F xs ys → (∀ x y, x ∈ xs → F x y → G x y) → Paired G (xs ++ [a]) (ys ++ [b])
  | _, _, .nil, _ => .cons h .nil
  | _, _, .cons f r, k => .cons (k _ _ (List.mem_cons_self ..) f) (snoc_paired h r fun x y hx => k x y (List.mem_cons_of_mem _ hx))
section
variable {P : Program} {w : World} {K : PySem.W.Frag} {mg : Str → Option Value} {base : Heap}
theorem ok_VT {f : Addr} {fd : FuncData} (F : Fun K "_law_v_tables" "_law_v_tables" sVT f fd) (B : Bl mg) : FnOk P w K mg base CX0 1 f fd ["valley", "evening"] spVT := by
  refine F.ok scVT (fun vs H Q E h => ?_) (fun cdv A outer s H vs Q E hr h => ?_)
  · obtain ⟨t, p, e, x2, x3, ss, qs, rs, rfl, _⟩ := h
    rfl
  obtain ⟨t, p, e, x2, x3, ss, qs, rs, rfl, ht, hp, he, pr, nds, ls, ends, forest, lr, q⟩ := h
  have nd := scVT.nd
  have hu := hu_of hr
  refine ⟨_, (pss_cons (by exact (ps_par (i := 3) (j := 4) rfl nd rfl rfl (by decide) rfl rfl (pa_cons (pe_callTy (call_dictP rfl) rfl B.dict PyProof.Rows.boot_dict (pa_cons (pe_lc (own := [("name", 2)]) (g := gName 2) (tt := tYes) rfl nd (by exact pi_list (pe_ix ix_tup (pv 0) pe_int (fun _ _ => rfl))) (by exact blkOk_by (N := ["valley", "evening", "name", "lots", "found", "road", "both", "known"]) (sc := defScope sVT) (by decide +kernel)) (fun _ _ _ _ _ => by exact (pg_name (i := 2) nd rfl (.inl rfl))) (fun _ _ _ _ _ => by exact pts_nil) (fun _ _ _ _ _ => by exact (pe_tup (pa_cons (pv 2) (pa_cons (pe_lst (pa_cons (pv 2) pa_nil)) pa_nil))))) pa_nil)) (pa_cons (pe_lst pa_nil) pa_nil)) (by rfl)))
  (pss_cons (by exact (ps_for PassesOwn.never rfl (by exact pi_list (pv 1)) (pg_name (i := 5) nd rfl (.inl rfl)) (pss_cons (by exact (ps_set (i := 6) nd rfl (.inr rfl) (pe_op op_cat (pe_dget hu (pv 3) (pe_ix ix_tup (pv 5) pe_int (fun _ _ => rfl)) (fun _ _ => rfl)) (pe_dget hu (pv 3) (pe_ix ix_tup (pv 5) pe_int (fun _ _ => rfl)) (fun _ _ => rfl)))))
  (pss_cons (by exact (ps_set (i := 7) nd rfl (.inr rfl) (pe_callTy (call_dictP rfl) rfl B.dict PyProof.Rows.boot_dict (pa_cons (pe_lc (own := [("name", 2)]) (g := gName 2) (tt := tYes) rfl nd (by exact pi_list (pv 6)) (by exact blkOk_by (N := ["valley", "evening", "name", "lots", "found", "road", "both", "known"]) (sc := defScope sVT) (by decide +kernel)) (fun _ _ _ _ _ => by exact (pg_name (i := 2) nd rfl (.inl rfl))) (fun _ _ _ _ _ => by exact pts_nil) (fun _ _ _ _ _ => by exact (pe_tup (pa_cons (pv 2) (pa_cons (pv 6) pa_nil))))) pa_nil))))
  (pss_cons (by exact (ps_expr (pe_bm PySem.F.plainAttrs_dict PySem.F.slot_dict_update PySem.F.type_dict_update mt_updK (pv 3) (pa_cons (pv 7) pa_nil))))
  (pss_one (by exact (ps_expr (pe_bm PySem.F.plainAttrs_list PySem.F.slot_list_append PySem.F.type_list_append mt_append (pv 4) (pa_cons (pe_tup (pa_cons (pv 5) (pa_cons (pe_lc (own := [("name", 2)]) (g := gName 2) rfl nd (by exact pi_list (pe_ix ix_tup (pv 0) pe_int (fun _ _ => rfl))) (by exact blkOk_by (N := ["valley", "evening", "name", "lots", "found", "road", "both", "known"]) (sc := defScope sVT) (by decide +kernel)) (fun _ _ _ _ _ => by exact (pg_name (i := 2) nd rfl (.inl rfl))) (fun _ _ _ _ _ => by exact pts_one (pt_cmp (pc_din hu (pv 2) (pv 7)) (by with_unfolding_all rfl))) (fun _ _ _ _ _ => by exact (pv 2))) pa_nil))) pa_nil))))))))))
  (pss_one (by exact (ps_ret (pv 4)))))), ?_⟩
  have i0 : atI [V.ref p, x2, x3] 0 = some (.ref p) := rfl
  have lqs : qs.length = rs.length := pr.length
  -- the dict of lots, at first
  refine ⟨_, rfl, t, _, _, _, rfl, rfl, SqT.of ht, i0, p, rfl, ⟨_, SqL.of hp⟩, fun D0 hD0 => ?_⟩
  refine lc_it walk_list (fun i Hc => Same H Hc ∧ ∃ (ts : List Addr) (kvs : List (Key × V)), Hc D0 = some (.lst (ts.map V.ref)) ∧ Paired (fun t kv => Hc t = some (.tup [kV kv.1, kv.2])) ts kvs ∧ kvs.map (·.1) = (ss.take i).map Sum.inr ∧ ∀ kv ∈ kvs, ∃ s d, kv = ((.inr s : Key), V.ref d) ∧ Hc d = some (.lst [.str s]) ∧ d ≠ D0)
    ⟨K1.Same.upd hD0, [], [], upd_same, .nil, rfl, fun kv hkv => absurd hkv (by simp)⟩ (fun i Hc _ h => SqL.of (h.1 _ _ hp)) ?_ ?_
  · rintro i x Hc H' hi ⟨f1, ts, kvs, f2, f3, f4, f5⟩ ⟨rfl, hx⟩
    obtain ⟨hi', rfl⟩ := str_at hx
    refine ⟨rfl, ?_⟩
    unfold tYes
    refine iteT ?_
    refine ⟨_, rfl, _, rfl, (by show 1 ≤ sizeLine; decide), fun l hl => ⟨(by show 2 ≤ sizeLine; decide), fun u hu' => ?_⟩⟩
    have lD : l ≠ D0 := fun z => by rw [z, f2] at hl; cases hl
    have ul : u ≠ l := fun z => by rw [z, upd_same] at hu'; cases hu'
    have uD : u ≠ D0 := fun z => by rw [z, upd_ne lD.symm, f2] at hu'; cases hu'
    have lt : ts.length ≤ i := by
      have := f3.length
      have l2 : kvs.length = (ss.take i).length := by have := congrArg List.length f4; simpa using this
      rw [this, l2]
      exact List.length_take_le _ _
    refine ⟨ts.map V.ref, by rw [upd_ne uD.symm, upd_ne lD.symm]; exact f2, by rw [List.length_map]; exact small1000 (by omega), ?_⟩
    have kd : Kept D0 H' (L2.upd (L2.upd (L2.upd H' l (.lst [.str ss[i]])) u (.tup [.str ss[i], .ref l])) D0 (.lst (ts.map V.ref ++ [.ref u]))) := (Kept.new hl).trans ((Kept.new hu').trans Kept.upd)
    refine ⟨fun b o n => kd b o (ne_of_none n hD0) (f1 b o n), ts ++ [u], kvs ++ [((.inr ss[i] : Key), V.ref l)], by rw [upd_same, List.map_append]; rfl, snoc_paired (by show L2.upd _ _ _ u = _; rw [upd_ne uD, upd_same]; rfl) f3 (fun y kv _ ey => kd _ _ (fun z => by rw [z, f2] at ey; cases ey) ey), ?_, fun kv hkv => ?_⟩
    · rw [List.map_append, f4, List.take_add_one, List.getElem?_eq_getElem hi', List.map_append]
      rfl
    · rcases List.mem_append.mp hkv with hkv | hkv
      · obtain ⟨s', d, e1, e2, e3⟩ := f5 kv hkv
        exact ⟨s', d, e1, kd _ _ e3 e2, e3⟩
      · rw [List.mem_singleton.mp hkv]
        exact ⟨ss[i], l, rfl, by rw [upd_ne lD, upd_ne ul.symm, upd_same], lD⟩
  rintro H1 ⟨e1, ts0, kvs0, f2, f3, f4, f5⟩
  rw [List.length_map, List.take_length] at f4
  refine ⟨D0, ts0, kvs0, rfl, SqL.of f2, paired_imp (fun _ _ h => SqT.of h) f3, fun D hD => ⟨Nat.zero_le _, fun L hL => ⟨_, _, rfl, ?_⟩⟩⟩
  have mk : mergeK [] kvs0 = kvs0 := by
    rw [merge_new (fun p _ => rfl), List.nil_append]
    rw [f4]
    exact List.Pairwise.map _ (fun a b (h : a ≠ b) z => h (Sum.inr.inj z)) nds
  rw [mk] at hL ⊢
  have DL : D ≠ L := fun z => by rw [← z, upd_same] at hL; cases hL
  have s1 : Same H1 (L2.upd H1 D (.dK kvs0)) := K1.Same.upd hD
  have s2 : Same (L2.upd H1 D (.dK kvs0)) (L2.upd (L2.upd H1 D (.dK kvs0)) L (.lst [])) := K1.Same.upd hL
  have hD1 : L2.upd H1 D (.dK kvs0) D = some (.dK kvs0) := upd_same
  have hD2 := s2 _ _ hD1
  have hL2 : L2.upd (L2.upd H1 D (.dK kvs0)) L (.lst []) L = some (.lst []) := upd_same
  have s0 : Same H (L2.upd (L2.upd H1 D (.dK kvs0)) L (.lst [])) := e1.trans (s1.trans s2)
  have DH : H D = none := e1.free hD
  have LH : H L = none := e1.free (s1.free hL)
  have lots0 : LotsAt (L2.upd (L2.upd H1 D (.dK kvs0)) L (.lst [])) D ss (rtOf []) := by
    refine ⟨kvs0, hD2, by have := congrArg List.length f4; simpa using this, fun s hs => ?_⟩
    obtain ⟨v, hv, hm⟩ := valV_keys f4 hs
    obtain ⟨s', d, ee, hd, _⟩ := f5 _ hm
    have e3 : (Sum.inr s : Key) = .inr s' := congrArg Prod.fst ee
    have e4 : v = V.ref d := congrArg Prod.snd ee
    have e5 : s = s' := Sum.inr.inj e3
    subst e5 e4
    exact ⟨d, [s], hv, s2 _ _ (s1 _ _ hd), by simp, by simp, fun u hu => by rw [List.mem_singleton.mp hu]; exact ⟨hs, rfl⟩⟩
  generalize L2.upd (L2.upd H1 D (.dK kvs0)) L (.lst []) = H2 at s0 hD2 hL2 lots0 ⊢
  clear s1 s2 hL hD hD1 f2 f3 f5 mk
  -- the roads
  refine ⟨_, rfl, e, rfl, ⟨_, SqL.of (s0 _ _ he)⟩, ?_⟩
  refine for_it walk_list (fun i σ Hc => (∃ x y z, σ = [some (.ref t), some (.ref e), none, some (.ref D), some (.ref L), x, y, z]) ∧ Same H Hc ∧ LotsAt Hc D ss (rtOf (rs.take i)) ∧ ∃ (ts : List Addr) (lots : List (List Str)), Hc L = some (.lst (ts.map V.ref)) ∧ Paired (TabP Hc) ts lots ∧ (∀ l ∈ lots, LotP ss (rs.take i) l) ∧ lots.length = i)
    ⟨⟨_, _, _, rfl⟩, s0, lots0, [], [], hL2, .nil, fun l hl => absurd hl (by simp), rfl⟩ (fun i σ Hc _ h => SqL.of (h.2.1 _ _ he)) ?_ ?_
  · rintro i x σ Hc H' hi ⟨⟨xa, xb, xc, rfl⟩, g1, g2, ts, lots, g3, g4, g5, g6⟩ ⟨rfl, hx⟩
    rw [List.length_map, lqs] at hi
    obtain ⟨tq, rfl, htq⟩ := paired_ref pr hi hx
    have ee := ends _ (List.getElem_mem hi)
    obtain ⟨kvs, b1, b2, b3⟩ := g2
    obtain ⟨da, la, a1, a2, a3, a4, a5⟩ := b3 rs[i].1 ee.1
    obtain ⟨db, lb, c1, c2, c3, c4, c5⟩ := b3 rs[i].2 ee.2
    have dg1 := DGet.k (k := .inr rs[i].1) b1
    rw [a1] at dg1
    have dg2 := DGet.k (k := .inr rs[i].2) b1
    rw [c1] at dg2
    have ne := forest i hi
    have nab : (la ++ lb).Nodup := List.nodup_append.mpr ⟨a3, c3, fun u hu v hv z => ne (by rw [← (a5 u hu).2, ← (c5 v hv).2, z])⟩
    have sub : ∀ u ∈ la ++ lb, u ∈ ss := fun u hu => (List.mem_append.mp hu).elim (fun h => (a5 u h).1) fun h => (c5 u h).1
    have lab : (la ++ lb).length ≤ ss.length := nodup_len nab sub
    have hq := g1 _ _ htq
    refine ⟨_, rfl, _, rfl, tq, _, _, _, rfl, rfl, SqT.of hq, rfl, D, _, rfl, dg1, _, rfl, _, rfl, tq, _, _, _, rfl, rfl, SqT.of hq, rfl, D, _, rfl, dg2, da, db, _, _, rfl, rfl, a2, c2, ?_, fun m hm => ?_⟩
    · rw [List.length_map, List.length_map]
      rw [List.length_append] at lab
      exact Nat.le_trans (show la.length + lb.length ≤ 1000 by omega) (by decide)
    have sm : Same H' (L2.upd H' m (.lst (la.map V.str ++ lb.map V.str))) := K1.Same.upd hm
    have hm1 : L2.upd H' m (.lst (la.map V.str ++ lb.map V.str)) m = some (.lst ((la ++ lb).map V.str)) := by rw [upd_same, List.map_append]
    generalize L2.upd H' m (.lst (la.map V.str ++ lb.map V.str)) = H3 at sm hm1 ⊢
    -- known
    refine ⟨_, rfl, m, rfl, ⟨_, SqL.of hm1⟩, fun D1 hD1 => ?_⟩
    refine lc_it walk_list (fun j Hd => Same H3 Hd ∧ ∃ (us : List Addr), Hd D1 = some (.lst (us.map V.ref)) ∧ Paired (fun t kv => Hd t = some (.tup [kV kv.1, kv.2])) us (allTo ((la ++ lb).take j) (.ref m)))
      ⟨K1.Same.upd hD1, [], upd_same, .nil⟩ (fun j Hd _ h => SqL.of (h.1 _ _ hm1)) ?_ ?_
    · rintro j y Hd H'' hj ⟨k1, us, k2, k3⟩ ⟨rfl, hy⟩
      obtain ⟨hj', rfl⟩ := str_at hy
      refine ⟨rfl, ?_⟩
      unfold tYes
      refine iteT ?_
      refine ⟨_, rfl, _, rfl, (by show 2 ≤ sizeLine; decide), fun u hu' => ?_⟩
      have uD : u ≠ D1 := fun z => by rw [z, k2] at hu'; cases hu'
      have lu : us.length ≤ j := by
        have := k3.length
        unfold allTo at this
        rw [List.length_map, List.length_take] at this
        omega
      have kd : Kept D1 H'' (L2.upd (L2.upd H'' u (.tup [.str (la ++ lb)[j], .ref m])) D1 (.lst (us.map V.ref ++ [.ref u]))) := (Kept.new hu').trans Kept.upd
      refine ⟨us.map V.ref, by rw [upd_ne uD.symm]; exact k2, by rw [List.length_map]; exact small1000 (by omega), fun b o n => kd b o (ne_of_none n hD1) (k1 b o n), us ++ [u], by rw [upd_same, List.map_append]; rfl, ?_⟩
      have ea : allTo ((la ++ lb).take (j + 1)) (.ref m) = allTo ((la ++ lb).take j) (.ref m) ++ [((.inr (la ++ lb)[j] : Key), V.ref m)] := by
        unfold allTo
        rw [List.take_add_one, List.getElem?_eq_getElem hj', List.map_append]
        rfl
      rw [ea]
      exact snoc_paired (by show L2.upd _ _ _ u = _; rw [upd_ne uD, upd_same]; rfl) k3 (fun y kv _ ey => kd _ _ (fun z => by rw [z, k2] at ey; cases ey) ey)
    rintro H4 ⟨e4, us, k2, k3⟩
    rw [List.length_map, List.take_length] at k3
    refine ⟨D1, us, _, rfl, SqL.of k2, paired_imp (fun _ _ h => SqT.of h) k3, fun N hN => ?_⟩
    rw [allTo_new nab]
    have s5 : Same H' (L2.upd H4 N (.dK (allTo (la ++ lb) (.ref m)))) := sm.trans (e4.trans (K1.Same.upd hN))
    have hN5 : L2.upd H4 N (.dK (allTo (la ++ lb) (.ref m))) N = some (.dK (allTo (la ++ lb) (.ref m))) := upd_same
    have hm5 : L2.upd H4 N (.dK (allTo (la ++ lb) (.ref m))) m = some (.lst ((la ++ lb).map V.str)) := K1.Same.upd hN _ _ (e4 _ _ hm1)
    have DN : D ≠ N := ne_of_none (e4 _ _ (sm _ _ b1)) hN
    generalize L2.upd H4 N (.dK (allTo (la ++ lb) (.ref m))) = H5 at s5 hN5 hm5 ⊢
    -- update
    have lkv : (mergeK kvs (allTo (la ++ lb) (.ref m))).length = kvs.length := merge_len fun u hu => by
      obtain ⟨d, l, z1, _⟩ := b3 u (sub u hu)
      rw [z1]
      rfl
    have lal : (allTo (la ++ lb) (.ref m)).length = (la ++ lb).length := List.length_map _
    have hD5 := s5 _ _ b1
    refine ⟨_, rfl, .inr (.inr (.inl ⟨rfl, .inl ⟨_, hD5⟩⟩)), _, rfl, D, N, kvs, _, rfl, rfl, DN, hD5, hN5, by omega, ?_⟩
    have k6 : Kept D H5 (L2.upd H5 D (.dK (mergeK kvs (allTo (la ++ lb) (.ref m))))) := Kept.upd
    have hD6 : L2.upd H5 D (.dK (mergeK kvs (allTo (la ++ lb) (.ref m)))) D = some (.dK (mergeK kvs (allTo (la ++ lb) (.ref m)))) := upd_same
    have dD : ∀ {d : Addr} {l : List V}, H5 d = some (.lst l) → d ≠ D := fun {d l} h z => by rw [z, hD5] at h; cases h
    have s6 : Same H (L2.upd H5 D (.dK (mergeK kvs (allTo (la ++ lb) (.ref m))))) := fun b o n => k6 b o (ne_of_none n DH) (s5 _ _ (g1 b o n))
    have hN6 := k6 _ _ DN.symm hN5
    have hm6 := k6 _ _ (dD hm5) hm5
    have hL6 := k6 _ _ (dD (s5 _ _ g3)) (s5 _ _ g3)
    have g46 : Paired (TabP (L2.upd H5 D (.dK (mergeK kvs (allTo (la ++ lb) (.ref m)))))) ts lots := paired_imp (fun t' l ⟨q', m', z1, z2⟩ => ⟨q', m', k6 _ _ (fun z => by rw [z] at z1; have := s5 _ _ z1; rw [hD5] at this; cases this) (s5 _ _ z1), k6 _ _ (dD (s5 _ _ z2)) (s5 _ _ z2)⟩) g4
    have rtS : rtOf (rs.take (i + 1)) = joinRt (rtOf (rs.take i)) rs[i].1 rs[i].2 := rtOf_succ hi
    have jc : ∀ u v, rtOf (rs.take i) u = rtOf (rs.take i) v → rtOf (rs.take (i + 1)) u = rtOf (rs.take (i + 1)) v := fun u v h => by
      rw [rtS]
      unfold joinRt
      rw [h]
    have jb : ∀ u ∈ la ++ lb, rtOf (rs.take (i + 1)) u = rtOf (rs.take i) rs[i].2 := fun u hu => by
      rw [rtS]
      unfold joinRt
      rcases List.mem_append.mp hu with h | h
      · rw [if_pos (a5 u h).2]
      · rw [if_neg (fun z => ne (by rw [← z]; exact (c5 u h).2)), (c5 u h).2]
    have g26 : LotsAt (L2.upd H5 D (.dK (mergeK kvs (allTo (la ++ lb) (.ref m))))) D ss (rtOf (rs.take (i + 1))) := by
      refine ⟨_, hD6, by rw [lkv]; exact b2, fun s hs => ?_⟩
      rw [merge_same]
      by_cases hin : s ∈ la ++ lb
      · rw [if_pos hin]
        exact ⟨m, la ++ lb, rfl, hm6, nab, hin, fun u hu => ⟨sub u hu, by rw [jb u hu, jb s hin]⟩⟩
      · rw [if_neg hin]
        obtain ⟨d, l, z1, z2, z3, z4, z5⟩ := b3 s hs
        exact ⟨d, l, z1, k6 _ _ (dD (s5 _ _ z2)) (s5 _ _ z2), z3, z4, fun u hu => ⟨(z5 u hu).1, jc u s (z5 u hu).2⟩⟩
    generalize L2.upd H5 D (.dK (mergeK kvs (allTo (la ++ lb) (.ref m)))) = H6 at k6 hD6 s6 hN6 hm6 hL6 g46 g26 ⊢
    -- the part
    refine ⟨_, rfl, .inl ⟨rfl, _, SqL.of hL6⟩, _, rfl, _, rfl, t, _, _, _, rfl, rfl, SqT.of (s6 _ _ ht), i0, p, rfl, ⟨_, SqL.of (s6 _ _ hp)⟩, fun D2 hD2 => ?_⟩
    refine lc_it walk_list (fun j Hd => Same H6 Hd ∧ Hd D2 = some (.lst (((ss.take j).filter fun u => decide (u ∈ la ++ lb)).map V.str))) ⟨K1.Same.upd hD2, upd_same⟩ (fun j Hd _ h => SqL.of (h.1 _ _ (s6 _ _ hp))) ?_ ?_
    · rintro j y Hd H'' hj ⟨k1, k2'⟩ ⟨rfl, hy⟩
      obtain ⟨hj', rfl⟩ := str_at hy
      refine ⟨rfl, ?_⟩
      have et : (ss.take (j + 1)).filter (fun u => decide (u ∈ la ++ lb)) = (ss.take j).filter (fun u => decide (u ∈ la ++ lb)) ++ if ss[j] ∈ la ++ lb then [ss[j]] else [] := by
        rw [List.take_add_one, List.getElem?_eq_getElem hj', List.filter_append]
        congr 1
        by_cases h : ss[j] ∈ la ++ lb
        · rw [if_pos h]
          simp only [Option.toList, List.filter, decide_eq_true h]
        · rw [if_neg h]
          simp only [Option.toList, List.filter, decide_eq_false h]
      have vk : valV (allTo (la ++ lb) (.ref m)) (.inr ss[j]) = if ss[j] ∈ la ++ lb then some (.ref m) else none := by
        have := merge_same (ts := la ++ lb) (x := .ref m) (kvs := []) (u := ss[j])
        rw [allTo_new nab] at this
        rw [this]
        rfl
      refine ⟨_, rfl, _, rfl, N, _, rfl, DGet.k (k := .inr ss[j]) (k1 _ _ hN6), _, rfl, ?_⟩
      rw [vk]
      rw [et]
      by_cases h : ss[j] ∈ la ++ lb
      · rw [if_pos h, if_pos h]
        refine iteT ⟨_, rfl, _, k2', ?_, fun b o n => ?_, ?_⟩
        · rw [List.length_map]
          exact small1000 (Nat.le_trans (List.length_filter_le _ _) (by have := List.length_take_le j ss; omega))
        · rw [upd_ne (ne_of_none n hD2)]
          exact k1 b o n
        · rw [upd_same, List.map_append]
          rfl
      · rw [if_neg h, if_neg h]
        refine iteF ⟨k1, ?_⟩
        rw [List.append_nil]
        exact k2'
    rintro H7 ⟨e7, h7⟩
    rw [List.length_map, List.take_length] at h7
    refine ⟨(by show 2 ≤ sizeLine; decide), fun u hu' => ?_⟩
    have lts : ts.length = i := by rw [g4.length, g6]
    have hL7 := e7 _ _ hL6
    have uL : u ≠ L := fun z => by rw [z, hL7] at hu'; cases hu'
    refine ⟨L, ts.map V.ref, _, rfl, rfl, by rw [upd_ne uL.symm]; exact hL7, by rw [List.length_map]; exact small1000 (by omega), ⟨_, _, _, rfl⟩, ?_⟩
    have k8 : Kept L H6 (L2.upd (L2.upd H7 u (.tup [.ref tq, .ref D2])) L (.lst (ts.map V.ref ++ [.ref u]))) := (Kept.same e7).trans ((Kept.new hu').trans Kept.upd)
    have k78 : Kept L H7 (L2.upd (L2.upd H7 u (.tup [.ref tq, .ref D2])) L (.lst (ts.map V.ref ++ [.ref u]))) := (Kept.new hu').trans Kept.upd
    have ina : rs[i].1 ∈ (ss.filter fun u => decide (u ∈ la ++ lb)) := List.mem_filter.mpr ⟨ee.1, decide_eq_true (List.mem_append.mpr (.inl a4))⟩
    have inb : rs[i].2 ∈ (ss.filter fun u => decide (u ∈ la ++ lb)) := List.mem_filter.mpr ⟨ee.2, decide_eq_true (List.mem_append.mpr (.inr c4))⟩
    have nab2 : rs[i].1 ≠ rs[i].2 := fun z => ne (by rw [z])
    have D2L : D2 ≠ L := ne_strs h7 ina hL7
    refine ⟨fun b o n => k8 b o (ne_of_none n LH) (s6 b o n), ?_, ts ++ [u], lots ++ [ss.filter fun u => decide (u ∈ la ++ lb)], by rw [upd_same, List.map_append]; rfl, ?_, fun l hl => ?_, by rw [List.length_append, g6]; rfl⟩
    · obtain ⟨kv6, y1, y2, y3⟩ := g26
      refine ⟨kv6, k8 _ _ DL y1, y2, fun s hs => ?_⟩
      obtain ⟨d, l, z1, z2, z3, z4, z5⟩ := y3 s hs
      exact ⟨d, l, z1, k8 _ _ (ne_strs z2 z4 hL6) z2, z3, z4, z5⟩
    · have tab7 : Paired (fun t' l => TabP (L2.upd (L2.upd H7 u (.tup [.ref tq, .ref D2])) L (.lst (ts.map V.ref ++ [.ref u]))) t' l ∨ l.length < 2) ts lots := paired_imp (fun t' l ⟨q', m', z1, z2⟩ => by
        rcases l with _ | ⟨s0, l⟩
        · exact .inr (by decide)
        · exact .inl ⟨q', m', k8 _ _ (fun z => by rw [z, hL6] at z1; cases z1) z1, k8 _ _ (ne_strs z2 (List.mem_cons_self ..) hL6) z2⟩) g46
      have fix : ∀ {as : List Addr} {ls : List (List Str)}, Paired (fun t' l => TabP (L2.upd (L2.upd H7 u (.tup [.ref tq, .ref D2])) L (.lst (ts.map V.ref ++ [.ref u]))) t' l ∨ l.length < 2) as ls → (∀ l ∈ ls, LotP ss (rs.take i) l) → Paired (TabP (L2.upd (L2.upd H7 u (.tup [.ref tq, .ref D2])) L (.lst (ts.map V.ref ++ [.ref u])))) as ls := by
        intro as ls h
        induction h with
        | nil => intro _; exact .nil
        | @cons x y l1 l2 f1 f2 ih =>
          intro hz
          refine .cons (f1.elim id fun h2 => ?_) (ih fun l hl => hz l (List.mem_cons_of_mem _ hl))
          have := (hz y (List.mem_cons_self ..)).two
          omega
      exact snoc_paired ⟨tq, D2, by rw [upd_ne uL, upd_same], k78 _ _ D2L h7⟩ (fix tab7 g5) (fun _ _ _ h => h)
    · rcases List.mem_append.mp hl with hl | hl
      · have z := g5 l hl
        exact ⟨z.two, z.ins, fun u hu v hv => jc u v (z.one u hu v hv)⟩
      · rw [List.mem_singleton.mp hl]
        refine ⟨?_, fun u hu => (List.mem_filter.mp hu).1, fun u hu v hv => by rw [jb u (of_decide_eq_true (List.mem_filter.mp hu).2), jb v (of_decide_eq_true (List.mem_filter.mp hv).2)]⟩
        exact nodup_len (xs := [rs[i].1, rs[i].2]) (by simp [nab2]) (fun u hu => by
          rcases List.mem_cons.mp hu with rfl | hu
          · exact ina
          · rw [List.mem_singleton.mp hu]
            exact inb)
  · rintro σ Hc ⟨⟨xa, xb, xc, rfl⟩, g1, g2, ts, lots, g3, g4, g5, g6⟩
    rw [List.length_map, lqs, List.take_length] at g5
    exact ⟨_, rfl, q L ts lots Hc g1 LH g3 g4 g5 (by rw [g6, List.length_map, lqs])⟩
end
end K1
end
-- KLaw9
section
set_option Elab.async false
set_option linter.all false
set_option maxRecDepth 100000
set_option maxHeartbeats 4000000
namespace K1
open PySem PySem.Spec PyProof.Rows L2
abbrev sCl : Stmt := top 41
theorem Forest.take {rs : List (Str × Str)} (f : Forest rs) (k : Nat) : Forest (rs.take k) := fun i h => by
  have h2 : i < rs.length := by rw [List.length_take] at h; omega
  have hk : i < k := by rw [List.length_take] at h; omega
  have q := f i h2
  rw [List.take_take, Nat.min_eq_left (Nat.le_of_lt hk), List.getElem_take]
  exact q
theorem Paired.take {α β : Type} {F : α → β → Prop} : ∀ {xs : List α} {ys : List β} (k : Nat), Paired F xs ys → Paired F (xs.take k) (ys.take k)
  | _, _, 0, _ => by rw [List.take_zero, List.take_zero]; exact .nil
  | _, _, k + 1, .nil => by rw [List.take_nil, List.take_nil]; exact .nil
  | _, _, k + 1, .cons f r => by rw [List.take_succ_cons, List.take_succ_cons]; exact .cons f (Paired.take k r)
theorem cut_mem {xs : List V} {lo hi : Option Int} {x : V} (h : x ∈ cutV xs lo hi) : x ∈ xs := List.mem_of_mem_drop (List.mem_of_mem_take h)
/-- a pair of houses that these roads join already -/
def Joined (ss : List Str) (rs : List (Str × Str)) (H : Hp) (x : V) : Prop := ∃ a b, SeqV H x [.str a, .str b] ∧ a ∈ ss ∧ b ∈ ss ∧ rtOf rs a = rtOf rs b
theorem Joined.ext {ss : List Str} {rs : List (Str × Str)} {H H' : Hp} {x : V} (j : Joined ss rs H x) (e : Same H H') : Joined ss rs H' x := by
  obtain ⟨a, b, h, q⟩ := j
  exact ⟨a, b, h.ext e, q⟩
def spCl : Sp := fun vs H Q _ => ∃ (t p1 p2 : Addr) (x3 : V) (ss : List Str) (qs : List Addr) (rs : List (Str × Str)) (k : Nat), vs = [.ref t, .int (k : Int)] ∧ H t = some (.tup [.ref p1, .ref p2, x3]) ∧ H p1 = some (.lst (ss.map V.str)) ∧ H p2 = some (.lst (qs.map V.ref)) ∧ Paired (TupP H) qs rs ∧
  ss.Nodup ∧ ss.length ≤ 60 ∧ EndsIn ss rs ∧ Forest rs ∧ rs.length ≤ 60 ∧
  ∀ (r : Addr) (xs : List V) (H' : Hp), Same H H' → H r = none → H' r = some (.lst xs) → (∀ x ∈ xs, Joined ss (rs.take k) H' x) → xs.length ≤ 200 → Q (.ref r) H'
theorem scCl : FnScope ["valley", "at", "found", "road", "part", "lot"] ["valley", "at"] (defScope sCl) := ⟨rfl, rfl, rfl, by decide +kernel, rfl, by decide +kernel, by decide +kernel⟩
theorem upd_same' (H : Hp) (p : Addr) (o : HO) : L2.upd H p o p = some o := upd_same
section
variable {P : Program} {w : World} {K : PySem.W.Frag} {mg : Str → Option Value} {base : Heap} {fT : Addr} {fdT : FuncData}
theorem ok_Cl {f : Addr} {fd : FuncData} (F : Fun K "_law_closing" "_law_closing" sCl f fd) (B : Bl mg)
    (GT : FnOk P w K mg base CX0 1 fT fdT ["valley", "evening"] spVT) (bT : Binds K fdT ["valley", "evening"] []) (kT : PySem.W.keepIn K (.ref fT) = true) (mT : mg "_law_v_tables" = some (.ref fT)) :
    FnOk P w K mg base CX0 2 f fd ["valley", "at"] spCl := by
  refine F.ok scCl (fun vs H Q E h => ?_) (fun cdv A outer s H vs Q E hr h => ?_)
  · obtain ⟨t, p1, p2, x3, ss, qs, rs, k, rfl, _⟩ := h
    rfl
  obtain ⟨t, p1, p2, x3, ss, qs, rs, k, rfl, ht, hp1, hp2, pr, nds, ls, ends, forest, lr, q⟩ := h
  have nd := scCl.nd
  refine ⟨_, (pss_cons (by exact (ps_set (i := 2) nd rfl (.inl rfl) (pe_lst pa_nil)))
  (pss_cons (by exact (ps_for PassesOwn.never rfl (by exact pi_list (pe_slice sl_list (pe_lc (own := [("road", 3), ("part", 4)]) (g := gTup K 2 (gCons (gName 3) (gCons (gName 4) gNil))) (tt := tYes) rfl nd (by exact pi_list (pe_call GT hr rfl mT kT bT .nil pass0 (pa_cons (pv 0) (pa_cons (pe_slice sl_list (pe_ix ix_tup (pv 0) pe_int (fun _ _ => rfl)) po_none (po_some (pv 1))) pa_nil)))) (by exact blkOk_by (N := ["valley", "at", "found", "road", "part", "lot"]) (sc := defScope sCl) (by decide +kernel)) (fun _ _ _ _ _ => by exact (pg_tup rfl (pgs_cons (pg_name (i := 3) nd rfl (.inl rfl)) (pgs_cons (pg_name (i := 4) nd rfl (.inl rfl)) pgs_nil)))) (fun _ _ _ _ _ => by exact pts_nil) (fun _ _ _ _ _ => by exact (pv 4))) (po_some (pe_un un_neg pe_int)) po_none)) (pg_name (i := 5) nd rfl (.inl rfl)) (pss_one (by exact (ps_expr (pe_bm PySem.F.plainAttrs_list PySem.F.slot_list_extend PySem.F.type_list_extend mt_extend (pv 2) (pa_cons (pe_lst (pa_cons (pe_tup (pa_cons (pe_ix ix_list (pv 5) pe_int (fun _ _ => rfl)) (pa_cons (pe_ix ix_list (pv 5) (pe_un un_neg pe_int) (fun _ _ => rfl)) pa_nil))) (pa_cons (pe_lst (pa_cons (pe_ix ix_list (pv 5) pe_int (fun _ _ => rfl)) (pa_cons (pe_ix ix_list (pv 5) pe_int (fun _ _ => rfl)) pa_nil))) pa_nil))) pa_nil)))))))
  (pss_one (by exact (ps_ret (pv 2)))))), ?_⟩
  have i1 : atI [V.ref p1, V.ref p2, x3] 1 = some (.ref p2) := rfl
  refine ⟨Nat.zero_le _, fun L hL => ?_⟩
  have e0 := K1.Same.upd (H := H) (p := L) (o := .lst []) hL
  have hL0 : L2.upd H L (.lst []) L = some (.lst []) := upd_same
  generalize L2.upd H L (.lst []) = H0 at e0 hL0 ⊢
  refine ⟨_, rfl, _, rfl, t, _, _, _, rfl, rfl, SqT.of (e0 _ _ ht), i1, _, rfl, k, rfl, p2, _, rfl, SqL.of (e0 _ _ hp2), fun ev hev => ?_⟩
  have e1 := e0.trans (K1.Same.upd (o := .lst (cutV (qs.map V.ref) none (some (k : Int)))) hev)
  have ecut : cutV (qs.map V.ref) none (some (k : Int)) = (qs.take k).map V.ref := by rw [cut_to, List.map_take]
  have hL1 : L2.upd H0 ev (.lst (cutV (qs.map V.ref) none (some (k : Int)))) L = some (.lst []) := K1.Same.upd hev _ _ hL0
  have hev1 : L2.upd H0 ev (.lst (cutV (qs.map V.ref) none (some (k : Int)))) ev = some (.lst ((qs.take k).map V.ref)) := by rw [upd_same, ecut]
  generalize L2.upd H0 ev (.lst (cutV (qs.map V.ref) none (some (k : Int)))) = H1 at e1 hL1 hev1 ⊢
  refine ⟨t, p1, ev, .ref p2, x3, ss, qs.take k, rs.take k, rfl, e1 _ _ ht, e1 _ _ hp1, hev1, Paired.take k (TupP.ext pr e1), nds, ls, fun r hr => ends r (List.mem_of_mem_take hr), forest.take k, Nat.le_trans (List.length_take_le' _ _) lr, fun r ts lots H2 e2 rn hr2 tab good lq => ?_⟩
  refine ⟨r, rfl, ⟨_, SqL.of hr2⟩, fun D hD => ?_⟩
  have lts : ts.length = lots.length := tab.length
  refine lc_it walk_list (fun i Hc => Same H2 Hc ∧ ∃ ms : List Addr, Hc D = some (.lst (ms.map V.ref)) ∧ ms.length = i ∧ ∀ m ∈ ms, ∃ l ∈ lots, ∃ a, H2 a = some (.lst (l.map V.str)) ∧ m = a) ⟨K1.Same.upd hD, [], upd_same, rfl, fun m hm => absurd hm (by simp)⟩ (fun i Hc _ h => SqL.of (h.1 _ _ hr2)) ?_ ?_
  · rintro i x Hc H' hi ⟨f1, ms, f2, f3, f4⟩ ⟨rfl, hx⟩
    rw [List.length_map, lts] at hi
    obtain ⟨tt, et, q0, m, z1, z2⟩ := paired_get tab hi
    obtain rfl : x = .ref tt := by
      rw [List.getElem?_map, et] at hx
      exact (Option.some.inj hx).symm
    refine ⟨tt, _, rfl, SqT.of (f1 _ _ z1), rfl, _, _, rfl, _, _, rfl, rfl, rfl, ?_⟩
    unfold tYes
    refine iteT ⟨_, rfl, ms.map V.ref, f2, by rw [List.length_map]; exact small1000 (by rw [lq, List.length_take] at hi; omega), fun b o n => ?_, ms ++ [m], by rw [upd_same, List.map_append]; rfl, by rw [List.length_append, f3]; rfl, fun y hy => ?_⟩
    · rw [upd_ne (ne_of_none n hD)]
      exact f1 b o n
    · rcases List.mem_append.mp hy with hy | hy
      · exact f4 y hy
      · rw [List.mem_singleton.mp hy]
        exact ⟨_, List.getElem_mem hi, m, z2, rfl⟩
  rintro H3 ⟨e3, ms, f2, f3, f4⟩
  rw [List.length_map, lts] at f3
  refine ⟨_, rfl, _, rfl, D, _, rfl, SqL.of f2, fun p hp => ?_⟩
  have lms : ms.length ≤ 60 := by rw [f3, lq, List.length_take]; omega
  have lcv : (cutV (ms.map V.ref) (some (-2)) none).length ≤ 60 := Nat.le_trans (cutV_length _ _ _) (by rw [List.length_map]; exact lms)
  have e4 := e3.trans (K1.Same.upd (o := .lst (cutV (ms.map V.ref) (some (-2)) none)) hp)
  have hp4 : L2.upd H3 p (.lst (cutV (ms.map V.ref) (some (-2)) none)) p = some (.lst (cutV (ms.map V.ref) (some (-2)) none)) := upd_same
  generalize L2.upd H3 p (.lst (cutV (ms.map V.ref) (some (-2)) none)) = H4 at e4 hp4 ⊢
  have hL4 := e4 _ _ (e2 _ _ hL1)
  have e04 : Same H H4 := e1.trans (e2.trans e4)
  have pL : p ≠ L := ne_of_none (e3 _ _ (e2 _ _ hL1)) hp |>.symm
  refine ⟨p, rfl, ⟨_, SqL.of hp4⟩, for_it walk_list (fun i σ Hc => (∃ x, σ = [some (.ref t), some (.int (k : Int)), some (.ref L), none, none, x]) ∧ Kept L H4 Hc ∧ ∃ xs, Hc L = some (.lst xs) ∧ xs.length = 2 * i ∧ ∀ x ∈ xs, Joined ss (rs.take k) Hc x) ⟨⟨_, rfl⟩, Kept.refl, [], hL4, rfl, fun x hx => absurd hx (by simp)⟩ (fun i σ Hc _ h => SqL.of (h.2.1 _ _ pL hp4)) ?_ ?_⟩
  · rintro i x σ Hc H' hi ⟨⟨xa, rfl⟩, g1, xs, g2, g3, g4⟩ ⟨rfl, hx⟩
    obtain ⟨m, hm, rfl⟩ := List.mem_map.mp (cut_mem (List.mem_of_getElem? hx))
    obtain ⟨l, hl, a, za, rfl⟩ := f4 m hm
    have gl := good l hl
    have hm4 := e4 _ _ za
    obtain ⟨s0, s1, rest, rfl⟩ : ∃ s0 s1 rest, l = s0 :: s1 :: rest := by
      rcases l with _ | ⟨s0, _ | ⟨s1, rest⟩⟩
      · have := gl.two; simp at this
      · have := gl.two; simp at this
      · exact ⟨s0, s1, rest, rfl⟩
    have mL : m ≠ L := fun z => by
      rw [z, hL4] at hm4
      exact List.cons_ne_nil _ _ (HO.lst.inj (Option.some.inj hm4)).symm
    have hm5 := g1 _ _ mL hm4
    have a0 : atI ((s0 :: s1 :: rest).map V.str) 0 = some (.str s0) := atI_nat (j := 0) rfl
    have a1 : atI ((s0 :: s1 :: rest).map V.str) 1 = some (.str s1) := atI_nat (j := 1) rfl
    obtain ⟨u, hu, au⟩ : ∃ u ∈ s0 :: s1 :: rest, atI ((s0 :: s1 :: rest).map V.str) (-1) = some (.str u) := by
      refine ⟨_, List.getLast_mem (List.cons_ne_nil s0 (s1 :: rest)), ?_⟩
      have := List.dropLast_concat_getLast (List.cons_ne_nil s0 (s1 :: rest))
      have z := atI_last ((s0 :: s1 :: rest).dropLast.map V.str) (V.str ((s0 :: s1 :: rest).getLast (List.cons_ne_nil s0 (s1 :: rest))))
      rw [← List.map_singleton, ← List.map_append, this] at z
      exact z
    refine ⟨_, rfl, .inl ⟨rfl, _, SqL.of g2⟩, _, rfl, m, _, _, _, rfl, rfl, SqL.of hm5, a0, _, rfl, _, rfl, m, _, _, _, rfl, rfl, SqL.of hm5, au, (by show 2 ≤ sizeLine; decide), fun t1 ht1 => ?_⟩
    have s5 := K1.Same.upd (H := H') (p := t1) (o := .tup [.str s0, .str u]) ht1
    refine ⟨_, rfl, m, _, _, _, rfl, rfl, SqL.of (s5 _ _ hm5), a1, _, rfl, m, _, _, _, rfl, rfl, SqL.of (s5 _ _ hm5), a0, (by show 2 ≤ sizeLine; decide), fun l1 hl1 => ⟨(by show 2 ≤ sizeLine; decide), fun l2 hl2 => ?_⟩⟩
    have s6 := K1.Same.upd (H := L2.upd H' t1 (.tup [.str s0, .str u])) (p := l1) (o := .lst [.str s1, .str s0]) hl1
    have s7 := K1.Same.upd (H := L2.upd (L2.upd H' t1 (.tup [.str s0, .str u])) l1 (.lst [.str s1, .str s0])) (p := l2) (o := .lst [.ref t1, .ref l1]) hl2
    have t1L : t1 ≠ L := (ne_of_none g2 ht1).symm
    have l1L : l1 ≠ L := (ne_of_none (s5 _ _ g2) hl1).symm
    have ht7 := s7 _ _ (s6 _ _ (upd_same' H' t1 (.tup [.str s0, .str u])))
    have hl7 := s7 _ _ (upd_same' (L2.upd H' t1 (.tup [.str s0, .str u])) l1 (.lst [.str s1, .str s0]))
    have hz7 := upd_same' (L2.upd (L2.upd H' t1 (.tup [.str s0, .str u])) l1 (.lst [.str s1, .str s0])) l2 (.lst [.ref t1, .ref l1])
    have s57 := s5.trans (s6.trans s7)
    generalize L2.upd (L2.upd (L2.upd H' t1 (.tup [.str s0, .str u])) l1 (.lst [.str s1, .str s0])) l2 (.lst [.ref t1, .ref l1]) = H7 at s57 ht7 hl7 hz7 ⊢
    have g27 := s57 _ _ g2
    refine ⟨L, l2, xs, _, rfl, rfl, g27, hz7, ?_, ⟨_, rfl⟩, (g1.trans (Kept.same s57)).trans Kept.upd, xs ++ [.ref t1, .ref l1], upd_same, by rw [List.length_append, g3]; show 2 * i + 2 = 2 * (i + 1); omega, fun x hx => ?_⟩
    · rw [g3]
      exact Nat.le_trans (show 2 * i + 2 ≤ 1000 by omega) (by decide)
    · have up7 : ∀ z o, z ≠ L → H7 z = some o → L2.upd H7 L (.lst (xs ++ [.ref t1, .ref l1])) z = some o := fun z o n e => by rw [upd_ne n]; exact e
      rcases List.mem_append.mp hx with hx | hx
      · obtain ⟨a, b, ⟨y, rfl, hy⟩, r2⟩ := g4 x hx
        have yL : y ≠ L := fun z => by
          rcases hy with hy | hy <;> rw [z, g2] at hy
          · have e := HO.lst.inj (Option.some.inj hy)
            rw [e] at hx
            simp at hx
          · cases hy
        exact ⟨a, b, ⟨y, rfl, hy.imp (fun h => up7 _ _ yL (s57 _ _ h)) (fun h => up7 _ _ yL (s57 _ _ h))⟩, r2⟩
      · have m0 : s0 ∈ s0 :: s1 :: rest := List.mem_cons_self ..
        have m1 : s1 ∈ s0 :: s1 :: rest := List.mem_cons_of_mem _ (List.mem_cons_self ..)
        rcases List.mem_cons.mp hx with rfl | hx
        · exact ⟨s0, u, ⟨t1, rfl, .inr (up7 _ _ t1L ht7)⟩, gl.ins _ m0, gl.ins _ hu, gl.one _ m0 _ hu⟩
        · rw [List.mem_singleton.mp hx]
          exact ⟨s1, s0, ⟨l1, rfl, .inl (up7 _ _ l1L hl7)⟩, gl.ins _ m1, gl.ins _ m0, gl.one _ m1 _ m0⟩
  · rintro σ Hc ⟨⟨xa, rfl⟩, g1, xs, g2, g3, g4⟩
    have LH : H L = none := hL
    exact ⟨_, rfl, q L xs Hc (fun b o n => g1 b o (ne_of_none n LH) (e04 b o n)) LH g2 g4 (by rw [g3]; omega)⟩
end
end K1
end
-- KTry
section
set_option Elab.async false
set_option linter.all false
set_option maxRecDepth 100000
set_option maxHeartbeats 4000000
/-! several clauses, each with a name for what came: the same slot -/
namespace K1
open PySem PySem.Spec PyProof.Rows L2
abbrev Suite := Addr → Value → Option Addr → TS
/-- a wish where the slots are as many as the names -/
def wLen (N : List Str) (W : WX) : WX := fun cls d σ H => σ.length = N.length → W cls d σ H
/-- the clauses' wish, one behind another -/
def wSome (K : PySem.W.Frag) (i : Nat) (Wout : WX) (D : Ends) : List (Value × Suite) → WX
  | [] => Wout
  | p :: r => wAs K p.1 i p.2 (wSome K i Wout D r) D
inductive HdsN (X : Cx) (n : Str) : List ExceptHandler → List (Value × Suite) → Prop
  | nil : HdsN X n [] []
  | cons {x : Str} {c : Value} {ts : Suite} {st : Stmt} {more : List Stmt} {xp hp : Pos} {hds : List ExceptHandler} {l : List (Value × Suite)} (names : Names X x c)
      (body : ∀ (a : Addr) (oe : Obj) (cls : Value) (d : Option Addr) (pn : List (Addr × Obj)), Zc cls d oe → (∃ vs, oe.data = .fields vs) → PSs (X.suite a ((a, oe) :: pn)) (st :: more) (ts a cls d)) (rest : HdsN X n hds l) :
      HdsN X n (.ExceptHandler (some (.Name x xp)) (some n) (st :: more) hp :: hds) ((c, ts) :: l)
section
variable {X : Cx} {body : List Stmt} {hd : ExceptHandler} {hds : List ExceptHandler} {l : List (Value × Suite)} {pos : Pos} {tb : WX → TS} {Wout : WX} {n : Str} {i : Nat}
theorem ps_try_some (st : X.stack = X.env :: X.outer) (fr : X.env.frame = some X.env.locals) (dup : X.N.Nodup) (at_ : X.N[i]? = some n) (loc : X.env.kindOf n = some .local) (tk : Takes X Wout)
    (hb : ∀ (W : WX) (pn : List (Addr × Obj)) (xe : Value → Shared → Prop), Takes (X.tr pn xe) W → PassesOwn (model X.prog X.w) X.A X.env xe → PSs (X.tr pn xe) body (tb W)) (clauses : HdsN X n (hd :: hds) l) :
    PS X (.Try body (hd :: hds) [] [] pos) (fun D σ H => tb (wLen X.N (wSome X.K i Wout D l)) D σ H) := by
  refine ⟨fun pins s σ H D I h => ?_⟩
  have good := I.ok; have hfr : X.A.frames = some (X.env :: X.outer) := by rw [good.frames, st]
  have hloc : Loc X.env.scope n := .inl loc
  refine wpAny_Try_except (wpAny_mono ((hb (wLen X.N (wSome X.K i Wout D l)) (X.pn ++ pins) (fun e t => wpAny (model X.prog X.w) X.A (noteFrame e X.env) (fun _ t2 => wpAny (model X.prog X.w) X.A (setFlight e none) (fun _ t3 => wpAny (model X.prog X.w) X.A (handleBy e X.env (hd :: hds)) (SP X pins D) X.xe t3) X.xe t2) X.xe t)
    (fun u t xx => ?_) PassesOwn.looking).run [] s σ H D (I.toTry _) h) (fun f t came => ?_) (fun e t z => z))
  · obtain ⟨a, B, sI, pins2, σ2, H2, cls, d, rfl, J0, nb, up, sky0, na, os, ag, wish⟩ := xx
    have J : Inv X pins σ2 H2 sI := J0.ofTry good
    have sky : Sky B (X.env :: X.outer) a (Zc cls d) X.env.locals t.heap := by rw [← st]; exact sky0
    show wpAny (model X.prog X.w) X.A (noteFrame (.ref a) X.env) _ _ _; refine Sky.land Zc.steady hfr fr sky fun g3 fly up3 => ?_
    have J3 : Inv X pins σ2 H2 { t with heap := g3 } := J.landed nb fly.1 (up.trans up3) os ag
    obtain ⟨oe3, ws3, at3, hz3, hd3⟩ := fly.there
    have nfr : a ∉ frs (X.env :: X.outer) := fun m => by
      obtain ⟨_, o2, e2, hnf⟩ := (fly.2.2.1).mem m
      rw [at3] at e2; cases e2; exact hnf _ hd3
    have nL : a ≠ X.env.locals := fun z => nfr (List.mem_filterMap.mpr ⟨X.env, List.mem_cons_self, by rw [fr, z]⟩)
    have nF : a ∉ X.fs := fun m => by obtain ⟨e, he, q⟩ := List.mem_filterMap.mp m; exact nfr (List.mem_filterMap.mpr ⟨e, List.mem_cons_of_mem _ he, q⟩)
    have S3 := J3.suite at3 hd3 na nL nF
    have go : ∀ {ks : List ExceptHandler} {m : List (Value × Suite)}, HdsN X n ks m → wSome X.K i Wout D m cls d σ2 H2 → wpAny (model X.prog X.w) X.A (handleBy (.ref a) X.env ks) (SP X pins D) X.xe { t with heap := g3 } := by
      intro ks m hk
      induction hk with
      | nil =>
        intro w; refine wpAny_handleBy_nil ?_
        obtain ⟨k1, k2, k3, oe, vs, T, oT, vs2, he, hz, hd2, h1, hr⟩ := id fly
        unfold PySem.passOn; refine wpAny_bind (wpAny_field he hd2 h1 ?_)
        rw [if_neg (show ¬ ((Value.ref T == Value.none) = true) by simp)]
        have fin : wpAny (model X.prog X.w) X.A (setFlight (.ref a) X.env.frame) (fun _ t4 => wpAny (model X.prog X.w) X.A (throw (.ref a) : Sem Flow) (SP X pins D) X.xe t4) X.xe { t with heap := g3 } := by
          rw [fr]; refine HandSPX.setFlight_upZ fly fun g4 sky4 up4 => wpAny_throw (tk _ _ ?_)
          exact ⟨a, B, sI, pins, σ2, H2, cls, d, rfl, J, nb, (up.trans up3).trans up4, .inr (.inr (by rw [st]; exact sky4)), na, os, ag, w⟩
        first | exact wpAny_bind (wpAny_pure (wpAny_bind fin)) | exact wpAny_bind fin
      | @cons x c ts s1 more xp hp2 hds2 l2 names suite rest ih =>
        intro w
        obtain ⟨b, eb, yes, no⟩ := w
        refine wpAny_handleBy_cons (codeAny_handlers_test ?_) (by intro q; cases q)
        have LM := PySem.W.exm_one (M := model X.prog X.w) (J3.kIn) (show PySem.W.Looks (model X.prog X.w) g3 (typeOf (.ref a)) cls from fun A Q E s k q => wpAny_typeOf_ref (k _ _ at3) (by rw [hz3.1]; exact q)) eb
        have test : ∀ {Q : Value → Shared → Prop} {E : Value → Shared → Prop}, Q c { t with heap := g3 } → wpAny (model X.prog X.w) (X.A.mark (some (.ref a))) (eval (.Name x xp) X.env) Q E { t with heap := g3 } := fun {Q E} q => by
          obtain ⟨hg, hdb, hm | ⟨hm, hv, hne⟩⟩ := names
          · exact ld_glob (X := X.suite a ((a, oe3) :: (X.pn ++ pins))) S3 hg hm q hdb
          · exact ld_blt (X := X.suite a ((a, oe3) :: (X.pn ++ pins))) S3 hg hm hv q hne hdb
        refine test (LM.here ?_)
        cases b with
        | false => show wpAny _ X.A (handleBy (.ref a) X.env hds2) _ _ _; exact ih (no rfl)
        | true =>
          refine codeAny_handlers_suite_as (HandSPX.lands_againZ fly fun g4 fly4 up4 => ?_)
          have J4 : Inv X pins σ2 H2 { t with heap := g4 } := J.landed nb fly4.1 ((up.trans up3).trans up4) os ag
          obtain ⟨oe4, ws4, at4, hz4, hd4⟩ := fly4.there
          refine store_ok (X := X.suite a ((a, oe4) :: (X.pn ++ pins))) (v := .ref a) (J4.suite at4 hd4 na nL nF) dup at_ hloc rfl (fun s5 S5 => ?_) (.inr loc)
          refine wpAny_mono ((suite a oe4 cls d (X.pn ++ pins) hz4 ⟨_, hd4⟩).run [] s5 _ H2 _ S5 (yes rfl a na)) (fun f s6 came => ?_) (fun _ _ z => False.elim z)
          have gone : ∀ {σ6 : L2.St} {H6 : Hp} {Q : Shared → Prop}, Inv (X.suite a ((a, oe4) :: (X.pn ++ pins))) [] σ6 H6 s6 → (∀ s7, Inv X pins (σ6.set i none) H6 s7 → Q s7) → wpAny (model X.prog X.w) X.A (do bindName X.env n .none; unbindBehindTheSuite X.env n hp2) (fun _ s7 => Q s7) X.xe s6 :=
            fun {σ6 H6 Q} S6 hq => gone_ok (S6.unsuite good) dup at_ loc hq
          cases f with
          | next => obtain ⟨σ6, H6, S6, q6⟩ := came; exact gone S6 fun s7 J7 => ⟨_, _, J7, q6⟩
          | brk => obtain ⟨σ6, H6, S6, q6⟩ := came; exact gone S6 fun s7 J7 => ⟨_, _, J7, q6⟩
          | cont => obtain ⟨σ6, H6, S6, q6⟩ := came; exact gone S6 fun s7 J7 => ⟨_, _, J7, q6⟩
          | ret u => obtain ⟨v6, σ6, H6, S6, r6, q6⟩ := came; exact gone S6 fun s7 J7 => ⟨_, _, _, J7, r6, q6⟩
    exact go clauses (wish J.len)
  · cases f with
    | next => obtain ⟨σ2, H2, J2, q⟩ := came; exact wpAny_execs_nil ⟨σ2, H2, J2.ofTry good, q⟩
    | brk => obtain ⟨σ2, H2, J2, q⟩ := came; exact ⟨σ2, H2, J2.ofTry good, q⟩
    | cont => obtain ⟨σ2, H2, J2, q⟩ := came; exact ⟨σ2, H2, J2.ofTry good, q⟩
    | ret u => obtain ⟨v, σ2, H2, J2, r, q⟩ := came; exact ⟨v, σ2, H2, J2.ofTry good, r, q⟩
end
end K1
end
-- KMet
section
set_option Elab.async false
set_option linter.all false
set_option maxRecDepth 100000
set_option maxHeartbeats 4000000
namespace K1
open PySem PySem.Spec PyProof.Rows L2
abbrev sMet : Stmt := top 38
structure MetF (K : PySem.W.Frag) (mg : Str → Option Value) (CH CR CD : Addr) : Prop where
  mH : mg "BadHouses" = some (.ref CH)
  mR : mg "BadRoads" = some (.ref CR)
  mD : mg "BadHeads" = some (.ref CD)
  hh : PySem.W.exmOne K (.ref CH) (.ref CH) = some true
  rh : PySem.W.exmOne K (.ref CR) (.ref CH) = some false
  rr : PySem.W.exmOne K (.ref CR) (.ref CR) = some true
  dh : PySem.W.exmOne K (.ref CD) (.ref CH) = some false
  dr : PySem.W.exmOne K (.ref CD) (.ref CR) = some false
  dd : PySem.W.exmOne K (.ref CD) (.ref CD) = some true
  xH : XfC K CH
  xR : XfC K CR
  xD : XfC K CD
  iH : PySem.W.findIn K (.ref CH) "index" = some none
  iR : PySem.W.findIn K (.ref CR) "index" = some none
  iD : PySem.W.findIn K (.ref CD) "index" = some none
/-- which class tells which word -/
def Word (CH CR CD C : Addr) (nm : Str) : Prop := (C = CH ∧ nm = "houses") ∨ (C = CR ∧ nm = "roads") ∨ (C = CD ∧ nm = "heads")
def TMet (CH CR CD : Addr) : (XK → Hp → VK → Prop) → Hp → VK → Prop := fun tl H Q =>
  tl (fun cls d H' => ∃ (C : Addr) (nm : Str), Word CH CR CD C nm ∧ cls = .ref C ∧ ∃ dd v, d = some dd ∧ H' dd = some (.xd [("index", v)]) ∧ ∀ p, H' p = none → Q (.ref p) (upd H' p (.tup [.str nm, v]))) H
    (fun v H1 => [V.str "told", v].length ≤ sizeLine ∧ ∀ p, H1 p = none → Q (.ref p) (upd H1 p (.tup [.str "told", v])))
theorem scMet : FnScope ["ask", "e"] ["ask"] (defScope sMet) := ⟨rfl, rfl, rfl, by decide +kernel, rfl, by decide +kernel, by decide +kernel⟩
theorem set_get {α : Type} {l : List α} {i : Nat} {x : α} (h : i < l.length) : (l.set i x)[i]? = some x := by rw [List.getElem?_set_self h]
theorem met_gives {X : Cx} {g CH CR CD : Addr} {cdg : Value} {q : Str} (F : MetF X.K X.mg CH CR CD) : LamX.GivesTo X ["ask", "e"] "_law_met" (defScope sMet) g cdg (defBody sMet) "ask" q (TMet CH CR CD) := by
  intro f c' s H Q tl act hc h
  have nd := scMet.nd
  refine ⟨_, pss_one (ps_try_some (i := 1) (X := (cxOf C8.CX0 X.prog X.w X.K X.mg X.base ["ask", "e"] "_law_met" (defScope sMet) g cdg X.A X.stack s H C8.E0).nox)
      (l := [(.ref CH, fun a cls d => tRet (tTup (tCons (tC (.str "houses")) (tCons (tXf a cls d CH "index" (tVar 1)) tNil)))), (.ref CR, fun a cls d => tRet (tTup (tCons (tC (.str "roads")) (tCons (tXf a cls d CR "index" (tVar 1)) tNil)))), (.ref CD, fun a cls d => tRet (tTup (tCons (tC (.str "heads")) (tCons (tXf a cls d CD "index" (tVar 1)) tNil))))])
      (tb := fun W D σ H => ∃ Ech : XK, (∀ cls d σ' H', Ech cls d H' → W cls d σ' H') ∧ σ[0]? = some (some (.ref f)) ∧ H c' = some (LamX.CodeO c' q) ∧ tl Ech H (fun v H1 => [V.str "told", v].length ≤ sizeLine ∧ ∀ p, H1 p = none → D.rt (.ref p) (upd H1 p (.tup [.str "told", v]))))
      rfl rfl nd rfl rfl LamX.takes0 (fun W pn xe tk _ => ?_)
      (.cons ⟨rfl, by decide, .inl F.mH⟩ (fun a oe cls d pn hz hf => pss_one (by exact ps_ret (pe_tup (pa_cons pe_str (pa_cons (pe_xf F.xH F.iH hz hf (pv 1)) pa_nil)))))
        (.cons ⟨rfl, by decide, .inl F.mR⟩ (fun a oe cls d pn hz hf => pss_one (by exact ps_ret (pe_tup (pa_cons pe_str (pa_cons (pe_xf F.xR F.iR hz hf (pv 1)) pa_nil)))))
          (.cons ⟨rfl, by decide, .inl F.mD⟩ (fun a oe cls d pn hz hf => pss_one (by exact ps_ret (pe_tup (pa_cons pe_str (pa_cons (pe_xf F.xD F.iD hz hf (pv 1)) pa_nil))))) .nil)))), ?_⟩
  · refine ⟨fun pins s' σ H' D I h' => ?_⟩
    obtain ⟨Ech, hW, h1, h2, h3⟩ := h'
    exact (pss_one (ps_ret (pe_tup (pa_cons pe_str (pa_cons (act W pn xe Ech _ _ tk hW) pa_nil))))).run pins s' σ H' D I ⟨h1, h2, h3⟩
  · refine ⟨_, fun cls d σ' H' hE hl => ?_, rfl, hc, h⟩
    obtain ⟨C, nm, w, rfl, dd, v, rfl, hx, qq⟩ := hE
    have s1 : ∀ a : Addr, (σ'.set 1 (some (V.ref a)))[1]? = some (some (V.ref a)) := fun a => set_get (by rw [hl]; exact (by decide : 1 < 2))
    have go : ∀ (a : Addr), (tRet (tTup (tCons (tC (.str nm)) (tCons (tXf a (.ref C) (some dd) C "index" (tVar 1)) tNil)))) { nx := fun σ2 H2 => False, rt := Q, bk := fun _ _ => False, ct := fun _ _ => False } (σ'.set 1 (some (V.ref a))) H' := fun a =>
      ⟨_, s1 a, rfl, rfl, dd, _, v, rfl, hx, rfl, (by show 2 ≤ sizeLine; decide), qq⟩
    rcases w with ⟨rfl, rfl⟩ | ⟨rfl, rfl⟩ | ⟨rfl, rfl⟩
    · exact ⟨true, F.hh, And.intro (fun _ a _ => go a) (fun z => Bool.noConfusion z)⟩
    · exact ⟨false, F.rh, And.intro (fun z => Bool.noConfusion z) (fun _ => ⟨true, F.rr, And.intro (fun _ a _ => go a) (fun z => Bool.noConfusion z)⟩)⟩
    · exact ⟨false, F.dh, And.intro (fun z => Bool.noConfusion z) (fun _ => ⟨false, F.dr, And.intro (fun z => Bool.noConfusion z) (fun _ => ⟨true, F.dd, And.intro (fun _ a _ => go a) (fun z => Bool.noConfusion z)⟩)⟩)⟩
end K1
end
-- KLaw10
section
set_option Elab.async false
set_option linter.all false
set_option maxRecDepth 100000
set_option maxHeartbeats 4000000
namespace K1
open PySem PySem.Spec PyProof.Rows L2
abbrev sTR : Stmt := top 39
/-- a def that the text calls by this name -/
def Fx (P : Program) (w : World) (K : PySem.W.Frag) (mg : Str → Option Value) (base : Heap) (CX : CXT) (k : Nat) (x : Str) (ps : List Str) (sp : Sp) : Prop :=
  ∃ f fd, FnOk P w K mg base CX k f fd ps sp ∧ Binds K fd ps [] ∧ PySem.W.keepIn K (.ref f) = true ∧ mg x = some (.ref f)
/-- a method of the class at C -/
def Mx (P : Program) (w : World) (K : PySem.W.Frag) (mg : Str → Option Value) (base : Heap) (C : Addr) (x : Str) (ps : List Str) (sp : Sp) : Prop :=
  ∃ f fd, FnOk P w K mg base CX0 1 f fd ps sp ∧ Binds K fd ps [] ∧ Meth K C x f
abbrev kwR : List Value → List Value → List Value := fun us ws => [us.getD 0 .none, ws.getD 2 .none, ws.getD 1 .none, ws.getD 0 .none]
abbrev kwV : List V → List V → List V := fun vs zs => [vs.getD 0 .non, zs.getD 2 .non, zs.getD 1 .non, zs.getD 0 .non]
structure Vx (P : Program) (w : World) (K : PySem.W.Frag) (mg : Str → Option Value) (base : Heap) (C CH CR CD : Addr) : Prop where
  m : mg "Valley" = some (.ref C)
  e : VcE K C
  made : ∃ f fd, Mk K C f ∧ FnOk P w K mg base (L2.CX P w) 5 f fd ["self", "houses", "roads", "heads"] (spVI K C CH CR CD) ∧ Binds K fd ["self", "houses", "roads", "heads"] [] ∧ KBn K fd ["self", "houses", "roads", "heads"] 1 ["heads", "roads", "houses"] kwR kwV
  mh : Mx P w K mg base C "houses" ["self"] (spVH C)
  mr : Mx P w K mg base C "roads" ["self"] (spVR C)
  md : Mx P w K mg base C "heads" ["self"] (spVD C)
  eq : ∃ f fd, FnOk P w K mg base CX0 1 f fd ["self", "other"] (spVE K C) ∧ PySem.W.findIn K (.ref C) "__eq__" = some (some (.ref f)) ∧ PySem.W.isFn K (.ref f) = true ∧ Binds K fd ["self", "other"] []
  ne : PySem.W.findIn K (.ref C) "__ne__" = some (some (.builtin "object.__ne__"))
  nf : PySem.W.notFirst K C (.ref C) = true
  nt : ∀ t ∈ kinds ++ ["function"], PySem.W.notFirst K C (.type t) = true
theorem vals_getD {vs : List V} {us : List Value} (h : Vals vs us) : ∀ i, RelV (vs.getD i .non) (us.getD i .none) := by
  induction h with
  | nil => intro i; exact rfl
  | cons a r ih =>
    intro i
    cases i with
    | zero => exact a
    | succ i => exact ih i
theorem kb_init {K : PySem.W.Frag} {f : Addr} {fd : FuncData} (F : Fun K "__init__" "Valley.__init__" sVI f fd) : KBn K fd ["self", "houses", "roads", "heads"] 1 ["heads", "roads", "houses"] kwR kwV := by
  obtain ⟨oc, od, kV, doc, pm, an, cdv, ct, osl, rfl, lk, hcd⟩ := F.ex
  refine ⟨fun s us ws X l1 l2 => ?_, fun r1 r2 => ?_⟩
  · match us, ws, l1, l2 with
    | [u], [a, b, c], _, _ => exact BindsTo.of_looks fun M => .of_pure rfl
  · exact .cons (vals_getD r1 0) (.cons (vals_getD r2 2) (.cons (vals_getD r2 1) (.cons (vals_getD r2 0) .nil)))
/-- all but what is in Z stays -/
def KeptZ (Z : Addr → Prop) (H H' : Hp) : Prop := ∀ b o, ¬ Z b → H b = some o → H' b = some o
theorem KeptZ.refl {Z : Addr → Prop} {H : Hp} : KeptZ Z H H := fun _ _ _ h => h
theorem KeptZ.trans {Z : Addr → Prop} {H H1 H2 : Hp} (p : KeptZ Z H H1) (q : KeptZ Z H1 H2) : KeptZ Z H H2 := fun b o n h => q b o n (p b o n h)
theorem KeptZ.upd {Z : Addr → Prop} {H : Hp} {a : Addr} {o : HO} (z : Z a) : KeptZ Z H (L2.upd H a o) := fun b u n h => by
  rw [upd_ne (fun e => n (by rw [e]; exact z))]
  exact h
theorem KeptZ.same {Z : Addr → Prop} {H H1 : Hp} (e : Same H H1) : KeptZ Z H H1 := fun b o _ h => e b o h
theorem KeptZ.new {Z : Addr → Prop} {H : Hp} {p : Addr} {o : HO} (h : H p = none) : KeptZ Z H (L2.upd H p o) := KeptZ.same (K1.Same.upd h)
theorem ValI.keptZ {Z : Addr → Prop} {C : Addr} {H H' : Hp} {x l1 l2 l3 : Addr} {qs : List Addr} {ss : List Str} {rs : List (Str × Str)} {ns : List Int} (v : ValI C H x l1 l2 l3 qs ss rs ns) (k : KeptZ Z H H') (zx : ¬ Z x) (z1 : ¬ Z l1) (z2 : ¬ Z l2) (z3 : ¬ Z l3) (zq : ∀ q ∈ qs, ¬ Z q) : ValI C H' x l1 l2 l3 qs ss rs ns := by
  obtain ⟨dx, fs, h, r⟩ := v.ins
  have pq : ∀ {as : List Addr} {bs : List (Str × Str)}, Paired (TupP H) as bs → (∀ q ∈ as, ¬ Z q) → Paired (TupP H') as bs := by
    intro as bs p
    induction p with
    | nil => intro _; exact .nil
    | cons f1 f2 ih => intro nz; exact .cons (k _ _ (nz _ (List.mem_cons_self ..)) f1) (ih fun z hz => nz z (List.mem_cons_of_mem _ hz))
  exact ⟨⟨dx, fs, k _ _ zx h, r⟩, k _ _ z1 v.h1, k _ _ z2 v.h2, pq v.pr zq, k _ _ z3 v.h3⟩
theorem ValI.same {C : Addr} {H H' : Hp} {x l1 l2 l3 : Addr} {qs : List Addr} {ss : List Str} {rs : List (Str × Str)} {ns : List Int} (v : ValI C H x l1 l2 l3 qs ss rs ns) (e : Same H H') : ValI C H' x l1 l2 l3 qs ss rs ns :=
  v.keptZ (Z := fun _ => False) (KeptZ.same e) id id id id fun _ _ => id
theorem VAt.same {a : Addr} {H H' : Hp} {t p1 p2 p3 : Addr} {qs : List Addr} {ss : List Str} {rs : List (Str × Str)} {ns : List Int} (v : VAt a H t p1 p2 p3 qs ss rs ns) (e : Same H H') : VAt a H' t p1 p2 p3 qs ss rs ns :=
  ⟨e _ _ v.t0, e _ _ v.h1, e _ _ v.h2, TupP.ext v.pr e, e _ _ v.h3, v.n1, v.n2, v.n3⟩
/-! two things that are the same -/
def R0 : RelE := fun _ _ _ => False
def R1 : RelE := NextE R0
def R2' : RelE := NextE R1
def R3 : RelE := NextE R2'
def R4 : RelE := NextE R3
theorem r_str {R : RelE} {H : Hp} (s : Str) : NextE R H (.str s) (.str s) := .inl ⟨rfl, .inr (.inr ⟨s, rfl⟩)⟩
theorem r_int {R : RelE} {H : Hp} (i : Int) : NextE R H (.int i) (.int i) := .inl ⟨rfl, .inl ⟨i, rfl⟩⟩
theorem r_bl {R : RelE} {H : Hp} (b : Bool) : NextE R H (.bl b) (.bl b) := .inl ⟨rfl, .inr (.inl ⟨b, rfl⟩)⟩
theorem r_strs {R : RelE} {H : Hp} : ∀ ss : List Str, Paired (NextE R H) (ss.map V.str) (ss.map V.str)
  | [] => .nil
  | s :: ss => .cons (r_str s) (r_strs ss)
theorem r_ints {R : RelE} {H : Hp} : ∀ ss : List Int, Paired (NextE R H) (ss.map V.int) (ss.map V.int)
  | [] => .nil
  | s :: ss => .cons (r_int s) (r_ints ss)
theorem r_lists {R : RelE} {H : Hp} {p q : Addr} {xs ys : List V} (h1 : H p = some (.lst xs)) (h2 : H q = some (.lst ys)) (l : xs.length ≤ 100) (r : Paired (R H) xs ys) : NextE R H (.ref p) (.ref q) := .inr ⟨p, q, xs, ys, rfl, rfl, .inl ⟨h1, h2⟩, l, r⟩
theorem r_tups {R : RelE} {H : Hp} {p q : Addr} {xs ys : List V} (h1 : H p = some (.tup xs)) (h2 : H q = some (.tup ys)) (l : xs.length ≤ 100) (r : Paired (R H) xs ys) : NextE R H (.ref p) (.ref q) := .inr ⟨p, q, xs, ys, rfl, rfl, .inr ⟨h1, h2⟩, l, r⟩
theorem r_pairs {R : RelE} {H : Hp} : ∀ {as bs : List Addr} {rs : List (Str × Str)}, Paired (TupP H) as rs → Paired (TupP H) bs rs → Paired (NextE (NextE R) H) (as.map V.ref) (bs.map V.ref)
  | _, _, _, .nil, .nil => .nil
  | _, _, _, .cons f1 g1, .cons f2 g2 => .cons (r_tups f1 f2 (by show 2 ≤ 100; decide) (.cons (r_str _) (.cons (r_str _) .nil))) (r_pairs g1 g2)
end K1
end
-- KLaw11
section
set_option Elab.async false
set_option linter.all false
set_option maxRecDepth 100000
set_option maxHeartbeats 4000000
namespace K1
open PySem PySem.Spec PyProof.Rows L2
/-- a question about a drawn valley that comes out true -/
def spRight : Sp := fun vs H Q _ => ∃ (a t p1 p2 p3 : Addr) (qs : List Addr) (ss : List Str) (rs : List (Str × Str)) (ns : List Int) (n : Nat), vs = [.ref a, .ref t] ∧ Spr H a n ∧ n + 3000 ≤ 1000000 ∧ VAt a H t p1 p2 p3 qs ss rs ns ∧ VOk ss rs ns ∧
  ∀ H', Kept a H H' → Spr H' a (n + 2000) → Q (.bl true) H'
theorem scTR : FnScope ["spring", "valley", "road", "handed", "made", "part", "due", "turn", "told", "found"] ["spring", "valley"] (defScope sTR) := ⟨rfl, rfl, rfl, by decide +kernel, rfl, by decide +kernel, by decide +kernel⟩
def rLst (K : PySem.W.Frag) : List V → Hp → VK → Prop := fun xs H Q => ∃ p ys, xs = [.ref p] ∧ (SqL K H p ys ∨ SqT K H p ys) ∧ ∀ l, H l = none → Q (.ref l) (upd H l (.lst ys))
def rTpl (K : PySem.W.Frag) : List V → Hp → VK → Prop := fun xs H Q => ∃ p ys, xs = [.ref p] ∧ ((SqL K H p ys ∧ ∀ l, H l = none → Q (.ref l) (upd H l (.tup ys))) ∨ (SqT K H p ys ∧ Q (.ref p) H))
theorem VOk.gv {ss : List Str} {rs : List (Str × Str)} {ns : List Int} (ok : VOk ss rs ns) : GoodV ss rs := ⟨fun s hs => (ok.good.2 s hs).1, ok.ends⟩
theorem paired_mem {α β : Type} {F : α → β → Prop} : ∀ {xs : List α} {ys : List β}, Paired F xs ys → ∀ x ∈ xs, ∃ y ∈ ys, F x y
  | _, _, .cons f r, x, h => by
    rcases List.mem_cons.mp h with rfl | h
    · exact ⟨_, List.mem_cons_self .., f⟩
    · obtain ⟨y, hy, q⟩ := paired_mem r x h
      exact ⟨y, List.mem_cons_of_mem _ hy, q⟩
section
variable {P : Program} {w : World} {K : PySem.W.Frag} {mg : Str → Option Value} {base : Heap} {C CH CR CD : Addr}
theorem ok_TR {f : Addr} {fd : FuncData} (F : Fun K "_law_told_right" "_law_told_right" sTR f fd) (B : Bl mg) (mr : mg "range" = none) (VX : Vx P w K mg base C CH CR CD)
    (hS : Fx P w K mg base CX0 4 "_law_same" ["found", "due"] (spSm R4)) (hM : Fx P w K mg base CX0 7 "_law_v_made" ["spring", "valley"] (spVM C)) :
    FnOk P w K mg base CX0 8 f fd ["spring", "valley"] spRight := by
  obtain ⟨fS, fdS, GS, bS, kS, mS⟩ := hS
  obtain ⟨fM, fdM, GM, bM, kM, mM⟩ := hM
  obtain ⟨fV, fdV, MV, GV, bV, bK⟩ := VX.made
  obtain ⟨fh, fdh, Gh, bh, mh⟩ := VX.mh
  obtain ⟨fro, fdro, Gro, bro, mro⟩ := VX.mr
  obtain ⟨fhd, fdhd, Ghd, bhd, mhd⟩ := VX.md
  obtain ⟨fe, fde, Ge, he1, he2, be⟩ := VX.eq
  have mV := VX.m
  have TE := VX.e
  refine F.ok scTR (fun vs H Q E h => ?_) (fun cdv A outer s H vs Q E hr h => ?_)
  · obtain ⟨a, t, p1, p2, p3, qs, ss, rs, ns, n, rfl, _⟩ := h
    rfl
  obtain ⟨a, t, p1, p2, p3, qs, ss, rs, ns, n, rfl, hs, hn, v, ok, q⟩ := h
  have nd := scTR.nd
  have hr1 : Room 1 _ := hr.mono (by decide)
  have hr4 : Room 4 _ := hr.mono (by decide)
  have hr6 : Room 6 _ := hr.mono (by decide)
  refine ⟨_, (pss_cons (by exact (ps_set (i := 3) nd rfl (.inl rfl) (pe_lst (pa_cons (pe_callTy call_list_of rfl B.list PyProof.Rows.boot_list (pa_cons (pe_ix ix_tup (pv 1) pe_int (fun _ _ => rfl)) pa_nil)) (pa_cons (pe_lc (own := [("road", 2)]) (g := gName 2) (tt := tYes) (te := tCB (rLst K) (tCons (tVar 2) tNil)) rfl nd (by exact pi_list (pe_ix ix_tup (pv 1) pe_int (fun _ _ => rfl))) (by exact blkOk_by (N := ["spring", "valley", "road", "handed", "made", "part", "due", "turn", "told", "found"]) (sc := defScope sTR) (by decide +kernel)) (fun _ _ _ _ _ => by exact (pg_name (i := 2) nd rfl (.inl rfl))) (fun _ _ _ _ _ => by exact pts_nil) (fun _ _ _ _ _ => by exact (pe_callTy call_list_of rfl B.list PyProof.Rows.boot_list (pa_cons (pv 2) pa_nil)))) (pa_cons (pe_callTy call_list_of rfl B.list PyProof.Rows.boot_list (pa_cons (pe_ix ix_tup (pv 1) pe_int (fun _ _ => rfl)) pa_nil)) pa_nil))))))
  (pss_cons (by exact (ps_set (i := 4) nd rfl (.inl rfl) (pe_make MV GV hr6 rfl mV bV .nil passL (pa_cons (pe_ix ix_list (pv 3) pe_int (fun _ _ => rfl)) (pa_cons (pe_ix ix_list (pv 3) pe_int (fun _ _ => rfl)) (pa_cons (pe_ix ix_list (pv 3) pe_int (fun _ _ => rfl)) pa_nil))))))
  (pss_cons (by exact (ps_for PassesOwn.never rfl (by exact pi_list (pe_ix ix_list (pv 3) pe_int (fun _ _ => rfl))) (pg_name (i := 2) nd rfl (.inl rfl)) (pss_one (by exact (ps_expr (pe_bm PySem.F.plainAttrs_list PySem.F.slot_list_append PySem.F.type_list_append mt_append (pv 2) (pa_cons pe_str pa_nil)))))))
  (pss_cons (by exact (ps_for PassesOwn.never rfl (by exact pi_list (pv 3)) (pg_name (i := 5) nd rfl (.inl rfl)) (pss_one (by exact (ps_expr (pe_bm PySem.F.plainAttrs_list PySem.F.slot_list_append PySem.F.type_list_append mt_append (pv 5) (pa_cons pe_str pa_nil)))))))
  (pss_cons (by exact ps_asg (by exact pe_str) (by exact pg_sub (pe_ix ix_list (pv 3) pe_int (fun _ _ => rfl)) pe_int set_list))
  (pss_cons (by exact ps_asg (by exact pe_int) (by exact pg_sub (pe_ix ix_list (pv 3) pe_int (fun _ _ => rfl)) pe_int set_list))
  (pss_cons (by exact (ps_set (i := 6) nd rfl (.inl rfl) (pe_lst (pa_cons (pe_callTy call_list_of rfl B.list PyProof.Rows.boot_list (pa_cons (pe_ix ix_tup (pv 1) pe_int (fun _ _ => rfl)) pa_nil)) (pa_cons (pe_lc (own := [("road", 2)]) (g := gName 2) (tt := tYes) (te := tCB (rTpl K) (tCons (tVar 2) tNil)) rfl nd (by exact pi_list (pe_ix ix_tup (pv 1) pe_int (fun _ _ => rfl))) (by exact blkOk_by (N := ["spring", "valley", "road", "handed", "made", "part", "due", "turn", "told", "found"]) (sc := defScope sTR) (by decide +kernel)) (fun _ _ _ _ _ => by exact (pg_name (i := 2) nd rfl (.inl rfl))) (fun _ _ _ _ _ => by exact pts_nil) (fun _ _ _ _ _ => by exact (pe_callTy call_tuple_of rfl B.tuple PyProof.Rows.boot_tuple (pa_cons (pv 2) pa_nil)))) (pa_cons (pe_callTy call_list_of rfl B.list PyProof.Rows.boot_list (pa_cons (pe_ix ix_tup (pv 1) pe_int (fun _ _ => rfl)) pa_nil)) pa_nil))))))
  (pss_cons (by exact (ps_for PassesOwn.never rfl (by exact pi_range1 rfl mr (pa_cons pe_int pa_nil)) (pg_name (i := 7) nd rfl (.inl rfl)) (pss_cons (by exact (ps_set (i := 8) nd rfl (.inl rfl) (pe_lst (pa_cons (pe_meth0 (pv 4) TE.cl mh Gh hr1 bh .nil pass0) (pa_cons (pe_meth0 (pv 4) TE.cl mro Gro hr1 bro .nil pass0) (pa_cons (pe_meth0 (pv 4) TE.cl mhd Ghd hr1 bhd .nil pass0) pa_nil))))))
  (pss_cons (by exact (ps_if (pt_not (pt_val (pe_call GS hr4 rfl mS kS bS .nil pass0 (pa_cons (pv 8) (pa_cons (pv 6) pa_nil))))) (pss_one (by exact (ps_ret pe_bl))) pss_nil))
  (pss_one (by exact (ps_for PassesOwn.never rfl (by exact pi_list (pv 8)) (pg_name (i := 5) nd rfl (.inl rfl)) (pss_one (by exact (ps_expr (pe_bm PySem.F.plainAttrs_list PySem.F.slot_list_append PySem.F.type_list_append mt_append (pv 5) (pa_cons pe_str pa_nil))))))))))))
  (pss_cons (by exact (ps_set (i := 9) nd rfl (.inl rfl) (pe_lst (pa_cons (pe_cmpR (op_eqOwn Ge he1 he2 be pass0 hr1) (pe_makeK0 MV GV hr6 rfl mV bK passL (pk_cons (pe_ix ix_tup (pv 1) pe_int (fun _ _ => rfl)) (pk_cons (pe_ix ix_tup (pv 1) pe_int (fun _ _ => rfl)) (pk_cons (pe_ix ix_tup (pv 1) pe_int (fun _ _ => rfl)) pk_nil)))) (pv 4) (nomark _)) (pa_cons (pe_cmpR (op_eqOwn Ge he1 he2 be pass0 hr1) (pe_call GM hr rfl mM kM bM .nil pass0 (pa_cons (pv 0) (pa_cons (pv 1) pa_nil))) (pv 4) (nomark _)) pa_nil)))))
  (pss_one (by exact (ps_ret (pe_call GS hr4 rfl mS kS bS .nil pass0 (pa_cons (pv 9) (pa_cons (pe_lst (pa_cons pe_bl (pa_cons pe_bl pa_nil))) pa_nil))))))))))))))), ?_⟩
  have i0 : atI [V.ref p1, V.ref p2, V.ref p3] 0 = some (.ref p1) := rfl
  have i1 : atI [V.ref p1, V.ref p2, V.ref p3] 1 = some (.ref p2) := rfl
  have i2 : atI [V.ref p1, V.ref p2, V.ref p3] 2 = some (.ref p3) := rfl
  have pl := ok.le
  have lqs : qs.length = rs.length := v.pr.length
  have lrs := ok.rl
  -- what is handed
  refine ⟨_, rfl, t, _, _, _, rfl, rfl, SqT.of v.t0, i0, p1, _, rfl, .inl (SqL.of v.h1), fun l1 hl1 => ?_⟩
  have eA := K1.Same.upd (H := H) (p := l1) (o := .lst (ss.map V.str)) hl1
  have gA : L2.upd H l1 (.lst (ss.map V.str)) l1 = some (.lst (ss.map V.str)) := upd_same
  generalize L2.upd H l1 (.lst (ss.map V.str)) = HA at eA gA ⊢
  refine ⟨_, rfl, t, _, _, _, rfl, rfl, SqT.of (eA _ _ v.t0), i1, p2, rfl, ⟨_, SqL.of (eA _ _ v.h2)⟩, fun lr hlr => ?_⟩
  refine lc_it walk_list (fun i Hc => Same HA Hc ∧ ∃ ms : List Addr, Hc lr = some (.lst (ms.map V.ref)) ∧ Paired (fun m (r : Str × Str) => Hc m = some (.lst (prV r))) ms (rs.take i) ∧ ∀ m ∈ ms, HA m = none ∧ m ≠ lr)
    ⟨K1.Same.upd hlr, [], upd_same, .nil, fun m hm => absurd hm (by simp)⟩ (fun i Hc _ h => SqL.of (h.1 _ _ (eA _ _ v.h2))) ?_ ?_
  · rintro i y Hc H' hi ⟨f1, ms, f2, f3, f4⟩ ⟨rfl, hy⟩
    rw [List.length_map, lqs] at hi
    obtain ⟨z, rfl, hz⟩ := paired_ref v.pr hi hy
    refine ⟨rfl, ?_⟩
    unfold tYes
    refine iteT ⟨_, rfl, z, _, rfl, .inr (SqT.of (f1 _ _ (eA _ _ hz))), fun m hm => ?_⟩
    have mlr : m ≠ lr := (ne_of_none f2 hm).symm
    have lms : ms.length ≤ 60 := by rw [f3.length, List.length_take]; omega
    have kd : Kept lr H' (L2.upd (L2.upd H' m (.lst (prV rs[i]))) lr (.lst (ms.map V.ref ++ [.ref m]))) := (Kept.new hm).trans Kept.upd
    refine ⟨ms.map V.ref, by rw [upd_ne mlr.symm]; exact f2, by rw [List.length_map]; exact small1000 (by omega), fun b o nb => kd b o (ne_of_none nb hlr) (f1 b o nb), ms ++ [m], by rw [upd_same, List.map_append]; rfl, ?_, fun m' hm' => ?_⟩
    · rw [List.take_add_one, List.getElem?_eq_getElem hi]
      exact snoc_paired (by show L2.upd _ _ _ m = _; rw [upd_ne mlr, upd_same]; rfl) f3 (fun y r hy ey => kd _ _ (f4 y hy).2 ey)
    · rcases List.mem_append.mp hm' with hm' | hm'
      · exact f4 m' hm'
      · rw [List.mem_singleton.mp hm']
        exact ⟨f1.free hm, mlr⟩
  rintro HB ⟨eB, ms, gB, prB, frB⟩
  rw [List.length_map, lqs, List.take_length] at prB
  have eHB := eA.trans eB
  refine ⟨_, rfl, t, _, _, _, rfl, rfl, SqT.of (eHB _ _ v.t0), i2, p3, _, rfl, .inl (SqL.of (eHB _ _ v.h3)), fun l3 hl3 => ⟨(by show 3 ≤ sizeLine; decide), fun hh hhh => ?_⟩⟩
  have eC := K1.Same.upd (H := HB) (p := l3) (o := .lst (ns.map V.int)) hl3
  have eD := K1.Same.upd (H := L2.upd HB l3 (.lst (ns.map V.int))) (p := hh) (o := .lst [.ref l1, .ref lr, .ref l3]) hhh
  have gC := upd_same' HB l3 (.lst (ns.map V.int))
  have mB : ∀ m ∈ ms, ∃ r, HB m = some (.lst (prV r)) := fun m hm => by
    obtain ⟨r, _, e⟩ := paired_mem prB m hm
    exact ⟨r, e⟩
  have lrm : ∀ m ∈ ms, m ≠ lr := fun m hm => (frB m hm).2
  have l1m : ∀ m ∈ ms, m ≠ l1 := fun m hm => (ne_of_none gA (frB m hm).1).symm
  have l3m : ∀ m ∈ ms, m ≠ l3 := fun m hm => by
    obtain ⟨r, e⟩ := mB m hm
    exact ne_of_none e hl3
  have hhm : ∀ m ∈ ms, m ≠ hh := fun m hm => by
    obtain ⟨r, e⟩ := mB m hm
    exact ne_of_none (eC _ _ e) hhh
  have l1lr : l1 ≠ lr := ne_of_none gA hlr
  have l3lr : l3 ≠ lr := (ne_of_none gB hl3).symm
  have hl1' : l1 ≠ hh := ne_of_none (eC _ _ (eB _ _ gA)) hhh
  have hlr' : lr ≠ hh := ne_of_none (eC _ _ gB) hhh
  have hl3' : l3 ≠ hh := ne_of_none gC hhh
  have n_l1 : H l1 = none := hl1
  have n_lr : H lr = none := eA.free hlr
  have n_l3 : H l3 = none := eHB.free hl3
  have n_m : ∀ m ∈ ms, H m = none := fun m hm => eA.free (frB m hm).1
  have g1 := eD _ _ (eC _ _ (eB _ _ gA))
  have g2 := eD _ _ (eC _ _ gB)
  have g3 := eD _ _ gC
  have gm : Paired (fun m (r : Str × Str) => L2.upd (L2.upd HB l3 (.lst (ns.map V.int))) hh (.lst [.ref l1, .ref lr, .ref l3]) m = some (.lst (prV r))) ms rs := paired_imp (fun m r e => eD _ _ (eC _ _ e)) prB
  have gh := upd_same' (L2.upd HB l3 (.lst (ns.map V.int))) hh (.lst [.ref l1, .ref lr, .ref l3])
  have e4 := eHB.trans (eC.trans eD)
  generalize L2.upd (L2.upd HB l3 (.lst (ns.map V.int))) hh (.lst [.ref l1, .ref lr, .ref l3]) = H4 at g1 g2 g3 gm gh e4 ⊢
  clear eC eD gC hhh hl3 mB hlr frB prB gB eB gA eA eHB hl1
  -- the valley
  have j0 : atI [V.ref l1, V.ref lr, V.ref l3] 0 = some (.ref l1) := rfl
  have j1 : atI [V.ref l1, V.ref lr, V.ref l3] 1 = some (.ref lr) := rfl
  have j2 : atI [V.ref l1, V.ref lr, V.ref l3] 2 = some (.ref l3) := rfl
  refine ⟨_, rfl, hh, _, _, _, rfl, rfl, SqL.of gh, j0, _, rfl, hh, _, _, _, rfl, rfl, SqL.of gh, j1, _, rfl, hh, _, _, _, rfl, rfl, SqL.of gh, j2, fun x dx nx ndx nex => ?_⟩
  refine made_of ok (hs.same e4) (Kept.same e4) hs.kept nx ndx ⟨l1, rfl, .inl g1⟩ ⟨ms.map V.ref, ⟨lr, rfl, .inl g2⟩, map_paired (paired_imp (fun m r h => ⟨m, rfl, .inl h⟩) gm)⟩ ⟨l3, rfl, .inl g3⟩ fun w1 w2 w3 qs' H5 k5 s5 v5 f1 f2 f3 f4 e45 => ⟨rfl, ?_⟩
  have lms : ms.length ≤ 60 := by rw [gm.length]; omega
  let Z : Addr → Prop := fun b => b ∈ ms ∨ b = l1 ∨ b = lr ∨ b = l3
  have someZ : ∀ b, Z b → H4 b ≠ none := fun b hb => by
    rcases hb with hb | rfl | rfl | rfl
    · obtain ⟨r, _, e⟩ := paired_mem gm b hb
      rw [e]; simp
    · rw [g1]; simp
    · rw [g2]; simp
    · rw [g3]; simp
  have noneZ : ∀ b, Z b → H b = none := fun b hb => by
    rcases hb with hb | rfl | rfl | rfl
    · exact n_m b hb
    · exact n_l1
    · exact n_lr
    · exact n_l3
  have notZ : ∀ b, H4 b = none → ¬ Z b := fun b e z => someZ b z e
  have hhZ : ¬ Z hh := fun z => by
    rcases z with z | z | z | z
    · exact hhm hh z rfl
    · exact hl1' z.symm
    · exact hlr' z.symm
    · exact hl3' z.symm
  have e05 := e4.trans e45
  -- the roads' lists grow
  refine ⟨_, rfl, hh, _, _, _, rfl, rfl, SqL.of (e45 _ _ gh), j1, lr, rfl, ⟨_, SqL.of (e45 _ _ g2)⟩, ?_⟩
  refine for_it walk_list (fun i σ Hc => (∃ y, σ = [some (.ref a), some (.ref t), y, some (.ref hh), some (.ref x), none, none, none, none, none]) ∧ KeptZ (fun b => b ∈ ms) H5 Hc ∧ ∀ m ∈ ms, ∃ xs, Hc m = some (.lst xs) ∧ xs.length ≤ 2 + i)
    ⟨⟨_, rfl⟩, KeptZ.refl, fun m hm => ?_⟩ (fun i σ Hc _ h => SqL.of (h.2.1 _ _ (fun z => lrm lr z rfl) (e45 _ _ g2))) ?_ ?_
  · obtain ⟨r, _, e⟩ := paired_mem gm m hm
    exact ⟨_, e45 _ _ e, Nat.le_refl 2⟩
  · rintro i y σ Hc H' hi ⟨⟨y0, rfl⟩, k1, k2⟩ ⟨rfl, hy⟩
    obtain ⟨m, hm, rfl⟩ := List.mem_map.mp (List.mem_of_getElem? hy)
    rw [List.length_map] at hi
    obtain ⟨xs, hx, hl⟩ := k2 m hm
    refine ⟨_, rfl, .inl ⟨rfl, _, SqL.of hx⟩, m, xs, _, rfl, rfl, hx, small1000 (by omega), ⟨_, rfl⟩, k1.trans (KeptZ.upd hm), fun m' hm' => ?_⟩
    by_cases e : m' = m
    · subst e
      exact ⟨_, upd_same, by rw [List.length_append]; simp; omega⟩
    · obtain ⟨xs', hx', hl'⟩ := k2 m' hm'
      exact ⟨xs', by rw [upd_ne e]; exact hx', by omega⟩
  rintro σ H6 ⟨⟨y0, rfl⟩, k6, _⟩
  -- the lists grow
  have gh6 := k6 _ _ (fun z => hhm hh z rfl) (e45 _ _ gh)
  refine ⟨_, rfl, hh, rfl, ⟨_, SqL.of gh6⟩, ?_⟩
  refine for_it walk_list (fun i σ Hc => (∃ y, σ = [some (.ref a), some (.ref t), y0, some (.ref hh), some (.ref x), y, none, none, none, none]) ∧ KeptZ Z H6 Hc ∧ ∀ z, (z = l1 ∨ z = lr ∨ z = l3) → ∃ xs, Hc z = some (.lst xs) ∧ xs.length ≤ 100 + i ∧ (z ≠ lr → 1 ≤ xs.length))
    ⟨⟨_, rfl⟩, KeptZ.refl, fun z hz => ?_⟩ (fun i σ Hc _ h => SqL.of (h.2.1 _ _ hhZ gh6)) ?_ ?_
  · rcases hz with rfl | rfl | rfl
    · exact ⟨_, k6 _ _ (fun z' => l1m z z' rfl) (e45 _ _ g1), by rw [List.length_map]; omega, fun _ => by rw [List.length_map]; exact ok.pos⟩
    · exact ⟨_, k6 _ _ (fun z' => lrm z z' rfl) (e45 _ _ g2), by rw [List.length_map]; omega, fun q => absurd rfl q⟩
    · exact ⟨_, k6 _ _ (fun z' => l3m z z' rfl) (e45 _ _ g3), by rw [List.length_map, ok.nl]; omega, fun _ => by rw [List.length_map, ok.nl]; exact ok.pos⟩
  · rintro i y σ Hc H' hi ⟨⟨y1, rfl⟩, k1, k2⟩ ⟨rfl, hy⟩
    have hi3 : i < 3 := hi
    obtain ⟨z, hz, rfl⟩ : ∃ z, (z = l1 ∨ z = lr ∨ z = l3) ∧ y = .ref z := by
      have := List.mem_of_getElem? hy
      simp only [List.mem_cons, List.not_mem_nil, or_false] at this
      rcases this with rfl | rfl | rfl
      · exact ⟨l1, .inl rfl, rfl⟩
      · exact ⟨lr, .inr (.inl rfl), rfl⟩
      · exact ⟨l3, .inr (.inr rfl), rfl⟩
    obtain ⟨xs, hx, hl, h1⟩ := k2 z hz
    refine ⟨_, rfl, .inl ⟨rfl, _, SqL.of hx⟩, z, xs, _, rfl, rfl, hx, small1000 (by omega), ⟨_, rfl⟩, k1.trans (KeptZ.upd (.inr hz)), fun z' hz' => ?_⟩
    by_cases e : z' = z
    · subst e
      exact ⟨_, upd_same, by rw [List.length_append]; simp; omega, fun _ => by rw [List.length_append]; simp⟩
    · obtain ⟨xs', hx', hl', h1'⟩ := k2 z' hz'
      exact ⟨xs', by rw [upd_ne e]; exact hx', by omega, h1'⟩
  rintro σ H7 ⟨⟨y1, rfl⟩, k7, lists⟩
  -- two places are written
  have ix0 : ∀ n : Nat, 1 ≤ n → ixN n 0 = some 0 := fun n hn => by
    unfold ixN
    rw [if_pos (by decide), if_pos (by omega)]
    rfl
  have gh7 := k7 _ _ hhZ gh6
  obtain ⟨xs1, hx1, _, hp1⟩ := lists l1 (.inl rfl)
  obtain ⟨xs3, hx3, _, hp3⟩ := lists l3 (.inr (.inr rfl))
  refine ⟨_, rfl, hh, _, _, _, rfl, rfl, SqL.of gh7, j0, l1, xs1, 0, 0, rfl, rfl, hx1, ix0 _ (hp1 l1lr), ?_⟩
  have k8 : KeptZ Z H7 (L2.upd H7 l1 (.lst (xs1.set 0 (.str "late")))) := KeptZ.upd (.inr (.inl rfl))
  have hx3' : ∃ xs, L2.upd H7 l1 (.lst (xs1.set 0 (.str "late"))) l3 = some (.lst xs) ∧ 1 ≤ xs.length := by
    by_cases e : l3 = l1
    · rw [e, upd_same]
      exact ⟨_, rfl, by rw [List.length_set]; exact hp1 l1lr⟩
    · rw [upd_ne e]
      exact ⟨xs3, hx3, hp3 l3lr⟩
  generalize L2.upd H7 l1 (.lst (xs1.set 0 (.str "late"))) = H8 at k8 hx3' ⊢
  obtain ⟨xs3', hx8, hp8⟩ := hx3'
  refine ⟨_, rfl, hh, _, _, _, rfl, rfl, SqL.of (k8 _ _ hhZ gh7), j2, l3, xs3', 0, 0, rfl, rfl, hx8, ix0 _ hp8, ?_⟩
  have k9 : KeptZ Z H8 (L2.upd H8 l3 (.lst (xs3'.set 0 (.int 77)))) := KeptZ.upd (.inr (.inr (.inr rfl)))
  generalize L2.upd H8 l3 (.lst (xs3'.set 0 (.int 77))) = H9 at k9 ⊢
  have k56 : KeptZ Z H5 H6 := fun b o nb e => k6 b o (fun z => nb (.inl z)) e
  have k59 := k56.trans (k7.trans (k8.trans k9))
  have e09 : Same H H9 := fun b o e => k59 b o (fun z => by rw [noneZ b z] at e; cases e) (e05 b o e)
  have v9 : ValI C H9 x w1 w2 w3 qs' ss rs ns := v5.keptZ k59 (notZ _ nx) (notZ _ f1) (notZ _ f2) (notZ _ f3) (fun z hz => notZ _ (f4 z hz))
  have xa : ∀ z, H4 z = none → z ≠ a := fun z e e2 => (hs.same e4).kept (by rw [← e2]; exact e)
  clear k59 k56 k9 k8 k7 k6 lists hx1 hx3 hx8 gh7 gh6 hp8 hp1 hp3
  -- what is due
  have w9 := VAt.same v e09
  refine ⟨_, rfl, t, _, _, _, rfl, rfl, SqT.of w9.t0, i0, p1, _, rfl, .inl (SqL.of w9.h1), fun d1 hd1 => ?_⟩
  have eE := K1.Same.upd (H := H9) (p := d1) (o := .lst (ss.map V.str)) hd1
  have gE := upd_same' H9 d1 (.lst (ss.map V.str))
  generalize L2.upd H9 d1 (.lst (ss.map V.str)) = HE at eE gE ⊢
  refine ⟨_, rfl, t, _, _, _, rfl, rfl, SqT.of (eE _ _ w9.t0), i1, p2, rfl, ⟨_, SqL.of (eE _ _ w9.h2)⟩, fun d2 hd2 => ?_⟩
  refine lc_it walk_list (fun i Hc => Same HE Hc ∧ Hc d2 = some (.lst ((qs.take i).map V.ref))) ⟨K1.Same.upd hd2, upd_same⟩ (fun i Hc _ h => SqL.of (h.1 _ _ (eE _ _ w9.h2))) ?_ ?_
  · rintro i y Hc H' hi ⟨f1, f2⟩ ⟨rfl, hy⟩
    rw [List.length_map] at hi
    obtain ⟨z, rfl, hz⟩ := paired_ref v.pr (by omega) hy
    have ez : qs[i]? = some z := by
      rw [List.getElem?_map] at hy
      obtain ⟨z', e1, e2⟩ := Option.map_eq_some_iff.mp hy
      cases e2
      exact e1
    refine ⟨rfl, ?_⟩
    unfold tYes
    refine iteT ⟨_, rfl, z, _, rfl, .inr ⟨SqT.of (f1 _ _ (eE _ _ (e09 _ _ hz))), _, f2, by rw [List.length_map]; exact small1000 (Nat.le_trans (List.length_take_le _ _) (by omega)), fun b o nb => ?_, ?_⟩⟩
    · rw [upd_ne (ne_of_none nb hd2)]
      exact f1 b o nb
    · rw [upd_same, List.take_add_one, ez, List.map_append]
      rfl
  rintro HF ⟨eF, gF⟩
  rw [List.length_map, List.take_length] at gF
  have eEF := eE.trans eF
  refine ⟨_, rfl, t, _, _, _, rfl, rfl, SqT.of (eEF _ _ w9.t0), i2, p3, _, rfl, .inl (SqL.of (eEF _ _ w9.h3)), fun d3 hd3 => ⟨(by show 3 ≤ sizeLine; decide), fun dd hdd => ?_⟩⟩
  have eG := K1.Same.upd (H := HF) (p := d3) (o := .lst (ns.map V.int)) hd3
  have eI := K1.Same.upd (H := L2.upd HF d3 (.lst (ns.map V.int))) (p := dd) (o := .lst [.ref d1, .ref d2, .ref d3]) hdd
  have b1 := eI _ _ (eG _ _ (eF _ _ gE))
  have b2 := eI _ _ (eG _ _ gF)
  have b3 := eI _ _ (upd_same' HF d3 (.lst (ns.map V.int)))
  have bd := upd_same' (L2.upd HF d3 (.lst (ns.map V.int))) dd (.lst [.ref d1, .ref d2, .ref d3])
  have e9T := eEF.trans (eG.trans eI)
  generalize L2.upd (L2.upd HF d3 (.lst (ns.map V.int))) dd (.lst [.ref d1, .ref d2, .ref d3]) = HT at b1 b2 b3 bd e9T ⊢
  clear eG eI hdd hd3 gF eF eEF gE eE hd1 hd2
  have e0T := e09.trans e9T
  have vT := ValI.same v9 e9T
  have wT := VAt.same v e0T
  -- told twice
  refine ⟨2, rfl, by decide, by decide, ?_⟩
  refine for_range (n := 2) (fun i σ Hc => (∃ y5 y7 y8, σ = [some (.ref a), some (.ref t), y0, some (.ref hh), some (.ref x), y5, some (.ref dd), y7, y8, none]) ∧ Same HT Hc) ⟨⟨_, _, _, rfl⟩, Same.refl _⟩ ?_ ?_
  · rintro i σ Hc hi ⟨⟨y5, y7, y8, rfl⟩, k1⟩
    have vc := ValI.same vT k1
    obtain ⟨xd, xf, x0, x1, x2, x3, xn⟩ := vc.ins
    have no1 : xf.lookup ("houses" : Str) = none := xn _ (by decide) (by decide) (by decide) (by decide) (by decide) (by decide)
    have no2 : xf.lookup ("roads" : Str) = none := xn _ (by decide) (by decide) (by decide) (by decide) (by decide) (by decide)
    have no3 : xf.lookup ("heads" : Str) = none := xn _ (by decide) (by decide) (by decide) (by decide) (by decide) (by decide)
    refine ⟨_, rfl, x, xd, xf, rfl, x0, no1, x, w1, w2, w3, qs', ss, rs, ns, rfl, vc, fun h1 hh1 => ?_⟩
    have s1 := K1.Same.upd (H := Hc) (p := h1) (o := .lst (ss.map V.str)) hh1
    have c1 := upd_same' Hc h1 (.lst (ss.map V.str))
    generalize L2.upd Hc h1 (.lst (ss.map V.str)) = Hd at s1 c1 ⊢
    refine ⟨_, rfl, x, xd, xf, rfl, s1 _ _ x0, no2, x, w1, w2, w3, qs', ss, rs, ns, rfl, ValI.same vc s1, fun h2 hh2 => ?_⟩
    have s2 := K1.Same.upd (H := Hd) (p := h2) (o := .lst (qs'.map V.ref)) hh2
    have c2 := upd_same' Hd h2 (.lst (qs'.map V.ref))
    generalize L2.upd Hd h2 (.lst (qs'.map V.ref)) = He at s2 c2 ⊢
    refine ⟨_, rfl, x, xd, xf, rfl, s2 _ _ (s1 _ _ x0), no3, x, w1, w2, w3, qs', ss, rs, ns, rfl, ValI.same vc (s1.trans s2), fun h3 hh3 => ⟨(by show 3 ≤ sizeLine; decide), fun tl htl => ?_⟩⟩
    have s3 := K1.Same.upd (H := He) (p := h3) (o := .lst (ns.map V.int)) hh3
    have c3 := upd_same' He h3 (.lst (ns.map V.int))
    generalize L2.upd He h3 (.lst (ns.map V.int)) = Hf at s3 c3 htl ⊢
    have s4 := K1.Same.upd (H := Hf) (p := tl) (o := .lst [.ref h1, .ref h2, .ref h3]) htl
    have c4 := upd_same' Hf tl (.lst [.ref h1, .ref h2, .ref h3])
    have t1 : h1 ≠ tl := ne_of_none (s3 _ _ (s2 _ _ c1)) htl
    have t2 : h2 ≠ tl := ne_of_none (s3 _ _ c2) htl
    have t3 : h3 ≠ tl := ne_of_none c3 htl
    have c1' := s4 _ _ (s3 _ _ (s2 _ _ c1))
    have c2' := s4 _ _ (s3 _ _ c2)
    have c3' := s4 _ _ c3
    have n1 : Hc h1 = none := hh1
    have n2 : Hc h2 = none := s1.free hh2
    have n3 : Hc h3 = none := (s1.trans s2).free hh3
    have sg := s1.trans (s2.trans (s3.trans s4))
    generalize L2.upd Hf tl (.lst [.ref h1, .ref h2, .ref h3]) = Hg at c1' c2' c3' c4 sg ⊢
    have same : R4 Hg (.ref tl) (.ref dd) := r_lists c4 (sg _ _ (k1 _ _ bd)) (by show 3 ≤ 100; decide) (.cons (r_lists c1' (sg _ _ (k1 _ _ b1)) (by rw [List.length_map]; omega) (r_strs ss)) (.cons (r_lists c2' (sg _ _ (k1 _ _ b2)) (by rw [List.length_map, vc.pr.length]; omega) (r_pairs (TupP.ext vc.pr sg) (TupP.ext wT.pr (k1.trans sg)))) (.cons (r_lists c3' (sg _ _ (k1 _ _ b3)) (by rw [List.length_map, ok.nl]; omega) (r_ints ns)) .nil)))
    refine ⟨_, rfl, _, rfl, .ref tl, .ref dd, rfl, same, fun Hh sh => ⟨_, rfl, iteF ?_⟩⟩
    have sc := sg.trans sh
    have c4' := sh _ _ c4
    refine ⟨_, rfl, tl, rfl, ⟨_, SqL.of c4'⟩, ?_⟩
    refine for_it walk_list (fun j σ Hj => (∃ y5, σ = [some (.ref a), some (.ref t), y0, some (.ref hh), some (.ref x), y5, some (.ref dd), some (.int (0 + (i : Int))), some (.ref tl), none]) ∧ KeptZ (fun b => b = h1 ∨ b = h2 ∨ b = h3) Hh Hj ∧ ∀ z, (z = h1 ∨ z = h2 ∨ z = h3) → ∃ xs, Hj z = some (.lst xs) ∧ xs.length ≤ 100 + j)
      ⟨⟨_, rfl⟩, KeptZ.refl, fun z hz => ?_⟩ (fun j σ Hj _ h => SqL.of (h.2.1 _ _ (fun z => z.elim (fun e => t1 e.symm) fun z => z.elim (fun e => t2 e.symm) fun e => t3 e.symm) c4')) ?_ ?_
    · rcases hz with rfl | rfl | rfl
      · exact ⟨_, sh _ _ c1', by rw [List.length_map]; omega⟩
      · exact ⟨_, sh _ _ c2', by rw [List.length_map, vc.pr.length]; omega⟩
      · exact ⟨_, sh _ _ c3', by rw [List.length_map, ok.nl]; omega⟩
    · rintro j y σ Hj H' hj ⟨⟨y6, rfl⟩, m1, m2⟩ ⟨rfl, hy⟩
      have hj3 : j < 3 := hj
      obtain ⟨z, hz, rfl⟩ : ∃ z, (z = h1 ∨ z = h2 ∨ z = h3) ∧ y = .ref z := by
        have := List.mem_of_getElem? hy
        simp only [List.mem_cons, List.not_mem_nil, or_false] at this
        rcases this with rfl | rfl | rfl
        · exact ⟨h1, .inl rfl, rfl⟩
        · exact ⟨h2, .inr (.inl rfl), rfl⟩
        · exact ⟨h3, .inr (.inr rfl), rfl⟩
      obtain ⟨xs, hx, hl⟩ := m2 z hz
      refine ⟨_, rfl, .inl ⟨rfl, _, SqL.of hx⟩, z, xs, _, rfl, rfl, hx, small1000 (by omega), ⟨_, rfl⟩, m1.trans (KeptZ.upd hz), fun z' hz' => ?_⟩
      by_cases e : z' = z
      · subst e
        exact ⟨_, upd_same, by rw [List.length_append]; simp; omega⟩
      · obtain ⟨xs', hx', hl'⟩ := m2 z' hz'
        exact ⟨xs', by rw [upd_ne e]; exact hx', by omega⟩
    · rintro σ Hj ⟨⟨y6, rfl⟩, m1, m2⟩
      refine ⟨⟨_, _, _, rfl⟩, fun b o e => ?_⟩
      have ec := k1 b o e
      refine m1 b o (fun z => ?_) (sc b o ec)
      rcases z with rfl | rfl | rfl
      · rw [n1] at ec; cases ec
      · rw [n2] at ec; cases ec
      · rw [n3] at ec; cases ec
  rintro σ HU ⟨⟨y5, y7, y8, rfl⟩, kU⟩
  have vU := ValI.same vT kU
  have wU := VAt.same wT kU
  have e0U := e0T.trans kU
  -- the same valley, by names
  have tyx : ∀ {Hx : Hp} {z m1 m2 m3 : Addr} {qz : List Addr}, ValI C Hx z m1 m2 m3 qz ss rs ns → TyF K Hx (.ref z) (.ref C) := fun {Hx z m1 m2 m3 qz} vz => by
    obtain ⟨dz, fz, iz, _⟩ := vz.ins
    exact .inl (.base (.ins iz TE.cl TE.ha TE.hn TE.htk TE.hm))
  have dec : (decide (ss = ss ∧ rs = rs ∧ ns = ns)) = true := decide_eq_true ⟨rfl, rfl, rfl⟩
  refine ⟨_, rfl, t, _, _, _, rfl, rfl, SqT.of wU.t0, i2, _, rfl, t, _, _, _, rfl, rfl, SqT.of wU.t0, i1, _, rfl, t, _, _, _, rfl, rfl, SqT.of wU.t0, i0, rfl, rfl, fun u du nu ndu neu => ?_⟩
  refine made_of ok (hs.same e0U) (Kept.same e0U) hs.kept nu ndu ⟨p1, rfl, .inl wU.h1⟩ ⟨qs.map V.ref, ⟨p2, rfl, .inl wU.h2⟩, map_paired (paired_imp (fun m r h => ⟨m, rfl, .inr h⟩) wU.pr)⟩ ⟨p3, rfl, .inl wU.h3⟩ fun m1 m2 m3 qu HV kV sV vV f1' f2' f3' f4' eUV => ⟨rfl, ?_⟩
  have vX := ValI.same vU eUV
  obtain ⟨dv, fv, iv, _⟩ := vV.ins
  refine ⟨_, rfl, u, dv, fv, .ref C, rfl, iv, tyx vX, VX.nf, u, m1, m2, m3, qu, ss, rs, ns, .ref x, rfl, vV, ok.gv, .inr ⟨x, w1, w2, w3, qs', ss, rs, ns, rfl, vX, ok.gv, _, rfl, ?_⟩⟩
  rw [dec]
  have e0V := e0U.trans eUV
  refine ⟨_, rfl, _, rfl, a, t, p1, p2, p3, qs, ss, rs, ns, n, rfl, hs.same e0V, by omega, VAt.same v e0V, ok, fun z z1 z2 z3 qz HW kW sW vW _ _ _ => ?_⟩
  have vX2 : ValI C HW x w1 w2 w3 qs' ss rs ns := vX.keptZ (Z := fun b => b = a) (fun b o nb e => kW b o nb e) (xa _ nx) (xa _ f1) (xa _ f2) (xa _ f3) (fun q hq => xa _ (f4 q hq))
  obtain ⟨dw, fw, iw, _⟩ := vW.ins
  refine ⟨_, rfl, z, dw, fw, .ref C, rfl, iw, tyx vX2, VX.nf, z, z1, z2, z3, qz, ss, rs, ns, .ref x, rfl, vW, ok.gv, .inr ⟨x, w1, w2, w3, qs', ss, rs, ns, rfl, vX2, ok.gv, _, rfl, ?_⟩⟩
  rw [dec]
  refine ⟨(by show 2 ≤ sizeLine; decide), fun fl hfl => ?_⟩
  have eX := K1.Same.upd (H := HW) (p := fl) (o := .lst [.bl (id true), .bl (id true)]) hfl
  have cX := upd_same' HW fl (.lst [.bl (id true), .bl (id true)])
  generalize L2.upd HW fl (.lst [.bl (id true), .bl (id true)]) = HX at eX cX ⊢
  refine ⟨_, rfl, (by show 2 ≤ sizeLine; decide), fun tt htt => ?_⟩
  have eY := K1.Same.upd (H := HX) (p := tt) (o := .lst [.bl true, .bl true]) htt
  refine ⟨.ref fl, .ref tt, rfl, r_lists (eY _ _ cX) upd_same (by show 2 ≤ 100; decide) (.cons (r_bl true) (.cons (r_bl true) .nil)), fun HZ eZ => ?_⟩
  have fin := eX.trans (eY.trans eZ)
  exact q HZ ((Kept.same e0V).trans (kW.trans (Kept.same fin))) ((sW.same fin).mono (by omega))
end
end K1
end
-- KLaw12
section
set_option Elab.async false
set_option linter.all false
set_option maxRecDepth 100000
set_option maxHeartbeats 4000000
namespace K1
open PySem PySem.Spec PyProof.Rows L2
abbrev sER : Stmt := top 40
theorem cut_but {xs : List V} {y : V} : cutV (xs ++ [y]) none (some (-1)) = xs := by
  unfold cutV
  have e : HT.sIx (xs ++ [y]).length (xs ++ [y]).length (some (-1)) = xs.length := by
    show (if (-1 : Int) < 0 then ((-1 : Int) + (((xs ++ [y]).length : Nat) : Int)).toNat else min (-1 : Int).toNat (xs ++ [y]).length) = _
    rw [if_pos (by decide), List.length_append, List.length_singleton]
    omega
  rw [e, HT.sIx_none, List.drop_zero, Nat.sub_zero, List.take_left]
theorem cut_from1 {xs : List V} : cutV xs (some 1) none = xs.drop 1 := by
  unfold cutV
  have e : HT.sIx xs.length 0 (some 1) = min 1 xs.length := HT.sIx_nat xs.length 0 1
  rw [e, HT.sIx_none]
  cases xs with
  | nil => rfl
  | cons x r =>
    have : min 1 (x :: r).length = 1 := by rw [List.length_cons]; omega
    rw [this, List.drop_one, List.tail_cons, List.length_cons, Nat.add_sub_cancel, List.take_length]
theorem cut_to1 {xs : List V} : cutV xs none (some 1) = xs.take 1 := cut_to xs 1
theorem rot_ne {α : Type} {l : List α} (nd : l.Nodup) (h : 2 ≤ l.length) : l ≠ l.drop 1 ++ l.take 1 := by
  match l, h with
  | x :: y :: r, _ =>
    intro e
    have : x = y := by
      have := congrArg List.head? e
      simpa using this
    rw [this] at nd
    simp at nd
theorem rot_perm {α : Type} (l : List α) : (l.drop 1 ++ l.take 1).Perm l := (List.perm_append_comm).trans (List.Perm.of_eq (List.take_append_drop 1 l))
theorem Paired.drop {α β : Type} {F : α → β → Prop} : ∀ {xs : List α} {ys : List β} (k : Nat), Paired F xs ys → Paired F (xs.drop k) (ys.drop k)
  | _, _, 0, h => h
  | _, _, k + 1, .nil => by rw [List.drop_nil, List.drop_nil]; exact .nil
  | _, _, k + 1, .cons f r => Paired.drop k r
theorem Paired.app {α β : Type} {F : α → β → Prop} : ∀ {xs as : List α} {ys bs : List β}, Paired F xs ys → Paired F as bs → Paired F (xs ++ as) (ys ++ bs)
  | _, _, _, _, .nil, h => h
  | _, _, _, _, .cons f r, h => .cons f (Paired.app r h)
theorem VOk.heads {ss : List Str} {rs : List (Str × Str)} {init : List Int} {h : Int} (ok : VOk ss rs (init ++ [h])) : VOk ss rs (init ++ [h % 7 + 1]) := by
  refine { ok with nl := ?_, ge := fun n hn => ?_ }
  · have := ok.nl
    rw [List.length_append] at this ⊢
    exact this
  · rcases List.mem_append.mp hn with hn | hn
    · exact ok.ge n (List.mem_append.mpr (.inl hn))
    · rw [List.mem_singleton.mp hn]
      omega
theorem VOk.rotN {ss : List Str} {rs : List (Str × Str)} {ns : List Int} (ok : VOk ss rs ns) : VOk (ss.drop 1 ++ ss.take 1) rs ns := by
  have p := rot_perm ss
  exact ⟨ok.good.perm p, by rw [p.length_eq]; exact ok.pos, by rw [p.length_eq]; exact ok.le, ok.cut, fun r hr => ⟨p.mem_iff.mpr (ok.ends r hr).1, p.mem_iff.mpr (ok.ends r hr).2⟩, by rw [p.length_eq]; exact ok.rl, by rw [p.length_eq]; exact ok.nl, ok.ge, fun s hs => ok.nob s (p.mem_iff.mp hs)⟩
theorem VOk.rotR {ss : List Str} {rs : List (Str × Str)} {ns : List Int} (ok : VOk ss rs ns) : VOk ss (rs.drop 1 ++ rs.take 1) ns := by
  have p := rot_perm rs
  exact { ok with cut := ok.cut.perm p, ends := fun r hr => ok.ends r (p.mem_iff.mp hr), rl := by rw [p.length_eq]; exact ok.rl }
theorem VOk.flip {ss : List Str} {init : List (Str × Str)} {e : Str × Str} {ns : List Int} (ok : VOk ss (init ++ [e]) ns) : VOk ss (init ++ [(e.2, e.1)]) ns ∧ e.1 ≠ e.2 := by
  have me : e ∈ init ++ [e] := by simp
  obtain ⟨c, c1, c2⟩ := ok.cut.2 e me
  have ne : e.1 ≠ e.2 := fun z => c1 (by rw [z])
  have nd := List.nodup_append.mp ok.cut.1
  have nin : ¬ e ∈ init := fun h => nd.2.2 e h e (by simp) rfl
  have fne : ((e.2, e.1) : Str × Str) ≠ e := fun z => ne (by have := congrArg Prod.fst z; exact this.symm)
  have fin : ¬ ((e.2, e.1) : Str × Str) ∈ init := fun h => c1 (c2 _ (List.mem_append.mpr (.inl h)) fne).symm
  refine ⟨{ ok with cut := ⟨?_, fun r hr => ?_⟩, ends := fun r hr => ?_, rl := by have := ok.rl; rw [List.length_append] at this ⊢; exact this }, ne⟩
  · refine List.nodup_append.mpr ⟨nd.1, by simp, fun x hx y hy => ?_⟩
    rw [List.mem_singleton.mp hy]
    intro z
    rw [z] at hx
    exact fin hx
  · rcases List.mem_append.mp hr with hr | hr
    · obtain ⟨d, d1, d2⟩ := ok.cut.2 r (List.mem_append.mpr (.inl hr))
      refine ⟨d, d1, fun r' hr' n => ?_⟩
      rcases List.mem_append.mp hr' with hr' | hr'
      · exact d2 r' (List.mem_append.mpr (.inl hr')) n
      · rw [List.mem_singleton.mp hr']
        exact (d2 e me (fun z => nin (by rw [z]; exact hr))).symm
    · rw [List.mem_singleton.mp hr]
      refine ⟨c, fun z => c1 z.symm, fun r' hr' n => ?_⟩
      rcases List.mem_append.mp hr' with hr' | hr'
      · exact c2 r' (List.mem_append.mpr (.inl hr')) (fun z => nin (by rw [← z]; exact hr'))
      · exact absurd (List.mem_singleton.mp hr') n
  · rcases List.mem_append.mp hr with hr | hr
    · exact ok.ends r (List.mem_append.mpr (.inl hr))
    · rw [List.mem_singleton.mp hr]
      exact ⟨(ok.ends e me).2, (ok.ends e me).1⟩
/-- a valley, another one than these -/
def OtherAt (a : Addr) (H : Hp) (ss : List Str) (rs : List (Str × Str)) (ns : List Int) (t : Addr) : Prop := ∃ (p1 p2 p3 : Addr) (qs : List Addr) (ss' : List Str) (rs' : List (Str × Str)) (ns' : List Int), VAt a H t p1 p2 p3 qs ss' rs' ns' ∧ VOk ss' rs' ns' ∧ ¬ (ss = ss' ∧ rs = rs' ∧ ns = ns')
theorem OtherAt.same {a : Addr} {H H' : Hp} {ss : List Str} {rs : List (Str × Str)} {ns : List Int} {t : Addr} (o : OtherAt a H ss rs ns t) (e : Same H H') : OtherAt a H' ss rs ns t := by
  obtain ⟨p1, p2, p3, qs, ss', rs', ns', v, r⟩ := o
  exact ⟨p1, p2, p3, qs, ss', rs', ns', VAt.same v e, r⟩
theorem OtherAt.kept {a : Addr} {H H' : Hp} {ss : List Str} {rs : List (Str × Str)} {ns : List Int} {t : Addr} {n : Nat} (o : OtherAt a H ss rs ns t) (s : Spr H a n) (k : Kept a H H') : OtherAt a H' ss rs ns t := by
  obtain ⟨p1, p2, p3, qs, ss', rs', ns', v, r⟩ := o
  exact ⟨p1, p2, p3, qs, ss', rs', ns', v.kept s k, r⟩
theorem ValI.keptA {C a : Addr} {H H' : Hp} {x l1 l2 l3 : Addr} {qs : List Addr} {ss : List Str} {rs : List (Str × Str)} {ns : List Int} {n : Nat} (v : ValI C H x l1 l2 l3 qs ss rs ns) (s : Spr H a n) (n1 : l1 ≠ a) (n2 : l2 ≠ a) (n3 : l3 ≠ a) (k : Kept a H H') : ValI C H' x l1 l2 l3 qs ss rs ns := by
  obtain ⟨dx, fs, h, r⟩ := id v.ins
  refine v.keptZ (Z := fun b => b = a) (fun b o nb e => k b o nb e) (fun z => ?_) n1 n2 n3 (fun q hq z => ?_)
  · obtain ⟨u, y, w, e, _⟩ := s
    rw [z, e] at h
    cases h
  · obtain ⟨y, _, e⟩ := paired_mem v.pr q hq
    exact s.tup e z
theorem TyF.ext {K : PySem.W.Frag} {H H' : Hp} {x : V} {t : Value} (h : TyF K H x t) (e : Same H H') : TyF K H' x t := h.imp (fun h => TyX.ext h e) id
theorem wo_new {Z : Addr → Prop} {H : Hp} {p : Addr} {o : HO} (hp : H p = none) (z : ¬ Z p) : Same (wo Z H) (wo Z (L2.upd H p o)) ∧ wo Z (L2.upd H p o) p = some o := ⟨wo_same fun b u _ e => K1.Same.upd hp _ _ e, wo_some.mpr ⟨z, upd_same⟩⟩
theorem wo_at {Z : Addr → Prop} {H : Hp} {p : Addr} {o : HO} (z : Z p) : Same (wo Z H) (wo Z (L2.upd H p o)) := wo_same fun b u nb e => by
  rw [upd_ne (fun q => nb (by rw [q]; exact z))]
  exact e
end K1
end
-- KLaw13
section
set_option Elab.async false
set_option linter.all false
set_option maxRecDepth 100000
set_option maxHeartbeats 4000000
namespace K1
open PySem PySem.Spec PyProof.Rows L2
theorem scER : FnScope ["spring", "valley", "made", "names", "roads", "heads", "others", "other", "odds", "odd"] ["spring", "valley"] (defScope sER) := ⟨rfl, rfl, rfl, by decide +kernel, rfl, by decide +kernel, by decide +kernel⟩
structure ErS (C a : Addr) (H : Hp) (n k : Nat) (t p1 p2 p3 x w1 w2 w3 L : Addr) (qs qs' : List Addr) (ss : List Str) (rs : List (Str × Str)) (ns : List Int) (σ : L2.St) (Hc : Hp) : Prop where
  st : σ = [some (.ref a), some (.ref t), some (.ref x), some (.ref p1), some (.ref p2), some (.ref p3), some (.ref L), none, none, none]
  kp : Kept a H Hc
  sp : Spr Hc a (n + 200)
  vx : ValI C (wo (fun b => b = L) Hc) x w1 w2 w3 qs' ss rs ns
  v : VAt a (wo (fun b => b = L) Hc) t p1 p2 p3 qs ss rs ns
  ts : ∃ ts : List Addr, Hc L = some (.lst (ts.map V.ref)) ∧ ts.length ≤ k ∧ ∀ u ∈ ts, OtherAt a (wo (fun b => b = L) Hc) ss rs ns u
theorem ErS.add {C a : Addr} {H : Hp} {n k : Nat} {t p1 p2 p3 x w1 w2 w3 L u : Addr} {qs qs' : List Addr} {ss : List Str} {rs : List (Str × Str)} {ns : List Int} {σ : L2.St} {Hc Hd : Hp} (S : ErS C a H n k t p1 p2 p3 x w1 w2 w3 L qs qs' ss rs ns σ Hc) (e : Same Hc Hd) (LH : H L = none) (La : L ≠ a)
    (ou : OtherAt a (wo (fun b => b = L) Hd) ss rs ns u) : ∃ ts : List Addr, Hd L = some (.lst (ts.map V.ref)) ∧ ts.length ≤ k ∧ ErS C a H n (k + 1) t p1 p2 p3 x w1 w2 w3 L qs qs' ss rs ns σ (L2.upd Hd L (.lst (ts.map V.ref ++ [.ref u]))) := by
  obtain ⟨ts, h1, h2, h3⟩ := S.ts
  have ew : Same (wo (fun b => b = L) Hc) (wo (fun b => b = L) Hd) := wo_same fun b o _ h => e b o h
  have ew2 : ∀ o, Same (wo (fun b => b = L) Hd) (wo (fun b => b = L) (L2.upd Hd L o)) := fun o => wo_at rfl
  refine ⟨ts, e _ _ h1, h2, ⟨S.st, fun b o nb h => ?_, (S.sp.same e).upd La, ValI.same (ValI.same S.vx ew) (ew2 _), VAt.same (VAt.same S.v ew) (ew2 _), ts ++ [u], by rw [upd_same, List.map_append]; rfl, by rw [List.length_append]; simp; omega, fun z hz => ?_⟩⟩
  · rw [upd_ne (ne_of_none h LH)]
    exact e _ _ (S.kp b o nb h)
  · rcases List.mem_append.mp hz with hz | hz
    · exact ((h3 z hz).same ew).same (ew2 _)
    · rw [List.mem_singleton.mp hz]
      exact ou.same (ew2 _)
theorem paired_snoc {α β : Type} {F : α → β → Prop} : ∀ {xs : List α} {ys : List β} {y : β}, Paired F xs (ys ++ [y]) → ∃ xs' x, xs = xs' ++ [x] ∧ Paired F xs' ys ∧ F x y
  | _, [], _, .cons f .nil => ⟨[], _, rfl, .nil, f⟩
  | _, _ :: ys, _, .cons f r => by
    obtain ⟨xs', x, rfl, p, q⟩ := paired_snoc r
    exact ⟨_ :: xs', x, rfl, .cons f p, q⟩
section
variable {P : Program} {w : World} {K : PySem.W.Frag} {mg : Str → Option Value} {base : Heap} {C CH CR CD : Addr}
theorem ok_ER {f fT : Addr} {fd : FuncData} (F : Fun K "_law_equal_right" "_law_equal_right" sER f fd) (B : Bl mg) (man : mg "any" = none) (VX : Vx P w K mg base C CH CR CD)
    (hS : Fx P w K mg base CX0 4 "_law_same" ["found", "due"] (spSm R4)) (hM : Fx P w K mg base CX0 7 "_law_v_made" ["spring", "valley"] (spVM C)) (mT : mg "_law_told_right" = some (.ref fT)) (oT : ∃ o, K.lookup fT = some o ∧ o.cls = .type "function") :
    FnOk P w K mg base CX0 8 f fd ["spring", "valley"] spRight := by
  obtain ⟨fS, fdS, GS, bS, kS, mS⟩ := hS
  obtain ⟨fM, fdM, GM, bM, kM, mM⟩ := hM
  obtain ⟨fe, fde, Ge, he1, he2, be⟩ := VX.eq
  have TE := VX.e
  refine F.ok scER (fun vs H Q E h => ?_) (fun cdv A outer s H vs Q E hr h => ?_)
  · obtain ⟨a, t, p1, p2, p3, qs, ss, rs, ns, n, rfl, _⟩ := h
    rfl
  obtain ⟨a, t, p1, p2, p3, qs, ss, rs, ns, n, rfl, hs, hn, v, ok, q⟩ := h
  have nd := scER.nd
  have hr1 : Room 1 _ := hr.mono (by decide)
  have hr2 : Room 2 _ := hr.mono (by decide)
  have hr4 : Room 4 _ := hr.mono (by decide)
  refine ⟨_, (pss_cons (by exact (ps_asg (pe_tup (pa_cons (pe_call GM hr rfl mM kM bM .nil pass0 (pa_cons (pv 0) (pa_cons (pv 1) pa_nil))) (pa_cons (pe_ix ix_tup (pv 1) pe_int (fun _ _ => rfl)) (pa_cons (pe_ix ix_tup (pv 1) pe_int (fun _ _ => rfl)) (pa_cons (pe_ix ix_tup (pv 1) pe_int (fun _ _ => rfl)) pa_nil))))) (pg_tup rfl (pgs_cons (pg_name (i := 2) nd rfl (.inr rfl)) (pgs_cons (pg_name (i := 3) nd rfl (.inl rfl)) (pgs_cons (pg_name (i := 4) nd rfl (.inl rfl)) (pgs_cons (pg_name (i := 5) nd rfl (.inl rfl)) pgs_nil)))))))
  (pss_cons (by exact (ps_set (i := 6) nd rfl (.inl rfl) (pe_lst (pa_cons (pe_tup (pa_cons (pv 3) (pa_cons (pv 4) (pa_cons (pe_op op_cat (pe_slice sl_list (pv 5) po_none (po_some (pe_un un_neg pe_int))) (pe_lst (pa_cons (pe_op op_add (pe_op op_mod (pe_callTy call_int1 rfl B.int PyProof.Rows.boot_int (pa_cons (pe_ix ix_list (pv 5) (pe_un un_neg pe_int) (fun _ _ => rfl)) pa_nil)) pe_int) pe_int) pa_nil))) pa_nil)))) pa_nil))))
  (C8.pss_cut (by exact (ps_if (pt_cmpR op_gt (pe_callB call_len_seq rfl B.len PySem.boot_len (pa_cons (pv 3) pa_nil)) pe_int (nomark _)) (pss_cons (by exact (ps_expr (pe_bm PySem.F.plainAttrs_list PySem.F.slot_list_append PySem.F.type_list_append mt_append (pv 6) (pa_cons (pe_tup (pa_cons (pe_op op_cat (pe_slice sl_list (pv 3) (po_some pe_int) po_none) (pe_slice sl_list (pv 3) po_none (po_some pe_int))) (pa_cons (pv 4) (pa_cons (pv 5) pa_nil)))) pa_nil))))
  (pss_one (by exact (ps_expr (pe_bm PySem.F.plainAttrs_list PySem.F.slot_list_append PySem.F.type_list_append mt_append (pv 6) (pa_cons (pe_tup (pa_cons (pv 3) (pa_cons (pe_op op_cat (pe_slice sl_list (pv 4) po_none (po_some (pe_un un_neg pe_int))) (pe_lst (pa_cons (pe_back (pe_ix ix_list (pv 4) (pe_un un_neg pe_int) (fun _ _ => rfl))) pa_nil))) (pa_cons (pv 5) pa_nil)))) pa_nil)))))) pss_nil))
  (C8.pss_cut (by exact (ps_if (pt_cmpR op_gt (pe_callB call_len_seq rfl B.len PySem.boot_len (pa_cons (pv 3) pa_nil)) pe_int (nomark _)) (pss_one (by exact (ps_expr (pe_bm PySem.F.plainAttrs_list PySem.F.slot_list_append PySem.F.type_list_append mt_append (pv 6) (pa_cons (pe_tup (pa_cons (pv 3) (pa_cons (pe_op op_cat (pe_slice sl_list (pv 4) (po_some pe_int) po_none) (pe_slice sl_list (pv 4) po_none (po_some pe_int))) (pa_cons (pv 5) pa_nil)))) pa_nil))))) pss_nil))
  (pss_cons (by exact (ps_for PassesOwn.never rfl (by exact pi_list (pv 6)) (pg_name (i := 7) nd rfl (.inl rfl)) (pss_one (by exact (ps_if (pt_not (pt_val (pe_call GS hr4 rfl mS kS bS .nil pass0 (pa_cons (pe_lst (pa_cons (pe_cmpR (op_eqOwn Ge he1 he2 be pass0 hr1) (pv 2) (pe_call GM hr rfl mM kM bM .nil pass0 (pa_cons (pv 0) (pa_cons (pv 7) pa_nil))) (nomark _)) (pa_cons (pe_cmpR (op_neOwn Ge he1 VX.ne TE.hm he2 be pass0 hr2) (pv 2) (pe_call GM hr rfl mM kM bM .nil pass0 (pa_cons (pv 0) (pa_cons (pv 7) pa_nil))) (nomark _)) pa_nil))) (pa_cons (pe_lst (pa_cons pe_bl (pa_cons pe_bl pa_nil))) pa_nil))))) (pss_one (by exact (ps_ret pe_bl))) pss_nil)))))
  (pss_cons (by exact (ps_set (i := 8) nd rfl (.inl rfl) (pe_lst (pa_cons pe_non (pa_cons pe_int (pa_cons pe_str (pa_cons (pv 3) (pa_cons (pe_tup (pa_cons (pv 3) (pa_cons (pv 4) (pa_cons (pv 5) pa_nil)))) (pa_cons pe_dnewK (pa_cons pe_bl (pa_cons (pe_glob (v := .ref fT) rfl mT rfl) pa_nil)))))))))))
  (pss_one (by exact (ps_ret (pe_not (pe_callB (cr_any rfl) rfl man PyProof.Rows.boot_any (pa_cons (pe_lc (own := [("odd", 9)]) (g := gName 9) (tt := tYes) (te := tOp (rOwn K C (spVE K C) E0 id) (tVar 2) (tVar 9)) rfl nd (by exact pi_list (pv 8)) (by exact blkOk_by (N := ["spring", "valley", "made", "names", "roads", "heads", "others", "other", "odds", "odd"]) (sc := defScope sER) (by decide +kernel)) (fun _ _ _ _ _ => by exact (pg_name (i := 9) nd rfl (.inl rfl))) (fun _ _ _ _ _ => by exact pts_nil) (fun _ _ _ _ _ => by exact (pe_cmpR (op_eqOwn Ge he1 he2 be pass0 hr1) (pv 2) (pv 9) (nomark _)))) pa_nil)))))))))))), ?_⟩
  have i0 : atI [V.ref p1, V.ref p2, V.ref p3] 0 = some (.ref p1) := rfl
  have i1 : atI [V.ref p1, V.ref p2, V.ref p3] 1 = some (.ref p2) := rfl
  have i2 : atI [V.ref p1, V.ref p2, V.ref p3] 2 = some (.ref p3) := rfl
  have pl := ok.le
  have lqs : qs.length = rs.length := v.pr.length
  have lrs := ok.rl
  refine ⟨_, rfl, _, rfl, a, t, p1, p2, p3, qs, ss, rs, ns, n, rfl, hs, by omega, v, ok, fun x w1 w2 w3 qs' H1 k1 s1 vx x1 x2 x3 => ?_⟩
  have v1 := v.kept hs k1
  refine ⟨_, rfl, t, _, _, _, rfl, rfl, SqT.of v1.t0, i0, _, rfl, t, _, _, _, rfl, rfl, SqT.of v1.t0, i1, _, rfl, t, _, _, _, rfl, rfl, SqT.of v1.t0, i2, (by show 4 ≤ sizeLine; decide), fun u hu => ⟨u, _, rfl, SqT.of upd_same, rfl, _, _, rfl, _, _, rfl, _, _, rfl, _, _, rfl, rfl, ?_⟩⟩
  have e2 := K1.Same.upd (H := H1) (p := u) (o := .tup [.ref x, .ref p1, .ref p2, .ref p3]) hu
  have k2 : Kept a H (L2.upd H1 u (.tup [.ref x, .ref p1, .ref p2, .ref p3])) := k1.trans (Kept.new hu)
  generalize L2.upd H1 u (.tup [.ref x, .ref p1, .ref p2, .ref p3]) = H2 at e2 k2 ⊢
  have s2 := s1.same e2
  have v2 := VAt.same v1 e2
  have vx2 := ValI.same vx e2
  -- the first other one
  obtain ⟨init, hd, rfl⟩ : ∃ init hd, ns = init ++ [hd] := by
    rcases List.eq_nil_or_concat ns with e | ⟨i, l, e⟩
    · have := ok.nl
      have := ok.pos
      rw [e] at *
      simp at *
      omega
    · exact ⟨i, l, by rw [e, List.concat_eq_append]⟩
  have lin : init.length + 1 ≤ 60 := by have := ok.nl; rw [List.length_append] at this; simp at this; omega
  have hpos : 1 ≤ hd := ok.ge hd (by simp)
  have ehs : (init ++ [hd]).map V.int = init.map V.int ++ [V.int hd] := by rw [List.map_append]; rfl
  have h23 := v2.h3
  rw [ehs] at h23
  refine ⟨_, rfl, _, rfl, _, rfl, _, rfl, _, rfl, p3, _, rfl, SqL.of h23, fun c1 hc1 => ?_⟩
  have e3 := K1.Same.upd (H := H2) (p := c1) (o := .lst (cutV (init.map V.int ++ [V.int hd]) none (some (-1)))) hc1
  have g1 := upd_same' H2 c1 (.lst (cutV (init.map V.int ++ [V.int hd]) none (some (-1))))
  have a1 := s2.ne hc1
  generalize L2.upd H2 c1 (.lst (cutV (init.map V.int ++ [V.int hd]) none (some (-1)))) = H3 at e3 g1 ⊢
  rw [cut_but] at g1
  refine ⟨_, rfl, _, rfl, p3, _, _, _, rfl, rfl, SqL.of (e3 _ _ h23), atI_last _ _, .inl ⟨_, rfl, _, _, rfl, rfl, (by show (0 : Int) < 7; decide), _, _, rfl, rfl, (by show 1 ≤ sizeLine; decide), fun c2 hc2 => ?_⟩⟩
  have e4 := K1.Same.upd (H := H3) (p := c2) (o := .lst [.int (hd % 7 + 1)]) hc2
  have g2 := upd_same' H3 c2 (.lst [.int (hd % 7 + 1)])
  have g14 := e4 _ _ g1
  generalize L2.upd H3 c2 (.lst [.int (hd % 7 + 1)]) = H4 at e4 g2 g14 ⊢
  refine ⟨c1, c2, _, _, rfl, rfl, g14, g2, Nat.le_trans (show _ ≤ 1000 by rw [List.length_map]; simp; omega) (by decide), fun c3 hc3 => ⟨(by show 3 ≤ sizeLine; decide), fun u1 hu1 => ⟨(by show 1 ≤ sizeLine; decide), fun L hL => ?_⟩⟩⟩
  have e5 := K1.Same.upd (H := H4) (p := c3) (o := .lst (init.map V.int ++ [.int (hd % 7 + 1)])) hc3
  have g3 := upd_same' H4 c3 (.lst (init.map V.int ++ [.int (hd % 7 + 1)]))
  have e25 := e3.trans (e4.trans e5)
  have a3 : c3 ≠ a := (s2.same (e3.trans e4)).ne hc3
  generalize L2.upd H4 c3 (.lst (init.map V.int ++ [.int (hd % 7 + 1)])) = H5 at e5 g3 e25 hu1 hL ⊢
  have e6 := K1.Same.upd (H := H5) (p := u1) (o := .tup [.ref p1, .ref p2, .ref c3]) hu1
  have g4 := upd_same' H5 u1 (.tup [.ref p1, .ref p2, .ref c3])
  have g36 := e6 _ _ g3
  generalize L2.upd H5 u1 (.tup [.ref p1, .ref p2, .ref c3]) = H6 at e6 g4 g36 hL ⊢
  have e26 := e25.trans e6
  have v6 := VAt.same v2 e26
  have o6 : OtherAt a H6 ss rs (init ++ [hd]) u1 := ⟨p1, p2, c3, qs, ss, rs, init ++ [hd % 7 + 1], ⟨g4, v6.h1, v6.h2, v6.pr, by rw [g36, List.map_append]; rfl, v6.n1, v6.n2, a3⟩, ok.heads, fun z => by
    have := List.append_cancel_left z.2.2
    have := List.head_eq_of_cons_eq this
    omega⟩
  have LH6 : H6 L = none := hL
  have La : L ≠ a := (s2.same e26).ne LH6
  have LH : H L = none := fr_kept (k2.trans (Kept.same e26)) LH6 La
  have sw : Same H6 (wo (fun b => b = L) (L2.upd H6 L (.lst [.ref u1]))) := fun b o h => wo_some.mpr ⟨ne_of_none h LH6, K1.Same.upd LH6 _ _ h⟩
  have S0 : ErS C a H n 1 t p1 p2 p3 x w1 w2 w3 L qs qs' ss rs (init ++ [hd]) [some (.ref a), some (.ref t), some (.ref x), some (.ref p1), some (.ref p2), some (.ref p3), some (.ref L), none, none, none] (L2.upd H6 L (.lst [.ref u1])) :=
    ⟨rfl, (k2.trans (Kept.same e26)).trans (Kept.new LH6), (s2.same e26).upd La, ValI.same (ValI.same vx2 e26) sw, VAt.same v6 sw, [u1], upd_same, Nat.le_refl 1, fun z hz => by rw [List.mem_singleton.mp hz]; exact o6.same sw⟩
  generalize L2.upd H6 L (.lst [.ref u1]) = H7 at S0 ⊢
  clear e26 e25 e6 e5 e4 e3 sw o6 v6 g36 g14 LH6 hL hu1 hc3 hc2 hc1 vx2 v2 s2 k2 e2 h23
  have len1 : ∀ {Hc : Hp} {k : Nat} {σ : L2.St}, ErS C a H n k t p1 p2 p3 x w1 w2 w3 L qs qs' ss rs (init ++ [hd]) σ Hc → SqL K Hc p1 (ss.map V.str) := fun S => SqL.of (wo_some.mp S.v.h1).2
  -- more than one house
  refine ⟨fun σ' H' => ErS C a H n 3 t p1 p2 p3 x w1 w2 w3 L qs qs' ss rs (init ++ [hd]) σ' H', ?_, fun σ' H' S => ?_⟩
  · refine ⟨_, rfl, p1, _, rfl, .inl (len1 S0), _, _, rfl, rfl, _, rfl, ?_⟩
    refine ite2 (fun c => ?_) (fun c => ?_)
    · have two : 2 ≤ ss.length := by
        have : (((ss.map V.str).length : Nat) : Int) > 1 := of_decide_eq_true c
        rw [List.length_map] at this
        omega
      obtain ⟨ts0, hL0, _⟩ := S0.ts
      refine ⟨_, rfl, .inl ⟨rfl, _, SqL.of hL0⟩, _, rfl, _, rfl, p1, _, rfl, len1 S0, fun b1 hb1 => ?_⟩
      have A1 := wo_new (Z := fun b => b = L) (o := .lst (cutV (ss.map V.str) (some 1) none)) hb1 (ne_of_none hL0 hb1).symm
      have E1 := K1.Same.upd (H := H7) (p := b1) (o := .lst (cutV (ss.map V.str) (some 1) none)) hb1
      generalize L2.upd H7 b1 (.lst (cutV (ss.map V.str) (some 1) none)) = J1 at A1 E1 ⊢
      refine ⟨_, rfl, _, rfl, p1, _, rfl, Same.seq E1 (len1 S0), fun b2 hb2 => ?_⟩
      have A2 := wo_new (Z := fun b => b = L) (o := .lst (cutV (ss.map V.str) none (some 1))) hb2 (ne_of_none (E1 _ _ hL0) hb2).symm
      have E2 := K1.Same.upd (H := J1) (p := b2) (o := .lst (cutV (ss.map V.str) none (some 1))) hb2
      generalize L2.upd J1 b2 (.lst (cutV (ss.map V.str) none (some 1))) = J2 at A2 E2 ⊢
      refine ⟨b1, b2, _, _, rfl, rfl, (wo_some.mp (A2.1 _ _ A1.2)).2, (wo_some.mp A2.2).2, ?_, fun b3 hb3 => ?_⟩
      · have l1 := cutV_length (ss.map V.str) (some 1) none
        have l2 := cutV_length (ss.map V.str) none (some 1)
        rw [List.length_map] at l1 l2
        exact Nat.le_trans (show _ ≤ 1000 by omega) (by decide)
      have E12 := E1.trans E2
      have A3 := wo_new (Z := fun b => b = L) (o := .lst (cutV (ss.map V.str) (some 1) none ++ cutV (ss.map V.str) none (some 1))) hb3 (ne_of_none (E12 _ _ hL0) hb3).symm
      have E3 := K1.Same.upd (H := J2) (p := b3) (o := .lst (cutV (ss.map V.str) (some 1) none ++ cutV (ss.map V.str) none (some 1))) hb3
      have a3' := (S0.sp.same E12).ne hb3
      have ec : cutV (ss.map V.str) (some 1) none ++ cutV (ss.map V.str) none (some 1) = (ss.drop 1 ++ ss.take 1).map V.str := by rw [cut_from1, cut_to1, List.map_append, List.map_drop, List.map_take]
      generalize L2.upd J2 b3 (.lst (cutV (ss.map V.str) (some 1) none ++ cutV (ss.map V.str) none (some 1))) = J3 at A3 E3 ⊢
      rw [ec] at A3
      refine ⟨_, rfl, _, rfl, (by show 3 ≤ sizeLine; decide), fun u2 hu2 => ?_⟩
      have E13 := E12.trans E3
      have A4 := wo_new (Z := fun b => b = L) (o := .tup [.ref b3, .ref p2, .ref p3]) hu2 (ne_of_none (E13 _ _ hL0) hu2).symm
      have E4 := E13.trans (K1.Same.upd (H := J3) (p := u2) (o := .tup [.ref b3, .ref p2, .ref p3]) hu2)
      generalize L2.upd J3 u2 (.tup [.ref b3, .ref p2, .ref p3]) = J4 at A4 E4 ⊢
      have vv := VAt.same S0.v (A1.1.trans (A2.1.trans (A3.1.trans A4.1)))
      have ou : OtherAt a (wo (fun b => b = L) J4) ss rs (init ++ [hd]) u2 := ⟨b3, p2, p3, qs, _, rs, _, ⟨A4.2, A4.1 _ _ A3.2, vv.h2, vv.pr, vv.h3, a3', vv.n2, vv.n3⟩, ok.rotN, fun z => rot_ne ok.good.1 two z.1⟩
      obtain ⟨ts1, hL1, lt1, S1⟩ := S0.add E4 LH La ou
      refine ⟨L, ts1.map V.ref, _, rfl, rfl, hL1, by rw [List.length_map]; exact small1000 (by omega), ?_⟩
      generalize L2.upd J4 L (.lst (ts1.map V.ref ++ [.ref u2])) = H8 at S1 ⊢
      clear ou vv A4 A3 A2 A1 E4 E13 E12 hu2 hb3 hb2 hb1 hL1 hL0
      -- the last road turned about
      obtain ⟨rinit, re, rfl⟩ : ∃ rinit re, rs = rinit ++ [re] := by
        rcases List.eq_nil_or_concat rs with e | ⟨i, l, e⟩
        · rw [e] at lrs
          simp at lrs
          omega
        · exact ⟨i, l, by rw [e, List.concat_eq_append]⟩
      obtain ⟨qi, qe, rfl, pri, pre⟩ := paired_snoc S1.v.pr
      obtain ⟨ts0, hL0, _⟩ := S1.ts
      have eqs : (qi ++ [qe]).map V.ref = qi.map V.ref ++ [V.ref qe] := by rw [List.map_append]; rfl
      have q2 : H8 p2 = some (.lst (qi.map V.ref ++ [V.ref qe])) := by rw [← eqs]; exact (wo_some.mp S1.v.h2).2
      have qe8 : H8 qe = some (.tup [.str re.1, .str re.2]) := (wo_some.mp pre).2
      have lqi : qi.length + 1 ≤ 60 := by rw [List.length_append] at lqs lrs; simp at lqs lrs; omega
      refine ⟨_, rfl, .inl ⟨rfl, _, SqL.of hL0⟩, _, rfl, _, rfl, _, rfl, _, rfl, p2, _, rfl, SqL.of q2, fun b1 hb1 => ?_⟩
      have A1 := wo_new (Z := fun b => b = L) (o := .lst (cutV (qi.map V.ref ++ [V.ref qe]) none (some (-1)))) hb1 (ne_of_none hL0 hb1).symm
      have E1 := K1.Same.upd (H := H8) (p := b1) (o := .lst (cutV (qi.map V.ref ++ [V.ref qe]) none (some (-1)))) hb1
      generalize L2.upd H8 b1 (.lst (cutV (qi.map V.ref ++ [V.ref qe]) none (some (-1)))) = J1 at A1 E1 ⊢
      rw [cut_but] at A1
      refine ⟨_, rfl, _, rfl, p2, _, _, _, rfl, rfl, SqL.of (E1 _ _ q2), atI_last _ _, qe, _, _, rfl, SqT.of (E1 _ _ qe8), fun b2 hb2 => ?_⟩
      have A2 := wo_new (Z := fun b => b = L) (o := .tup [.str re.2, .str re.1]) hb2 (ne_of_none (E1 _ _ hL0) hb2).symm
      have E2 := E1.trans (K1.Same.upd (H := J1) (p := b2) (o := .tup [.str re.2, .str re.1]) hb2)
      generalize L2.upd J1 b2 (.tup [.str re.2, .str re.1]) = J2 at A2 E2 ⊢
      refine ⟨(by show 1 ≤ sizeLine; decide), fun b3 hb3 => ?_⟩
      have A3 := wo_new (Z := fun b => b = L) (o := .lst [.ref b2]) hb3 (ne_of_none (E2 _ _ hL0) hb3).symm
      have E3 := E2.trans (K1.Same.upd (H := J2) (p := b3) (o := .lst [.ref b2]) hb3)
      generalize L2.upd J2 b3 (.lst [.ref b2]) = J3 at A3 E3 ⊢
      refine ⟨b1, b3, _, _, rfl, rfl, (wo_some.mp (A3.1 _ _ (A2.1 _ _ A1.2))).2, (wo_some.mp A3.2).2, Nat.le_trans (show _ ≤ 1000 by rw [List.length_map]; simp; omega) (by decide), fun b4 hb4 => ?_⟩
      have A4 := wo_new (Z := fun b => b = L) (o := .lst (qi.map V.ref ++ [.ref b2])) hb4 (ne_of_none (E3 _ _ hL0) hb4).symm
      have E4 := E3.trans (K1.Same.upd (H := J3) (p := b4) (o := .lst (qi.map V.ref ++ [.ref b2])) hb4)
      have a4' := (S1.sp.same E3).ne hb4
      generalize L2.upd J3 b4 (.lst (qi.map V.ref ++ [.ref b2])) = J4 at A4 E4 ⊢
      refine ⟨_, rfl, (by show 3 ≤ sizeLine; decide), fun u3 hu3 => ?_⟩
      have A5 := wo_new (Z := fun b => b = L) (o := .tup [.ref p1, .ref b4, .ref p3]) hu3 (ne_of_none (E4 _ _ hL0) hu3).symm
      have E5 := E4.trans (K1.Same.upd (H := J4) (p := u3) (o := .tup [.ref p1, .ref b4, .ref p3]) hu3)
      generalize L2.upd J4 u3 (.tup [.ref p1, .ref b4, .ref p3]) = J5 at A5 E5 ⊢
      have t25 := A3.1.trans (A4.1.trans A5.1)
      have t15 := A1.1.trans (A2.1.trans t25)
      have vv := VAt.same S1.v t15
      have fl := ok.flip
      have ou : OtherAt a (wo (fun b => b = L) J5) ss (rinit ++ [re]) (init ++ [hd]) u3 := ⟨p1, b4, p3, qi ++ [b2], ss, rinit ++ [(re.2, re.1)], _,
        ⟨A5.2, vv.h1, by rw [List.map_append]; exact A5.1 _ _ A4.2, Paired.app (TupP.ext pri t15) (.cons (t25 _ _ A2.2) .nil), vv.h3, vv.n1, a4', vv.n3⟩, fl.1, fun z => by
          have h2 := List.append_cancel_left z.2.1
          have h3 := List.head_eq_of_cons_eq h2
          exact fl.2 (congrArg Prod.fst h3)⟩
      obtain ⟨ts1, hL1, lt1, S2⟩ := S1.add E5 LH La ou
      exact ⟨L, ts1.map V.ref, _, rfl, rfl, hL1, by rw [List.length_map]; exact small1000 (by omega), S2⟩
    · obtain ⟨b1, b2, b3, b4, b5, ts, c1, c2, c3⟩ := S0
      exact ⟨b1, b2, b3, b4, b5, ts, c1, by omega, c3⟩
  rw [S.st]
  -- more than two houses
  refine ⟨fun σ' H' => ErS C a H n 4 t p1 p2 p3 x w1 w2 w3 L qs qs' ss rs (init ++ [hd]) σ' H', ?_, fun σ2 H2' S2 => ?_⟩
  · refine ⟨_, rfl, p1, _, rfl, .inl (len1 S), _, _, rfl, rfl, _, rfl, ?_⟩
    refine ite2 (fun c => ?_) (fun c => ?_)
    · have three : 3 ≤ ss.length := by
        have : (((ss.map V.str).length : Nat) : Int) > 2 := of_decide_eq_true c
        rw [List.length_map] at this
        omega
      obtain ⟨ts0, hL0, _⟩ := S.ts
      have q2 := (wo_some.mp S.v.h2).2
      refine ⟨_, rfl, .inl ⟨rfl, _, SqL.of hL0⟩, _, rfl, _, rfl, _, rfl, p2, _, rfl, SqL.of q2, fun b1 hb1 => ?_⟩
      have A1 := wo_new (Z := fun b => b = L) (o := .lst (cutV (qs.map V.ref) (some 1) none)) hb1 (ne_of_none hL0 hb1).symm
      have E1 := K1.Same.upd (H := H') (p := b1) (o := .lst (cutV (qs.map V.ref) (some 1) none)) hb1
      generalize L2.upd H' b1 (.lst (cutV (qs.map V.ref) (some 1) none)) = J1 at A1 E1 ⊢
      refine ⟨_, rfl, _, rfl, p2, _, rfl, SqL.of (E1 _ _ q2), fun b2 hb2 => ?_⟩
      have A2 := wo_new (Z := fun b => b = L) (o := .lst (cutV (qs.map V.ref) none (some 1))) hb2 (ne_of_none (E1 _ _ hL0) hb2).symm
      have E2 := E1.trans (K1.Same.upd (H := J1) (p := b2) (o := .lst (cutV (qs.map V.ref) none (some 1))) hb2)
      generalize L2.upd J1 b2 (.lst (cutV (qs.map V.ref) none (some 1))) = J2 at A2 E2 ⊢
      refine ⟨b1, b2, _, _, rfl, rfl, (wo_some.mp (A2.1 _ _ A1.2)).2, (wo_some.mp A2.2).2, ?_, fun b3 hb3 => ?_⟩
      · have l1 := cutV_length (qs.map V.ref) (some 1) none
        have l2 := cutV_length (qs.map V.ref) none (some 1)
        rw [List.length_map] at l1 l2
        exact Nat.le_trans (show _ ≤ 1000 by omega) (by decide)
      have A3 := wo_new (Z := fun b => b = L) (o := .lst (cutV (qs.map V.ref) (some 1) none ++ cutV (qs.map V.ref) none (some 1))) hb3 (ne_of_none (E2 _ _ hL0) hb3).symm
      have E3 := E2.trans (K1.Same.upd (H := J2) (p := b3) (o := .lst (cutV (qs.map V.ref) (some 1) none ++ cutV (qs.map V.ref) none (some 1))) hb3)
      have a3' := (S.sp.same E2).ne hb3
      have ec : cutV (qs.map V.ref) (some 1) none ++ cutV (qs.map V.ref) none (some 1) = (qs.drop 1 ++ qs.take 1).map V.ref := by rw [cut_from1, cut_to1, List.map_append, List.map_drop, List.map_take]
      generalize L2.upd J2 b3 (.lst (cutV (qs.map V.ref) (some 1) none ++ cutV (qs.map V.ref) none (some 1))) = J3 at A3 E3 ⊢
      rw [ec] at A3
      refine ⟨_, rfl, (by show 3 ≤ sizeLine; decide), fun u2 hu2 => ?_⟩
      have A4 := wo_new (Z := fun b => b = L) (o := .tup [.ref p1, .ref b3, .ref p3]) hu2 (ne_of_none (E3 _ _ hL0) hu2).symm
      have E4 := E3.trans (K1.Same.upd (H := J3) (p := u2) (o := .tup [.ref p1, .ref b3, .ref p3]) hu2)
      generalize L2.upd J3 u2 (.tup [.ref p1, .ref b3, .ref p3]) = J4 at A4 E4 ⊢
      have vv := VAt.same S.v (A1.1.trans (A2.1.trans (A3.1.trans A4.1)))
      have ou : OtherAt a (wo (fun b => b = L) J4) ss rs (init ++ [hd]) u2 := ⟨p1, b3, p3, _, ss, rs.drop 1 ++ rs.take 1, _, ⟨A4.2, vv.h1, A4.1 _ _ A3.2, Paired.app (Paired.drop 1 vv.pr) (Paired.take 1 vv.pr), vv.h3, vv.n1, a3', vv.n3⟩, ok.rotR, fun z => rot_ne ok.cut.1 (by omega) z.2.1⟩
      obtain ⟨ts1, hL1, lt1, S1⟩ := S.add E4 LH La ou
      exact ⟨L, ts1.map V.ref, _, rfl, rfl, hL1, by rw [List.length_map]; exact small1000 (by omega), ⟨rfl, S1.kp, S1.sp, S1.vx, S1.v, S1.ts⟩⟩
    · obtain ⟨b1, b2, b3, b4, b5, ts, c1, c2, c3⟩ := S
      exact ⟨rfl, b2, b3, b4, b5, ts, c1, by omega, c3⟩
  obtain ⟨st2, kp2, sp2, vx2, v2, ts, hts, lts, ots⟩ := S2
  rw [st2]
  clear S0 S len1
  have vx3 := ValI.same vx2 wo_out
  have v3 := VAt.same v2 wo_out
  have ot3 : ∀ u ∈ ts, OtherAt a H2' ss rs (init ++ [hd]) u := fun u hu => (ots u hu).same wo_out
  clear ots v2 vx2
  have tyz : ∀ {Hx : Hp} {z m1 m2 m3 : Addr} {qz : List Addr} {ss' : List Str} {rs' : List (Str × Str)} {ns' : List Int}, ValI C Hx z m1 m2 m3 qz ss' rs' ns' → TyF K Hx (.ref z) (.ref C) := fun {Hx z m1 m2 m3 qz ss' rs' ns'} vz => by
    obtain ⟨dz, fz, iz, _⟩ := vz.ins
    exact .inl (.base (.ins iz TE.cl TE.ha TE.hn TE.htk TE.hm))
  refine ⟨_, rfl, L, rfl, ⟨_, SqL.of hts⟩, ?_⟩
  refine for_it walk_list (fun i σ Hc => (∃ y, σ = [some (.ref a), some (.ref t), some (.ref x), some (.ref p1), some (.ref p2), some (.ref p3), some (.ref L), y, none, none]) ∧ Kept a H2' Hc ∧ Spr Hc a (n + 200 + 400 * i)) ⟨⟨_, rfl⟩, Kept.refl, sp2⟩ (fun i σ Hc _ h => SqL.of (h.2.1 _ _ La hts)) ?_ ?_
  · rintro i y σ Hc H' hi ⟨⟨y7, rfl⟩, k3, s3⟩ ⟨rfl, hy⟩
    rw [List.length_map] at hi
    obtain ⟨z, hz, rfl⟩ := List.mem_map.mp (List.mem_of_getElem? hy)
    obtain ⟨o1, o2, o3, oq, oss, ors, ons, ov, ook, one⟩ := (ot3 z hz).kept sp2 k3
    have vx4 := ValI.keptA vx3 sp2 x1 x2 x3 k3
    have dec : decide (ss = oss ∧ rs = ors ∧ init ++ [hd] = ons) = false := decide_eq_false one
    refine ⟨_, rfl, _, rfl, _, rfl, a, z, o1, o2, o3, oq, oss, ors, ons, _, rfl, s3, by omega, ov, ook, fun m m1 m2 m3 mq HW kW sW vW n1 n2 n3 => ?_⟩
    have vx5 := ValI.keptA vx4 s3 x1 x2 x3 kW
    obtain ⟨dx, fx, ix, _⟩ := vx5.ins
    refine ⟨x, dx, fx, .ref C, rfl, ix, tyz vW, VX.nf, x, w1, w2, w3, qs', ss, rs, _, .ref m, rfl, vx5, ok.gv, .inr ⟨m, m1, m2, m3, mq, oss, ors, ons, rfl, vW, ook.gv, _, rfl, ?_⟩⟩
    rw [dec]
    have ov2 := ov.kept s3 kW
    refine ⟨_, rfl, _, rfl, _, rfl, a, z, o1, o2, o3, oq, oss, ors, ons, _, rfl, sW, by omega, ov2, ook, fun r r1 r2 r3 rq HV kV sV vV n4 n5 n6 => ?_⟩
    have vx6 := ValI.keptA vx5 sW x1 x2 x3 kV
    obtain ⟨dx2, fx2, ix2, _⟩ := vx6.ins
    refine ⟨x, dx2, fx2, .ref C, rfl, ix2, tyz vV, VX.nf, x, w1, w2, w3, qs', ss, rs, _, .ref r, rfl, vx6, ok.gv, .inr ⟨r, r1, r2, r3, rq, oss, ors, ons, rfl, vV, ook.gv, _, rfl, ?_⟩⟩
    rw [dec]
    refine ⟨(by show 2 ≤ sizeLine; decide), fun fl hfl => ?_⟩
    have eX := K1.Same.upd (H := HV) (p := fl) (o := .lst [.bl (id false), .bl (!false)]) hfl
    have cX := upd_same' HV fl (.lst [.bl (id false), .bl (!false)])
    generalize L2.upd HV fl (.lst [.bl (id false), .bl (!false)]) = HX at eX cX ⊢
    refine ⟨(by show 2 ≤ sizeLine; decide), fun tt htt => ?_⟩
    have eY := K1.Same.upd (H := HX) (p := tt) (o := .lst [.bl false, .bl true]) htt
    refine ⟨.ref fl, .ref tt, rfl, r_lists (eY _ _ cX) upd_same (by show 2 ≤ 100; decide) (.cons (r_bl false) (.cons (r_bl true) .nil)), fun HZ eZ => ⟨_, rfl, iteF ?_⟩⟩
    have fin := eX.trans (eY.trans eZ)
    exact ⟨⟨_, rfl⟩, k3.trans (kW.trans (kV.trans (Kept.same fin))), (sV.same fin).mono (by omega)⟩
  rintro σ H3' ⟨⟨y7, rfl⟩, k3, s3⟩
  rw [List.length_map] at s3
  have v4 := v3.kept sp2 k3
  have vx4 := ValI.keptA vx3 sp2 x1 x2 x3 k3
  have k03 := kp2.trans k3
  -- what is no valley
  refine ⟨_, rfl, _, rfl, _, rfl, _, rfl, (by show 3 ≤ sizeLine; decide), fun tq htq => ?_⟩
  have eA := K1.Same.upd (H := H3') (p := tq) (o := .tup [.ref p1, .ref p2, .ref p3]) htq
  have gA := upd_same' H3' tq (.tup [.ref p1, .ref p2, .ref p3])
  generalize L2.upd H3' tq (.tup [.ref p1, .ref p2, .ref p3]) = HA at eA gA ⊢
  refine fun dq hdq => ⟨(by show 8 ≤ sizeLine; decide), fun O hO => ?_⟩
  have eB := K1.Same.upd (H := HA) (p := dq) (o := .dK []) hdq
  have gB := upd_same' HA dq (.dK [])
  generalize L2.upd HA dq (.dK []) = HB at eB gB hO ⊢
  have eC := K1.Same.upd (H := HB) (p := O) (o := .lst [.non, .int 5, .str "a", .ref p1, .ref tq, .ref dq, .bl true, .ref fT]) hO
  have gC := upd_same' HB O (.lst [.non, .int 5, .str "a", .ref p1, .ref tq, .ref dq, .bl true, .ref fT])
  have gA' := eC _ _ (eB _ _ gA)
  have gB' := eC _ _ gB
  have eAll := eA.trans (eB.trans eC)
  generalize L2.upd HB O (.lst [.non, .int 5, .str "a", .ref p1, .ref tq, .ref dq, .bl true, .ref fT]) = HC at gA' gB' gC eAll ⊢
  have v5 := VAt.same v4 eAll
  have vx5 := ValI.same vx4 eAll
  have odd : ∀ y ∈ ([.non, .int 5, .str "a", .ref p1, .ref tq, .ref dq, .bl true, .ref fT] : List V), ∃ t, TyF K HC y (.type t) ∧ t ∈ kinds ++ ["function"] := fun y hy => by
    obtain ⟨o, ho, co⟩ := oT
    simp only [List.mem_cons, List.not_mem_nil, or_false] at hy
    rcases hy with rfl | rfl | rfl | rfl | rfl | rfl | rfl | rfl
    · exact ⟨"NoneType", .inl (.base .non), by decide⟩
    · exact ⟨"int", .inl (.base (.int 5)), by decide⟩
    · exact ⟨"str", .inl (.base (.str _)), by decide⟩
    · exact ⟨"list", .inl (.base (.lst v5.h1)), by decide⟩
    · exact ⟨"tuple", .inl (.base (.tup gA')), by decide⟩
    · exact ⟨"dict", .inl (.base (.dK gB')), by decide⟩
    · exact ⟨"bool", .inl (.base (.bl true)), by decide⟩
    · exact ⟨"function", .inr ⟨fT, o, rfl, ho, co, rfl⟩, by decide⟩
  refine ⟨_, rfl, O, rfl, ⟨_, SqL.of gC⟩, fun D hD => ?_⟩
  refine lc_it walk_list (fun i Hc => Same HC Hc ∧ Hc D = some (.lst ((List.replicate i false).map V.bl))) ⟨K1.Same.upd hD, upd_same⟩ (fun i Hc _ h => SqL.of (h.1 _ _ gC)) ?_ ?_
  · rintro i y Hc H' hi ⟨c1, c2⟩ ⟨rfl, hy⟩
    have hi8 : i < 8 := hi
    obtain ⟨ty, t1, t2⟩ := odd y (List.mem_of_getElem? hy)
    have vx6 := ValI.same vx5 c1
    obtain ⟨dx, fx, ix, _⟩ := vx6.ins
    refine ⟨rfl, ?_⟩
    unfold tYes
    refine iteT ⟨_, rfl, _, rfl, x, dx, fx, .type ty, rfl, ix, t1.ext c1, VX.nt ty t2, x, w1, w2, w3, qs', ss, rs, _, y, rfl, vx6, ok.gv, .inl ⟨ty, t1.ext c1, t2, _, rfl, _, c2, by rw [List.length_map, List.length_replicate]; exact small1000 (by omega), fun b o nb => ?_, ?_⟩⟩
    · rw [upd_ne (ne_of_none nb hD)]
      exact c1 b o nb
    · rw [upd_same, List.replicate_succ', List.map_append]
      rfl
  · rintro Hc ⟨c1, c2⟩
    refine ⟨D, _, rfl, SqL.of c2, _, rfl, ?_⟩
    exact q Hc (k03.trans (Kept.same (eAll.trans c1))) ((s3.same (eAll.trans c1)).mono (by omega))
end
end K1
end
-- KNew
section
set_option Elab.async false
set_option linter.all false
set_option maxRecDepth 100000
set_option maxHeartbeats 4000000
namespace K1
open PySem PySem.Spec PyProof.Rows L2
/-! displays: what they make is new, all else stays -/
abbrev PV := Hp → V → Prop
structure Mk1 (t : TE) (σ : L2.St) (P : PV) : Prop where
  mono : ∀ H H' v, Same H H' → P H v → P H' v
  run : ∀ H (Q : VK), (∀ v H', Same H H' → P H' v → Q v H') → t σ H Q
structure MkA (t : TA) (σ : L2.St) (Ps : List PV) : Prop where
  mono : ∀ P ∈ Ps, ∀ H H' v, Same H H' → P H v → P H' v
  run : ∀ H (Q : List V → Hp → Prop), (∀ vs H', Same H H' → Paired (fun v P => P H' v) vs Ps → Q vs H') → t σ H Q
abbrev eqP (x : V) : PV := fun _ v => v = x
def tupP (Ps : List PV) : PV := fun H v => ∃ p xs, v = .ref p ∧ H p = some (.tup xs) ∧ Paired (fun v P => P H v) xs Ps
def lstP (Ps : List PV) : PV := fun H v => ∃ p xs, v = .ref p ∧ H p = some (.lst xs) ∧ Paired (fun v P => P H v) xs Ps
def dicP : PV := fun H v => ∃ p, v = .ref p ∧ H p = some (.dK [])
theorem mk_c {σ : L2.St} (x : V) : Mk1 (tC x) σ (eqP x) := ⟨fun _ _ _ _ h => h, fun H Q q => q x H (Same.refl _) rfl⟩
theorem mk_v {σ : L2.St} {i : Nat} {x : V} (h : σ[i]? = some (some x) := by rfl) : Mk1 (tVar i) σ (eqP x) := ⟨fun _ _ _ _ h => h, fun H Q q => ⟨x, h, q x H (Same.refl _) rfl⟩⟩
theorem mk_nil {σ : L2.St} : MkA tNil σ [] := ⟨fun P h => absurd h (by simp), fun H Q q => q [] H (Same.refl _) .nil⟩
theorem mk_cons {t : TE} {ta : TA} {σ : L2.St} {P : PV} {Ps : List PV} (h1 : Mk1 t σ P) (h2 : MkA ta σ Ps) : MkA (tCons t ta) σ (P :: Ps) := by
  refine ⟨fun P' h => ?_, fun H Q q => h1.run H _ fun v H1 e1 p1 => h2.run H1 _ fun vs H2 e2 p2 => q _ H2 (e1.trans e2) (.cons (h1.mono _ _ _ e2 p1) p2)⟩
  rcases List.mem_cons.mp h with rfl | h
  · exact h1.mono
  · exact h2.mono P' h
theorem paired_mono {H H' : Hp} (e : Same H H') : ∀ {xs : List V} {Ps : List PV}, (∀ P ∈ Ps, ∀ H H' v, Same H H' → P H v → P H' v) → Paired (fun v P => P H v) xs Ps → Paired (fun v P => P H' v) xs Ps
  | _, _, _, .nil => .nil
  | _, _, m, .cons f r => .cons (m _ (List.mem_cons_self ..) _ _ _ e f) (paired_mono e (fun P h => m P (List.mem_cons_of_mem _ h)) r)
theorem mk_tup {ta : TA} {σ : L2.St} {Ps : List PV} (h : MkA ta σ Ps) (l : Ps.length ≤ 1000 := by exact Nat.le_of_ble_eq_true rfl) : Mk1 (tTup ta) σ (tupP Ps) := by
  refine ⟨fun H H' v e ⟨p, xs, a, b, c⟩ => ⟨p, xs, a, e _ _ b, paired_mono e h.mono c⟩, fun H Q q => h.run H _ fun vs H1 e1 p1 => ⟨?_, fun p hp => ?_⟩⟩
  · rw [p1.length]
    exact Nat.le_trans l (by decide)
  · have e := K1.Same.upd (H := H1) (p := p) (o := .tup vs) hp
    exact q _ _ (e1.trans e) ⟨p, vs, rfl, upd_same, paired_mono e h.mono p1⟩
theorem mk_lst {ta : TA} {σ : L2.St} {Ps : List PV} (h : MkA ta σ Ps) (l : Ps.length ≤ 1000 := by exact Nat.le_of_ble_eq_true rfl) : Mk1 (tLst ta) σ (lstP Ps) := by
  refine ⟨fun H H' v e ⟨p, xs, a, b, c⟩ => ⟨p, xs, a, e _ _ b, paired_mono e h.mono c⟩, fun H Q q => h.run H _ fun vs H1 e1 p1 => ⟨?_, fun p hp => ?_⟩⟩
  · rw [p1.length]
    exact Nat.le_trans l (by decide)
  · have e := K1.Same.upd (H := H1) (p := p) (o := .lst vs) hp
    exact q _ _ (e1.trans e) ⟨p, vs, rfl, upd_same, paired_mono e h.mono p1⟩
theorem mk_dict {σ : L2.St} : Mk1 tDNewK σ dicP := ⟨fun H H' v e ⟨p, a, b⟩ => ⟨p, a, e _ _ b⟩, fun H Q q => fun p hp => q _ _ (K1.Same.upd hp) ⟨p, rfl, upd_same⟩⟩
/-! the heap without tables -/
noncomputable def nt (H : Hp) : Hp := fun b => match H b with | some (.tbl _) => none | o => o
theorem nt_some {H : Hp} {b : Addr} {o : HO} : nt H b = some o ↔ H b = some o ∧ ∀ ps, o ≠ .tbl ps := by
  unfold nt
  constructor
  · intro h
    split at h
    · cases h
    · rename_i x y
      refine ⟨h, fun ps z => y ps ?_⟩
      rw [h, z]
  · intro ⟨h, n⟩
    rw [h]
    split
    · rename_i x ps e
      exact absurd (Option.some.inj e) (n ps)
    · rfl
theorem nt_same {H H' : Hp} (e : LamX.ExtN H H') : Same (nt H) (nt H') := fun b o h => by
  obtain ⟨h1, h2⟩ := nt_some.mp h
  exact nt_some.mpr ⟨e b o h1 h2, h2⟩
theorem nt_out {H : Hp} : Same (nt H) H := fun b o h => (nt_some.mp h).1
theorem nt_l {H : Hp} {p : Addr} {xs : List V} (h : H p = some (.lst xs)) : nt H p = some (.lst xs) := nt_some.mpr ⟨h, fun _ z => by cases z⟩
theorem nt_t {H : Hp} {p : Addr} {xs : List V} (h : H p = some (.tup xs)) : nt H p = some (.tup xs) := nt_some.mpr ⟨h, fun _ z => by cases z⟩
theorem tabs_kept {T : List (Addr × Str)} {H H' : Hp} {D : Addr} {xs : List V} (t : LamX.Tabs T H) (hD : H D = some (.lst xs)) (k : Kept D H H') : LamX.Tabs T H' := fun p hp => by
  obtain ⟨ps, h1, h2, h3⟩ := t p hp
  refine ⟨ps, k _ _ (fun z => by rw [z, hD] at h1; cases h1) h1, h2, fun pos cv hc => ?_⟩
  obtain ⟨c, e1, e2⟩ := h3 pos cv hc
  refine ⟨c, e1, k _ _ (fun z => ?_) e2⟩
  rw [z, hD] at e2
  have : HO.lst xs = LamX.CodeO D p.2 := Option.some.inj e2
  unfold LamX.CodeO at this
  cases this
theorem tabs_same {T : List (Addr × Str)} {H H' : Hp} (t : LamX.Tabs T H) (e : Same H H') : LamX.Tabs T H' := t.ext e
/-! what is refused, in a heap that has grown -/
theorem HousesBad.ext {K : PySem.W.Frag} {H H' : Hp} {h : V} {i : Nat} (b : HousesBad K H h i) (e : Same H H') : HousesBad K H' h i := by
  rcases b with ⟨n, q⟩ | ⟨n, q⟩ | ⟨ss, x, r, a1, a2, a3, a4, q⟩
  · exact .inl ⟨n.ext e, q⟩
  · exact .inr (.inl ⟨n.ext e, q⟩)
  · exact .inr (.inr ⟨ss, x, r, a1.ext e, a2, a3, a4.ext e, q⟩)
theorem HousesOk.ext {H H' : Hp} {h : V} {ss : List Str} (b : HousesOk H h ss) (e : Same H H') : HousesOk H' h ss := ⟨b.1.ext e, b.2⟩
theorem RoadsBad.ext {K : PySem.W.Frag} {H H' : Hp} {ss : List Str} {h : V} {i : Nat} (b : RoadsBad K H ss h i) (e : Same H H') : RoadsBad K H' ss h i := by
  rcases b with ⟨n, q⟩ | ⟨vs, rs, tl, a1, a2, a3, a4, q, c⟩
  · exact .inl ⟨n.ext e, q⟩
  · refine .inr ⟨vs, rs, tl, a1.ext e, paired_imp (fun _ _ h => SeqV.ext h e) a2, a3, a4, q, ?_⟩
    rcases c with c | ⟨x, r, c1, c2⟩
    · exact .inl c
    · exact .inr ⟨x, r, c1, c2.ext e⟩
theorem RoadsOk.ext {H H' : Hp} {ss : List Str} {h : V} {rs : List (Str × Str)} (b : RoadsOk H ss h rs) (e : Same H H') : RoadsOk H' ss h rs := by
  obtain ⟨vs, a1, a2, r⟩ := b
  exact ⟨vs, a1.ext e, paired_imp (fun _ _ h => SeqV.ext h e) a2, r⟩
theorem HeadsBad.ext {K : PySem.W.Frag} {H H' : Hp} {ss : List Str} {h : V} {i : Nat} (b : HeadsBad K H ss h i) (e : Same H H') : HeadsBad K H' ss h i := by
  rcases b with ⟨n, q⟩ | ⟨ns, a1, a2⟩ | ⟨ns, x, r, a1, a2, a3, a4, q⟩
  · exact .inl ⟨n.ext e, q⟩
  · exact .inr (.inl ⟨ns, a1.ext e, a2⟩)
  · exact .inr (.inr ⟨ns, x, r, a1.ext e, a2, a3, a4.imp id fun b => b.ext e, q⟩)
/-- these three make no Valley: the class of the error, its index -/
def NoVal (K : PySem.W.Frag) (CH CR CD : Addr) (H : Hp) (h r g : V) (C : Addr) (i : Nat) : Prop :=
  (C = CH ∧ HousesBad K H h i) ∨ (C = CR ∧ ∃ ss, HousesOk H h ss ∧ RoadsBad K H ss r i) ∨ (C = CD ∧ ∃ ss rs, HousesOk H h ss ∧ RoadsOk H ss r rs ∧ HeadsBad K H ss g i)
theorem NoVal.ext {K : PySem.W.Frag} {CH CR CD : Addr} {H H' : Hp} {h r g : V} {C : Addr} {i : Nat} (b : NoVal K CH CR CD H h r g C i) (e : Same H H') : NoVal K CH CR CD H' h r g C i := by
  rcases b with ⟨q, b⟩ | ⟨q, ss, b, c⟩ | ⟨q, ss, rs, b, c, d⟩
  · exact .inl ⟨q, b.ext e⟩
  · exact .inr (.inl ⟨q, ss, b.ext e, c.ext e⟩)
  · exact .inr (.inr ⟨q, ss, rs, b.ext e, c.ext e, d.ext e⟩)
theorem NoVal.sp {K : PySem.W.Frag} {V0 CH CR CD x dx : Addr} {H : Hp} {h r g : V} {C : Addr} {i : Nat} {Q : VK} {E : XK} (b : NoVal K CH CR CD H h r g C i) (nx : H x = none) (ndx : H dx = none) (go : Goes C i H E) : spVI K V0 CH CR CD [.ref x, h, r, g] (L2.upd (L2.upd H dx (.own x)) x (.ins V0 dx [])) Q E := by
  have e := same_make (C := V0) nx ndx
  refine ⟨x, h, r, g, dx, rfl, upd_same, ?_⟩
  rcases b with ⟨rfl, b⟩ | ⟨rfl, ss, b, c⟩ | ⟨rfl, ss, rs, b, c, d⟩
  · exact .inl ⟨i, b.ext e, go.ext e⟩
  · exact .inr (.inl ⟨ss, i, b.ext e, c.ext e, go.ext e⟩)
  · exact .inr (.inr (.inl ⟨ss, rs, i, b.ext e, c.ext e, d.ext e, go.ext e⟩))
end K1
end
-- KLaw14
section
set_option Elab.async false
set_option linter.all false
set_option maxRecDepth 100000
set_option maxHeartbeats 4000000
namespace K1
open PySem PySem.Spec PyProof.Rows L2
abbrev sRR : Stmt := top 42
def tMetNe (K : PySem.W.Frag) (C CH CR CD : Addr) (T : List (Addr × Str)) (nm : Str) (ta : TA) : TE :=
  tOp (rNeD K) (LamX.tLam T (TMet CH CR CD) (fun E => tMake C (spVI K C CH CR CD) [] E ta)) (tTup (tCons (tC (.str nm)) (tCons (tVar 10) tNil)))
def qLam : Str := "_law_refused_right.<locals>." ++ "<lambda>"
/-- the heap without these, and without tables -/
noncomputable def gz (Z : Addr → Prop) (H : Hp) : Hp := wo Z (nt H)
theorem gz_some {Z : Addr → Prop} {H : Hp} {b : Addr} {o : HO} : gz Z H b = some o ↔ ¬ Z b ∧ H b = some o ∧ ∀ ps, o ≠ .tbl ps := by
  unfold gz
  rw [wo_some, nt_some]
theorem gz_same {Z : Addr → Prop} {H H' : Hp} (k : ∀ b o, ¬ Z b → H b = some o → (∀ ps, o ≠ .tbl ps) → H' b = some o) : Same (gz Z H) (gz Z H') := fun b o e => by
  obtain ⟨a1, a2, a3⟩ := gz_some.mp e
  exact gz_some.mpr ⟨a1, k b o a1 a2 a3, a3⟩
theorem gz_le {Z Z' : Addr → Prop} {H : Hp} (k : ∀ b, Z b → Z' b) : Same (gz Z' H) (gz Z H) := fun b o e => by
  obtain ⟨a1, a2, a3⟩ := gz_some.mp e
  exact gz_some.mpr ⟨fun z => a1 (k b z), a2, a3⟩
theorem gz_out {Z : Addr → Prop} {H : Hp} : Same (gz Z H) H := fun b o e => (gz_some.mp e).2.1
theorem gz_nt {Z : Addr → Prop} {H : Hp} : Same (gz Z H) (nt H) := fun b o e => nt_some.mpr (gz_some.mp e).2
def spRR (T : List (Addr × Str)) : Sp := fun vs H Q _ => ∃ (a t p1 p2 p3 : Addr) (qs : List Addr) (ss : List Str) (rs : List (Str × Str)) (ns : List Int) (n : Nat), vs = [.ref a, .ref t] ∧ Spr H a n ∧ n + 3000 ≤ 1000000 ∧ VAt a H t p1 p2 p3 qs ss rs ns ∧ VOk ss rs ns ∧ LamX.Tabs T H ∧
  ∀ H', Same (gz (fun b => b = a) H) (gz (fun b => b = a) H') → Spr H' a (n + 2000) → LamX.Tabs T H' → Q (.bl true) H'
/-! the heap of a question -/
theorem gz_of {H : Hp} {a p : Addr} {n : Nat} {o : HO} (s : Spr H a n) (h : H p = some o) (ne : ∀ x y z : Int, o ≠ .lst [.int x, .int y, .int z]) (nt : ∀ ps, o ≠ .tbl ps) : gz (fun b => b = a) H p = some o := by
  refine gz_some.mpr ⟨fun z => ?_, h, nt⟩
  obtain ⟨x, y, w, e, _⟩ := s
  rw [z, e] at h
  exact ne x y w (Option.some.inj h).symm
theorem gz_tup {H : Hp} {a p : Addr} {n : Nat} {xs : List V} (s : Spr H a n) (h : H p = some (.tup xs)) : gz (fun b => b = a) H p = some (.tup xs) := gz_of s h (fun _ _ _ z => by cases z) (fun _ z => by cases z)
theorem gz_dK {H : Hp} {a p : Addr} {n : Nat} {xs : List (Key × V)} (s : Spr H a n) (h : H p = some (.dK xs)) : gz (fun b => b = a) H p = some (.dK xs) := gz_of s h (fun _ _ _ z => by cases z) (fun _ z => by cases z)
theorem gz_lst {H : Hp} {a p : Addr} {n : Nat} {xs : List V} (s : Spr H a n) (h : H p = some (.lst xs)) (l : xs.length ≠ 3) : gz (fun b => b = a) H p = some (.lst xs) := gz_of s h (fun _ _ _ z => l (by rw [HO.lst.inj z]; rfl)) (fun _ z => by cases z)
theorem VAt.gz {a : Addr} {H : Hp} {t p1 p2 p3 : Addr} {qs : List Addr} {ss : List Str} {rs : List (Str × Str)} {ns : List Int} {n : Nat} (v : VAt a H t p1 p2 p3 qs ss rs ns) (s : Spr H a n) : VAt a (gz (fun b => b = a) H) t p1 p2 p3 qs ss rs ns :=
  ⟨gz_tup s v.t0, gz_some.mpr ⟨v.n1, v.h1, fun _ z => by cases z⟩, gz_some.mpr ⟨v.n2, v.h2, fun _ z => by cases z⟩, paired_imp (fun _ _ e => gz_tup s e) v.pr, gz_some.mpr ⟨v.n3, v.h3, fun _ z => by cases z⟩, v.n1, v.n2, v.n3⟩
structure RF (a t p1 p2 p3 np nr nh : Addr) (qs : List Addr) (ss : List Str) (rs : List (Str × Str)) (ns : List Int) (G : Hp) : Prop where
  v : VAt a G t p1 p2 p3 qs ss rs ns
  n : G np = some (.lst (ss.map V.str))
  r : G nr = some (.lst (qs.map V.ref))
  h : G nh = some (.lst (ns.map V.int))
theorem RF.same {a t p1 p2 p3 np nr nh : Addr} {qs : List Addr} {ss : List Str} {rs : List (Str × Str)} {ns : List Int} {G G' : Hp} (f : RF a t p1 p2 p3 np nr nh qs ss rs ns G) (e : Same G G') : RF a t p1 p2 p3 np nr nh qs ss rs ns G' := ⟨VAt.same f.v e, e _ _ f.n, e _ _ f.r, e _ _ f.h⟩
/-- a pair of what makes no Valley and of its index -/
def OddT (K : PySem.W.Frag) (CH CR CD : Addr) (tri : V → V × V × V) (C0 : Addr) (G : Hp) (u : V) : Prop := ∃ (p : Addr) (v : V) (i : Nat), u = .ref p ∧ G p = some (.tup [v, .int (i : Int)]) ∧ NoVal K CH CR CD G (tri v).1 (tri v).2.1 (tri v).2.2 C0 i
theorem OddT.same {K : PySem.W.Frag} {CH CR CD C0 : Addr} {tri : V → V × V × V} {G G' : Hp} {u : V} (o : OddT K CH CR CD tri C0 G u) (e : Same G G') : OddT K CH CR CD tri C0 G' u := by
  obtain ⟨p, v, i, a, b, c⟩ := o
  exact ⟨p, v, i, a, e _ _ b, c.ext e⟩
abbrev Z2 (a O : Addr) : Addr → Prop := fun b => b = a ∨ b = O
structure OS (K : PySem.W.Frag) (CH CR CD : Addr) (tri : V → V × V × V) (C0 : Addr) (T : List (Addr × Str)) (a O : Addr) (n m : Nat) (G0 : Hp) (Hc : Hp) : Prop where
  kp : Same G0 (gz (Z2 a O) Hc)
  sp : Spr Hc a n
  tb : LamX.Tabs T Hc
  od : ∃ us, Hc O = some (.lst us) ∧ us.length ≤ m ∧ ∀ u ∈ us, OddT K CH CR CD tri C0 (gz (Z2 a O) Hc) u
theorem OS.add {K : PySem.W.Frag} {CH CR CD C0 : Addr} {tri : V → V × V × V} {T : List (Addr × Str)} {a O : Addr} {n m k : Nat} {G0 Hc J : Hp} (S : OS K CH CR CD tri C0 T a O n m G0 Hc) (e : Same Hc J) (Oa : O ≠ a) {vs : List V} (hk : vs.length = k) (hvs : ∀ u ∈ vs, OddT K CH CR CD tri C0 (gz (Z2 a O) J) u) :
    ∃ us, J O = some (.lst us) ∧ us.length ≤ m ∧ OS K CH CR CD tri C0 T a O n (m + k) G0 (L2.upd J O (.lst (us ++ vs))) := by
  obtain ⟨us, h1, h2, h3⟩ := S.od
  have e1 : Same (gz (Z2 a O) Hc) (gz (Z2 a O) J) := gz_same fun b o _ h _ => e b o h
  have e2 : Same (gz (Z2 a O) J) (gz (Z2 a O) (L2.upd J O (.lst (us ++ vs)))) := gz_same fun b o nb h _ => by rw [upd_ne (fun z => nb (.inr z))]; exact h
  refine ⟨us, e _ _ h1, h2, (S.kp.trans e1).trans e2, (S.sp.same e).upd Oa, tabs_kept (tabs_same S.tb e) (e _ _ h1) Kept.upd, us ++ vs, upd_same, by rw [List.length_append, hk]; omega, fun u hu => ?_⟩
  rcases List.mem_append.mp hu with hu | hu
  · exact ((h3 u hu).same e1).same e2
  · exact (hvs u hu).same e2
theorem paired_all {H : Hp} {R : V → Prop} : ∀ {xs : List V} {Ps : List PV}, Paired (fun v P => P H v) xs Ps → (∀ P ∈ Ps, ∀ x, P H x → R x) → ∀ x ∈ xs, R x
  | _, _, .nil, _, x, h => absurd h (by simp)
  | _, _, .cons f r, k, x, h => by
    rcases List.mem_cons.mp h with rfl | h
    · exact k _ (List.mem_cons_self ..) _ f
    · exact paired_all r (fun P hP => k P (List.mem_cons_of_mem _ hP)) x h
theorem tup2 {H : Hp} {v : V} {P1 P2 : PV} (h : tupP [P1, P2] H v) : ∃ p x y, v = .ref p ∧ H p = some (.tup [x, y]) ∧ P1 H x ∧ P2 H y := by
  obtain ⟨p, xs, rfl, hp, q⟩ := h
  cases q with
  | cons a r => cases r with
    | cons b r => cases r; exact ⟨p, _, _, rfl, hp, a, b⟩
theorem cut_from {xs : List V} {k : Nat} : cutV xs (some (k : Int)) none = xs.drop k := by
  unfold cutV
  rw [HT.sIx_none, HT.sIx_nat]
  by_cases h : k ≤ xs.length
  · rw [Nat.min_eq_left h, List.take_of_length_le]
    rw [List.length_drop]
    exact Nat.le_refl _
  · rw [Nat.min_eq_right (by omega), Nat.sub_self, List.take_zero, List.drop_eq_nil_of_le (by omega)]
theorem seq_run {t u : TS} {D : Ends} {σ : L2.St} {H : Hp} (h : t { D with nx := u D } σ H) : tSeq t u D σ H := h
theorem asg_run {te : TE} {g : TG} {D : Ends} {σ : L2.St} {H : Hp} (h : te σ H fun x H1 => g x σ H1 D.nx) : tAsg te g D σ H := h
theorem par_run {i j : Nat} {ta : TA} {D : Ends} {σ : L2.St} {H : Hp} (h : ta σ H fun vs H1 => ∃ v w, vs = [v, w] ∧ D.nx ((σ.set i (some v)).set j (some w)) H1) : tPar i j ta D σ H := h
theorem cons_run {t : TE} {ta : TA} {σ : L2.St} {H : Hp} {Q : List V → Hp → Prop} (h : t σ H fun x H1 => ta σ H1 fun xs H2 => Q (x :: xs) H2) : tCons t ta σ H Q := h
theorem for_run {wi : TI} {g : TG} {tb : TS} {D : Ends} {σ : L2.St} {H : Hp} (h : wi σ H fun J H1 => tFor (fun _ H2 R => R J H2) g tb D σ H1) : tFor wi g tb D σ H := h
theorem itup_run {K : PySem.W.Frag} {tl : TE} {σ : L2.St} {H : Hp} {R : It → Hp → Prop} (h : tl σ H fun x H1 => ∃ a, x = .ref a ∧ (∃ xs, SqT K H1 a xs) ∧ R (Itt K a) H1) : iTup K tl σ H R := h
theorem mk_neg {σ : L2.St} (j : Int) : Mk1 (tUn (rU fun i => .int (-i)) (tC (.int j))) σ (eqP (.int (-j))) := ⟨fun _ _ _ _ h => h, fun H Q q => ⟨j, rfl, q _ H (Same.refl _) rfl⟩⟩
theorem lst_run {ta : TA} {σ : L2.St} {Ps : List PV} {H : Hp} {Q : VK} (m : MkA ta σ Ps) (l : Ps.length ≤ 1000) (q : ∀ us H', Same H H' → Paired (fun v P => P H' v) us Ps → ∀ O, H' O = none → Q (.ref O) (L2.upd H' O (.lst us))) : tLst ta σ H Q :=
  m.run H _ fun us H' e p => ⟨by rw [p.length]; exact Nat.le_trans l (by decide), fun O hO => q us H' e p O hO⟩
theorem tup_run {ta : TA} {σ : L2.St} {Ps : List PV} {H : Hp} {Q : VK} (m : MkA ta σ Ps) (l : Ps.length ≤ 1000) (q : ∀ us H', Same H H' → Paired (fun v P => P H' v) us Ps → ∀ O, H' O = none → Q (.ref O) (L2.upd H' O (.tup us))) : tTup ta σ H Q :=
  m.run H _ fun us H' e p => ⟨by rw [p.length]; exact Nat.le_trans l (by decide), fun O hO => q us H' e p O hO⟩
/-- met(lambda: ..) != (word, due): no -/
theorem ne_met {K : PySem.W.Frag} {C CH CR CD C0 : Addr} {T : List (Addr × Str)} {nm : Str} {ta : TA} {σ : L2.St} {H : Hp} {Q : VK} {h r g : V} {i : Nat} (tb : LamX.Tabs T H) (nv : NoVal K CH CR CD (nt H) h r g C0 i) (wd : Word CH CR CD C0 nm)
    (ht : ∀ (E : XK) (H' : Hp) (Q' : VK), (∀ x dx, H' x = none → H' dx = none → dx ≠ x → spVI K C CH CR CD [.ref x, h, r, g] (L2.upd (L2.upd H' dx (.own x)) x (.ins C dx [])) (fun v H2 => v = .non ∧ Q' (.ref x) H2) E) → tMake C (spVI K C CH CR CD) [] E ta σ H' Q')
    (hd : σ[10]? = some (some (.int (i : Int)))) (snm : PyData.strOk nm = true) (q : ∀ H', LamX.ExtN H H' → LamX.Tabs T H' → Q (.bl false) H') : tMetNe K C CH CR CD T nm ta σ H Q := by
  refine ⟨tb, fun H1 eN T1 => ?_⟩
  unfold TMet
  refine ht _ H1 _ fun x dx nx ndx ne => ?_
  refine (nv.ext ((nt_same eN).trans nt_out)).sp nx ndx fun d H2 e2 nd hx => ?_
  refine ⟨C0, nm, wd, rfl, d, _, rfl, hx, fun p hp => ?_⟩
  have e3 := K1.Same.upd (H := H2) (p := p) (o := .tup [.str nm, .int (i : Int)]) hp
  have g3 := upd_same' H2 p (.tup [.str nm, .int (i : Int)])
  generalize L2.upd H2 p (.tup [.str nm, .int (i : Int)]) = H3 at e3 g3 ⊢
  refine ⟨_, hd, (by show 2 ≤ sizeLine; decide), fun p2 hp2 => ?_⟩
  have e4 := K1.Same.upd (H := H3) (p := p2) (o := .tup [.str nm, .int (i : Int)]) hp2
  have g4 := upd_same' H3 p2 (.tup [.str nm, .int (i : Int)])
  have sh : SeqAt.shaped (.tuple [.str nm, .int (i : Int)]) = true := by
    show ((PyData.strOk nm && (true && true)) && decide (max 0 (max 0 0) + 1 ≤ 64)) = true
    rw [snm]
    rfl
  refine ⟨.tuple [.str nm, .int (i : Int)], .tuple [.str nm, .int (i : Int)], .tup (SqT.of (e4 _ _ g3)) (.cons (.str _) (.cons (.int _) .nil)), .tup (SqT.of g4) (.cons (.str _) (.cons (.int _) .nil)), sh, sh, ?_⟩
  have ev : PyData.eqv (.tuple [.str nm, .int (i : Int)]) (.tuple [.str nm, .int (i : Int)]) = true := by
    show (PyData.eqv (.str nm) (.str nm) && (PyData.eqv (.int (i : Int)) (.int (i : Int)) && true)) = true
    rw [eqv_str, eqv_int, decide_eq_true rfl, decide_eq_true rfl]
    rfl
  rw [ev]
  have e24 := e2.trans (e3.trans e4)
  exact q _ (eN.trans (LamX.ExtN.of e24)) (tabs_same T1 e24)
theorem scRR : FnScope ["spring", "valley", "part", "names", "roads", "heads", "odds", "at", "bad", "odd", "due", "one"] ["spring", "valley"] (defScope sRR) := ⟨rfl, rfl, rfl, by decide +kernel, rfl, by decide +kernel, by decide +kernel⟩
section
variable {P : Program} {w : World} {K : PySem.W.Frag} {mg : Str → Option Value} {base : Heap} {C CH CR CD : Addr}
theorem ok_RR {f c TP fm : Addr} {fdm : FuncData} {oc kV doc pm ct : Value} {od an : Option Addr} {osl : Array (Option Value)} (lk : K.lookup f = some ⟨oc, od, .func (PySem.W.fnOf "_law_refused_right" "_law_refused_right" (defArgs sRR) (defBody sRR) (defScope sRR) .none kV doc pm an (.ref c) ct), osl⟩) (hcd : PySem.W.codeIn K (.ref c) "_law_refused_right" = true)
    (B : Bl mg) (man : mg "any" = none) (VX : Vx P w K mg base C CH CR CD) (MF : MetF K mg CH CR CD) (Fm : Fun K "_law_met" "_law_met" sMet fm fdm) (bm : Binds K fdm ["ask"] []) (mm : mg "_law_met" = some (.ref fm)) (TB : LamX.TabB base mg c TP)
    (hD : Fx P w K mg base CX0 1 "_law_draw" ["spring", "many"] spDraw) (hP : Fx P w K mg base CX0 2 "_law_pick" ["spring", "some"] spPick) (hC : Fx P w K mg base CX0 2 "_law_closing" ["valley", "at"] spCl) :
    FnOk P w K mg base CX0 9 f (PySem.W.fnOf "_law_refused_right" "_law_refused_right" (defArgs sRR) (defBody sRR) (defScope sRR) .none kV doc pm an (.ref c) ct) ["spring", "valley"] (spRR [(TP, qLam)]) := by
  obtain ⟨fD, fdD, GD, bD, kD, mD⟩ := hD
  obtain ⟨fP, fdP, GP, bP, kP, mP⟩ := hP
  obtain ⟨fC, fdC, GC, bC, kC, mC⟩ := hC
  obtain ⟨fV, fdV, MV, GV, bV, bK⟩ := VX.made
  have mV := VX.m
  obtain ⟨ocm, odm, kVm, docm, pmm, anm, cdvm, ctm, oslm, rfl, lkm, hcm⟩ := Fm.ex
  have km := Fm.kp
  have hT : (TP, qLam) ∈ [(TP, qLam)] := List.mem_singleton.mpr rfl
  have hU : ∀ p ∈ [(TP, qLam)], p.1 = TP → p.2 = qLam := fun p hp _ => by rw [List.mem_singleton.mp hp]
  refine fn_of lk hcd scRR (fun vs H Q E h => ?_) (fun A outer s H vs Q E hr8 h => ?_)
  · obtain ⟨a, t, p1, p2, p3, qs, ss, rs, ns, n, rfl, _⟩ := h
    rfl
  obtain ⟨a, t, p1, p2, p3, qs, ss, rs, ns, n, rfl, hs, hn, v, ok, tb, q⟩ := h
  have nd := scRR.nd
  have hr1 : Room 1 _ := hr8.mono (by decide)
  have hr2 : Room 2 _ := hr8.mono (by decide)
  have hu := hr8.units
  suffices hh : ∃ t0, PSs (cxOf CX0 P w K mg base ["spring", "valley", "part", "names", "roads", "heads", "odds", "at", "bad", "odd", "due", "one"] "_law_refused_right" (defScope sRR) f (.ref c) A outer s H E).nox (defBody sRR) t0 ∧ t0 { nx := fun _ H' => Q .non H', rt := Q } (L2.start ["spring", "valley", "part", "names", "roads", "heads", "odds", "at", "bad", "odd", "due", "one"] [.ref a, .ref t]) H by
    obtain ⟨t0, h1, h2⟩ := hh
    exact ⟨t0, h1.nox, h2⟩
  generalize hTT : [(TP, qLam)] = T at hT hU tb q
  refine ⟨_, (pss_cons (by exact (ps_asg (pe_lc (own := [("part", 2)]) (g := gName 2) (tt := tYes) (te := tCB (rLst K) (tCons (tVar 2) tNil)) rfl nd (by exact pi_tup (pv 1)) (by exact blkOk_by (N := ["spring", "valley", "part", "names", "roads", "heads", "odds", "at", "bad", "odd", "due", "one"]) (sc := defScope sRR) (by decide +kernel)) (fun _ _ _ _ _ => by exact (pg_name (i := 2) nd rfl (.inl rfl))) (fun _ _ _ _ _ => by exact pts_nil) (fun _ _ _ _ _ => by exact (pe_callTy call_list_of rfl B.list PyProof.Rows.boot_list (pa_cons (pv 2) pa_nil)))) (pg_lst rfl (pgs_cons (pg_name (i := 3) nd rfl (.inr rfl)) (pgs_cons (pg_name (i := 4) nd rfl (.inr rfl)) (pgs_cons (pg_name (i := 5) nd rfl (.inl rfl)) pgs_nil))))))
  (pss_cons (by exact (ps_par (i := 6) (j := 7) rfl nd rfl rfl (by decide) rfl rfl (pa_cons (pe_lst (pa_cons (pe_tup (pa_cons pe_non (pa_cons pe_int pa_nil))) (pa_cons (pe_tup (pa_cons pe_int (pa_cons pe_int pa_nil))) (pa_cons (pe_tup (pa_cons pe_str (pa_cons pe_int pa_nil))) (pa_cons (pe_tup (pa_cons pe_dnewK (pa_cons pe_int pa_nil))) (pa_cons (pe_tup (pa_cons pe_bl (pa_cons pe_int pa_nil))) (pa_cons (pe_tup (pa_cons (pe_lst pa_nil) (pa_cons pe_int pa_nil))) (pa_cons (pe_tup (pa_cons (pe_tup pa_nil) (pa_cons pe_int pa_nil))) pa_nil)))))))) (pa_cons (pe_call GD hr1 rfl mD kD bD .nil pass0 (pa_cons (pv 0) (pa_cons (pe_op op_add (pe_callB call_len_seq rfl B.len PySem.boot_len (pa_cons (pv 3) pa_nil)) pe_int) pa_nil))) pa_nil)) (by rfl)))
  (pss_cons (by exact (ps_set (i := 8) nd rfl (.inl rfl) (pe_lst (pa_cons pe_non (pa_cons pe_int (pa_cons pe_str (pa_cons pe_str (pa_cons pe_str (pa_cons pe_str (pa_cons pe_str (pa_cons pe_str (pa_cons pe_str (pa_cons pe_str (pa_cons pe_bl (pa_cons (pe_lst (pa_cons pe_str pa_nil)) (pa_cons (pe_tup (pa_cons pe_str pa_nil)) (pa_cons pe_dnewK pa_nil)))))))))))))))))
  (pss_cons (by exact (ps_for PassesOwn.never rfl (by exact pi_list (pe_op op_cat (pv 8) (pe_slice sl_list (pv 3) po_none (po_some (pv 7))))) (pg_name (i := 9) nd rfl (.inl rfl)) (pss_one (by exact (ps_expr (pe_bm PySem.F.plainAttrs_list PySem.F.slot_list_append PySem.F.type_list_append mt_append (pv 6) (pa_cons (pe_tup (pa_cons (pe_op op_cat (pe_op op_cat (pe_slice sl_list (pv 3) po_none (po_some (pv 7))) (pe_lst (pa_cons (pv 9) (pa_cons pe_non pa_nil)))) (pe_slice sl_list (pv 3) (po_some (pv 7)) po_none)) (pa_cons (pv 7) pa_nil))) pa_nil)))))))
  (pss_cons (by exact (ps_if (pt_val (pe_callB (cr_any rfl) rfl man PyProof.Rows.boot_any (pa_cons (pe_lc (own := [("odd", 9), ("due", 10)]) (g := gTup K 2 (gCons (gName 9) (gCons (gName 10) gNil))) (tt := tYes) (te := tMetNe K C CH CR CD T "houses" (tCons (tVar 9) (tCons (tC .non) (tCons (tC .non) tNil)))) rfl nd (by exact pi_list (pv 6)) (by exact blkOk_by (N := ["spring", "valley", "part", "names", "roads", "heads", "odds", "at", "bad", "odd", "due", "one"]) (sc := defScope sRR) (by decide +kernel)) (fun _ _ _ _ _ => by exact (pg_tup rfl (pgs_cons (pg_name (i := 9) nd rfl (.inr rfl)) (pgs_cons (pg_name (i := 10) nd rfl (.inl rfl)) pgs_nil)))) (fun _ _ _ _ _ => by exact pts_nil) (fun _ _ _ _ _ => by exact (pe_cmpR (op_neD hu) (LamX.pe_lamcall (k := 6) (t := fun E => tMake C (spVI K C CH CR CD) [] E (tCons (tVar 9) (tCons (tC .non) (tCons (tC .non) tNil)))) rfl mm km lkm hcm bm scMet rfl (.inl rfl) (met_gives MF) TB rfl hT hU (by exact hr8) (LamX.lamS_by (by with_unfolding_all rfl)) rfl (fun _ _ _ _ _ => rfl) (fun A outer s H E f c' hz => by exact (pe_make MV GV hz rfl mV bV .nil (passes_call (takes_of rfl rfl rfl rfl) (fun _ _ _ _ h => h)) (pa_cons (pv 9) (pa_cons pe_non (pa_cons pe_non pa_nil)))))) (pe_tup (pa_cons pe_str (pa_cons (pv 10) pa_nil))) (nomark _)))) pa_nil))) (pss_one (by exact (ps_ret pe_bl))) pss_nil))
  (pss_cons (by exact (ps_par (i := 6) (j := 7) rfl nd rfl rfl (by decide) rfl rfl (pa_cons (pe_lst (pa_cons (pe_tup (pa_cons pe_non (pa_cons pe_int pa_nil))) (pa_cons (pe_tup (pa_cons pe_int (pa_cons pe_int pa_nil))) (pa_cons (pe_tup (pa_cons pe_str (pa_cons pe_int pa_nil))) (pa_cons (pe_tup (pa_cons pe_dnewK (pa_cons pe_int pa_nil))) (pa_cons (pe_tup (pa_cons pe_bl (pa_cons pe_int pa_nil))) pa_nil)))))) (pa_cons (pe_call GD hr1 rfl mD kD bD .nil pass0 (pa_cons (pv 0) (pa_cons (pe_op op_add (pe_callB call_len_seq rfl B.len PySem.boot_len (pa_cons (pv 4) pa_nil)) pe_int) pa_nil))) pa_nil)) (by rfl)))
  (pss_cons (by exact (ps_set (i := 11) nd rfl (.inl rfl) (pe_call GP hr2 rfl mP kP bP .nil pass0 (pa_cons (pv 0) (pa_cons (pv 3) pa_nil)))))
  (pss_cons (by exact (ps_set (i := 8) nd rfl (.inl rfl) (pe_lst (pa_cons pe_non (pa_cons pe_int (pa_cons pe_str (pa_cons (pe_tup pa_nil) (pa_cons (pe_tup (pa_cons (pv 11) pa_nil)) (pa_cons (pe_tup (pa_cons (pv 11) (pa_cons (pv 11) pa_nil))) (pa_cons (pe_tup (pa_cons pe_str (pa_cons (pv 11) pa_nil))) (pa_cons (pe_tup (pa_cons (pv 11) (pa_cons pe_non pa_nil))) (pa_cons (pe_lst (pa_cons (pv 11) (pa_cons (pe_lst (pa_cons (pv 11) pa_nil)) pa_nil))) (pa_cons (pe_tup (pa_cons (pv 11) (pa_cons pe_str (pa_cons (pv 11) pa_nil)))) (pa_cons pe_dnewK pa_nil))))))))))))))
  (pss_cons (by exact (ps_for PassesOwn.never rfl (by exact pi_list (pe_op op_cat (pe_op op_cat (pv 8) (pe_lst (pa_cons pe_bl pa_nil))) (pe_call GC hr2 rfl mC kC bC .nil pass0 (pa_cons (pv 1) (pa_cons (pv 7) pa_nil))))) (pg_name (i := 9) nd rfl (.inl rfl)) (pss_one (by exact (ps_expr (pe_bm PySem.F.plainAttrs_list PySem.F.slot_list_append PySem.F.type_list_append mt_append (pv 6) (pa_cons (pe_tup (pa_cons (pe_op op_cat (pe_op op_cat (pe_slice sl_list (pv 4) po_none (po_some (pv 7))) (pe_lst (pa_cons (pv 9) (pa_cons pe_non pa_nil)))) (pe_slice sl_list (pv 4) (po_some (pv 7)) po_none)) (pa_cons (pv 7) pa_nil))) pa_nil)))))))
  (C8.pss_cut (by exact (ps_expr (pe_bm PySem.F.plainAttrs_list PySem.F.slot_list_extend PySem.F.type_list_extend mt_extend (pv 6) (pa_cons (pe_ifExp (pt_cmpR (op_neD hu) (pv 4) (pe_lst pa_nil) (nomark _)) (pe_lst (pa_cons (pe_tup (pa_cons (pe_slice sl_list (pv 4) po_none (po_some (pe_un un_neg pe_int))) (pa_cons (pe_op op_sub (pe_callB call_len_seq rfl B.len PySem.boot_len (pa_cons (pv 4) pa_nil)) pe_int) pa_nil))) pa_nil)) (pe_lst pa_nil)) pa_nil))))
  (pss_cons (by exact (ps_if (pt_val (pe_callB (cr_any rfl) rfl man PyProof.Rows.boot_any (pa_cons (pe_lc (own := [("odd", 9), ("due", 10)]) (g := gTup K 2 (gCons (gName 9) (gCons (gName 10) gNil))) (tt := tYes) (te := tMetNe K C CH CR CD T "roads" (tCons (tVar 3) (tCons (tVar 9) (tCons (tC .non) tNil)))) rfl nd (by exact pi_list (pv 6)) (by exact blkOk_by (N := ["spring", "valley", "part", "names", "roads", "heads", "odds", "at", "bad", "odd", "due", "one"]) (sc := defScope sRR) (by decide +kernel)) (fun _ _ _ _ _ => by exact (pg_tup rfl (pgs_cons (pg_name (i := 9) nd rfl (.inr rfl)) (pgs_cons (pg_name (i := 10) nd rfl (.inl rfl)) pgs_nil)))) (fun _ _ _ _ _ => by exact pts_nil) (fun _ _ _ _ _ => by exact (pe_cmpR (op_neD hu) (LamX.pe_lamcall (k := 6) (t := fun E => tMake C (spVI K C CH CR CD) [] E (tCons (tVar 3) (tCons (tVar 9) (tCons (tC .non) tNil)))) rfl mm km lkm hcm bm scMet rfl (.inl rfl) (met_gives MF) TB rfl hT hU (by exact hr8) (LamX.lamS_by (by with_unfolding_all rfl)) rfl (fun _ _ _ _ _ => rfl) (fun A outer s H E f c' hz => by exact (pe_make MV GV hz rfl mV bV .nil (passes_call (takes_of rfl rfl rfl rfl) (fun _ _ _ _ h => h)) (pa_cons (pv 3) (pa_cons (pv 9) (pa_cons pe_non pa_nil)))))) (pe_tup (pa_cons pe_str (pa_cons (pv 10) pa_nil))) (nomark _)))) pa_nil))) (pss_one (by exact (ps_ret pe_bl))) pss_nil))
  (pss_cons (by exact (ps_par (i := 6) (j := 7) rfl nd rfl rfl (by decide) rfl rfl (pa_cons (pe_lst (pa_cons (pe_tup (pa_cons pe_non (pa_cons pe_int pa_nil))) (pa_cons (pe_tup (pa_cons pe_int (pa_cons pe_int pa_nil))) (pa_cons (pe_tup (pa_cons pe_str (pa_cons pe_int pa_nil))) (pa_cons (pe_tup (pa_cons pe_dnewK (pa_cons pe_int pa_nil))) (pa_cons (pe_tup (pa_cons pe_bl (pa_cons pe_int pa_nil))) pa_nil)))))) (pa_cons (pe_call GD hr1 rfl mD kD bD .nil pass0 (pa_cons (pv 0) (pa_cons (pe_callB call_len_seq rfl B.len PySem.boot_len (pa_cons (pv 3) pa_nil)) pa_nil))) pa_nil)) (by rfl)))
  (pss_cons (by exact (ps_for PassesOwn.never rfl (by exact pi_tup (pe_tup (pa_cons pe_non (pa_cons pe_int (pa_cons (pe_un un_neg pe_int) (pa_cons pe_bl (pa_cons pe_str (pa_cons (pe_lst (pa_cons pe_int pa_nil)) (pa_cons (pe_tup (pa_cons pe_int pa_nil)) (pa_cons pe_dnewK pa_nil)))))))))) (pg_name (i := 9) nd rfl (.inl rfl)) (pss_one (by exact (ps_expr (pe_bm PySem.F.plainAttrs_list PySem.F.slot_list_append PySem.F.type_list_append mt_append (pv 6) (pa_cons (pe_tup (pa_cons (pe_op op_cat (pe_op op_cat (pe_op op_cat (pe_slice sl_list (pv 5) po_none (po_some (pv 7))) (pe_lst (pa_cons (pv 9) pa_nil))) (pe_slice sl_list (pv 5) (po_some (pe_op op_add (pv 7) pe_int)) po_none)) (pe_lst (pa_cons pe_non pa_nil))) (pa_cons (pv 7) pa_nil))) pa_nil)))))))
  (pss_cons (by exact (ps_expr (pe_bm PySem.F.plainAttrs_list PySem.F.slot_list_extend PySem.F.type_list_extend mt_extend (pv 6) (pa_cons (pe_lst (pa_cons (pe_tup (pa_cons (pe_slice sl_list (pv 5) po_none (po_some (pe_un un_neg pe_int))) (pa_cons (pe_op op_sub (pe_callB call_len_seq rfl B.len PySem.boot_len (pa_cons (pv 3) pa_nil)) pe_int) pa_nil))) (pa_cons (pe_tup (pa_cons (pe_op op_cat (pv 5) (pe_lst (pa_cons pe_int pa_nil))) (pa_cons (pe_callB call_len_seq rfl B.len PySem.boot_len (pa_cons (pv 3) pa_nil)) pa_nil))) (pa_cons (pe_tup (pa_cons (pe_op op_cat (pv 5) (pe_lst (pa_cons pe_non pa_nil))) (pa_cons (pe_callB call_len_seq rfl B.len PySem.boot_len (pa_cons (pv 3) pa_nil)) pa_nil))) pa_nil)))) pa_nil))))
  (pss_one (by exact (ps_ret (pe_not (pe_callB (cr_any rfl) rfl man PyProof.Rows.boot_any (pa_cons (pe_lc (own := [("odd", 9), ("due", 10)]) (g := gTup K 2 (gCons (gName 9) (gCons (gName 10) gNil))) (tt := tYes) (te := tMetNe K C CH CR CD T "heads" (tCons (tVar 3) (tCons (tVar 4) (tCons (tVar 9) tNil)))) rfl nd (by exact pi_list (pv 6)) (by exact blkOk_by (N := ["spring", "valley", "part", "names", "roads", "heads", "odds", "at", "bad", "odd", "due", "one"]) (sc := defScope sRR) (by decide +kernel)) (fun _ _ _ _ _ => by exact (pg_tup rfl (pgs_cons (pg_name (i := 9) nd rfl (.inr rfl)) (pgs_cons (pg_name (i := 10) nd rfl (.inl rfl)) pgs_nil)))) (fun _ _ _ _ _ => by exact pts_nil) (fun _ _ _ _ _ => by exact (pe_cmpR (op_neD hu) (LamX.pe_lamcall (k := 6) (t := fun E => tMake C (spVI K C CH CR CD) [] E (tCons (tVar 3) (tCons (tVar 4) (tCons (tVar 9) tNil)))) rfl mm km lkm hcm bm scMet rfl (.inl rfl) (met_gives MF) TB rfl hT hU (by exact hr8) (LamX.lamS_by (by with_unfolding_all rfl)) rfl (fun _ _ _ _ _ => rfl) (fun A outer s H E f c' hz => by exact (pe_make MV GV hz rfl mV bV .nil (passes_call (takes_of rfl rfl rfl rfl) (fun _ _ _ _ h => h)) (pa_cons (pv 3) (pa_cons (pv 4) (pa_cons (pv 9) pa_nil)))))) (pe_tup (pa_cons pe_str (pa_cons (pv 10) pa_nil))) (nomark _)))) pa_nil)))))))))))))))))))), ?_⟩
  have pl := ok.le
  have lqs : qs.length = rs.length := v.pr.length
  have lrs := ok.rl
  have lns := ok.nl
  -- the three lists
  refine ⟨_, rfl, t, rfl, ⟨_, SqT.of v.t0⟩, fun D hD => ?_⟩
  refine lc_it walk_tup (fun i Hc => Same H Hc ∧ ∃ cs : List Addr, Hc D = some (.lst (cs.map V.ref)) ∧ Paired (fun c (xs : List V) => Hc c = some (.lst xs)) cs ([ss.map V.str, qs.map V.ref, ns.map V.int].take i) ∧ ∀ c ∈ cs, H c = none ∧ c ≠ D)
    ⟨K1.Same.upd hD, [], upd_same, .nil, fun c hc => absurd hc (by simp)⟩ (fun i Hc _ h => SqT.of (h.1 _ _ v.t0)) ?_ ?_
  · rintro i y Hc H' hi ⟨f1, cs, f2, f3, f4⟩ ⟨rfl, hy⟩
    have hi3 : i < 3 := hi
    obtain ⟨pp, xs, rfl, hpp, ex⟩ : ∃ (pp : Addr) (xs : List V), y = .ref pp ∧ H pp = some (.lst xs) ∧ [ss.map V.str, qs.map V.ref, ns.map V.int][i]? = some xs := by
      match i, hi3, hy with
      | 0, _, hy => exact ⟨p1, _, (Option.some.inj hy).symm, v.h1, rfl⟩
      | 1, _, hy => exact ⟨p2, _, (Option.some.inj hy).symm, v.h2, rfl⟩
      | 2, _, hy => exact ⟨p3, _, (Option.some.inj hy).symm, v.h3, rfl⟩
    refine ⟨rfl, ?_⟩
    unfold tYes
    refine iteT ⟨_, rfl, pp, xs, rfl, .inl (SqL.of (f1 _ _ hpp)), fun m hm => ?_⟩
    have mD : m ≠ D := (ne_of_none f2 hm).symm
    have lcs : cs.length ≤ 3 := by rw [f3.length, List.length_take]; simp; omega
    have kd : Kept D H' (L2.upd (L2.upd H' m (.lst xs)) D (.lst (cs.map V.ref ++ [.ref m]))) := (Kept.new hm).trans Kept.upd
    refine ⟨cs.map V.ref, by rw [upd_ne mD.symm]; exact f2, by rw [List.length_map]; exact small1000 (by omega), fun b o nb => kd b o (ne_of_none nb hD) (f1 b o nb), cs ++ [m], by rw [upd_same, List.map_append]; rfl, ?_, fun m' hm' => ?_⟩
    · rw [List.take_add_one, ex]
      exact snoc_paired (by show L2.upd _ _ _ m = _; rw [upd_ne mD, upd_same]) f3 (fun y r hy ey => kd _ _ (f4 y hy).2 ey)
    · rcases List.mem_append.mp hm' with hm' | hm'
      · exact f4 m' hm'
      · rw [List.mem_singleton.mp hm']
        exact ⟨f1.free hm, mD⟩
  rintro H1 ⟨e1, cs, gD, pcs, fcs⟩
  obtain ⟨np, nr, nh, rfl, gn, gr, gh⟩ : ∃ np nr nh, cs = [np, nr, nh] ∧ H1 np = some (.lst (ss.map V.str)) ∧ H1 nr = some (.lst (qs.map V.ref)) ∧ H1 nh = some (.lst (ns.map V.int)) := by
    have pcs : Paired (fun c (xs : List V) => H1 c = some (.lst xs)) cs [ss.map V.str, qs.map V.ref, ns.map V.int] := pcs
    cases pcs with
    | cons x r => cases r with
      | cons y r => cases r with
        | cons z r => cases r; exact ⟨_, _, _, rfl, x, y, z⟩
  refine ⟨D, _, rfl, SqL.of gD, rfl, _, _, rfl, _, _, rfl, _, _, rfl, rfl, ?_⟩
  have fa : ∀ c ∈ [np, nr, nh], c ≠ a := fun c hc z => hs.kept (by rw [← z]; exact (fcs c hc).1)
  have npa : np ≠ a := fa np (by simp)
  have nra : nr ≠ a := fa nr (by simp)
  have nha : nh ≠ a := fa nh (by simp)
  have s1 := hs.same e1
  have rf1 : RF a t p1 p2 p3 np nr nh qs ss rs ns (gz (fun b => b = a) H1) := ⟨VAt.gz (VAt.same v e1) s1, gz_some.mpr ⟨npa, gn, fun _ z => by cases z⟩, gz_some.mpr ⟨nra, gr, fun _ z => by cases z⟩, gz_some.mpr ⟨nha, gh, fun _ z => by cases z⟩⟩
  have tb1 := tabs_same tb e1
  have kk1 : Same (gz (fun b => b = a) H) (gz (fun b => b = a) H1) := gz_same fun b o _ h _ => e1 b o h
  clear gn gr gh pcs gD fcs hD
  -- houses: what is none
  refine seq_run (par_run (cons_run (lst_run (mk_cons (mk_tup (mk_cons (mk_c .non) (mk_cons (mk_c (.int 0)) mk_nil))) (mk_cons (mk_tup (mk_cons (mk_c (.int 5)) (mk_cons (mk_c (.int 0)) mk_nil))) (mk_cons (mk_tup (mk_cons (mk_c (.str "ab")) (mk_cons (mk_c (.int 0)) mk_nil))) (mk_cons (mk_tup (mk_cons mk_dict (mk_cons (mk_c (.int 0)) mk_nil))) (mk_cons (mk_tup (mk_cons (mk_c (.bl true)) (mk_cons (mk_c (.int 0)) mk_nil))) (mk_cons (mk_tup (mk_cons (mk_lst mk_nil) (mk_cons (mk_c (.int 0)) mk_nil))) (mk_cons (mk_tup (mk_cons (mk_tup mk_nil) (mk_cons (mk_c (.int 0)) mk_nil))) mk_nil))))))) (by decide) fun us H2 e2 pu O hO => ?_)))
  have s2 := s1.same e2
  have odd2 : ∀ u ∈ us, OddT K CH CR CD (fun v => (v, .non, .non)) CH (gz (fun b => b = a) H2) u := by
    refine paired_all pu fun P hP x hx => ?_
    simp only [List.mem_cons, List.not_mem_nil, or_false] at hP
    rcases hP with rfl | rfl | rfl | rfl | rfl | rfl | rfl
    · obtain ⟨p, x1, x2, rfl, hp, rfl, rfl⟩ := tup2 hx
      exact ⟨p, _, 0, rfl, gz_tup s2 hp, .inl ⟨rfl, .inl ⟨⟨"NoneType", .base .non, by decide, by decide⟩, rfl⟩⟩⟩
    · obtain ⟨p, x1, x2, rfl, hp, rfl, rfl⟩ := tup2 hx
      exact ⟨p, _, 0, rfl, gz_tup s2 hp, .inl ⟨rfl, .inl ⟨⟨"int", .base (.int 5), by decide, by decide⟩, rfl⟩⟩⟩
    · obtain ⟨p, x1, x2, rfl, hp, rfl, rfl⟩ := tup2 hx
      exact ⟨p, _, 0, rfl, gz_tup s2 hp, .inl ⟨rfl, .inl ⟨⟨"str", .base (.str _), by decide, by decide⟩, rfl⟩⟩⟩
    · obtain ⟨p, x1, x2, rfl, hp, ⟨d, rfl, hd⟩, rfl⟩ := tup2 hx
      exact ⟨p, _, 0, rfl, gz_tup s2 hp, .inl ⟨rfl, .inl ⟨⟨"dict", .base (.dK (gz_dK s2 hd)), by decide, by decide⟩, rfl⟩⟩⟩
    · obtain ⟨p, x1, x2, rfl, hp, rfl, rfl⟩ := tup2 hx
      exact ⟨p, _, 0, rfl, gz_tup s2 hp, .inl ⟨rfl, .inl ⟨⟨"bool", .base (.bl true), by decide, by decide⟩, rfl⟩⟩⟩
    · obtain ⟨p, x1, x2, rfl, hp, ⟨d, xs, rfl, hd, q1⟩, rfl⟩ := tup2 hx
      cases q1
      exact ⟨p, _, 0, rfl, gz_tup s2 hp, .inl ⟨rfl, .inr (.inl ⟨⟨d, rfl, .inl (gz_lst s2 hd (by decide))⟩, rfl⟩)⟩⟩
    · obtain ⟨p, x1, x2, rfl, hp, ⟨d, xs, rfl, hd, q1⟩, rfl⟩ := tup2 hx
      cases q1
      exact ⟨p, _, 0, rfl, gz_tup s2 hp, .inl ⟨rfl, .inr (.inl ⟨⟨d, rfl, .inr (gz_tup s2 hd)⟩, rfl⟩)⟩⟩
  have lus : us.length = 7 := pu.length
  have e2O := K1.Same.upd (H := H2) (p := O) (o := .lst us) hO
  have gO := upd_same' H2 O (.lst us)
  have Oa : O ≠ a := s2.ne hO
  have OH : H O = none := (e1.trans e2).free hO
  have s2O := s2.same e2O
  have rf2 : RF a t p1 p2 p3 np nr nh qs ss rs ns (gz (fun b => b = a) (L2.upd H2 O (.lst us))) := (rf1.same (gz_same fun b o _ h _ => (e2.trans e2O) b o h))
  refine ⟨_, rfl, _, rfl, np, _, rfl, .inl (SqL.of (gz_out _ _ rf2.n)), _, _, rfl, rfl, a, _, n, rfl, s2O, by omega, by rw [List.length_map]; omega, ?_, fun d H3 d0 d1 k3 s3 => ⟨_, _, rfl, ?_⟩⟩
  · rw [List.length_map]
    exact Nat.lt_of_le_of_lt (show _ ≤ 100 by omega) (by decide)
  rw [List.length_map] at d1
  obtain ⟨k, rfl⟩ : ∃ k : Nat, d = (k : Int) := ⟨d.toNat, by omega⟩
  have hk : k ≤ ss.length := by omega
  have sm23 : Same (gz (fun b => b = a) H2) (gz (Z2 a O) H3) := fun b o h => by
    obtain ⟨h1, h2, h3⟩ := gz_some.mp h
    exact gz_some.mpr ⟨fun z => z.elim h1 (ne_of_none h2 hO), k3 b o h1 (e2O b o h2), h3⟩
  have odd3 : ∀ u ∈ us, OddT K CH CR CD (fun v => (v, .non, .non)) CH (gz (Z2 a O) H3) u := fun u hu => (odd2 u hu).same sm23
  have rf3 : RF a t p1 p2 p3 np nr nh qs ss rs ns (gz (Z2 a O) H3) := (rf1.same (gz_same fun b o _ h _ => e2 b o h)).same sm23
  have gO3 := k3 _ _ Oa gO
  have tb3 : LamX.Tabs T H3 := by
    obtain ⟨x, y, z, ea, _⟩ := s2O
    exact tabs_kept (tabs_same (tabs_same tb1 e2) e2O) ea k3
  have kk3 : Same (gz (fun b => b = a) H) (gz (Z2 a O) H3) := (kk1.trans (gz_same fun b o _ h _ => e2 b o h)).trans sm23
  clear sm23 odd2 rf2 gO k3 s2O e2O rf1 kk1 tb1 pu
  -- bad names
  refine seq_run (asg_run (lst_run (mk_cons (mk_c .non) (mk_cons (mk_c (.int 5)) (mk_cons (mk_c (.str "")) (mk_cons (mk_c (.str "A")) (mk_cons (mk_c (.str "1a")) (mk_cons (mk_c (.str "ninesigns")) (mk_cons (mk_c (.str "a b")) (mk_cons (mk_c (.str "a_b")) (mk_cons (mk_c (.str "b\n")) (mk_cons (mk_c (.str "aB")) (mk_cons (mk_c (.bl true)) (mk_cons (mk_lst (mk_cons (mk_c (.str "a")) mk_nil)) (mk_cons (mk_tup (mk_cons (mk_c (.str "a")) mk_nil)) (mk_cons mk_dict mk_nil)))))))))))))) (by decide) fun ys H4 e4 py Bd hBd => ?_))
  have s4 := s3.same e4
  have gO4 := e4 _ _ gO3
  have gz4 : ∀ {p : Addr} {o : HO}, gz (fun b => b = a) H4 p = some o → o ≠ .lst us → gz (Z2 a O) H4 p = some o := fun {p o} h ne => by
    obtain ⟨h1, h2, h3⟩ := gz_some.mp h
    refine gz_some.mpr ⟨fun z => z.elim h1 fun z => ?_, h2, h3⟩
    rw [z, gO4] at h2
    exact ne (Option.some.inj h2).symm
  have bad4 : ∀ y ∈ ys, BadName K (gz (Z2 a O) H4) (ss.take k) y := by
    refine paired_all py fun P hP x hx => ?_
    simp only [List.mem_cons, List.not_mem_nil, or_false] at hP
    rcases hP with rfl | rfl | rfl | rfl | rfl | rfl | rfl | rfl | rfl | rfl | rfl | rfl | rfl | rfl
    · rw [show x = V.non from hx]
      exact .inl ⟨"NoneType", .base .non, by decide, by decide⟩
    · rw [show x = V.int 5 from hx]
      exact .inl ⟨"int", .base (.int 5), by decide, by decide⟩
    · exact .inr ⟨_, hx, by decide, .inl (by decide +kernel)⟩
    · exact .inr ⟨_, hx, by decide, .inl (by decide +kernel)⟩
    · exact .inr ⟨_, hx, by decide, .inl (by decide +kernel)⟩
    · exact .inr ⟨_, hx, by decide, .inl (by decide +kernel)⟩
    · exact .inr ⟨_, hx, by decide, .inl (by decide +kernel)⟩
    · exact .inr ⟨_, hx, by decide, .inl (by decide +kernel)⟩
    · exact .inr ⟨_, hx, by decide, .inl (by decide +kernel)⟩
    · exact .inr ⟨_, hx, by decide, .inl (by decide +kernel)⟩
    · rw [show x = V.bl true from hx]
      exact .inl ⟨"bool", .base (.bl true), by decide, by decide⟩
    · obtain ⟨d, xs, rfl, hd, q1⟩ := hx
      have l1 : xs.length = 1 := q1.length
      exact .inl ⟨"list", .base (.lst (gz4 (gz_lst s4 hd (by omega)) (fun z => by rw [HO.lst.inj z] at l1; omega))), by decide, by decide⟩
    · obtain ⟨d, xs, rfl, hd, q1⟩ := hx
      exact .inl ⟨"tuple", .base (.tup (gz4 (gz_tup s4 hd) (fun z => by cases z))), by decide, by decide⟩
    · obtain ⟨d, rfl, hd⟩ := hx
      exact .inl ⟨"dict", .base (.dK (gz4 (gz_dK s4 hd) (fun z => by cases z))), by decide, by decide⟩
  have lys : ys.length = 14 := py.length
  have e5 := K1.Same.upd (H := H4) (p := Bd) (o := .lst ys) hBd
  have gB := upd_same' H4 Bd (.lst ys)
  generalize L2.upd H4 Bd (.lst ys) = H5 at e5 gB ⊢
  have rf5 := (rf3.same (gz_same fun b o _ h _ => e4 b o h)).same (gz_same fun b o _ h _ => e5 b o h)
  refine ⟨_, rfl, _, rfl, _, rfl, _, rfl, np, _, rfl, SqL.of (gz_out _ _ rf5.n), fun c1 hc1 => ?_⟩
  have e6 := K1.Same.upd (H := H5) (p := c1) (o := .lst (cutV (ss.map V.str) none (some (k : Int)))) hc1
  have g6 := upd_same' H5 c1 (.lst (cutV (ss.map V.str) none (some (k : Int))))
  generalize L2.upd H5 c1 (.lst (cutV (ss.map V.str) none (some (k : Int)))) = H6 at e6 g6 ⊢
  rw [cut_to, ← List.map_take] at g6
  refine ⟨Bd, c1, _, _, rfl, rfl, e6 _ _ gB, g6, Nat.le_trans (show _ ≤ 1000 by rw [List.length_map, List.length_take]; omega) (by decide), fun X hX => ⟨X, rfl, ⟨_, SqL.of upd_same⟩, ?_⟩⟩
  have e7 := K1.Same.upd (H := H6) (p := X) (o := .lst (ys ++ (ss.take k).map V.str)) hX
  have gX := upd_same' H6 X (.lst (ys ++ (ss.take k).map V.str))
  have e47 := e5.trans (e6.trans e7)
  have Xa : X ≠ a := (s4.same (e5.trans e6)).ne hX
  have XO : X ≠ O := (ne_of_none (e6 _ _ (e5 _ _ gO4)) hX).symm
  generalize L2.upd H6 X (.lst (ys ++ (ss.take k).map V.str)) = H7 at e7 gX e47 ⊢
  have g47 : Same (gz (Z2 a O) H4) (gz (Z2 a O) H7) := gz_same fun b o _ h _ => e47 b o h
  have g37 : Same (gz (Z2 a O) H3) (gz (Z2 a O) H7) := gz_same fun b o _ h _ => (e4.trans e47) b o h
  have bad7 : ∀ y ∈ ys ++ (ss.take k).map V.str, BadName K (gz (Z2 a O) H7) (ss.take k) y := fun y hy => by
    rcases List.mem_append.mp hy with hy | hy
    · exact (bad4 y hy).ext g47
    · obtain ⟨s', hs', rfl⟩ := List.mem_map.mp hy
      exact .inr ⟨s', rfl, (ok.good.2 s' (List.mem_of_mem_take hs')).2, .inr hs'⟩
  have rf7 := rf3.same g37
  have s7 := s4.same e47
  have S7 : OS K CH CR CD (fun v => (v, .non, .non)) CH T a O (n + 1) 7 (gz (Z2 a O) H7) H7 := ⟨Same.refl _, s7, tabs_same tb3 (e4.trans e47), us, e47 _ _ gO4, by omega, fun u hu => (odd3 u hu).same g37⟩
  have kk7 := kk3.trans g37
  have gX7 : gz (Z2 a O) H7 X = some (.lst (ys ++ (ss.take k).map V.str)) := gz_some.mpr ⟨fun z => z.elim Xa XO, gX, fun _ z => by cases z⟩
  have lXS : (ys ++ (ss.take k).map V.str).length ≤ 100 := by rw [List.length_append, List.length_map, List.length_take]; omega
  generalize ys ++ (ss.take k).map V.str = XS at bad7 gX7 gX lXS ⊢
  clear g37 g47 e47 e7 e6 e5 e4 rf5 rf3 kk3 tb3 odd3 bad4 gz4 gO4 gO3 py hX hc1 hBd g6 gB
  refine for_it walk_list (fun i σ Hc => (∃ y9, σ = [some (.ref a), some (.ref t), none, some (.ref np), some (.ref nr), some (.ref nh), some (.ref O), some (.int (k : Int)), some (.ref Bd), y9, none, none]) ∧ OS K CH CR CD (fun v => (v, .non, .non)) CH T a O (n + 1) (7 + i) (gz (Z2 a O) H7) Hc) ⟨⟨_, rfl⟩, S7⟩ (fun i σ Hc _ h => SqL.of (gz_out _ _ (h.2.kp _ _ gX7))) ?_ ?_
  · rintro i y σ Hc H' hi ⟨⟨y9, rfl⟩, S⟩ ⟨rfl, hy⟩
    have hi' : i < XS.length := hi
    have yb := (bad7 y (List.mem_of_getElem? hy)).ext S.kp
    have rfc := rf7.same S.kp
    obtain ⟨us', hO', lus', _⟩ := S.od
    have hnp := gz_out _ _ rfc.n
    refine ⟨_, rfl, .inl ⟨rfl, _, SqL.of hO'⟩, _, rfl, _, rfl, _, rfl, np, _, rfl, SqL.of hnp, fun c1 hc1 => ?_⟩
    have T1 := K1.Same.upd (H := H') (p := c1) (o := .lst (cutV (ss.map V.str) none (some (k : Int)))) hc1
    have G1 := upd_same' H' c1 (.lst (cutV (ss.map V.str) none (some (k : Int))))
    generalize L2.upd H' c1 (.lst (cutV (ss.map V.str) none (some (k : Int)))) = J1 at T1 G1 ⊢
    rw [cut_to] at G1
    refine ⟨_, rfl, (by show 2 ≤ sizeLine; decide), fun c2 hc2 => ?_⟩
    have T2 := K1.Same.upd (H := J1) (p := c2) (o := .lst [y, .non]) hc2
    have G2 := upd_same' J1 c2 (.lst [y, .non])
    generalize L2.upd J1 c2 (.lst [y, .non]) = J2 at T2 G2 ⊢
    have lxs : (ss.map V.str).length ≤ 60 := by rw [List.length_map]; omega
    have ltk := List.length_take_le k (ss.map V.str)
    refine ⟨c1, c2, _, _, rfl, rfl, T2 _ _ G1, G2, Nat.le_trans (show _ ≤ 1000 by show (List.take k (ss.map V.str)).length + 2 ≤ 1000; omega) (by decide), fun c3 hc3 => ?_⟩
    have T3 := K1.Same.upd (H := J2) (p := c3) (o := .lst (List.take k (ss.map V.str) ++ [y, .non])) hc3
    have G3 := upd_same' J2 c3 (.lst (List.take k (ss.map V.str) ++ [y, .non]))
    have T13 := T1.trans (T2.trans T3)
    generalize L2.upd J2 c3 (.lst (List.take k (ss.map V.str) ++ [y, .non])) = J3 at T3 G3 T13 ⊢
    refine ⟨_, rfl, _, rfl, _, rfl, np, _, rfl, SqL.of (T13 _ _ hnp), fun c4 hc4 => ?_⟩
    have T4 := K1.Same.upd (H := J3) (p := c4) (o := .lst (cutV (ss.map V.str) (some (k : Int)) none)) hc4
    have G4 := upd_same' J3 c4 (.lst (cutV (ss.map V.str) (some (k : Int)) none))
    generalize L2.upd J3 c4 (.lst (cutV (ss.map V.str) (some (k : Int)) none)) = J4 at T4 G4 ⊢
    rw [cut_from] at G4
    have ldr : (List.drop k (ss.map V.str)).length ≤ 60 := by rw [List.length_drop]; omega
    refine ⟨c3, c4, _, _, rfl, rfl, T4 _ _ G3, G4, Nat.le_trans (show _ ≤ 1000 by rw [List.length_append]; show (List.take k (ss.map V.str)).length + 2 + (List.drop k (ss.map V.str)).length ≤ 1000; omega) (by decide), fun c5 hc5 => ?_⟩
    have T14 := T13.trans T4
    have n5 := T14.free hc5
    have T5 := K1.Same.upd (H := J4) (p := c5) (o := .lst (List.take k (ss.map V.str) ++ [y, .non] ++ List.drop k (ss.map V.str))) hc5
    have G5 := upd_same' J4 c5 (.lst (List.take k (ss.map V.str) ++ [y, .non] ++ List.drop k (ss.map V.str)))
    have T15 := T14.trans T5
    generalize L2.upd J4 c5 (.lst (List.take k (ss.map V.str) ++ [y, .non] ++ List.drop k (ss.map V.str))) = J5 at T5 G5 T15 ⊢
    refine ⟨_, rfl, (by show 2 ≤ sizeLine; decide), fun u hu => ?_⟩
    have nU := T15.free hu
    have G5' := K1.Same.upd (H := J5) (p := u) (o := .tup [.ref c5, .int (k : Int)]) hu _ _ G5
    have GU := upd_same' J5 u (.tup [.ref c5, .int (k : Int)])
    have TJ := T15.trans (K1.Same.upd (H := J5) (p := u) (o := .tup [.ref c5, .int (k : Int)]) hu)
    generalize L2.upd J5 u (.tup [.ref c5, .int (k : Int)]) = J at G5' GU TJ ⊢
    have z5 : ¬ Z2 a O c5 := fun z => z.elim (S.sp.ne n5) (ne_of_none hO' n5).symm
    have zU : ¬ Z2 a O u := fun z => z.elim (S.sp.ne nU) (ne_of_none hO' nU).symm
    have h5 : gz (Z2 a O) J c5 = some (.lst (List.take k (ss.map V.str) ++ [y, .non] ++ List.drop k (ss.map V.str))) := gz_some.mpr ⟨z5, G5', fun _ z => by cases z⟩
    have hU : gz (Z2 a O) J u = some (.tup [.ref c5, .int (k : Int)]) := gz_some.mpr ⟨zU, GU, fun _ z => by cases z⟩
    have gJ : Same (gz (Z2 a O) H') (gz (Z2 a O) J) := gz_same fun b o _ h _ => TJ b o h
    clear T1 T2 T3 T4 T5 T13 T14 T15 G1 G2 G3 G4 G5 G5' GU hc1 hc2 hc3 hc4 hc5 hu z5 zU n5 nU ltk ldr
    have hb : OddT K CH CR CD (fun v => (v, .non, .non)) CH (gz (Z2 a O) J) (.ref u) := by
      refine ⟨u, .ref c5, k, rfl, hU, .inl ⟨rfl, .inr (.inr ⟨ss.take k, y, .non :: List.drop k (ss.map V.str), ⟨c5, rfl, .inl ?_⟩, Nat.le_trans (List.length_take_le _ _) (by omega), ok.good.take k, yb.ext gJ, by rw [List.length_take]; omega⟩)⟩⟩
      rw [h5, ← List.map_take, List.append_assoc]
      rfl
    obtain ⟨us2, hO2, l2, S2⟩ := S.add TJ Oa (k := 1) (vs := [.ref u]) rfl (fun z hz => by rw [List.mem_singleton.mp hz]; exact hb)
    exact ⟨O, us2, _, rfl, rfl, hO2, small1000 (by omega), ⟨_, rfl⟩, S2⟩
  rintro σ H8 ⟨⟨y9, rfl⟩, S8⟩
  have rf8 := rf7.same S8.kp
  have kk8 := (kk7.trans S8.kp).trans (gz_le (Z := fun b => b = a) fun b z => .inl z)
  have rf8' := rf8.same (gz_le (Z := fun b => b = a) fun b z => .inl z)
  have s8 := S8.sp
  have tb8 := S8.tb
  obtain ⟨us8, hus, lus8, od8⟩ := S8.od
  have oddN : ∀ u ∈ us8, OddT K CH CR CD (fun v => (v, .non, .non)) CH (nt H8) u := fun u hu => (od8 u hu).same gz_nt
  clear od8 S8 rf8 rf7 kk7 S7 bad7 gX7
  generalize us8 = us at hus oddN lus8 ⊢
  refine ⟨_, rfl, O, rfl, ⟨_, SqL.of hus⟩, fun D1 hD1 => ?_⟩
  refine lc_it walk_list (fun i Hc => LamX.ExtN H8 Hc ∧ LamX.Tabs T Hc ∧ Hc D1 = some (.lst ((List.replicate i false).map V.bl))) ⟨LamX.ExtN.of (K1.Same.upd hD1), tabs_same tb8 (K1.Same.upd hD1), upd_same⟩ (fun i Hc _ h => SqL.of (h.1 _ _ hus (fun _ z => by cases z))) ?_ ?_
  · rintro i y Hc H' hi ⟨c1, c2, c3⟩ ⟨rfl, hy⟩
    obtain ⟨p, vv, j, rfl, hp, nv⟩ := oddN y (List.mem_of_getElem? hy)
    have hp' := c1 _ _ (nt_out _ _ hp) (fun _ z => by cases z)
    refine ⟨p, _, rfl, SqT.of hp', rfl, _, _, rfl, _, _, rfl, rfl, rfl, ?_⟩
    unfold tYes
    refine iteT (ne_met (i := j) c2 (nv.ext (nt_same c1)) (.inl ⟨rfl, rfl⟩) (fun E H2 Q2 hsp => ⟨_, rfl, fun x dx n1 n2 n3 => hsp x dx n1 n2 n3⟩) rfl (by decide +kernel) fun H2 eN T2 => ?_)
    have hi' : i < us.length := hi
    refine ⟨_, eN _ _ c3 (fun _ z => by cases z), by rw [List.length_map, List.length_replicate]; exact small1000 (by omega), fun b o nb ntb => ?_, tabs_kept T2 (eN _ _ c3 (fun _ z => by cases z)) Kept.upd, ?_⟩
    · rw [upd_ne (ne_of_none nb hD1)]
      exact eN _ _ (c1 _ _ nb ntb) ntb
    · rw [upd_same, List.replicate_succ', List.map_append]
      rfl
  rintro H9 ⟨x1, tb9, gD1⟩
  refine ⟨D1, _, rfl, SqL.of gD1, _, rfl, ?_⟩
  have any9 : ∀ m : Nat, (List.replicate m false).any id = false := fun m => by
    rw [List.any_replicate]
    split <;> rfl
  rw [any9]
  refine iteF ?_
  have xs9 : Same (gz (fun b => b = a) H8) (gz (fun b => b = a) H9) := gz_same fun b o _ h nb => x1 b o h nb
  have rf9 := rf8'.same xs9
  have kk9 := kk8.trans xs9
  have s9 : Spr H9 a (n + 1) := by
    obtain ⟨x, y, z, ea, r⟩ := s8
    exact ⟨x, y, z, x1 _ _ ea (fun _ q => by cases q), r⟩
  clear xs9 x1 gD1 hD1 oddN hus tb8 s8 rf8' kk8 s7 s4 s3 s2 s1
  -- roads: what is none
  have hok : ∀ {G : Hp}, RF a t p1 p2 p3 np nr nh qs ss rs ns G → HousesOk G (.ref np) ss := fun {G} f => ⟨⟨np, rfl, .inl f.n⟩, fun z => by have := ok.pos; rw [z] at this; simp at this, by omega, ok.good⟩
  clear hk lys lXS XO Xa gX lus8 lus OH Oa
  refine seq_run (par_run (cons_run (lst_run (mk_cons (mk_tup (mk_cons (mk_c .non) (mk_cons (mk_c (.int 0)) mk_nil))) (mk_cons (mk_tup (mk_cons (mk_c (.int 5)) (mk_cons (mk_c (.int 0)) mk_nil))) (mk_cons (mk_tup (mk_cons (mk_c (.str "ab")) (mk_cons (mk_c (.int 0)) mk_nil))) (mk_cons (mk_tup (mk_cons mk_dict (mk_cons (mk_c (.int 0)) mk_nil))) (mk_cons (mk_tup (mk_cons (mk_c (.bl true)) (mk_cons (mk_c (.int 0)) mk_nil))) mk_nil))))) (by decide) fun us H2 e2 pu O hO => ?_)))
  have s2 := s9.same e2
  have r2 : RF a t p1 p2 p3 np nr nh qs ss rs ns (gz (fun b => b = a) H2) := rf9.same (gz_same fun b o _ h _ => e2 b o h)
  have odd2 : ∀ u ∈ us, OddT K CH CR CD (fun v => (.ref np, v, .non)) CR (gz (fun b => b = a) H2) u := by
    refine paired_all pu fun P hP x hx => ?_
    simp only [List.mem_cons, List.not_mem_nil, or_false] at hP
    rcases hP with rfl | rfl | rfl | rfl | rfl
    · obtain ⟨p, x1, x2, rfl, hp, rfl, rfl⟩ := tup2 hx
      exact ⟨p, _, 0, rfl, gz_tup s2 hp, .inr (.inl ⟨rfl, ss, hok r2, .inl ⟨⟨"NoneType", .base .non, by decide, by decide⟩, rfl⟩⟩)⟩
    · obtain ⟨p, x1, x2, rfl, hp, rfl, rfl⟩ := tup2 hx
      exact ⟨p, _, 0, rfl, gz_tup s2 hp, .inr (.inl ⟨rfl, ss, hok r2, .inl ⟨⟨"int", .base (.int 5), by decide, by decide⟩, rfl⟩⟩)⟩
    · obtain ⟨p, x1, x2, rfl, hp, rfl, rfl⟩ := tup2 hx
      exact ⟨p, _, 0, rfl, gz_tup s2 hp, .inr (.inl ⟨rfl, ss, hok r2, .inl ⟨⟨"str", .base (.str _), by decide, by decide⟩, rfl⟩⟩)⟩
    · obtain ⟨p, x1, x2, rfl, hp, ⟨d, rfl, hd⟩, rfl⟩ := tup2 hx
      exact ⟨p, _, 0, rfl, gz_tup s2 hp, .inr (.inl ⟨rfl, ss, hok r2, .inl ⟨⟨"dict", .base (.dK (gz_dK s2 hd)), by decide, by decide⟩, rfl⟩⟩)⟩
    · obtain ⟨p, x1, x2, rfl, hp, rfl, rfl⟩ := tup2 hx
      exact ⟨p, _, 0, rfl, gz_tup s2 hp, .inr (.inl ⟨rfl, ss, hok r2, .inl ⟨⟨"bool", .base (.bl true), by decide, by decide⟩, rfl⟩⟩)⟩
  have lus : us.length = 5 := pu.length
  have e2O := K1.Same.upd (H := H2) (p := O) (o := .lst us) hO
  have gO := upd_same' H2 O (.lst us)
  have Oa : O ≠ a := s2.ne hO
  have s2O := s2.same e2O
  have rf2 : RF a t p1 p2 p3 np nr nh qs ss rs ns (gz (fun b => b = a) (L2.upd H2 O (.lst us))) := (rf9.same (gz_same fun b o _ h _ => (e2.trans e2O) b o h))
  have OH : gz (fun b => b = a) H O = none := by
    cases q1 : gz (fun b => b = a) H O with
    | none => rfl
    | some o =>
      have z := gz_out _ _ (kk9 _ _ q1)
      rw [e2.free hO] at z
      cases z
  refine ⟨_, rfl, _, rfl, nr, _, rfl, .inl (SqL.of (gz_out _ _ rf2.r)), _, _, rfl, rfl, a, _, _, rfl, s2O, by omega, by rw [List.length_map]; omega, ?_, fun d H3 d0 d1 k3 s3 => ⟨_, _, rfl, ?_⟩⟩
  · rw [List.length_map]
    exact Nat.lt_of_le_of_lt (show _ ≤ 100 by omega) (by decide)
  rw [List.length_map] at d1
  obtain ⟨k, rfl⟩ : ∃ k : Nat, d = (k : Int) := ⟨d.toNat, by omega⟩
  have hk : k ≤ rs.length := by omega
  have sm23 : Same (gz (fun b => b = a) H2) (gz (Z2 a O) H3) := fun b o h => by
    obtain ⟨h1, h2, h3⟩ := gz_some.mp h
    exact gz_some.mpr ⟨fun z => z.elim h1 (ne_of_none h2 hO), k3 b o h1 (e2O b o h2), h3⟩
  have odd3 : ∀ u ∈ us, OddT K CH CR CD (fun v => (.ref np, v, .non)) CR (gz (Z2 a O) H3) u := fun u hu => (odd2 u hu).same sm23
  have rf3 : RF a t p1 p2 p3 np nr nh qs ss rs ns (gz (Z2 a O) H3) := r2.same sm23
  have gO3 := k3 _ _ Oa gO
  have tb3 : LamX.Tabs T H3 := by
    obtain ⟨x, y, z, ea, _⟩ := s2O
    exact tabs_kept (tabs_same (tabs_same tb9 e2) e2O) ea k3
  have kk3 : Same (gz (fun b => b = a) H) (gz (Z2 a O) H3) := (kk9.trans (gz_same fun b o _ h _ => e2 b o h)).trans sm23
  clear sm23 odd2 rf2 gO k3 s2O e2O rf9 kk9 tb9 pu r2 s9 hO e2 s2
  -- one house
  refine ⟨_, rfl, _, rfl, a, np, ss.map V.str, _, rfl, s3, by omega, gz_out _ _ rf3.n, npa, fun z => by have := ok.pos; rw [List.map_eq_nil_iff.mp z] at this; simp at this, by rw [List.length_map]; omega, fun x H4 hx k4 s4 => ?_⟩
  obtain ⟨s1, hs1, rfl⟩ := List.mem_map.mp hx
  have g34 : Same (gz (Z2 a O) H3) (gz (Z2 a O) H4) := gz_same fun b o nb h _ => k4 b o (fun z => nb (.inl z)) h
  have odd4 : ∀ u ∈ us, OddT K CH CR CD (fun v => (.ref np, v, .non)) CR (gz (Z2 a O) H4) u := fun u hu => (odd3 u hu).same g34
  have rf4 := rf3.same g34
  have gO4 := k4 _ _ Oa gO3
  have tb4 : LamX.Tabs T H4 := by
    obtain ⟨x, y, z, ea, _⟩ := s3
    exact tabs_kept tb3 ea k4
  have kk4 := kk3.trans g34
  clear g34 odd3 rf3 gO3 tb3 kk3 k4 s3 hx
  -- bad roads
  refine seq_run (asg_run (lst_run (mk_cons (mk_c .non) (mk_cons (mk_c (.int 5)) (mk_cons (mk_c (.str "ab")) (mk_cons (mk_tup mk_nil) (mk_cons (mk_tup (mk_cons (mk_v (i := 11) (x := .str s1)) mk_nil)) (mk_cons (mk_tup (mk_cons (mk_v (i := 11) (x := .str s1)) (mk_cons (mk_v (i := 11) (x := .str s1)) mk_nil))) (mk_cons (mk_tup (mk_cons (mk_c (.str "nobody")) (mk_cons (mk_v (i := 11) (x := .str s1)) mk_nil))) (mk_cons (mk_tup (mk_cons (mk_v (i := 11) (x := .str s1)) (mk_cons (mk_c .non) mk_nil))) (mk_cons (mk_lst (mk_cons (mk_v (i := 11) (x := .str s1)) (mk_cons (mk_lst (mk_cons (mk_v (i := 11) (x := .str s1)) mk_nil)) mk_nil))) (mk_cons (mk_tup (mk_cons (mk_v (i := 11) (x := .str s1)) (mk_cons (mk_c (.str "no")) (mk_cons (mk_v (i := 11) (x := .str s1)) mk_nil)))) (mk_cons mk_dict mk_nil))))))))))) (Nat.le_of_ble_eq_true rfl) fun ys H5 e5 py Bd2 hBd => ?_))
  have s5 := s4.same e5
  have gO5 := e5 _ _ gO4
  have gz5 : ∀ {p : Addr} {o : HO}, gz (fun b => b = a) H5 p = some o → o ≠ .lst us → gz (Z2 a O) H5 p = some o := fun {p o} h ne => by
    obtain ⟨h1, h2, h3⟩ := gz_some.mp h
    refine gz_some.mpr ⟨fun z => z.elim h1 fun z => ?_, h2, h3⟩
    rw [z, gO5] at h2
    exact ne (Option.some.inj h2).symm
  have gt5 : ∀ {p : Addr} {xs : List V}, H5 p = some (.tup xs) → gz (Z2 a O) H5 p = some (.tup xs) := fun h => gz5 (gz_tup s5 h) (fun z => by cases z)
  have gl5 : ∀ {p : Addr} {xs : List V}, H5 p = some (.lst xs) → xs.length ≤ 2 → gz (Z2 a O) H5 p = some (.lst xs) := fun h l => gz5 (gz_lst s5 h (by omega)) (fun z => by rw [HO.lst.inj z] at l; omega)
  have bad5 : ∀ y ∈ ys, BadRoad K (gz (Z2 a O) H5) ss (rs.take k) y := by
    refine paired_all py fun P hP x hx => ?_
    simp only [List.mem_cons, List.not_mem_nil, or_false] at hP
    rcases hP with rfl | rfl | rfl | rfl | rfl | rfl | rfl | rfl | rfl | rfl | rfl
    · rw [show x = V.non from hx]
      exact .inl ⟨"NoneType", .base .non, by decide, by decide⟩
    · rw [show x = V.int 5 from hx]
      exact .inl ⟨"int", .base (.int 5), by decide, by decide⟩
    · rw [show x = V.str "ab" from hx]
      exact .inl ⟨"str", .base (.str _), by decide, by decide⟩
    · obtain ⟨d, xs, rfl, hd, q1⟩ := hx
      exact .inr (.inl ⟨xs, ⟨d, rfl, .inr (gt5 hd)⟩, by rw [q1.length]; simp⟩)
    · obtain ⟨d, xs, rfl, hd, q1⟩ := hx
      exact .inr (.inl ⟨xs, ⟨d, rfl, .inr (gt5 hd)⟩, by rw [q1.length]; simp⟩)
    · obtain ⟨d, x1, x2, rfl, hd, rfl, rfl⟩ := tup2 hx
      exact .inr (.inr (.inr ⟨s1, s1, ⟨d, rfl, .inr (gt5 hd)⟩, hs1, hs1, rfl⟩))
    · obtain ⟨d, x1, x2, rfl, hd, rfl, rfl⟩ := tup2 hx
      refine .inr (.inr (.inl ⟨_, _, ⟨d, rfl, .inr (gt5 hd)⟩, .inl ⟨_, rfl⟩, .inl ⟨_, rfl⟩, ?_⟩))
      show (decide (("nobody" : Str) ∈ ss) && _) = false
      rw [decide_eq_false (fun z => ok.nob _ z rfl)]
      rfl
    · obtain ⟨d, x1, x2, rfl, hd, rfl, rfl⟩ := tup2 hx
      exact .inr (.inr (.inl ⟨_, _, ⟨d, rfl, .inr (gt5 hd)⟩, .inl ⟨_, rfl⟩, .inr ⟨"NoneType", .base .non, by decide, by decide⟩, Bool.and_false _⟩))
    · obtain ⟨d, xs, rfl, hd, q1⟩ := hx
      cases q1 with
      | cons f1 r => cases r with
        | cons f2 r =>
          cases r
          obtain ⟨d2, xs2, rfl, hd2, q2⟩ := f2
          rw [show _ = V.str s1 from f1] at hd
          exact .inr (.inr (.inl ⟨_, _, ⟨d, rfl, .inl (gl5 hd (Nat.le_refl 2))⟩, .inl ⟨_, rfl⟩, .inr ⟨"list", .base (.lst (gl5 hd2 (by rw [q2.length]; simp))), by decide, by decide⟩, Bool.and_false _⟩))
    · obtain ⟨d, xs, rfl, hd, q1⟩ := hx
      exact .inr (.inl ⟨xs, ⟨d, rfl, .inr (gt5 hd)⟩, by rw [q1.length]; simp⟩)
    · obtain ⟨d, rfl, hd⟩ := hx
      exact .inl ⟨"dict", .base (.dK (gz5 (gz_dK s5 hd) (fun z => by cases z))), by decide, by decide⟩
  have lys : ys.length = 11 := py.length
  have e6 := K1.Same.upd (H := H5) (p := Bd2) (o := .lst ys) hBd
  have gB := upd_same' H5 Bd2 (.lst ys)
  generalize L2.upd H5 Bd2 (.lst ys) = H6 at e6 gB ⊢
  refine ⟨_, rfl, (by show 1 ≤ sizeLine; decide), fun b2 hb2 => ?_⟩
  have e7 := K1.Same.upd (H := H6) (p := b2) (o := .lst [.bl true]) hb2
  have g7 := upd_same' H6 b2 (.lst [.bl true])
  generalize L2.upd H6 b2 (.lst [.bl true]) = H7 at e7 g7 ⊢
  refine ⟨Bd2, b2, _, _, rfl, rfl, e7 _ _ gB, g7, Nat.le_trans (show _ ≤ 1000 by rw [lys]; decide) (by decide), fun b3 hb3 => ?_⟩
  have e8 := K1.Same.upd (H := H7) (p := b3) (o := .lst (ys ++ [.bl true])) hb3
  have g8 := upd_same' H7 b3 (.lst (ys ++ [.bl true]))
  have e58 := e6.trans (e7.trans e8)
  generalize L2.upd H7 b3 (.lst (ys ++ [.bl true])) = H8 at e8 g8 e58 ⊢
  have v8 := VAt.same (rf4.v) (gz_same (Z := Z2 a O) fun b o _ h _ => (e5.trans e58) b o h)
  have v8' := VAt.same v8 gz_out
  refine ⟨_, rfl, _, rfl, t, p1, p2, .ref p3, ss, qs, rs, k, rfl, v8'.t0, v8'.h1, v8'.h2, v8'.pr, ok.good.1, ok.le, ok.ends, ok.cut.forest, by omega, fun r xs H9 e9 rn gr9 joins lxs => ?_⟩
  refine ⟨b3, r, _, _, rfl, rfl, e9 _ _ g8, gr9, Nat.le_trans (show _ ≤ 1000 by rw [List.length_append, lys]; show 11 + 1 + xs.length ≤ 1000; omega) (by decide), fun X hX => ⟨X, rfl, ⟨_, SqL.of upd_same⟩, ?_⟩⟩
  have e10 := K1.Same.upd (H := H9) (p := X) (o := .lst (ys ++ [.bl true] ++ xs)) hX
  have gX := upd_same' H9 X (.lst (ys ++ [.bl true] ++ xs))
  have e59 := e58.trans e9
  have Xa : X ≠ a := (s5.same e59).ne hX
  have XO : X ≠ O := (ne_of_none (e59 _ _ gO5) hX).symm
  have e510 := e59.trans e10
  generalize L2.upd H9 X (.lst (ys ++ [.bl true] ++ xs)) = H10 at e10 gX e510 ⊢
  have g510 : Same (gz (Z2 a O) H5) (gz (Z2 a O) H10) := gz_same fun b o _ h _ => e510 b o h
  have g410 : Same (gz (Z2 a O) H4) (gz (Z2 a O) H10) := gz_same fun b o _ h _ => (e5.trans e510) b o h
  have s10 := s5.same e510
  have gO10 := e510 _ _ gO5
  have bad10 : ∀ y ∈ ys ++ [.bl true] ++ xs, BadRoad K (gz (Z2 a O) H10) ss (rs.take k) y := fun y hy => by
    rcases List.mem_append.mp hy with hy | hy
    · rcases List.mem_append.mp hy with hy | hy
      · exact (bad5 y hy).ext g510
      · rw [List.mem_singleton.mp hy]
        exact .inl ⟨"bool", .base (.bl true), by decide, by decide⟩
    · obtain ⟨x, y', ⟨pp, rfl, hpp⟩, m1, m2, m3⟩ := joins y hy
      refine .inr (.inr (.inr ⟨x, y', ⟨pp, rfl, hpp.imp (fun h => ?_) (fun h => ?_)⟩, m1, m2, m3⟩))
      · have h := e10 _ _ h
        refine gz_some.mpr ⟨fun z => z.elim (fun z => ?_) (fun z => ?_), h, fun _ z => by cases z⟩
        · obtain ⟨u1, u2, u3, ea, _⟩ := s10
          rw [z, ea] at h
          have := congrArg List.length (HO.lst.inj (Option.some.inj h))
          simp at this
        · rw [z, gO10] at h
          have := congrArg List.length (HO.lst.inj (Option.some.inj h))
          rw [lus] at this
          simp at this
      · have h := e10 _ _ h
        refine gz_some.mpr ⟨fun z => z.elim (fun z => s10.tup h z) (fun z => ?_), h, fun _ z => by cases z⟩
        rw [z, gO10] at h
        cases h
  have rf10 := rf4.same g410
  have S10 : OS K CH CR CD (fun v => (.ref np, v, .non)) CR T a O (n + 3) 5 (gz (Z2 a O) H10) H10 := ⟨Same.refl _, s10, tabs_same tb4 (e5.trans e510), us, gO10, by omega, fun u hu => (odd4 u hu).same g410⟩
  have kk10 := kk4.trans g410
  have gX10 : gz (Z2 a O) H10 X = some (.lst (ys ++ [.bl true] ++ xs)) := gz_some.mpr ⟨fun z => z.elim Xa XO, gX, fun _ z => by cases z⟩
  have lXS : (ys ++ [V.bl true] ++ xs).length ≤ 300 := by rw [List.length_append, List.length_append, lys]; show 11 + 1 + xs.length ≤ 300; omega
  generalize ys ++ [V.bl true] ++ xs = XS at bad10 gX10 gX lXS ⊢
  clear g510 g410 e59 e510 e58 e10 e9 e8 e7 e6 e5 rf4 kk4 tb4 odd4 bad5 gz5 gt5 gl5 gO5 gO4 gO10 py hX hb3 hb2 hBd g7 g8 gB v8 v8' joins gr9 rn s5 s4 s10
  refine for_it walk_list (fun i σ Hc => (∃ y9, σ = [some (.ref a), some (.ref t), none, some (.ref np), some (.ref nr), some (.ref nh), some (.ref O), some (.int (k : Int)), some (.ref Bd2), y9, none, some (.str s1)]) ∧ OS K CH CR CD (fun v => (.ref np, v, .non)) CR T a O (n + 3) (5 + i) (gz (Z2 a O) H10) Hc) ⟨⟨_, rfl⟩, S10⟩ (fun i σ Hc _ h => SqL.of (gz_out _ _ (h.2.kp _ _ gX10))) ?_ ?_
  · rintro i y σ Hc H' hi ⟨⟨y9, rfl⟩, S⟩ ⟨rfl, hy⟩
    have hi' : i < XS.length := hi
    have yb := (bad10 y (List.mem_of_getElem? hy)).ext S.kp
    have rfc := rf10.same S.kp
    obtain ⟨us', hO', lus', _⟩ := S.od
    have hnp := gz_out _ _ rfc.r
    refine ⟨_, rfl, .inl ⟨rfl, _, SqL.of hO'⟩, _, rfl, _, rfl, _, rfl, nr, _, rfl, SqL.of hnp, fun c1 hc1 => ?_⟩
    have T1 := K1.Same.upd (H := H') (p := c1) (o := .lst (cutV (qs.map V.ref) none (some (k : Int)))) hc1
    have G1 := upd_same' H' c1 (.lst (cutV (qs.map V.ref) none (some (k : Int))))
    generalize L2.upd H' c1 (.lst (cutV (qs.map V.ref) none (some (k : Int)))) = J1 at T1 G1 ⊢
    rw [cut_to] at G1
    refine ⟨_, rfl, (by show 2 ≤ sizeLine; decide), fun c2 hc2 => ?_⟩
    have T2 := K1.Same.upd (H := J1) (p := c2) (o := .lst [y, .non]) hc2
    have G2 := upd_same' J1 c2 (.lst [y, .non])
    generalize L2.upd J1 c2 (.lst [y, .non]) = J2 at T2 G2 ⊢
    have lxs : (qs.map V.ref).length ≤ 60 := by rw [List.length_map]; omega
    have ltk := List.length_take_le k (qs.map V.ref)
    refine ⟨c1, c2, _, _, rfl, rfl, T2 _ _ G1, G2, Nat.le_trans (show _ ≤ 1000 by show (List.take k (qs.map V.ref)).length + 2 ≤ 1000; omega) (by decide), fun c3 hc3 => ?_⟩
    have T3 := K1.Same.upd (H := J2) (p := c3) (o := .lst (List.take k (qs.map V.ref) ++ [y, .non])) hc3
    have G3 := upd_same' J2 c3 (.lst (List.take k (qs.map V.ref) ++ [y, .non]))
    have T13 := T1.trans (T2.trans T3)
    generalize L2.upd J2 c3 (.lst (List.take k (qs.map V.ref) ++ [y, .non])) = J3 at T3 G3 T13 ⊢
    refine ⟨_, rfl, _, rfl, _, rfl, nr, _, rfl, SqL.of (T13 _ _ hnp), fun c4 hc4 => ?_⟩
    have T4 := K1.Same.upd (H := J3) (p := c4) (o := .lst (cutV (qs.map V.ref) (some (k : Int)) none)) hc4
    have G4 := upd_same' J3 c4 (.lst (cutV (qs.map V.ref) (some (k : Int)) none))
    generalize L2.upd J3 c4 (.lst (cutV (qs.map V.ref) (some (k : Int)) none)) = J4 at T4 G4 ⊢
    rw [cut_from] at G4
    have ldr : (List.drop k (qs.map V.ref)).length ≤ 60 := by rw [List.length_drop]; omega
    refine ⟨c3, c4, _, _, rfl, rfl, T4 _ _ G3, G4, Nat.le_trans (show _ ≤ 1000 by rw [List.length_append]; show (List.take k (qs.map V.ref)).length + 2 + (List.drop k (qs.map V.ref)).length ≤ 1000; omega) (by decide), fun c5 hc5 => ?_⟩
    have T14 := T13.trans T4
    have n5 := T14.free hc5
    have T5 := K1.Same.upd (H := J4) (p := c5) (o := .lst (List.take k (qs.map V.ref) ++ [y, .non] ++ List.drop k (qs.map V.ref))) hc5
    have G5 := upd_same' J4 c5 (.lst (List.take k (qs.map V.ref) ++ [y, .non] ++ List.drop k (qs.map V.ref)))
    have T15 := T14.trans T5
    generalize L2.upd J4 c5 (.lst (List.take k (qs.map V.ref) ++ [y, .non] ++ List.drop k (qs.map V.ref))) = J5 at T5 G5 T15 ⊢
    refine ⟨_, rfl, (by show 2 ≤ sizeLine; decide), fun u hu => ?_⟩
    have nU := T15.free hu
    have G5' := K1.Same.upd (H := J5) (p := u) (o := .tup [.ref c5, .int (k : Int)]) hu _ _ G5
    have GU := upd_same' J5 u (.tup [.ref c5, .int (k : Int)])
    have TJ := T15.trans (K1.Same.upd (H := J5) (p := u) (o := .tup [.ref c5, .int (k : Int)]) hu)
    generalize L2.upd J5 u (.tup [.ref c5, .int (k : Int)]) = J at G5' GU TJ ⊢
    have z5 : ¬ Z2 a O c5 := fun z => z.elim (S.sp.ne n5) (ne_of_none hO' n5).symm
    have zU : ¬ Z2 a O u := fun z => z.elim (S.sp.ne nU) (ne_of_none hO' nU).symm
    have h5 : gz (Z2 a O) J c5 = some (.lst (List.take k (qs.map V.ref) ++ [y, .non] ++ List.drop k (qs.map V.ref))) := gz_some.mpr ⟨z5, G5', fun _ z => by cases z⟩
    have hU : gz (Z2 a O) J u = some (.tup [.ref c5, .int (k : Int)]) := gz_some.mpr ⟨zU, GU, fun _ z => by cases z⟩
    have gJ : Same (gz (Z2 a O) H') (gz (Z2 a O) J) := gz_same fun b o _ h _ => TJ b o h
    clear T1 T2 T3 T4 T5 T13 T14 T15 G1 G2 G3 G4 G5 G5' GU hc1 hc2 hc3 hc4 hc5 hu z5 zU n5 nU ltk ldr
    have rfJ := rfc.same gJ
    have hb : OddT K CH CR CD (fun v => (.ref np, v, .non)) CR (gz (Z2 a O) J) (.ref u) := by
      refine ⟨u, .ref c5, k, rfl, hU, .inr (.inl ⟨rfl, ss, hok rfJ, .inr ⟨(qs.take k).map V.ref, rs.take k, y :: .non :: List.drop k (qs.map V.ref), ⟨c5, rfl, .inl ?_⟩, map_paired (paired_imp (fun m r h => ⟨m, rfl, .inr h⟩) (Paired.take k rfJ.v.pr)), fun r hr => ok.ends r (List.mem_of_mem_take hr), ok.cut.forest.take k, by rw [List.length_take]; omega, .inr ⟨y, _, rfl, yb.ext gJ⟩⟩⟩)⟩
      rw [h5, ← List.map_take, List.append_assoc]
      rfl
    obtain ⟨us2, hO2, l2, S2⟩ := S.add TJ Oa (k := 1) (vs := [.ref u]) rfl (fun z hz => by rw [List.mem_singleton.mp hz]; exact hb)
    exact ⟨O, us2, _, rfl, rfl, hO2, small1000 (by omega), ⟨_, rfl⟩, S2⟩
  rintro σ H11 ⟨⟨y9, rfl⟩, S11⟩
  have rf11 := rf10.same S11.kp
  obtain ⟨us11, hO11, lu11, _⟩ := S11.od
  refine ⟨fun σ' H' => σ' = [some (.ref a), some (.ref t), none, some (.ref np), some (.ref nr), some (.ref nh), some (.ref O), some (.int (k : Int)), some (.ref Bd2), y9, none, some (.str s1)] ∧ ∃ m, m ≤ 400 ∧ OS K CH CR CD (fun v => (.ref np, v, .non)) CR T a O (n + 3) m (gz (Z2 a O) H10) H', ?_, fun σ' H12 hM => ?_⟩
  · refine ⟨_, rfl, .inl ⟨rfl, _, SqL.of hO11⟩, _, rfl, Nat.zero_le _, fun e0 he0 => ?_⟩
    have E0 := K1.Same.upd (H := H11) (p := e0) (o := .lst []) he0
    have G0 := upd_same' H11 e0 (.lst [])
    generalize L2.upd H11 e0 (.lst []) = J0 at E0 G0 ⊢
    have gJ0 : Same (gz (Z2 a O) H11) (gz (Z2 a O) J0) := gz_same fun b o _ h _ => E0 b o h
    have rfK := rf11.same gJ0
    have vK := VAt.same rfK.v gz_out
    have hrK := gz_out _ _ rfK.r
    refine ⟨dR rs, .list [], dp_dR hrK vK.pr, .lst (SqL.of G0) .nil, shaped_dR ok.gv.roads, rfl, _, rfl, ?_⟩
    rcases List.eq_nil_or_concat rs with er | ⟨rinit, re, er⟩
    · have ev : PyData.eqv (dR rs) (.list []) = true := by rw [er]; rfl
      rw [ev]
      refine iteF ⟨Nat.zero_le _, fun e1 he1 => ?_⟩
      have E1 := E0.trans (K1.Same.upd (H := J0) (p := e1) (o := .lst []) he1)
      have G1 := upd_same' J0 e1 (.lst [])
      obtain ⟨us2, hO2, l2, S2⟩ := S11.add E1 Oa (k := 0) (vs := []) rfl (fun z hz => absurd hz (by simp))
      exact ⟨O, e1, us2, [], rfl, rfl, hO2, G1, Nat.le_trans (show us2.length + 0 ≤ 1000 by omega) (by decide), rfl, _, by omega, S2⟩
    · rw [List.concat_eq_append] at er
      have ev : PyData.eqv (dR rs) (.list []) = false := by
        rw [er]
        unfold dR
        rw [List.map_append]
        cases rinit.map fun r : Str × Str => PyData.tuple [.str r.1, .str r.2] <;> rfl
      rw [ev]
      have lri : rinit.length + 1 = rs.length := by rw [er, List.length_append]; rfl
      obtain ⟨qi, qe, eq, pri, pre⟩ := paired_snoc (show Paired (TupP J0) qs (rinit ++ [re]) by rw [← er]; exact vK.pr)
      have lqi : qi.length + 1 = qs.length := by rw [eq, List.length_append]; rfl
      have hrK2 : J0 nr = some (.lst (qi.map V.ref ++ [V.ref qe])) := by rw [hrK, eq, List.map_append]; rfl
      refine iteT ⟨_, rfl, _, rfl, _, rfl, nr, _, rfl, SqL.of hrK2, fun c1 hc1 => ?_⟩
      have E1 := E0.trans (K1.Same.upd (H := J0) (p := c1) (o := .lst (cutV (qi.map V.ref ++ [V.ref qe]) none (some (-1)))) hc1)
      have G1 := upd_same' J0 c1 (.lst (cutV (qi.map V.ref ++ [V.ref qe]) none (some (-1))))
      have Gr := K1.Same.upd (H := J0) (p := c1) (o := .lst (cutV (qi.map V.ref ++ [V.ref qe]) none (some (-1)))) hc1 _ _ hrK
      have n1 := E0.free hc1
      generalize L2.upd J0 c1 (.lst (cutV (qi.map V.ref ++ [V.ref qe]) none (some (-1)))) = J1 at E1 G1 Gr ⊢
      rw [cut_but] at G1
      refine ⟨_, rfl, nr, _, rfl, .inl (SqL.of Gr), _, _, rfl, rfl, (by show 2 ≤ sizeLine; decide), fun u hu => ⟨(by show 1 ≤ sizeLine; decide), fun l hl => ?_⟩⟩
      have ei : (((qs.map V.ref).length : Nat) : Int) - 1 = ((rinit.length : Nat) : Int) := by rw [List.length_map]; omega
      have nU := E1.free hu
      have E2 := E1.trans (K1.Same.upd (H := J1) (p := u) (o := .tup [.ref c1, .int ((((qs.map V.ref).length : Nat) : Int) - 1)]) hu)
      have G1' := K1.Same.upd (H := J1) (p := u) (o := .tup [.ref c1, .int ((((qs.map V.ref).length : Nat) : Int) - 1)]) hu _ _ G1
      have GU := upd_same' J1 u (.tup [.ref c1, .int ((((qs.map V.ref).length : Nat) : Int) - 1)])
      generalize L2.upd J1 u (.tup [.ref c1, .int ((((qs.map V.ref).length : Nat) : Int) - 1)]) = J2 at E2 G1' GU hl ⊢
      rw [ei] at GU
      have E3 := E2.trans (K1.Same.upd (H := J2) (p := l) (o := .lst [.ref u]) hl)
      have G3 := upd_same' J2 l (.lst [.ref u])
      have G1'' := K1.Same.upd (H := J2) (p := l) (o := .lst [.ref u]) hl _ _ G1'
      have GU' := K1.Same.upd (H := J2) (p := l) (o := .lst [.ref u]) hl _ _ GU
      generalize L2.upd J2 l (.lst [.ref u]) = J at E3 G3 G1'' GU' ⊢
      have h5 : gz (Z2 a O) J c1 = some (.lst (qi.map V.ref)) := gz_some.mpr ⟨fun z => z.elim (S11.sp.ne n1) (ne_of_none hO11 n1).symm, G1'', fun _ z => by cases z⟩
      have hU : gz (Z2 a O) J u = some (.tup [.ref c1, .int ((rinit.length : Nat) : Int)]) := gz_some.mpr ⟨fun z => z.elim (S11.sp.ne nU) (ne_of_none hO11 nU).symm, GU', fun _ z => by cases z⟩
      have gJ : Same (gz (Z2 a O) H11) (gz (Z2 a O) J) := gz_same fun b o _ h _ => E3 b o h
      have rfJ := rf11.same gJ
      obtain ⟨qi2, qe2, eq2, pri2, _⟩ := paired_snoc (show Paired (TupP (gz (Z2 a O) J)) qs (rinit ++ [re]) by rw [← er]; exact rfJ.v.pr)
      have eqq : qi2 = qi := by
        have := eq.symm.trans eq2
        exact (List.append_inj_left' this rfl).symm
      rw [eqq] at pri2
      have tk : rs.take rinit.length = rinit := by rw [er, List.take_left]
      have hb : OddT K CH CR CD (fun v => (.ref np, v, .non)) CR (gz (Z2 a O) J) (.ref u) := by
        refine ⟨u, .ref c1, rinit.length, rfl, hU, .inr (.inl ⟨rfl, ss, hok rfJ, .inr ⟨qi.map V.ref, rinit, [], ⟨c1, rfl, .inl ?_⟩, map_paired (paired_imp (fun m r h => ⟨m, rfl, .inr h⟩) pri2), fun r hr => ok.ends r (by rw [er]; exact List.mem_append.mpr (.inl hr)), ?_, rfl, .inl ⟨rfl, by omega⟩⟩⟩)⟩
        · rw [h5, List.append_nil]
        · have := ok.cut.forest.take rinit.length
          rw [tk] at this
          exact this
      obtain ⟨us2, hO2, l2, S2⟩ := S11.add E3 Oa (k := 1) (vs := [.ref u]) rfl (fun z hz => by rw [List.mem_singleton.mp hz]; exact hb)
      exact ⟨O, l, us2, _, rfl, rfl, hO2, G3, Nat.le_trans (show us2.length + 1 ≤ 1000 by omega) (by decide), rfl, _, by omega, S2⟩
  obtain ⟨rfl, m12, hm12, S12⟩ := hM
  have rf12 := rf10.same S12.kp
  have kk12 := (kk10.trans S12.kp).trans (gz_le (Z := fun b => b = a) fun b z => .inl z)
  have rf12' := rf12.same (gz_le (Z := fun b => b = a) fun b z => .inl z)
  have s12 := S12.sp
  have tb12 := S12.tb
  obtain ⟨us12, hus, lus12, od12⟩ := S12.od
  have oddN : ∀ u ∈ us12, OddT K CH CR CD (fun v => (.ref np, v, .non)) CR (nt H12) u := fun u hu => (od12 u hu).same gz_nt
  clear od12 S12 rf12 rf11 S11 rf10 kk10 S10 bad10 gX10 lu11 hO11 gX lXS Xa XO
  have lusN : us12.length ≤ 1000 := by omega
  clear lus
  generalize us12 = us at hus oddN lusN ⊢
  refine ⟨_, rfl, O, rfl, ⟨_, SqL.of hus⟩, fun D1 hD1 => ?_⟩
  refine lc_it walk_list (fun i Hc => LamX.ExtN H12 Hc ∧ LamX.Tabs T Hc ∧ Hc D1 = some (.lst ((List.replicate i false).map V.bl))) ⟨LamX.ExtN.of (K1.Same.upd hD1), tabs_same tb12 (K1.Same.upd hD1), upd_same⟩ (fun i Hc _ h => SqL.of (h.1 _ _ hus (fun _ z => by cases z))) ?_ ?_
  · rintro i y Hc H' hi ⟨c1, c2, c3⟩ ⟨rfl, hy⟩
    obtain ⟨p, vv, j, rfl, hp, nv⟩ := oddN y (List.mem_of_getElem? hy)
    have hp' := c1 _ _ (nt_out _ _ hp) (fun _ z => by cases z)
    refine ⟨p, _, rfl, SqT.of hp', rfl, _, _, rfl, _, _, rfl, rfl, rfl, ?_⟩
    unfold tYes
    refine iteT (ne_met (i := j) c2 (nv.ext (nt_same c1)) (.inr (.inl ⟨rfl, rfl⟩)) (fun E H2 Q2 hsp => ⟨_, rfl, _, rfl, fun x dx n1 n2 n3 => hsp x dx n1 n2 n3⟩) rfl (by decide +kernel) fun H2 eN T2 => ?_)
    have hi' : i < us.length := hi
    refine ⟨_, eN _ _ c3 (fun _ z => by cases z), by rw [List.length_map, List.length_replicate]; exact small1000 (by omega), fun b o nb ntb => ?_, tabs_kept T2 (eN _ _ c3 (fun _ z => by cases z)) Kept.upd, ?_⟩
    · rw [upd_ne (ne_of_none nb hD1)]
      exact eN _ _ (c1 _ _ nb ntb) ntb
    · rw [upd_same, List.replicate_succ', List.map_append]
      rfl
  rintro H13 ⟨x1, tb13, gD1⟩
  refine ⟨D1, _, rfl, SqL.of gD1, _, rfl, ?_⟩
  rw [any9]
  refine iteF ?_
  have xs13 : Same (gz (fun b => b = a) H12) (gz (fun b => b = a) H13) := gz_same fun b o _ h nb => x1 b o h nb
  have rf13 := rf12'.same xs13
  have kk13 := kk12.trans xs13
  have s13 : Spr H13 a (n + 3) := by
    obtain ⟨x, y, z, ea, r⟩ := s12
    exact ⟨x, y, z, x1 _ _ ea (fun _ q => by cases q), r⟩
  clear xs13 x1 gD1 hD1 oddN hus tb12 s12 rf12' kk12 OH Oa lys hk d0 d1 lusN lus12 hm12
  -- heads: what is none
  have hrok : ∀ {G : Hp}, RF a t p1 p2 p3 np nr nh qs ss rs ns G → RoadsOk G ss (.ref nr) rs := fun {G} f => ⟨qs.map V.ref, ⟨nr, rfl, .inl f.r⟩, map_paired (paired_imp (fun m r h => ⟨m, rfl, .inr h⟩) f.v.pr), ok.ends, ok.cut.forest, ok.rl⟩
  refine seq_run (par_run (cons_run (lst_run (mk_cons (mk_tup (mk_cons (mk_c .non) (mk_cons (mk_c (.int 0)) mk_nil))) (mk_cons (mk_tup (mk_cons (mk_c (.int 5)) (mk_cons (mk_c (.int 0)) mk_nil))) (mk_cons (mk_tup (mk_cons (mk_c (.str "ab")) (mk_cons (mk_c (.int 0)) mk_nil))) (mk_cons (mk_tup (mk_cons mk_dict (mk_cons (mk_c (.int 0)) mk_nil))) (mk_cons (mk_tup (mk_cons (mk_c (.bl true)) (mk_cons (mk_c (.int 0)) mk_nil))) mk_nil))))) (by decide) fun us H2 e2 pu O hO => ?_)))
  have s2 := s13.same e2
  have r2 : RF a t p1 p2 p3 np nr nh qs ss rs ns (gz (fun b => b = a) H2) := rf13.same (gz_same fun b o _ h _ => e2 b o h)
  have odd2 : ∀ u ∈ us, OddT K CH CR CD (fun v => (.ref np, .ref nr, v)) CD (gz (fun b => b = a) H2) u := by
    refine paired_all pu fun P hP x hx => ?_
    simp only [List.mem_cons, List.not_mem_nil, or_false] at hP
    rcases hP with rfl | rfl | rfl | rfl | rfl
    · obtain ⟨p, x1, x2, rfl, hp, rfl, rfl⟩ := tup2 hx
      exact ⟨p, _, 0, rfl, gz_tup s2 hp, .inr (.inr ⟨rfl, ss, rs, hok r2, hrok r2, .inl ⟨⟨"NoneType", .base .non, by decide, by decide⟩, rfl⟩⟩)⟩
    · obtain ⟨p, x1, x2, rfl, hp, rfl, rfl⟩ := tup2 hx
      exact ⟨p, _, 0, rfl, gz_tup s2 hp, .inr (.inr ⟨rfl, ss, rs, hok r2, hrok r2, .inl ⟨⟨"int", .base (.int 5), by decide, by decide⟩, rfl⟩⟩)⟩
    · obtain ⟨p, x1, x2, rfl, hp, rfl, rfl⟩ := tup2 hx
      exact ⟨p, _, 0, rfl, gz_tup s2 hp, .inr (.inr ⟨rfl, ss, rs, hok r2, hrok r2, .inl ⟨⟨"str", .base (.str _), by decide, by decide⟩, rfl⟩⟩)⟩
    · obtain ⟨p, x1, x2, rfl, hp, ⟨d, rfl, hd⟩, rfl⟩ := tup2 hx
      exact ⟨p, _, 0, rfl, gz_tup s2 hp, .inr (.inr ⟨rfl, ss, rs, hok r2, hrok r2, .inl ⟨⟨"dict", .base (.dK (gz_dK s2 hd)), by decide, by decide⟩, rfl⟩⟩)⟩
    · obtain ⟨p, x1, x2, rfl, hp, rfl, rfl⟩ := tup2 hx
      exact ⟨p, _, 0, rfl, gz_tup s2 hp, .inr (.inr ⟨rfl, ss, rs, hok r2, hrok r2, .inl ⟨⟨"bool", .base (.bl true), by decide, by decide⟩, rfl⟩⟩)⟩
  have lus : us.length = 5 := pu.length
  have e2O := K1.Same.upd (H := H2) (p := O) (o := .lst us) hO
  have gO := upd_same' H2 O (.lst us)
  have Oa : O ≠ a := s2.ne hO
  have s2O := s2.same e2O
  have rf2 : RF a t p1 p2 p3 np nr nh qs ss rs ns (gz (fun b => b = a) (L2.upd H2 O (.lst us))) := (rf13.same (gz_same fun b o _ h _ => (e2.trans e2O) b o h))
  refine ⟨_, rfl, _, rfl, np, _, rfl, .inl (SqL.of (gz_out _ _ rf2.n)), a, _, _, rfl, s2O, by omega, by rw [List.length_map]; have := ok.pos; omega, ?_, fun d H3 d0 d1 k3 s3 => ⟨_, _, rfl, ?_⟩⟩
  · rw [List.length_map]
    exact Nat.lt_of_le_of_lt (show _ ≤ 100 by omega) (by decide)
  rw [List.length_map] at d1
  obtain ⟨k, rfl⟩ : ∃ k : Nat, d = (k : Int) := ⟨d.toNat, by omega⟩
  have hk : k < ss.length := by omega
  have sm23 : Same (gz (fun b => b = a) H2) (gz (Z2 a O) H3) := fun b o h => by
    obtain ⟨h1, h2, h3⟩ := gz_some.mp h
    exact gz_some.mpr ⟨fun z => z.elim h1 (ne_of_none h2 hO), k3 b o h1 (e2O b o h2), h3⟩
  have odd3 : ∀ u ∈ us, OddT K CH CR CD (fun v => (.ref np, .ref nr, v)) CD (gz (Z2 a O) H3) u := fun u hu => (odd2 u hu).same sm23
  have rf3 : RF a t p1 p2 p3 np nr nh qs ss rs ns (gz (Z2 a O) H3) := r2.same sm23
  have gO3 := k3 _ _ Oa gO
  have tb3 : LamX.Tabs T H3 := by
    obtain ⟨x, y, z, ea, _⟩ := s2O
    exact tabs_kept (tabs_same (tabs_same tb13 e2) e2O) ea k3
  have kk3 : Same (gz (fun b => b = a) H) (gz (Z2 a O) H3) := (kk13.trans (gz_same fun b o _ h _ => e2 b o h)).trans sm23
  clear sm23 odd2 rf2 gO k3 s2O e2O rf13 kk13 tb13 pu r2 s13 hO e2 s2
  -- bad heads
  refine seq_run (for_run (itup_run (tup_run (mk_cons (mk_c .non) (mk_cons (mk_c (.int 0)) (mk_cons (mk_neg 1) (mk_cons (mk_c (.bl true)) (mk_cons (mk_c (.str "1")) (mk_cons (mk_lst (mk_cons (mk_c (.int 1)) mk_nil)) (mk_cons (mk_tup (mk_cons (mk_c (.int 1)) mk_nil)) (mk_cons mk_dict mk_nil)))))))) (by decide) fun ys H4 e4 py X hX => ⟨X, rfl, ⟨_, SqT.of upd_same⟩, ?_⟩)))
  have s4 := s3.same e4
  have gO4 := e4 _ _ gO3
  have gz4 : ∀ {p : Addr} {o : HO}, gz (fun b => b = a) H4 p = some o → o ≠ .lst us → gz (Z2 a O) H4 p = some o := fun {p o} h ne => by
    obtain ⟨h1, h2, h3⟩ := gz_some.mp h
    refine gz_some.mpr ⟨fun z => z.elim h1 fun z => ?_, h2, h3⟩
    rw [z, gO4] at h2
    exact ne (Option.some.inj h2).symm
  have bad4 : ∀ y ∈ ys, BadHead K (gz (Z2 a O) H4) y := by
    refine paired_all py fun P hP x hx => ?_
    simp only [List.mem_cons, List.not_mem_nil, or_false] at hP
    rcases hP with rfl | rfl | rfl | rfl | rfl | rfl | rfl | rfl
    · rw [show x = V.non from hx]
      exact .inl ⟨"NoneType", .base .non, by decide, by decide⟩
    · exact .inr ⟨0, hx, by decide⟩
    · exact .inr ⟨-1, hx, by decide⟩
    · rw [show x = V.bl true from hx]
      exact .inl ⟨"bool", .base (.bl true), by decide, by decide⟩
    · rw [show x = V.str "1" from hx]
      exact .inl ⟨"str", .base (.str _), by decide, by decide⟩
    · obtain ⟨d, xs, rfl, hd, q1⟩ := hx
      have l1 : xs.length = 1 := q1.length
      exact .inl ⟨"list", .base (.lst (gz4 (gz_lst s4 hd (by omega)) (fun z => by rw [HO.lst.inj z] at l1; omega))), by decide, by decide⟩
    · obtain ⟨d, xs, rfl, hd, q1⟩ := hx
      exact .inl ⟨"tuple", .base (.tup (gz4 (gz_tup s4 hd) (fun z => by cases z))), by decide, by decide⟩
    · obtain ⟨d, rfl, hd⟩ := hx
      exact .inl ⟨"dict", .base (.dK (gz4 (gz_dK s4 hd) (fun z => by cases z))), by decide, by decide⟩
  have lys : ys.length = 8 := py.length
  have e5 := K1.Same.upd (H := H4) (p := X) (o := .tup ys) hX
  have gX := upd_same' H4 X (.tup ys)
  have Xa : X ≠ a := s4.ne hX
  have XO : X ≠ O := (ne_of_none gO4 hX).symm
  generalize L2.upd H4 X (.tup ys) = H5 at e5 gX ⊢
  have g45 : Same (gz (Z2 a O) H4) (gz (Z2 a O) H5) := gz_same fun b o _ h _ => e5 b o h
  have g35 : Same (gz (Z2 a O) H3) (gz (Z2 a O) H5) := gz_same fun b o _ h _ => (e4.trans e5) b o h
  have bad5 : ∀ y ∈ ys, BadHead K (gz (Z2 a O) H5) y := fun y hy => (bad4 y hy).ext g45
  have rf5 := rf3.same g35
  have kk5 := kk3.trans g35
  have S5 : OS K CH CR CD (fun v => (.ref np, .ref nr, v)) CD T a O (n + 4) 5 (gz (Z2 a O) H5) H5 := ⟨Same.refl _, s4.same e5, tabs_same tb3 (e4.trans e5), us, e5 _ _ gO4, by omega, fun u hu => (odd3 u hu).same g35⟩
  have gX5 : gz (Z2 a O) H5 X = some (.tup ys) := gz_some.mpr ⟨fun z => z.elim Xa XO, gX, fun _ z => by cases z⟩
  clear g45 g35 e5 e4 rf3 kk3 tb3 odd3 bad4 gz4 gO4 gO3 py hX s3 s4 gX
  refine for_it walk_tup (fun i σ Hc => (∃ y9, σ = [some (.ref a), some (.ref t), none, some (.ref np), some (.ref nr), some (.ref nh), some (.ref O), some (.int (k : Int)), some (.ref Bd2), y9, none, some (.str s1)]) ∧ OS K CH CR CD (fun v => (.ref np, .ref nr, v)) CD T a O (n + 4) (5 + i) (gz (Z2 a O) H5) Hc) ⟨⟨_, rfl⟩, S5⟩ (fun i σ Hc _ h => SqT.of (gz_out _ _ (h.2.kp _ _ gX5))) ?_ ?_
  · rintro i y σ Hc H' hi ⟨⟨y9, rfl⟩, S⟩ ⟨rfl, hy⟩
    have hi' : i < ys.length := hi
    have yb := (bad5 y (List.mem_of_getElem? hy)).ext S.kp
    have rfc := rf5.same S.kp
    obtain ⟨us', hO', lus', _⟩ := S.od
    have hnp := gz_out _ _ rfc.h
    refine ⟨_, rfl, .inl ⟨rfl, _, SqL.of hO'⟩, _, rfl, _, rfl, _, rfl, nh, _, rfl, SqL.of hnp, fun c1 hc1 => ?_⟩
    have T1 := K1.Same.upd (H := H') (p := c1) (o := .lst (cutV (ns.map V.int) none (some (k : Int)))) hc1
    have G1 := upd_same' H' c1 (.lst (cutV (ns.map V.int) none (some (k : Int))))
    generalize L2.upd H' c1 (.lst (cutV (ns.map V.int) none (some (k : Int)))) = J1 at T1 G1 ⊢
    rw [cut_to] at G1
    refine ⟨_, rfl, (by show 1 ≤ sizeLine; decide), fun c2 hc2 => ?_⟩
    have T2 := K1.Same.upd (H := J1) (p := c2) (o := .lst [y]) hc2
    have G2 := upd_same' J1 c2 (.lst [y])
    generalize L2.upd J1 c2 (.lst [y]) = J2 at T2 G2 ⊢
    have lxs : (ns.map V.int).length ≤ 60 := by rw [List.length_map]; omega
    have ltk := List.length_take_le k (ns.map V.int)
    refine ⟨c1, c2, _, _, rfl, rfl, T2 _ _ G1, G2, Nat.le_trans (show _ ≤ 1000 by show (List.take k (ns.map V.int)).length + 1 ≤ 1000; omega) (by decide), fun c3 hc3 => ?_⟩
    have T3 := K1.Same.upd (H := J2) (p := c3) (o := .lst (List.take k (ns.map V.int) ++ [y])) hc3
    have G3 := upd_same' J2 c3 (.lst (List.take k (ns.map V.int) ++ [y]))
    have T13 := T1.trans (T2.trans T3)
    generalize L2.upd J2 c3 (.lst (List.take k (ns.map V.int) ++ [y])) = J3 at T3 G3 T13 ⊢
    refine ⟨_, rfl, _, rfl, _, _, rfl, rfl, _, rfl, nh, _, rfl, SqL.of (T13 _ _ hnp), fun c4 hc4 => ?_⟩
    generalize hR : cutV (ns.map V.int) (some ((k : Int) + 1)) none = R at hc4 ⊢
    have lR : R.length ≤ 60 := by rw [← hR]; exact Nat.le_trans (cutV_length _ _ _) lxs
    have T4 := K1.Same.upd (H := J3) (p := c4) (o := .lst R) hc4
    have G4 := upd_same' J3 c4 (.lst R)
    generalize L2.upd J3 c4 (.lst R) = J4 at T4 G4 ⊢
    refine ⟨c3, c4, _, _, rfl, rfl, T4 _ _ G3, G4, Nat.le_trans (show _ ≤ 1000 by rw [List.length_append]; show (List.take k (ns.map V.int)).length + 1 + R.length ≤ 1000; omega) (by decide), fun c5 hc5 => ?_⟩
    have T5 := K1.Same.upd (H := J4) (p := c5) (o := .lst (List.take k (ns.map V.int) ++ [y] ++ R)) hc5
    have G5 := upd_same' J4 c5 (.lst (List.take k (ns.map V.int) ++ [y] ++ R))
    generalize L2.upd J4 c5 (.lst (List.take k (ns.map V.int) ++ [y] ++ R)) = J5 at T5 G5 ⊢
    refine ⟨(by show 1 ≤ sizeLine; decide), fun c6 hc6 => ?_⟩
    have T6 := K1.Same.upd (H := J5) (p := c6) (o := .lst [.non]) hc6
    have G6 := upd_same' J5 c6 (.lst [.non])
    generalize L2.upd J5 c6 (.lst [.non]) = J6 at T6 G6 ⊢
    refine ⟨c5, c6, _, _, rfl, rfl, T6 _ _ G5, G6, Nat.le_trans (show _ ≤ 1000 by rw [List.length_append, List.length_append]; show (List.take k (ns.map V.int)).length + 1 + R.length + 1 ≤ 1000; omega) (by decide), fun c7 hc7 => ?_⟩
    have T16 := T13.trans (T4.trans (T5.trans T6))
    have n7 := T16.free hc7
    have T7 := K1.Same.upd (H := J6) (p := c7) (o := .lst (List.take k (ns.map V.int) ++ [y] ++ R ++ [.non])) hc7
    have G7 := upd_same' J6 c7 (.lst (List.take k (ns.map V.int) ++ [y] ++ R ++ [.non]))
    generalize L2.upd J6 c7 (.lst (List.take k (ns.map V.int) ++ [y] ++ R ++ [.non])) = J7 at T7 G7 ⊢
    have T17 := T16.trans T7
    refine ⟨_, rfl, (by show 2 ≤ sizeLine; decide), fun u hu => ?_⟩
    have nU := T17.free hu
    have T8 := K1.Same.upd (H := J7) (p := u) (o := .tup [.ref c7, .int (k : Int)]) hu
    have G7' := T8 _ _ G7
    have GU := upd_same' J7 u (.tup [.ref c7, .int (k : Int)])
    have TJ := T17.trans T8
    generalize L2.upd J7 u (.tup [.ref c7, .int (k : Int)]) = J at G7' GU TJ ⊢
    have h5 : gz (Z2 a O) J c7 = some (.lst (List.take k (ns.map V.int) ++ [y] ++ R ++ [.non])) := gz_some.mpr ⟨fun z => z.elim (S.sp.ne n7) (ne_of_none hO' n7).symm, G7', fun _ z => by cases z⟩
    have hU : gz (Z2 a O) J u = some (.tup [.ref c7, .int (k : Int)]) := gz_some.mpr ⟨fun z => z.elim (S.sp.ne nU) (ne_of_none hO' nU).symm, GU, fun _ z => by cases z⟩
    have gJ : Same (gz (Z2 a O) H') (gz (Z2 a O) J) := gz_same fun b o _ h _ => TJ b o h
    have rfJ := rfc.same gJ
    have hb : OddT K CH CR CD (fun v => (.ref np, .ref nr, v)) CD (gz (Z2 a O) J) (.ref u) := by
      refine ⟨u, .ref c7, k, rfl, hU, .inr (.inr ⟨rfl, ss, rs, hok rfJ, hrok rfJ, .inr (.inr ⟨ns.take k, y, R ++ [.non], ⟨c7, rfl, .inl ?_⟩, fun z hz => ok.ge z (List.mem_of_mem_take hz), by rw [List.length_take]; omega, .inr (yb.ext gJ), by rw [List.length_take]; omega⟩)⟩)⟩
      rw [h5, ← List.map_take, List.append_assoc, List.append_assoc]
      rfl
    obtain ⟨us2, hO2, l2, S2⟩ := S.add TJ Oa (k := 1) (vs := [.ref u]) rfl (fun z hz => by rw [List.mem_singleton.mp hz]; exact hb)
    exact ⟨O, us2, _, rfl, rfl, hO2, small1000 (by omega), ⟨_, rfl⟩, S2⟩
  rintro σ H6 ⟨⟨y9, rfl⟩, S6⟩
  have rf6 := rf5.same S6.kp
  obtain ⟨us6, hO6, lu6, _⟩ := S6.od
  have hnn := gz_out _ _ rf6.n
  have hnh := gz_out _ _ rf6.h
  obtain ⟨init, hd, ei⟩ : ∃ init hd, ns = init ++ [hd] := by
    rcases List.eq_nil_or_concat ns with e | ⟨i, l, e⟩
    · have h1 := ok.pos
      rw [e] at lns
      simp at lns
      omega
    · exact ⟨i, l, by rw [e, List.concat_eq_append]⟩
  have lin : init.length + 1 = ns.length := by rw [ei, List.length_append]; rfl
  have hnh2 : H6 nh = some (.lst (init.map V.int ++ [V.int hd])) := by rw [hnh, ei, List.map_append]; rfl
  have lnn : (((ss.map V.str).length : Nat) : Int) = ((ss.length : Nat) : Int) := by rw [List.length_map]
  have ln1 : (((ss.map V.str).length : Nat) : Int) - 1 = ((init.length : Nat) : Int) := by rw [List.length_map]; omega
  refine ⟨_, rfl, .inl ⟨rfl, _, SqL.of hO6⟩, _, rfl, _, rfl, _, rfl, nh, _, rfl, SqL.of hnh2, fun c1 hc1 => ?_⟩
  have f1 : H6 c1 = none := hc1
  have T1 := K1.Same.upd (H := H6) (p := c1) (o := .lst (cutV (init.map V.int ++ [V.int hd]) none (some (-1)))) hc1
  have hnn := T1 _ _ hnn
  have hnh := T1 _ _ hnh
  have G1 := upd_same' H6 c1 (.lst (cutV (init.map V.int ++ [V.int hd]) none (some (-1))))
  have E1 := T1
  generalize L2.upd H6 c1 (.lst (cutV (init.map V.int ++ [V.int hd]) none (some (-1)))) = Kh1 at T1 G1 E1 hnn hnh ⊢
  rw [cut_but] at G1
  refine ⟨_, rfl, np, _, rfl, .inl (SqL.of hnn), _, _, rfl, rfl, (by show 2 ≤ sizeLine; decide), fun u1 hu1 => ?_⟩
  have f2 : H6 u1 = none := E1.free hu1
  have T2 := K1.Same.upd (H := Kh1) (p := u1) (o := .tup [.ref c1, .int ((((ss.map V.str).length : Nat) : Int) - 1)]) hu1
  have hnn := T2 _ _ hnn
  have hnh := T2 _ _ hnh
  have G1 := T2 _ _ G1
  have G2 := upd_same' Kh1 u1 (.tup [.ref c1, .int ((((ss.map V.str).length : Nat) : Int) - 1)])
  have E2 := E1.trans T2
  generalize L2.upd Kh1 u1 (.tup [.ref c1, .int ((((ss.map V.str).length : Nat) : Int) - 1)]) = Kh2 at T2 G2 E2 hnn hnh G1 ⊢
  rw [ln1] at G2
  refine ⟨_, rfl, (by show 1 ≤ sizeLine; decide), fun c2 hc2 => ?_⟩
  have T3 := K1.Same.upd (H := Kh2) (p := c2) (o := .lst [.int 1]) hc2
  have hnn := T3 _ _ hnn
  have hnh := T3 _ _ hnh
  have G1 := T3 _ _ G1
  have G2 := T3 _ _ G2
  have G3 := upd_same' Kh2 c2 (.lst [.int 1])
  have E3 := E2.trans T3
  generalize L2.upd Kh2 c2 (.lst [.int 1]) = Kh3 at T3 G3 E3 hnn hnh G1 G2 ⊢
  refine ⟨nh, c2, _, _, rfl, rfl, hnh, G3, Nat.le_trans (show (ns.map V.int).length + 1 ≤ 1000 by rw [List.length_map]; omega) (by decide), fun c3 hc3 => ?_⟩
  have f3 : H6 c3 = none := E3.free hc3
  have T4 := K1.Same.upd (H := Kh3) (p := c3) (o := .lst (ns.map V.int ++ [.int 1])) hc3
  have hnn := T4 _ _ hnn
  have hnh := T4 _ _ hnh
  have G1 := T4 _ _ G1
  have G2 := T4 _ _ G2
  have G3 := T4 _ _ G3
  have G4 := upd_same' Kh3 c3 (.lst (ns.map V.int ++ [.int 1]))
  have E4 := E3.trans T4
  generalize L2.upd Kh3 c3 (.lst (ns.map V.int ++ [.int 1])) = Kh4 at T4 G4 E4 hnn hnh G1 G2 G3 ⊢
  refine ⟨_, rfl, np, _, rfl, .inl (SqL.of hnn), (by show 2 ≤ sizeLine; decide), fun u2 hu2 => ?_⟩
  have f4 : H6 u2 = none := E4.free hu2
  have T5 := K1.Same.upd (H := Kh4) (p := u2) (o := .tup [.ref c3, .int (((ss.map V.str).length : Nat) : Int)]) hu2
  have hnn := T5 _ _ hnn
  have hnh := T5 _ _ hnh
  have G1 := T5 _ _ G1
  have G2 := T5 _ _ G2
  have G3 := T5 _ _ G3
  have G4 := T5 _ _ G4
  have G5 := upd_same' Kh4 u2 (.tup [.ref c3, .int (((ss.map V.str).length : Nat) : Int)])
  have E5 := E4.trans T5
  generalize L2.upd Kh4 u2 (.tup [.ref c3, .int (((ss.map V.str).length : Nat) : Int)]) = Kh5 at T5 G5 E5 hnn hnh G1 G2 G3 G4 ⊢
  rw [lnn] at G5
  refine ⟨_, rfl, (by show 1 ≤ sizeLine; decide), fun c4 hc4 => ?_⟩
  have T6 := K1.Same.upd (H := Kh5) (p := c4) (o := .lst [.non]) hc4
  have hnn := T6 _ _ hnn
  have hnh := T6 _ _ hnh
  have G1 := T6 _ _ G1
  have G2 := T6 _ _ G2
  have G3 := T6 _ _ G3
  have G4 := T6 _ _ G4
  have G5 := T6 _ _ G5
  have G6 := upd_same' Kh5 c4 (.lst [.non])
  have E6 := E5.trans T6
  generalize L2.upd Kh5 c4 (.lst [.non]) = Kh6 at T6 G6 E6 hnn hnh G1 G2 G3 G4 G5 ⊢
  refine ⟨nh, c4, _, _, rfl, rfl, hnh, G6, Nat.le_trans (show (ns.map V.int).length + 1 ≤ 1000 by rw [List.length_map]; omega) (by decide), fun c5 hc5 => ?_⟩
  have f5 : H6 c5 = none := E6.free hc5
  have T7 := K1.Same.upd (H := Kh6) (p := c5) (o := .lst (ns.map V.int ++ [.non])) hc5
  have hnn := T7 _ _ hnn
  have hnh := T7 _ _ hnh
  have G1 := T7 _ _ G1
  have G2 := T7 _ _ G2
  have G3 := T7 _ _ G3
  have G4 := T7 _ _ G4
  have G5 := T7 _ _ G5
  have G6 := T7 _ _ G6
  have G7 := upd_same' Kh6 c5 (.lst (ns.map V.int ++ [.non]))
  have E7 := E6.trans T7
  generalize L2.upd Kh6 c5 (.lst (ns.map V.int ++ [.non])) = Kh7 at T7 G7 E7 hnn hnh G1 G2 G3 G4 G5 G6 ⊢
  refine ⟨_, rfl, np, _, rfl, .inl (SqL.of hnn), (by show 2 ≤ sizeLine; decide), fun u3 hu3 => ?_⟩
  have f6 : H6 u3 = none := E7.free hu3
  have T8 := K1.Same.upd (H := Kh7) (p := u3) (o := .tup [.ref c5, .int (((ss.map V.str).length : Nat) : Int)]) hu3
  have hnn := T8 _ _ hnn
  have hnh := T8 _ _ hnh
  have G1 := T8 _ _ G1
  have G2 := T8 _ _ G2
  have G3 := T8 _ _ G3
  have G4 := T8 _ _ G4
  have G5 := T8 _ _ G5
  have G6 := T8 _ _ G6
  have G7 := T8 _ _ G7
  have G8 := upd_same' Kh7 u3 (.tup [.ref c5, .int (((ss.map V.str).length : Nat) : Int)])
  have E8 := E7.trans T8
  generalize L2.upd Kh7 u3 (.tup [.ref c5, .int (((ss.map V.str).length : Nat) : Int)]) = Kh8 at T8 G8 E8 hnn hnh G1 G2 G3 G4 G5 G6 G7 ⊢
  rw [lnn] at G8
  refine ⟨(by show 3 ≤ sizeLine; decide), fun l hl => ?_⟩
  have T9 := K1.Same.upd (H := Kh8) (p := l) (o := .lst [.ref u1, .ref u2, .ref u3]) hl
  have hnn := T9 _ _ hnn
  have hnh := T9 _ _ hnh
  have G1 := T9 _ _ G1
  have G2 := T9 _ _ G2
  have G3 := T9 _ _ G3
  have G4 := T9 _ _ G4
  have G5 := T9 _ _ G5
  have G6 := T9 _ _ G6
  have G7 := T9 _ _ G7
  have G8 := T9 _ _ G8
  have G9 := upd_same' Kh8 l (.lst [.ref u1, .ref u2, .ref u3])
  have E9 := E8.trans T9
  generalize L2.upd Kh8 l (.lst [.ref u1, .ref u2, .ref u3]) = Kh9 at T9 G9 E9 hnn hnh G1 G2 G3 G4 G5 G6 G7 G8 ⊢
  have gJ : Same (gz (Z2 a O) H6) (gz (Z2 a O) Kh9) := gz_same fun b o _ h _ => E9 b o h
  have rfJ := rf6.same gJ
  have up : ∀ {p : Addr} {o : HO}, H6 p = none → Kh9 p = some o → (∀ ps, o ≠ .tbl ps) → gz (Z2 a O) Kh9 p = some o := fun h1 h2 h3 => gz_some.mpr ⟨fun z => z.elim (S6.sp.ne h1) (ne_of_none hO6 h1).symm, h2, h3⟩
  have b1 : OddT K CH CR CD (fun v => (.ref np, .ref nr, v)) CD (gz (Z2 a O) Kh9) (.ref u1) := ⟨u1, .ref c1, init.length, rfl, up f2 G2 (fun _ z => by cases z), .inr (.inr ⟨rfl, ss, rs, hok rfJ, hrok rfJ, .inr (.inl ⟨init, ⟨c1, rfl, .inl (up f1 G1 (fun _ z => by cases z))⟩, fun z hz => ok.ge z (by rw [ei]; exact List.mem_append.mpr (.inl hz)), by omega, rfl⟩)⟩)⟩
  have b2 : OddT K CH CR CD (fun v => (.ref np, .ref nr, v)) CD (gz (Z2 a O) Kh9) (.ref u2) := ⟨u2, .ref c3, ss.length, rfl, up f4 G5 (fun _ z => by cases z), .inr (.inr ⟨rfl, ss, rs, hok rfJ, hrok rfJ, .inr (.inr ⟨ns, .int 1, [], ⟨c3, rfl, .inl (up f3 G4 (fun _ z => by cases z))⟩, ok.ge, by omega, .inl lns, lns.symm⟩)⟩)⟩
  have b3 : OddT K CH CR CD (fun v => (.ref np, .ref nr, v)) CD (gz (Z2 a O) Kh9) (.ref u3) := ⟨u3, .ref c5, ss.length, rfl, up f6 G8 (fun _ z => by cases z), .inr (.inr ⟨rfl, ss, rs, hok rfJ, hrok rfJ, .inr (.inr ⟨ns, .non, [], ⟨c5, rfl, .inl (up f5 G7 (fun _ z => by cases z))⟩, ok.ge, by omega, .inl lns, lns.symm⟩)⟩)⟩
  obtain ⟨us7, hO7, lu7, S7⟩ := S6.add E9 Oa (k := 3) (vs := [.ref u1, .ref u2, .ref u3]) rfl (fun z hz => by
    simp only [List.mem_cons, List.not_mem_nil, or_false] at hz
    rcases hz with rfl | rfl | rfl
    · exact b1
    · exact b2
    · exact b3)
  refine ⟨O, l, us7, _, rfl, rfl, hO7, G9, Nat.le_trans (show us7.length + 3 ≤ 1000 by omega) (by decide), ?_⟩
  generalize L2.upd Kh9 O (.lst (us7 ++ [.ref u1, .ref u2, .ref u3])) = H7 at S7 ⊢
  have rf7 := rf5.same S7.kp
  have kk7 := (kk5.trans S7.kp).trans (gz_le (Z := fun b => b = a) fun b z => .inl z)
  have s7 := S7.sp
  have tb7 := S7.tb
  obtain ⟨us8, hus, lus8, od8⟩ := S7.od
  have oddN : ∀ u ∈ us8, OddT K CH CR CD (fun v => (.ref np, .ref nr, v)) CD (nt H7) u := fun u hu => (od8 u hu).same gz_nt
  have lusN : us8.length ≤ 1000 := by omega
  clear od8 S7 S6 gJ rfJ up b1 b2 b3 G1 G2 G3 G4 G5 G6 G7 G8 G9 hnn hnh hnh2 hO6 hO7
  generalize us8 = us9 at hus oddN lusN ⊢
  refine ⟨_, rfl, O, rfl, ⟨_, SqL.of hus⟩, fun D1 hD1 => ?_⟩
  refine lc_it walk_list (fun i Hc => LamX.ExtN H7 Hc ∧ LamX.Tabs T Hc ∧ Hc D1 = some (.lst ((List.replicate i false).map V.bl))) ⟨LamX.ExtN.of (K1.Same.upd hD1), tabs_same tb7 (K1.Same.upd hD1), upd_same⟩ (fun i Hc _ h => SqL.of (h.1 _ _ hus (fun _ z => by cases z))) ?_ ?_
  · rintro i y Hc H' hi ⟨c1, c2, c3⟩ ⟨rfl, hy⟩
    obtain ⟨p, vv, j, rfl, hp, nv⟩ := oddN y (List.mem_of_getElem? hy)
    have hp' := c1 _ _ (nt_out _ _ hp) (fun _ z => by cases z)
    refine ⟨p, _, rfl, SqT.of hp', rfl, _, _, rfl, _, _, rfl, rfl, rfl, ?_⟩
    unfold tYes
    refine iteT (ne_met (i := j) c2 (nv.ext (nt_same c1)) (.inr (.inr ⟨rfl, rfl⟩)) (fun E H2 Q2 hsp => ⟨_, rfl, _, rfl, _, rfl, fun x dx n1 n2 n3 => hsp x dx n1 n2 n3⟩) rfl (by decide +kernel) fun H2 eN T2 => ?_)
    have hi' : i < us9.length := hi
    refine ⟨_, eN _ _ c3 (fun _ z => by cases z), by rw [List.length_map, List.length_replicate]; exact small1000 (by omega), fun b o nb ntb => ?_, tabs_kept T2 (eN _ _ c3 (fun _ z => by cases z)) Kept.upd, ?_⟩
    · rw [upd_ne (ne_of_none nb hD1)]
      exact eN _ _ (c1 _ _ nb ntb) ntb
    · rw [upd_same, List.replicate_succ', List.map_append]
      rfl
  rintro H8 ⟨x1, tb8, gD1⟩
  refine ⟨D1, _, rfl, SqL.of gD1, _, rfl, ?_⟩
  rw [any9]
  have xs8 : Same (gz (fun b => b = a) H7) (gz (fun b => b = a) H8) := gz_same fun b o _ h nb => x1 b o h nb
  have s8 : Spr H8 a (n + 4) := by
    obtain ⟨x, y, z, ea, r⟩ := s7
    exact ⟨x, y, z, x1 _ _ ea (fun _ q => by cases q), r⟩
  exact q H8 (kk7.trans xs8) (s8.mono (by omega)) tb8
end
end K1
end
-- KLaw15
section
set_option Elab.async false
set_option linter.all false
set_option maxRecDepth 100000
set_option maxHeartbeats 1000000
namespace K1
open PySem PySem.Spec PyProof.Rows L2
abbrev sLaw : Stmt := top 43
def spLaw (K : PySem.W.Frag) (T : List (Addr × Str)) : Sp := fun vs H Q _ => ∃ (p : Addr) (ns : List Int), vs = [.ref p] ∧ SqL K H p (ns.map V.int) ∧ ns.length ≤ 1000 ∧ LamX.Tabs T H ∧ ∀ H', Q (.bl true) H'
theorem scLaw : FnScope ["script", "turn", "spring", "least", "most", "valley"] ["script"] (defScope sLaw) := ⟨rfl, rfl, rfl, by decide +kernel, rfl, by decide +kernel, by decide +kernel⟩
theorem seq_extN {K : PySem.W.Frag} {H H' : Hp} {a : Addr} {xs : List V} (e : LamX.ExtN H H') (h : SqL K H a xs) : SqL K H' a xs := by
  rcases h with (h | ⟨o, h⟩) | h
  · exact .inl (.inl (e _ _ h (fun _ z => by cases z)))
  · exact .inl (.inr ⟨o, e _ _ h (fun _ z => by cases z)⟩)
  · exact .inr h
theorem Spr.tabs {T : List (Addr × Str)} {H H' : Hp} {a : Addr} {n : Nat} (s : Spr H a n) (t : LamX.Tabs T H) (k : Kept a H H') : LamX.Tabs T H' := by
  obtain ⟨x, y, z, e, _⟩ := s
  exact tabs_kept t e k
section
variable {P : Program} {w : World} {K : PySem.W.Frag} {mg : Str → Option Value} {base : Heap} {T : List (Addr × Str)}
theorem ok_law {f : Addr} {fd : FuncData} (F : Fun K "law" "law" sLaw f fd) (B : Bl mg) (mr : mg "range" = none) (mn : mg "min" = none) (mx : mg "max" = none)
    (hS : Fx P w K mg base CX0 1 "_law_spring" ["script", "turn"] (spSpring K)) (hV : Fx P w K mg base CX0 4 "_law_v_valley" ["spring", "least", "most"] spVV)
    (hT : Fx P w K mg base CX0 8 "_law_told_right" ["spring", "valley"] spRight) (hE : Fx P w K mg base CX0 8 "_law_equal_right" ["spring", "valley"] spRight) (hR : Fx P w K mg base CX0 9 "_law_refused_right" ["spring", "valley"] (spRR T)) :
    FnOk P w K mg base CX0 10 f fd ["script"] (spLaw K T) := by
  obtain ⟨fS, fdS, GS, bS, kS, mS⟩ := hS
  obtain ⟨fV, fdV, GV, bV, kV, mV⟩ := hV
  obtain ⟨fT, fdT, GT, bT, kT, mT⟩ := hT
  obtain ⟨fE, fdE, GE, bE, kE, mE⟩ := hE
  obtain ⟨fR, fdR, GR, bR, kR, mR⟩ := hR
  refine F.ok scLaw (fun vs H Q E h => ?_) (fun cdv A outer s H vs Q E hr h => ?_)
  · obtain ⟨p, ns, rfl, _⟩ := h
    rfl
  obtain ⟨p, ns, rfl, hp, hl, tb, q⟩ := h
  have nd := scLaw.nd
  have hr1 : Room 1 _ := hr.mono (by decide)
  have hr4 : Room 4 _ := hr.mono (by decide)
  have hr8 : Room 8 _ := hr.mono (by decide)
  refine ⟨_, (pss_cons (by exact (ps_for PassesOwn.never rfl (by exact pi_range1 rfl mr (pa_cons (pe_callB (call_min2 rfl) rfl mn (by decide +kernel) (pa_cons pe_int (pa_cons (pe_callB (call_max2 rfl) rfl mx (by decide +kernel) (pa_cons pe_int (pa_cons (pe_callB call_len_seq rfl B.len PySem.boot_len (pa_cons (pv 0) pa_nil)) pa_nil))) pa_nil))) pa_nil)) (pg_name (i := 1) nd rfl (.inl rfl)) (pss_cons (by exact (ps_set (i := 2) nd rfl (.inl rfl) (pe_call GS hr1 rfl mS kS bS .nil pass0 (pa_cons (pv 0) (pa_cons (pv 1) pa_nil)))))
  (pss_one (by exact (ps_for PassesOwn.never rfl (by exact pi_tup (pe_tup (pa_cons (pe_tup (pa_cons pe_int (pa_cons pe_int pa_nil))) (pa_cons (pe_tup (pa_cons pe_int (pa_cons pe_int pa_nil))) (pa_cons (pe_tup (pa_cons pe_int (pa_cons pe_int pa_nil))) (pa_cons (pe_tup (pa_cons pe_int (pa_cons pe_int pa_nil))) pa_nil)))))) (pg_tup rfl (pgs_cons (pg_name (i := 3) nd rfl (.inl rfl)) (pgs_cons (pg_name (i := 4) nd rfl (.inl rfl)) pgs_nil))) (pss_cons (by exact (ps_set (i := 5) nd rfl (.inl rfl) (pe_call GV hr4 rfl mV kV bV .nil pass0 (pa_cons (pv 2) (pa_cons (pv 3) (pa_cons (pv 4) pa_nil))))))
  (pss_cons (by exact (ps_if (PW.pt (pw_or (pt_not (pt_val (pe_call GT hr8 rfl mT kT bT .nil pass0 (pa_cons (pv 2) (pa_cons (pv 5) pa_nil))))) (pw_or1 (pt_not (pt_val (pe_call GE hr8 rfl mE kE bE .nil pass0 (pa_cons (pv 2) (pa_cons (pv 5) pa_nil)))))))) (pss_one (by exact (ps_ret pe_bl))) pss_nil))
  (pss_one (by exact (ps_if (PW.pt (pw_and (pt_cmpR op_lt (pv 3) pe_int (nomark _)) (pw_and1 (pt_not (pt_val (pe_call GR hr rfl mR kR bR .nil pass0 (pa_cons (pv 2) (pa_cons (pv 5) pa_nil)))))))) (pss_one (by exact (ps_ret pe_bl))) pss_nil)))))))))))
  (pss_one (by exact (ps_ret pe_bl)))), ?_⟩
  refine ⟨_, rfl, p, _, rfl, .inl hp, _, _, rfl, _, _, rfl, _, rfl, ?_, ?_, ?_⟩
  · have := List.length_map (f := V.int) (as := ns)
    repeat' split
    all_goals omega
  · have := List.length_map (f := V.int) (as := ns)
    repeat' split
    all_goals omega
  refine for_range (lo := 0) (fun i σ Hc => (∃ x1 x2 x3 x4 x5, σ = [some (.ref p), x1, x2, x3, x4, x5]) ∧ LamX.ExtN H Hc ∧ LamX.Tabs T Hc) ⟨⟨_, _, _, _, _, rfl⟩, LamX.ExtN.refl H, tb⟩ ?_ ?_
  · rintro i σ Hc hi ⟨⟨x1, x2, x3, x4, x5, rfl⟩, g1, g2⟩
    have hi3 : i < 100 := by
      have hll := List.length_map (f := V.int) (as := ns)
      revert hi
      repeat' split
      all_goals omega
    refine ⟨_, rfl, _, rfl, p, _, ns, rfl, seq_extN g1 hp, by omega, by omega, hl, fun a H1 e1 na s1 => ?_⟩
    have tb1 := tabs_same g2 e1
    refine seq_run (for_run (itup_run (tup_run (mk_cons (mk_tup (mk_cons (mk_c (.int 1)) (mk_cons (mk_c (.int 2)) mk_nil))) (mk_cons (mk_tup (mk_cons (mk_c (.int 2)) (mk_cons (mk_c (.int 6)) mk_nil))) (mk_cons (mk_tup (mk_cons (mk_c (.int 3)) (mk_cons (mk_c (.int 12)) mk_nil))) (mk_cons (mk_tup (mk_cons (mk_c (.int 13)) (mk_cons (mk_c (.int 60)) mk_nil))) mk_nil)))) (by decide) fun ys H2 e2 py X hX => ⟨X, rfl, ⟨_, SqT.of upd_same⟩, ?_⟩)))
    have two : ∀ y ∈ ys, ∃ (qq : Addr) (l m : Int), y = .ref qq ∧ H2 qq = some (.tup [.int l, .int m]) ∧ 1 ≤ l ∧ l ≤ m ∧ m ≤ 60 := by
      refine paired_all py fun P hP x hx => ?_
      simp only [List.mem_cons, List.not_mem_nil, or_false] at hP
      rcases hP with rfl | rfl | rfl | rfl
      · obtain ⟨p, u1, u2, rfl, hp, rfl, rfl⟩ := tup2 hx
        exact ⟨p, 1, 2, rfl, hp, by decide, by decide, by decide⟩
      · obtain ⟨p, u1, u2, rfl, hp, rfl, rfl⟩ := tup2 hx
        exact ⟨p, 2, 6, rfl, hp, by decide, by decide, by decide⟩
      · obtain ⟨p, u1, u2, rfl, hp, rfl, rfl⟩ := tup2 hx
        exact ⟨p, 3, 12, rfl, hp, by decide, by decide, by decide⟩
      · obtain ⟨p, u1, u2, rfl, hp, rfl, rfl⟩ := tup2 hx
        exact ⟨p, 13, 60, rfl, hp, by decide, by decide, by decide⟩
    have lys : ys.length = 4 := py.length
    have e3 := K1.Same.upd (H := H2) (p := X) (o := .tup ys) hX
    have gX := upd_same' H2 X (.tup ys)
    generalize L2.upd H2 X (.tup ys) = H3 at e3 gX ⊢
    have s3 := (s1.same e2).same e3
    have tb3 := tabs_same (tabs_same tb1 e2) e3
    have two3 : ∀ y ∈ ys, ∃ (qq : Addr) (l m : Int), y = .ref qq ∧ gz (fun b => b = a) H3 qq = some (.tup [.int l, .int m]) ∧ 1 ≤ l ∧ l ≤ m ∧ m ≤ 60 := fun y hy => by
      obtain ⟨qq, l, m, h1, h2, h3⟩ := two y hy
      exact ⟨qq, l, m, h1, gz_tup s3 (e3 _ _ h2), h3⟩
    have gX3 := gz_tup s3 gX
    have e03 : ∀ b o, Hc b = some o → H3 b = some o := (e1.trans (e2.trans e3))
    refine for_it walk_tup (fun k σ Hd => (∃ x3 x4 x5, σ = [some (.ref p), some (.int (0 + (i : Int))), some (.ref a), x3, x4, x5]) ∧ Same (gz (fun b => b = a) H3) (gz (fun b => b = a) Hd) ∧ Spr Hd a (0 + 7000 * k) ∧ LamX.Tabs T Hd) ⟨⟨_, _, _, rfl⟩, Same.refl _, s3, tb3⟩ (fun k σ Hd _ h => SqT.of (gz_out _ _ (h.2.1 _ _ gX3))) ?_ ?_
    · rintro k y σ Hd H' hk ⟨⟨y3, y4, y5, rfl⟩, f1, f2, f3⟩ ⟨rfl, hy⟩
      rw [lys] at hk
      obtain ⟨qq, l, m, rfl, hq, l1, l2, l3⟩ := two3 y (List.mem_of_getElem? hy)
      refine ⟨qq, _, rfl, SqT.of (gz_out _ _ (f1 _ _ hq)), rfl, _, _, rfl, _, _, rfl, rfl, ?_⟩
      refine ⟨_, rfl, _, rfl, _, rfl, a, l, m, _, rfl, f2, by omega, l1, l2, l3, fun t p1 p2 p3 qs ss rs nss HA kA sA vA okA _ _ => ?_⟩
      have tA := f2.tabs f3 kA
      refine ⟨_, rfl, _, rfl, a, t, p1, p2, p3, qs, ss, rs, nss, _, rfl, sA, by omega, vA, okA, fun HB kB sB => ⟨_, rfl, ?_⟩⟩
      have tB := sA.tabs tA kB
      have vB := vA.kept sA kB
      refine iteF ⟨_, rfl, _, rfl, a, t, p1, p2, p3, qs, ss, rs, nss, _, rfl, sB, by omega, vB, okA, fun HC kC sC => ⟨_, rfl, ?_⟩⟩
      have tC := sB.tabs tB kC
      have vC := vB.kept sB kC
      have gAC : Same (gz (fun b => b = a) H') (gz (fun b => b = a) HC) := gz_same fun b o nb h _ => kC b o nb (kB b o nb (kA b o nb h))
      refine iteF ⟨_, rfl, _, _, rfl, rfl, _, rfl, ?_⟩
      by_cases hl13 : l < 13
      · refine ite2 (fun _ => ?_) (fun hn => absurd (decide_eq_true hl13) hn)
        refine ⟨_, rfl, _, rfl, a, t, p1, p2, p3, qs, ss, rs, nss, _, rfl, sC, by omega, vC, okA, tC, fun HD gD sD tD => ⟨_, rfl, ?_⟩⟩
        refine iteF ⟨⟨_, _, _, rfl⟩, f1.trans (gAC.trans gD), sD.mono (by omega), tD⟩
      · refine ite2 (fun hy => absurd (of_decide_eq_true hy) hl13) (fun _ => ?_)
        refine iteF ⟨⟨_, _, _, rfl⟩, f1.trans gAC, sC.mono (by omega), tC⟩
    · rintro σ Hd ⟨⟨y3, y4, y5, rfl⟩, f1, f2, f3⟩
      refine ⟨⟨_, _, _, _, _, rfl⟩, fun b o h nb => ?_, f3⟩
      have h1 := g1 b o h nb
      have nba : b ≠ a := ne_of_none h1 na
      exact gz_out _ _ (f1 _ _ (gz_some.mpr ⟨nba, e03 b o h1, nb⟩))
  · rintro σ Hc ⟨⟨x1, x2, x3, x4, x5, rfl⟩, g1, g2⟩
    exact q Hc
end
end K1
end
-- KEnd
section
set_option Elab.async false
set_option linter.all false
set_option maxRecDepth 100000
set_option maxHeartbeats 4000000
namespace K1
open PySem PySem.Spec PyProof.Rows L2
theorem all_of_kit {K : PySem.W.Frag} {C : Addr} (h : ((kinds ++ ["function"]).all fun t => PySem.W.kitOne K (.type t) (.ref C) == some false) = true) : ∀ t ∈ kinds ++ ["function"], PySem.W.kitOne K (.type t) (.ref C) = some false := fun t ht => beq_iff_eq.mp (List.all_eq_true.mp h t ht)
theorem all_of_nf {K : PySem.W.Frag} {C : Addr} (h : ((kinds ++ ["function"]).all fun t => PySem.W.notFirst K C (.type t)) = true) : ∀ t ∈ kinds ++ ["function"], PySem.W.notFirst K C (.type t) = true := fun t ht => List.all_eq_true.mp h t ht

theorem all_mk {l : PySem.W.OpenLaw} {w : World} {K : PySem.W.Frag} {h : Heap} {mg : Str → Option Value} {fa : Addr}
    {cd_isInt : Value}
    {f_isInt : Addr} {od_isInt an_isInt : Option Addr} {sl_isInt : Array (Option Value)} {oc_isInt kV_isInt dc_isInt pm_isInt ct_isInt : Value}
    {cd_fromOne : Value}
    {f_fromOne : Addr} {od_fromOne an_fromOne : Option Addr} {sl_fromOne : Array (Option Value)} {oc_fromOne kV_fromOne dc_fromOne pm_fromOne ct_fromOne : Value}
    {cd_isList : Value}
    {f_isList : Addr} {od_isList an_isList : Option Addr} {sl_isList : Array (Option Value)} {oc_isList kV_isList dc_isList pm_isList ct_isList : Value}
    {cd_isPair : Value}
    {f_isPair : Addr} {od_isPair an_isPair : Option Addr} {sl_isPair : Array (Option Value)} {oc_isPair kV_isPair dc_isPair pm_isPair ct_isPair : Value}
    {cd_isName : Value}
    {f_isName : Addr} {od_isName an_isName : Option Addr} {sl_isName : Array (Option Value)} {oc_isName kV_isName dc_isName pm_isName ct_isName : Value}
    {cd_draw : Value}
    {f_draw : Addr} {od_draw an_draw : Option Addr} {sl_draw : Array (Option Value)} {oc_draw kV_draw dc_draw pm_draw ct_draw : Value}
    {cd_pick : Value}
    {f_pick : Addr} {od_pick an_pick : Option Addr} {sl_pick : Array (Option Value)} {oc_pick kV_pick dc_pick pm_pick ct_pick : Value}
    {cd_mixed : Value}
    {f_mixed : Addr} {od_mixed an_mixed : Option Addr} {sl_mixed : Array (Option Value)} {oc_mixed kV_mixed dc_mixed pm_mixed ct_mixed : Value}
    {cd_ND : Value}
    {f_ND : Addr} {od_ND an_ND : Option Addr} {sl_ND : Array (Option Value)} {oc_ND kV_ND dc_ND pm_ND ct_ND : Value}
    {cd_NH : Value}
    {f_NH : Addr} {od_NH an_NH : Option Addr} {sl_NH : Array (Option Value)} {oc_NH kV_NH dc_NH pm_NH ct_NH : Value}
    {cd_NR : Value}
    {f_NR : Addr} {od_NR an_NR : Option Addr} {sl_NR : Array (Option Value)} {oc_NR kV_NR dc_NR pm_NR ct_NR : Value}
    {cd_keys : Value}
    {f_keys : Addr} {od_keys an_keys : Option Addr} {sl_keys : Array (Option Value)} {oc_keys kV_keys dc_keys pm_keys ct_keys : Value}
    {cd_lead : Value}
    {f_lead : Addr} {od_lead an_lead : Option Addr} {sl_lead : Array (Option Value)} {oc_lead kV_lead dc_lead pm_lead ct_lead : Value}
    {cd_BW : Value}
    {f_BW : Addr} {od_BW an_BW : Option Addr} {sl_BW : Array (Option Value)} {oc_BW kV_BW dc_BW pm_BW ct_BW : Value}
    {cd_NB : Value}
    {f_NB : Addr} {od_NB an_NB : Option Addr} {sl_NB : Array (Option Value)} {oc_NB kV_NB dc_NB pm_NB ct_NB : Value}
    {cd_spring : Value}
    {f_spring : Addr} {od_spring an_spring : Option Addr} {sl_spring : Array (Option Value)} {oc_spring kV_spring dc_spring pm_spring ct_spring : Value}
    {cd_VN : Value}
    {f_VN : Addr} {od_VN an_VN : Option Addr} {sl_VN : Array (Option Value)} {oc_VN kV_VN dc_VN pm_VN ct_VN : Value}
    {cd_VRo : Value}
    {f_VRo : Addr} {od_VRo an_VRo : Option Addr} {sl_VRo : Array (Option Value)} {oc_VRo kV_VRo dc_VRo pm_VRo ct_VRo : Value}
    {cd_VV : Value}
    {f_VV : Addr} {od_VV an_VV : Option Addr} {sl_VV : Array (Option Value)} {oc_VV kV_VV dc_VV pm_VV ct_VV : Value}
    {cd_lo : Value}
    {f_lo : Addr} {od_lo an_lo : Option Addr} {sl_lo : Array (Option Value)} {oc_lo kV_lo dc_lo pm_lo ct_lo : Value}
    {cd_VM : Value}
    {f_VM : Addr} {od_VM an_VM : Option Addr} {sl_VM : Array (Option Value)} {oc_VM kV_VM dc_VM pm_VM ct_VM : Value}
    {cd_sm : Value}
    {f_sm : Addr} {od_sm an_sm : Option Addr} {sl_sm : Array (Option Value)} {oc_sm kV_sm dc_sm pm_sm ct_sm : Value}
    {cd_VT : Value}
    {f_VT : Addr} {od_VT an_VT : Option Addr} {sl_VT : Array (Option Value)} {oc_VT kV_VT dc_VT pm_VT ct_VT : Value}
    {cd_Cl : Value}
    {f_Cl : Addr} {od_Cl an_Cl : Option Addr} {sl_Cl : Array (Option Value)} {oc_Cl kV_Cl dc_Cl pm_Cl ct_Cl : Value}
    {cd_met : Value}
    {f_met : Addr} {od_met an_met : Option Addr} {sl_met : Array (Option Value)} {oc_met kV_met dc_met pm_met ct_met : Value}
    {cd_TR : Value}
    {f_TR : Addr} {od_TR an_TR : Option Addr} {sl_TR : Array (Option Value)} {oc_TR kV_TR dc_TR pm_TR ct_TR : Value}
    {cd_ER : Value}
    {f_ER : Addr} {od_ER an_ER : Option Addr} {sl_ER : Array (Option Value)} {oc_ER kV_ER dc_ER pm_ER ct_ER : Value}
    {f_RR : Addr} {od_RR an_RR : Option Addr} {sl_RR : Array (Option Value)} {oc_RR kV_RR dc_RR pm_RR ct_RR : Value}
    {cd_law : Value}
    {f_law : Addr} {od_law an_law : Option Addr} {sl_law : Array (Option Value)} {oc_law kV_law dc_law pm_law ct_law : Value}
    {C CH CR CD CF cRR TP : Addr}
    {cd_VI : Value} {f_VI : Addr} {od_VI an_VI : Option Addr} {sl_VI : Array (Option Value)} {oc_VI kV_VI dc_VI pm_VI ct_VI : Value}
    {cd_VE : Value} {f_VE : Addr} {od_VE an_VE : Option Addr} {sl_VE : Array (Option Value)} {oc_VE kV_VE dc_VE pm_VE ct_VE : Value}
    {cd_VH : Value} {f_VH : Addr} {od_VH an_VH : Option Addr} {sl_VH : Array (Option Value)} {oc_VH kV_VH dc_VH pm_VH ct_VH : Value}
    {cd_VR : Value} {f_VR : Addr} {od_VR an_VR : Option Addr} {sl_VR : Array (Option Value)} {oc_VR kV_VR dc_VR pm_VR ct_VR : Value}
    {cd_VD : Value} {f_VD : Addr} {od_VD an_VD : Option Addr} {sl_VD : Array (Option Value)} {oc_VD kV_VD dc_VD pm_VD ct_VD : Value}
    {cd_iH : Value} {f_iH : Addr} {od_iH an_iH : Option Addr} {sl_iH : Array (Option Value)} {oc_iH kV_iH dc_iH pm_iH ct_iH : Value}
    {cd_iR : Value} {f_iR : Addr} {od_iR an_iR : Option Addr} {sl_iR : Array (Option Value)} {oc_iR kV_iR dc_iR pm_iR ct_iR : Value}
    {cd_iD : Value} {f_iD : Addr} {od_iD an_iD : Option Addr} {sl_iD : Array (Option Value)} {oc_iD kV_iD dc_iD pm_iD ct_iD : Value}
    {nmCH qCH : Str} {NCH : Addr} {bsCH bmCH : List Value} {snCH : List Str} {subCH : List Value} {abCH : Bool} {colCH : Option Bool} {ddCH : Option Addr} {m0CH m1CH m2CH m3CH m5CH : Option Value}
    {nmCR qCR : Str} {NCR : Addr} {bsCR bmCR : List Value} {snCR : List Str} {subCR : List Value} {abCR : Bool} {colCR : Option Bool} {ddCR : Option Addr} {m0CR m1CR m2CR m3CR m5CR : Option Value}
    {nmCD qCD : Str} {NCD : Addr} {bsCD bmCD : List Value} {snCD : List Str} {subCD : List Value} {abCD : Bool} {colCD : Option Bool} {ddCD : Option Addr} {m0CD m1CD m2CD m3CD m5CD : Option Value}
    {tL tF tN : Tok}
    (X : K.In h) (G : h.Ns mainGlobals mg) (hfa : mg "law" = some (.ref fa)) (hTP : h.get? TP = some { cls := .none, data := .fields #[] })
    (a_isInt : PySem.W.nsIn K mainGlobals "is_integer" = some (some (.ref f_isInt)))
    (l_isInt : K.lookup f_isInt = some ⟨oc_isInt, od_isInt, .func (PySem.W.fnOf "is_integer" "is_integer" (defArgs sIsInt) (defBody sIsInt) (defScope sIsInt) .none kV_isInt dc_isInt pm_isInt an_isInt cd_isInt ct_isInt), sl_isInt⟩)
    (c_isInt : PySem.W.codeIn K cd_isInt "is_integer" = true)
    (k_isInt : PySem.W.keepIn K (.ref f_isInt) = true)
    (a_fromOne : PySem.W.nsIn K mainGlobals "is_from_one" = some (some (.ref f_fromOne)))
    (l_fromOne : K.lookup f_fromOne = some ⟨oc_fromOne, od_fromOne, .func (PySem.W.fnOf "is_from_one" "is_from_one" (defArgs sFromOne) (defBody sFromOne) (defScope sFromOne) .none kV_fromOne dc_fromOne pm_fromOne an_fromOne cd_fromOne ct_fromOne), sl_fromOne⟩)
    (c_fromOne : PySem.W.codeIn K cd_fromOne "is_from_one" = true)
    (k_fromOne : PySem.W.keepIn K (.ref f_fromOne) = true)
    (a_isList : PySem.W.nsIn K mainGlobals "is_list" = some (some (.ref f_isList)))
    (l_isList : K.lookup f_isList = some ⟨oc_isList, od_isList, .func (PySem.W.fnOf "is_list" "is_list" (defArgs sIsList) (defBody sIsList) (defScope sIsList) .none kV_isList dc_isList pm_isList an_isList cd_isList ct_isList), sl_isList⟩)
    (c_isList : PySem.W.codeIn K cd_isList "is_list" = true)
    (k_isList : PySem.W.keepIn K (.ref f_isList) = true)
    (a_isPair : PySem.W.nsIn K mainGlobals "is_pair" = some (some (.ref f_isPair)))
    (l_isPair : K.lookup f_isPair = some ⟨oc_isPair, od_isPair, .func (PySem.W.fnOf "is_pair" "is_pair" (defArgs sIsPair) (defBody sIsPair) (defScope sIsPair) .none kV_isPair dc_isPair pm_isPair an_isPair cd_isPair ct_isPair), sl_isPair⟩)
    (c_isPair : PySem.W.codeIn K cd_isPair "is_pair" = true)
    (k_isPair : PySem.W.keepIn K (.ref f_isPair) = true)
    (a_isName : PySem.W.nsIn K mainGlobals "is_name" = some (some (.ref f_isName)))
    (l_isName : K.lookup f_isName = some ⟨oc_isName, od_isName, .func (PySem.W.fnOf "is_name" "is_name" (defArgs sIsName) (defBody sIsName) (defScope sIsName) .none kV_isName dc_isName pm_isName an_isName cd_isName ct_isName), sl_isName⟩)
    (c_isName : PySem.W.codeIn K cd_isName "is_name" = true)
    (k_isName : PySem.W.keepIn K (.ref f_isName) = true)
    (a_draw : PySem.W.nsIn K mainGlobals "_law_draw" = some (some (.ref f_draw)))
    (l_draw : K.lookup f_draw = some ⟨oc_draw, od_draw, .func (PySem.W.fnOf "_law_draw" "_law_draw" (defArgs sDraw) (defBody sDraw) (defScope sDraw) .none kV_draw dc_draw pm_draw an_draw cd_draw ct_draw), sl_draw⟩)
    (c_draw : PySem.W.codeIn K cd_draw "_law_draw" = true)
    (k_draw : PySem.W.keepIn K (.ref f_draw) = true)
    (a_pick : PySem.W.nsIn K mainGlobals "_law_pick" = some (some (.ref f_pick)))
    (l_pick : K.lookup f_pick = some ⟨oc_pick, od_pick, .func (PySem.W.fnOf "_law_pick" "_law_pick" (defArgs sPick) (defBody sPick) (defScope sPick) .none kV_pick dc_pick pm_pick an_pick cd_pick ct_pick), sl_pick⟩)
    (c_pick : PySem.W.codeIn K cd_pick "_law_pick" = true)
    (k_pick : PySem.W.keepIn K (.ref f_pick) = true)
    (a_mixed : PySem.W.nsIn K mainGlobals "_law_mixed" = some (some (.ref f_mixed)))
    (l_mixed : K.lookup f_mixed = some ⟨oc_mixed, od_mixed, .func (PySem.W.fnOf "_law_mixed" "_law_mixed" (defArgs sMixed) (defBody sMixed) (defScope sMixed) .none kV_mixed dc_mixed pm_mixed an_mixed cd_mixed ct_mixed), sl_mixed⟩)
    (c_mixed : PySem.W.codeIn K cd_mixed "_law_mixed" = true)
    (k_mixed : PySem.W.keepIn K (.ref f_mixed) = true)
    (a_ND : PySem.W.nsIn K mainGlobals "_need_heads" = some (some (.ref f_ND)))
    (l_ND : K.lookup f_ND = some ⟨oc_ND, od_ND, .func (PySem.W.fnOf "_need_heads" "_need_heads" (defArgs sND) (defBody sND) (defScope sND) .none kV_ND dc_ND pm_ND an_ND cd_ND ct_ND), sl_ND⟩)
    (c_ND : PySem.W.codeIn K cd_ND "_need_heads" = true)
    (k_ND : PySem.W.keepIn K (.ref f_ND) = true)
    (a_NH : PySem.W.nsIn K mainGlobals "_need_houses" = some (some (.ref f_NH)))
    (l_NH : K.lookup f_NH = some ⟨oc_NH, od_NH, .func (PySem.W.fnOf "_need_houses" "_need_houses" (defArgs sNH) (defBody sNH) (defScope sNH) .none kV_NH dc_NH pm_NH an_NH cd_NH ct_NH), sl_NH⟩)
    (c_NH : PySem.W.codeIn K cd_NH "_need_houses" = true)
    (k_NH : PySem.W.keepIn K (.ref f_NH) = true)
    (a_NR : PySem.W.nsIn K mainGlobals "_need_roads" = some (some (.ref f_NR)))
    (l_NR : K.lookup f_NR = some ⟨oc_NR, od_NR, .func (PySem.W.fnOf "_need_roads" "_need_roads" (defArgs sNR) (defBody sNR) (defScope sNR) .none kV_NR dc_NR pm_NR an_NR cd_NR ct_NR), sl_NR⟩)
    (c_NR : PySem.W.codeIn K cd_NR "_need_roads" = true)
    (k_NR : PySem.W.keepIn K (.ref f_NR) = true)
    (a_keys : PySem.W.nsIn K mainGlobals "_are_keys" = some (some (.ref f_keys)))
    (l_keys : K.lookup f_keys = some ⟨oc_keys, od_keys, .func (PySem.W.fnOf "_are_keys" "_are_keys" (defArgs sKeys) (defBody sKeys) (defScope sKeys) .none kV_keys dc_keys pm_keys an_keys cd_keys ct_keys), sl_keys⟩)
    (c_keys : PySem.W.codeIn K cd_keys "_are_keys" = true)
    (k_keys : PySem.W.keepIn K (.ref f_keys) = true)
    (a_lead : PySem.W.nsIn K mainGlobals "_leader" = some (some (.ref f_lead)))
    (l_lead : K.lookup f_lead = some ⟨oc_lead, od_lead, .func (PySem.W.fnOf "_leader" "_leader" (defArgs sLead) (defBody sLead) (defScope sLead) .none kV_lead dc_lead pm_lead an_lead cd_lead ct_lead), sl_lead⟩)
    (c_lead : PySem.W.codeIn K cd_lead "_leader" = true)
    (k_lead : PySem.W.keepIn K (.ref f_lead) = true)
    (a_BW : PySem.W.nsIn K mainGlobals "_both_ways" = some (some (.ref f_BW)))
    (l_BW : K.lookup f_BW = some ⟨oc_BW, od_BW, .func (PySem.W.fnOf "_both_ways" "_both_ways" (defArgs sBW) (defBody sBW) (defScope sBW) .none kV_BW dc_BW pm_BW an_BW cd_BW ct_BW), sl_BW⟩)
    (c_BW : PySem.W.codeIn K cd_BW "_both_ways" = true)
    (k_BW : PySem.W.keepIn K (.ref f_BW) = true)
    (a_NB : PySem.W.nsIn K mainGlobals "_neighbours" = some (some (.ref f_NB)))
    (l_NB : K.lookup f_NB = some ⟨oc_NB, od_NB, .func (PySem.W.fnOf "_neighbours" "_neighbours" (defArgs sNB) (defBody sNB) (defScope sNB) .none kV_NB dc_NB pm_NB an_NB cd_NB ct_NB), sl_NB⟩)
    (c_NB : PySem.W.codeIn K cd_NB "_neighbours" = true)
    (k_NB : PySem.W.keepIn K (.ref f_NB) = true)
    (a_spring : PySem.W.nsIn K mainGlobals "_law_spring" = some (some (.ref f_spring)))
    (l_spring : K.lookup f_spring = some ⟨oc_spring, od_spring, .func (PySem.W.fnOf "_law_spring" "_law_spring" (defArgs sSpring) (defBody sSpring) (defScope sSpring) .none kV_spring dc_spring pm_spring an_spring cd_spring ct_spring), sl_spring⟩)
    (c_spring : PySem.W.codeIn K cd_spring "_law_spring" = true)
    (k_spring : PySem.W.keepIn K (.ref f_spring) = true)
    (a_VN : PySem.W.nsIn K mainGlobals "_law_v_names" = some (some (.ref f_VN)))
    (l_VN : K.lookup f_VN = some ⟨oc_VN, od_VN, .func (PySem.W.fnOf "_law_v_names" "_law_v_names" (defArgs sVN) (defBody sVN) (defScope sVN) .none kV_VN dc_VN pm_VN an_VN cd_VN ct_VN), sl_VN⟩)
    (c_VN : PySem.W.codeIn K cd_VN "_law_v_names" = true)
    (k_VN : PySem.W.keepIn K (.ref f_VN) = true)
    (a_VRo : PySem.W.nsIn K mainGlobals "_law_v_roads" = some (some (.ref f_VRo)))
    (l_VRo : K.lookup f_VRo = some ⟨oc_VRo, od_VRo, .func (PySem.W.fnOf "_law_v_roads" "_law_v_roads" (defArgs sVRo) (defBody sVRo) (defScope sVRo) .none kV_VRo dc_VRo pm_VRo an_VRo cd_VRo ct_VRo), sl_VRo⟩)
    (c_VRo : PySem.W.codeIn K cd_VRo "_law_v_roads" = true)
    (k_VRo : PySem.W.keepIn K (.ref f_VRo) = true)
    (a_VV : PySem.W.nsIn K mainGlobals "_law_v_valley" = some (some (.ref f_VV)))
    (l_VV : K.lookup f_VV = some ⟨oc_VV, od_VV, .func (PySem.W.fnOf "_law_v_valley" "_law_v_valley" (defArgs sVV) (defBody sVV) (defScope sVV) .none kV_VV dc_VV pm_VV an_VV cd_VV ct_VV), sl_VV⟩)
    (c_VV : PySem.W.codeIn K cd_VV "_law_v_valley" = true)
    (k_VV : PySem.W.keepIn K (.ref f_VV) = true)
    (a_lo : PySem.W.nsIn K mainGlobals "_law_loose" = some (some (.ref f_lo)))
    (l_lo : K.lookup f_lo = some ⟨oc_lo, od_lo, .func (PySem.W.fnOf "_law_loose" "_law_loose" (defArgs sLo) (defBody sLo) (defScope sLo) .none kV_lo dc_lo pm_lo an_lo cd_lo ct_lo), sl_lo⟩)
    (c_lo : PySem.W.codeIn K cd_lo "_law_loose" = true)
    (k_lo : PySem.W.keepIn K (.ref f_lo) = true)
    (a_VM : PySem.W.nsIn K mainGlobals "_law_v_made" = some (some (.ref f_VM)))
    (l_VM : K.lookup f_VM = some ⟨oc_VM, od_VM, .func (PySem.W.fnOf "_law_v_made" "_law_v_made" (defArgs sVM) (defBody sVM) (defScope sVM) .none kV_VM dc_VM pm_VM an_VM cd_VM ct_VM), sl_VM⟩)
    (c_VM : PySem.W.codeIn K cd_VM "_law_v_made" = true)
    (k_VM : PySem.W.keepIn K (.ref f_VM) = true)
    (a_sm : PySem.W.nsIn K mainGlobals "_law_same" = some (some (.ref f_sm)))
    (l_sm : K.lookup f_sm = some ⟨oc_sm, od_sm, .func (PySem.W.fnOf "_law_same" "_law_same" (defArgs sSm) (defBody sSm) (defScope sSm) .none kV_sm dc_sm pm_sm an_sm cd_sm ct_sm), sl_sm⟩)
    (c_sm : PySem.W.codeIn K cd_sm "_law_same" = true)
    (k_sm : PySem.W.keepIn K (.ref f_sm) = true)
    (a_VT : PySem.W.nsIn K mainGlobals "_law_v_tables" = some (some (.ref f_VT)))
    (l_VT : K.lookup f_VT = some ⟨oc_VT, od_VT, .func (PySem.W.fnOf "_law_v_tables" "_law_v_tables" (defArgs sVT) (defBody sVT) (defScope sVT) .none kV_VT dc_VT pm_VT an_VT cd_VT ct_VT), sl_VT⟩)
    (c_VT : PySem.W.codeIn K cd_VT "_law_v_tables" = true)
    (k_VT : PySem.W.keepIn K (.ref f_VT) = true)
    (a_Cl : PySem.W.nsIn K mainGlobals "_law_closing" = some (some (.ref f_Cl)))
    (l_Cl : K.lookup f_Cl = some ⟨oc_Cl, od_Cl, .func (PySem.W.fnOf "_law_closing" "_law_closing" (defArgs sCl) (defBody sCl) (defScope sCl) .none kV_Cl dc_Cl pm_Cl an_Cl cd_Cl ct_Cl), sl_Cl⟩)
    (c_Cl : PySem.W.codeIn K cd_Cl "_law_closing" = true)
    (k_Cl : PySem.W.keepIn K (.ref f_Cl) = true)
    (a_met : PySem.W.nsIn K mainGlobals "_law_met" = some (some (.ref f_met)))
    (l_met : K.lookup f_met = some ⟨oc_met, od_met, .func (PySem.W.fnOf "_law_met" "_law_met" (defArgs sMet) (defBody sMet) (defScope sMet) .none kV_met dc_met pm_met an_met cd_met ct_met), sl_met⟩)
    (c_met : PySem.W.codeIn K cd_met "_law_met" = true)
    (k_met : PySem.W.keepIn K (.ref f_met) = true)
    (a_TR : PySem.W.nsIn K mainGlobals "_law_told_right" = some (some (.ref f_TR)))
    (l_TR : K.lookup f_TR = some ⟨oc_TR, od_TR, .func (PySem.W.fnOf "_law_told_right" "_law_told_right" (defArgs sTR) (defBody sTR) (defScope sTR) .none kV_TR dc_TR pm_TR an_TR cd_TR ct_TR), sl_TR⟩)
    (c_TR : PySem.W.codeIn K cd_TR "_law_told_right" = true)
    (k_TR : PySem.W.keepIn K (.ref f_TR) = true)
    (a_ER : PySem.W.nsIn K mainGlobals "_law_equal_right" = some (some (.ref f_ER)))
    (l_ER : K.lookup f_ER = some ⟨oc_ER, od_ER, .func (PySem.W.fnOf "_law_equal_right" "_law_equal_right" (defArgs sER) (defBody sER) (defScope sER) .none kV_ER dc_ER pm_ER an_ER cd_ER ct_ER), sl_ER⟩)
    (c_ER : PySem.W.codeIn K cd_ER "_law_equal_right" = true)
    (k_ER : PySem.W.keepIn K (.ref f_ER) = true)
    (a_RR : PySem.W.nsIn K mainGlobals "_law_refused_right" = some (some (.ref f_RR)))
    (l_RR : K.lookup f_RR = some ⟨oc_RR, od_RR, .func (PySem.W.fnOf "_law_refused_right" "_law_refused_right" (defArgs sRR) (defBody sRR) (defScope sRR) .none kV_RR dc_RR pm_RR an_RR (.ref cRR) ct_RR), sl_RR⟩)
    (c_RR : PySem.W.codeIn K (.ref cRR) "_law_refused_right" = true)
    (k_RR : PySem.W.keepIn K (.ref f_RR) = true)
    (a_law : PySem.W.nsIn K mainGlobals "law" = some (some (.ref f_law)))
    (l_law : K.lookup f_law = some ⟨oc_law, od_law, .func (PySem.W.fnOf "law" "law" (defArgs sLaw) (defBody sLaw) (defScope sLaw) .none kV_law dc_law pm_law an_law cd_law ct_law), sl_law⟩)
    (c_law : PySem.W.codeIn K cd_law "law" = true)
    (k_law : PySem.W.keepIn K (.ref f_law) = true)
    (aC : PySem.W.nsIn K mainGlobals "Valley" = some (some (.ref C)))
    (aCH : PySem.W.nsIn K mainGlobals "BadHouses" = some (some (.ref CH)))
    (aCR : PySem.W.nsIn K mainGlobals "BadRoads" = some (some (.ref CR)))
    (aCD : PySem.W.nsIn K mainGlobals "BadHeads" = some (some (.ref CD)))
    (aCF : PySem.W.nsIn K mainGlobals "FeastError" = some (some (.ref CF)))
    (a_VI : PySem.W.findIn K (.ref C) "__init__" = some (some (.ref f_VI)))
    (i_VI : PySem.W.isFn K (.ref f_VI) = true)
    (l_VI : K.lookup f_VI = some ⟨oc_VI, od_VI, .func (PySem.W.fnOf "__init__" "Valley.__init__" (defArgs sVI) (defBody sVI) (defScope sVI) .none kV_VI dc_VI pm_VI an_VI cd_VI ct_VI), sl_VI⟩)
    (c_VI : PySem.W.codeIn K cd_VI "Valley.__init__" = true)
    (k_VI : PySem.W.keepIn K (.ref f_VI) = true)
    (a_VE : PySem.W.findIn K (.ref C) "__eq__" = some (some (.ref f_VE)))
    (i_VE : PySem.W.isFn K (.ref f_VE) = true)
    (l_VE : K.lookup f_VE = some ⟨oc_VE, od_VE, .func (PySem.W.fnOf "__eq__" "Valley.__eq__" (defArgs sVE) (defBody sVE) (defScope sVE) .none kV_VE dc_VE pm_VE an_VE cd_VE ct_VE), sl_VE⟩)
    (c_VE : PySem.W.codeIn K cd_VE "Valley.__eq__" = true)
    (k_VE : PySem.W.keepIn K (.ref f_VE) = true)
    (a_VH : PySem.W.findIn K (.ref C) "houses" = some (some (.ref f_VH)))
    (i_VH : PySem.W.isFn K (.ref f_VH) = true)
    (l_VH : K.lookup f_VH = some ⟨oc_VH, od_VH, .func (PySem.W.fnOf "houses" "Valley.houses" (defArgs sVH) (defBody sVH) (defScope sVH) .none kV_VH dc_VH pm_VH an_VH cd_VH ct_VH), sl_VH⟩)
    (c_VH : PySem.W.codeIn K cd_VH "Valley.houses" = true)
    (k_VH : PySem.W.keepIn K (.ref f_VH) = true)
    (a_VR : PySem.W.findIn K (.ref C) "roads" = some (some (.ref f_VR)))
    (i_VR : PySem.W.isFn K (.ref f_VR) = true)
    (l_VR : K.lookup f_VR = some ⟨oc_VR, od_VR, .func (PySem.W.fnOf "roads" "Valley.roads" (defArgs sVR) (defBody sVR) (defScope sVR) .none kV_VR dc_VR pm_VR an_VR cd_VR ct_VR), sl_VR⟩)
    (c_VR : PySem.W.codeIn K cd_VR "Valley.roads" = true)
    (k_VR : PySem.W.keepIn K (.ref f_VR) = true)
    (a_VD : PySem.W.findIn K (.ref C) "heads" = some (some (.ref f_VD)))
    (i_VD : PySem.W.isFn K (.ref f_VD) = true)
    (l_VD : K.lookup f_VD = some ⟨oc_VD, od_VD, .func (PySem.W.fnOf "heads" "Valley.heads" (defArgs sVD) (defBody sVD) (defScope sVD) .none kV_VD dc_VD pm_VD an_VD cd_VD ct_VD), sl_VD⟩)
    (c_VD : PySem.W.codeIn K cd_VD "Valley.heads" = true)
    (k_VD : PySem.W.keepIn K (.ref f_VD) = true)
    (a_iH : PySem.W.findIn K (.ref CH) "__init__" = some (some (.ref f_iH)))
    (i_iH : PySem.W.isFn K (.ref f_iH) = true)
    (l_iH : K.lookup f_iH = some ⟨oc_iH, od_iH, .func (PySem.W.fnOf "__init__" "BadHouses.__init__" (defArgs sIH) (defBody sIH) (defScope sIH) .none kV_iH dc_iH pm_iH an_iH cd_iH ct_iH), sl_iH⟩)
    (c_iH : PySem.W.codeIn K cd_iH "BadHouses.__init__" = true)
    (k_iH : PySem.W.keepIn K (.ref f_iH) = true)
    (a_iR : PySem.W.findIn K (.ref CR) "__init__" = some (some (.ref f_iR)))
    (i_iR : PySem.W.isFn K (.ref f_iR) = true)
    (l_iR : K.lookup f_iR = some ⟨oc_iR, od_iR, .func (PySem.W.fnOf "__init__" "BadRoads.__init__" (defArgs sIR) (defBody sIR) (defScope sIR) .none kV_iR dc_iR pm_iR an_iR cd_iR ct_iR), sl_iR⟩)
    (c_iR : PySem.W.codeIn K cd_iR "BadRoads.__init__" = true)
    (k_iR : PySem.W.keepIn K (.ref f_iR) = true)
    (a_iD : PySem.W.findIn K (.ref CD) "__init__" = some (some (.ref f_iD)))
    (i_iD : PySem.W.isFn K (.ref f_iD) = true)
    (l_iD : K.lookup f_iD = some ⟨oc_iD, od_iD, .func (PySem.W.fnOf "__init__" "BadHeads.__init__" (defArgs sID) (defBody sID) (defScope sID) .none kV_iD dc_iD pm_iD an_iD cd_iD ct_iD), sl_iD⟩)
    (c_iD : PySem.W.codeIn K cd_iD "BadHeads.__init__" = true)
    (k_iD : PySem.W.keepIn K (.ref f_iD) = true)
    (pg : PySem.W.plainGet K C Str.empty = true)
    (hd : PySem.W.hasDictIn K C = true)
    (po : PySem.W.plainOver K C = true)
    (sa : PySem.W.findIn K (.ref C) "__setattr__" = some (some (.builtin "object.__setattr__")))
    (mk : PySem.W.makesIn K C = true)
    (kc : PySem.W.keepIn K (.ref C) = true)
    (n1 : PySem.W.findIn K (.ref C) "_houses" = some none)
    (n2 : PySem.W.findIn K (.ref C) "_roads" = some none)
    (n3 : PySem.W.findIn K (.ref C) "_heads" = some none)
    (n4 : PySem.W.findIn K (.ref C) "_people" = some none)
    (n5 : PySem.W.findIn K (.ref C) "_places" = some none)
    (n6 : PySem.W.findIn K (.ref C) "_beside" = some none)
    (ha : PySem.W.findIn K (.ref C) "__class__" = some (some (.builtin "object.__class__")))
    (hn : PySem.W.specialIn K (.builtin "object.__class__") "__get__" = some (some (.builtin "getset_descriptor.__get__")))
    (htk : PySem.W.takesIn K (.builtin "object.__class__") = some true)
    (hm : PySem.W.mroIn K C (.type "object") = some true)
    (own : PySem.W.kitOne K (.ref C) (.ref C) = some true)
    (kno : ((kinds ++ ["function"]).all fun t => PySem.W.kitOne K (.type t) (.ref C) == some false) = true)
    (ne : PySem.W.findIn K (.ref C) "__ne__" = some (some (.builtin "object.__ne__")))
    (nf : PySem.W.notFirst K C (.ref C) = true)
    (nt : ((kinds ++ ["function"]).all fun t => PySem.W.notFirst K C (.type t)) = true)
    (fsp : PySem.W.specialIn K (.ref CF) "__getattribute__" = some (some (.builtin "type.__getattribute__")))
    (frd : PySem.W.readsIn K CF (.type "type") = true)
    (fin : PySem.W.findCls K (.ref CF) (.type "type") "__init__" = some (.val (.builtin "ValueError.__init__")))
    (xCH : K.lookup CH = some (excClassObj nmCH qCH CH NCH bsCH bmCH true snCH subCH abCH colCH ddCH m0CH m1CH m2CH m3CH m5CH "ValueError.__new__"))
    (rCH : PySem.HandSPX.refsVE bmCH = true)
    (saCH : PySem.W.findIn K (.ref CH) "__setattr__" = some (some (.builtin "object.__setattr__")))
    (exCH : PySem.W.subIn K (.ref CH) (.type "BaseException") = some true)
    (tyCH : PySem.W.typeIn K (.ref CH) = some (.type "type"))
    (kpCH : PySem.W.keepIn K (.ref CH) = true)
    (gaCH : PySem.W.findIn K (.ref CH) "__getattribute__" = some (some (.builtin "BaseException.__getattribute__")))
    (ggCH : PySem.W.findIn K (.ref CH) "__getattr__" = some none)
    (hdCH : PySem.W.hasDictIn K CH = true)
    (inCH : PySem.W.findIn K (.ref CH) "index" = some none)
    (xCR : K.lookup CR = some (excClassObj nmCR qCR CR NCR bsCR bmCR true snCR subCR abCR colCR ddCR m0CR m1CR m2CR m3CR m5CR "ValueError.__new__"))
    (rCR : PySem.HandSPX.refsVE bmCR = true)
    (saCR : PySem.W.findIn K (.ref CR) "__setattr__" = some (some (.builtin "object.__setattr__")))
    (exCR : PySem.W.subIn K (.ref CR) (.type "BaseException") = some true)
    (tyCR : PySem.W.typeIn K (.ref CR) = some (.type "type"))
    (kpCR : PySem.W.keepIn K (.ref CR) = true)
    (gaCR : PySem.W.findIn K (.ref CR) "__getattribute__" = some (some (.builtin "BaseException.__getattribute__")))
    (ggCR : PySem.W.findIn K (.ref CR) "__getattr__" = some none)
    (hdCR : PySem.W.hasDictIn K CR = true)
    (inCR : PySem.W.findIn K (.ref CR) "index" = some none)
    (xCD : K.lookup CD = some (excClassObj nmCD qCD CD NCD bsCD bmCD true snCD subCD abCD colCD ddCD m0CD m1CD m2CD m3CD m5CD "ValueError.__new__"))
    (rCD : PySem.HandSPX.refsVE bmCD = true)
    (saCD : PySem.W.findIn K (.ref CD) "__setattr__" = some (some (.builtin "object.__setattr__")))
    (exCD : PySem.W.subIn K (.ref CD) (.type "BaseException") = some true)
    (tyCD : PySem.W.typeIn K (.ref CD) = some (.type "type"))
    (kpCD : PySem.W.keepIn K (.ref CD) = true)
    (gaCD : PySem.W.findIn K (.ref CD) "__getattribute__" = some (some (.builtin "BaseException.__getattribute__")))
    (ggCD : PySem.W.findIn K (.ref CD) "__getattr__" = some none)
    (hdCD : PySem.W.hasDictIn K CD = true)
    (inCD : PySem.W.findIn K (.ref CD) "index" = some none)
    (ty_iH : PySem.W.typeIn K (.ref f_iH) = some (.type "function"))
    (ty_iR : PySem.W.typeIn K (.ref f_iR) = some (.type "function"))
    (ty_iD : PySem.W.typeIn K (.ref f_iD) = some (.type "function"))
    (em_hh : PySem.W.exmOne K (.ref CH) (.ref CH) = some true)
    (em_rh : PySem.W.exmOne K (.ref CR) (.ref CH) = some false)
    (em_rr : PySem.W.exmOne K (.ref CR) (.ref CR) = some true)
    (em_dh : PySem.W.exmOne K (.ref CD) (.ref CH) = some false)
    (em_dr : PySem.W.exmOne K (.ref CD) (.ref CR) = some false)
    (em_dd : PySem.W.exmOne K (.ref CD) (.ref CD) = some true)
    (sgL : PySem.W.nsIn K mainGlobals "LETTERS" = some (some (.str letters tL)))
    (sgF : PySem.W.nsIn K mainGlobals "FIGURES" = some (some (.str figures tF)))
    (sgN : PySem.W.nsIn K mainGlobals "LONGEST_NAME" = some (some (.int 8 tN)))
    (z_isinstance : PySem.W.nsIn K mainGlobals "isinstance" = some none)
    (z_int : PySem.W.nsIn K mainGlobals "int" = some none)
    (z_bool : PySem.W.nsIn K mainGlobals "bool" = some none)
    (z_str : PySem.W.nsIn K mainGlobals "str" = some none)
    (z_list : PySem.W.nsIn K mainGlobals "list" = some none)
    (z_tuple : PySem.W.nsIn K mainGlobals "tuple" = some none)
    (z_dict : PySem.W.nsIn K mainGlobals "dict" = some none)
    (z_len : PySem.W.nsIn K mainGlobals "len" = some none)
    (z_all : PySem.W.nsIn K mainGlobals "all" = some none)
    (z_any : PySem.W.nsIn K mainGlobals "any" = some none)
    (z_range : PySem.W.nsIn K mainGlobals "range" = some none)
    (z_enumerate : PySem.W.nsIn K mainGlobals "enumerate" = some none)
    (z_set : PySem.W.nsIn K mainGlobals "set" = some none)
    (z_min : PySem.W.nsIn K mainGlobals "min" = some none)
    (z_max : PySem.W.nsIn K mainGlobals "max" = some none)
    (z_zip : PySem.W.nsIn K mainGlobals "zip" = some none)
    (tpN : K.lookup TP = none)
    (tpC : PySem.W.codeHdIn K cRR TP = true)
    (fnTR : oc_TR = .type "function") :
    LamX.LawAtS l w K CX0 10 63 "script" mg fa h := by
  have e := hfa.symm.trans (PySem.W.mg_of X G a_law)
  cases e
  have F_isInt := fun_mk (st := sIsInt) l_isInt c_isInt k_isInt
  have b_isInt := F_isInt.binds (ps := ["thing"]) fun _ _ _ _ _ _ us hl => match us, hl with | [_], _ => rfl
  have m_isInt := PySem.W.mg_of X G a_isInt
  have F_fromOne := fun_mk (st := sFromOne) l_fromOne c_fromOne k_fromOne
  have b_fromOne := F_fromOne.binds (ps := ["thing"]) fun _ _ _ _ _ _ us hl => match us, hl with | [_], _ => rfl
  have m_fromOne := PySem.W.mg_of X G a_fromOne
  have F_isList := fun_mk (st := sIsList) l_isList c_isList k_isList
  have b_isList := F_isList.binds (ps := ["thing"]) fun _ _ _ _ _ _ us hl => match us, hl with | [_], _ => rfl
  have m_isList := PySem.W.mg_of X G a_isList
  have F_isPair := fun_mk (st := sIsPair) l_isPair c_isPair k_isPair
  have b_isPair := F_isPair.binds (ps := ["thing"]) fun _ _ _ _ _ _ us hl => match us, hl with | [_], _ => rfl
  have m_isPair := PySem.W.mg_of X G a_isPair
  have F_isName := fun_mk (st := sIsName) l_isName c_isName k_isName
  have b_isName := F_isName.binds (ps := ["thing"]) fun _ _ _ _ _ _ us hl => match us, hl with | [_], _ => rfl
  have m_isName := PySem.W.mg_of X G a_isName
  have F_draw := fun_mk (st := sDraw) l_draw c_draw k_draw
  have b_draw := F_draw.binds (ps := ["spring", "many"]) fun _ _ _ _ _ _ us hl => match us, hl with | [_, _], _ => rfl
  have m_draw := PySem.W.mg_of X G a_draw
  have F_pick := fun_mk (st := sPick) l_pick c_pick k_pick
  have b_pick := F_pick.binds (ps := ["spring", "some"]) fun _ _ _ _ _ _ us hl => match us, hl with | [_, _], _ => rfl
  have m_pick := PySem.W.mg_of X G a_pick
  have F_mixed := fun_mk (st := sMixed) l_mixed c_mixed k_mixed
  have b_mixed := F_mixed.binds (ps := ["spring", "some"]) fun _ _ _ _ _ _ us hl => match us, hl with | [_, _], _ => rfl
  have m_mixed := PySem.W.mg_of X G a_mixed
  have F_ND := fun_mk (st := sND) l_ND c_ND k_ND
  have b_ND := F_ND.binds (ps := ["houses", "heads"]) fun _ _ _ _ _ _ us hl => match us, hl with | [_, _], _ => rfl
  have m_ND := PySem.W.mg_of X G a_ND
  have F_NH := fun_mk (st := sNH) l_NH c_NH k_NH
  have b_NH := F_NH.binds (ps := ["houses"]) fun _ _ _ _ _ _ us hl => match us, hl with | [_], _ => rfl
  have m_NH := PySem.W.mg_of X G a_NH
  have F_NR := fun_mk (st := sNR) l_NR c_NR k_NR
  have b_NR := F_NR.binds (ps := ["houses", "roads"]) fun _ _ _ _ _ _ us hl => match us, hl with | [_, _], _ => rfl
  have m_NR := PySem.W.mg_of X G a_NR
  have F_keys := fun_mk (st := sKeys) l_keys c_keys k_keys
  have b_keys := F_keys.binds (ps := ["things", "table"]) fun _ _ _ _ _ _ us hl => match us, hl with | [_, _], _ => rfl
  have m_keys := PySem.W.mg_of X G a_keys
  have F_lead := fun_mk (st := sLead) l_lead c_lead k_lead
  have b_lead := F_lead.binds (ps := ["leads", "house"]) fun _ _ _ _ _ _ us hl => match us, hl with | [_, _], _ => rfl
  have m_lead := PySem.W.mg_of X G a_lead
  have F_BW := fun_mk (st := sBW) l_BW c_BW k_BW
  have b_BW := F_BW.binds (ps := ["roads"]) fun _ _ _ _ _ _ us hl => match us, hl with | [_], _ => rfl
  have m_BW := PySem.W.mg_of X G a_BW
  have F_NB := fun_mk (st := sNB) l_NB c_NB k_NB
  have b_NB := F_NB.binds (ps := ["houses", "roads"]) fun _ _ _ _ _ _ us hl => match us, hl with | [_, _], _ => rfl
  have m_NB := PySem.W.mg_of X G a_NB
  have F_spring := fun_mk (st := sSpring) l_spring c_spring k_spring
  have b_spring := F_spring.binds (ps := ["script", "turn"]) fun _ _ _ _ _ _ us hl => match us, hl with | [_, _], _ => rfl
  have m_spring := PySem.W.mg_of X G a_spring
  have F_VN := fun_mk (st := sVN) l_VN c_VN k_VN
  have b_VN := F_VN.binds (ps := ["spring", "least", "most"]) fun _ _ _ _ _ _ us hl => match us, hl with | [_, _, _], _ => rfl
  have m_VN := PySem.W.mg_of X G a_VN
  have F_VRo := fun_mk (st := sVRo) l_VRo c_VRo k_VRo
  have b_VRo := F_VRo.binds (ps := ["spring", "names"]) fun _ _ _ _ _ _ us hl => match us, hl with | [_, _], _ => rfl
  have m_VRo := PySem.W.mg_of X G a_VRo
  have F_VV := fun_mk (st := sVV) l_VV c_VV k_VV
  have b_VV := F_VV.binds (ps := ["spring", "least", "most"]) fun _ _ _ _ _ _ us hl => match us, hl with | [_, _, _], _ => rfl
  have m_VV := PySem.W.mg_of X G a_VV
  have F_lo := fun_mk (st := sLo) l_lo c_lo k_lo
  have b_lo := F_lo.binds (ps := ["spring", "thing"]) fun _ _ _ _ _ _ us hl => match us, hl with | [_, _], _ => rfl
  have m_lo := PySem.W.mg_of X G a_lo
  have F_VM := fun_mk (st := sVM) l_VM c_VM k_VM
  have b_VM := F_VM.binds (ps := ["spring", "valley"]) fun _ _ _ _ _ _ us hl => match us, hl with | [_, _], _ => rfl
  have m_VM := PySem.W.mg_of X G a_VM
  have F_sm := fun_mk (st := sSm) l_sm c_sm k_sm
  have b_sm := F_sm.binds (ps := ["found", "due"]) fun _ _ _ _ _ _ us hl => match us, hl with | [_, _], _ => rfl
  have m_sm := PySem.W.mg_of X G a_sm
  have F_VT := fun_mk (st := sVT) l_VT c_VT k_VT
  have b_VT := F_VT.binds (ps := ["valley", "evening"]) fun _ _ _ _ _ _ us hl => match us, hl with | [_, _], _ => rfl
  have m_VT := PySem.W.mg_of X G a_VT
  have F_Cl := fun_mk (st := sCl) l_Cl c_Cl k_Cl
  have b_Cl := F_Cl.binds (ps := ["valley", "at"]) fun _ _ _ _ _ _ us hl => match us, hl with | [_, _], _ => rfl
  have m_Cl := PySem.W.mg_of X G a_Cl
  have F_met := fun_mk (st := sMet) l_met c_met k_met
  have b_met := F_met.binds (ps := ["ask"]) fun _ _ _ _ _ _ us hl => match us, hl with | [_], _ => rfl
  have m_met := PySem.W.mg_of X G a_met
  have F_TR := fun_mk (st := sTR) l_TR c_TR k_TR
  have b_TR := F_TR.binds (ps := ["spring", "valley"]) fun _ _ _ _ _ _ us hl => match us, hl with | [_, _], _ => rfl
  have m_TR := PySem.W.mg_of X G a_TR
  have F_ER := fun_mk (st := sER) l_ER c_ER k_ER
  have b_ER := F_ER.binds (ps := ["spring", "valley"]) fun _ _ _ _ _ _ us hl => match us, hl with | [_, _], _ => rfl
  have m_ER := PySem.W.mg_of X G a_ER
  have F_RR := fun_mk (st := sRR) l_RR c_RR k_RR
  have b_RR := F_RR.binds (ps := ["spring", "valley"]) fun _ _ _ _ _ _ us hl => match us, hl with | [_, _], _ => rfl
  have m_RR := PySem.W.mg_of X G a_RR
  have F_law := fun_mk (st := sLaw) l_law c_law k_law
  have b_law := F_law.binds (ps := ["script"]) fun _ _ _ _ _ _ us hl => match us, hl with | [_], _ => rfl
  have m_law := PySem.W.mg_of X G a_law
  have F_VI := fun_mk (st := sVI) l_VI c_VI k_VI
  have b_VI := F_VI.binds (ps := ["self", "houses", "roads", "heads"]) fun _ _ _ _ _ _ us hl => match us, hl with | [_, _, _, _], _ => rfl
  have F_VE := fun_mk (st := sVE) l_VE c_VE k_VE
  have b_VE := F_VE.binds (ps := ["self", "other"]) fun _ _ _ _ _ _ us hl => match us, hl with | [_, _], _ => rfl
  have F_VH := fun_mk (st := sVH) l_VH c_VH k_VH
  have b_VH := F_VH.binds (ps := ["self"]) fun _ _ _ _ _ _ us hl => match us, hl with | [_], _ => rfl
  have F_VR := fun_mk (st := sVR) l_VR c_VR k_VR
  have b_VR := F_VR.binds (ps := ["self"]) fun _ _ _ _ _ _ us hl => match us, hl with | [_], _ => rfl
  have F_VD := fun_mk (st := sVD) l_VD c_VD k_VD
  have b_VD := F_VD.binds (ps := ["self"]) fun _ _ _ _ _ _ us hl => match us, hl with | [_], _ => rfl
  have F_iH := fun_mk (st := sIH) l_iH c_iH k_iH
  have b_iH := F_iH.binds (ps := ["self", "index"]) fun _ _ _ _ _ _ us hl => match us, hl with | [_, _], _ => rfl
  have F_iR := fun_mk (st := sIR) l_iR c_iR k_iR
  have b_iR := F_iR.binds (ps := ["self", "index"]) fun _ _ _ _ _ _ us hl => match us, hl with | [_, _], _ => rfl
  have F_iD := fun_mk (st := sID) l_iD c_iD k_iD
  have b_iD := F_iD.binds (ps := ["self", "index"]) fun _ _ _ _ _ _ us hl => match us, hl with | [_, _], _ => rfl
  have mC := PySem.W.mg_of X G aC
  have mCH := PySem.W.mg_of X G aCH
  have mCR := PySem.W.mg_of X G aCR
  have mCD := PySem.W.mg_of X G aCD
  have mCF := PySem.W.mg_of X G aCF
  have y_isinstance := PySem.W.mg_none_of X G z_isinstance
  have y_int := PySem.W.mg_none_of X G z_int
  have y_bool := PySem.W.mg_none_of X G z_bool
  have y_str := PySem.W.mg_none_of X G z_str
  have y_list := PySem.W.mg_none_of X G z_list
  have y_tuple := PySem.W.mg_none_of X G z_tuple
  have y_dict := PySem.W.mg_none_of X G z_dict
  have y_len := PySem.W.mg_none_of X G z_len
  have y_all := PySem.W.mg_none_of X G z_all
  have y_any := PySem.W.mg_none_of X G z_any
  have y_range := PySem.W.mg_none_of X G z_range
  have y_enumerate := PySem.W.mg_none_of X G z_enumerate
  have y_set := PySem.W.mg_none_of X G z_set
  have y_min := PySem.W.mg_none_of X G z_min
  have y_max := PySem.W.mg_none_of X G z_max
  have y_zip := PySem.W.mg_none_of X G z_zip
  have B : Bl mg := ⟨y_isinstance, y_int, y_bool, y_str, y_list, y_tuple, y_dict, y_len, y_all⟩
  have S : Signs mg := ⟨⟨_, PySem.W.mg_of X G sgL⟩, ⟨_, PySem.W.mg_of X G sgF⟩, ⟨_, PySem.W.mg_of X G sgN⟩⟩
  have TF : FeC K mg CF := ⟨mCF, fsp, frd, fin⟩
  have OCH : OexC K CH := ⟨⟨_, _, _, _, _, _, _, _, _, _, _, _, _, _, _, xCH, rCH⟩, saCH, exCH, tyCH, kpCH⟩
  have ECH : ErC K mg "BadHouses" CH f_iH := ⟨mCH, OCH, inCH, a_iH, ty_iH⟩
  have XfCH : XfC K CH := ⟨gaCH, ggCH, exCH, hdCH⟩
  have OCR : OexC K CR := ⟨⟨_, _, _, _, _, _, _, _, _, _, _, _, _, _, _, xCR, rCR⟩, saCR, exCR, tyCR, kpCR⟩
  have ECR : ErC K mg "BadRoads" CR f_iR := ⟨mCR, OCR, inCR, a_iR, ty_iR⟩
  have XfCR : XfC K CR := ⟨gaCR, ggCR, exCR, hdCR⟩
  have OCD : OexC K CD := ⟨⟨_, _, _, _, _, _, _, _, _, _, _, _, _, _, _, xCD, rCD⟩, saCD, exCD, tyCD, kpCD⟩
  have ECD : ErC K mg "BadHeads" CD f_iD := ⟨mCD, OCD, inCD, a_iD, ty_iD⟩
  have XfCD : XfC K CD := ⟨gaCD, ggCD, exCD, hdCD⟩
  have VT0 : VcT K C := ⟨⟨pg, hd, po, sa⟩, n1, n2, n3, n4, n5, n6⟩
  have VE0 : VcE K C := ⟨VT0, ha, hn, htk, hm, own, all_of_kit kno⟩
  have MF : MetF K mg CH CR CD := ⟨mCH, mCR, mCD, em_hh, em_rh, em_rr, em_dh, em_dr, em_dd, XfCH, XfCR, XfCD, inCH, inCR, inCD⟩
  have MK : Mk K C f_VI := ⟨mk, a_VI, i_VI, kc⟩
  refine ⟨PySem.W.fnOf "law" "law" (defArgs sLaw) (defBody sLaw) (defScope sLaw) .none kV_law dc_law pm_law an_law cd_law ct_law, [(cRR, TP)], spLaw K [(TP, qLam)], fun p hp => ?_, fun p hp => ?_, fun p hp => ?_, fun s v => .of_eq rfl, fun H a ns hl hb hH hS => ⟨a, ns, rfl, hS, by omega, fun p hp => ?_, fun _ => rfl⟩, fun base KB NB hTB => ?_⟩
  · rw [List.mem_singleton.mp hp]; exact hTP
  · rw [List.mem_singleton.mp hp]; exact tpN
  · rw [List.mem_singleton.mp hp]; exact PySem.W.codeHd_of_K X tpC
  · rw [List.mem_singleton.mp hp]; exact LamX.TabS.nil (hH (cRR, TP) (List.mem_singleton.mpr rfl))
  have TB := hTB (cRR, TP) (List.mem_singleton.mpr rfl)
  have g_draw : FnOk l.prog w K mg base CX0 1 f_draw _ ["spring", "many"] spDraw := ok_draw F_draw y_int
  have g_pick : FnOk l.prog w K mg base CX0 2 f_pick _ ["spring", "some"] spPick := ok_pick F_pick g_draw b_draw k_draw m_draw y_len
  have g_mixed : FnOk l.prog w K mg base CX0 2 f_mixed _ ["spring", "some"] spMixed := ok_mixed F_mixed g_draw b_draw k_draw m_draw y_len y_list y_range
  have g_VN : FnOk l.prog w K mg base CX0 3 f_VN _ ["spring", "least", "most"] spVN := ok_VN F_VN B y_range g_draw b_draw k_draw m_draw g_mixed b_mixed k_mixed m_mixed
  have g_VRo : FnOk l.prog w K mg base CX0 3 f_VRo _ ["spring", "names"] spVRo := ok_VRo F_VRo B y_range y_max g_draw b_draw k_draw m_draw g_mixed b_mixed k_mixed m_mixed
  have g_VV : FnOk l.prog w K mg base CX0 4 f_VV _ ["spring", "least", "most"] spVV := ok_VV F_VV B g_draw b_draw k_draw m_draw g_mixed b_mixed k_mixed m_mixed g_pick b_pick k_pick m_pick g_VN b_VN k_VN m_VN g_VRo b_VRo k_VRo m_VRo
  have g_lo0 : FnOk l.prog w K mg base CX0 1 f_lo _ ["spring", "thing"] (spLo (Flat0 K) 0) := ok_lo0 F_lo B
  have g_lo1 : FnOk l.prog w K mg base CX0 2 f_lo _ ["spring", "thing"] (spLo (SeqR (Flat0 K)) 1) := ok_lo mon_flat0 F_lo B m_lo b_lo g_draw b_draw k_draw m_draw (Nat.le_refl 1) g_lo0
  have g_lo2 : FnOk l.prog w K mg base CX0 3 f_lo _ ["spring", "thing"] (spLo (SeqR (SeqR (Flat0 K))) 61) := ok_lo (mon_seq mon_flat0) F_lo B m_lo b_lo g_draw b_draw k_draw m_draw (by decide) g_lo1
  have M0 : MonE R0 := fun _ _ _ _ _ h => h
  have g_sm : FnOk l.prog w K mg base CX0 4 f_sm _ ["found", "due"] (spSm R4) := ok_sm (NextE.mon (NextE.mon (NextE.mon M0))) F_sm B y_zip m_sm b_sm (ok_sm (NextE.mon (NextE.mon M0)) F_sm B y_zip m_sm b_sm (ok_sm (NextE.mon M0) F_sm B y_zip m_sm b_sm (ok_sm M0 F_sm B y_zip m_sm b_sm ok_sm_none)))
  have g_NH : FnOk l.prog w K mg base (L2.CX l.prog w) 4 f_NH _ ["houses"] (spNH K CH) := ok_NH F_NH B S y_enumerate y_set F_isList b_isList m_isList F_isName b_isName m_isName TF ECH F_iH b_iH
  have g_NR : FnOk l.prog w K mg base (L2.CX l.prog w) 4 f_NR _ ["houses", "roads"] (spNR K CR) := ok_NR F_NR B y_enumerate F_isList b_isList m_isList F_isPair b_isPair m_isPair F_keys b_keys m_keys F_lead b_lead m_lead TF ECR F_iR b_iR
  have g_ND : FnOk l.prog w K mg base (L2.CX l.prog w) 4 f_ND _ ["houses", "heads"] (spND K CD) := ok_ND F_ND B y_enumerate F_isList b_isList m_isList F_fromOne b_fromOne m_fromOne F_isInt b_isInt m_isInt TF ECD F_iD b_iD
  have g_VI : FnOk l.prog w K mg base (L2.CX l.prog w) 5 f_VI _ ["self", "houses", "roads", "heads"] (spVI K C CH CR CD) := ok_VI F_VI B y_enumerate VT0 g_NH k_NH b_NH m_NH g_NR k_NR b_NR m_NR g_ND k_ND b_ND m_ND F_BW b_BW m_BW F_NB b_NB m_NB
  have g_VM : FnOk l.prog w K mg base CX0 7 f_VM _ ["spring", "valley"] (spVM C) := ok_VM F_VM mC MK g_VI b_VI g_lo1 g_lo2 b_lo k_lo m_lo
  have VX : Vx l.prog w K mg base C CH CR CD := ⟨mC, VE0, ⟨_, _, MK, g_VI, b_VI, kb_init F_VI⟩, ⟨_, _, ok_VH F_VH B VE0, b_VH, ⟨a_VH, i_VH, k_VH⟩⟩, ⟨_, _, ok_VR F_VR B VE0, b_VR, ⟨a_VR, i_VR, k_VR⟩⟩, ⟨_, _, ok_VD F_VD B VE0, b_VD, ⟨a_VD, i_VD, k_VD⟩⟩, ⟨_, _, ok_VE F_VE B VE0 mC, a_VE, i_VE, b_VE⟩, ne, nf, all_of_nf nt⟩
  have g_VT : FnOk l.prog w K mg base CX0 1 f_VT _ ["valley", "evening"] spVT := ok_VT F_VT B
  have g_Cl : FnOk l.prog w K mg base CX0 2 f_Cl _ ["valley", "at"] spCl := ok_Cl F_Cl B g_VT b_VT k_VT m_VT
  have g_spring : FnOk l.prog w K mg base CX0 1 f_spring _ ["script", "turn"] (spSpring K) := ok_spring F_spring B y_enumerate
  have x_sm : Fx l.prog w K mg base CX0 4 "_law_same" ["found", "due"] (spSm R4) := ⟨_, _, g_sm, b_sm, k_sm, m_sm⟩
  have x_VM : Fx l.prog w K mg base CX0 7 "_law_v_made" ["spring", "valley"] (spVM C) := ⟨_, _, g_VM, b_VM, k_VM, m_VM⟩
  have g_TR : FnOk l.prog w K mg base CX0 8 f_TR _ ["spring", "valley"] spRight := ok_TR F_TR B y_range VX x_sm x_VM
  have g_ER : FnOk l.prog w K mg base CX0 8 f_ER _ ["spring", "valley"] spRight := ok_ER F_ER B y_any VX x_sm x_VM m_TR ⟨_, l_TR, fnTR⟩
  have g_RR : FnOk l.prog w K mg base CX0 9 f_RR _ ["spring", "valley"] (spRR [(TP, qLam)]) := ok_RR l_RR c_RR B y_any VX MF F_met b_met m_met TB ⟨_, _, g_draw, b_draw, k_draw, m_draw⟩ ⟨_, _, g_pick, b_pick, k_pick, m_pick⟩ ⟨_, _, g_Cl, b_Cl, k_Cl, m_Cl⟩
  exact ok_law F_law B y_range y_min y_max ⟨_, _, g_spring, b_spring, k_spring, m_spring⟩ ⟨_, _, g_VV, b_VV, k_VV, m_VV⟩ ⟨_, _, g_TR, b_TR, k_TR, m_TR⟩ ⟨_, _, g_ER, b_ER, k_ER, m_ER⟩ ⟨_, _, g_RR, b_RR, k_RR, m_RR⟩
end K1
end
-- KHead
open PySem PySem.W PyProof.Rows
set_option Elab.async false
set_option maxRecDepth 100000 in
set_option maxHeartbeats 0 in
theorem PySem.Challenge.cw_feasted_k01_whole_valleys_holds : PySem.Challenge.rw_feasted_k01_whole_valleys.Holds := by
  w_on; o_law; k_head; (case hw => w_witness2)
  k_fill
  refine LamX.walk_ofTs (l := PySem.Challenge.rw_feasted_k01_whole_valleys) (n := 63) (k := 10) (x := "script") (CX := fun _ => C8.CX0) rfl (by decide) rfl ⟨rfl, by decide, by decide⟩ (fun w h Y => PySem.W.km_in_of Y) ?F (fun _ _ _ _ _ z => z)
  case F =>
    intro w mg fa h Y KX G hmg
    refine' K1.all_mk KX G hmg (PySem.W.km_tabs_of Y _ (List.mem_singleton.mpr rfl)) ?a_isInt ?l_isInt ?c_isInt ?k_isInt ?a_fromOne ?l_fromOne ?c_fromOne ?k_fromOne ?a_isList ?l_isList ?c_isList ?k_isList ?a_isPair ?l_isPair ?c_isPair ?k_isPair ?a_isName ?l_isName ?c_isName ?k_isName ?a_draw ?l_draw ?c_draw ?k_draw ?a_pick ?l_pick ?c_pick ?k_pick ?a_mixed ?l_mixed ?c_mixed ?k_mixed ?a_ND ?l_ND ?c_ND ?k_ND ?a_NH ?l_NH ?c_NH ?k_NH ?a_NR ?l_NR ?c_NR ?k_NR ?a_keys ?l_keys ?c_keys ?k_keys ?a_lead ?l_lead ?c_lead ?k_lead ?a_BW ?l_BW ?c_BW ?k_BW ?a_NB ?l_NB ?c_NB ?k_NB ?a_spring ?l_spring ?c_spring ?k_spring ?a_VN ?l_VN ?c_VN ?k_VN ?a_VRo ?l_VRo ?c_VRo ?k_VRo ?a_VV ?l_VV ?c_VV ?k_VV ?a_lo ?l_lo ?c_lo ?k_lo ?a_VM ?l_VM ?c_VM ?k_VM ?a_sm ?l_sm ?c_sm ?k_sm ?a_VT ?l_VT ?c_VT ?k_VT ?a_Cl ?l_Cl ?c_Cl ?k_Cl ?a_met ?l_met ?c_met ?k_met ?a_TR ?l_TR ?c_TR ?k_TR ?a_ER ?l_ER ?c_ER ?k_ER ?a_RR ?l_RR ?c_RR ?k_RR ?a_law ?l_law ?c_law ?k_law ?aC ?aCH ?aCR ?aCD ?aCF ?a_VI ?i_VI ?l_VI ?c_VI ?k_VI ?a_VE ?i_VE ?l_VE ?c_VE ?k_VE ?a_VH ?i_VH ?l_VH ?c_VH ?k_VH ?a_VR ?i_VR ?l_VR ?c_VR ?k_VR ?a_VD ?i_VD ?l_VD ?c_VD ?k_VD ?a_iH ?i_iH ?l_iH ?c_iH ?k_iH ?a_iR ?i_iR ?l_iR ?c_iR ?k_iR ?a_iD ?i_iD ?l_iD ?c_iD ?k_iD ?pg ?hd ?po ?sa ?mk ?kc ?n1 ?n2 ?n3 ?n4 ?n5 ?n6 ?ha ?hn ?htk ?hm ?own ?kno ?ne ?nf ?nt ?fsp ?frd ?fin ?xCH ?rCH ?saCH ?exCH ?tyCH ?kpCH ?gaCH ?ggCH ?hdCH ?inCH ?xCR ?rCR ?saCR ?exCR ?tyCR ?kpCR ?gaCR ?ggCR ?hdCR ?inCR ?xCD ?rCD ?saCD ?exCD ?tyCD ?kpCD ?gaCD ?ggCD ?hdCD ?inCD ?ty_iH ?ty_iR ?ty_iD ?em_hh ?em_rh ?em_rr ?em_dh ?em_dr ?em_dd ?sgL ?sgF ?sgN ?z_isinstance ?z_int ?z_bool ?z_str ?z_list ?z_tuple ?z_dict ?z_len ?z_all ?z_any ?z_range ?z_enumerate ?z_set ?z_min ?z_max ?z_zip ?tpN ?tpC ?fnTR
    (case a_isInt => (k_is))
    (case l_isInt => (k_is))
    (case c_isInt => (k_is))
    (case k_isInt => (k_is))
    (case a_fromOne => (k_is))
    (case l_fromOne => (k_is))
    (case c_fromOne => (k_is))
    (case k_fromOne => (k_is))
    (case a_isList => (k_is))
    (case l_isList => (k_is))
    (case c_isList => (k_is))
    (case k_isList => (k_is))
    (case a_isPair => (k_is))
    (case l_isPair => (k_is))
    (case c_isPair => (k_is))
    (case k_isPair => (k_is))
    (case a_isName => (k_is))
    (case l_isName => (k_is))
    (case c_isName => (k_is))
    (case k_isName => (k_is))
    (case a_draw => (k_is))
    (case l_draw => (k_is))
    (case c_draw => (k_is))
    (case k_draw => (k_is))
    (case a_pick => (k_is))
    (case l_pick => (k_is))
    (case c_pick => (k_is))
    (case k_pick => (k_is))
    (case a_mixed => (k_is))
    (case l_mixed => (k_is))
    (case c_mixed => (k_is))
    (case k_mixed => (k_is))
    (case a_ND => (k_is))
    (case l_ND => (k_is))
    (case c_ND => (k_is))
    (case k_ND => (k_is))
    (case a_NH => (k_is))
    (case l_NH => (k_is))
    (case c_NH => (k_is))
    (case k_NH => (k_is))
    (case a_NR => (k_is))
    (case l_NR => (k_is))
    (case c_NR => (k_is))
    (case k_NR => (k_is))
    (case a_keys => (k_is))
    (case l_keys => (k_is))
    (case c_keys => (k_is))
    (case k_keys => (k_is))
    (case a_lead => (k_is))
    (case l_lead => (k_is))
    (case c_lead => (k_is))
    (case k_lead => (k_is))
    (case a_BW => (k_is))
    (case l_BW => (k_is))
    (case c_BW => (k_is))
    (case k_BW => (k_is))
    (case a_NB => (k_is))
    (case l_NB => (k_is))
    (case c_NB => (k_is))
    (case k_NB => (k_is))
    (case a_spring => (k_is))
    (case l_spring => (k_is))
    (case c_spring => (k_is))
    (case k_spring => (k_is))
    (case a_VN => (k_is))
    (case l_VN => (k_is))
    (case c_VN => (k_is))
    (case k_VN => (k_is))
    (case a_VRo => (k_is))
    (case l_VRo => (k_is))
    (case c_VRo => (k_is))
    (case k_VRo => (k_is))
    (case a_VV => (k_is))
    (case l_VV => (k_is))
    (case c_VV => (k_is))
    (case k_VV => (k_is))
    (case a_lo => (k_is))
    (case l_lo => (k_is))
    (case c_lo => (k_is))
    (case k_lo => (k_is))
    (case a_VM => (k_is))
    (case l_VM => (k_is))
    (case c_VM => (k_is))
    (case k_VM => (k_is))
    (case a_sm => (k_is))
    (case l_sm => (k_is))
    (case c_sm => (k_is))
    (case k_sm => (k_is))
    (case a_VT => (k_is))
    (case l_VT => (k_is))
    (case c_VT => (k_is))
    (case k_VT => (k_is))
    (case a_Cl => (k_is))
    (case l_Cl => (k_is))
    (case c_Cl => (k_is))
    (case k_Cl => (k_is))
    (case a_met => (k_is))
    (case l_met => (k_is))
    (case c_met => (k_is))
    (case k_met => (k_is))
    (case a_TR => (k_is))
    (case l_TR => (k_is))
    (case c_TR => (k_is))
    (case k_TR => (k_is))
    (case a_ER => (k_is))
    (case l_ER => (k_is))
    (case c_ER => (k_is))
    (case k_ER => (k_is))
    (case a_RR => (k_is))
    (case l_RR => (k_is))
    (case c_RR => (k_is))
    (case k_RR => (k_is))
    (case a_law => (k_is))
    (case l_law => (k_is))
    (case c_law => (k_is))
    (case k_law => (k_is))
    (case aC => (k_is))
    (case aCH => (k_is))
    (case aCR => (k_is))
    (case aCD => (k_is))
    (case aCF => (k_is))
    (case a_VI => (k_is))
    (case i_VI => (k_is))
    (case l_VI => (k_is))
    (case c_VI => (k_is))
    (case k_VI => (k_is))
    (case a_VE => (k_is))
    (case i_VE => (k_is))
    (case l_VE => (k_is))
    (case c_VE => (k_is))
    (case k_VE => (k_is))
    (case a_VH => (k_is))
    (case i_VH => (k_is))
    (case l_VH => (k_is))
    (case c_VH => (k_is))
    (case k_VH => (k_is))
    (case a_VR => (k_is))
    (case i_VR => (k_is))
    (case l_VR => (k_is))
    (case c_VR => (k_is))
    (case k_VR => (k_is))
    (case a_VD => (k_is))
    (case i_VD => (k_is))
    (case l_VD => (k_is))
    (case c_VD => (k_is))
    (case k_VD => (k_is))
    (case a_iH => (k_is))
    (case i_iH => (k_is))
    (case l_iH => (k_is))
    (case c_iH => (k_is))
    (case k_iH => (k_is))
    (case a_iR => (k_is))
    (case i_iR => (k_is))
    (case l_iR => (k_is))
    (case c_iR => (k_is))
    (case k_iR => (k_is))
    (case a_iD => (k_is))
    (case i_iD => (k_is))
    (case l_iD => (k_is))
    (case c_iD => (k_is))
    (case k_iD => (k_is))
    (case pg => (k_is))
    (case hd => (k_is))
    (case po => (k_is))
    (case sa => (k_is))
    (case mk => (k_is))
    (case kc => (k_is))
    (case n1 => (k_is))
    (case n2 => (k_is))
    (case n3 => (k_is))
    (case n4 => (k_is))
    (case n5 => (k_is))
    (case n6 => (k_is))
    (case ha => (k_is))
    (case hn => (k_is))
    (case htk => (k_is))
    (case hm => (k_is))
    (case own => (kernel_rfl))
    (case kno => (kernel_rfl))
    (case ne => (k_is))
    (case nf => (k_is))
    (case nt => (kernel_rfl))
    (case fsp => (k_is))
    (case frd => (k_is))
    (case fin => (k_is))
    (case xCH => (k_is))
    (case rCH => (first | kernel_rfl | decide +kernel))
    (case saCH => (k_is))
    (case exCH => (k_is))
    (case tyCH => (k_is))
    (case kpCH => (k_is))
    (case gaCH => (k_is))
    (case ggCH => (k_is))
    (case hdCH => (k_is))
    (case inCH => (k_is))
    (case xCR => (k_is))
    (case rCR => (first | kernel_rfl | decide +kernel))
    (case saCR => (k_is))
    (case exCR => (k_is))
    (case tyCR => (k_is))
    (case kpCR => (k_is))
    (case gaCR => (k_is))
    (case ggCR => (k_is))
    (case hdCR => (k_is))
    (case inCR => (k_is))
    (case xCD => (k_is))
    (case rCD => (first | kernel_rfl | decide +kernel))
    (case saCD => (k_is))
    (case exCD => (k_is))
    (case tyCD => (k_is))
    (case kpCD => (k_is))
    (case gaCD => (k_is))
    (case ggCD => (k_is))
    (case hdCD => (k_is))
    (case inCD => (k_is))
    (case ty_iH => (k_is))
    (case ty_iR => (k_is))
    (case ty_iD => (k_is))
    (case em_hh => (kernel_rfl))
    (case em_rh => (kernel_rfl))
    (case em_rr => (kernel_rfl))
    (case em_dh => (kernel_rfl))
    (case em_dr => (kernel_rfl))
    (case em_dd => (kernel_rfl))
    (case sgL => (k_is))
    (case sgF => (k_is))
    (case sgN => (k_is))
    (case z_isinstance => (k_is))
    (case z_int => (k_is))
    (case z_bool => (k_is))
    (case z_str => (k_is))
    (case z_list => (k_is))
    (case z_tuple => (k_is))
    (case z_dict => (k_is))
    (case z_len => (k_is))
    (case z_all => (k_is))
    (case z_any => (k_is))
    (case z_range => (k_is))
    (case z_enumerate => (k_is))
    (case z_set => (k_is))
    (case z_min => (k_is))
    (case z_max => (k_is))
    (case z_zip => (k_is))
    (case tpN => (kernel_rfl))
    (case tpC => (kernel_rfl))
    (case fnTR => (rfl))
