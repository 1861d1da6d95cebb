import PyProof.Rows.All
import Wide.All
import OpenK.AllK
import Wide.FinOn
import HandS.ForExc
import HandS.ForMost
import HandS.Wide
import HandS.IsInst
import PySem.Challenge.RW_feasted_k84_whole_parted
import HandS.ExcInit
import HandS.Walk
import KE.GoesEnum
import KE.GoesMore
import HandS.Iter
import HandS.SetKeys
import HandS.DictComp
import HandS.TryMany
import HandS.ExcField
import PyProof.Rows.SetFrom
import PyProof.IsiBase
import PyProof.IsiH_set
import HandS.OwnEq
import HandS.NamedTupSort
import HandS.Style
import PyProof.ReprLen
import PyProof.ReprReads
import KE.KDictPairs
import HandS.Dict
import HandS.List
import HandS.ListItems
import HandS.Zip
import HandS.MakeKwOnly
import PyProof.ReprRoads
import HandS.Base
import HandS.Call
import HandS.Words
import HandS.EndTab
import HandS.Deep
import HandS.Lambda
import HandS.TupMul
import PyProof.ListRange
import HandS.TryOnly
import KE.KNestM
-- KBase
section
set_option Elab.async false
set_option linter.all false
set_option maxRecDepth 100000
set_option maxHeartbeats 4000000
namespace K1
open PySem PySem.Spec PyProof.Rows L2
def top (i : Nat) : Stmt := PySem.Challenge.pw_feasted_k84_whole_parted.main.body.getD i (.Pass ⟨0, 0, 0, 0⟩)
abbrev sIsInt : Stmt := top 15
abbrev sFromOne : Stmt := top 17
abbrev sIsList : Stmt := top 18
abbrev sIsPair : Stmt := top 19
abbrev sIsName : Stmt := top 20
abbrev sDraw : Stmt := top 48
abbrev sPick : Stmt := top 49
abbrev sMixed : Stmt := top 50
/-- a statement that is never reached -/
theorem ps_dead {X : Cx} {st : Stmt} : PS X st (fun _ _ _ => False) := ⟨fun _ _ _ _ _ _ h => h.elim⟩
theorem pe_dead {X : Cx} {e : Expr} : PE X e (fun _ _ _ => False) := ⟨fun _ _ _ _ _ _ h => h.elim⟩
/-- a power whose bits are below the model's line -/
def CPowX (i j : Int) : Prop := 0 ≤ j ∧ (Builtin.Int.intBits i : Int) * j ≤ 2 ^ 27
theorem op_powX {X : Cx} : OpR X (binaryOp .Pow) (rI CPowX fun i j => .int (i ^ j.toNat)) := opI fun _ _ _ _ _ _ _ hc q => pow_int hc.1 hc.2 q
theorem Same.upd {H : Hp} {p : Addr} {o : HO} (h : H p = none) : Same H (upd H p o) := fun b u e => by rw [upd_ne (ne_of_none e h)]; exact e
end K1
end
-- KKinds
section
set_option Elab.async false
set_option linter.all false
set_option maxRecDepth 100000
set_option maxHeartbeats 4000000
namespace K1
open PySem PySem.Spec PyProof.Rows L2
def letters : Str := "abcdefghijklmnopqrstuvwxyz"
def figures : Str := "0123456789"
def okSign (c : Nat) : Bool := decide (c ∈ letters.cps.toList) || decide (c ∈ figures.cps.toList)
def nameOk (s : Str) : Bool := decide (1 ≤ s.length) && (decide (s.length ≤ 8) && ((s.cps.toList.head?.any fun c => decide (c ∈ letters.cps.toList)) && s.cps.toList.all okSign))
/-- the types of the values that are asked of -/
def kinds : List String := ["int", "bool", "str", "NoneType", "list", "tuple", "dict"]
theorem TyX.ext {K : PySem.W.Frag} {H H' : Hp} {x : V} {t : Value} (h : TyX K H x t) (e : Same H H') : TyX K H' x t := by
  cases h with
  | base b =>
    refine .base ?_
    cases b with
    | non => exact .non
    | bl y => exact .bl y
    | int i => exact .int i
    | str y => exact .str y
    | flt y => exact .flt y
    | lst ea => exact .lst (e _ _ ea)
    | frz ea => exact .frz (e _ _ ea)
    | tup ea => exact .tup (e _ _ ea)
    | dK ea => exact .dK (e _ _ ea)
    | dT ea => exact .dT (e _ _ ea)
    | ins ea cl ha hn htk hm => exact .ins (e _ _ ea) cl ha hn htk hm
  | byt y => exact .byt y
  | set ea => exact .set (e _ _ ea)
  | kList a b => exact .kList a b
  | kTuple a b => exact .kTuple a b
  | kDict a b => exact .kDict a b
  | fTuple ea => exact .fTuple (e _ _ ea)
  | fDict ea => exact .fDict (e _ _ ea)
theorem kit_int {K : PySem.W.Frag} {t : String} (h : t ∈ kinds) : PySem.W.kitOne K (.type t) (.type "int") = some (decide (t = "int" ∨ t = "bool")) := by
  simp only [kinds, List.mem_cons, List.not_mem_nil, or_false] at h
  rcases h with rfl | rfl | rfl | rfl | rfl | rfl | rfl <;> exact kit_ty (by decide +kernel)
theorem kit_bool {K : PySem.W.Frag} {t : String} (h : t ∈ kinds) : PySem.W.kitOne K (.type t) (.type "bool") = some (decide (t = "bool")) := by
  simp only [kinds, List.mem_cons, List.not_mem_nil, or_false] at h
  rcases h with rfl | rfl | rfl | rfl | rfl | rfl | rfl <;> exact kit_ty (by decide +kernel)
theorem kit_str {K : PySem.W.Frag} {t : String} (h : t ∈ kinds) : PySem.W.kitOne K (.type t) (.type "str") = some (decide (t = "str")) := by
  simp only [kinds, List.mem_cons, List.not_mem_nil, or_false] at h
  rcases h with rfl | rfl | rfl | rfl | rfl | rfl | rfl <;> exact kit_ty (by decide +kernel)
theorem kit_list {K : PySem.W.Frag} {t : String} (h : t ∈ kinds) : PySem.W.kitOne K (.type t) (.type "list") = some (decide (t = "list")) := by
  simp only [kinds, List.mem_cons, List.not_mem_nil, or_false] at h
  rcases h with rfl | rfl | rfl | rfl | rfl | rfl | rfl <;> exact kit_ty (by decide +kernel)
theorem kit_tuple {K : PySem.W.Frag} {t : String} (h : t ∈ kinds) : PySem.W.kitOne K (.type t) (.type "tuple") = some (decide (t = "tuple")) := by
  simp only [kinds, List.mem_cons, List.not_mem_nil, or_false] at h
  rcases h with rfl | rfl | rfl | rfl | rfl | rfl | rfl <;> exact kit_ty (by decide +kernel)
theorem kit_dict {K : PySem.W.Frag} {t : String} (h : t ∈ kinds) : PySem.W.kitOne K (.type t) (.type "dict") = some (decide (t = "dict")) := by
  simp only [kinds, List.mem_cons, List.not_mem_nil, or_false] at h
  rcases h with rfl | rfl | rfl | rfl | rfl | rfl | rfl <;> exact kit_ty (by decide +kernel)
def isSeqT (t : String) : Bool := decide (t = "list") || decide (t = "tuple")
theorem kit_seq {K : PySem.W.Frag} {t : String} (h : t ∈ kinds) : PySem.W.kitAny K (.type t) [.type "list", .type "tuple"] = some (isSeqT t) := by
  unfold PySem.W.kitAny
  rw [kit_list h]
  unfold isSeqT
  by_cases e : t = "list"
  · rw [decide_eq_true e]; rfl
  · rw [decide_eq_false e]
    show PySem.W.kitAny K (.type t) [.type "tuple"] = _
    unfold PySem.W.kitAny
    rw [kit_tuple h]
    by_cases e2 : t = "tuple"
    · rw [decide_eq_true e2]; rfl
    · rw [decide_eq_false e2]; rfl
/-- a tracked list or tuple of just these -/
def SeqV (H : Hp) (v : V) (xs : List V) : Prop := ∃ p, v = .ref p ∧ (H p = some (.lst xs) ∨ H p = some (.tup xs))
theorem SeqV.ext {H H' : Hp} {v : V} {xs : List V} (h : SeqV H v xs) (e : Same H H') : SeqV H' v xs := by
  obtain ⟨p, rfl, h⟩ := h
  exact ⟨p, rfl, h.imp (e _ _) (e _ _)⟩
theorem SeqV.ty {K : PySem.W.Frag} {H : Hp} {v : V} {xs : List V} (h : SeqV H v xs) : ∃ t, TyX K H v (.type t) ∧ t ∈ kinds ∧ isSeqT t = true := by
  obtain ⟨p, rfl, h | h⟩ := h
  · exact ⟨"list", .base (.lst h), by decide, by decide⟩
  · exact ⟨"tuple", .base (.tup h), by decide, by decide⟩
theorem SeqV.sq {K : PySem.W.Frag} {H : Hp} {v : V} {xs : List V} (h : SeqV H v xs) : ∃ p, v = .ref p ∧ (SqL K H p xs ∨ SqT K H p xs) := by
  obtain ⟨p, rfl, h | h⟩ := h
  · exact ⟨p, rfl, .inl (SqL.of h)⟩
  · exact ⟨p, rfl, .inr (SqT.of h)⟩
/-- a value that is neither list nor tuple -/
def NoSeq (K : PySem.W.Frag) (H : Hp) (v : V) : Prop := ∃ t, TyX K H v (.type t) ∧ t ∈ kinds ∧ isSeqT t = false
theorem NoSeq.ext {K : PySem.W.Frag} {H H' : Hp} {v : V} (h : NoSeq K H v) (e : Same H H') : NoSeq K H' v := by
  obtain ⟨t, a, b⟩ := h
  exact ⟨t, TyX.ext a e, b⟩
abbrev V.isIntV : V → Bool | .int _ => true | _ => false
/-- an int, or a value of another type -/
def KnownV (K : PySem.W.Frag) (H : Hp) (v : V) : Prop := ∃ t, TyX K H v (.type t) ∧ t ∈ kinds
theorem KnownV.ext {K : PySem.W.Frag} {H H' : Hp} {v : V} (h : KnownV K H v) (e : Same H H') : KnownV K H' v := by
  obtain ⟨t, a, b⟩ := h
  exact ⟨t, TyX.ext a e, b⟩
/-! promises -/
def spIsInt (K : PySem.W.Frag) : Sp := fun vs H Q _ => ∃ (v : V) (t : String), vs = [v] ∧ TyX K H v (.type t) ∧ t ∈ kinds ∧ Q (.bl (decide (t = "int"))) H
/-- an int from 1 on: told of ints; of all other types no -/
def spFromOne (K : PySem.W.Frag) : Sp := fun vs H Q _ => ∃ (v : V), vs = [v] ∧ ((∃ i, v = .int i ∧ Q (.bl (decide (1 ≤ i))) H) ∨ (∃ t, TyX K H v (.type t) ∧ t ∈ kinds ∧ t ≠ "int" ∧ Q (.bl false) H))
def spIsList (K : PySem.W.Frag) : Sp := fun vs H Q _ => ∃ (v : V) (t : String), vs = [v] ∧ TyX K H v (.type t) ∧ t ∈ kinds ∧ ∀ H', Same H H' → Q (.bl (isSeqT t)) H'
def spIsPair (K : PySem.W.Frag) : Sp := fun vs H Q _ => ∃ (v : V), vs = [v] ∧ ((∃ xs, SeqV H v xs ∧ ∀ H', Same H H' → Q (.bl (decide (xs.length = 2))) H') ∨ (NoSeq K H v ∧ ∀ H', Same H H' → Q (.bl false) H'))
def spIsName (K : PySem.W.Frag) : Sp := fun vs H Q _ => ∃ (v : V), vs = [v] ∧ ((∃ s, v = .str s ∧ s.length ≤ 1000 ∧ ∀ H', Same H H' → Q (.bl (nameOk s)) H') ∨ (∃ t, TyX K H v (.type t) ∧ t ∈ kinds ∧ t ≠ "str" ∧ Q (.bl false) H))
theorem scIsInt : FnScope ["thing"] ["thing"] (defScope sIsInt) := ⟨rfl, rfl, rfl, by decide +kernel, rfl, by decide +kernel, by decide +kernel⟩
theorem scFromOne : FnScope ["thing"] ["thing"] (defScope sFromOne) := ⟨rfl, rfl, rfl, by decide +kernel, rfl, by decide +kernel, by decide +kernel⟩
theorem scIsList : FnScope ["thing"] ["thing"] (defScope sIsList) := ⟨rfl, rfl, rfl, by decide +kernel, rfl, by decide +kernel, by decide +kernel⟩
theorem scIsPair : FnScope ["thing"] ["thing"] (defScope sIsPair) := ⟨rfl, rfl, rfl, by decide +kernel, rfl, by decide +kernel, by decide +kernel⟩
theorem scIsName : FnScope ["thing", "sign"] ["thing"] (defScope sIsName) := ⟨rfl, rfl, rfl, by decide +kernel, rfl, by decide +kernel, by decide +kernel⟩
/-- the built-ins that the text names are still built-in -/
structure Bl (mg : Str → Option Value) : Prop where
  isi : mg "isinstance" = none
  int : mg "int" = none
  bool : mg "bool" = none
  str : mg "str" = none
  list : mg "list" = none
  tuple : mg "tuple" = none
  dict : mg "dict" = none
  len : mg "len" = none
  all : mg "all" = none
section
variable {P : Program} {w : World} {K : PySem.W.Frag} {mg : Str → Option Value} {base : Heap}
theorem ok_isInt {f : Addr} {fd : FuncData} (F : Fun K "is_integer" "is_integer" sIsInt f fd) (B : Bl mg) : FnOk P w K mg base CX0 1 f fd ["thing"] (spIsInt K) := by
  refine F.ok scIsInt (fun vs H Q E h => ?_) (fun cdv A outer s H vs Q E hr h => ?_)
  · obtain ⟨v, t, rfl, _⟩ := h
    rfl
  obtain ⟨v, t, rfl, ty, kt, q⟩ := h
  refine ⟨_, pss_one (by exact ps_ret (pe_and (pe_callB call_isi rfl B.isi PyProof.Rows.boot_isinstance (pa_cons (pv 0) (pa_cons (pe_bltn (v := .ty "int") rfl B.int PyProof.Rows.boot_int rfl) pa_nil)))
    (pe_one (pe_not (pe_callB call_isi rfl B.isi PyProof.Rows.boot_isinstance (pa_cons (pv 0) (pa_cons (pe_bltn (v := .ty "bool") rfl B.bool PyProof.Rows.boot_bool rfl) pa_nil))))))), ?_⟩
  refine ⟨_, rfl, v, _, _, _, _, rfl, .ty "int", ty, kit_int kt, _, rfl, ?_⟩
  refine ite2 (fun c => ?_) (fun c => ?_)
  · refine ⟨_, rfl, v, _, _, _, _, rfl, .ty "bool", ty, kit_bool kt, _, rfl, ?_⟩
    have c' := of_decide_eq_true c
    have e : (!decide (t = "bool")) = decide (t = "int") := by
      rcases c' with rfl | rfl <;> decide
    rw [e]
    exact q
  · have c' := of_decide_eq_false (Bool.eq_false_iff.mpr c)
    have e : decide (t = "int") = false := decide_eq_false fun z => c' (.inl z)
    rw [e] at q
    exact q
theorem ok_fromOne {f g : Addr} {fd gd : FuncData} (F : Fun K "is_from_one" "is_from_one" sFromOne f fd) (FI : Fun K "is_integer" "is_integer" sIsInt g gd) (b : Binds K gd ["thing"] []) (m : mg "is_integer" = some (.ref g)) (B : Bl mg) :
    FnOk P w K mg base CX0 2 f fd ["thing"] (spFromOne K) := by
  have G := ok_isInt (P := P) (w := w) (base := base) FI B
  refine F.ok scFromOne (fun vs H Q E h => ?_) (fun cdv A outer s H vs Q E hr h => ?_)
  · obtain ⟨v, rfl, _⟩ := h
    rfl
  obtain ⟨v, rfl, h⟩ := h
  refine ⟨_, pss_one (by exact ps_ret (pe_and (pe_call G hr rfl m FI.kp b .nil pass0 (pa_cons (pv 0) pa_nil)) (pe_one (pe_cmpR op_ge (pv 0) pe_int (nomark _))))), ?_⟩
  rcases h with ⟨i, rfl, q⟩ | ⟨t, ty, kt, nt, q⟩
  · exact ⟨_, rfl, .int i, "int", rfl, .base (.int i), by decide, _, rfl, iteT ⟨_, rfl, i, 1, rfl, rfl, q⟩⟩
  · refine ⟨_, rfl, v, t, rfl, ty, kt, _, rfl, ?_⟩
    rw [decide_eq_false nt]
    exact iteF q
theorem ok_isList {f : Addr} {fd : FuncData} (F : Fun K "is_list" "is_list" sIsList f fd) (B : Bl mg) : FnOk P w K mg base CX0 1 f fd ["thing"] (spIsList K) := by
  refine F.ok scIsList (fun vs H Q E h => ?_) (fun cdv A outer s H vs Q E hr h => ?_)
  · obtain ⟨v, t, rfl, _⟩ := h
    rfl
  obtain ⟨v, t, rfl, ty, kt, q⟩ := h
  refine ⟨_, pss_one (by exact ps_ret (pe_callB call_isiT rfl B.isi PyProof.Rows.boot_isinstance (pa_cons (pv 0) (pa_cons (pe_tup (pa_cons (pe_bltn (v := .ty "list") rfl B.list PyProof.Rows.boot_list rfl)
    (pa_cons (pe_bltn (v := .ty "tuple") rfl B.tuple PyProof.Rows.boot_tuple rfl) pa_nil))) pa_nil)))), ?_⟩
  refine ⟨_, rfl, (by show 2 ≤ sizeLine; decide), fun p hp => ?_⟩
  have e := K1.Same.upd (H := H) (p := p) (o := .tup [.ty "list", .ty "tuple"]) hp
  exact ⟨v, p, _, _, _, _, rfl, upd_same, .cons (.ty "list") (.cons (.ty "tuple") .nil), TyX.ext ty e, kit_seq kt, q _ e⟩
theorem ok_isPair {f g : Addr} {fd gd : FuncData} (F : Fun K "is_pair" "is_pair" sIsPair f fd) (FI : Fun K "is_list" "is_list" sIsList g gd) (b : Binds K gd ["thing"] []) (m : mg "is_list" = some (.ref g)) (B : Bl mg) :
    FnOk P w K mg base CX0 2 f fd ["thing"] (spIsPair K) := by
  have G := ok_isList (P := P) (w := w) (base := base) FI B
  refine F.ok scIsPair (fun vs H Q E h => ?_) (fun cdv A outer s H vs Q E hr h => ?_)
  · obtain ⟨v, rfl, _⟩ := h
    rfl
  obtain ⟨v, rfl, h⟩ := h
  refine ⟨_, pss_one (by exact ps_ret (pe_and (pe_call G hr rfl m FI.kp b .nil pass0 (pa_cons (pv 0) pa_nil)) (pe_one (pe_cmpR op_eq (pe_callB call_len_seq rfl B.len PySem.boot_len (pa_cons (pv 0) pa_nil)) pe_int (nomark _))))), ?_⟩
  rcases h with ⟨xs, sv, q⟩ | ⟨⟨t, ty, kt, nt⟩, q⟩
  · obtain ⟨t, ty, kt, st⟩ := sv.ty (K := K)
    refine ⟨_, rfl, v, t, rfl, ty, kt, fun H' e => ⟨_, rfl, ?_⟩⟩
    rw [st]
    refine iteT ?_
    obtain ⟨p, rfl, sq⟩ := (sv.ext e).sq (K := K)
    refine ⟨_, rfl, p, xs, rfl, sq, rfl, ?_⟩
    have z : decide (V.int (xs.length : Int) = V.int 2) = decide (xs.length = 2) := by
      apply decide_eq_decide.mpr
      constructor
      · intro h; have := V.int.inj h; omega
      · intro h; rw [h]; rfl
    rw [z]
    exact q H' e
  · refine ⟨_, rfl, v, t, rfl, ty, kt, fun H' e => ⟨_, rfl, ?_⟩⟩
    rw [nt]
    exact iteF (q H' e)
end
end K1
end
-- KErr
section
set_option Elab.async false
set_option linter.all false
set_option maxRecDepth 100000
set_option maxHeartbeats 4000000
namespace K1
open PySem PySem.Spec PyProof.Rows L2
abbrev sIH : Stmt := inClass (top 3) 0
abbrev sIR : Stmt := inClass (top 4) 0
abbrev sID : Stmt := inClass (top 5) 0
/-- what the written part says of FeastError, at CF -/
structure FeC (K : PySem.W.Frag) (mg : Str → Option Value) (CF : Addr) : Prop where
  m : mg "FeastError" = some (.ref CF)
  sp : PySem.W.specialIn K (.ref CF) "__getattribute__" = some (some (.builtin "type.__getattribute__"))
  rd : PySem.W.readsIn K CF (.type "type") = true
  ini : PySem.W.findCls K (.ref CF) (.type "type") "__init__" = some (.val (.builtin "ValueError.__init__"))
section
variable {X : Cx} {e : Expr} {es : List Expr} {ta : TA} {p1 p2 pos : Pos}
theorem pe_feinit {pl : Sem Bool} {CF : Addr} (hg : Gl X "FeastError") (T : FeC X.K X.mg CF) (ha : PA X (e :: es) ta)
    (hc : eval (.Call (.Attribute (.Name "FeastError" p1) "__init__" p2) (e :: es) [] pos) X.env = (do
      let ov ← eval (.Name "FeastError" p1) X.env
      standAt p2.atName
      let (f, first) ← holding [ov] (getMethod ov "__init__" pl)
      callWith pos f first (backTo pos (starEach (e :: es) X.env)) (backToKw pos (keywordEach [] X.env))) := by rfl)
    (he : starEach (e :: es) X.env = (false, eval e X.env) :: starEach es X.env := by rfl) (hpl : (backTo pos (starEach es X.env)).any (·.1) = false := by rfl) :
    PE X (.Call (.Attribute (.Name "FeastError" p1) "__init__" p2) (e :: es) [] pos) (tVeI X.K ta) := by
  refine ⟨fun pins s σ H Q I h => ?_⟩
  refine PySem.W.methodCall_KW (ld_glob I hg T.m ?_ (by decide)) hc
  refine PySem.W.method_cls I.kIn T.sp (PySem.W.cls_value I.kIn T.rd T.ini (by decide +kernel) ?_)
  show wpAny _ _ (callWith pos (Value.builtin "ValueError.__init__") [] (backTo pos (starEach (e :: es) X.env)) []) _ _ _
  refine PyProof.Rows.callWith_method1 (thn (ha.run pos pins _ σ H _ (I.tok _) h) fun us s1 ⟨vs, H1, I1, r1, a, C, ws, ev, hl, T, ea, q⟩ => ?_) he hpl
  subst ev
  cases r1 with
  | @cons _ u0 _ ur ra rw' =>
    obtain rfl : u0 = Value.ref a := ra
    have hlen : ur.length ≤ sizeLine := by
      rw [← Paired.length rw', sizeLine_eq]
      omega
    exact oinit_ok T I1 ea hlen fun s' J => ⟨.non, H1, J, rfl, q⟩
end
/-- what the written part says of an error's class with one field -/
structure ErC (K : PySem.W.Frag) (mg : Str → Option Value) (x : Str) (C f : Addr) : Prop where
  m : mg x = some (.ref C)
  ox : OexC K C
  no : PySem.W.findIn K (.ref C) "index" = some none
  ini : PySem.W.findIn K (.ref C) "__init__" = some (some (.ref f))
  ty : PySem.W.typeIn K (.ref f) = some (.type "function")
def spErI (C : Addr) : Sp := fun vs H Q _ => ∃ (a : Addr) (v : V), vs = [.ref a, v] ∧ H a = some (exo a C none) ∧ ∀ d, H d = none → d ≠ a → Q .non (upd (upd H d (exd d [("index", v)])) a (exo a C (some d)))
theorem scIH : FnScope ["self", "index"] ["self", "index"] (defScope sIH) := ⟨rfl, rfl, rfl, by decide +kernel, rfl, by decide +kernel, by decide +kernel⟩
theorem scIR : FnScope ["self", "index"] ["self", "index"] (defScope sIR) := ⟨rfl, rfl, rfl, by decide +kernel, rfl, by decide +kernel, by decide +kernel⟩
theorem scID : FnScope ["self", "index"] ["self", "index"] (defScope sID) := ⟨rfl, rfl, rfl, by decide +kernel, rfl, by decide +kernel, by decide +kernel⟩
section
variable {P : Program} {w : World} {K : PySem.W.Frag} {mg : Str → Option Value} {base : Heap} {CF : Addr}
theorem ok_iH {f C : Addr} {fd : FuncData} (F : Fun K "__init__" "BadHouses.__init__" sIH f fd) (T : FeC K mg CF) (TC : ErC K mg "BadHouses" C f) : FnOk P w K mg base CX0 1 f fd ["self", "index"] (spErI C) := by
  refine F.ok scIH (fun vs H Q E h => ?_) (fun cdv A outer s H vs Q E hr h => ?_)
  · obtain ⟨a, v, rfl, _⟩ := h
    rfl
  obtain ⟨a, v, rfl, ha, q⟩ := h
  refine ⟨_, pss_cons (by exact ps_expr (pe_feinit rfl T (pa_cons (pv 0) (pa_cons pe_str pa_nil)))) (pss_one (by exact ps_ost (pv 0) (pv 1))), ?_⟩
  refine ⟨_, rfl, a, C, [.str _], rfl, (by decide), TC.ox, ha, _, rfl, _, rfl, a, C, rfl, TC.ox, TC.no, .inl ⟨ha, fun d hd n => q d hd n⟩⟩
theorem ok_iR {f C : Addr} {fd : FuncData} (F : Fun K "__init__" "BadRoads.__init__" sIR f fd) (T : FeC K mg CF) (TC : ErC K mg "BadRoads" C f) : FnOk P w K mg base CX0 1 f fd ["self", "index"] (spErI C) := by
  refine F.ok scIR (fun vs H Q E h => ?_) (fun cdv A outer s H vs Q E hr h => ?_)
  · obtain ⟨a, v, rfl, _⟩ := h
    rfl
  obtain ⟨a, v, rfl, ha, q⟩ := h
  refine ⟨_, pss_cons (by exact ps_expr (pe_feinit rfl T (pa_cons (pv 0) (pa_cons pe_str pa_nil)))) (pss_one (by exact ps_ost (pv 0) (pv 1))), ?_⟩
  refine ⟨_, rfl, a, C, [.str _], rfl, (by decide), TC.ox, ha, _, rfl, _, rfl, a, C, rfl, TC.ox, TC.no, .inl ⟨ha, fun d hd n => q d hd n⟩⟩
theorem ok_iD {f C : Addr} {fd : FuncData} (F : Fun K "__init__" "BadHeads.__init__" sID f fd) (T : FeC K mg CF) (TC : ErC K mg "BadHeads" C f) : FnOk P w K mg base CX0 1 f fd ["self", "index"] (spErI C) := by
  refine F.ok scID (fun vs H Q E h => ?_) (fun cdv A outer s H vs Q E hr h => ?_)
  · obtain ⟨a, v, rfl, _⟩ := h
    rfl
  obtain ⟨a, v, rfl, ha, q⟩ := h
  refine ⟨_, pss_cons (by exact ps_expr (pe_feinit rfl T (pa_cons (pv 0) (pa_cons pe_str pa_nil)))) (pss_one (by exact ps_ost (pv 0) (pv 1))), ?_⟩
  refine ⟨_, rfl, a, C, [.str _], rfl, (by decide), TC.ox, ha, _, rfl, _, rfl, a, C, rfl, TC.ox, TC.no, .inl ⟨ha, fun d hd n => q d hd n⟩⟩
end
end K1
end
-- KName
section
set_option Elab.async false
set_option linter.all false
set_option maxRecDepth 100000
set_option maxHeartbeats 4000000
namespace K1
open PySem PySem.Spec PyProof.Rows L2
structure Signs (mg : Str → Option Value) : Prop where
  let_ : ∃ t, mg "LETTERS" = some (.str letters t)
  fig : ∃ t, mg "FIGURES" = some (.str figures t)
  lon : ∃ t, mg "LONGEST_NAME" = some (.int 8 t)
theorem map_take_succ {α β : Type} {l : List α} {f : α → β} {i : Nat} {c : α} (h : l[i]? = some c) : (l.take (i + 1)).map f = (l.take i).map f ++ [f c] := by
  rw [List.take_add_one, h]
  simp
section
variable {P : Program} {w : World} {K : PySem.W.Frag} {mg : Str → Option Value} {base : Heap}
theorem ok_isName {f : Addr} {fd : FuncData} (F : Fun K "is_name" "is_name" sIsName f fd) (B : Bl mg) (S : Signs mg) : FnOk P w K mg base CX0 1 f fd ["thing"] (spIsName K) := by
  refine F.ok scIsName (fun vs H Q E h => ?_) (fun cdv A outer s H vs Q E hr h => ?_)
  · obtain ⟨v, rfl, _⟩ := h
    rfl
  obtain ⟨v, rfl, h⟩ := h
  obtain ⟨t1, mL⟩ := S.let_
  obtain ⟨t2, mF⟩ := S.fig
  obtain ⟨t3, mN⟩ := S.lon
  have nd := scIsName.nd
  refine ⟨_, pss_cons (by exact ps_if (PW.pt (pw_or (pt_not (pt_val (pe_callB call_isi rfl B.isi PyProof.Rows.boot_isinstance (pa_cons (pv 0) (pa_cons (pe_bltn (v := .ty "str") rfl B.str PyProof.Rows.boot_str rfl) pa_nil)))))
      (pw_or1 (pt_not (pt_chain op_le op_le pe_int (pe_callB call_len_str rfl B.len PySem.boot_len (pa_cons (pv 0) pa_nil)) (pe_glob (v := .int 8) rfl mN ⟨_, rfl⟩)))))) (pss_one (ps_ret pe_bl)) pss_nil)
    (pss_one (by exact ps_ret (pe_and (pe_cmpR op_in_sign (pe_ix ix_str (pv 0) pe_int (fun _ _ => rfl)) (pe_glob (v := .str letters) rfl mL ⟨_, rfl⟩) (by with_unfolding_all rfl))
      (pe_one (pe_callB (cr_all rfl) rfl B.all PyProof.Rows.boot_all (pa_cons (pe_lc (own := [("sign", 1)]) (g := gName 1) (tt := tYes) rfl nd (by exact pi_str (pv 0))
        (by exact blkOk_by (N := ["thing", "sign"]) (sc := defScope sIsName) (by decide +kernel)) (fun _ _ _ _ _ => by exact pg_name (i := 1) nd rfl (Or.inl rfl)) (fun _ _ _ _ _ => pts_nil)
        (fun _ _ _ _ _ => by exact pe_or (pe_cmpR op_in_sign (pv 1) (pe_glob (v := .str letters) rfl mL ⟨_, rfl⟩) (by with_unfolding_all rfl)) (pe_one (pe_cmpR op_in_sign (pv 1) (pe_glob (v := .str figures) rfl mF ⟨_, rfl⟩) (by with_unfolding_all rfl))))) pa_nil)))))), ?_⟩
  rcases h with ⟨z, rfl, hz, q⟩ | ⟨t, ty, kt, nt, q⟩
  · have zl : z.length ≤ sizeLine := Nat.le_of_lt (small1000 hz)
    refine ⟨_, rfl, .str z, _, _, _, _, rfl, .ty "str", .base (.str z), kit_str (t := "str") (by decide), _, rfl, ?_⟩
    refine iteF ?_
    refine ⟨_, rfl, z, rfl, zl, ?_⟩
    refine ⟨_, _, rfl, rfl, _, rfl, ?_⟩
    have q0 : ∀ H', Same H H' → nameOk z = false → Q (.bl false) H' := fun H' e n => by rw [← n]; exact q H' e
    refine ite2 (fun c1 => ?_) (fun c1 => ?_)
    · refine ⟨_, _, rfl, rfl, _, rfl, ?_⟩
      by_cases c2 : (z.length : Int) ≤ 8
      · rw [decide_eq_true c2]
        refine iteF ?_
        have c1' : (1 : Int) ≤ (z.length : Int) := of_decide_eq_true c1
        have hlen : z.cps.toList.length = z.length := rfl
        obtain ⟨c, r, hcr⟩ : ∃ c r, z.cps.toList = c :: r := by
          cases e : z.cps.toList with
          | nil => rw [e] at hlen; simp at hlen; omega
          | cons c r => exact ⟨c, r, rfl⟩
        have ec : z.cps.toList[0]? = some c := by rw [hcr]; rfl
        have hnm : nameOk z = (decide (c ∈ letters.cps.toList) && z.cps.toList.all okSign) := by
          unfold nameOk
          have d1 : decide (1 ≤ z.length) = true := decide_eq_true (by omega)
          have d2 : decide (z.length ≤ 8) = true := decide_eq_true (by omega)
          rw [d1, d2, Bool.true_and, Bool.true_and]
          rw [hcr]
          rfl
        refine ⟨_, rfl, z, 0, c, rfl, rfl, zl, atI_nat (j := 0) ec, c, letters, rfl, rfl, _, rfl, ?_⟩
        by_cases cl : c ∈ letters.cps.toList
        · rw [decide_eq_true cl]
          refine iteT ?_
          refine ⟨_, rfl, z, rfl, fun D hD => ?_⟩
          refine lc_it walk_str (fun i Hc => Same H Hc ∧ Hc D = some (.lst (((z.cps.toList.take i).map okSign).map V.bl))) ⟨K1.Same.upd hD, upd_same⟩ (fun _ _ _ _ => True.intro) ?_ ?_
          · rintro i x Hc H' hi ⟨e1, e2⟩ ⟨rfl, d, hd, rfl⟩
            have hd' : z.cps.toList[i]? = some d := by rw [Array.getElem?_toList]; exact hd
            refine ⟨rfl, ?_⟩
            unfold tYes
            refine iteT ?_
            refine ⟨_, rfl, d, letters, rfl, rfl, _, rfl, ?_⟩
            have fin : ∀ b, b = okSign d → ∃ acc, H' D = some (.lst acc) ∧ acc.length < sizeLine ∧ Same H (upd H' D (.lst (acc ++ [.bl b]))) ∧ upd H' D (.lst (acc ++ [.bl b])) D = some (.lst (((z.cps.toList.take (i + 1)).map okSign).map V.bl)) := fun b hb => by
              refine ⟨_, e2, ?_, fun a o n => ?_, ?_⟩
              · rw [List.length_map, List.length_map]
                exact small1000 (Nat.le_trans (List.length_take_le _ _) (by have : i < z.cps.toList.length := hi; omega))
              · rw [upd_ne (ne_of_none n hD)]
                exact e1 a o n
              · rw [upd_same, map_take_succ hd', List.map_append, hb]
                rfl
            by_cases cd : d ∈ letters.cps.toList
            · rw [decide_eq_true cd]
              refine iteT (fin true ?_)
              unfold okSign
              rw [decide_eq_true cd, Bool.true_or]
            · rw [decide_eq_false cd]
              refine iteF ⟨_, rfl, d, figures, rfl, rfl, fin _ ?_⟩
              unfold okSign
              rw [decide_eq_false cd, Bool.false_or]
          · rintro Hc ⟨e1, e2⟩
            refine ⟨D, _, rfl, SqL.of e2, ?_⟩
            have ht : z.cps.toList.take z.cps.size = z.cps.toList := List.take_of_length_le (Nat.le_of_eq hlen)
            have : ((z.cps.toList.take z.cps.size).map okSign).all id = nameOk z := by
              rw [ht, hnm, decide_eq_true cl, Bool.true_and, List.all_map]
              rfl
            rw [this]
            exact q Hc e1
        · rw [decide_eq_false cl]
          refine iteF (q0 H (Same.refl H) ?_)
          rw [hnm, decide_eq_false cl, Bool.false_and]
      · rw [decide_eq_false c2]
        refine iteT (q0 H (Same.refl H) ?_)
        unfold nameOk
        have d2 : decide (z.length ≤ 8) = false := decide_eq_false (by omega)
        rw [d2, Bool.false_and, Bool.and_false]
    · have c1' : ¬ (1 : Int) ≤ (z.length : Int) := of_decide_eq_false (Bool.eq_false_iff.mpr c1)
      refine ⟨_, rfl, iteT (q0 H (Same.refl H) ?_)⟩
      unfold nameOk
      have d2 : decide (1 ≤ z.length) = false := decide_eq_false (by omega)
      rw [d2, Bool.false_and]
  · refine ⟨_, rfl, v, _, _, _, _, rfl, .ty "str", ty, kit_str kt, _, rfl, ?_⟩
    rw [decide_eq_false nt]
    exact iteT (iteT q)
end
end K1
end
-- KEnumT
section
set_option Elab.async false
set_option linter.all false
set_option maxRecDepth 100000
set_option maxHeartbeats 4000000
/-! enumerate over a tuple -/
namespace K1E
open PySem
open AutoSeq1 (wpAny_loadPart')
theorem meets_new (l : Addr) (items : Array Value) (n : Nat) (dct : Option Addr) (sl : Array (Option Value)) :
    Meets (Builtin.«enumerate.__new__» ⟨[.type "enumerate", .ref l], []⟩) (fun _ R s => s.heap.get? l = some { cls := .type "tuple", dict := dct, data := .seq items n, slots := sl } ∧
      R (.ok (.ret (.ref (s.heap.push { cls := .type "tuple_iterator", data := .fields #[.ref l, .int 0 0] }).objs.size)))
        { s with heap := (s.heap.push { cls := .type "tuple_iterator", data := .fields #[.ref l, .int 0 0] }).push { cls := .type "enumerate", data := .fields #[.none, .bool false, .ref s.heap.objs.size, rawInt 0, .none, .none] } }) :=
  .of_wp fun prog w A R s h => by
    obtain ⟨hp, g, d, tk, os⟩ := s; obtain ⟨hl, h⟩ := h
    have hsub := sub_enumerate
    have hT : Heap.IsTuple (Shared.heap ⟨hp, g, d, tk, os⟩) l items := ⟨_, hl, rfl, n, rfl⟩
    wp_walk using wpAny_loadPart' hl
    refine wpAny_stack_any fun st => wpAny_pure ?_
    split
    · rename_i c _ _ _ _ _
      cases (c == Value.type "enumerate")
      · wp_walk using wpAny_loadPart' hl, wpAny_pyIter_tuple hT
        exact ⟨_, rfl, h⟩
      · wp_walk using wpAny_loadPart' hl, wpAny_pyIter_tuple hT
        exact ⟨_, rfl, h⟩
    · wp_walk using wpAny_loadPart' hl, wpAny_pyIter_tuple hT
      exact ⟨_, rfl, h⟩
section
variable {prog : Program} {w : World} {A : Around} {E : Value → Shared → Prop} {s : Shared}
theorem call_enum_tuple {l : Addr} {items : Array Value} {Q : Value → Shared → Prop} (hL : s.heap.IsTuple l items)
    (h : ∀ h', IsEnum h' (s.heap.objs.size + 1) s.heap.objs.size 0 .none → h'.IsTupleIter s.heap.objs.size l 0 → h'.objs.size = s.heap.objs.size + 2 →
      (∀ b o, s.heap.get? b = some o → h'.get? b = some o) → Q (.ref (s.heap.objs.size + 1)) { s with heap := h' }) :
    wpAny (model prog w) A (call (.type "enumerate") [.ref l]) Q E s := by
  obtain ⟨⟨c, dct, dt, sl⟩, hl, hc, n, hd⟩ := hL
  replace hc : c = .type "tuple" := hc
  replace hd : dt = .seq items n := hd
  subst hc hd
  refine callType_new F.called_enumerate (by decide) (F.typeCall_enumerate_1 _) (F.newCall_enumerate_1 _) (fun obj => F.args_object_init_2 obj _) F.entry_enumerate_new (meets_new l items n dct sl) ⟨hl, ?_⟩
  have hz : (s.heap.push { cls := .type "tuple_iterator", data := .fields #[.ref l, .int 0 0] }).objs.size = s.heap.objs.size + 1 := Heap.size_push ..
  show _ ∧ _
  rw [hz]
  have he : IsEnum ((s.heap.push { cls := .type "tuple_iterator", data := .fields #[.ref l, .int 0 0] }).push
      { cls := .type "enumerate", data := .fields #[.none, .bool false, .ref s.heap.objs.size, rawInt 0, .none, .none] }) (s.heap.objs.size + 1) s.heap.objs.size 0 .none := by
    have q := Heap.get?_push_size (s.heap.push { cls := .type "tuple_iterator", data := .fields #[.ref l, .int 0 0] })
      (o := { cls := .type "enumerate", data := .fields #[.none, .bool false, .ref s.heap.objs.size, rawInt 0, .none, .none] }) rfl
    rw [hz] at q
    exact q
  exact ⟨⟨_, he, rfl⟩, h _ he ⟨_, Heap.get?_push_of_some _ (Heap.get?_push_size _ rfl), rfl, rfl⟩ (by rw [Heap.size_push, hz]) fun b o y => Heap.get?_push_of_some _ (Heap.get?_push_of_some _ y)⟩
end
end K1E
namespace K1
open PySem PySem.Spec PyProof.Rows L2
/-- the tuple at a, each item in a new pair -/
def IteT (K : PySem.W.Frag) (a : Addr) : It :=
  ⟨fun i H => ∃ (xs : List V) (x : V), SqT K H a xs ∧ xs[i]? = some x, fun i H v H' => ∃ T x, v = .ref T ∧ H T = none ∧ H' = upd H T (.tup [.int (i : Nat), x]) ∧ ∀ xs, SqT K H a xs → xs[i]? = some x, fun i H => ∃ xs : List V, SqT K H a xs ∧ xs.length ≤ i⟩
theorem turn_enumT {P : Program} {w : World} {K : PySem.W.Frag} {elts : List Expr} {kk : Nat} {tpos : Pos} (a e it : Addr) :
    Turn P w K (.Tuple elts kk tpos) (IteT K a) [e, it] e (fun i h => (∃ old, IsEnum h e it ((i : Nat) : Int) old) ∧ h.IsTupleIter it a i ∧ e ≠ it) where
  mem := by simp
  obj := fun i h st b hb => by
    obtain ⟨⟨old, he⟩, ⟨o, ho, hc, hd⟩, _⟩ := st
    have e' : b = e ∨ b = it := by simpa using hb
    rcases e' with z | z
    · rw [z]; exact ⟨_, he, fun v q => nomatch q⟩
    · rw [z]; exact ⟨o, ho, fun v q => by rw [hd] at q; cases q⟩
  keep := fun i h h' st k => let ⟨⟨old, he⟩, hi, hne⟩ := st; ⟨⟨old, k e (by simp) _ he⟩, hi.at fun o q => k it (by simp) o q, hne⟩
  item := by
    intro X hP hw hK hc i pins s σ H E I hf st hg
    subst hP hw hK
    obtain ⟨⟨old, he⟩, hit, hne⟩ := st
    obtain ⟨xs, x, hq, hx⟩ := hg
    obtain ⟨its, rv, p, hz⟩ := I.tuple hq
    obtain ⟨u, hu, ru⟩ := rv.get hx
    have hel : e < s.heap.objs.size := Heap.lt_size he
    have hil : it < s.heap.objs.size := by obtain ⟨_, q, _⟩ := hit; exact Heap.lt_size q
    have p' : s.heap.IsTuple a its.toArray := p
    have hlt : i < its.toArray.size := by
      have hh : i < its.length := by
        rcases Nat.lt_or_ge i its.length with q | q
        · exact q
        · rw [List.getElem?_eq_none q] at hu; cases hu
      simpa using hh
    have hia : it ≠ a := fun z => by
      obtain ⟨o, q1, q2, _⟩ := hit
      obtain ⟨o2, q3, q4, _⟩ := p'
      rw [z, q3] at q1
      have q5 := Option.some.inj q1
      rw [← q5, q4] at q2
      exact absurd q2 (by decide)
    have hea : e ≠ a := fun z => by
      obtain ⟨o2, q3, q4, _⟩ := p'
      have he' : s.heap.get? e = _ := he
      rw [z, q3] at he'
      have q5 := Option.some.inj he'
      rw [q5] at q4
      exact absurd (show Value.type "enumerate" = Value.type "tuple" from q4) (by decide)
    refine wpAny_pyNext_enum_itemD (Draws.tuple (A := X.A.in1) (show X.A.in1.handled = Option.none from I.ok.hd hc) it a hia.symm its.toArray) he ⟨hit, p'⟩ hlt hne (fun z => ?_) fun y h' tk hy ho hst hT hsz hk => ?_
    · rcases List.mem_cons.mp z with z | z
      · exact hne z
      · exact hea (List.mem_singleton.mp z)
    have hyu : y = u := by
      have h1 : its.toArray[i]? = some u := by simpa using hu
      rw [h1] at hy
      exact (Option.some.inj hy).symm
    subst hyu
    refine ⟨_, rfl, wpAny_letOwnedTupleGo_enum (s := { s with heap := h', toks := tk + 1 }) ho fun h'' he' sb => ?_⟩
    have hT2 : h''.get? s.heap.objs.size = some { cls := .type "tuple", data := .seq #[.int i tk, y] } := (sb.2 _ (Nat.ne_of_gt hel)).trans hT
    have new : ObjOk X.prog X.w (upd H s.heap.objs.size (.tup [.int (i : Nat), x])) h'' s.heap.objs.size (.tup [.int (i : Nat), x]) :=
      ⟨by show 2 ≤ sizeLine; decide, [.int i tk, y], .cons ⟨_, rfl⟩ (.cons ru .nil), ⟨_, hT2, rfl, _, rfl⟩⟩
    have I1 : Inv X pins σ (upd H s.heap.objs.size (.tup [.int (i : Nat), x])) { s with heap := h'', toks := tk + 1 } :=
      I.turnedNew (ch := [e, it]) (fun b ob hb q => (sb.2 b (fun z => hb (by simp [z]))).trans (hk b ob (fun z => hb (by simp [z])) (fun z => hb (by simp [z])) q)) hf (Nat.le_refl _) new
    refine ⟨.ref s.heap.objs.size, _, I1, rfl, ⟨_, x, rfl, I.hok.fresh (Nat.le_refl _), rfl, fun ys hy => by rw [I.tuple_inj hy hq]; exact hx⟩, ⟨⟨y, ?_⟩, hst.1.at fun o q => (sb.2 it (Ne.symm hne)).trans q, hne⟩, fun b hb => ?_⟩
    · have e1 : ((i + 1 : Nat) : Int) = (i : Int) + 1 := by omega
      rw [e1]; exact he'
    · have hb' : b < s.heap.objs.size := by
        have e' : b = e ∨ b = it := by simpa using hb
        rcases e' with z | z
        · rw [z]; exact hel
        · rw [z]; exact hil
      rw [upd_ne (Nat.ne_of_lt hb')]
      exact (hf b hb).1
  done := by
    intro X hP hw hK hc i pins s σ H E I hf st hg
    subst hP hw hK
    obtain ⟨⟨old, he⟩, hit, hne⟩ := st
    obtain ⟨xs, hq, hx⟩ := hg
    obtain ⟨its, rv, p, hz⟩ := I.tuple hq
    obtain ⟨f0, f1, f2, f3, f4, f5⟩ := hf it (by simp)
    have hl := rv.length
    have p' : s.heap.IsTuple a its.toArray := p
    have hT : s.TypeIs (.ref e) "enumerate" := ⟨_, he, rfl⟩
    unfold pyNext
    refine wpAny_bind (wpAny_attempt (wpAny_callSpecial?_slot (name := Str.ofString "__next__") hT F.slot_enumerate_next (wpAny_call_entry F.slot_enumerate_next hT F.entry_enumerate_next ?_ (F.args_enumerate_next_1 _))))
    show wpAny _ _ (field (.ref e) 2 >>= _) _ _ _
    refine wpAny_bind (wpAny_field he rfl (x := .ref it) rfl ?_)
    refine wpAny_bind (wpAny_nextOf_tuple_end (I.ok.hd hc) hit p' (by simp; omega) fun h' x he' hx' => ?_)
    obtain ⟨o, ho, hc2⟩ := hx'
    refine wpAny_bind (wpAny_isInstance (T := "StopIteration") (b := true) ⟨o, ho, hc2⟩ isSubtype_stop ?_)
    exact wpAny_pure ⟨rfl, I.turned (t' := s.toks) (fun b o hb q => he' b o hb q) f0 f1 f3 f4 f5⟩
  self := fun A i s Q E st h => let ⟨⟨_, he⟩, _⟩ := st; wpAny_pyIter_enum he h
def iEnumA (K : PySem.W.Frag) (ta : TA) : TI := fun σ H R => ta σ H fun vs H1 => ∃ a xs, vs = [.ref a] ∧ ((SqL K H1 a xs ∧ R (Ite K a) H1) ∨ (SqT K H1 a xs ∧ R (IteT K a) H1))
theorem pi_enumA {X : Cx} {e : Expr} {ta : TA} {p pos tpos : Pos} {elts : List Expr} {kk : Nat} (hg : Gl X "enumerate") (hm : X.mg "enumerate" = none) (ha : PA X [e] ta) (hs : starEach [e] X.env = [(false, eval e X.env)] := by rfl) :
    PI X (.Tuple elts kk tpos) (.Call (.Name "enumerate" p) [e] [] pos) (iEnumA X.K ta) := by
  refine ⟨fun pins s σ H R I h => ?_⟩
  refine Call_ (ld_blt I hg hm boot_enumerate (PyProof.Rows.callWith_type1 (thn (ha.run pos pins s σ H _ I h) fun us s1 ⟨vs, H1, I1, r1, q1⟩ => ?_) hs rfl))
  obtain ⟨a, xs, ex, hq⟩ := q1
  subst ex
  cases r1 with
  | cons r rr =>
    cases rr
    cases r
    rcases hq with ⟨hq, q⟩ | ⟨hq, q⟩
    · obtain ⟨its, rv, p', hz⟩ := I1.list hq
      refine call_enumerate_list p'.isList fun h' he hit hsz hk => wpAny_pyIter_enum he ?_
      have I2 : Inv X pins σ H1 { s1 with heap := h' } := I1.kept (t' := s1.toks) hk
      refine ⟨s1.heap.objs.size + 1, [s1.heap.objs.size + 1, s1.heap.objs.size], _, _, H1, rfl, I2, turn_enum a (s1.heap.objs.size + 1) s1.heap.objs.size, ⟨⟨.none, he⟩, hit, Nat.succ_ne_self _⟩, fun b hb => ?_, q⟩
      have e' : b = s1.heap.objs.size + 1 ∨ b = s1.heap.objs.size := by simpa using hb
      have hle : s1.heap.objs.size ≤ b := by
        rcases e' with z | z
        · rw [z]; exact Nat.le_add_right _ _
        · rw [z]; exact Nat.le_refl _
      exact I1.fpOk hle (I1.hok.fresh hle)
    · obtain ⟨its, rv, p', hz⟩ := I1.tuple hq
      refine K1E.call_enum_tuple (show s1.heap.IsTuple a its.toArray from p') fun h' he hit hsz hk => wpAny_pyIter_enum he ?_
      have I2 : Inv X pins σ H1 { s1 with heap := h' } := I1.kept (t' := s1.toks) hk
      refine ⟨s1.heap.objs.size + 1, [s1.heap.objs.size + 1, s1.heap.objs.size], _, _, H1, rfl, I2, turn_enumT a (s1.heap.objs.size + 1) s1.heap.objs.size, ⟨⟨.none, he⟩, hit, Nat.succ_ne_self _⟩, fun b hb => ?_, q⟩
      have e' : b = s1.heap.objs.size + 1 ∨ b = s1.heap.objs.size := by simpa using hb
      have hle : s1.heap.objs.size ≤ b := by
        rcases e' with z | z
        · rw [z]; exact Nat.le_add_right _ _
        · rw [z]; exact Nat.le_refl _
      exact I1.fpOk hle (I1.hok.fresh hle)
theorem walk_enumT {K : PySem.W.Frag} {a : Addr} {xs : List V} : Walk (IteT K a) xs.length (fun H => SqT K H a xs) (YPair (fun i => some (.int (i : Nat))) (fun i => xs[i]?)) := by
  refine ⟨fun i _ hi q => ⟨xs, xs[i], q, by simp [hi]⟩, fun _ q => ⟨xs, q, Nat.le_refl _⟩, fun i H v H' _ q y => ?_⟩
  obtain ⟨T, x, h1, h2, h3, h4⟩ := y
  exact ⟨T, .int (i : Nat), x, h1, h2, h3, rfl, h4 xs q⟩
end K1
end
-- KSeq
section
set_option Elab.async false
set_option linter.all false
set_option maxRecDepth 100000
set_option maxHeartbeats 4000000
namespace K1
open PySem PySem.Spec PyProof.Rows L2
/-- a list or a tuple at a, of xs -/
def SqA (K : PySem.W.Frag) (H : Hp) (a : Addr) (xs : List V) : Prop := SqL K H a xs ∨ SqT K H a xs
theorem SqT.same {K : PySem.W.Frag} {H H' : Hp} {a : Addr} {xs : List V} (e : Same H H') (h : SqT K H a xs) : SqT K H' a xs := by
  rcases h with (h | ⟨o, h⟩) | h
  · exact .inl (.inl (e _ _ h))
  · exact .inl (.inr ⟨o, e _ _ h⟩)
  · exact .inr h
theorem SqA.same {K : PySem.W.Frag} {H H' : Hp} {a : Addr} {xs : List V} (h : SqA K H a xs) (e : Same H H') : SqA K H' a xs := h.imp e.seq (SqT.same e)
/-- what stands at a still stands there -/
def At1 (a : Addr) (H H' : Hp) : Prop := ∀ o, H a = some o → H' a = some o
theorem At1.l {K : PySem.W.Frag} {H H' : Hp} {a : Addr} {xs : List V} (e : At1 a H H') (h : SqL K H a xs) : SqL K H' a xs := by
  rcases h with (h | ⟨o, h⟩) | h
  · exact .inl (.inl (e _ h))
  · exact .inl (.inr ⟨o, e _ h⟩)
  · exact .inr h
theorem At1.t {K : PySem.W.Frag} {H H' : Hp} {a : Addr} {xs : List V} (e : At1 a H H') (h : SqT K H a xs) : SqT K H' a xs := by
  rcases h with (h | ⟨o, h⟩) | h
  · exact .inl (.inl (e _ h))
  · exact .inl (.inr ⟨o, e _ h⟩)
  · exact .inr h
/-- enumerate of the list or tuple in slot i: by any walk over new pairs -/
def iEnumV (K : PySem.W.Frag) (i : Nat) : TI := fun σ H R => ∃ a xs, σ[i]? = some (some (.ref a)) ∧ SqA K H a xs ∧
  ∀ J G, Walk J xs.length G (YPair (fun i => some (.int (i : Nat))) (fun i => xs[i]?)) → (∀ H', At1 a H H' → G H') → R J H
/-- the items of the list or tuple in slot i -/
def iSeqV (K : PySem.W.Frag) (i : Nat) : TI := fun σ H R => ∃ a xs, σ[i]? = some (some (.ref a)) ∧ SqA K H a xs ∧ ∀ J G, Walk J xs.length G (YAt xs) → (∀ H', At1 a H H' → G H') → R J H
/-- a reading of arguments may be taken weaker -/
theorem PI.imp {X : Cx} {tg iter : Expr} {wi wi' : TI} (h : PI X tg iter wi) (hw : ∀ σ H R, wi' σ H R → wi σ H R) : PI X tg iter wi' := ⟨fun pins s σ H R I q => h.run pins s σ H R I (hw σ H R q)⟩
theorem PG.imp {X : Cx} {tg : Expr} {g g' : TG} (h : PG X tg g) (hw : ∀ v σ H Q, g' v σ H Q → g v σ H Q) : PG X tg g' := ⟨fun pins s σ H v u Q I r q => h.run pins s σ H v u Q I r (hw v σ H Q q)⟩
theorem pi_enumV {X : Cx} (i : Nat) {x : Str} {p px pos tpos : Pos} {elts : List Expr} {kk : Nat} (hg : Gl X "enumerate") (hm : X.mg "enumerate" = none) (hv : PE X (.Name x px) (tVar i)) (hs : starEach [.Name x px] X.env = [(false, eval (.Name x px) X.env)] := by rfl) :
    PI X (.Tuple elts kk tpos) (.Call (.Name "enumerate" p) [.Name x px] [] pos) (iEnumV X.K i) := by
  refine PI.imp (pi_enumA hg hm (pa_cons hv pa_nil) hs) fun σ H R q => ?_
  obtain ⟨a, xs, hσ, hq, q⟩ := q
  rcases hq with hq | hq
  · exact ⟨_, hσ, a, xs, rfl, .inl ⟨hq, q _ _ walk_enum fun H' h' => At1.l h' hq⟩⟩
  · exact ⟨_, hσ, a, xs, rfl, .inr ⟨hq, q _ _ walk_enumT fun H' h' => At1.t h' hq⟩⟩
theorem pi_seqV {X : Cx} {tg : Expr} (i : Nat) {x : Str} {px : Pos} (hv : PE X (.Name x px) (tVar i)) : PI X tg (.Name x px) (iSeqV X.K i) := by
  refine ⟨fun pins s σ H R I q => ?_⟩
  obtain ⟨a, xs, hσ, hq, q⟩ := q
  rcases hq with hq | hq
  · exact (pi_list hv).run pins s σ H R I ⟨_, hσ, a, rfl, ⟨xs, hq⟩, q _ _ walk_list fun H' h' => At1.l h' hq⟩
  · exact (pi_tup hv).run pins s σ H R I ⟨_, hσ, a, rfl, ⟨xs, hq⟩, q _ _ walk_tup fun H' h' => At1.t h' hq⟩
end K1
end
-- KNeed
section
set_option Elab.async false
set_option linter.all false
set_option maxRecDepth 100000
set_option maxHeartbeats 4000000
namespace K1
open PySem PySem.Spec PyProof.Rows L2
abbrev sNH : Stmt := top 25
/-- an error of the class at C with this index goes out; all that was tracked is as it was -/
def Goes (C : Addr) (i : Int) (H : Hp) (E : XK) : Prop := ∀ (d : Addr) (H' : Hp), Same H H' → H d = none → H' d = some (.xd [("index", .int i)]) → E (.ref C) (some d) H'
theorem Goes.ext {C : Addr} {i : Int} {H H1 : Hp} {E : XK} (g : Goes C i H E) (e : Same H H1) : Goes C i H1 E := fun d H' e2 n h => g d H' (e.trans e2) (e.free n) h
/-- good names -/
def Good (ss : List Str) : Prop := ss.Nodup ∧ ∀ s ∈ ss, nameOk s = true ∧ s.length ≤ 1000
theorem mem_take_succ {α : Type} {l : List α} {i : Nat} {u : α} (h : i < l.length) : u ∈ l.take (i + 1) ↔ u ∈ l.take i ∨ u = l[i] := by
  rw [List.take_add_one, List.getElem?_eq_getElem h, Option.toList, List.mem_append, List.mem_singleton]
/-- no name behind these -/
def BadName (K : PySem.W.Frag) (H : Hp) (ss : List Str) (x : V) : Prop := (∃ t, TyX K H x (.type t) ∧ t ∈ kinds ∧ t ≠ "str") ∨ ∃ s, x = .str s ∧ s.length ≤ 1000 ∧ (nameOk s = false ∨ s ∈ ss)
theorem BadName.ext {K : PySem.W.Frag} {H H' : Hp} {ss : List Str} {x : V} (h : BadName K H ss x) (e : Same H H') : BadName K H' ss x := h.imp (fun ⟨t, a, b⟩ => ⟨t, TyX.ext a e, b⟩) id
def spNH (K : PySem.W.Frag) (C : Addr) : Sp := fun vs H Q E => ∃ v, vs = [v] ∧
  ((NoSeq K H v ∧ Goes C 0 H E) ∨ (SeqV H v [] ∧ Goes C 0 H E) ∨
   (∃ ss, SeqV H v (ss.map V.str) ∧ ss ≠ [] ∧ ss.length ≤ 1000 ∧ Good ss ∧ ∀ H', Same H H' → Q .non H') ∨
   (∃ ss x rest, SeqV H v (ss.map V.str ++ x :: rest) ∧ ss.length ≤ 1000 ∧ Good ss ∧ BadName K H ss x ∧ Goes C (ss.length : Nat) H E))
theorem scNH : FnScope ["houses", "seen", "index", "name"] ["houses"] (defScope sNH) := ⟨rfl, rfl, rfl, by decide +kernel, rfl, by decide +kernel, by decide +kernel⟩
/-- what stands behind an error that was made: its dict -/
theorem made_err {C d a : Addr} {v : V} {H : Hp} : upd (del (upd (upd H d (exd d [("index", v)])) a (exo a C (some d))) a) d (.xd [("index", v)]) d = some (.xd [("index", v)]) := upd_same
section
variable {P : Program} {w : World} {K : PySem.W.Frag} {mg : Str → Option Value} {base : Heap} {CF : Addr}
/-- the reading of X(index), as a raise asks it -/
theorem raise_idx {C : Addr} {E : XK} {H0 H : Hp} {i : Int} (g : Goes C i H0 E) (e : Same H0 H) :
    ∀ a, H a = none → spErI C [V.ref a, V.int i] (upd H a (exo a C none)) (fun v H2 => v = .non ∧ ∃ (d : Addr) (fs : List (Str × V)), H2 a = some (exo a C (some d)) ∧ H2 d = some (exd d fs) ∧ H d = none ∧ E (.ref C) (some d) (upd (del H2 a) d (.xd fs))) (fun _ _ _ => False) := by
  intro a ha
  refine ⟨a, .int i, rfl, upd_same, fun d hd hda => ⟨rfl, d, [("index", .int i)], upd_same, ?_, ?_, ?_⟩⟩
  · rw [upd_ne hda, upd_same]
  · rw [upd_ne hda] at hd
    exact hd
  · rw [upd_ne hda] at hd
    refine g d _ (fun b o n => ?_) (e.free hd) upd_same
    have n1 := e b o n
    have b1 : b ≠ a := ne_of_none n1 ha
    have b2 : b ≠ d := ne_of_none n1 hd
    rw [upd_ne b2, del_ne b1, upd_ne b1, upd_ne b2, upd_ne b1]
    exact n1
theorem ok_NH {f g fN fE C : Addr} {fd gd nd ed : FuncData} (F : Fun K "_need_houses" "_need_houses" sNH f fd) (B : Bl mg) (S : Signs mg) (me : mg "enumerate" = none) (ms : mg "set" = none)
    (FI : Fun K "is_list" "is_list" sIsList g gd) (b : Binds K gd ["thing"] []) (m : mg "is_list" = some (.ref g))
    (FN : Fun K "is_name" "is_name" sIsName fN nd) (bN : Binds K nd ["thing"] []) (mN : mg "is_name" = some (.ref fN))
    (T : FeC K mg CF) (TC : ErC K mg "BadHouses" C fE) (FE : Fun K "__init__" "BadHouses.__init__" sIH fE ed) (bE : Binds K ed ["self", "index"] []) :
    FnOk P w K mg base (L2.CX P w) 4 f fd ["houses"] (spNH K C) := by
  have G := ok_isList (P := P) (w := w) (base := base) FI B
  have GN := ok_isName (P := P) (w := w) (base := base) FN B S
  have GE := ok_iH (P := P) (w := w) (base := base) FE T TC
  refine F.okX scNH (fun vs H Q E h => ?_) (fun cdv A outer s H vs Q E hr h => ?_)
  · obtain ⟨v, rfl, _⟩ := h
    rfl
  obtain ⟨v, rfl, h⟩ := h
  have nd := scNH.nd
  have hu := hu_of hr
  have hr1 : Room 1 _ := hr.mono (by decide)
  have hr2 : Room 2 _ := hr.mono (by decide)
  refine ⟨_, pss_cons (by exact (ps_if (PW.pt (pw_or (pt_not (pt_val (pe_call G hr1 rfl m FI.kp b .nil pass0 (pa_cons (pv 0) pa_nil)))) (pw_or1 (pt_cmpR op_eq (pe_callB call_len_seq rfl B.len PySem.boot_len (pa_cons (pv 0) pa_nil)) pe_int (nomark _)))))
      (pss_one (by exact (ps_raise rfl (takes_of rfl rfl rfl rfl) (pmk_oex TC.ox TC.ini TC.ty GE hr2 bE .nil pass0 rfl TC.m (pa_cons pe_int pa_nil))))) pss_nil))
    (pss_cons (by exact (ps_set (i := 1) nd rfl (.inl rfl) (pe_callTy0 cr_set0K rfl ms PyProof.Rows.boot_set)))
    (pss_one (by exact (ps_for (passes_of rfl) rfl (by exact pi_enumV 0 rfl me (pv 0)) (pg_tup rfl (pgs_cons (pg_name (i := 2) nd rfl (.inl rfl)) (pgs_cons (pg_name (i := 3) nd rfl (.inl rfl)) pgs_nil)))
      (pss_cons (by exact (ps_if (PW.pt (pw_or (pt_not (pt_val (pe_call GN hr1 rfl mN FN.kp bN .nil pass0 (pa_cons (pv 3) pa_nil)))) (pw_or1 (pt_cmpR or_sinK (pv 3) (pv 1) (by with_unfolding_all rfl)))))
          (pss_one (by exact (ps_raise rfl (takes_of rfl rfl rfl rfl) (pmk_oex TC.ox TC.ini TC.ty GE hr2 bE .nil pass0 rfl TC.m (pa_cons (pv 2) pa_nil))))) pss_nil))
        (pss_one (by exact (ps_expr (pe_saddK (pv 1) (pa_cons (pv 3) pa_nil)))))))))), ?_⟩
  have two : ∀ xs, SeqV H v xs → ∃ t, TyX K H v (.type t) ∧ t ∈ kinds ∧ isSeqT t = true := fun xs sv => sv.ty
  rcases h with ⟨⟨t, ty, kt, nt⟩, g⟩ | ⟨sv, g⟩ | h
  · refine ⟨_, rfl, v, t, rfl, ty, kt, fun H' e => ⟨_, rfl, ?_⟩⟩
    rw [nt]
    exact iteT (iteT ⟨by decide, raise_idx g e⟩)
  · obtain ⟨t, ty, kt, st⟩ := sv.ty (K := K)
    refine ⟨_, rfl, v, t, rfl, ty, kt, fun H' e => ⟨_, rfl, ?_⟩⟩
    rw [st]
    obtain ⟨p, rfl, sq⟩ := (sv.ext e).sq (K := K)
    exact iteF ⟨_, rfl, p, [], rfl, sq, rfl, _, rfl, iteT ⟨by decide, raise_idx g e⟩⟩
  · -- names: the good ones ss, then perhaps a bad one
    obtain ⟨ss, xs, sv, hne, hl, good, rest⟩ : ∃ (ss : List Str) (xs : List V), SeqV H v xs ∧ xs ≠ [] ∧ ss.length ≤ 1000 ∧ Good ss ∧
        ((xs = ss.map V.str ∧ ∀ H', Same H H' → Q .non H') ∨ (∃ x r, xs = ss.map V.str ++ x :: r ∧ BadName K H ss x ∧ Goes C (ss.length : Nat) H E)) := by
      rcases h with ⟨ss, sv, hne, hl, good, q⟩ | ⟨ss, x, r, sv, hl, good, bad, g⟩
      · exact ⟨ss, _, sv, by simpa using hne, hl, good, .inl ⟨rfl, q⟩⟩
      · exact ⟨ss, _, sv, by simp, hl, good, .inr ⟨x, r, rfl, bad, g⟩⟩
    obtain ⟨t, ty, kt, st⟩ := sv.ty (K := K)
    refine ⟨_, rfl, v, t, rfl, ty, kt, fun H1 e1 => ⟨_, rfl, ?_⟩⟩
    rw [st]
    refine iteF ?_
    obtain ⟨p, rfl, hp⟩ := sv.ext e1
    have sq : SqA K H1 p xs := hp.imp (fun h => SqL.of h) (fun h => SqT.of h)
    have z0 : decide (V.int (xs.length : Int) = V.int 0) = false := decide_eq_false fun z => hne (List.length_eq_zero_iff.mp (by have := V.int.inj z; omega))
    refine ⟨_, rfl, p, xs, rfl, sq, rfl, _, rfl, ?_⟩
    rw [z0]
    refine iteF ?_
    refine ⟨rfl, fun sA hsA => ?_⟩
    have e2 : Same H (upd H1 sA (SetK P w sA (fun _ => false) 0)) := e1.trans (K1.Same.upd hsA)
    have hsA0 : H sA = none := e1.free hsA
    have sq2 : SqA K (upd H1 sA (SetK P w sA (fun _ => false) 0)) p xs := SqA.same (H := H1) sq (K1.Same.upd hsA)
    refine ⟨p, xs, rfl, sq2, fun J G wk hG => ?_⟩
    have xat : ∀ i (hi : i < ss.length), xs[i]? = some (.str ss[i]) := fun i hi => by
      rcases rest with ⟨rfl, _⟩ | ⟨x, r, rfl, _⟩
      · rw [List.getElem?_map, List.getElem?_eq_getElem hi]; rfl
      · rw [List.getElem?_append_left (by rw [List.length_map]; exact hi), List.getElem?_map, List.getElem?_eq_getElem hi]; rfl
    have lng : ss.length ≤ xs.length := by
      rcases rest with ⟨rfl, _⟩ | ⟨x, r, rfl, _⟩
      · simp
      · simp
    refine for_it wk (fun i σ Hc => i ≤ ss.length ∧ (∃ a b, σ = [some (.ref p), some (.ref sA), a, b]) ∧ Same H Hc ∧ (∀ c o, c ≠ sA → upd H1 sA (SetK P w sA (fun _ => false) 0) c = some o → Hc c = some o) ∧
      ∃ (S : Key → Bool) (k : Nat), Hc sA = some (SetK P w sA S k) ∧ k ≤ i ∧ ∀ u : Str, S (.inr u) = decide (u ∈ ss.take i)) ?_ ?_ ?_ ?_
    · exact ⟨Nat.zero_le _, ⟨_, _, rfl⟩, e2, fun c o _ h => h, _, 0, upd_same, Nat.le_refl _, fun u => by simp⟩
    · rintro i σ Hc hi ⟨h1, h2, h3, h4, h5⟩
      have pn : p ≠ sA := hp.elim (fun h => ne_of_none h hsA) (fun h => ne_of_none h hsA)
      exact hG Hc fun o ho => h4 p o pn ho
    · rintro i x σ Hc H' hi ⟨h1, ⟨sa, sb, rfl⟩, h3, h4, S, k, h5, h6, h7⟩ ⟨T, x1, x2, rfl, hT, rfl, e1', e2'⟩
      obtain rfl : x1 = .int (i : Nat) := (Option.some.inj e1').symm
      have e2' : xs[i]? = some x2 := e2'
      have hT2 := K1.Same.upd (H := Hc) (p := T) (o := .tup [.int (i : Nat), x2]) hT
      have eT : Same H (upd Hc T (.tup [.int (i : Nat), x2])) := h3.trans hT2
      refine ⟨T, _, rfl, SqT.of upd_same, rfl, _, _, rfl, _, _, rfl, rfl, ?_⟩
      by_cases hlt : i < ss.length
      · have ex2 : x2 = .str ss[i] := by
          have := xat i hlt
          rw [this] at e2'
          exact (Option.some.inj e2').symm
        subst ex2
        have gi := good.2 ss[i] (List.getElem_mem hlt)
        refine ⟨_, rfl, .str ss[i], rfl, .inl ⟨ss[i], rfl, gi.2, fun H2 f2 => ⟨_, rfl, ?_⟩⟩⟩
        rw [gi.1]
        refine iteF ?_
        have sA2 := f2 _ _ (hT2 _ _ h5)
        have nin : ¬ ss[i] ∈ ss.take i := fun hm => by
          obtain ⟨j, hj, ej⟩ := List.getElem_of_mem hm
          rw [List.length_take] at hj
          rw [List.getElem_take] at ej
          have := (List.getElem_inj good.1).mp ej
          omega
        refine ⟨_, rfl, _, rfl, .inr ss[i], sA, S, k, rfl, rfl, sA2, _, rfl, ?_⟩
        rw [h7, decide_eq_false nin]
        refine iteF ?_
        refine ⟨_, rfl, ⟨sA, S, k, rfl, sA2⟩, _, rfl, sA, .inr ss[i], S, k, rfl, rfl, sA2, (by show k + 1 < 4096; omega), ?_⟩
        refine ⟨hlt, ⟨_, _, rfl⟩, fun c o n => ?_, fun c o n1 n2 => ?_, _, _, upd_same, ?_, fun u => ?_⟩
        · rw [upd_ne (ne_of_none n hsA0)]
          exact f2 _ _ (eT _ _ n)
        · rw [upd_ne n1]
          exact f2 _ _ (hT2 _ _ (h4 c o n1 n2))
        · split <;> omega
        · show (S (.inr u) || decide ((Sum.inr u : Key) = Sum.inr ss[i])) = decide (u ∈ ss.take (i + 1))
          rw [h7, key_rr, ← Bool.decide_or]
          exact decide_eq_decide.mpr (mem_take_succ hlt).symm
      · rcases rest with ⟨rfl, _⟩ | ⟨x, r, hxs, bad, g⟩
        · rw [List.length_map] at hi
          exact absurd hi hlt
        · have ei : i = ss.length := by omega
          subst ei
          have ex2 : x2 = x := by
            rw [hxs, List.getElem?_append_right (by rw [List.length_map]; exact Nat.le_refl _), List.length_map, Nat.sub_self] at e2'
            exact (Option.some.inj e2').symm
          subst ex2
          rcases bad.ext eT with ⟨t, ty, kt, nt⟩ | ⟨u, rfl, hu1, hu2⟩
          · exact ⟨_, rfl, x2, rfl, .inr ⟨t, ty, kt, nt, _, rfl, iteT (iteT ⟨_, rfl, (by show 1 ≤ 1000; decide), raise_idx g eT⟩)⟩⟩
          · refine ⟨_, rfl, .str u, rfl, .inl ⟨u, rfl, hu1, fun H2 f2 => ⟨_, rfl, ?_⟩⟩⟩
            rcases hu2 with hu2 | hu2
            · rw [hu2]
              exact iteT (iteT ⟨_, rfl, (by show 1 ≤ 1000; decide), raise_idx g (eT.trans f2)⟩)
            · cases hn : nameOk u with
              | false => exact iteT (iteT ⟨_, rfl, (by show 1 ≤ 1000; decide), raise_idx g (eT.trans f2)⟩)
              | true =>
                refine iteF ?_
                refine ⟨_, rfl, _, rfl, .inr u, sA, S, k, rfl, rfl, f2 _ _ (hT2 _ _ h5), _, rfl, ?_⟩
                rw [h7, List.take_of_length_le (Nat.le_refl _), decide_eq_true hu2]
                exact iteT ⟨_, rfl, (by show 1 ≤ 1000; decide), raise_idx g (eT.trans f2)⟩
    · rintro σ Hc ⟨h1, h2, h3, h4, h5⟩
      rcases rest with ⟨rfl, q⟩ | ⟨x, r, rfl, bad, g⟩
      · exact q Hc h3
      · rw [List.length_append, List.length_map, List.length_cons] at h1
        omega
end
end K1
end
-- KUF
section
set_option Elab.async false
set_option linter.all false
set_option maxRecDepth 100000
set_option maxHeartbeats 4000000
namespace K1
open PySem PySem.Spec PyProof.Rows L2
/-- the dict of leaders: rt tells whom one comes to at last, rk falls on the way -/
structure UF (hs : List Str) (kvs : List (Key × V)) (rt : Str → Str) (rk : Str → Nat) : Prop where
  len : kvs.length ≤ hs.length
  ex : ∃ ld : Str → Str, (∀ s, valV kvs (.inr s) = if s ∈ hs then some (.str (ld s)) else none) ∧
    ∀ s ∈ hs, ld s ∈ hs ∧ rt (ld s) = rt s ∧ rt s ∈ hs ∧ (ld s = s → rt s = s) ∧ (ld s ≠ s → rk (ld s) < rk s) ∧ ld (rt s) = rt s
theorem putK_len {kvs : List (Key × V)} {k : Key} {v : V} (h : (valV kvs k).isSome = true) : (putK kvs k v).length = kvs.length := by
  unfold putK
  rw [← valV_any] at h
  rw [if_pos h, List.length_map]
theorem ite_rr {α : Type} (s x : Str) (p q : α) : (if (Sum.inr s : Key) = Sum.inr x then p else q) = if s = x then p else q := by
  by_cases e : s = x
  · rw [if_pos e, if_pos (by rw [e])]
  · rw [if_neg e, if_neg (fun z => e (Sum.inr.inj z))]
/-- the way is made shorter -/
theorem UF.halve {hs : List Str} {kvs : List (Key × V)} {rt : Str → Str} {rk : Str → Nat} {x : Str} (u : UF hs kvs rt rk) (hx : x ∈ hs) :
    ∃ y, valV kvs (.inr x) = some (.str y) ∧ y ∈ hs ∧ (y = x → rt x = x) ∧ (y ≠ x → ∃ z, valV kvs (.inr y) = some (.str z) ∧ z ∈ hs ∧ rk z < rk x ∧ rt z = rt x ∧ UF hs (putK kvs (.inr x) (.str z)) rt rk) := by
  obtain ⟨hl, ld, h1, h2⟩ := u
  have a := h2 x hx
  have b := h2 (ld x) a.1
  refine ⟨ld x, by rw [h1, if_pos hx], a.1, a.2.2.2.1, fun ne => ⟨ld (ld x), by rw [h1, if_pos a.1], b.1, ?_, by rw [b.2.1, a.2.1], ?_⟩⟩
  · have r1 := a.2.2.2.2.1 ne
    by_cases e : ld (ld x) = ld x
    · rw [e]; exact r1
    · exact Nat.lt_trans (b.2.2.2.2.1 e) r1
  · refine ⟨?_, fun s => if s = x then ld (ld x) else ld s, fun s => ?_, fun s hs' => ?_⟩
    · rw [putK_len (by rw [h1, if_pos hx]; rfl)]
      exact hl
    · rw [valV_put, ite_rr]
      show _ = if s ∈ hs then some (V.str (if s = x then ld (ld x) else ld s)) else none
      by_cases e : s = x
      · rw [if_pos e, if_pos e, e, if_pos hx]
      · rw [if_neg e, if_neg e, h1]
    · have c := h2 s hs'
      have rx : rt s ≠ x := fun e => by
        have q := c.2.2.2.2.2
        rw [e] at q
        exact ne q
      by_cases e : s = x
      · subst e
        simp only [if_true]
        refine ⟨b.1, by rw [b.2.1, a.2.1], c.2.2.1, fun e2 => ?_, fun e2 => ?_, by rw [if_neg rx]; exact c.2.2.2.2.2⟩
        · exfalso
          have r1 := a.2.2.2.2.1 ne
          by_cases e3 : ld (ld s) = ld s
          · rw [e3] at e2; exact ne e2
          · have r2 := b.2.2.2.2.1 e3
            rw [e2] at r2
            omega
        · have r1 := a.2.2.2.2.1 ne
          by_cases e3 : ld (ld s) = ld s
          · rw [e3]; exact r1
          · exact Nat.lt_trans (b.2.2.2.2.1 e3) r1
      · simp only [if_neg e, if_neg rx]
        exact c
theorem UF.start {hs : List Str} (nd : hs.Nodup) : UF hs (hs.map fun s => ((.inr s : Key), V.str s)) (fun s => s) (fun _ => 0) := by
  refine ⟨by rw [List.length_map]; exact Nat.le_refl _, fun s => s, fun s => ?_, fun s h => ⟨h, rfl, h, fun _ => rfl, fun e => absurd rfl e, rfl⟩⟩
  induction hs with
  | nil => rfl
  | cons a r ih =>
    have n := List.nodup_cons.mp nd
    by_cases e : a = s
    · subst e
      rw [List.map_cons, valV_pos rfl, if_pos (List.mem_cons_self ..)]
    · rw [List.map_cons, valV_neg (fun q => e (Sum.inr.inj q)), ih n.2]
      by_cases m : s ∈ r
      · rw [if_pos m, if_pos (List.mem_cons_of_mem _ m)]
      · rw [if_neg m, if_neg (fun q => (List.mem_cons.mp q).elim (fun z => e z.symm) m)]
/-- two that lead are joined -/
def joinRt (rt : Str → Str) (a b : Str) : Str → Str := fun s => if rt s = rt a then rt b else rt s
theorem UF.join {hs : List Str} {kvs : List (Key × V)} {rt : Str → Str} {rk : Str → Nat} {a b : Str} (u : UF hs kvs rt rk) (ha : a ∈ hs) (hb : b ∈ hs) (ne : rt a ≠ rt b) :
    ∃ rk', UF hs (putK kvs (.inr (rt a)) (.str (rt b))) (joinRt rt a b) rk' := by
  obtain ⟨hl, ld, h1, h2⟩ := u
  have ca := h2 a ha
  have cb := h2 b hb
  have rra : rt (rt a) = rt a := (h2 _ ca.2.2.1).2.2.2.1 ca.2.2.2.2.2
  have rrb : rt (rt b) = rt b := (h2 _ cb.2.2.1).2.2.2.1 cb.2.2.2.2.2
  refine ⟨fun s => if rt s = rt a then rk s + rk (rt b) + 1 else rk s, ?_, fun s => if s = rt a then rt b else ld s, fun s => ?_, fun s hs' => ?_⟩
  · rw [putK_len (by rw [h1, if_pos ca.2.2.1]; rfl)]
    exact hl
  · rw [valV_put, ite_rr]
    show _ = if s ∈ hs then some (V.str (if s = rt a then rt b else ld s)) else none
    by_cases e : s = rt a
    · rw [if_pos e, if_pos e, e, if_pos ca.2.2.1]
    · rw [if_neg e, if_neg e, h1]
  · have c := h2 s hs'
    unfold joinRt
    by_cases e : s = rt a
    · subst e
      simp only [if_true, rra, rrb, if_neg ne.symm]
      refine ⟨cb.2.2.1, trivial, cb.2.2.1, fun z => z, fun _ => by omega, cb.2.2.2.2.2⟩
    · simp only [if_neg e]
      rw [c.2.1]
      by_cases q : rt s = rt a
      · simp only [if_pos q, if_neg ne.symm, rrb]
        refine ⟨c.1, trivial, cb.2.2.1, fun z => ?_, fun z => ?_, cb.2.2.2.2.2⟩
        · exact absurd ((c.2.2.2.1 z).symm.trans q) e
        · have := c.2.2.2.2.1 z
          omega
      · simp only [if_neg q]
        refine ⟨c.1, trivial, c.2.2.1, c.2.2.2.1, c.2.2.2.2.1, ?_⟩
        exact c.2.2.2.2.2
end K1
end
-- KLead
section
set_option Elab.async false
set_option linter.all false
set_option maxRecDepth 100000
set_option maxHeartbeats 4000000
namespace K1
open PySem PySem.Spec PyProof.Rows L2
abbrev sLead : Stmt := top 28
abbrev sKeys : Stmt := top 27
def spLead : Sp := fun vs H Q _ => ∃ (a : Addr) (h : Str) (kvs : List (Key × V)) (hs : List Str) (rt : Str → Str) (rk : Str → Nat), vs = [.ref a, .str h] ∧ H a = some (.dK kvs) ∧ UF hs kvs rt rk ∧ h ∈ hs ∧ hs.length ≤ 1000 ∧
  ∀ kvs', UF hs kvs' rt rk → Q (.str (rt h)) (upd H a (.dK kvs'))
theorem scLead : FnScope ["leads", "house"] ["leads", "house"] (defScope sLead) := ⟨rfl, rfl, rfl, by decide +kernel, rfl, by decide +kernel, by decide +kernel⟩
def muLead (rk : Str → Nat) (σ : L2.St) : Nat := match σ with
  | [_, some (.str x)] => rk x
  | _ => 0
section
variable {P : Program} {w : World} {K : PySem.W.Frag} {mg : Str → Option Value} {base : Heap}
theorem ok_lead {f : Addr} {fd : FuncData} (F : Fun K "_leader" "_leader" sLead f fd) : FnOk P w K mg base CX0 1 f fd ["leads", "house"] spLead := by
  refine F.ok scLead (fun vs H Q E h => ?_) (fun cdv A outer s H vs Q E hr h => ?_)
  · obtain ⟨a, h, kvs, hs, rt, rk, rfl, _⟩ := h
    rfl
  obtain ⟨a, h, kvs, hs, rt, rk, rfl, ha, u, hh, hl, q⟩ := h
  have nd := scLead.nd
  have hu := hu_of hr
  refine ⟨_, pss_cons (by exact (ps_while PassesOwn.never (pt_cmpR op_ne (pe_dget hu (pv 0) (pv 1) (fun _ _ => rfl)) (pv 1) (nomark _))
      (pss_cons (by exact (ps_dput hu (pv 0) (pv 1) (pe_dget hu (pv 0) (pe_dget hu (pv 0) (pv 1) (fun _ _ => rfl)) (fun _ _ => rfl)) rfl))
      (pss_one (by exact (ps_set (i := 1) nd rfl (.inl rfl) (pe_dget hu (pv 0) (pv 1) (fun _ _ => rfl))))))))
    (pss_one (by exact (ps_ret (pv 1)))), ?_⟩
  refine while_by (fun σ Hc => ∃ kvs' x, σ = [some (.ref a), some (.str x)] ∧ Hc = upd H a (.dK kvs') ∧ UF hs kvs' rt rk ∧ x ∈ hs ∧ rt x = rt h) (fun σ _ => muLead rk σ) ⟨kvs, h, rfl, ?_, u, hh, rfl⟩ ?_ ?_
  · funext b
    by_cases e : b = a
    · rw [e, upd_same, ha]
    · rw [upd_ne e]
  · rintro σ Hc ⟨kvs', x, rfl, rfl, u', hx, er⟩
    obtain ⟨y, g1, hy, e1, e2⟩ := u'.halve hx
    have hd : upd H a (.dK kvs') a = some (.dK kvs') := upd_same
    have dg : ∀ {s z}, valV kvs' (.inr s) = some z → DGet (upd H a (.dK kvs')) a (.str s) (some z) := fun {s z} g => by
      have q := DGet.k (k := .inr s) hd
      rw [g] at q
      exact q
    refine ⟨_, rfl, _, rfl, a, .str y, rfl, dg g1, _, rfl, rfl, _, rfl, ?_⟩
    by_cases e : y = x
    · subst e
      rw [decide_eq_true rfl]
      refine iteF ⟨_, rfl, ?_⟩
      have := q kvs' u'
      rw [← er, e1 rfl] at this
      exact this
    · have ne : (!decide (V.str y = V.str x)) = true := by rw [decide_eq_false (fun z => e (V.str.inj z))]; rfl
      rw [ne]
      refine iteT ?_
      obtain ⟨z, g2, hz, lt, er2, u2⟩ := e2 e
      have dp : DPut (upd H a (.dK kvs')) a (.str x) (.str z) (upd (upd H a (.dK kvs')) a (.dK (putK kvs' (.inr x) (.str z)))) := DPut.k (k := .inr x) hd (Nat.lt_of_le_of_lt u'.len (small1000 hl))
      rw [upd_upd] at dp
      refine ⟨_, rfl, _, rfl, _, rfl, a, .str y, rfl, dg g1, a, .str z, rfl, dg g2, _, rfl, _, rfl, a, _, rfl, dp, ?_⟩
      have g3 : valV (putK kvs' (.inr x) (.str z)) (.inr x) = some (.str z) := by rw [valV_put, if_pos rfl]
      have dg3 : DGet (upd H a (.dK (putK kvs' (.inr x) (.str z)))) a (.str x) (some (.str z)) := by
        have q := DGet.k (k := .inr x) (show upd H a (.dK (putK kvs' (.inr x) (.str z))) a = some (.dK (putK kvs' (.inr x) (.str z))) from upd_same)
        rw [g3] at q
        exact q
      exact ⟨_, rfl, _, rfl, a, .str z, rfl, dg3, ⟨_, z, rfl, rfl, u2, hz, er2.trans er⟩, lt⟩
  · rintro σ Hc Q1 Q2 hQ ⟨v1, h1, v2, h2, a', v3, h3, h4, v5, h5, h6, k, h7, h8⟩
    exact ⟨v1, h1, v2, h2, a', v3, h3, h4, v5, h5, h6, k, h7, hQ _ _ h8⟩
end
end K1
end
-- KKeys
section
set_option Elab.async false
set_option linter.all false
set_option maxRecDepth 100000
set_option maxHeartbeats 4000000
namespace K1
open PySem PySem.Spec PyProof.Rows L2
def isKey (hs : List Str) : V → Bool
  | .str s => decide (s ∈ hs)
  | _ => false
/-- a text, or a value of another known type -/
def TextOr (K : PySem.W.Frag) (H : Hp) (x : V) : Prop := (∃ s, x = .str s) ∨ ∃ t, TyX K H x (.type t) ∧ t ∈ kinds ∧ t ≠ "str"
theorem TextOr.ext {K : PySem.W.Frag} {H H' : Hp} {x : V} (h : TextOr K H x) (e : Same H H') : TextOr K H' x := h.imp id fun ⟨t, a, b⟩ => ⟨t, TyX.ext a e, b⟩
theorem isKey_no {K : PySem.W.Frag} {H : Hp} {hs : List Str} {x : V} {t : String} (h : TyX K H x (.type t)) (n : t ≠ "str") : isKey hs x = false := by
  cases x with
  | str s =>
    exfalso
    cases h with
    | base b =>
      cases b with
      | str y => exact n rfl
  | _ => rfl
theorem dc_it {J : It} {n : Nat} {G : Hp → Prop} {Y : Nat → Hp → V → Hp → Prop} (w : Walk J n G Y) {g : TG} {tt : TT} {tk tv : TE} {vs : List Nat} {σ : L2.St} {H1 : Hp} {D : Addr} {Qd : Hp → Prop} (Pv : Nat → Hp → Prop) (h0 : Pv 0 (upd H1 D (.dK []))) (hG : ∀ i H, i ≤ n → Pv i H → G H)
    (hs : ∀ i x H H', i < n → Pv i H → Y i H x H' → g x (wipe σ vs) H' fun σ2 H2 => wipe σ2 vs = wipe σ vs ∧ tt σ2 H2 fun b H3 =>
      if b = true then tk σ2 H3 fun y H4 => tv σ2 H4 fun z H5 => ∃ kvs k, y = kV k ∧ H5 D = some (.dK kvs) ∧ kvs.length < sizeLine ∧ Pv (i + 1) (upd H5 D (.dK (putK kvs k z))) else Pv (i + 1) H3) (hd : ∀ H, Pv n H → Qd H) :
    ∃ W : Nat → Nat → Hp → Prop, (∃ m, W 0 m (upd H1 D (.dK []))) ∧ ∀ i m H, W i m H →
      (J.stop i H ∧ Qd H) ∨ (J.go i H ∧ ∃ Nx : Hp → Prop, (∀ H', Nx H' → ∃ m', m' < m ∧ W (i + 1) m' H') ∧ ∀ x H', J.yld i H x H' → g x (wipe σ vs) H' fun σ2 H2 => wipe σ2 vs = wipe σ vs ∧ tt σ2 H2 fun b H3 =>
        if b = true then tk σ2 H3 fun y H4 => tv σ2 H4 fun z H5 => ∃ kvs k, y = kV k ∧ H5 D = some (.dK kvs) ∧ kvs.length < sizeLine ∧ Nx (upd H5 D (.dK (putK kvs k z))) else Nx H3) := by
  refine ⟨fun i m H => m = n - i ∧ i ≤ n ∧ Pv i H, ⟨n, by simp, Nat.zero_le _, h0⟩, ?_⟩
  rintro i m H ⟨rfl, hi, p⟩
  have q := hG i H hi p
  by_cases hlt : i < n
  · exact .inr ⟨w.goes i H hlt q, Pv (i + 1), fun H' p' => ⟨n - (i + 1), by omega, rfl, hlt, p'⟩, fun x H' y => hs i x H H' hlt p (w.yields i H x H' hlt q y)⟩
  · have e : i = n := by omega
    subst e
    exact .inl ⟨w.stops H q, hd H p⟩
def spKeys (K : PySem.W.Frag) : Sp := fun vs H Q _ => ∃ (v : V) (d : Addr) (xs : List V) (kvs : List (Key × V)) (hs : List Str), vs = [v, .ref d] ∧ SeqV H v xs ∧ xs.length ≤ 1000 ∧ (∀ x ∈ xs, TextOr K H x) ∧ H d = some (.dK kvs) ∧ (∀ s, (valV kvs (.inr s)).isSome = decide (s ∈ hs)) ∧
  ∀ H', Same H H' → Q (.bl (xs.all (isKey hs))) H'
theorem scKeys : FnScope ["things", "table", "thing"] ["things", "table"] (defScope sKeys) := ⟨rfl, rfl, rfl, by decide +kernel, rfl, by decide +kernel, by decide +kernel⟩
section
variable {P : Program} {w : World} {K : PySem.W.Frag} {mg : Str → Option Value} {base : Heap}
theorem ok_keys {f : Addr} {fd : FuncData} (F : Fun K "_are_keys" "_are_keys" sKeys f fd) (B : Bl mg) : FnOk P w K mg base CX0 1 f fd ["things", "table"] (spKeys K) := by
  refine F.ok scKeys (fun vs H Q E h => ?_) (fun cdv A outer s H vs Q E hr h => ?_)
  · obtain ⟨v, d, xs, kvs, hs, rfl, _⟩ := h
    rfl
  obtain ⟨v, d, xs, kvs, hs, rfl, sv, hl, ht, hd, hk, q⟩ := h
  have nd := scKeys.nd
  have hu := hu_of hr
  refine ⟨_, pss_one (by exact ps_ret (pe_callB (cr_all rfl) rfl B.all PyProof.Rows.boot_all (pa_cons (pe_lc (own := [("thing", 2)]) (g := gName 2) (tt := tYes)
      (te := tAndV (tCB (rIsi K) (tCons (tVar 2) (tCons (tC (.ty "str")) tNil))) (tDIn (tVar 2) (tVar 1))) rfl nd (by exact pi_seqV 0 (pv 0))
        (by exact blkOk_by (N := ["things", "table", "thing"]) (sc := defScope sKeys) (by decide +kernel)) (fun _ _ _ _ _ => by exact pg_name (i := 2) nd rfl (Or.inl rfl)) (fun _ _ _ _ _ => pts_nil)
        (fun _ _ _ _ _ => by exact pe_and (pe_callB call_isi rfl B.isi PyProof.Rows.boot_isinstance (pa_cons (pv 2) (pa_cons (pe_bltn (v := .ty "str") rfl B.str PyProof.Rows.boot_str rfl) pa_nil))) (pe_one (pe_cmp (pc_din hu (pv 2) (pv 1)) (by with_unfolding_all rfl))))) pa_nil))), ?_⟩
  obtain ⟨p, rfl, hp⟩ := sv
  have sq : SqA K H p xs := hp.imp (fun h => SqL.of h) (fun h => SqT.of h)
  refine ⟨p, xs, rfl, sq, fun J G wk hG D hD => ?_⟩
  refine lc_it wk (fun i Hc => Same H Hc ∧ Hc D = some (.lst (((xs.take i).map (isKey hs)).map V.bl))) ⟨K1.Same.upd hD, upd_same⟩ (fun i Hc _ h => hG Hc fun o ho => h.1 _ _ ho) ?_ ?_
  · rintro i x Hc H' hi ⟨e1, e2⟩ ⟨rfl, hx⟩
    refine ⟨rfl, ?_⟩
    unfold tYes
    refine iteT ?_
    have fin : ∀ b, b = isKey hs x → ∃ acc, H' D = some (.lst acc) ∧ acc.length < sizeLine ∧ Same H (upd H' D (.lst (acc ++ [.bl b]))) ∧ upd H' D (.lst (acc ++ [.bl b])) D = some (.lst (((xs.take (i + 1)).map (isKey hs)).map V.bl)) := fun b hb => by
      refine ⟨_, e2, ?_, fun a o n => ?_, ?_⟩
      · rw [List.length_map, List.length_map]
        exact small1000 (Nat.le_trans (List.length_take_le _ _) (by omega))
      · rw [upd_ne (ne_of_none n hD)]
        exact e1 a o n
      · rw [upd_same, map_take_succ hx, List.map_append, hb]
        rfl
    rcases (ht x (List.mem_of_getElem? hx)).ext e1 with ⟨s, rfl⟩ | ⟨t, ty, kt, nt⟩
    · refine ⟨_, rfl, .str s, _, _, _, _, rfl, .ty "str", .base (.str s), kit_str (t := "str") (by decide), _, rfl, ?_⟩
      refine iteT ⟨_, rfl, _, rfl, d, _, rfl, DGet.k (k := .inr s) (e1 _ _ hd), fin _ ?_⟩
      rw [hk]
      rfl
    · refine ⟨_, rfl, x, _, _, _, _, rfl, .ty "str", ty, kit_str kt, _, rfl, ?_⟩
      rw [decide_eq_false nt]
      exact iteF (fin _ (isKey_no ty nt).symm)
  · rintro Hc ⟨e1, e2⟩
    refine ⟨D, _, rfl, SqL.of e2, ?_⟩
    have : ((xs.take xs.length).map (isKey hs)).all id = xs.all (isKey hs) := by
      rw [List.take_length, List.all_map]
      rfl
    rw [this]
    exact q Hc e1
end
end K1
end
-- KRoads
section
set_option Elab.async false
set_option linter.all false
set_option maxRecDepth 100000
set_option maxHeartbeats 4000000
namespace K1
open PySem PySem.Spec PyProof.Rows L2
abbrev sNR : Stmt := top 26
/-- whom one comes to, these roads joined one after another -/
def rtOf (rs : List (Str × Str)) : Str → Str := rs.foldl (fun rt e => joinRt rt e.1 e.2) fun s => s
theorem rtOf_snoc {rs : List (Str × Str)} {e : Str × Str} : rtOf (rs ++ [e]) = joinRt (rtOf rs) e.1 e.2 := by
  unfold rtOf
  rw [List.foldl_append]
  rfl
theorem rtOf_succ {rs : List (Str × Str)} {i : Nat} (h : i < rs.length) : rtOf (rs.take (i + 1)) = joinRt (rtOf (rs.take i)) rs[i].1 rs[i].2 := by
  rw [List.take_add_one, List.getElem?_eq_getElem h]
  exact rtOf_snoc
def EndsIn (ss : List Str) (rs : List (Str × Str)) : Prop := ∀ r ∈ rs, r.1 ∈ ss ∧ r.2 ∈ ss
def Forest (rs : List (Str × Str)) : Prop := ∀ i (h : i < rs.length), rtOf (rs.take i) rs[i].1 ≠ rtOf (rs.take i) rs[i].2
def PairV (H : Hp) (x : V) (r : Str × Str) : Prop := SeqV H x [.str r.1, .str r.2]
def BadRoad (K : PySem.W.Frag) (H : Hp) (ss : List Str) (rs : List (Str × Str)) (x : V) : Prop :=
  NoSeq K H x ∨ (∃ ys, SeqV H x ys ∧ ys.length ≠ 2) ∨ (∃ y z, SeqV H x [y, z] ∧ TextOr K H y ∧ TextOr K H z ∧ (isKey ss y && isKey ss z) = false) ∨
  (∃ a b, SeqV H x [.str a, .str b] ∧ a ∈ ss ∧ b ∈ ss ∧ rtOf rs a = rtOf rs b)
theorem BadRoad.ext {K : PySem.W.Frag} {H H' : Hp} {ss : List Str} {rs : List (Str × Str)} {x : V} (h : BadRoad K H ss rs x) (e : Same H H') : BadRoad K H' ss rs x := by
  rcases h with h | ⟨ys, h, n⟩ | ⟨y, z, h, a, b, c⟩ | ⟨a, b, h, q⟩
  · exact .inl (h.ext e)
  · exact .inr (.inl ⟨ys, h.ext e, n⟩)
  · exact .inr (.inr (.inl ⟨y, z, h.ext e, a.ext e, b.ext e, c⟩))
  · exact .inr (.inr (.inr ⟨a, b, h.ext e, q⟩))
theorem paired_get {α β : Type} {F : α → β → Prop} : ∀ {xs : List α} {ys : List β}, Paired F xs ys → ∀ {i : Nat} (h : i < ys.length), ∃ x, xs[i]? = some x ∧ F x ys[i]
  | _, _, .cons f r, 0, _ => ⟨_, rfl, f⟩
  | _, _, .cons f r, i + 1, h => by
    obtain ⟨x, e, q⟩ := paired_get r (i := i) (by simpa using h)
    exact ⟨x, by simpa using e, q⟩
theorem paired_imp {α β : Type} {F G : α → β → Prop} (h : ∀ a b, F a b → G a b) : ∀ {xs : List α} {ys : List β}, Paired F xs ys → Paired G xs ys
  | _, _, .nil => .nil
  | _, _, .cons f r => .cons (h _ _ f) (paired_imp h r)
theorem ixA {K : PySem.W.Frag} {H : Hp} {v y : V} {xs : List V} {i : Int} {Q : VK} (s : SeqV H v xs) (e : atI xs i = some y) (q : Q y H) : rIx K v (.int i) H Q := by
  obtain ⟨p, rfl, h | h⟩ := s
  · exact .inl ⟨p, xs, i, y, rfl, rfl, SqL.of h, e, q⟩
  · exact .inr (.inl ⟨p, xs, i, y, rfl, rfl, SqT.of h, e, q⟩)
section
variable {X : Cx}
/-- name = {..} on one line, the name a local -/
theorem ps_setDc {i : Nat} {y : Str} {py : Pos} {kx vx tg iter : Expr} {ifs : List Expr} {scope : Scope} {own : List (Str × Nat)} {pos spos : Pos} {wi : TI} {g : TG} {tt : TT} {tk tv : TE} (hc : X.calm = true) (hN : X.N.Nodup) (hy : X.N[i]? = some y) (hyl : X.env.scope.names.lookup y = some .local)
    (hsw : swapsWith (.DictComp kx vx [⟨tg, iter, ifs, 0⟩] scope pos) (some (.Name y py)) spos.line X.env = pure true) (hi : PI X tg iter wi) (ok : BlkOk X.N X.env.scope scope own)
    (hg : ∀ (s : Shared) (H : Hp) (C : Addr) (cl : List (Str × Addr)) (fp : List Addr), PG (X.blk s H scope (compEnvC scope cl C X.env) fp) tg g) (ht : ∀ (s : Shared) (H : Hp) (C : Addr) (cl : List (Str × Addr)) (fp : List Addr), PTs (X.blk s H scope (compEnvC scope cl C X.env) fp) ifs tt)
    (hk : ∀ (s : Shared) (H : Hp) (C : Addr) (cl : List (Str × Addr)) (fp : List Addr), PE (X.blk s H scope (compEnvC scope cl C X.env) fp) kx tk)
    (he : ∀ (s : Shared) (H : Hp) (C : Addr) (cl : List (Str × Addr)) (fp : List Addr), PE (X.blk s H scope (compEnvC scope cl C X.env) fp) vx tv) (hs : ∀ x, foldedSetIterable iter X.env x = pure x := by intro _; rfl) :
    PS X (.Assign [.Name y py] (.DictComp kx vx [⟨tg, iter, ifs, 0⟩] scope pos) spos) (tAsg (tDc wi g tt tk tv (own.map (·.2))) (gName i)) := by
  refine ⟨fun pins s σ H D I h => ?_⟩
  rw [exec_Assign_Name_used _ _ _ _ hsw]
  refine wpAny_bind (wpAny_standAt (wpAny_bind ?_))
  show wpAny _ X.A (do let _ ← comprehension (.DictComp kx vx [⟨tg, iter, ifs, 0⟩] scope pos) scope X.env (firstIterPos [⟨tg, iter, ifs, 0⟩] pos) newDict false (eval iter X.env) (some (assign (.Name y py) X.env))) _ _ s
  have h : tDc wi g tt tk tv (own.map (·.2)) σ H (fun x H1 => gName i x σ H1 D.nx) := h
  refine wpAny_bind (thn (dc_core (Qf := fun _ s' => SP X pins D .next s') hc hN I hi ok hg ht hk he hs h fun L C s' m H' I' q hn f => ?_) fun _ s' hq => wpAny_pure (wpAny_pure hq))
  show wpAny _ _ (assign (.Name y py) X.env (.ref L)) _ _ _
  refine wpAny_assign_Name (store_ok2 (v := V.ref L) I' hN hy (.inl hyl) rfl (fun s2 I2 ⟨a, sb, ha⟩ => ?_) (.inr hyl))
  obtain ⟨f0, f1, f2, f3, f4, f5⟩ := f
  have haC : C ≠ a := by
    rcases ha with z | z
    · rw [z]; exact f1
    · exact fun e => f4 y a z e.symm
  refine ⟨m, hn.sameBut sb haC, fun h3 sb3 => ?_⟩
  exact ⟨_, H', I2.turned (t' := s2.toks) (fun b o hb e => (sb3.2 b hb).trans e) f0 f1 f3 f4 f5, q⟩
theorem sw_trueD {kx vx : Expr} {gs : List Comprehension} {scope : Scope} {pos py : Pos} {y : Str} {l : Nat} {env : Env} (hk : env.scope.kind = .function) (hy : env.scope.names.lookup y = some .local) (hl : (py.line == pos.line) = true)
    (ha : (scope.names.any fun (n, k) => n == y && (k == .local || k == .cell)) = false) : swapsWith (.DictComp kx vx gs scope pos) (some (.Name y py)) l env = pure true := by
  have ky : env.kindOf y = some .local := hy
  have hb : env.blockKind = .function := by unfold Env.blockKind; rw [hk]; rfl
  unfold swapsWith
  simp only [hb, ky, ha, Expr.pos, hl]
  rfl
end
def spNR (K : PySem.W.Frag) (C : Addr) : Sp := fun vs H Q E => ∃ u v ss, vs = [u, v] ∧ SeqV H u (ss.map V.str) ∧ Good ss ∧ ss.length ≤ 1000 ∧
  ((NoSeq K H v ∧ Goes C 0 H E) ∨
   ∃ (vs : List V) (rs : List (Str × Str)) (tail : List V), SeqV H v (vs ++ tail) ∧ Paired (PairV H) vs rs ∧ EndsIn ss rs ∧ Forest rs ∧
    ((tail = [] ∧ rs.length + 1 = ss.length ∧ ∀ H', Same H H' → Q .non H') ∨ (tail = [] ∧ rs.length + 1 ≠ ss.length ∧ Goes C (rs.length : Nat) H E) ∨
     (∃ x rest, tail = x :: rest ∧ BadRoad K H ss rs x ∧ Goes C (rs.length : Nat) H E)))
theorem scNR : FnScope ["houses", "roads", "leads", "index", "road", "one", "other", "house"] ["houses", "roads"] (defScope sNR) := ⟨rfl, rfl, rfl, by decide +kernel, rfl, by decide +kernel, by decide +kernel⟩
section
variable {P : Program} {w : World} {K : PySem.W.Frag} {mg : Str → Option Value} {base : Heap} {CF : Addr}
theorem UF.some {hs : List Str} {kvs : List (Key × V)} {rt : Str → Str} {rk : Str → Nat} (u : UF hs kvs rt rk) (s : Str) : (valV kvs (.inr s)).isSome = decide (s ∈ hs) := by
  obtain ⟨_, ld, h1, _⟩ := u
  rw [h1]
  by_cases e : s ∈ hs
  · rw [if_pos e, decide_eq_true e]; rfl
  · rw [if_neg e, decide_eq_false e]; rfl
theorem nodup_take_not {ss : List Str} (h : ss.Nodup) {i : Nat} (hi : i < ss.length) : ¬ ss[i] ∈ ss.take i := fun hm => by
  obtain ⟨j, hj, ej⟩ := List.getElem_of_mem hm
  rw [List.length_take] at hj
  rw [List.getElem_take] at ej
  have := (List.getElem_inj h).mp ej
  omega
theorem ok_NR {f g fP fK fL fE C : Addr} {fd gd pd kd ld ed : FuncData} (F : Fun K "_need_roads" "_need_roads" sNR f fd) (B : Bl mg) (me : mg "enumerate" = none)
    (FI : Fun K "is_list" "is_list" sIsList g gd) (b : Binds K gd ["thing"] []) (m : mg "is_list" = some (.ref g))
    (FP : Fun K "is_pair" "is_pair" sIsPair fP pd) (bP : Binds K pd ["thing"] []) (mP : mg "is_pair" = some (.ref fP))
    (FK : Fun K "_are_keys" "_are_keys" sKeys fK kd) (bK : Binds K kd ["things", "table"] []) (mK : mg "_are_keys" = some (.ref fK))
    (FL : Fun K "_leader" "_leader" sLead fL ld) (bL : Binds K ld ["leads", "house"] []) (mL : mg "_leader" = some (.ref fL))
    (T : FeC K mg CF) (TC : ErC K mg "BadRoads" C fE) (FE : Fun K "__init__" "BadRoads.__init__" sIR fE ed) (bE : Binds K ed ["self", "index"] []) :
    FnOk P w K mg base (L2.CX P w) 4 f fd ["houses", "roads"] (spNR K C) := by
  have G := ok_isList (P := P) (w := w) (base := base) FI B
  have GP := ok_isPair (P := P) (w := w) (base := base) FP FI b m B
  have GK := ok_keys (P := P) (w := w) (base := base) FK B
  have GL := ok_lead (P := P) (w := w) (mg := mg) (base := base) FL
  have GE := ok_iR (P := P) (w := w) (base := base) FE T TC
  refine F.okX scNR (fun vs H Q E h => ?_) (fun cdv A outer s H vs Q E hr h => ?_)
  · obtain ⟨u, v, ss, rfl, _⟩ := h
    rfl
  obtain ⟨u, v, ss, rfl, su, good, hl, h⟩ := h
  have nd := scNR.nd
  have hu := hu_of hr
  have hr1 : Room 1 _ := hr.mono (by decide)
  have hr2 : Room 2 _ := hr.mono (by decide)
  refine ⟨_, pss_cons (by exact (ps_if (pt_not (pt_val (pe_call G hr1 rfl m FI.kp b .nil pass0 (pa_cons (pv 1) pa_nil))))
      (pss_one (by exact (ps_raise rfl (takes_of rfl rfl rfl rfl) (pmk_oex TC.ox TC.ini TC.ty GE hr2 bE .nil pass0 rfl TC.m (pa_cons pe_int pa_nil))))) pss_nil))
    (pss_cons (by exact (ps_setDc (i := 2) (own := [("house", 7)]) (g := gName 7) (tt := tYes) rfl nd rfl rfl (sw_trueD rfl rfl rfl (by decide +kernel)) (by exact pi_seqV 0 (pv 0))
        (by exact blkOk_by (N := ["houses", "roads", "leads", "index", "road", "one", "other", "house"]) (sc := defScope sNR) (by decide +kernel)) (fun _ _ _ _ _ => by exact pg_name (i := 7) nd rfl (Or.inl rfl)) (fun _ _ _ _ _ => pts_nil) (fun _ _ _ _ _ => pv 7) (fun _ _ _ _ _ => pv 7)))
    (pss_cons (by exact (ps_for (passes_of rfl) rfl (by exact pi_enumV 1 rfl me (pv 1)) (pg_tup rfl (pgs_cons (pg_name (i := 3) nd rfl (.inl rfl)) (pgs_cons (pg_name (i := 4) nd rfl (.inl rfl)) pgs_nil)))
      (pss_cons (by exact (ps_if (PW.pt (pw_or (pt_not (pt_val (pe_call GP hr2 rfl mP FP.kp bP .nil pass0 (pa_cons (pv 4) pa_nil)))) (pw_or1 (pt_not (pt_val (pe_call GK hr1 rfl mK FK.kp bK .nil pass0 (pa_cons (pv 4) (pa_cons (pv 2) pa_nil))))))))
          (pss_one (by exact (ps_raise rfl (takes_of rfl rfl rfl rfl) (pmk_oex TC.ox TC.ini TC.ty GE hr2 bE .nil pass0 rfl TC.m (pa_cons (pv 3) pa_nil))))) pss_nil))
      (pss_cons (by exact (ps_set (i := 5) nd rfl (.inl rfl) (pe_call GL hr1 rfl mL FL.kp bL .nil pass0 (pa_cons (pv 2) (pa_cons (pe_ix ix_seq (pv 4) pe_int (fun _ _ => rfl)) pa_nil)))))
      (pss_cons (by exact (ps_set (i := 6) nd rfl (.inl rfl) (pe_call GL hr1 rfl mL FL.kp bL .nil pass0 (pa_cons (pv 2) (pa_cons (pe_ix ix_seq (pv 4) pe_int (fun _ _ => rfl)) pa_nil)))))
      (pss_cons (by exact (ps_if (pt_cmpR op_eq (pv 5) (pv 6) (nomark _))
          (pss_one (by exact (ps_raise rfl (takes_of rfl rfl rfl rfl) (pmk_oex TC.ox TC.ini TC.ty GE hr2 bE .nil pass0 rfl TC.m (pa_cons (pv 3) pa_nil))))) pss_nil))
      (pss_one (by exact (ps_dput hu (pv 2) (pv 5) (pv 6) rfl)))))))))
    (pss_one (by exact (ps_if (pt_cmpR op_ne (pe_callB call_len_seq rfl B.len PySem.boot_len (pa_cons (pv 1) pa_nil)) (pe_op op_sub (pe_callB call_len_seq rfl B.len PySem.boot_len (pa_cons (pv 0) pa_nil)) pe_int) (nomark _))
          (pss_one (by exact (ps_raise rfl (takes_of rfl rfl rfl rfl) (pmk_oex TC.ox TC.ini TC.ty GE hr2 bE .nil pass0 rfl TC.m (pa_cons (pe_callB call_len_seq rfl B.len PySem.boot_len (pa_cons (pv 1) pa_nil)) pa_nil))))) pss_nil))))), ?_⟩
  rcases h with ⟨⟨t, ty, kt, nt⟩, g⟩ | ⟨vs, rs, tail, sv, prs, ends, forest, rest⟩
  · refine ⟨_, rfl, v, t, rfl, ty, kt, fun H' e => ⟨_, rfl, ?_⟩⟩
    rw [nt]
    exact iteT ⟨(by show 1 ≤ 1000; decide), raise_idx g e⟩
  obtain ⟨t, ty, kt, st⟩ := sv.ty (K := K)
  refine ⟨_, rfl, v, t, rfl, ty, kt, fun H1 e1 => ⟨_, rfl, ?_⟩⟩
  rw [st]
  refine iteF ?_
  obtain ⟨p, rfl, hp⟩ := sv.ext e1
  have sq : SqA K H1 p (vs ++ tail) := hp.imp (fun h => SqL.of h) (fun h => SqT.of h)
  obtain ⟨p2, rfl, hp2⟩ := su.ext e1
  have sq2 : SqA K H1 p2 (ss.map V.str) := hp2.imp (fun h => SqL.of h) (fun h => SqT.of h)
  have lvs : vs.length = rs.length := prs.length
  have prs1 : Paired (PairV H1) vs rs := paired_imp (fun _ _ q => SeqV.ext q e1) prs
  -- the dict of leaders
  refine ⟨p2, _, rfl, sq2, fun J G wk hG L hL => ?_⟩
  refine dc_it wk (fun i Hc => Same H1 Hc ∧ Hc L = some (.dK ((ss.take i).map fun s => ((.inr s : Key), V.str s)))) ⟨K1.Same.upd hL, upd_same⟩ (fun i Hc _ h => hG Hc fun o ho => h.1 _ _ ho) ?_ ?_
  · rintro i x Hc H' hi ⟨f1, f2⟩ ⟨rfl, hx⟩
    rw [List.length_map] at hi
    have ex : x = .str ss[i] := by
      have q : (ss.map V.str)[i]? = some x := hx
      rw [List.getElem?_map, List.getElem?_eq_getElem hi] at q
      exact (Option.some.inj q).symm
    subst ex
    refine ⟨rfl, ?_⟩
    unfold tYes
    refine iteT ?_
    refine ⟨_, rfl, _, rfl, _, .inr ss[i], rfl, f2, ?_, fun a o n => ?_, ?_⟩
    · rw [List.length_map]
      exact small1000 (Nat.le_trans (List.length_take_le _ _) (by omega))
    · rw [upd_ne (ne_of_none n hL)]
      exact f1 a o n
    · have nw : valV ((ss.take i).map fun s => ((.inr s : Key), V.str s)) (.inr ss[i]) = none := by
        have u := (UF.start (hs := ss.take i) (good.1.sublist (List.take_sublist _ _)))
        have := u.some ss[i]
        rw [decide_eq_false (nodup_take_not good.1 hi)] at this
        exact Option.not_isSome_iff_eq_none.mp (by rw [this]; exact Bool.false_ne_true)
      rw [upd_same, putK_new _ nw, map_take_succ (List.getElem?_eq_getElem hi)]
  rintro H2 ⟨f1, f2⟩
  rw [List.length_map, List.take_length] at f2
  have e2 : Same H H2 := e1.trans f1
  have hL0 : H L = none := e1.free hL
  refine ⟨p, _, rfl, SqA.same sq f1, fun J G wk hG => ?_⟩
  have xat : ∀ i (hi : i < rs.length), ∃ x, (vs ++ tail)[i]? = some x ∧ PairV H1 x rs[i] := fun i hi => by
    obtain ⟨x, a, b⟩ := paired_get prs1 hi
    exact ⟨x, by rw [List.getElem?_append_left (by omega)]; exact a, b⟩
  have lng : rs.length ≤ (vs ++ tail).length := by rw [List.length_append]; omega
  refine for_it wk (fun i σ Hc => i ≤ rs.length ∧ (∃ a b c d, σ = [some (.ref p2), some (.ref p), some (.ref L), a, b, c, d, none]) ∧ Same H1 Hc ∧ ∃ kvs rk, Hc L = some (.dK kvs) ∧ UF ss kvs (rtOf (rs.take i)) rk) ?_ ?_ ?_ ?_
  · exact ⟨Nat.zero_le _, ⟨_, _, _, _, rfl⟩, f1, _, _, f2, UF.start good.1⟩
  · rintro i σ Hc hi ⟨h1, h2, h3, h4⟩
    refine hG Hc fun o ho => ?_
    have : ∀ o', H1 p = some o' → Hc p = some o := fun o' q => by
      have q2 := f1 _ _ q
      rw [ho] at q2
      rw [Option.some.inj q2]
      exact h3 _ _ q
    exact hp.elim (this _) (this _)
  · rintro i x σ Hc H' hi ⟨h1, ⟨sa, sb, sc, sd, rfl⟩, h3, kvs, rk, h4, uf⟩ ⟨T, x1, x2, rfl, hT, rfl, e1', e2'⟩
    obtain rfl : x1 = .int (i : Nat) := (Option.some.inj e1').symm
    have e2' : (vs ++ tail)[i]? = some x2 := e2'
    have hT2 := K1.Same.upd (H := Hc) (p := T) (o := .tup [.int (i : Nat), x2]) hT
    have eT : Same H1 (upd Hc T (.tup [.int (i : Nat), x2])) := h3.trans hT2
    refine ⟨T, _, rfl, SqT.of upd_same, rfl, _, _, rfl, _, _, rfl, rfl, ?_⟩
    by_cases hlt : i < rs.length
    · obtain ⟨y, ey, py⟩ := xat i hlt
      have ex2 : x2 = y := Option.some.inj (e2'.symm.trans ey)
      subst ex2
      have ee := ends _ (List.getElem_mem hlt)
      have sx : SeqV (upd Hc T (.tup [.int (i : Nat), x2])) x2 [.str rs[i].1, .str rs[i].2] := SeqV.ext py eT
      refine ⟨_, rfl, x2, rfl, .inl ⟨_, sx, fun H3 g3 => ⟨_, rfl, ?_⟩⟩⟩
      refine iteF ⟨_, rfl, _, rfl, x2, L, _, kvs, ss, rfl, sx.ext g3, (by show 2 ≤ 1000; decide), fun z hz => ?_, g3 _ _ (hT2 _ _ h4), uf.some, fun H4 g4 => ⟨_, rfl, ?_⟩⟩
      · rcases List.mem_cons.mp hz with rfl | hz
        · exact .inl ⟨_, rfl⟩
        · rcases List.mem_cons.mp hz with rfl | hz
          · exact .inl ⟨_, rfl⟩
          · cases hz
      have z1 : ([V.str rs[i].1, V.str rs[i].2].all (isKey ss)) = true := by
        show (decide (rs[i].1 ∈ ss) && (decide (rs[i].2 ∈ ss) && true)) = true
        rw [decide_eq_true ee.1, decide_eq_true ee.2]
        rfl
      rw [z1]
      refine iteF ?_
      have s4 := (sx.ext g3).ext g4
      have L4 : H4 L = some (.dK kvs) := g4 _ _ (g3 _ _ (hT2 _ _ h4))
      have e4 : Same H1 H4 := eT.trans (g3.trans g4)
      refine ⟨_, rfl, _, rfl, ixA s4 rfl ⟨L, _, kvs, ss, _, rk, rfl, L4, uf, ee.1, hl, fun k1 u1 => ?_⟩⟩
      have xL : ∀ {o}, H1 L = some o → False := fun q => by rw [hL] at q; cases q
      have up : ∀ {Hx : Hp} {o : HO}, Same H1 Hx → Same H1 (upd Hx L o) := fun e b o n => by
        rw [upd_ne (ne_of_none n hL)]
        exact e b o n
      have s5 : SeqV (upd H4 L (.dK k1)) x2 [.str rs[i].1, .str rs[i].2] := SeqV.ext py (up e4)
      refine ⟨_, rfl, _, rfl, ixA s5 rfl ⟨L, _, k1, ss, _, rk, rfl, upd_same, u1, ee.2, hl, fun k2 u2 => ?_⟩⟩
      rw [upd_upd]
      refine ⟨_, rfl, _, rfl, rfl, _, rfl, ?_⟩
      have ne := forest i hlt
      rw [decide_eq_false (fun q => ne (V.str.inj q))]
      obtain ⟨rk', u3⟩ := u2.join ee.1 ee.2 ne
      have dp : DPut (upd H4 L (.dK k2)) L (.str (rtOf (rs.take i) rs[i].1)) (.str (rtOf (rs.take i) rs[i].2)) (upd (upd H4 L (.dK k2)) L (.dK (putK k2 (.inr (rtOf (rs.take i) rs[i].1)) (.str (rtOf (rs.take i) rs[i].2))))) := DPut.k (k := .inr _) upd_same (Nat.lt_of_le_of_lt u2.len (small1000 hl))
      rw [upd_upd] at dp
      refine iteF ⟨_, rfl, _, rfl, _, rfl, L, _, rfl, dp, hlt, ⟨_, _, _, _, rfl⟩, up e4, _, rk', upd_same, ?_⟩
      rw [rtOf_succ hlt]
      exact u3
    · have ei : i = rs.length := by omega
      subst ei
      rcases rest with ⟨rfl, _⟩ | ⟨rfl, _⟩ | ⟨x, rst, rfl, bad, g⟩
      · rw [List.append_nil] at hi
        omega
      · rw [List.append_nil] at hi
        omega
      have ex2 : x2 = x := by
        rw [List.getElem?_append_right (by omega), ← lvs, Nat.sub_self] at e2'
        exact (Option.some.inj e2').symm
      subst ex2
      have eT0 := e1.trans eT
      rcases bad.ext eT0 with bad | ⟨ys, sy, ny⟩ | ⟨y, z, sy, ty1, ty2, nk⟩ | ⟨a, b, sy, ha, hb, eq⟩
      · exact ⟨_, rfl, x2, rfl, .inr ⟨bad, fun H3 g3 => ⟨_, rfl, iteT (iteT ⟨_, rfl, (by show 1 ≤ 1000; decide), raise_idx g (eT0.trans g3)⟩)⟩⟩⟩
      · refine ⟨_, rfl, x2, rfl, .inl ⟨ys, sy, fun H3 g3 => ⟨_, rfl, ?_⟩⟩⟩
        rw [decide_eq_false ny]
        exact iteT (iteT ⟨_, rfl, (by show 1 ≤ 1000; decide), raise_idx g (eT0.trans g3)⟩)
      · refine ⟨_, rfl, x2, rfl, .inl ⟨_, sy, fun H3 g3 => ⟨_, rfl, ?_⟩⟩⟩
        refine iteF ⟨_, rfl, _, rfl, x2, L, _, kvs, ss, rfl, sy.ext g3, (by show 2 ≤ 1000; decide), fun q hq => ?_, g3 _ _ (hT2 _ _ h4), uf.some, fun H4 g4 => ⟨_, rfl, ?_⟩⟩
        · rcases List.mem_cons.mp hq with rfl | hq
          · exact ty1.ext g3
          · rcases List.mem_cons.mp hq with rfl | hq
            · exact ty2.ext g3
            · cases hq
        have z1 : ([y, z].all (isKey ss)) = false := by
          show (isKey ss y && (isKey ss z && true)) = false
          rw [Bool.and_true]
          exact nk
        rw [z1]
        exact iteT ⟨_, rfl, (by show 1 ≤ 1000; decide), raise_idx g (eT0.trans (g3.trans g4))⟩
      · refine ⟨_, rfl, x2, rfl, .inl ⟨_, sy, fun H3 g3 => ⟨_, rfl, ?_⟩⟩⟩
        refine iteF ⟨_, rfl, _, rfl, x2, L, _, kvs, ss, rfl, sy.ext g3, (by show 2 ≤ 1000; decide), fun q hq => ?_, g3 _ _ (hT2 _ _ h4), uf.some, fun H4 g4 => ⟨_, rfl, ?_⟩⟩
        · rcases List.mem_cons.mp hq with rfl | hq
          · exact .inl ⟨_, rfl⟩
          · rcases List.mem_cons.mp hq with rfl | hq
            · exact .inl ⟨_, rfl⟩
            · cases hq
        have z1 : ([V.str a, V.str b].all (isKey ss)) = true := by
          show (decide (a ∈ ss) && (decide (b ∈ ss) && true)) = true
          rw [decide_eq_true ha, decide_eq_true hb]
          rfl
        rw [z1]
        refine iteF ?_
        have s4 := (sy.ext g3).ext g4
        have L4 : H4 L = some (.dK kvs) := g4 _ _ (g3 _ _ (hT2 _ _ h4))
        have e4 : Same H H4 := eT0.trans (g3.trans g4)
        have up : ∀ {Hx : Hp} {o : HO}, Same H Hx → Same H (upd Hx L o) := fun e b o n => by
          rw [upd_ne (ne_of_none n hL0)]
          exact e b o n
        have pL : ∀ o, SeqV (upd H4 L o) x2 [.str a, .str b] := fun o => by
          obtain ⟨px, rfl, hx⟩ := s4
          have nx : px ≠ L := fun q => by
            rw [q, L4] at hx
            rcases hx with hx | hx <;> cases hx
          exact ⟨px, rfl, by rw [upd_ne nx]; exact hx⟩
        refine ⟨_, rfl, _, rfl, ixA s4 rfl ⟨L, _, kvs, ss, _, rk, rfl, L4, uf, ha, hl, fun k1 u1 => ?_⟩⟩
        refine ⟨_, rfl, _, rfl, ixA (pL _) rfl ⟨L, _, k1, ss, _, rk, rfl, upd_same, u1, hb, hl, fun k2 u2 => ?_⟩⟩
        rw [upd_upd]
        refine ⟨_, rfl, _, rfl, rfl, _, rfl, ?_⟩
        rw [List.take_length, eq, decide_eq_true rfl]
        exact iteT ⟨_, rfl, (by show 1 ≤ 1000; decide), raise_idx g (up e4)⟩
  · rintro σ Hc ⟨h1, ⟨sa, sb, sc, sd, rfl⟩, h3, kvs, rk, h4, uf⟩
    have g1 := SqA.same sq h3
    have g2 := SqA.same sq2 h3
    have e3 : Same H Hc := e1.trans h3
    refine ⟨_, rfl, p, _, rfl, g1, _, rfl, p2, _, rfl, g2, _, _, rfl, rfl, rfl, _, rfl, ?_⟩
    rcases rest with ⟨rfl, hl2, q⟩ | ⟨rfl, hl2, g⟩ | ⟨x, r, rfl, _⟩
    · have z : decide (V.int (((vs ++ []).length : Nat) : Int) = V.int ((((ss.map V.str).length : Nat) : Int) - 1)) = true := by
        rw [List.append_nil, List.length_map, lvs]
        exact decide_eq_true (by rw [← hl2]; congr 1; omega)
      rw [z]
      exact iteF (q Hc e3)
    · have z : decide (V.int (((vs ++ []).length : Nat) : Int) = V.int ((((ss.map V.str).length : Nat) : Int) - 1)) = false := by
        rw [List.append_nil, List.length_map, lvs]
        exact decide_eq_false (fun q => hl2 (by have := V.int.inj q; omega))
      rw [z]
      have ll : (vs ++ []).length = rs.length := by rw [List.append_nil, lvs]
      refine iteT ⟨_, rfl, p, _, rfl, g1, (by show 1 ≤ 1000; decide), ?_⟩
      rw [ll]
      exact raise_idx g e3
    · rw [List.length_append, List.length_cons] at h1
      omega
end
end K1
end
-- KVal
section
set_option Elab.async false
set_option linter.all false
set_option maxRecDepth 100000
set_option maxHeartbeats 4000000
namespace K1
open PySem PySem.Spec PyProof.Rows L2
abbrev sBW : Stmt := top 30
abbrev sNB : Stmt := top 31
def TupP (H : Hp) (q : Addr) (r : Str × Str) : Prop := H q = some (.tup [.str r.1, .str r.2])
theorem TupP.ext {H H' : Hp} {qs : List Addr} {rs : List (Str × Str)} (h : Paired (TupP H) qs rs) (e : Same H H') : Paired (TupP H') qs rs := paired_imp (fun _ _ q => e _ _ q) h
def spBW : Sp := fun vs H Q _ => ∃ (p : Addr) (qs : List Addr) (rs : List (Str × Str)), vs = [.ref p] ∧ H p = some (.lst (qs.map V.ref)) ∧ Paired (TupP H) qs rs ∧ rs.length ≤ 1000 ∧ ∀ r H', Same H H' → Q (.ref r) H'
theorem scBW : FnScope ["roads", "places", "place", "one", "other"] ["roads"] (defScope sBW) := ⟨rfl, rfl, rfl, by decide +kernel, rfl, by decide +kernel, by decide +kernel⟩
theorem putK_le {κ : Type} [DecidableEq κ] {kvs : List (κ × V)} {k : κ} {v : V} : (putK kvs k v).length ≤ kvs.length + 1 := by
  unfold putK
  split
  · rw [List.length_map]; exact Nat.le_succ _
  · rw [List.length_append]; exact Nat.le_refl _
section
variable {P : Program} {w : World} {K : PySem.W.Frag} {mg : Str → Option Value} {base : Heap}
theorem paired_ref {H : Hp} {qs : List Addr} {rs : List (Str × Str)} (h : Paired (TupP H) qs rs) {i : Nat} (hi : i < rs.length) {x : V} (e : (qs.map V.ref)[i]? = some x) : ∃ q, x = .ref q ∧ H q = some (.tup [.str rs[i].1, .str rs[i].2]) := by
  obtain ⟨q, eq, pq⟩ := paired_get h hi
  rw [List.getElem?_map, eq] at e
  exact ⟨q, (Option.some.inj e).symm, pq⟩
theorem ok_BW {f : Addr} {fd : FuncData} (F : Fun K "_both_ways" "_both_ways" sBW f fd) (me : mg "enumerate" = none) : FnOk P w K mg base CX0 1 f fd ["roads"] spBW := by
  refine F.ok scBW (fun vs H Q E h => ?_) (fun cdv A outer s H vs Q E hr h => ?_)
  · obtain ⟨p, qs, rs, rfl, _⟩ := h
    rfl
  obtain ⟨p, qs, rs, rfl, hp, pr, hl, q⟩ := h
  have nd := scBW.nd
  have hu := hu_of hr
  refine ⟨_, pss_cons (by exact (ps_set (i := 1) nd rfl (.inl rfl) pe_dnewT))
    (pss_cons (by exact (ps_for PassesOwn.never rfl (by exact pi_enumV 0 rfl me (pv 0)) (pg_tup rfl (pgs_cons (pg_name (i := 2) nd rfl (.inl rfl)) (pgs_cons (pg_tup rfl (pgs_cons (pg_name (i := 3) nd rfl (.inl rfl)) (pgs_cons (pg_name (i := 4) nd rfl (.inl rfl)) pgs_nil))) pgs_nil)))
      (pss_cons (by exact (ps_dput hu (pv 1) (pe_tup (pa_cons (pv 3) (pa_cons (pv 4) pa_nil))) (pv 2) rfl))
      (pss_one (by exact (ps_dput hu (pv 1) (pe_tup (pa_cons (pv 4) (pa_cons (pv 3) pa_nil))) (pv 2) rfl))))))
    (pss_one (by exact (ps_ret (pv 1))))), ?_⟩
  intro L hL
  have ep : L ≠ p := fun z => by rw [z, hp] at hL; cases hL
  have lqs : qs.length = rs.length := pr.length
  refine ⟨p, _, rfl, .inl (SqL.of (by rw [upd_ne ep.symm]; exact hp)), fun J G wk hG => ?_⟩
  refine for_it wk (fun i σ Hc => (∃ a b c, σ = [some (.ref p), some (.ref L), a, b, c]) ∧ Same H Hc ∧ ∃ kvs, Hc L = some (.dT kvs) ∧ kvs.length ≤ 2 * i) ⟨⟨_, _, _, rfl⟩, K1.Same.upd hL, _, upd_same, Nat.le_refl _⟩ (fun i σ Hc _ h => hG Hc fun o ho => ?_) ?_ ?_
  · rw [upd_ne ep.symm, hp] at ho
    rw [← Option.some.inj ho]
    exact h.2.1 _ _ hp
  · rintro i x σ Hc H' hi ⟨⟨sa, sb, sc, rfl⟩, h1, kvs, h2, h3⟩ ⟨T, x1, x2, rfl, hT, rfl, e1', e2'⟩
    rw [List.length_map, lqs] at hi
    obtain rfl : x1 = .int (i : Nat) := (Option.some.inj e1').symm
    obtain ⟨t, rfl, ht⟩ := paired_ref pr hi e2'
    have hT2 := K1.Same.upd (H := Hc) (p := T) (o := .tup [.int (i : Nat), .ref t]) hT
    have e1 : Same H (upd Hc T (.tup [.int (i : Nat), .ref t])) := h1.trans hT2
    refine ⟨T, _, rfl, SqT.of upd_same, rfl, _, _, rfl, _, _, rfl, t, _, rfl, SqT.of (e1 _ _ ht), rfl, _, _, rfl, _, _, rfl, rfl, rfl, ?_⟩
    have step : ∀ (H1 : Hp) (kv : List (List Key × V)) (a b : Str), Same H H1 → H1 L = some (.dT kv) → kv.length ≤ 2 * i + 1 → ∀ (R : Hp → Prop), (∀ H2, Same H H2 → (∃ kv', H2 L = some (.dT kv') ∧ kv'.length ≤ kv.length + 1) → R H2) →
        2 ≤ sizeLine ∧ ∀ b', H1 b' = none → ∃ a' H3, V.ref L = .ref a' ∧ DPut (upd H1 b' (.tup [.str a, .str b])) a' (.ref b') (.int (i : Nat)) H3 ∧ R H3 := by
      intro H1 kv a b f1 f2 f3 R hR
      refine ⟨by decide, fun b' hb => ⟨L, _, rfl, DPut.t (k := [.inr a, .inr b]) (by rw [upd_ne (ne_of_none f2 hb)]; exact f2) upd_same (Nat.lt_of_le_of_lt f3 (by show 2 * i + 1 < 2 ^ 24; omega)), hR _ (fun c o n => ?_) ⟨_, upd_same, putK_le⟩⟩⟩
      rw [upd_ne (ne_of_none n hL), upd_ne (ne_of_none (f1 _ _ n) hb)]
      exact f1 _ _ n
    refine ⟨_, rfl, _, rfl, _, rfl, _, rfl, ?_⟩
    refine step _ kvs rs[i].1 rs[i].2 e1 (hT2 _ _ h2) (by omega) _ ?_
    rintro H2 g1 ⟨kv1, g2, g3⟩
    refine ⟨_, rfl, _, rfl, _, rfl, _, rfl, ?_⟩
    refine step H2 kv1 rs[i].2 rs[i].1 g1 g2 (by omega) _ ?_
    rintro H3 k1 ⟨kv2, k2, k3⟩
    exact ⟨⟨_, _, _, rfl⟩, k1, kv2, k2, by omega⟩
  · rintro σ Hc ⟨⟨sa, sb, sc, rfl⟩, h1, _⟩
    exact ⟨_, rfl, q L Hc h1⟩
end
end K1
end
-- KNb
section
set_option Elab.async false
set_option linter.all false
set_option maxRecDepth 100000
set_option maxHeartbeats 4000000
namespace K1
open PySem PySem.Spec PyProof.Rows L2
def spNB : Sp := fun vs H Q _ => ∃ (p1 p2 : Addr) (ss : List Str) (qs : List Addr) (rs : List (Str × Str)), vs = [.ref p1, .ref p2] ∧ H p1 = some (.lst (ss.map V.str)) ∧ ss.length ≤ 1000 ∧ ss.Nodup ∧ H p2 = some (.lst (qs.map V.ref)) ∧ Paired (TupP H) qs rs ∧ EndsIn ss rs ∧ rs.length ≤ 1000 ∧ ∀ r H', Same H H' → Q (.ref r) H'
theorem scNB : FnScope ["houses", "roads", "found", "one", "other", "house", "far"] ["houses", "roads"] (defScope sNB) := ⟨rfl, rfl, rfl, by decide +kernel, rfl, by decide +kernel, by decide +kernel⟩
def dcScope (sc : Scope) : Stmt → Scope
  | .Return (some (.DictComp _ _ _ s _)) _ => s
  | _ => sc
/-- the dicts of the neighbours: each house has its own, found by it -/
def NbAt (H0 Hc : Hp) (D : Addr) (hs : List Str) (n : Nat) : Prop := ∃ kvs : List (Key × V), Hc D = some (.dK kvs) ∧ kvs.length ≤ hs.length ∧ ∀ s ∈ hs, ∃ d m, valV kvs (.inr s) = some (.ref d) ∧ H0 d = none ∧ d ≠ D ∧ Hc d = some (.dK m) ∧ m.length ≤ n
section
variable {P : Program} {w : World} {K : PySem.W.Frag} {mg : Str → Option Value} {base : Heap}
theorem NbAt.put {H0 Hc : Hp} {D : Addr} {hs : List Str} {n : Nat} {s : Str} {d : Addr} {m : List (Key × V)} {k : Key} {v : V} (h : NbAt H0 Hc D hs n) (hd : d ≠ D) (hm : Hc d = some (.dK m)) (hl : m.length ≤ n) : NbAt H0 (upd Hc d (.dK (putK m k v))) D hs (n + 1) := by
  obtain ⟨kvs, h1, h2, h3⟩ := h
  refine ⟨kvs, by rw [upd_ne hd.symm]; exact h1, h2, fun s hs => ?_⟩
  obtain ⟨d', m', a1, a2, a3, a4, a5⟩ := h3 s hs
  by_cases e : d' = d
  · refine ⟨d', _, a1, a2, a3, by rw [e]; exact upd_same, Nat.le_trans putK_le (by omega)⟩
  · exact ⟨d', m', a1, a2, a3, by rw [upd_ne e]; exact a4, by omega⟩
theorem NbAt.keep {H0 Hc H2 : Hp} {D : Addr} {hs : List Str} {n : Nat} (h : NbAt H0 Hc D hs n) (e : Same Hc H2) : NbAt H0 H2 D hs n := by
  obtain ⟨kvs, h1, h2, h3⟩ := h
  refine ⟨kvs, e _ _ h1, h2, fun s hs => ?_⟩
  obtain ⟨d', m', a1, a2, a3, a4, a5⟩ := h3 s hs
  exact ⟨d', m', a1, a2, a3, e _ _ a4, a5⟩
theorem ok_NB {f : Addr} {fd : FuncData} (F : Fun K "_neighbours" "_neighbours" sNB f fd) : FnOk P w K mg base CX0 1 f fd ["houses", "roads"] spNB := by
  refine F.ok scNB (fun vs H Q E h => ?_) (fun cdv A outer s H vs Q E hr h => ?_)
  · obtain ⟨p1, p2, ss, qs, rs, rfl, _⟩ := h
    rfl
  obtain ⟨p1, p2, ss, qs, rs, rfl, h1, hl, hN, h2, pr, ends, hlr, q⟩ := h
  have nd := scNB.nd
  have hu := hu_of hr
  refine ⟨_, pss_cons (by exact (ps_set (i := 2) nd rfl (.inr rfl) (pe_dc (own := [("house", 5)]) (g := gName 5) (tt := tYes) rfl nd (by exact pi_seqV 0 (pv 0))
        (by exact blkOk_by (N := ["houses", "roads", "found", "one", "other", "house", "far"]) (sc := defScope sNB) (by decide +kernel)) (fun _ _ _ _ _ => by exact pg_name (i := 5) nd rfl (Or.inl rfl)) (fun _ _ _ _ _ => pts_nil) (fun _ _ _ _ _ => pv 5) (fun _ _ _ _ _ => pe_dnewK))))
    (pss_cons (by exact (ps_for PassesOwn.never rfl (by exact pi_seqV 1 (pv 1)) (pg_tup rfl (pgs_cons (pg_name (i := 3) nd rfl (.inl rfl)) (pgs_cons (pg_name (i := 4) nd rfl (.inl rfl)) pgs_nil)))
      (pss_cons (by exact (ps_dput hu (pe_dget hu (pv 2) (pv 3) (fun _ _ => rfl)) (pv 4) pe_bl rfl))
      (pss_one (by exact (ps_dput hu (pe_dget hu (pv 2) (pv 4) (fun _ _ => rfl)) (pv 3) pe_bl rfl))))))
    (pss_one (by exact (ps_ret (pe_dc (own := [("house", 5)]) (g := gName 5) (tt := tYes) (tk := tVar 5) (tv := tLc (iSeqV K 0) (gName 6) (tB (tDIn (tVar 6) (tDGet (tVar 2) (tVar 5)))) (tVar 6) [6]) rfl nd (by exact pi_seqV 0 (pv 0))
        (by exact blkOk_by (N := ["houses", "roads", "found", "one", "other", "house", "far"]) (sc := defScope sNB) (by decide +kernel)) (fun _ _ _ _ _ => by exact pg_name (i := 5) nd rfl (Or.inr rfl)) (fun _ _ _ _ _ => pts_nil) (fun _ _ _ _ _ => by exact pv 5)
        (fun _ _ _ _ _ => by
          refine pe_lc (own := [("far", 6)]) ?_ ?_ ?_ ?_ ?_ ?_ ?_ ?_
          · rfl
          · exact nd
          · exact pi_seqV 0 (pv 0)
          · exact blkOk_by (by with_unfolding_all rfl)
          · intro _ _ _ _ _
            exact pg_name (i := 6) nd rfl (Or.inl rfl)
          · intro _ _ _ _ _
            exact pts_one (pt_cmp (pc_din hu (pv 6) (pe_dget hu (pv 2) (pv 5) (fun _ _ => rfl))) (by with_unfolding_all rfl))
          · intro _ _ _ _ _
            exact pv 6
          · intro _
            rfl)))))), ?_⟩
  have lqs : qs.length = rs.length := pr.length
  -- the dict of dicts
  refine ⟨p1, _, rfl, .inl (SqL.of h1), fun J G wk hG D hD => ?_⟩
  have up : ∀ {Hx : Hp} {d : Addr} {o : HO}, H d = none → Same H Hx → Same H (upd Hx d o) := fun n e b o nn => by
    rw [upd_ne (ne_of_none nn n)]
    exact e b o nn
  have at_ : ∀ i x, (ss.map V.str)[i]? = some x → ∃ h : i < ss.length, x = .str ss[i] := fun i x e => by
    rw [List.getElem?_map] at e
    rcases Nat.lt_or_ge i ss.length with hi | hi
    · rw [List.getElem?_eq_getElem hi] at e
      exact ⟨hi, (Option.some.inj e).symm⟩
    · rw [List.getElem?_eq_none hi] at e
      cases e
  refine dc_it wk (fun i Hc => Same H Hc ∧ NbAt H Hc D (ss.take i) 0) ⟨K1.Same.upd hD, [], upd_same, Nat.zero_le _, fun s hs => absurd hs (by simp)⟩ (fun i Hc _ h => hG Hc fun o ho => h.1 _ _ ho) ?_ ?_
  · rintro i x Hc H' hi ⟨f1, kvs, f2, f3, f4⟩ ⟨rfl, hx⟩
    obtain ⟨hi', rfl⟩ := at_ i x hx
    refine ⟨rfl, ?_⟩
    unfold tYes
    refine iteT ?_
    refine ⟨_, rfl, fun d hd => ?_⟩
    have dD : d ≠ D := fun z => by rw [z, f2] at hd; cases hd
    have d0 : H d = none := f1.free hd
    refine ⟨kvs, .inr ss[i], rfl, by rw [upd_ne dD.symm]; exact f2, Nat.lt_of_le_of_lt f3 (small1000 (Nat.le_trans (List.length_take_le _ _) (by omega))), up hD (up d0 f1), putK kvs (.inr ss[i]) (.ref d), upd_same, ?_, fun s hs => ?_⟩
    · refine Nat.le_trans putK_le ?_
      rw [List.length_take] at f3 ⊢
      omega
    · rcases (mem_take_succ hi').mp hs with hs | rfl
      · obtain ⟨d', m, a1, a2, a3, a4, a5⟩ := f4 s hs
        have ne : ¬ (Sum.inr s : Key) = .inr ss[i] := fun z => nodup_take_not hN hi' (by rw [← Sum.inr.inj z]; exact hs)
        have ne2 : d' ≠ d := fun z => by rw [z, hd] at a4; cases a4
        exact ⟨d', m, by rw [valV_put, if_neg ne]; exact a1, a2, a3, by rw [upd_ne a3, upd_ne ne2]; exact a4, a5⟩
      · exact ⟨d, [], by rw [valV_put, if_pos rfl], d0, dD, by rw [upd_ne dD, upd_same], Nat.le_refl _⟩
  rintro H1 ⟨e1, nb⟩
  have nb : NbAt H H1 D ss 0 := by
    rw [List.length_map, List.take_length] at nb
    exact nb
  -- the roads
  refine ⟨p2, _, rfl, .inl (SqL.of (e1 _ _ h2)), fun J G wk hG => ?_⟩
  refine for_it wk (fun i σ Hc => (∃ a b, σ = [some (.ref p1), some (.ref p2), some (.ref D), a, b, none, none]) ∧ Same H Hc ∧ NbAt H Hc D ss (2 * i)) ⟨⟨_, _, rfl⟩, e1, nb⟩ (fun i σ Hc _ h => hG Hc fun o ho => by
    rw [e1 _ _ h2] at ho
    rw [← Option.some.inj ho]
    exact h.2.1 _ _ h2) ?_ ?_
  · rintro i x σ Hc H' hi ⟨⟨sa, sb, rfl⟩, g1, g2⟩ ⟨rfl, hx⟩
    rw [List.length_map, lqs] at hi
    obtain ⟨t, rfl, ht⟩ := paired_ref pr hi hx
    refine ⟨t, _, rfl, SqT.of (g1 _ _ ht), rfl, _, _, rfl, _, _, rfl, rfl, ?_⟩
    have ee := ends _ (List.getElem_mem hi)
    obtain ⟨kvs, b1, b2, b3⟩ := id g2
    obtain ⟨d, m, a1, a2, a3, a4, a5⟩ := b3 rs[i].1 ee.1
    have dg1 := DGet.k (k := .inr rs[i].1) b1
    rw [a1] at dg1
    have g3 := NbAt.put (s := rs[i].1) (k := .inr rs[i].2) (v := .bl true) g2 a3 a4 a5
    have g4 : Same H (upd H' d (.dK (putK m (.inr rs[i].2) (.bl true)))) := up a2 g1
    refine ⟨_, rfl, _, rfl, D, _, rfl, dg1, _, rfl, d, _, rfl, DPut.k (k := .inr rs[i].2) a4 (by show m.length < 2 ^ 24; omega), ?_⟩
    obtain ⟨kvs', c1, c2, c3⟩ := id g3
    obtain ⟨d', m', x1, x2, x3, x4, x5⟩ := c3 rs[i].2 ee.2
    have dg2 := DGet.k (k := .inr rs[i].2) c1
    rw [x1] at dg2
    refine ⟨_, rfl, _, rfl, D, _, rfl, dg2, _, rfl, d', _, rfl, DPut.k (k := .inr rs[i].1) x4 (by show m'.length < 2 ^ 24; omega), ⟨_, _, rfl⟩, up x2 g4, ?_⟩
    exact NbAt.put (s := rs[i].2) g3 x3 x4 x5
  rintro σ H2 ⟨⟨sa, sb, rfl⟩, g1, g2⟩
  -- the dict of lists
  obtain ⟨kvs, b1, b2, b3⟩ := id g2
  refine ⟨p1, _, rfl, .inl (SqL.of (g1 _ _ h1)), fun J G wk hG D2 hD2 => ?_⟩
  have hD20 : H D2 = none := g1.free hD2
  refine dc_it wk (fun i Hc => Same H2 Hc ∧ ∃ kv, Hc D2 = some (.dK kv) ∧ kv.length ≤ i) ⟨K1.Same.upd hD2, [], upd_same, Nat.zero_le _⟩ (fun i Hc _ h => hG Hc fun o ho => h.1 _ _ ho) ?_ ?_
  · rintro i x Hc H' hi ⟨f1, kv, f2, f3⟩ ⟨rfl, hx⟩
    obtain ⟨hi', rfl⟩ := at_ i x hx
    refine ⟨rfl, ?_⟩
    unfold tYes
    refine iteT ?_
    refine ⟨_, rfl, ?_⟩
    refine ⟨p1, _, rfl, .inl (SqL.of (f1 _ _ (g1 _ _ h1))), fun J2 G2 wk2 hG2 L hL => ?_⟩
    refine lc_it wk2 (fun j Hd => Same H' Hd ∧ ∃ acc, Hd L = some (.lst acc) ∧ acc.length ≤ j) ⟨K1.Same.upd hL, [], upd_same, Nat.zero_le _⟩ (fun j Hd _ h => hG2 Hd fun o ho => h.1 _ _ ho) ?_ ?_
    · rintro j y Hd H'' hj ⟨k1, acc, k2, k3⟩ ⟨rfl, hy⟩
      rw [List.length_map] at hj
      obtain ⟨hj', rfl⟩ := at_ j y hy
      refine ⟨rfl, ?_⟩
      obtain ⟨d, m, a1, a2, a3, a4, a5⟩ := b3 ss[i] (List.getElem_mem hi')
      have dg := DGet.k (k := .inr ss[i]) (k1 _ _ (f1 _ _ b1))
      rw [a1] at dg
      refine ⟨_, rfl, _, rfl, _, rfl, D, _, rfl, dg, d, _, rfl, DGet.k (k := .inr ss[j]) (k1 _ _ (f1 _ _ a4)), _, rfl, ?_⟩
      refine ite2 (fun c => ?_) (fun c => ?_)
      · refine ⟨_, rfl, acc, k2, by show acc.length < 2 ^ 24; omega, fun b o n => ?_, _, upd_same, by rw [List.length_append]; simp; omega⟩
        rw [upd_ne (ne_of_none n hL)]
        exact k1 b o n
      · exact ⟨k1, acc, k2, by omega⟩
    · rintro Hd ⟨k1, acc, k2, k3⟩
      have LD : L ≠ D2 := fun z => by rw [z, f2] at hL; cases hL
      refine ⟨kv, .inr ss[i], rfl, k1 _ _ f2, by show kv.length < 2 ^ 24; rw [List.length_map] at hi; omega, fun b o n => ?_, _, upd_same, Nat.le_trans putK_le (by omega)⟩
      rw [upd_ne (ne_of_none n hD2)]
      exact k1 b o (f1 b o n)
  · rintro Hc ⟨f1, _⟩
    exact q D2 Hc (g1.trans f1)
end
end K1
end
-- KHeads
section
set_option Elab.async false
set_option linter.all false
set_option maxRecDepth 100000
set_option maxHeartbeats 4000000
namespace K1
open PySem PySem.Spec PyProof.Rows L2
abbrev sND : Stmt := top 29
/-- no head -/
def BadHead (K : PySem.W.Frag) (H : Hp) (x : V) : Prop := (∃ t, TyX K H x (.type t) ∧ t ∈ kinds ∧ t ≠ "int") ∨ ∃ i, x = .int i ∧ i < 1
theorem BadHead.ext {K : PySem.W.Frag} {H H' : Hp} {x : V} (h : BadHead K H x) (e : Same H H') : BadHead K H' x := h.imp (fun ⟨t, a, b⟩ => ⟨t, TyX.ext a e, b⟩) id
def spND (K : PySem.W.Frag) (C : Addr) : Sp := fun vs H Q E => ∃ u v hs, vs = [u, v] ∧ SeqV H u hs ∧
  ((NoSeq K H v ∧ Goes C 0 H E) ∨
   (∃ ns : List Int, SeqV H v (ns.map V.int) ∧ (∀ n ∈ ns, 1 ≤ n) ∧ ns.length = hs.length ∧ ∀ H', Same H H' → Q .non H') ∨
   (∃ ns : List Int, SeqV H v (ns.map V.int) ∧ (∀ n ∈ ns, 1 ≤ n) ∧ ns.length < hs.length ∧ Goes C (ns.length : Nat) H E) ∨
   (∃ (ns : List Int) (x : V) (rest : List V), SeqV H v (ns.map V.int ++ x :: rest) ∧ (∀ n ∈ ns, 1 ≤ n) ∧ ns.length ≤ hs.length ∧ (ns.length = hs.length ∨ BadHead K H x) ∧ Goes C (ns.length : Nat) H E))
theorem scND : FnScope ["houses", "heads", "index", "many"] ["houses", "heads"] (defScope sND) := ⟨rfl, rfl, rfl, by decide +kernel, rfl, by decide +kernel, by decide +kernel⟩
section
variable {P : Program} {w : World} {K : PySem.W.Frag} {mg : Str → Option Value} {base : Heap} {CF : Addr}
theorem ok_ND {f g fN fI fE C : Addr} {fd gd nd id' ed : FuncData} (F : Fun K "_need_heads" "_need_heads" sND f fd) (B : Bl mg) (me : mg "enumerate" = none)
    (FI : Fun K "is_list" "is_list" sIsList g gd) (b : Binds K gd ["thing"] []) (m : mg "is_list" = some (.ref g))
    (FN : Fun K "is_from_one" "is_from_one" sFromOne fN nd) (bN : Binds K nd ["thing"] []) (mN : mg "is_from_one" = some (.ref fN))
    (FJ : Fun K "is_integer" "is_integer" sIsInt fI id') (bJ : Binds K id' ["thing"] []) (mJ : mg "is_integer" = some (.ref fI))
    (T : FeC K mg CF) (TC : ErC K mg "BadHeads" C fE) (FE : Fun K "__init__" "BadHeads.__init__" sID fE ed) (bE : Binds K ed ["self", "index"] []) :
    FnOk P w K mg base (L2.CX P w) 4 f fd ["houses", "heads"] (spND K C) := by
  have G := ok_isList (P := P) (w := w) (base := base) FI B
  have GN := ok_fromOne (P := P) (w := w) (base := base) FN FJ bJ mJ B
  have GE := ok_iD (P := P) (w := w) (base := base) FE T TC
  refine F.okX scND (fun vs H Q E h => ?_) (fun cdv A outer s H vs Q E hr h => ?_)
  · obtain ⟨u, v, hs, rfl, _⟩ := h
    rfl
  obtain ⟨u, v, hs, rfl, su, h⟩ := h
  have nd := scND.nd
  have hr1 : Room 1 _ := hr.mono (by decide)
  have hr2 : Room 2 _ := hr.mono (by decide)
  refine ⟨_, pss_cons (by exact (ps_if (pt_not (pt_val (pe_call G hr1 rfl m FI.kp b .nil pass0 (pa_cons (pv 1) pa_nil))))
      (pss_one (by exact (ps_raise rfl (takes_of rfl rfl rfl rfl) (pmk_oex TC.ox TC.ini TC.ty GE hr2 bE .nil pass0 rfl TC.m (pa_cons pe_int pa_nil))))) pss_nil))
    (pss_cons (by exact (ps_for (passes_of rfl) rfl (by exact pi_enumV 1 rfl me (pv 1)) (pg_tup rfl (pgs_cons (pg_name (i := 2) nd rfl (.inl rfl)) (pgs_cons (pg_name (i := 3) nd rfl (.inl rfl)) pgs_nil)))
      (pss_one (by exact (ps_if (PW.pt (pw_or (pt_cmpR op_ge (pv 2) (pe_callB call_len_seq rfl B.len PySem.boot_len (pa_cons (pv 0) pa_nil)) (nomark _)) (pw_or1 (pt_not (pt_val (pe_call GN hr2 rfl mN FN.kp bN .nil pass0 (pa_cons (pv 3) pa_nil)))))))
          (pss_one (by exact (ps_raise rfl (takes_of rfl rfl rfl rfl) (pmk_oex TC.ox TC.ini TC.ty GE hr2 bE .nil pass0 rfl TC.m (pa_cons (pv 2) pa_nil))))) pss_nil)))))
    (pss_one (by exact (ps_if (pt_cmpR op_lt (pe_callB call_len_seq rfl B.len PySem.boot_len (pa_cons (pv 1) pa_nil)) (pe_callB call_len_seq rfl B.len PySem.boot_len (pa_cons (pv 0) pa_nil)) (nomark _))
          (pss_one (by exact (ps_raise rfl (takes_of rfl rfl rfl rfl) (pmk_oex TC.ox TC.ini TC.ty GE hr2 bE .nil pass0 rfl TC.m (pa_cons (pe_callB call_len_seq rfl B.len PySem.boot_len (pa_cons (pv 1) pa_nil)) pa_nil))))) pss_nil)))), ?_⟩
  rcases h with ⟨⟨t, ty, kt, nt⟩, g⟩ | h
  · refine ⟨_, rfl, v, t, rfl, ty, kt, fun H' e => ⟨_, rfl, ?_⟩⟩
    rw [nt]
    exact iteT ⟨(by show 1 ≤ 1000; decide), raise_idx g e⟩
  obtain ⟨ns, xs, sv, good, hle, rest⟩ : ∃ (ns : List Int) (xs : List V), SeqV H v xs ∧ (∀ n ∈ ns, 1 ≤ n) ∧ ns.length ≤ hs.length ∧
      ((xs = ns.map V.int ∧ ns.length = hs.length ∧ ∀ H', Same H H' → Q .non H') ∨ (xs = ns.map V.int ∧ ns.length < hs.length ∧ Goes C (ns.length : Nat) H E) ∨
        (∃ x r, xs = ns.map V.int ++ x :: r ∧ (ns.length = hs.length ∨ BadHead K H x) ∧ Goes C (ns.length : Nat) H E)) := by
    rcases h with ⟨ns, sv, a, b, q⟩ | ⟨ns, sv, a, b, q⟩ | ⟨ns, x, r, sv, a, b, c, q⟩
    · exact ⟨ns, _, sv, a, Nat.le_of_eq b, .inl ⟨rfl, b, q⟩⟩
    · exact ⟨ns, _, sv, a, Nat.le_of_lt b, .inr (.inl ⟨rfl, b, q⟩)⟩
    · exact ⟨ns, _, sv, a, b, .inr (.inr ⟨x, r, rfl, c, q⟩)⟩
  obtain ⟨t, ty, kt, st⟩ := sv.ty (K := K)
  refine ⟨_, rfl, v, t, rfl, ty, kt, fun H1 e1 => ⟨_, rfl, ?_⟩⟩
  rw [st]
  refine iteF ?_
  obtain ⟨p, rfl, hp⟩ := sv.ext e1
  have sq : SqA K H1 p xs := hp.imp (fun h => SqL.of h) (fun h => SqT.of h)
  obtain ⟨p2, rfl, sq2⟩ := (su.ext e1).sq (K := K)
  have sq2' : SqA K H1 p2 hs := sq2
  have xat : ∀ i (hi : i < ns.length), xs[i]? = some (.int ns[i]) := fun i hi => by
    rcases rest with ⟨rfl, _⟩ | ⟨rfl, _⟩ | ⟨x, r, rfl, _⟩
    · rw [List.getElem?_map, List.getElem?_eq_getElem hi]; rfl
    · rw [List.getElem?_map, List.getElem?_eq_getElem hi]; rfl
    · rw [List.getElem?_append_left (by rw [List.length_map]; exact hi), List.getElem?_map, List.getElem?_eq_getElem hi]; rfl
  refine ⟨p, xs, rfl, sq, fun J G wk hG => ?_⟩
  refine for_it wk (fun i σ Hc => i ≤ ns.length ∧ (∃ a b, σ = [some (.ref p2), some (.ref p), a, b]) ∧ Same H1 Hc) ⟨Nat.zero_le _, ⟨_, _, rfl⟩, Same.refl _⟩ (fun i σ Hc hi h => hG Hc fun o ho => h.2.2 _ _ ho) ?_ ?_
  · rintro i x σ Hc H' hi ⟨h1, ⟨sa, sb, rfl⟩, h3⟩ ⟨T, x1, x2, rfl, hT, rfl, e1', e2'⟩
    obtain rfl : x1 = .int (i : Nat) := (Option.some.inj e1').symm
    have e2' : xs[i]? = some x2 := e2'
    have eT : Same H1 (upd Hc T (.tup [.int (i : Nat), x2])) := h3.trans (K1.Same.upd hT)
    refine ⟨T, _, rfl, SqT.of upd_same, rfl, _, _, rfl, _, _, rfl, rfl, ?_⟩
    refine ⟨_, rfl, _, rfl, p2, hs, rfl, SqA.same sq2' eT, _, _, rfl, rfl, _, rfl, ?_⟩
    by_cases hlt : i < ns.length
    · have ex2 : x2 = .int ns[i] := by
        have q := xat i hlt
        rw [q] at e2'
        exact (Option.some.inj e2').symm
      subst ex2
      rw [decide_eq_false (show ¬ ((hs.length : Nat) : Int) ≤ ((i : Nat) : Int) by omega)]
      refine iteF ⟨_, rfl, .int ns[i], rfl, .inl ⟨ns[i], rfl, _, rfl, ?_⟩⟩
      rw [decide_eq_true (good _ (List.getElem_mem hlt))]
      exact iteF ⟨hlt, ⟨_, _, rfl⟩, eT⟩
    · obtain ⟨x, r, hxs, bad, g⟩ : ∃ x r, xs = ns.map V.int ++ x :: r ∧ (ns.length = hs.length ∨ BadHead K H x) ∧ Goes C (ns.length : Nat) H E := by
        rcases rest with ⟨rfl, _⟩ | ⟨rfl, _⟩ | q
        · rw [List.length_map] at hi
          exact absurd hi hlt
        · rw [List.length_map] at hi
          exact absurd hi hlt
        · exact q
      have ei : i = ns.length := by omega
      subst ei
      have ex2 : x2 = x := by
        rw [hxs, List.getElem?_append_right (by rw [List.length_map]; exact Nat.le_refl _), List.length_map, Nat.sub_self] at e2'
        exact (Option.some.inj e2').symm
      subst ex2
      by_cases hh : ns.length = hs.length
      · rw [decide_eq_true (show ((hs.length : Nat) : Int) ≤ ((ns.length : Nat) : Int) by omega)]
        exact iteT (iteT ⟨_, rfl, (by show 1 ≤ 1000; decide), raise_idx g (e1.trans eT)⟩)
      · rw [decide_eq_false (show ¬ ((hs.length : Nat) : Int) ≤ ((ns.length : Nat) : Int) by omega)]
        rcases bad with q | bad
        · exact absurd q hh
        rcases bad.ext (e1.trans eT) with ⟨t, ty, kt, nt⟩ | ⟨j, rfl, hj⟩
        · exact iteF ⟨_, rfl, x2, rfl, .inr ⟨t, ty, kt, nt, _, rfl, iteT ⟨_, rfl, (by show 1 ≤ 1000; decide), raise_idx g (e1.trans eT)⟩⟩⟩
        · refine iteF ⟨_, rfl, .int j, rfl, .inl ⟨j, rfl, _, rfl, ?_⟩⟩
          rw [decide_eq_false (by omega)]
          exact iteT ⟨_, rfl, (by show 1 ≤ 1000; decide), raise_idx g (e1.trans eT)⟩
  · rintro σ Hc ⟨h1, ⟨sa, sb, rfl⟩, h3⟩
    have f1 := SqA.same sq h3
    have f2 := SqA.same sq2' h3
    refine ⟨_, rfl, p, xs, rfl, f1, _, rfl, p2, hs, rfl, f2, _, _, rfl, rfl, _, rfl, ?_⟩
    rcases rest with ⟨rfl, hl, q⟩ | ⟨rfl, hl, g⟩ | ⟨x, r, rfl, _⟩
    · rw [List.length_map, hl, decide_eq_false (by omega)]
      exact iteF (q Hc (e1.trans h3))
    · rw [List.length_map, decide_eq_true (by omega)]
      refine iteT ⟨_, rfl, p, _, rfl, f1, (by show 1 ≤ 1000; decide), ?_⟩
      rw [List.length_map]
      exact raise_idx g (e1.trans h3)
    · rw [List.length_append, List.length_map, List.length_cons] at h1
      omega
end
end K1
end
-- KDraw
section
set_option Elab.async false
set_option linter.all false
set_option maxRecDepth 100000
set_option maxHeartbeats 4000000
namespace K1
open PySem PySem.Spec PyProof.Rows L2
/-- the spring at a, with at most n draws by mixed numbers -/
def Spr (H : Hp) (a : Addr) (n : Nat) : Prop := ∃ x y z : Int, H a = some (.lst [.int x, .int y, .int z]) ∧ 0 ≤ x ∧ 0 ≤ y ∧ y < 2147483543 ∧ 0 ≤ z ∧ z ≤ (n : Int)
/-- all but what stands at a is as it was -/
def Kept (a : Addr) (H H' : Hp) : Prop := ∀ b o, b ≠ a → H b = some o → H' b = some o
theorem Kept.refl {a : Addr} {H : Hp} : Kept a H H := fun _ _ _ h => h
theorem Kept.trans {a : Addr} {H H1 H2 : Hp} (p : Kept a H H1) (q : Kept a H1 H2) : Kept a H H2 := fun b o n h => q b o n (p b o n h)
theorem Kept.upd {a : Addr} {H : Hp} {o : HO} : Kept a H (L2.upd H a o) := fun b u n h => by rw [upd_ne n]; exact h
theorem Kept.new {a p : Addr} {H : Hp} {o : HO} (h : H p = none) : Kept a H (L2.upd H p o) := fun b u n e => by rw [upd_ne (ne_of_none e h)]; exact e
theorem Kept.same {a : Addr} {H H1 : Hp} (e : Same H H1) : Kept a H H1 := fun b o _ h => e b o h
def spDraw : Sp := fun vs H Q _ => ∃ (a : Addr) (many : Int) (n : Nat), vs = [.ref a, .int many] ∧ Spr H a n ∧ n ≤ 1000000 ∧ 0 < many ∧ many.natAbs < 2 ^ 100 ∧
  ∀ (d : Int) (H' : Hp), 0 ≤ d → d < many → Kept a H H' → Spr H' a (n + 1) → Q (.int d) H'
theorem scDraw : FnScope ["spring", "many", "digit", "mixed"] ["spring", "many"] (defScope sDraw) := ⟨rfl, rfl, rfl, by decide +kernel, rfl, by decide +kernel, by decide +kernel⟩
section
variable {P : Program} {w : World} {K : PySem.W.Frag} {mg : Str → Option Value} {base : Heap}
theorem ok_draw {f : Addr} {fd : FuncData} (F : Fun K "_law_draw" "_law_draw" sDraw f fd) (mI : mg "int" = none) : FnOk P w K mg base CX0 1 f fd ["spring", "many"] spDraw := by
  refine F.ok scDraw (fun vs H Q E h => ?_) (fun cdv A outer s H vs Q E hr h => ?_)
  · obtain ⟨a, many, n, rfl, _⟩ := h
    rfl
  obtain ⟨a, many, n, rfl, ⟨x, y, z, ha, hx, hy, hy2, hz, hz2⟩, hn, hm, hm2, q⟩ := h
  have nd := scDraw.nd
  refine ⟨_, pss_cons (ps_if (pt_cmpR op_gt (pe_ix ix_list (pv 0) pe_int (fun _ _ => rfl)) pe_int (nomark _))
      (pss_cons (ps_set (i := 2) nd rfl (.inl rfl) (pe_op op_mod (pe_callTy call_int1 rfl mI PyProof.Rows.boot_int (pa_cons (pe_ix ix_list (pv 0) pe_int (fun _ _ => rfl)) pa_nil)) (pv 1)))
      (pss_cons (ps_asg (by exact pe_op op_fdivW (pe_ix ix_list (pv 0) pe_int (fun _ _ => rfl)) (pv 1)) (by exact pg_sub (pv 0) pe_int set_list))
      (pss_one (ps_ret (pv 2))))) pss_nil)
    (pss_cons (by exact ps_asg (by exact pe_op op_add (pe_ix ix_list (pv 0) pe_int (fun _ _ => rfl)) pe_int) (by exact pg_sub (pv 0) pe_int set_list))
    (pss_cons (by exact ps_set (i := 3) nd rfl (.inl rfl) (pe_op op_mod (pe_op op_pow (pe_callTy call_int1 rfl mI PyProof.Rows.boot_int (pa_cons
        (pe_op op_add (pe_op op_add (pe_ix ix_list (pv 0) pe_int (fun _ _ => rfl)) (pe_op op_mul pe_int (pe_ix ix_list (pv 0) pe_int (fun _ _ => rfl)))) pe_int) pa_nil)) pe_int) pe_int))
    (pss_one (by exact ps_ret (pe_op op_mod (pe_op op_fdiv (pe_op op_mod (pe_op op_pow (pe_callTy call_int1 rfl mI PyProof.Rows.boot_int (pa_cons
        (pe_op op_add (pe_op op_add (pe_op op_mul (pv 3) pe_int) (pe_op op_mul pe_int (pe_ix ix_list (pv 0) pe_int (fun _ _ => rfl)))) pe_int) pa_nil)) pe_int) pe_int) pe_int) (pv 1)))))), ?_⟩
  have at0 : atI ([.int x, .int y, .int z] : List V) 0 = some (.int x) := rfl
  have at1 : atI ([.int x, .int y, .int z] : List V) 1 = some (.int y) := rfl
  have at2 : atI ([.int x, .int y, .int z] : List V) 2 = some (.int z) := rfl
  refine ⟨_, rfl, a, _, _, _, rfl, rfl, SqL.of ha, at0, _, _, rfl, rfl, _, rfl, ?_⟩
  refine ite2 (fun c => ?_) (fun c => ?_)
  · have c' : x > 0 := of_decide_eq_true c
    refine ⟨_, rfl, a, _, _, _, rfl, rfl, SqL.of ha, at0, .inl ⟨_, rfl, _, rfl, _, _, rfl, rfl, hm, ?_⟩⟩
    refine ⟨_, rfl, a, _, _, _, rfl, rfl, SqL.of ha, at0, _, rfl, _, _, rfl, rfl, wide_div hm hm2 (by decide) (by decide), _, rfl, a, _, _, _, rfl, rfl, ha, rfl, ?_⟩
    refine ⟨_, rfl, q _ _ (Int.emod_nonneg _ (by omega)) (Int.emod_lt_of_pos _ hm) Kept.upd ?_⟩
    exact ⟨x / many, y, z, upd_same, Int.ediv_nonneg hx (by omega), hy, hy2, hz, by omega⟩
  · have ha1 : upd H a (.lst [.int x, .int y, .int (z + 1)]) a = some (.lst [.int x, .int y, .int (z + 1)]) := upd_same
    have e0 : atI ([.int x, .int y, .int (z + 1)] : List V) 1 = some (.int y) := rfl
    have e2 : atI ([.int x, .int y, .int (z + 1)] : List V) 2 = some (.int (z + 1)) := rfl
    refine ⟨_, rfl, a, _, _, _, rfl, rfl, SqL.of ha, at2, _, _, rfl, rfl, _, rfl, a, _, _, _, rfl, rfl, ha, rfl, ?_⟩
    refine ⟨_, rfl, a, _, _, _, rfl, rfl, SqL.of ha1, e0, _, rfl, a, _, _, _, rfl, rfl, SqL.of ha1, e2, _, _, rfl, rfl, .inl (by constructor <;> decide), _, _, rfl, rfl, _, _, rfl, rfl,
      .inl ⟨_, rfl, _, _, rfl, rfl, ⟨by decide, by decide, ?_⟩, _, _, rfl, rfl, (by show (0 : Int) < 2147483587; decide), ?_⟩⟩
    · omega
    refine ⟨_, rfl, _, _, rfl, rfl, .inr (by constructor <;> decide), _, rfl, a, _, _, _, rfl, rfl, SqL.of ha1, e2, _, _, rfl, rfl, .inl (by constructor <;> decide), _, _, rfl, rfl, _, _, rfl, rfl,
      .inl ⟨_, rfl, _, _, rfl, rfl, ⟨by decide, by decide, ?_⟩, _, _, rfl, rfl, (by show (0 : Int) < 2147483549; decide), _, _, rfl, rfl, (by constructor <;> decide), _, rfl, _, _, rfl, rfl, hm, ?_⟩⟩
    · generalize hg : (y + 7368787 * (z + 1) + 271828) ^ ((3 : Int).toNat) = g
      have g1 := Int.emod_nonneg g (show (2147483587 : Int) ≠ 0 by decide)
      have g2 := Int.emod_lt_of_pos g (show (0 : Int) < 2147483587 by decide)
      omega
    · exact q _ _ (Int.emod_nonneg _ (by omega)) (Int.emod_lt_of_pos _ hm) Kept.upd ⟨x, y, z + 1, upd_same, hx, hy, hy2, by omega, by omega⟩
end
end K1
end
-- KDraw2
section
set_option Elab.async false
set_option linter.all false
set_option maxRecDepth 100000
set_option maxHeartbeats 4000000
namespace K1
open PySem PySem.Spec PyProof.Rows L2
def spPick : Sp := fun vs H Q _ => ∃ (a p : Addr) (xs : List V) (n : Nat), vs = [.ref a, .ref p] ∧ Spr H a n ∧ n ≤ 1000000 ∧ H p = some (.lst xs) ∧ p ≠ a ∧ xs ≠ [] ∧ xs.length ≤ 1000 ∧
  ∀ (x : V) (H' : Hp), x ∈ xs → Kept a H H' → Spr H' a (n + 1) → Q x H'
def spMixed : Sp := fun vs H Q _ => ∃ (a p : Addr) (xs : List V) (n : Nat), vs = [.ref a, .ref p] ∧ Spr H a n ∧ n + 1000 ≤ 1000000 ∧ H p = some (.lst xs) ∧ p ≠ a ∧ xs.length ≤ 1000 ∧
  ∀ (r : Addr) (ys : List V) (H' : Hp), ys.Perm xs → H r = none → r ≠ a → H' r = some (.lst ys) → Kept a H H' → Spr H' a (n + xs.length) → Q (.ref r) H'
theorem scPick : FnScope ["spring", "some"] ["spring", "some"] (defScope sPick) := ⟨rfl, rfl, rfl, by decide +kernel, rfl, by decide +kernel, by decide +kernel⟩
theorem scMixed : FnScope ["spring", "some", "left", "k"] ["spring", "some"] (defScope sMixed) := ⟨rfl, rfl, rfl, by decide +kernel, rfl, by decide +kernel, by decide +kernel⟩
theorem Spr.kept {H : Hp} {a : Addr} {n : Nat} (h : Spr H a n) : H a ≠ none := by
  obtain ⟨x, y, z, e, _⟩ := h
  rw [e]
  exact Option.some_ne_none _
theorem Spr.upd {H : Hp} {a p : Addr} {n : Nat} {o : HO} (h : Spr H a n) (hp : p ≠ a) : Spr (L2.upd H p o) a n := by
  obtain ⟨x, y, z, e, q⟩ := h
  exact ⟨x, y, z, by rw [upd_ne hp.symm]; exact e, q⟩
theorem Spr.ne {H : Hp} {a p : Addr} {n : Nat} (h : Spr H a n) (hp : H p = none) : p ≠ a := fun e => by
  rw [e] at hp
  exact h.kept hp
theorem Spr.mono {H : Hp} {a : Addr} {n m : Nat} (h : Spr H a n) (l : n ≤ m) : Spr H a m := by
  obtain ⟨x, y, z, e, h1, h2, h3, h4, h5⟩ := h
  exact ⟨x, y, z, e, h1, h2, h3, h4, by omega⟩
theorem at_mem {xs : List V} {d : Int} (h0 : 0 ≤ d) (h1 : d < (xs.length : Int)) : ∃ x, atI xs d = some x ∧ x ∈ xs ∧ xs[d.toNat]? = some x := by
  have hk : d.toNat < xs.length := by omega
  have ek : d = ((d.toNat : Nat) : Int) := by omega
  refine ⟨xs[d.toNat], ?_, List.getElem_mem _, List.getElem?_eq_getElem hk⟩
  have q := atI_nat (xs := xs) (j := d.toNat) (v := xs[d.toNat]) (List.getElem?_eq_getElem hk)
  rwa [← ek] at q
section
variable {P : Program} {w : World} {K : PySem.W.Frag} {mg : Str → Option Value} {base : Heap} {fD : Addr} {fdD : FuncData}
theorem ok_pick {f : Addr} {fd : FuncData} (F : Fun K "_law_pick" "_law_pick" sPick f fd) (G : FnOk P w K mg base CX0 1 fD fdD ["spring", "many"] spDraw) (b : Binds K fdD ["spring", "many"] []) (k : PySem.W.keepIn K (.ref fD) = true) (m : mg "_law_draw" = some (.ref fD)) (ml : mg "len" = none) :
    FnOk P w K mg base CX0 2 f fd ["spring", "some"] spPick := by
  refine F.ok scPick (fun vs H Q E h => ?_) (fun cdv A outer s H vs Q E hr h => ?_)
  · obtain ⟨a, p, xs, n, rfl, _⟩ := h
    rfl
  obtain ⟨a, p, xs, n, rfl, hs, hn, hp, hpa, hne, hlen, q⟩ := h
  refine ⟨_, pss_one (by exact ps_ret (pe_ix ix_list (pv 1) (pe_call G hr rfl m k b .nil pass0 (pa_cons (pv 0) (pa_cons (pe_callB call_len_seq rfl ml PySem.boot_len (pa_cons (pv 1) pa_nil)) pa_nil))) (fun _ _ => rfl))), ?_⟩
  have hpos : 0 < xs.length := List.length_pos_iff.mpr hne
  refine ⟨_, rfl, _, rfl, _, rfl, p, _, rfl, .inl (SqL.of hp), a, _, n, rfl, hs, hn, by omega, ?_, fun d H' h0 h1 kp s' => ?_⟩
  · show ((xs.length : Nat) : Int).natAbs < 2 ^ 100
    rw [Int.natAbs_natCast]
    exact Nat.lt_of_le_of_lt hlen (by decide)
  obtain ⟨x, e1, e2, _⟩ := at_mem h0 h1
  exact ⟨p, xs, d, x, rfl, rfl, SqL.of (kp p _ hpa hp), e1, q x H' e2 kp s'⟩
theorem perm_pop {acc ls xs : List V} {i : Nat} {x : V} (h : (acc ++ ls).Perm xs) (e : ls[i]? = some x) : (acc ++ [x] ++ ls.eraseIdx i).Perm xs := by
  refine List.Perm.trans ?_ h
  rw [List.append_assoc]
  refine List.Perm.append_left acc ?_
  obtain ⟨hi, rfl⟩ := List.getElem?_eq_some_iff.mp e
  have e : ls = ls.take i ++ ls[i] :: ls.drop (i + 1) := by
    rw [← List.drop_eq_getElem_cons hi, List.take_append_drop]
  rw [List.eraseIdx_eq_take_drop_succ]
  conv => rhs; rw [e]
  exact (List.perm_middle (l₁ := ls.take i) (a := ls[i]) (l₂ := ls.drop (i + 1))).symm
def rLen (K : PySem.W.Frag) : List V → Hp → VK → Prop := fun xs H Q => ∃ p ys, xs = [.ref p] ∧ (SqL K H p ys ∨ SqT K H p ys) ∧ Q (.int (ys.length : Int)) H
theorem call_len' {X : Cx} : CallR X (.builtin "len") (rLen X.K) := call_len_seq
theorem ok_mixed {f : Addr} {fd : FuncData} (F : Fun K "_law_mixed" "_law_mixed" sMixed f fd) (G : FnOk P w K mg base CX0 1 fD fdD ["spring", "many"] spDraw) (b : Binds K fdD ["spring", "many"] []) (k : PySem.W.keepIn K (.ref fD) = true) (m : mg "_law_draw" = some (.ref fD)) (ml : mg "len" = none) (mL : mg "list" = none) (mr : mg "range" = none) :
    FnOk P w K mg base CX0 2 f fd ["spring", "some"] spMixed := by
  refine F.ok scMixed (fun vs H Q E h => ?_) (fun cdv A outer s H vs Q E hr h => ?_)
  · obtain ⟨a, p, xs, n, rfl, _⟩ := h
    rfl
  obtain ⟨a, p, xs, n, rfl, hs, hn, hp, hpa, hlen, q⟩ := h
  have nd := scMixed.nd
  refine ⟨_, pss_cons (by exact ps_set (i := 2) nd rfl (Or.inr rfl) (pe_callTy call_list_of rfl mL PyProof.Rows.boot_list (pa_cons (pv 1) pa_nil)))
    (pss_one (by exact ps_ret (pe_lc (own := [("k", 3)]) (g := gName 3) (tt := tYes) (te := tBM K "list" rPopAt (tVar 2) (tCons (tCall spDraw [] E0 (tCons (tVar 0) (tCons (tCB (rLen K) (tCons (tVar 2) tNil)) tNil))) tNil)) rfl nd (by exact pi_range1 rfl mr (pa_cons (pe_callB call_len_seq rfl ml PySem.boot_len (pa_cons (pv 2) pa_nil)) pa_nil))
      (by exact blkOk_by (N := ["spring", "some", "left", "k"]) (sc := defScope sMixed) (by decide +kernel)) (fun _ _ _ _ _ => by exact pg_name (i := 3) nd rfl (Or.inl rfl)) (fun _ _ _ _ _ => pts_nil)
      (fun _ _ _ _ _ => by exact pe_bm PySem.F.plainAttrs_list PySem.F.slot_list_pop PySem.F.type_list_pop mt_popAt (pv 2) (by exact pa_cons (pe_call G hr rfl m k b .nil pass0 (pa_cons (pv 0) (pa_cons (pe_callB call_len' rfl ml PySem.boot_len (pa_cons (pv 2) pa_nil)) pa_nil))) pa_nil))))), ?_⟩
  refine ⟨_, rfl, p, xs, rfl, .inl (SqL.of hp), fun l hl => ?_⟩
  have hla := hs.ne hl
  have hl1 : L2.upd H l (.lst xs) l = some (.lst xs) := upd_same
  refine ⟨_, rfl, l, xs, rfl, .inl (SqL.of hl1), _, rfl, by omega, by omega, fun D hD => ?_⟩
  have hDl : D ≠ l := fun e => by rw [e, upd_same] at hD; cases hD
  have hDH : H D = none := by rw [upd_ne hDl] at hD; exact hD
  have hDa := hs.ne hDH
  rw [Int.toNat_natCast]
  refine lc_range (fun i Hc => ∃ ls acc : List V, Hc l = some (.lst ls) ∧ Hc D = some (.lst acc) ∧ (acc ++ ls).Perm xs ∧ acc.length = i ∧ Kept a H Hc ∧ Spr Hc a (n + i)) ?_ ?_ ?_
  · exact ⟨xs, [], by rw [upd_ne hDl.symm]; exact hl1, upd_same, List.Perm.refl _, rfl, (Kept.new hl).trans (Kept.new hD), (hs.upd hla).upd hDa⟩
  · rintro i Hc hi ⟨ls, acc, h1, h2, h3, h4, h5, h6⟩
    have hlen2 : acc.length + ls.length = xs.length := by rw [← List.length_append]; exact h3.length_eq
    refine ⟨rfl, ?_⟩
    unfold tYes
    refine iteT ?_
    refine ⟨_, rfl, .inl ⟨rfl, _, SqL.of h1⟩, _, rfl, _, rfl, l, _, rfl, .inl (SqL.of h1), a, _, n + i, rfl, h6, by omega, by omega, ?_, fun d H' g0 g1 kp s' => ?_⟩
    · show ((ls.length : Nat) : Int).natAbs < 2 ^ 100
      rw [Int.natAbs_natCast]
      exact Nat.lt_of_le_of_lt (show ls.length ≤ 1000 by omega) (by decide)
    obtain ⟨x, e1, e2, e3⟩ := at_mem g0 g1
    have hl2 : H' l = some (.lst ls) := kp l _ hla h1
    have hD2 : H' D = some (.lst acc) := kp D _ hDa h2
    refine ⟨l, ls, d, d.toNat, x, rfl, rfl, hl2, by omega, by omega, ?_, e3, acc, by rw [upd_ne hDl]; exact hD2, small1000 (by omega), ?_⟩
    · have hneg : ¬ d < 0 := by omega
      unfold seqIndex?
      simp [hneg, g0, g1]
    · refine ⟨ls.eraseIdx d.toNat, acc ++ [x], by rw [upd_ne hDl.symm, upd_same], upd_same, perm_pop h3 e3, by rw [List.length_append, h4]; rfl, fun c o n1 n2 => ?_, ?_⟩
      · have c1 : c ≠ l := fun z => by rw [z, hl] at n2; cases n2
        have c2 : c ≠ D := fun z => by rw [z, hDH] at n2; cases n2
        rw [upd_ne c2, upd_ne c1]
        exact kp c o n1 (h5 c o n1 n2)
      · exact (s'.upd hla).upd hDa
  · rintro Hc ⟨ls, acc, h1, h2, h3, h4, h5, h6⟩
    have hlen2 : acc.length + ls.length = xs.length := by rw [← List.length_append]; exact h3.length_eq
    have e : ls = [] := List.length_eq_zero_iff.mp (by omega)
    subst e
    rw [List.append_nil] at h3
    exact q D acc Hc h3 hDH hDa h2 h5 h6
end
end K1
end
-- KInit
section
set_option Elab.async false
set_option linter.all false
set_option maxRecDepth 100000
set_option maxHeartbeats 4000000
namespace K1
open PySem PySem.Spec PyProof.Rows L2
abbrev sVI : Stmt := inClass (top 24) 0
def HousesBad (K : PySem.W.Frag) (H : Hp) (h : V) (i : Nat) : Prop := (NoSeq K H h ∧ i = 0) ∨ (SeqV H h [] ∧ i = 0) ∨ ∃ ss x rest, SeqV H h (ss.map V.str ++ x :: rest) ∧ ss.length ≤ 1000 ∧ Good ss ∧ BadName K H ss x ∧ i = ss.length
def HousesOk (H : Hp) (h : V) (ss : List Str) : Prop := SeqV H h (ss.map V.str) ∧ ss ≠ [] ∧ ss.length ≤ 1000 ∧ Good ss
def RoadsOk (H : Hp) (ss : List Str) (r : V) (rs : List (Str × Str)) : Prop := ∃ vs, SeqV H r vs ∧ Paired (PairV H) vs rs ∧ EndsIn ss rs ∧ Forest rs ∧ rs.length + 1 = ss.length
def RoadsBad (K : PySem.W.Frag) (H : Hp) (ss : List Str) (r : V) (i : Nat) : Prop := (NoSeq K H r ∧ i = 0) ∨ ∃ (vs : List V) (rs : List (Str × Str)) (tail : List V), SeqV H r (vs ++ tail) ∧ Paired (PairV H) vs rs ∧ EndsIn ss rs ∧ Forest rs ∧ i = rs.length ∧
  ((tail = [] ∧ rs.length + 1 ≠ ss.length) ∨ ∃ x rest, tail = x :: rest ∧ BadRoad K H ss rs x)
def HeadsOk (H : Hp) (ss : List Str) (g : V) (ns : List Int) : Prop := SeqV H g (ns.map V.int) ∧ (∀ n ∈ ns, 1 ≤ n) ∧ ns.length = ss.length
def HeadsBad (K : PySem.W.Frag) (H : Hp) (ss : List Str) (g : V) (i : Nat) : Prop := (NoSeq K H g ∧ i = 0) ∨ (∃ ns : List Int, SeqV H g (ns.map V.int) ∧ (∀ n ∈ ns, 1 ≤ n) ∧ ns.length < ss.length ∧ i = ns.length) ∨
  ∃ (ns : List Int) (x : V) (rest : List V), SeqV H g (ns.map V.int ++ x :: rest) ∧ (∀ n ∈ ns, 1 ≤ n) ∧ ns.length ≤ ss.length ∧ (ns.length = ss.length ∨ BadHead K H x) ∧ i = ns.length
/-- a Valley at x, which keeps these three lists -/
structure ValI (C : Addr) (H : Hp) (x l1 l2 l3 : Addr) (qs : List Addr) (ss : List Str) (rs : List (Str × Str)) (ns : List Int) : Prop where
  ins : ∃ dx fs, H x = some (.ins C dx fs) ∧ fs.lookup ("_houses" : Str) = some (V.ref l1) ∧ fs.lookup ("_roads" : Str) = some (V.ref l2) ∧ fs.lookup ("_heads" : Str) = some (V.ref l3) ∧ ∀ m : Str, m ≠ "_houses" → m ≠ "_roads" → m ≠ "_heads" → m ≠ "_people" → m ≠ "_places" → m ≠ "_beside" → fs.lookup m = none
  h1 : H l1 = some (.lst (ss.map V.str))
  h2 : H l2 = some (.lst (qs.map V.ref))
  pr : Paired (TupP H) qs rs
  h3 : H l3 = some (.lst (ns.map V.int))
structure VcT (K : PySem.W.Frag) (C : Addr) : Prop where
  cl : Cls K C
  n1 : NoAttr K C "_houses"
  n2 : NoAttr K C "_roads"
  n3 : NoAttr K C "_heads"
  n4 : NoAttr K C "_people"
  n5 : NoAttr K C "_places"
  n6 : NoAttr K C "_beside"
def spVI (K : PySem.W.Frag) (C CH CR CD : Addr) : Sp := fun vs H Q E => ∃ x h r g dx, vs = [.ref x, h, r, g] ∧ H x = some (.ins C dx []) ∧
  ((∃ i : Nat, HousesBad K H h i ∧ Goes CH i H E) ∨ (∃ ss, ∃ i : Nat, HousesOk H h ss ∧ RoadsBad K H ss r i ∧ Goes CR i H E) ∨ (∃ ss rs, ∃ i : Nat, HousesOk H h ss ∧ RoadsOk H ss r rs ∧ HeadsBad K H ss g i ∧ Goes CD i H E) ∨
   (∃ ss rs ns, HousesOk H h ss ∧ RoadsOk H ss r rs ∧ HeadsOk H ss g ns ∧ ∀ H' l1 l2 l3 qs, Kept x H H' → ValI C H' x l1 l2 l3 qs ss rs ns → H l1 = none → H l2 = none → H l3 = none → (∀ q ∈ qs, H q = none) → Q .non H'))
theorem scVI : FnScope ["self", "houses", "roads", "heads", "one", "other", "house", "index"] ["self", "houses", "roads", "heads"] (defScope sVI) := ⟨rfl, rfl, rfl, by decide +kernel, rfl, by decide +kernel, by decide +kernel⟩
/-- a written tuple of targets, a list or a tuple handed in -/
def gSeq (K : PySem.W.Frag) (n : Nat) (t : TGs) : TG := fun v σ H Q => ∃ a xs, v = .ref a ∧ SqA K H a xs ∧ xs.length = n ∧ t xs σ H Q
theorem pg_seq {X : Cx} {pos : Pos} {es : List Expr} {k : Nat} {t : TGs} {n : Nat} (hc : X.calm = true) (h : PGs X es t) (hn : (assignEach es X.env).length = n := by rfl) (hst : (assignEach es X.env).findIdx? (·.1) = none := by rfl) : PG X (.Tuple es k pos) (gSeq X.K n t) := by
  refine ⟨fun pins s σ H v u Q I r q => ?_⟩
  obtain ⟨a, xs, rfl, hq | hq, l, q⟩ := q
  · exact (pg_lst hc h hn hst).run pins s σ H _ u Q I r ⟨a, xs, rfl, hq, l, q⟩
  · exact (pg_tup hc h hn hst).run pins s σ H _ u Q I r ⟨a, xs, rfl, hq, l, q⟩
theorem SeqV.kept {H H' : Hp} {v : V} {xs : List V} {x C dx : Addr} {fs : List (Str × V)} (h : SeqV H v xs) (hx : H x = some (.ins C dx fs)) (k : Kept x H H') : SeqV H' v xs := by
  obtain ⟨p, rfl, h⟩ := h
  have ne : p ≠ x := fun z => by
    rw [z, hx] at h
    rcases h with h | h <;> cases h
  exact ⟨p, rfl, h.imp (k _ _ ne) (k _ _ ne)⟩
theorem PairV.kept {H H' : Hp} {vs : List V} {rs : List (Str × Str)} {x C dx : Addr} {fs : List (Str × V)} (h : Paired (PairV H) vs rs) (hx : H x = some (.ins C dx fs)) (k : Kept x H H') : Paired (PairV H') vs rs := paired_imp (fun _ _ q => SeqV.kept q hx k) h
section
variable {P : Program} {w : World} {K : PySem.W.Frag} {mg : Str → Option Value} {base : Heap} {CF C CH CR CD : Addr}
theorem ok_VI {f fN fR fD fB fG : Addr} {fd nd_ rd_ dd_ bd gd : FuncData} (F : Fun K "__init__" "Valley.__init__" sVI f fd) (B : Bl mg) (me : mg "enumerate" = none) (T : VcT K C)
    (GN : FnOk P w K mg base (L2.CX P w) 4 fN nd_ ["houses"] (spNH K CH)) (kN : PySem.W.keepIn K (.ref fN) = true) (bN : Binds K nd_ ["houses"] []) (mN : mg "_need_houses" = some (.ref fN))
    (GR : FnOk P w K mg base (L2.CX P w) 4 fR rd_ ["houses", "roads"] (spNR K CR)) (kR : PySem.W.keepIn K (.ref fR) = true) (bR : Binds K rd_ ["houses", "roads"] []) (mR : mg "_need_roads" = some (.ref fR))
    (GD : FnOk P w K mg base (L2.CX P w) 4 fD dd_ ["houses", "heads"] (spND K CD)) (kD : PySem.W.keepIn K (.ref fD) = true) (bD : Binds K dd_ ["houses", "heads"] []) (mD : mg "_need_heads" = some (.ref fD))
    (FB : Fun K "_both_ways" "_both_ways" sBW fB bd) (bB : Binds K bd ["roads"] []) (mB : mg "_both_ways" = some (.ref fB))
    (FG : Fun K "_neighbours" "_neighbours" sNB fG gd) (bG : Binds K gd ["houses", "roads"] []) (mG : mg "_neighbours" = some (.ref fG)) :
    FnOk P w K mg base (L2.CX P w) 5 f fd ["self", "houses", "roads", "heads"] (spVI K C CH CR CD) := by
  have GB := ok_BW (P := P) (w := w) (base := base) FB me
  have GG := ok_NB (P := P) (w := w) (mg := mg) (base := base) FG
  refine F.okX scVI (fun vs H Q E h => ?_) (fun cdv A outer s H vs Q E hr h => ?_)
  · obtain ⟨x, hh, r, g, dx, rfl, _⟩ := h
    rfl
  obtain ⟨x, hh, r, g, dx, rfl, hx, h⟩ := h
  have nd := scVI.nd
  have hu := hu_of hr
  have hr1 : Room 1 _ := hr.mono (by decide)
  refine ⟨_, pss_cons (by exact (ps_expr (pe_call GN hr rfl mN kN bN .nil (passes_call (takes_of rfl rfl rfl rfl) (fun _ _ _ _ h => h)) (pa_cons (pv 1) pa_nil))))
    (pss_cons (by exact (ps_expr (pe_call GR hr rfl mR kR bR .nil (passes_call (takes_of rfl rfl rfl rfl) (fun _ _ _ _ h => h)) (pa_cons (pv 1) (pa_cons (pv 2) pa_nil)))))
    (pss_cons (by exact (ps_expr (pe_call GD hr rfl mD kD bD .nil (passes_call (takes_of rfl rfl rfl rfl) (fun _ _ _ _ h => h)) (pa_cons (pv 1) (pa_cons (pv 3) pa_nil)))))
    (pss_cons (by exact (ps_fld (pv 0) (pe_callTy call_list_of rfl B.list PyProof.Rows.boot_list (pa_cons (pv 1) pa_nil)) rfl))
    (pss_cons (by exact (ps_fld (pv 0) (pe_lc (own := [("one", 4), ("other", 5)]) (g := gSeq K 2 (gCons (gName 4) (gCons (gName 5) gNil))) (tt := tYes) (te := tTup (tCons (tVar 4) (tCons (tVar 5) tNil))) rfl nd (by exact pi_seqV 2 (pv 2))
        (by exact blkOk_by (N := ["self", "houses", "roads", "heads", "one", "other", "house", "index"]) (sc := defScope sVI) (by decide +kernel)) (fun _ _ _ _ _ => by exact pg_seq rfl (pgs_cons (pg_name (i := 4) nd rfl (.inl rfl)) (pgs_cons (pg_name (i := 5) nd rfl (.inl rfl)) pgs_nil)))
        (fun _ _ _ _ _ => pts_nil) (fun _ _ _ _ _ => by exact pe_tup (pa_cons (pv 4) (pa_cons (pv 5) pa_nil)))) rfl))
    (pss_cons (by exact (ps_fld (pv 0) (pe_callTy call_list_of rfl B.list PyProof.Rows.boot_list (pa_cons (pv 3) pa_nil)) rfl))
    (pss_cons (by exact (ps_fld (pv 0) (pe_dc (own := [("house", 6), ("index", 7)]) (g := gTup K 2 (gCons (gName 7) (gCons (gName 6) gNil))) (tt := tYes) (tk := tVar 6) (tv := tOp (rIx K) (tVar 3) (tVar 7)) rfl nd (by exact pi_enumV 1 rfl me (pv 1))
        (by exact blkOk_by (N := ["self", "houses", "roads", "heads", "one", "other", "house", "index"]) (sc := defScope sVI) (by decide +kernel)) (fun _ _ _ _ _ => by exact pg_tup rfl (pgs_cons (pg_name (i := 7) nd rfl (.inl rfl)) (pgs_cons (pg_name (i := 6) nd rfl (.inl rfl)) pgs_nil)))
        (fun _ _ _ _ _ => pts_nil) (fun _ _ _ _ _ => by exact pv 6) (fun _ _ _ _ _ => by exact pe_ix ix_seq (pv 3) (pv 7) (fun _ _ => rfl))) rfl))
    (pss_cons (by exact (ps_fld (pv 0) (pe_call GB hr1 rfl mB FB.kp bB .nil pass0 (pa_cons (pe_fld (pv 0) rfl) pa_nil)) rfl))
    (pss_one (by exact (ps_fld (pv 0) (pe_call GG hr1 rfl mG FG.kp bG .nil pass0 (pa_cons (pe_fld (pv 0) rfl) (pa_cons (pe_fld (pv 0) rfl) pa_nil))) rfl)))))))))), ?_⟩
  rcases h with ⟨i, bad, go⟩ | h
  · refine ⟨_, rfl, hh, rfl, ?_⟩
    rcases bad with ⟨n, rfl⟩ | ⟨n, rfl⟩ | ⟨ss, y, rest, a1, a2, a3, a4, rfl⟩
    · exact .inl ⟨n, go⟩
    · exact .inr (.inl ⟨n, go⟩)
    · exact .inr (.inr (.inr ⟨ss, y, rest, a1, a2, a3, a4, go⟩))
  obtain ⟨ss, ⟨sh, hne, hl, good⟩, h⟩ : ∃ ss, HousesOk H hh ss ∧ ((∃ i : Nat, RoadsBad K H ss r i ∧ Goes CR i H E) ∨ (∃ rs, ∃ i : Nat, RoadsOk H ss r rs ∧ HeadsBad K H ss g i ∧ Goes CD i H E) ∨
      (∃ rs ns, RoadsOk H ss r rs ∧ HeadsOk H ss g ns ∧ ∀ H' l1 l2 l3 qs, Kept x H H' → ValI C H' x l1 l2 l3 qs ss rs ns → H l1 = none → H l2 = none → H l3 = none → (∀ q ∈ qs, H q = none) → Q .non H')) := by
    rcases h with ⟨ss, i, a, b, c⟩ | ⟨ss, rs, i, a, b, c, d⟩ | ⟨ss, rs, ns, a, b, c, d⟩
    · exact ⟨ss, a, .inl ⟨i, b, c⟩⟩
    · exact ⟨ss, a, .inr (.inl ⟨rs, i, b, c, d⟩)⟩
    · exact ⟨ss, a, .inr (.inr ⟨rs, ns, b, c, d⟩)⟩
  refine ⟨_, rfl, hh, rfl, .inr (.inr (.inl ⟨ss, sh, hne, hl, good, fun H1 e1 => ?_⟩))⟩
  rcases h with ⟨i, bad, go⟩ | h
  · refine ⟨_, rfl, _, rfl, hh, r, ss, rfl, sh.ext e1, good, hl, ?_⟩
    rcases bad with ⟨n, rfl⟩ | ⟨vs, rs, tail, a1, a2, a3, a4, rfl, a5⟩
    · exact .inl ⟨n.ext e1, go.ext e1⟩
    · refine .inr ⟨vs, rs, tail, a1.ext e1, paired_imp (fun _ _ q => SeqV.ext q e1) a2, a3, a4, ?_⟩
      rcases a5 with ⟨rfl, n⟩ | ⟨y, rest, rfl, b⟩
      · exact .inr (.inl ⟨rfl, n, go.ext e1⟩)
      · exact .inr (.inr ⟨y, rest, rfl, b.ext e1, go.ext e1⟩)
  obtain ⟨rs, ⟨vs, sr, pr, ends, forest, hrl⟩, h⟩ : ∃ rs, RoadsOk H ss r rs ∧ ((∃ i : Nat, HeadsBad K H ss g i ∧ Goes CD i H E) ∨
      (∃ ns, HeadsOk H ss g ns ∧ ∀ H' l1 l2 l3 qs, Kept x H H' → ValI C H' x l1 l2 l3 qs ss rs ns → H l1 = none → H l2 = none → H l3 = none → (∀ q ∈ qs, H q = none) → Q .non H')) := by
    rcases h with ⟨rs, i, b, c, d⟩ | ⟨rs, ns, b, c, d⟩
    · exact ⟨rs, b, .inl ⟨i, c, d⟩⟩
    · exact ⟨rs, b, .inr ⟨ns, c, d⟩⟩
  refine ⟨_, rfl, _, rfl, hh, r, ss, rfl, sh.ext e1, good, hl, .inr ⟨vs, rs, [], by rw [List.append_nil]; exact sr.ext e1, paired_imp (fun _ _ q => SeqV.ext q e1) pr, ends, forest, .inl ⟨rfl, hrl, fun H2 e2' => ?_⟩⟩⟩
  have e2 := e1.trans e2'
  rcases h with ⟨i, bad, go⟩ | ⟨ns, ⟨sg, hn1, hnl⟩, q⟩
  · refine ⟨_, rfl, _, rfl, hh, g, ss.map V.str, rfl, sh.ext e2, ?_⟩
    rcases bad with ⟨n, rfl⟩ | ⟨ns, a1, a2, a3, rfl⟩ | ⟨ns, y, rest, a1, a2, a3, a4, rfl⟩
    · exact .inl ⟨n.ext e2, go.ext e2⟩
    · exact .inr (.inr (.inl ⟨ns, a1.ext e2, a2, by rw [List.length_map]; exact a3, go.ext e2⟩))
    · exact .inr (.inr (.inr ⟨ns, y, rest, a1.ext e2, a2, by rw [List.length_map]; exact a3, by rw [List.length_map]; exact a4.imp id fun b => b.ext e2, go.ext e2⟩))
  refine ⟨_, rfl, _, rfl, hh, g, ss.map V.str, rfl, sh.ext e2, .inr (.inl ⟨ns, sg.ext e2, hn1, by rw [List.length_map]; exact hnl, fun H3 e3' => ?_⟩)⟩
  have e3 := e2.trans e3'
  have x3 := e3 _ _ hx
  have k3 : Kept x H H3 := Kept.same e3
  -- list(houses)
  obtain ⟨p1, rfl, q1⟩ := (sh.ext e3).sq (K := K)
  refine ⟨_, rfl, p1, _, rfl, q1, fun l1 hl1 => ?_⟩
  have n1 : l1 ≠ x := fun z => by rw [z, x3] at hl1; cases hl1
  have l1H : H l1 = none := e3.free hl1
  refine ⟨_, rfl, x, C, dx, [], rfl, (by rw [upd_ne n1.symm]; exact x3), T.cl, T.n1, (by decide), ?_⟩
  have k4 : Kept x H3 (upd (upd H3 l1 (.lst (ss.map V.str))) x (.ins C dx (putF "_houses" (.ref l1) []))) := (Kept.new hl1).trans Kept.upd
  have f1 : upd (upd H3 l1 (.lst (ss.map V.str))) x (.ins C dx (putF "_houses" (.ref l1) [])) l1 = some (.lst (ss.map V.str)) := by rw [upd_ne n1, upd_same]
  have x4 : upd (upd H3 l1 (.lst (ss.map V.str))) x (.ins C dx (putF "_houses" (.ref l1) [])) x = some (.ins C dx (putF "_houses" (.ref l1) [])) := upd_same
  generalize upd (upd H3 l1 (.lst (ss.map V.str))) x (.ins C dx (putF "_houses" (.ref l1) [])) = H4 at k4 f1 x4 ⊢
  have k04 := k3.trans k4
  have fr : ∀ {Hz : Hp} {l : Addr}, Kept x H Hz → Hz l = none → l ≠ x → H l = none := fun {Hz l} k n ne => by
    cases e : H l with
    | none => rfl
    | some o => rw [k _ _ ne e] at n; cases n
  -- the roads' pairs
  obtain ⟨p2, rfl, q2⟩ := sr.kept hx k04
  have sq2 : SqA K H4 p2 vs := q2.imp (fun h => SqL.of h) (fun h => SqT.of h)
  refine ⟨p2, _, rfl, sq2, fun J G wk hG l2 hl2 => ?_⟩
  have n2 : l2 ≠ x := fun z => by rw [z, x4] at hl2; cases hl2
  have lvs : vs.length = rs.length := pr.length
  refine lc_it wk (fun i Hc => Same H4 Hc ∧ ∃ qs, Hc l2 = some (.lst (qs.map V.ref)) ∧ Paired (TupP Hc) qs (rs.take i) ∧ (∀ z ∈ qs, H4 z = none ∧ z ≠ l2)) ⟨K1.Same.upd hl2, [], upd_same, .nil, fun z hz => absurd hz (by simp)⟩ (fun i Hc _ h => hG Hc fun o ho => h.1 _ _ ho) ?_ ?_
  · rintro i y Hc H' hi ⟨a1, qs, a2, a3, a4⟩ ⟨rfl, hy⟩
    rw [lvs] at hi
    obtain ⟨y', ey, py⟩ := paired_get (PairV.kept pr hx k04) hi
    have : y = y' := Option.some.inj (hy.symm.trans ey)
    subst this
    obtain ⟨py1, rfl, py2⟩ := SeqV.ext py a1
    refine ⟨py1, _, rfl, py2.imp (fun h => SqL.of h) (fun h => SqT.of h), rfl, _, _, rfl, _, _, rfl, rfl, rfl, ?_⟩
    unfold tYes
    refine iteT ?_
    refine ⟨_, rfl, _, rfl, (by show 2 ≤ sizeLine; decide), fun b hb => ?_⟩
    have bl : b ≠ l2 := fun z => by rw [z, a2] at hb; cases hb
    have lq : qs.length ≤ rs.length := by rw [a3.length, List.length_take]; omega
    have sb := K1.Same.upd (H := H') (p := b) (o := .tup [.str rs[i].1, .str rs[i].2]) hb
    refine ⟨qs.map V.ref, by rw [upd_ne bl.symm]; exact a2, by rw [List.length_map]; exact small1000 (by omega), ?_, qs ++ [b], by rw [upd_same, List.map_append]; rfl, ?_, fun z hz => ?_⟩
    · intro c o n
      rw [upd_ne (ne_of_none n hl2)]
      exact sb _ _ (a1 _ _ n)
    · have up2 : ∀ z o, z ≠ l2 → upd H' b (.tup [.str rs[i].1, .str rs[i].2]) z = some o → upd (upd H' b (.tup [.str rs[i].1, .str rs[i].2])) l2 (.lst (qs.map V.ref ++ [.ref b])) z = some o := fun z o n e => by rw [upd_ne n]; exact e
      rw [List.take_add_one, List.getElem?_eq_getElem hi]
      have pz : ∀ {as : List Addr} {bs : List (Str × Str)}, Paired (TupP H') as bs → (∀ z ∈ as, z ≠ l2) → Paired (TupP (upd (upd H' b (.tup [.str rs[i].1, .str rs[i].2])) l2 (.lst (qs.map V.ref ++ [.ref b])))) (as ++ [b]) (bs ++ [rs[i]]) := by
        intro as bs h
        induction h with
        | nil => intro _; exact .cons (up2 _ _ bl upd_same) .nil
        | cons f1 f2 ih =>
          intro nz
          exact .cons (up2 _ _ (nz _ (List.mem_cons_self ..)) (sb _ _ f1)) (ih fun z hz => nz z (List.mem_cons_of_mem _ hz))
      exact pz a3 fun z hz => (a4 z hz).2
    · rcases List.mem_append.mp hz with hz | hz
      · exact a4 z hz
      · rw [List.mem_singleton.mp hz]
        exact ⟨a1.free hb, bl⟩
  rintro H5 ⟨e5, qs, a2, a3, a4⟩
  rw [lvs, List.take_length] at a3
  have x5 := e5 _ _ x4
  refine ⟨_, rfl, x, C, dx, _, rfl, x5, T.cl, T.n2, (Nat.lt_of_le_of_lt (length_putF _ _ _) (by decide)), ?_⟩
  have k5 : Kept x H (upd H5 x (.ins C dx (putF "_roads" (.ref l2) (putF "_houses" (.ref l1) [])))) := (k04.trans (Kept.same e5)).trans Kept.upd
  have up5 : ∀ z o, z ≠ x → H5 z = some o → upd H5 x (.ins C dx (putF "_roads" (.ref l2) (putF "_houses" (.ref l1) []))) z = some o := fun z o n e => by rw [upd_ne n]; exact e
  have g1 := up5 _ _ n1 (e5 _ _ f1)
  have g2 := up5 _ _ n2 a2
  have nq : ∀ z ∈ qs, z ≠ x := fun z hz e => by rw [e] at hz; rw [(a4 x hz).1] at x4; cases x4
  have pq : ∀ {Hz : Hp}, Kept x H5 Hz → Paired (TupP Hz) qs rs := fun {Hz} k => by
    have : ∀ {as : List Addr} {bs : List (Str × Str)}, Paired (TupP H5) as bs → (∀ z ∈ as, z ≠ x) → Paired (TupP Hz) as bs := by
      intro as bs h
      induction h with
      | nil => intro _; exact .nil
      | cons f1 f2 ih => intro nz; exact .cons (k _ _ (nz _ (List.mem_cons_self ..)) f1) (ih fun z hz => nz z (List.mem_cons_of_mem _ hz))
    exact this a3 nq
  have k56 : Kept x H5 (upd H5 x (.ins C dx (putF "_roads" (.ref l2) (putF "_houses" (.ref l1) [])))) := Kept.upd
  have x6 : upd H5 x (.ins C dx (putF "_roads" (.ref l2) (putF "_houses" (.ref l1) []))) x = some (.ins C dx (putF "_roads" (.ref l2) (putF "_houses" (.ref l1) []))) := upd_same
  generalize upd H5 x (.ins C dx (putF "_roads" (.ref l2) (putF "_houses" (.ref l1) []))) = H6 at k5 g1 g2 k56 x6 ⊢
  clear up5
  -- list(heads)
  obtain ⟨p3, rfl, q3⟩ := (sg.kept hx k5).sq (K := K)
  refine ⟨_, rfl, p3, _, rfl, q3, fun l3 hl3 => ?_⟩
  have n3 : l3 ≠ x := fun z => by rw [z, x6] at hl3; cases hl3
  refine ⟨_, rfl, x, C, dx, _, rfl, (by rw [upd_ne n3.symm]; exact x6), T.cl, T.n3, (Nat.lt_of_le_of_lt (Nat.le_trans (length_putF _ _ _) (Nat.succ_le_succ (length_putF _ _ _))) (by decide)), ?_⟩
  have k67 : Kept x H6 (upd (upd H6 l3 (.lst (ns.map V.int))) x (.ins C dx (putF "_heads" (.ref l3) (putF "_roads" (.ref l2) (putF "_houses" (.ref l1) []))))) := (Kept.new hl3).trans Kept.upd
  have g3 : upd (upd H6 l3 (.lst (ns.map V.int))) x (.ins C dx (putF "_heads" (.ref l3) (putF "_roads" (.ref l2) (putF "_houses" (.ref l1) [])))) l3 = some (.lst (ns.map V.int)) := by rw [upd_ne n3, upd_same]
  have x7 : upd (upd H6 l3 (.lst (ns.map V.int))) x (.ins C dx (putF "_heads" (.ref l3) (putF "_roads" (.ref l2) (putF "_houses" (.ref l1) [])))) x = some (.ins C dx (putF "_heads" (.ref l3) (putF "_roads" (.ref l2) (putF "_houses" (.ref l1) [])))) := upd_same
  have l3H : H l3 = none := fr k5 hl3 n3
  generalize upd (upd H6 l3 (.lst (ns.map V.int))) x (.ins C dx (putF "_heads" (.ref l3) (putF "_roads" (.ref l2) (putF "_houses" (.ref l1) [])))) = H7 at k67 g3 x7 ⊢
  have k07 := k5.trans k67
  -- the people
  obtain ⟨p1', e1', q1'⟩ := sh.kept hx k07
  cases e1'
  obtain ⟨p3', e3'', q3'⟩ := sg.kept hx k07
  cases e3''
  have sq7 : SqA K H7 p1 (ss.map V.str) := q1'.imp (fun h => SqL.of h) (fun h => SqT.of h)
  refine ⟨p1, _, rfl, sq7, fun J G wk hG D hD => ?_⟩
  have nD : D ≠ x := fun z => by rw [z, x7] at hD; cases hD
  refine dc_it wk (fun i Hc => Same H7 Hc ∧ ∃ kv, Hc D = some (.dK kv) ∧ kv.length ≤ i) ⟨K1.Same.upd hD, [], upd_same, Nat.zero_le _⟩ (fun i Hc _ h => hG Hc fun o ho => h.1 _ _ ho) ?_ ?_
  · rintro i y Hc H' hi ⟨b1, kv, b2, b3⟩ ⟨Tp, x1, x2, rfl, hT, rfl, ex1, ex2⟩
    rw [List.length_map] at hi
    obtain rfl : x1 = .int (i : Nat) := (Option.some.inj ex1).symm
    have ex2 : (ss.map V.str)[i]? = some x2 := ex2
    rw [List.getElem?_map, List.getElem?_eq_getElem hi] at ex2
    obtain rfl : x2 = .str ss[i] := (Option.some.inj ex2).symm
    have hT2 := K1.Same.upd (H := Hc) (p := Tp) (o := .tup [.int (i : Nat), .str ss[i]]) hT
    refine ⟨Tp, _, rfl, SqT.of upd_same, rfl, _, _, rfl, _, _, rfl, rfl, rfl, ?_⟩
    unfold tYes
    refine iteT ?_
    have hi2 : i < ns.length := by omega
    have sv : SeqV (upd Hc Tp (.tup [.int (i : Nat), .str ss[i]])) (.ref p3) (ns.map V.int) := SeqV.ext (SeqV.ext ⟨p3, rfl, q3'⟩ b1) hT2
    refine ⟨_, rfl, _, rfl, _, rfl, ixA sv (atI_nat (j := i) (v := .int ns[i]) (by rw [List.getElem?_map, List.getElem?_eq_getElem hi2]; rfl)) ?_⟩
    refine ⟨kv, .inr ss[i], rfl, hT2 _ _ b2, small1000 (by omega), fun c o n => ?_, _, upd_same, Nat.le_trans putK_le (by omega)⟩
    rw [upd_ne (ne_of_none n hD)]
    exact hT2 _ _ (b1 _ _ n)
  rintro H8 ⟨e8, _⟩
  have x8 := e8 _ _ x7
  refine ⟨_, rfl, x, C, dx, _, rfl, x8, T.cl, T.n4, (Nat.lt_of_le_of_lt (Nat.le_trans (length_putF _ _ _) (Nat.succ_le_succ (Nat.le_trans (length_putF _ _ _) (Nat.succ_le_succ (length_putF _ _ _))))) (by decide)), ?_⟩
  have k79 : Kept x H7 (upd H8 x (.ins C dx (putF "_people" (.ref D) (putF "_heads" (.ref l3) (putF "_roads" (.ref l2) (putF "_houses" (.ref l1) [])))))) := (Kept.same e8).trans Kept.upd
  have x9 : upd H8 x (.ins C dx (putF "_people" (.ref D) (putF "_heads" (.ref l3) (putF "_roads" (.ref l2) (putF "_houses" (.ref l1) []))))) x = some (.ins C dx (putF "_people" (.ref D) (putF "_heads" (.ref l3) (putF "_roads" (.ref l2) (putF "_houses" (.ref l1) []))))) := upd_same
  generalize upd H8 x (.ins C dx (putF "_people" (.ref D) (putF "_heads" (.ref l3) (putF "_roads" (.ref l2) (putF "_houses" (.ref l1) []))))) = H9 at k79 x9 ⊢
  have k69 := k67.trans k79
  have k59 := k56.trans k69
  have o2 := k69 _ _ n2 g2
  have p9 := pq k59
  have lk2 : (putF "_people" (V.ref D) (putF "_heads" (.ref l3) (putF "_roads" (.ref l2) (putF "_houses" (.ref l1) [])))).lookup ("_roads" : Str) = some (.ref l2) := by
    rw [lookup_putF, if_neg (by decide +kernel), lookup_putF, if_neg (by decide +kernel), lookup_putF, if_pos rfl]
  refine ⟨_, rfl, x, C, dx, _, _, rfl, x9, T.cl, T.n2, lk2, l2, qs, rs, rfl, o2, p9, by omega, fun r1 H10 e10 => ?_⟩
  have x10 := e10 _ _ x9
  refine ⟨_, rfl, x, C, dx, _, rfl, x10, T.cl, T.n5, (Nat.lt_of_le_of_lt (Nat.le_trans (length_putF _ _ _) (Nat.succ_le_succ (Nat.le_trans (length_putF _ _ _) (Nat.succ_le_succ (Nat.le_trans (length_putF _ _ _) (Nat.succ_le_succ (length_putF _ _ _))))))) (by decide)), ?_⟩
  have k911 : Kept x H9 (upd H10 x (.ins C dx (putF "_places" (.ref r1) (putF "_people" (.ref D) (putF "_heads" (.ref l3) (putF "_roads" (.ref l2) (putF "_houses" (.ref l1) []))))))) := (Kept.same e10).trans Kept.upd
  have x11 : upd H10 x (.ins C dx (putF "_places" (.ref r1) (putF "_people" (.ref D) (putF "_heads" (.ref l3) (putF "_roads" (.ref l2) (putF "_houses" (.ref l1) [])))))) x = some (.ins C dx (putF "_places" (.ref r1) (putF "_people" (.ref D) (putF "_heads" (.ref l3) (putF "_roads" (.ref l2) (putF "_houses" (.ref l1) [])))))) := upd_same
  generalize upd H10 x (.ins C dx (putF "_places" (.ref r1) (putF "_people" (.ref D) (putF "_heads" (.ref l3) (putF "_roads" (.ref l2) (putF "_houses" (.ref l1) [])))))) = H11 at k911 x11 ⊢
  have k6_11 := k69.trans k911
  have k5_11 := k56.trans k6_11
  have lk1 : (putF "_places" (V.ref r1) (putF "_people" (V.ref D) (putF "_heads" (.ref l3) (putF "_roads" (.ref l2) (putF "_houses" (.ref l1) []))))).lookup ("_houses" : Str) = some (.ref l1) := by
    rw [lookup_putF, if_neg (by decide +kernel), lookup_putF, if_neg (by decide +kernel), lookup_putF, if_neg (by decide +kernel), lookup_putF, if_neg (by decide +kernel), lookup_putF, if_pos rfl]
  have lk2' : (putF "_places" (V.ref r1) (putF "_people" (V.ref D) (putF "_heads" (.ref l3) (putF "_roads" (.ref l2) (putF "_houses" (.ref l1) []))))).lookup ("_roads" : Str) = some (.ref l2) := by
    rw [lookup_putF, if_neg (by decide +kernel)]
    exact lk2
  refine ⟨_, rfl, x, C, dx, _, _, rfl, x11, T.cl, T.n1, lk1, _, rfl, x, C, dx, _, _, rfl, x11, T.cl, T.n2, lk2', l1, l2, ss, qs, rs, rfl, k6_11 _ _ n1 g1, hl, good.1, k6_11 _ _ n2 g2, pq k5_11, ends, by omega, fun r2 H12 e12 => ?_⟩
  have x12 := e12 _ _ x11
  refine ⟨_, rfl, x, C, dx, _, rfl, x12, T.cl, T.n6, (Nat.lt_of_le_of_lt (Nat.le_trans (length_putF _ _ _) (Nat.succ_le_succ (Nat.le_trans (length_putF _ _ _) (Nat.succ_le_succ (Nat.le_trans (length_putF _ _ _) (Nat.succ_le_succ (Nat.le_trans (length_putF _ _ _) (Nat.succ_le_succ (length_putF _ _ _))))))))) (by decide)), ?_⟩
  have k11_13 : Kept x H11 (upd H12 x (.ins C dx (putF "_beside" (.ref r2) (putF "_places" (.ref r1) (putF "_people" (.ref D) (putF "_heads" (.ref l3) (putF "_roads" (.ref l2) (putF "_houses" (.ref l1) [])))))))) := (Kept.same e12).trans Kept.upd
  have k6_13 := k6_11.trans k11_13
  refine q _ l1 l2 l3 qs (k5.trans k6_13) ⟨⟨dx, _, upd_same, ?_, ?_, ?_, fun m m1 m2 m3 m4 m5 m6 => ?_⟩, k6_13 _ _ n1 g1, k6_13 _ _ n2 g2, pq (k56.trans k6_13), (k79.trans (k911.trans k11_13)) _ _ n3 g3⟩ l1H (fr k04 hl2 n2) l3H (fun z hz => fr k04 (a4 z hz).1 (nq z hz))
  · rw [lookup_putF, if_neg (by decide +kernel)]
    exact lk1
  · rw [lookup_putF, if_neg (by decide +kernel)]
    exact lk2'
  · rw [lookup_putF, if_neg (by decide +kernel), lookup_putF, if_neg (by decide +kernel), lookup_putF, if_neg (by decide +kernel), lookup_putF, if_pos rfl]
  · rw [lookup_putF, if_neg m6, lookup_putF, if_neg m5, lookup_putF, if_neg m4, lookup_putF, if_neg m3, lookup_putF, if_neg m2, lookup_putF, if_neg m1]
    rfl
end
end K1
end
-- NTry
section
set_option Elab.async false
set_option linter.all false
set_option maxRecDepth 100000
set_option maxHeartbeats 4000000
/-! several clauses, each with a name for what came: the same slot -/
namespace K1
open PySem PySem.Spec PyProof.Rows L2
abbrev Suite := Addr → Value → Option Addr → TS
/-- a wish where the slots are as many as the names -/
def wLen (N : List Str) (W : WX) : WX := fun cls d σ H => σ.length = N.length → W cls d σ H
/-- the clauses' wish, one behind another -/
def wSome (K : PySem.W.Frag) (i : Nat) (Wout : WX) (D : Ends) : List (Value × Suite) → WX
  | [] => Wout
  | p :: r => wAs K p.1 i p.2 (wSome K i Wout D r) D
inductive HdsN (X : Cx) (n : Str) : List ExceptHandler → List (Value × Suite) → Prop
  | nil : HdsN X n [] []
  | cons {x : Str} {c : Value} {ts : Suite} {st : Stmt} {more : List Stmt} {xp hp : Pos} {hds : List ExceptHandler} {l : List (Value × Suite)} (names : Names X x c)
      (body : ∀ (a : Addr) (oe : Obj) (cls : Value) (d : Option Addr) (pn : List (Addr × Obj)), Zc cls d oe → (∃ vs, oe.data = .fields vs) → PSs (X.suite a ((a, oe) :: pn)) (st :: more) (ts a cls d)) (rest : HdsN X n hds l) :
      HdsN X n (.ExceptHandler (some (.Name x xp)) (some n) (st :: more) hp :: hds) ((c, ts) :: l)
section
variable {X : Cx} {body : List Stmt} {hd : ExceptHandler} {hds : List ExceptHandler} {l : List (Value × Suite)} {pos : Pos} {tb : WX → TS} {Wout : WX} {n : Str} {i : Nat}
theorem ps_try_some (st : X.stack = X.env :: X.outer) (fr : X.env.frame = some X.env.locals) (dup : X.N.Nodup) (at_ : X.N[i]? = some n) (loc : X.env.kindOf n = some .local) (tk : Takes X Wout)
    (hb : ∀ (W : WX) (pn : List (Addr × Obj)) (xe : Value → Shared → Prop), Takes (X.tr pn xe) W → PassesOwn (model X.prog X.w) X.A X.env xe → PSs (X.tr pn xe) body (tb W)) (clauses : HdsN X n (hd :: hds) l) :
    PS X (.Try body (hd :: hds) [] [] pos) (fun D σ H => tb (wLen X.N (wSome X.K i Wout D l)) D σ H) := by
  refine ⟨fun pins s σ H D I h => ?_⟩
  have good := I.ok; have hfr : X.A.frames = some (X.env :: X.outer) := by rw [good.frames, st]
  have hloc : Loc X.env.scope n := .inl loc
  refine wpAny_Try_except (wpAny_mono ((hb (wLen X.N (wSome X.K i Wout D l)) (X.pn ++ pins) (fun e t => wpAny (model X.prog X.w) X.A (noteFrame e X.env) (fun _ t2 => wpAny (model X.prog X.w) X.A (setFlight e none) (fun _ t3 => wpAny (model X.prog X.w) X.A (handleBy e X.env (hd :: hds)) (SP X pins D) X.xe t3) X.xe t2) X.xe t)
    (fun u t xx => ?_) PassesOwn.looking).run [] s σ H D (I.toTry _) h) (fun f t came => ?_) (fun e t z => z))
  · obtain ⟨a, B, sI, pins2, σ2, H2, cls, d, rfl, J0, nb, up, sky0, na, os, ag, wish⟩ := xx
    have J : Inv X pins σ2 H2 sI := J0.ofTry good
    have sky : Sky B (X.env :: X.outer) a (Zc cls d) X.env.locals t.heap := by rw [← st]; exact sky0
    show wpAny (model X.prog X.w) X.A (noteFrame (.ref a) X.env) _ _ _; refine Sky.land Zc.steady hfr fr sky fun g3 fly up3 => ?_
    have J3 : Inv X pins σ2 H2 { t with heap := g3 } := J.landed nb fly.1 (up.trans up3) os ag
    obtain ⟨oe3, ws3, at3, hz3, hd3⟩ := fly.there
    have nfr : a ∉ frs (X.env :: X.outer) := fun m => by
      obtain ⟨_, o2, e2, hnf⟩ := (fly.2.2.1).mem m
      rw [at3] at e2; cases e2; exact hnf _ hd3
    have nL : a ≠ X.env.locals := fun z => nfr (List.mem_filterMap.mpr ⟨X.env, List.mem_cons_self, by rw [fr, z]⟩)
    have nF : a ∉ X.fs := fun m => by obtain ⟨e, he, q⟩ := List.mem_filterMap.mp m; exact nfr (List.mem_filterMap.mpr ⟨e, List.mem_cons_of_mem _ he, q⟩)
    have S3 := J3.suite at3 hd3 na nL nF
    have go : ∀ {ks : List ExceptHandler} {m : List (Value × Suite)}, HdsN X n ks m → wSome X.K i Wout D m cls d σ2 H2 → wpAny (model X.prog X.w) X.A (handleBy (.ref a) X.env ks) (SP X pins D) X.xe { t with heap := g3 } := by
      intro ks m hk
      induction hk with
      | nil =>
        intro w; refine wpAny_handleBy_nil ?_
        obtain ⟨k1, k2, k3, oe, vs, T, oT, vs2, he, hz, hd2, h1, hr⟩ := id fly
        unfold PySem.passOn; refine wpAny_bind (wpAny_field he hd2 h1 ?_)
        rw [if_neg (show ¬ ((Value.ref T == Value.none) = true) by simp)]
        have fin : wpAny (model X.prog X.w) X.A (setFlight (.ref a) X.env.frame) (fun _ t4 => wpAny (model X.prog X.w) X.A (throw (.ref a) : Sem Flow) (SP X pins D) X.xe t4) X.xe { t with heap := g3 } := by
          rw [fr]; refine HandSPX.setFlight_upZ fly fun g4 sky4 up4 => wpAny_throw (tk _ _ ?_)
          exact ⟨a, B, sI, pins, σ2, H2, cls, d, rfl, J, nb, (up.trans up3).trans up4, .inr (.inr (by rw [st]; exact sky4)), na, os, ag, w⟩
        first | exact wpAny_bind (wpAny_pure (wpAny_bind fin)) | exact wpAny_bind fin
      | @cons x c ts s1 more xp hp2 hds2 l2 names suite rest ih =>
        intro w
        obtain ⟨b, eb, yes, no⟩ := w
        refine wpAny_handleBy_cons (codeAny_handlers_test ?_) (by intro q; cases q)
        have LM := PySem.W.exm_one (M := model X.prog X.w) (J3.kIn) (show PySem.W.Looks (model X.prog X.w) g3 (typeOf (.ref a)) cls from fun A Q E s k q => wpAny_typeOf_ref (k _ _ at3) (by rw [hz3.1]; exact q)) eb
        have test : ∀ {Q : Value → Shared → Prop} {E : Value → Shared → Prop}, Q c { t with heap := g3 } → wpAny (model X.prog X.w) (X.A.mark (some (.ref a))) (eval (.Name x xp) X.env) Q E { t with heap := g3 } := fun {Q E} q => by
          obtain ⟨hg, hdb, hm | ⟨hm, hv, hne⟩⟩ := names
          · exact ld_glob (X := X.suite a ((a, oe3) :: (X.pn ++ pins))) S3 hg hm q hdb
          · exact ld_blt (X := X.suite a ((a, oe3) :: (X.pn ++ pins))) S3 hg hm hv q hne hdb
        refine test (LM.here ?_)
        cases b with
        | false => show wpAny _ X.A (handleBy (.ref a) X.env hds2) _ _ _; exact ih (no rfl)
        | true =>
          refine codeAny_handlers_suite_as (HandSPX.lands_againZ fly fun g4 fly4 up4 => ?_)
          have J4 : Inv X pins σ2 H2 { t with heap := g4 } := J.landed nb fly4.1 ((up.trans up3).trans up4) os ag
          obtain ⟨oe4, ws4, at4, hz4, hd4⟩ := fly4.there
          refine store_ok (X := X.suite a ((a, oe4) :: (X.pn ++ pins))) (v := .ref a) (J4.suite at4 hd4 na nL nF) dup at_ hloc rfl (fun s5 S5 => ?_) (.inr loc)
          refine wpAny_mono ((suite a oe4 cls d (X.pn ++ pins) hz4 ⟨_, hd4⟩).run [] s5 _ H2 _ S5 (yes rfl a na)) (fun f s6 came => ?_) (fun _ _ z => False.elim z)
          have gone : ∀ {σ6 : L2.St} {H6 : Hp} {Q : Shared → Prop}, Inv (X.suite a ((a, oe4) :: (X.pn ++ pins))) [] σ6 H6 s6 → (∀ s7, Inv X pins (σ6.set i none) H6 s7 → Q s7) → wpAny (model X.prog X.w) X.A (do bindName X.env n .none; unbindBehindTheSuite X.env n hp2) (fun _ s7 => Q s7) X.xe s6 :=
            fun {σ6 H6 Q} S6 hq => gone_ok (S6.unsuite good) dup at_ loc hq
          cases f with
          | next => obtain ⟨σ6, H6, S6, q6⟩ := came; exact gone S6 fun s7 J7 => ⟨_, _, J7, q6⟩
          | brk => obtain ⟨σ6, H6, S6, q6⟩ := came; exact gone S6 fun s7 J7 => ⟨_, _, J7, q6⟩
          | cont => obtain ⟨σ6, H6, S6, q6⟩ := came; exact gone S6 fun s7 J7 => ⟨_, _, J7, q6⟩
          | ret u => obtain ⟨v6, σ6, H6, S6, r6, q6⟩ := came; exact gone S6 fun s7 J7 => ⟨_, _, _, J7, r6, q6⟩
    exact go clauses (wish J.len)
  · cases f with
    | next => obtain ⟨σ2, H2, J2, q⟩ := came; exact wpAny_execs_nil ⟨σ2, H2, J2.ofTry good, q⟩
    | brk => obtain ⟨σ2, H2, J2, q⟩ := came; exact ⟨σ2, H2, J2.ofTry good, q⟩
    | cont => obtain ⟨σ2, H2, J2, q⟩ := came; exact ⟨σ2, H2, J2.ofTry good, q⟩
    | ret u => obtain ⟨v, σ2, H2, J2, r, q⟩ := came; exact ⟨v, σ2, H2, J2.ofTry good, r, q⟩
end
end K1
end
-- WSet
section
set_option Elab.async false
set_option linter.all false
set_option maxRecDepth 100000
set_option maxHeartbeats 3200000
/-! set(xs), xs a list of ints and texts: membership, and how many -/
namespace W0
open PySem PySem.Spec
/-- each once, in the order in which they come first -/
def once {α : Type} [DecidableEq α] : List α → List α → List α
  | acc, [] => acc
  | acc, x :: xs => once (if x ∈ acc then acc else acc ++ [x]) xs
/-- whether it is one of these -/
def inB {α : Type} [DecidableEq α] (xs : List α) (k : α) : Bool := decide (k ∈ xs)
theorem inB_iff {α : Type} [DecidableEq α] {xs : List α} {k : α} : inB xs k = true ↔ k ∈ xs := decide_eq_true_iff
theorem once_snoc {α : Type} [DecidableEq α] (x : α) : ∀ (xs acc : List α), once acc (xs ++ [x]) = if x ∈ once acc xs then once acc xs else once acc xs ++ [x]
  | [], acc => rfl
  | y :: ys, acc => once_snoc x ys _
theorem mem_once {α : Type} [DecidableEq α] (x : α) : ∀ (xs acc : List α), x ∈ once acc xs ↔ x ∈ acc ∨ x ∈ xs
  | [], acc => by simp [once]
  | y :: ys, acc => by
    show x ∈ once (if y ∈ acc then acc else acc ++ [y]) ys ↔ _
    rw [mem_once x ys]
    by_cases h : y ∈ acc
    · rw [if_pos h, List.mem_cons]
      constructor
      · rintro (h1 | h1)
        · exact .inl h1
        · exact .inr (.inr h1)
      · rintro (h1 | rfl | h1)
        · exact .inl h1
        · exact .inl h
        · exact .inr h1
    · rw [if_neg h, List.mem_append, List.mem_singleton, List.mem_cons, or_assoc]
theorem once_len {α : Type} [DecidableEq α] : ∀ (xs acc : List α), (once acc xs).length ≤ acc.length + xs.length
  | [], acc => Nat.le_refl _
  | y :: ys, acc => by
    have := once_len ys (if y ∈ acc then acc else acc ++ [y])
    show (once _ ys).length ≤ _
    have l : (if y ∈ acc then acc else acc ++ [y]).length ≤ acc.length + 1 := by
      split
      · omega
      · rw [List.length_append]; exact Nat.le_refl _
    rw [List.length_cons]
    omega
theorem once_nodup {α : Type} [DecidableEq α] : ∀ (xs acc : List α), (acc ++ xs).Nodup → once acc xs = acc ++ xs
  | [], acc, _ => by simp [once]
  | y :: ys, acc, h => by
    have hy : y ∉ acc := fun m => by
      rw [List.nodup_append] at h
      exact h.2.2 y m y (List.mem_cons_self ..) rfl
    show once (if y ∈ acc then acc else acc ++ [y]) ys = _
    have e : acc ++ y :: ys = (acc ++ [y]) ++ ys := by simp
    rw [if_neg hy, once_nodup ys (acc ++ [y]) (by rw [← e]; exact h), e]
theorem once_short {α : Type} [DecidableEq α] : ∀ (xs acc : List α), acc.Nodup → ¬ (acc ++ xs).Nodup → (once acc xs).length < acc.length + xs.length
  | [], acc, h, n => absurd (by simpa using h) n
  | y :: ys, acc, h, n => by
    show (once (if y ∈ acc then acc else acc ++ [y]) ys).length < _
    rw [List.length_cons]
    by_cases hy : y ∈ acc
    · rw [if_pos hy]
      have := once_len ys acc
      omega
    · rw [if_neg hy]
      have e : acc ++ y :: ys = (acc ++ [y]) ++ ys := by simp
      have h2 : (acc ++ [y]).Nodup := List.nodup_append.mpr ⟨h, by simp, fun a ha b hb => by
        rw [List.mem_singleton.mp hb]
        exact fun z => hy (z ▸ ha)⟩
      have := once_short ys (acc ++ [y]) h2 (by rw [← e]; exact n)
      rw [List.length_append] at this
      simp at this
      omega
section
variable {prog : Program} {w : World} {K : Type} [DecidableEq K] {knd : KeyKind prog w K}
/-- the set at a holds just these -/
def Holds (knd : KeyKind prog w K) (h : Heap) (a : Addr) (ks : List K) : Prop := h.SetOf knd a (inB ks) (once [] ks).length
theorem setOf_same {h : Heap} {a : Addr} {S S' : K → Bool} {n n' : Nat} (x : h.SetOf knd a S n) (e : ∀ k, S k = S' k) (en : n = n') : h.SetOf knd a S' n' := by
  cases (funext e : S = S')
  cases en
  exact x
theorem Holds.keep {h h' : Heap} {a : Addr} {ks : List K} (x : Holds knd h a ks) (k : ∀ o, h.get? a = some o → h'.get? a = some o) : Holds knd h' a ks := by
  have ⟨o, es, ep, t, ho, r⟩ := x
  exact ⟨o, es, ep, t, k o ho, r⟩
theorem Holds.more {h : Heap} {a : Addr} {ks : List K} {k : K} (x : h.SetOf knd a (fun j => inB ks j || decide (j = k)) (if inB ks k then (once [] ks).length else (once [] ks).length + 1)) : Holds knd h a (ks ++ [k]) := by
  refine setOf_same x (fun j => ?_) ?_
  · unfold inB
    rw [← Bool.decide_or]
    exact decide_eq_decide.mpr (by rw [List.mem_append, List.mem_singleton])
  · rw [once_snoc]
    have e : k ∈ once [] ks ↔ k ∈ ks := by rw [mem_once]; simp
    by_cases m : k ∈ ks
    · rw [if_pos (inB_iff.mpr m), if_pos (e.mpr m)]
    · rw [if_neg (fun z => m (e.mp z)), List.length_append]
      have : ¬ inB ks k = true := fun z => m (inB_iff.mp z)
      rw [if_neg this]
      rfl
variable {A : Around} {I : Addr} {fp wr : List Addr} {G : Array GenState → Array GenState → Prop} {n : Nat} {Pv : Nat → Value → Prop} {St : Nat → Shared → Prop} {R : Result → Shared → Prop}
/-- the loop of an update, from the i-th on -/
theorem loop_keys (W : WalksS prog w A.in1 I fp wr G n Pv St) {S : Addr} (off : S ∉ fp) {ks : List K} (lk : ks.length = n) (room : n + 1 < scanBound)
    (key : ∀ (i : Nat) (v : Value), Pv i v → ∃ k, ks[i]? = some k ∧ knd.is k v = true ∧ v.scannable = true) :
    ∀ (m i : Nat) (s : Shared), i + m = n → St i s → Holds knd s.heap S (ks.take i) → (∀ s', Moved (S :: wr) G s s' → Holds knd s'.heap S ks → R (.ok (.ret .none)) s') →
      codeAny (model prog w) A (.builtin "set.update.loop" ⟨[.ref S, .ref I], []⟩) R s
  | m, i, s, hm, st, hs, fin => by
    have wide : ∀ b, b ∈ wr → b ∈ S :: wr := fun b h => List.mem_cons_of_mem S h
    have offw : S ∉ wr := fun h => off (W.sub _ h)
    refine codeAny_builtin PyProof.Rows.F.entry_set_update_loop (by
      rw [Around.under_plainId PyProof.Rows.F.plain_set_update_loop _]
      show wpAny _ A.in1 (pyNext (.ref I) >>= _) _ _ s
      refine wpAny_bind ?_
      cases m with
      | zero =>
        have ein : i = n := by omega
        subst ein
        refine W.done s _ _ st fun s' mv => ?_
        show wpAny _ A.in1 (ret Value.none) _ _ s'
        have full : ks.take i = ks := by rw [← lk]; exact List.take_length
        rw [full] at hs
        exact wpAny_pure (fin s' (mv.mono wide) (hs.keep fun o e => mv.heap S o offw e))
      | succ m =>
        refine W.item i s _ _ (by omega) st fun v s' pv st' mv => ?_
        obtain ⟨k, hk, isk, sc⟩ := key i v pv
        have hs' := hs.keep fun o e => mv.heap S o offw e
        show wpAny _ A.in1 (holding [v] (setAdd S v) >>= _) _ _ s'
        refine wpAny_bind (wpAny_holding (by
          unfold setAdd
          refine wpAny_holding (wpAny_bind (knd.pyHash isk ?_))
          have small : (once [] (ks.take i)).length + 1 < scanBound := by
            have l1 := once_len (ks.take i) []
            have l2 : (ks.take i).length ≤ n := by rw [← lk]; exact List.length_take_le' ..
            simp only [List.length_nil] at l1
            omega
          refine wpAny_setAddHashed_of (knd := knd) (s := { s' with toks := s'.toks + 1 }) isk sc hs' small fun h' same grown => ?_
          have next : Holds knd h' S (ks.take (i + 1)) := by
            rw [List.take_succ, hk]
            exact Holds.more grown
          have st2 := W.frame (i + 1) s' h' (s'.toks + 1) st' (Nat.le_succ _) fun b hb o e => (same.2 b (fun z => off (z ▸ hb))).trans e
          refine wpAny_pure ⟨plainId_quiet PyProof.Rows.F.plain_set_update_loop _, loop_keys W off lk room key m (i + 1) _ (by omega) st2 next fun s2 mv2 all => ?_⟩
          refine fin s2 (Moved.trans W.gtrans ((mv.mono wide).then_heap (Nat.le_succ _) fun b o nb e => ?_) mv2) all
          exact (same.2 b (fun z => nb (z ▸ List.mem_cons_self ..))).trans e)))
end
end W0
namespace W0
open PySem PySem.Spec
section
variable {prog : Program} {w : World} {K : Type} [DecidableEq K] {knd : KeyKind prog w K} {A : Around} {E : Value → Shared → Prop} {s : Shared}
/-- an empty set, just made on top of a heap -/
abbrev emptyOn (h : Heap) (led : Bool) : Heap := h.push { cls := .type "set", dict := none, data := .set #[] 0 (.fresh 0 0 led) }
theorem emptyOn_at (h : Heap) (led : Bool) : (emptyOn h led).get? h.objs.size = some { cls := .type "set", dict := none, data := .set #[] 0 (.fresh 0 0 led) } := Heap.get?_push_size _ rfl
/-- what its filling ends in -/
def Filled (knd : KeyKind prog w K) (s : Shared) (ks : List K) (v : Value) (s2 : Shared) : Prop :=
  v = .none ∧ ∃ h' tk, s2 = { s with heap := h', toks := tk } ∧ Holds knd h' s.heap.objs.size ks ∧ ∀ b o, s.heap.get? b = some o → h'.get? b = some o
theorem fill_keys {l : Addr} {items : Array Value} {ks : List K} (led : Bool) (hh : A.handled = none) (hl : s.heap.IsList l items) (lk : ks.length = items.size) (room : items.size + 1 < scanBound)
    (key : ∀ (i : Nat) (v : Value), items[i]? = some v → ∃ k, ks[i]? = some k ∧ knd.is k v = true ∧ v.scannable = true) :
    codeAny (model prog w) A (.call (.builtin "set.__init__") ⟨[.ref s.heap.objs.size, .ref l], []⟩) (wants (Filled knd s ks) E) { s with heap := emptyOn s.heap led } := by
  have isSet : Shared.TypeIs { s with heap := emptyOn s.heap led } (.ref s.heap.objs.size) "set" := ⟨_, emptyOn_at s.heap led, rfl⟩
  refine codeAny_call_builtin F.called_set.init.plain F.entry_set_init (check_set_init_1 isSet ?_)
  have ⟨ol, hol, hcl, nl, hdl⟩ := hl
  obtain ⟨ocls, odict, odata, oslots⟩ := ol
  cases hcl
  cases hdl
  have there := Heap.get?_push_of_some { cls := .type "set", dict := none, data := .set #[] 0 (.fresh 0 0 led) } hol
  have asList : (emptyOn s.heap led).IsList l items := ⟨_, there, rfl, nl, rfl⟩
  have noSub := F.sub_list_set
  have noSubF := F.sub_list_frozenset
  have noDict : (Value.type "list" == Value.type "dict") = false := by decide
  have low : l < s.heap.objs.size := Heap.lt_size hol
  unfold Builtin.«set.__init__» noKeywords Builtin.Frozenset.updateFrom
  generalize walkOf : pyIter = PI
  wp_walk
  subst walkOf
  refine wpAny_pyIter_list asList (wpAny_bind (wpAny_runValue ?_))
  have top : (emptyOn s.heap led).objs.size = s.heap.objs.size + 1 := Heap.size_push ..
  have ne1 : l ≠ (emptyOn s.heap led).objs.size := Nat.ne_of_lt (by rw [top]; exact Nat.lt_succ_of_lt low)
  have off : s.heap.objs.size ∉ [(emptyOn s.heap led).objs.size, l] := by
    rw [top]
    simp only [List.mem_cons, List.not_mem_nil, or_false, not_or]
    exact ⟨Nat.ne_of_lt (Nat.lt_succ_self _), (Nat.ne_of_lt low).symm⟩
  have quiet : A.in1.in1.handled = none := by simp [hh]
  have atOnce : Holds knd ((emptyOn s.heap led).push { cls := .type "list_iterator", data := .fields #[.ref l, .int 0 0] }) s.heap.objs.size (ks.take 0) :=
    setOf_same ((PyProof.Rows.setObjOf_fresh (knd := knd) led).setOf (Heap.get?_push_of_some _ (emptyOn_at s.heap led)) (by unfold scanBound; omega)) (fun _ => rfl) rfl
  refine loop_keys ((Walks.list quiet _ l ne1 items).toS) off lk room key items.size 0 _ (Nat.zero_add _) ?_ ?_ fun s' mv all => ?_
  · exact ⟨⟨_, Heap.get?_push_size _ rfl, rfl, rfl⟩, asList.push _⟩
  · exact atOnce
  obtain ⟨h', g', d', tk', os'⟩ := s'
  cases show g' = s.gens from mv.gens
  cases show d' = s.drawn from mv.drawn
  cases show os' = s.os from mv.os
  show wpAny _ _ _ _ _ _
  refine wpAny_pure (show wpAny _ _ (ret Value.none) _ _ _ from wpAny_pure ⟨rfl, h', tk', rfl, all, fun b o e => ?_⟩)
  have lt := Heap.lt_size e
  refine mv.heap b o ?_ (Heap.get?_push_of_some _ (Heap.get?_push_of_some _ e))
  rw [top]
  simp only [List.mem_cons, List.not_mem_nil, or_false, not_or]
  exact ⟨Nat.ne_of_lt lt, Nat.ne_of_lt (Nat.lt_succ_of_lt lt)⟩
end
end W0
namespace W0
open PySem PySem.Spec
section
variable {prog : Program} {w : World} {K : Type} [DecidableEq K] {knd : KeyKind prog w K} {A : Around} {E : Value → Shared → Prop} {s : Shared}
/-- set(xs) of a list of such keys -/
theorem set_keys {l : Addr} {items : Array Value} {ks : List K} {Q : Value → Shared → Prop} (hh : A.handled = none) (hl : s.heap.IsList l items) (lk : ks.length = items.size) (room : items.size + 1 < scanBound)
    (key : ∀ (i : Nat) (v : Value), items[i]? = some v → ∃ k, ks[i]? = some k ∧ knd.is k v = true ∧ v.scannable = true)
    (h : ∀ (h' : Heap) (tk : Nat), Holds knd h' s.heap.objs.size ks → (∀ b o, s.heap.get? b = some o → h'.get? b = some o) → Q (.ref s.heap.objs.size) { s with heap := h', toks := tk }) :
    wpAny (model prog w) A (call (.type "set") [.ref l]) Q E s := by
  have ⟨_, _, order⟩ := F.called_set.mro
  have made := F.called_set.made
  have below := F.called_set.sub
  have other := F.called_set.notType
  have can := F.called_set.canCreate
  have checked := F.typeCall_set_1 (.ref l)
  have found := F.called_set.init.lookup
  have bound := F.called_set.init.bind (.ref s.heap.objs.size)
  refine wpAny_call (codeAny_of_tree (show wpAny _ _ (callAny (.type "set") _) _ _ _ from wpAny_pure ⟨Code.quiet_builtin _ (by decide +kernel), codeAny_builtin F.entry_type_call ?_⟩))
  rw [Around.under_plain (weight_type_call_type "set" [.ref l] []) rfl]
  repeat (any_goals (first | wp_step | assumption))
  refine codeAny_mono (code_set_new_1 (.ref l) (E := E) (Q₁ := fun v s1 => ∃ led : Bool, v = .ref s.heap.objs.size ∧ s1 = { s with heap := emptyOn s.heap led }) fun led => ⟨led, rfl, rfl⟩) fun r s1 hr => ?_
  rcases r with e | fl
  · exact hr
  rcases fl with _ | _ | _ | v
  all_goals first | exact hr.elim | skip
  obtain ⟨led, e1, e2⟩ := hr
  subst e1 e2
  have isSet : Shared.TypeIs { s with heap := emptyOn s.heap led } (.ref s.heap.objs.size) "set" := ⟨_, emptyOn_at s.heap led, rfl⟩
  repeat (any_goals (first | wp_step | assumption))
  refine codeAny_mono (fill_keys (E := E) led (by exact hh) hl lk room key) fun r2 s2 hr2 => ?_
  rcases r2 with e | fl2
  · exact hr2
  rcases fl2 with _ | _ | _ | v2
  all_goals first | exact hr2.elim | skip
  obtain ⟨e1, h', tk, e2, all, keep⟩ := hr2
  subst e1 e2
  repeat (any_goals (first | wp_step | assumption))
  exact h h' tk all keep
end
end W0
end
-- WSetH
section
set_option Elab.async false
set_option linter.all false
set_option maxRecDepth 100000
set_option maxHeartbeats 1000000
/-! words: set(xs), len of a set -/
namespace W0
open PySem PySem.Spec PyProof.Rows L2
abbrev setOn (P : Program) (w : World) (p : Addr) (ks : List Key) : HO := SetK P w p (inB ks) (once [] ks).length
def rSetL (K : PySem.W.Frag) (P : Program) (w : World) : List V → Hp → VK → Prop := fun xs H Q => ∃ (l : Addr) (ks : List Key), xs = [.ref l] ∧ SqL K H l (ks.map kV) ∧ ks.length ≤ 1000 ∧ ∀ p, H p = none → Q (.ref p) (L2.upd H p (setOn P w p ks))
theorem key_at {ks : List Key} : ∀ {us : List Value}, Vals (ks.map kV) us → ∀ (i : Nat) (v : Value), us[i]? = some v → ∃ k, ks[i]? = some k ∧ RelV (kV k) v := by
  induction ks with
  | nil =>
    intro us r i v h
    cases r
    simp at h
  | cons k ks ih =>
    intro us r i v h
    rw [List.map_cons] at r
    cases r with
    | cons r1 r2 =>
      cases i with
      | zero =>
        simp only [List.getElem?_cons_zero, Option.some.injEq] at h
        subst h
        exact ⟨k, rfl, r1⟩
      | succ i =>
        simp only [List.getElem?_cons_succ] at h
        exact ih r2 i v h
theorem cr_setL {X : Cx} (hc : X.calm = true) : CallR X (.type "set") (rSetL X.K X.prog X.w) := by
  intro pins s σ H xs us Q I r h
  obtain ⟨l, ks, rfl, sq, small, q⟩ := h
  obtain ⟨u, rfl, rx⟩ := vals1 r
  cases rx
  obtain ⟨its, rv, isL, _⟩ := I.list sq
  have ll : ks.length = its.toArray.size := by rw [List.size_toArray, ← rv.length, List.length_map]
  refine set_keys (knd := mixKind X.prog X.w) (ks := ks) (I.ok.hd hc) isL.isList ll (by rw [← ll]; exact Nat.lt_of_le_of_lt (Nat.succ_le_succ small) (by unfold scanBound; decide)) (fun i v hv => ?_) fun h' tk all keep => ?_
  · obtain ⟨k, e, rk⟩ := key_at rv i v (by simpa using hv)
    exact ⟨k, e, kV_is rk, key_scan rk⟩
  · exact ⟨.ref _, L2.upd H s.heap.objs.size (setOn X.prog X.w s.heap.objs.size ks), I.laid (t' := tk) keep (Nat.le_refl _) (setK_new all), rfl, q _ (I.hok.fresh (Nat.le_refl _))⟩
/-- len of a set -/
def rLenS (P : Program) (w : World) : List V → Hp → VK → Prop := fun xs H Q => ∃ (p : Addr) (S : Key → Bool) (n : Nat), xs = [.ref p] ∧ H p = some (SetK P w p S n) ∧ n ≤ 1000 ∧ Q (.int (n : Int)) H
theorem cr_lenS {X : Cx} : CallR X (.builtin "len") (rLenS X.prog X.w) := by
  intro pins s σ H xs us Q I r h
  obtain ⟨p, S, n, rfl, hp, small, q⟩ := h
  obtain ⟨u, rfl, rx⟩ := vals1 r
  cases rx
  obtain ⟨o, es, ep, t, ho, hex, hd, _, _, _, hf, hn⟩ := setK_get I hp
  exact call_len_set ho hex hd hf (by rw [hn]; omega) ⟨.int (n : Int), H, I.tok _, ⟨_, by rw [hn]⟩, q⟩
/-- how many there are once: as many as there are just if no two are one -/
theorem once_full {α : Type} [DecidableEq α] (xs : List α) : ((once [] xs).length = xs.length) ↔ xs.Nodup := by
  constructor
  · intro h
    by_cases n : xs.Nodup
    · exact n
    · have := once_short xs [] List.nodup_nil (by simpa using n)
      simp only [List.length_nil] at this
      omega
  · intro h
    rw [once_nodup xs [] (by simpa using h)]
    rfl
end W0
end
-- NVal
section
set_option Elab.async false
set_option linter.all false
set_option maxRecDepth 100000
set_option maxHeartbeats 4000000
namespace K1
open PySem PySem.Spec PyProof.Rows L2
/-- the place of a road, either way round -/
def plOf (rs : List (Str × Str)) (a b : Str) : Option Nat := rs.findIdx? fun r => decide (r = (a, b) ∨ r = (b, a))
theorem joinRt_one {rt : Str → Str} {a b : Str} : joinRt rt a b a = joinRt rt a b b := by
  unfold joinRt
  by_cases e : rt a = rt b
  · simp [e]
  · simp [e]
theorem joinRt_keep {rt : Str → Str} {a b u v : Str} (h : rt u = rt v) : joinRt rt a b u = joinRt rt a b v := by
  unfold joinRt
  rw [h]
theorem rt_joined {rs : List (Str × Str)} {j : Nat} (hj : j < rs.length) : ∀ i, j < i → i ≤ rs.length → rtOf (rs.take i) rs[j].1 = rtOf (rs.take i) rs[j].2
  | 0, h, _ => absurd h (Nat.not_lt_zero j)
  | i + 1, h, hi => by
    rw [rtOf_succ hi]
    by_cases e : j = i
    · subst e
      exact joinRt_one
    · exact joinRt_keep (rt_joined hj i (by omega) (by omega))
theorem Forest.ne {rs : List (Str × Str)} (f : Forest rs) {i : Nat} (hi : i < rs.length) : rs[i].1 ≠ rs[i].2 := fun e => f i hi (by rw [e])
theorem Forest.fresh {rs : List (Str × Str)} (f : Forest rs) {i : Nat} (hi : i < rs.length) : plOf (rs.take i) rs[i].1 rs[i].2 = none := by
  unfold plOf
  rw [List.findIdx?_eq_none_iff]
  intro r hr
  obtain ⟨j, hj, rfl⟩ := List.getElem_of_mem hr
  have hj2 : j < i := by rw [List.length_take] at hj; omega
  have e := rt_joined (rs := rs) (j := j) (by omega) i hj2 (by omega)
  rw [List.getElem_take]
  refine decide_eq_false fun h => ?_
  rcases h with h | h
  · rw [h] at e; exact f i hi e
  · rw [h] at e; exact f i hi e.symm
theorem plOf_swap {rs : List (Str × Str)} {a b : Str} : plOf rs a b = plOf rs b a := by
  unfold plOf
  congr 1
  funext r
  exact decide_eq_decide.mpr ⟨Or.symm, Or.symm⟩
theorem plOf_succ {rs : List (Str × Str)} {i : Nat} (hi : i < rs.length) (a b : Str) : plOf (rs.take (i + 1)) a b = match plOf (rs.take i) a b with | some j => some j | none => if rs[i] = (a, b) ∨ rs[i] = (b, a) then some i else none := by
  unfold plOf
  rw [List.take_succ, List.getElem?_eq_getElem hi, List.findIdx?_append]
  have hl : (rs.take i).length = i := by rw [List.length_take]; omega
  cases e : (rs.take i).findIdx? fun r => decide (r = (a, b) ∨ r = (b, a)) with
  | some j => simp
  | none =>
    by_cases h : rs[i] = (a, b) ∨ rs[i] = (b, a)
    · rw [if_pos h]
      simp [List.findIdx?_cons, h, hl]
    · rw [if_neg h]
      simp [List.findIdx?_cons, h]
/-- what the dict of places tells -/
def PlacesAt (rs : List (Str × Str)) (kvs : List (List Key × V)) : Prop := ∀ a b : Str, valV kvs [.inr a, .inr b] = (plOf rs a b).map fun i => V.int (i : Nat)
theorem key2 {a b x y : Str} : ([.inr a, .inr b] : List Key) = [.inr x, .inr y] ↔ a = x ∧ b = y := by
  constructor
  · intro h
    injection h with h1 h2
    injection h2 with h3 _
    exact ⟨Sum.inr.inj h1, Sum.inr.inj h3⟩
  · rintro ⟨rfl, rfl⟩
    rfl
theorem PlacesAt.step {rs : List (Str × Str)} (f : Forest rs) {i : Nat} (hi : i < rs.length) {kvs : List (List Key × V)} (h : PlacesAt (rs.take i) kvs) :
    PlacesAt (rs.take (i + 1)) (putK (putK kvs [.inr rs[i].1, .inr rs[i].2] (.int (i : Nat))) [.inr rs[i].2, .inr rs[i].1] (.int (i : Nat))) := by
  intro a b
  rw [valV_put, valV_put, plOf_succ hi, h a b]
  have fr := f.fresh hi
  by_cases e1 : a = rs[i].2 ∧ b = rs[i].1
  · obtain ⟨rfl, rfl⟩ := e1
    rw [if_pos rfl, plOf_swap, fr]
    simp
  · rw [if_neg fun z => e1 (key2.mp z)]
    by_cases e2 : a = rs[i].1 ∧ b = rs[i].2
    · obtain ⟨rfl, rfl⟩ := e2
      rw [if_pos rfl, fr]
      simp
    · rw [if_neg fun z => e2 (key2.mp z)]
      have n : ¬ (rs[i] = (a, b) ∨ rs[i] = (b, a)) := by
        rintro (h | h)
        · exact e2 ⟨by rw [h], by rw [h]⟩
        · exact e1 ⟨by rw [h], by rw [h]⟩
      rw [if_neg n]
      cases plOf (rs.take i) a b <;> rfl
def spBW2 : Sp := fun vs H Q _ => ∃ (p : Addr) (qs : List Addr) (rs : List (Str × Str)), vs = [.ref p] ∧ H p = some (.lst (qs.map V.ref)) ∧ Paired (TupP H) qs rs ∧ Forest rs ∧ rs.length ≤ 1000 ∧
  ∀ r kvs H', Same H H' → H r = none → H' r = some (.dT kvs) → PlacesAt rs kvs → kvs.length ≤ 2 * rs.length → Q (.ref r) H'
section
variable {P : Program} {w : World} {K : PySem.W.Frag} {mg : Str → Option Value} {base : Heap}
theorem ok_BW2 {f : Addr} {fd : FuncData} (F : Fun K "_both_ways" "_both_ways" sBW f fd) (me : mg "enumerate" = none) : FnOk P w K mg base CX0 1 f fd ["roads"] spBW2 := by
  refine F.ok scBW (fun vs H Q E h => ?_) (fun cdv A outer s H vs Q E hr h => ?_)
  · obtain ⟨p, qs, rs, rfl, _⟩ := h
    rfl
  obtain ⟨p, qs, rs, rfl, hp, pr, fo, hl, q⟩ := h
  have nd := scBW.nd
  have hu := hu_of hr
  refine ⟨_, pss_cons (by exact (ps_set (i := 1) nd rfl (.inl rfl) pe_dnewT))
    (pss_cons (by exact (ps_for PassesOwn.never rfl (by exact pi_enumV 0 rfl me (pv 0)) (pg_tup rfl (pgs_cons (pg_name (i := 2) nd rfl (.inl rfl)) (pgs_cons (pg_tup rfl (pgs_cons (pg_name (i := 3) nd rfl (.inl rfl)) (pgs_cons (pg_name (i := 4) nd rfl (.inl rfl)) pgs_nil))) pgs_nil)))
      (pss_cons (by exact (ps_dput hu (pv 1) (pe_tup (pa_cons (pv 3) (pa_cons (pv 4) pa_nil))) (pv 2) rfl))
      (pss_one (by exact (ps_dput hu (pv 1) (pe_tup (pa_cons (pv 4) (pa_cons (pv 3) pa_nil))) (pv 2) rfl))))))
    (pss_one (by exact (ps_ret (pv 1))))), ?_⟩
  intro L hL
  have ep : L ≠ p := fun z => by rw [z, hp] at hL; cases hL
  have lqs : qs.length = rs.length := pr.length
  refine ⟨p, _, rfl, .inl (SqL.of (by rw [upd_ne ep.symm]; exact hp)), fun J G wk hG => ?_⟩
  refine for_it wk (fun i σ Hc => (∃ a b c, σ = [some (.ref p), some (.ref L), a, b, c]) ∧ Same H Hc ∧ ∃ kvs, Hc L = some (.dT kvs) ∧ kvs.length ≤ 2 * i ∧ PlacesAt (rs.take i) kvs) ⟨⟨_, _, _, rfl⟩, K1.Same.upd hL, _, upd_same, Nat.le_refl _, fun a b => rfl⟩ (fun i σ Hc _ h => hG Hc fun o ho => ?_) ?_ ?_
  · rw [upd_ne ep.symm, hp] at ho
    rw [← Option.some.inj ho]
    exact h.2.1 _ _ hp
  · rintro i x σ Hc H' hi ⟨⟨sa, sb, sc, rfl⟩, h1, kvs, h2, h3, h4⟩ ⟨T, x1, x2, rfl, hT, rfl, e1', e2'⟩
    rw [List.length_map, lqs] at hi
    obtain rfl : x1 = .int (i : Nat) := (Option.some.inj e1').symm
    obtain ⟨t, rfl, ht⟩ := paired_ref pr hi e2'
    have hT2 := K1.Same.upd (H := Hc) (p := T) (o := .tup [.int (i : Nat), .ref t]) hT
    have e1 : Same H (upd Hc T (.tup [.int (i : Nat), .ref t])) := h1.trans hT2
    refine ⟨T, _, rfl, SqT.of upd_same, rfl, _, _, rfl, _, _, rfl, t, _, rfl, SqT.of (e1 _ _ ht), rfl, _, _, rfl, _, _, rfl, rfl, rfl, ?_⟩
    have step : ∀ (H1 : Hp) (kv : List (List Key × V)) (a b : Str), Same H H1 → H1 L = some (.dT kv) → kv.length ≤ 2 * i + 1 → ∀ (R : Hp → Prop), (∀ H2, Same H H2 → H2 L = some (.dT (putK kv [.inr a, .inr b] (.int (i : Nat)))) → R H2) →
        2 ≤ sizeLine ∧ ∀ b', H1 b' = none → ∃ a' H3, V.ref L = .ref a' ∧ DPut (upd H1 b' (.tup [.str a, .str b])) a' (.ref b') (.int (i : Nat)) H3 ∧ R H3 := by
      intro H1 kv a b f1 f2 f3 R hR
      refine ⟨by decide, fun b' hb => ⟨L, _, rfl, DPut.t (k := [.inr a, .inr b]) (by rw [upd_ne (ne_of_none f2 hb)]; exact f2) upd_same (Nat.lt_of_le_of_lt f3 (by show 2 * i + 1 < 2 ^ 24; omega)), hR _ (fun c o n => ?_) upd_same⟩⟩
      rw [upd_ne (ne_of_none n hL), upd_ne (ne_of_none (f1 _ _ n) hb)]
      exact f1 _ _ n
    refine ⟨_, rfl, _, rfl, _, rfl, _, rfl, ?_⟩
    refine step _ kvs rs[i].1 rs[i].2 e1 (hT2 _ _ h2) (by omega) _ ?_
    rintro H2 g1 g2
    refine ⟨_, rfl, _, rfl, _, rfl, _, rfl, ?_⟩
    have l1 : (putK kvs [.inr rs[i].1, .inr rs[i].2] (V.int (i : Nat))).length ≤ kvs.length + 1 := putK_le
    refine step H2 _ rs[i].2 rs[i].1 g1 g2 (by omega) _ ?_
    rintro H3 k1 k2
    exact ⟨⟨_, _, _, rfl⟩, k1, _, k2, by have := putK_le (kvs := putK kvs [.inr rs[i].1, .inr rs[i].2] (V.int (i : Nat))) (k := [.inr rs[i].2, .inr rs[i].1]) (v := V.int (i : Nat)); omega, h4.step fo hi⟩
  · rintro σ Hc ⟨⟨sa, sb, sc, rfl⟩, h1, kvs, h2, h3, h4⟩
    rw [List.length_map, lqs] at h3 h4
    rw [List.take_length] at h4
    exact ⟨_, rfl, q L kvs Hc h1 hL h2 h4 h3⟩
end
end K1
end
-- NNb
section
set_option Elab.async false
set_option linter.all false
set_option maxRecDepth 100000
set_option maxHeartbeats 4000000
namespace K1
open PySem PySem.Spec PyProof.Rows L2
/-- whether a road joins two houses -/
def nbB (rs : List (Str × Str)) (s t : Str) : Bool := rs.any fun r => decide (r = (s, t) ∨ r = (t, s))
/-- the houses beside one, in the valley's order -/
def nbs (ss : List Str) (rs : List (Str × Str)) (s : Str) : List Str := ss.filter fun t => nbB rs s t
def addNb (nb : Str → Str → Bool) (s t : Str) : Str → Str → Bool := fun a b => nb a b || (decide (a = s) && decide (b = t))
theorem nbB_succ {rs : List (Str × Str)} {i : Nat} (hi : i < rs.length) : addNb (addNb (nbB (rs.take i)) rs[i].1 rs[i].2) rs[i].2 rs[i].1 = nbB (rs.take (i + 1)) := by
  funext a b
  unfold addNb nbB
  rw [List.take_succ, List.getElem?_eq_getElem hi, List.any_append]
  simp only [Option.toList, List.any_cons, List.any_nil, Bool.or_false, Bool.or_assoc]
  congr 1
  rw [Bool.eq_iff_iff]
  simp only [Bool.or_eq_true, Bool.and_eq_true, decide_eq_true_eq]
  constructor
  · rintro (⟨rfl, rfl⟩ | ⟨rfl, rfl⟩)
    · exact .inl rfl
    · exact .inr rfl
  · rintro (h | h)
    · exact .inl ⟨by rw [h], by rw [h]⟩
    · exact .inr ⟨by rw [h], by rw [h]⟩
/-- the dicts of the neighbours: each house has its own, with these -/
def NbS (H0 Hc : Hp) (D : Addr) (hs : List Str) (n : Nat) (nb : Str → Str → Bool) : Prop := ∃ (kvs : List (Key × V)) (own : Str → Addr), Hc D = some (.dK kvs) ∧ kvs.length ≤ hs.length ∧
  (∀ s ∈ hs, valV kvs (.inr s) = some (.ref (own s)) ∧ H0 (own s) = none ∧ own s ≠ D ∧ ∃ m, Hc (own s) = some (.dK m) ∧ m.length ≤ n ∧ ∀ t : Str, (valV m (.inr t)).isSome = nb s t) ∧ ∀ s ∈ hs, ∀ t ∈ hs, own s = own t → s = t
theorem NbS.keep {H0 Hc H2 : Hp} {D : Addr} {hs : List Str} {n : Nat} {nb : Str → Str → Bool} (h : NbS H0 Hc D hs n nb) (e : Same Hc H2) : NbS H0 H2 D hs n nb := by
  obtain ⟨kvs, own, h1, h2, h3, h4⟩ := h
  refine ⟨kvs, own, e _ _ h1, h2, fun s hs => ?_, h4⟩
  obtain ⟨a1, a2, a3, m, a4, a5⟩ := h3 s hs
  exact ⟨a1, a2, a3, m, e _ _ a4, a5⟩
/-- one neighbour more -/
theorem NbS.put {H0 Hc : Hp} {D : Addr} {hs : List Str} {n : Nat} {nb : Str → Str → Bool} (h : NbS H0 Hc D hs n nb) {s t : Str} (hs' : s ∈ hs) :
    ∃ d m kvs, Hc D = some (.dK kvs) ∧ valV kvs (.inr s) = some (.ref d) ∧ H0 d = none ∧ d ≠ D ∧ Hc d = some (.dK m) ∧ m.length ≤ n ∧ NbS H0 (upd Hc d (.dK (putK m (.inr t) (.bl true)))) D hs (n + 1) (addNb nb s t) := by
  obtain ⟨kvs, own, h1, h2, h3, h4⟩ := h
  obtain ⟨a1, a2, a3, m, a4, a5, a6⟩ := h3 s hs'
  refine ⟨own s, m, kvs, h1, a1, a2, a3, a4, a5, kvs, own, by rw [upd_ne a3.symm]; exact h1, h2, fun u hu => ?_, h4⟩
  obtain ⟨b1, b2, b3, m', b4, b5, b6⟩ := h3 u hu
  refine ⟨b1, b2, b3, ?_⟩
  by_cases e : u = s
  · subst e
    refine ⟨_, upd_same, Nat.le_trans putK_le (by omega), fun v => ?_⟩
    rw [valV_put]
    unfold addNb
    by_cases ev : v = t
    · subst ev
      rw [if_pos rfl]
      simp
    · rw [if_neg fun z => ev (Sum.inr.inj z), a6 v]
      simp [ev]
  · refine ⟨m', by rw [upd_ne fun z => e (h4 _ hu _ hs' z)]; exact b4, by omega, fun v => ?_⟩
    rw [b6 v]
    unfold addNb
    simp [e]
def spNB2 : Sp := fun vs H Q _ => ∃ (p1 p2 : Addr) (ss : List Str) (qs : List Addr) (rs : List (Str × Str)), vs = [.ref p1, .ref p2] ∧ H p1 = some (.lst (ss.map V.str)) ∧ ss.length ≤ 1000 ∧ ss.Nodup ∧ H p2 = some (.lst (qs.map V.ref)) ∧ Paired (TupP H) qs rs ∧ EndsIn ss rs ∧ rs.length ≤ 1000 ∧
  ∀ r kv H', Same H H' → H r = none → H' r = some (.dK kv) → kv.length ≤ ss.length → (∀ s ∈ ss, ∃ d, valV kv (.inr s) = some (.ref d) ∧ H d = none ∧ H' d = some (.lst ((nbs ss rs s).map V.str))) → Q (.ref r) H'
section
variable {P : Program} {w : World} {K : PySem.W.Frag} {mg : Str → Option Value} {base : Heap}
theorem ok_NB2 {f : Addr} {fd : FuncData} (F : Fun K "_neighbours" "_neighbours" sNB f fd) : FnOk P w K mg base CX0 1 f fd ["houses", "roads"] spNB2 := by
  refine F.ok scNB (fun vs H Q E h => ?_) (fun cdv A outer s H vs Q E hr h => ?_)
  · obtain ⟨p1, p2, ss, qs, rs, rfl, _⟩ := h
    rfl
  obtain ⟨p1, p2, ss, qs, rs, rfl, h1, hl, hN, h2, pr, ends, hlr, q⟩ := h
  have nd := scNB.nd
  have hu := hu_of hr
  refine ⟨_, pss_cons (by exact (ps_set (i := 2) nd rfl (.inr rfl) (pe_dc (own := [("house", 5)]) (g := gName 5) (tt := tYes) rfl nd (by exact pi_seqV 0 (pv 0))
        (by exact blkOk_by (N := ["houses", "roads", "found", "one", "other", "house", "far"]) (sc := defScope sNB) (by decide +kernel)) (fun _ _ _ _ _ => by exact pg_name (i := 5) nd rfl (Or.inl rfl)) (fun _ _ _ _ _ => pts_nil) (fun _ _ _ _ _ => pv 5) (fun _ _ _ _ _ => pe_dnewK))))
    (pss_cons (by exact (ps_for PassesOwn.never rfl (by exact pi_seqV 1 (pv 1)) (pg_tup rfl (pgs_cons (pg_name (i := 3) nd rfl (.inl rfl)) (pgs_cons (pg_name (i := 4) nd rfl (.inl rfl)) pgs_nil)))
      (pss_cons (by exact (ps_dput hu (pe_dget hu (pv 2) (pv 3) (fun _ _ => rfl)) (pv 4) pe_bl rfl))
      (pss_one (by exact (ps_dput hu (pe_dget hu (pv 2) (pv 4) (fun _ _ => rfl)) (pv 3) pe_bl rfl))))))
    (pss_one (by exact (ps_ret (pe_dc (own := [("house", 5)]) (g := gName 5) (tt := tYes) (tk := tVar 5) (tv := tLc (iSeqV K 0) (gName 6) (tB (tDIn (tVar 6) (tDGet (tVar 2) (tVar 5)))) (tVar 6) [6]) rfl nd (by exact pi_seqV 0 (pv 0))
        (by exact blkOk_by (N := ["houses", "roads", "found", "one", "other", "house", "far"]) (sc := defScope sNB) (by decide +kernel)) (fun _ _ _ _ _ => by exact pg_name (i := 5) nd rfl (Or.inr rfl)) (fun _ _ _ _ _ => pts_nil) (fun _ _ _ _ _ => by exact pv 5)
        (fun _ _ _ _ _ => by
          refine pe_lc (own := [("far", 6)]) ?_ ?_ ?_ ?_ ?_ ?_ ?_ ?_
          · rfl
          · exact nd
          · exact pi_seqV 0 (pv 0)
          · exact blkOk_by (by with_unfolding_all rfl)
          · intro _ _ _ _ _
            exact pg_name (i := 6) nd rfl (Or.inl rfl)
          · intro _ _ _ _ _
            exact pts_one (pt_cmp (pc_din hu (pv 6) (pe_dget hu (pv 2) (pv 5) (fun _ _ => rfl))) (by with_unfolding_all rfl))
          · intro _ _ _ _ _
            exact pv 6
          · intro _
            rfl)))))), ?_⟩
  have lqs : qs.length = rs.length := pr.length
  -- the dict of dicts
  refine ⟨p1, _, rfl, .inl (SqL.of h1), fun J G wk hG D hD => ?_⟩
  have up : ∀ {Hx : Hp} {d : Addr} {o : HO}, H d = none → Same H Hx → Same H (upd Hx d o) := fun n e b o nn => by
    rw [upd_ne (ne_of_none nn n)]
    exact e b o nn
  have at_ : ∀ i x, (ss.map V.str)[i]? = some x → ∃ h : i < ss.length, x = .str ss[i] := fun i x e => by
    rw [List.getElem?_map] at e
    rcases Nat.lt_or_ge i ss.length with hi | hi
    · rw [List.getElem?_eq_getElem hi] at e
      exact ⟨hi, (Option.some.inj e).symm⟩
    · rw [List.getElem?_eq_none hi] at e
      cases e
  refine dc_it wk (fun i Hc => Same H Hc ∧ NbS H Hc D (ss.take i) 0 (nbB [])) ⟨K1.Same.upd hD, [], fun _ => 0, upd_same, Nat.zero_le _, fun s hs => absurd hs (by simp), fun s hs => absurd hs (by simp)⟩ (fun i Hc _ h => hG Hc fun o ho => h.1 _ _ ho) ?_ ?_
  · rintro i x Hc H' hi ⟨f1, kvs, own, f2, f3, f4, f5⟩ ⟨rfl, hx⟩
    obtain ⟨hi', rfl⟩ := at_ i x hx
    refine ⟨rfl, ?_⟩
    unfold tYes
    refine iteT ?_
    refine ⟨_, rfl, fun d hd => ?_⟩
    have dD : d ≠ D := fun z => by rw [z, f2] at hd; cases hd
    have d0 : H d = none := f1.free hd
    have nw : ∀ s ∈ ss.take i, s ≠ ss[i] := fun s hs z => nodup_take_not hN hi' (by rw [← z]; exact hs)
    have dn : ∀ s ∈ ss.take i, own s ≠ d := fun s hs z => by
      obtain ⟨_, _, _, m, a4, _⟩ := f4 s hs
      rw [z, hd] at a4
      cases a4
    refine ⟨kvs, .inr ss[i], rfl, by rw [upd_ne dD.symm]; exact f2, Nat.lt_of_le_of_lt f3 (small1000 (Nat.le_trans (List.length_take_le _ _) (by omega))), up hD (up d0 f1), putK kvs (.inr ss[i]) (.ref d), fun s => if s = ss[i] then d else own s, upd_same, ?_, fun s hs => ?_, fun s hs t ht e => ?_⟩
    · refine Nat.le_trans putK_le ?_
      rw [List.length_take] at f3 ⊢
      omega
    · rcases (mem_take_succ hi').mp hs with hs | rfl
      · obtain ⟨a1, a2, a3, m, a4, a5, a6⟩ := f4 s hs
        have ne : ¬ (Sum.inr s : Key) = .inr ss[i] := fun z => nw s hs (Sum.inr.inj z)
        simp only [if_neg (nw s hs)]
        exact ⟨by rw [valV_put, if_neg ne]; exact a1, a2, a3, m, by rw [upd_ne a3, upd_ne (dn s hs)]; exact a4, a5, a6⟩
      · simp only [if_true]
        exact ⟨by rw [valV_put, if_pos rfl], d0, dD, [], by rw [upd_ne dD, upd_same], Nat.le_refl _, fun t => rfl⟩
    · rcases (mem_take_succ hi').mp hs with hs | rfl <;> rcases (mem_take_succ hi').mp ht with ht | rfl
      · simp only [if_neg (nw s hs), if_neg (nw t ht)] at e
        exact f5 s hs t ht e
      · simp only [if_neg (nw s hs), if_true] at e
        exact absurd e (dn s hs)
      · simp only [if_neg (nw t ht), if_true] at e
        exact absurd e.symm (dn t ht)
      · rfl
  rintro H1 ⟨e1, nb⟩
  have nb : NbS H H1 D ss 0 (nbB []) := by
    rw [List.length_map, List.take_length] at nb
    exact nb
  -- the roads
  refine ⟨p2, _, rfl, .inl (SqL.of (e1 _ _ h2)), fun J G wk hG => ?_⟩
  refine for_it wk (fun i σ Hc => (∃ a b, σ = [some (.ref p1), some (.ref p2), some (.ref D), a, b, none, none]) ∧ Same H Hc ∧ NbS H Hc D ss (2 * i) (nbB (rs.take i))) ⟨⟨_, _, rfl⟩, e1, nb⟩ (fun i σ Hc _ h => hG Hc fun o ho => by
    rw [e1 _ _ h2] at ho
    rw [← Option.some.inj ho]
    exact h.2.1 _ _ h2) ?_ ?_
  · rintro i x σ Hc H' hi ⟨⟨sa, sb, rfl⟩, g1, g2⟩ ⟨rfl, hx⟩
    rw [List.length_map, lqs] at hi
    obtain ⟨t, rfl, ht⟩ := paired_ref pr hi hx
    refine ⟨t, _, rfl, SqT.of (g1 _ _ ht), rfl, _, _, rfl, _, _, rfl, rfl, ?_⟩
    have ee := ends _ (List.getElem_mem hi)
    obtain ⟨d, m, kvs, b1, a1, a2, a3, a4, a5, g3⟩ := g2.put (t := rs[i].2) ee.1
    have dg1 := DGet.k (k := .inr rs[i].1) b1
    rw [a1] at dg1
    have g4 : Same H (upd H' d (.dK (putK m (.inr rs[i].2) (.bl true)))) := up a2 g1
    refine ⟨_, rfl, _, rfl, D, _, rfl, dg1, _, rfl, d, _, rfl, DPut.k (k := .inr rs[i].2) a4 (by show m.length < 2 ^ 24; omega), ?_⟩
    obtain ⟨d', m', kvs', c1, x1, x2, x3, x4, x5, g5⟩ := g3.put (t := rs[i].1) ee.2
    have dg2 := DGet.k (k := .inr rs[i].2) c1
    rw [x1] at dg2
    refine ⟨_, rfl, _, rfl, D, _, rfl, dg2, _, rfl, d', _, rfl, DPut.k (k := .inr rs[i].1) x4 (by show m'.length < 2 ^ 24; omega), ⟨_, _, rfl⟩, up x2 g4, ?_⟩
    rw [nbB_succ hi] at g5
    exact g5
  rintro σ H2 ⟨⟨sa, sb, rfl⟩, g1, g2⟩
  have g2 : NbS H H2 D ss (2 * rs.length) (nbB rs) := by
    rw [List.length_map, lqs, List.take_length] at g2
    exact g2
  -- the dict of lists
  obtain ⟨kvs, own, b1, b2, b3, _⟩ := id g2
  refine ⟨p1, _, rfl, .inl (SqL.of (g1 _ _ h1)), fun J G wk hG D2 hD2 => ?_⟩
  have hD20 : H D2 = none := g1.free hD2
  refine dc_it wk (fun i Hc => Same H2 Hc ∧ ∃ kv, Hc D2 = some (.dK kv) ∧ kv.length ≤ i ∧ ∀ s ∈ ss.take i, ∃ d, valV kv (.inr s) = some (.ref d) ∧ H2 d = none ∧ d ≠ D2 ∧ Hc d = some (.lst ((nbs ss rs s).map V.str))) ⟨K1.Same.upd hD2, [], upd_same, Nat.zero_le _, fun s hs => absurd hs (by simp)⟩ (fun i Hc _ h => hG Hc fun o ho => h.1 _ _ ho) ?_ ?_
  · rintro i x Hc H' hi ⟨f1, kv, f2, f3, f4⟩ ⟨rfl, hx⟩
    obtain ⟨hi', rfl⟩ := at_ i x hx
    refine ⟨rfl, ?_⟩
    unfold tYes
    refine iteT ?_
    refine ⟨_, rfl, ?_⟩
    refine ⟨p1, _, rfl, .inl (SqL.of (f1 _ _ (g1 _ _ h1))), fun J2 G2 wk2 hG2 L hL => ?_⟩
    refine lc_it wk2 (fun j Hd => Same H' Hd ∧ Hd L = some (.lst ((((ss.take j).filter fun t => nbB rs ss[i] t)).map V.str))) ⟨K1.Same.upd hL, upd_same⟩ (fun j Hd _ h => hG2 Hd fun o ho => h.1 _ _ ho) ?_ ?_
    · rintro j y Hd H'' hj ⟨k1, k2⟩ ⟨rfl, hy⟩
      rw [List.length_map] at hj
      obtain ⟨hj', rfl⟩ := at_ j y hy
      refine ⟨rfl, ?_⟩
      obtain ⟨a1, a2, a3, m, a4, a5, a6⟩ := b3 ss[i] (List.getElem_mem hi')
      have dg := DGet.k (k := .inr ss[i]) (k1 _ _ (f1 _ _ b1))
      rw [a1] at dg
      refine ⟨_, rfl, _, rfl, _, rfl, D, _, rfl, dg, own ss[i], _, rfl, DGet.k (k := .inr ss[j]) (k1 _ _ (f1 _ _ a4)), _, rfl, ?_⟩
      have tk : (ss.take (j + 1)).filter (fun t => nbB rs ss[i] t) = (ss.take j).filter (fun t => nbB rs ss[i] t) ++ if nbB rs ss[i] ss[j] = true then [ss[j]] else [] := by
        rw [List.take_succ, List.getElem?_eq_getElem hj', List.filter_append]
        congr 1
        by_cases c : nbB rs ss[i] ss[j] = true
        · simp [c]
        · simp [c]
      have ll : ((ss.take j).filter fun t => nbB rs ss[i] t).length ≤ 1000 := Nat.le_trans (List.length_filter_le _ _) (Nat.le_trans (List.length_take_le _ _) (by omega))
      refine ite2 (fun c => ?_) (fun c => ?_)
      · rw [a6] at c
        refine ⟨_, rfl, _, k2, by rw [List.length_map]; show _ < 2 ^ 24; omega, fun b o n => ?_, ?_⟩
        · rw [upd_ne (ne_of_none n hL)]
          exact k1 b o n
        · rw [upd_same, tk, if_pos c, List.map_append]
          rfl
      · rw [a6] at c
        exact ⟨k1, by rw [tk, if_neg c, List.append_nil]; exact k2⟩
    · rintro Hd ⟨k1, k2⟩
      rw [List.length_map, List.take_length] at k2
      have LD : L ≠ D2 := fun z => by rw [z, f2] at hL; cases hL
      have hL2 : H2 L = none := f1.free hL
      refine ⟨kv, .inr ss[i], rfl, k1 _ _ f2, by show kv.length < 2 ^ 24; rw [List.length_map] at hi; omega, fun b o n => ?_, _, upd_same, Nat.le_trans putK_le (by omega), fun s hs => ?_⟩
      · rw [upd_ne (ne_of_none n hD2)]
        exact k1 b o (f1 b o n)
      · rcases (mem_take_succ hi').mp hs with hs | rfl
        · obtain ⟨d, c1, c2, c3, c4⟩ := f4 s hs
          have ne : ¬ (Sum.inr s : Key) = .inr ss[i] := fun z => nodup_take_not hN hi' (by rw [← Sum.inr.inj z]; exact hs)
          exact ⟨d, by rw [valV_put, if_neg ne]; exact c1, c2, c3, by rw [upd_ne c3]; exact k1 _ _ c4⟩
        · exact ⟨L, by rw [valV_put, if_pos rfl], hL2, LD, by rw [upd_ne LD]; exact k2⟩
  · rintro Hc ⟨f1, kv, f2, f3, f4⟩
    rw [List.length_map] at f3 f4
    rw [List.take_length] at f4
    refine q D2 kv Hc (g1.trans f1) hD20 f2 f3 fun s hs => ?_
    obtain ⟨d, c1, c2, _, c4⟩ := f4 s hs
    exact ⟨d, c1, g1.free c2, c4⟩
end
end K1
end
-- NInit
section
set_option Elab.async false
set_option linter.all false
set_option maxRecDepth 100000
set_option maxHeartbeats 4000000
namespace K1
open PySem PySem.Spec PyProof.Rows L2
/-- the dict of people, item by item -/
def peo (ss : List Str) (ns : List Int) : List (Key × V) := (ss.zip ns).map fun p => (Sum.inr p.1, V.int p.2)
theorem peo_none {s : Str} : ∀ {ss : List Str} {ns : List Int}, s ∉ ss → valV (peo ss ns) (.inr s) = none
  | [], _, _ => rfl
  | _ :: _, [], _ => rfl
  | a :: as, b :: bs, h => by
    have e : ¬ (Sum.inr a : Key) = .inr s := fun z => h (by rw [Sum.inr.inj z]; exact List.mem_cons_self ..)
    show valV ((Sum.inr a, V.int b) :: peo as bs) _ = none
    rw [valV_neg e]
    exact peo_none fun z => h (List.mem_cons_of_mem _ z)
theorem peo_some {s : Str} : ∀ {ss : List Str} {ns : List Int}, ss.length = ns.length → s ∈ ss → ∃ n, valV (peo ss ns) (.inr s) = some (.int n)
  | [], _, _, h => absurd h (by simp)
  | _ :: _, [], l, _ => by cases l
  | a :: as, b :: bs, l, h => by
    by_cases e : (Sum.inr a : Key) = .inr s
    · exact ⟨b, valV_pos (p := (Sum.inr a, V.int b)) e⟩
    · obtain ⟨n, h'⟩ := peo_some (s := s) (ss := as) (ns := bs) (Nat.succ.inj l) ((List.mem_cons.mp h).resolve_left fun z => e (by rw [z]))
      exact ⟨n, (valV_neg (p := (Sum.inr a, V.int b)) e).trans h'⟩
theorem peo_in {s : Str} {ss : List Str} {ns : List Int} (l : ss.length = ns.length) : (valV (peo ss ns) (.inr s)).isSome = decide (s ∈ ss) := by
  by_cases h : s ∈ ss
  · obtain ⟨n, e⟩ := peo_some l h
    rw [e, decide_eq_true h]
    rfl
  · rw [peo_none h, decide_eq_false h]
    rfl
theorem peo_succ {ss : List Str} {ns : List Int} {i : Nat} (hi : i < ss.length) (hj : i < ns.length) : peo (ss.take (i + 1)) ns = peo (ss.take i) ns ++ [(Sum.inr ss[i], V.int ns[i])] := by
  unfold peo
  have e : (ss.take (i + 1)).zip ns = (ss.take i).zip ns ++ [(ss[i], ns[i])] := by
    have a : ∀ (m : Nat) (ss : List Str) (ns : List Int), (ss.take m).zip ns = (ss.zip ns).take m := by
      intro m
      induction m with
      | zero => intro ss ns; simp
      | succ m ih =>
        intro ss ns
        cases ss with
        | nil => simp
        | cons a as => cases ns with
          | nil => simp
          | cons b bs => simp [ih as bs]
    rw [a, a, List.take_succ, List.getElem?_eq_getElem (by rw [List.length_zip]; omega)]
    simp
  rw [e, List.map_append]
  rfl
/-- a Valley: its lists and its dicts -/
structure ValS (C : Addr) (H : Hp) (x l1 l2 l3 d1 d2 d3 : Addr) (qs : List Addr) (bs : Str → Addr) (ss : List Str) (rs : List (Str × Str)) (ns : List Int) : Prop where
  ins : ∃ dx fs, H x = some (.ins C dx fs) ∧ fs.lookup ("_houses" : Str) = some (V.ref l1) ∧ fs.lookup ("_roads" : Str) = some (V.ref l2) ∧ fs.lookup ("_heads" : Str) = some (V.ref l3) ∧ fs.lookup ("_people" : Str) = some (V.ref d1) ∧ fs.lookup ("_places" : Str) = some (V.ref d2) ∧ fs.lookup ("_beside" : Str) = some (V.ref d3) ∧
    ∀ m : Str, m ≠ "_houses" → m ≠ "_roads" → m ≠ "_heads" → m ≠ "_people" → m ≠ "_places" → m ≠ "_beside" → fs.lookup m = none
  h1 : H l1 = some (.lst (ss.map V.str))
  h2 : H l2 = some (.lst (qs.map V.ref))
  pr : Paired (TupP H) qs rs
  h3 : H l3 = some (.lst (ns.map V.int))
  p1 : H d1 = some (.dK (peo ss ns))
  p2 : ∃ kv, H d2 = some (.dT kv) ∧ PlacesAt rs kv ∧ kv.length ≤ 2 * rs.length
  p3 : ∃ kv, H d3 = some (.dK kv) ∧ kv.length ≤ ss.length ∧ ∀ s ∈ ss, valV kv (.inr s) = some (.ref (bs s))
  nb : ∀ s ∈ ss, H (bs s) = some (.lst ((nbs ss rs s).map V.str))
theorem ValS.toI {C : Addr} {H : Hp} {x l1 l2 l3 d1 d2 d3 : Addr} {qs : List Addr} {bs : Str → Addr} {ss : List Str} {rs : List (Str × Str)} {ns : List Int} (v : ValS C H x l1 l2 l3 d1 d2 d3 qs bs ss rs ns) : ValI C H x l1 l2 l3 qs ss rs ns := by
  obtain ⟨dx, fs, a, b1, b2, b3, _, _, _, c⟩ := v.ins
  exact ⟨⟨dx, fs, a, b1, b2, b3, c⟩, v.h1, v.h2, v.pr, v.h3⟩
/-- all its objects are new -/
def NewV (H : Hp) (l1 l2 l3 d1 d2 d3 : Addr) (qs : List Addr) (bs : Str → Addr) (ss : List Str) : Prop := H l1 = none ∧ H l2 = none ∧ H l3 = none ∧ H d1 = none ∧ H d2 = none ∧ H d3 = none ∧ (∀ q ∈ qs, H q = none) ∧ ∀ s ∈ ss, H (bs s) = none
/-- a Valley's __init__, when all is as it should be -/
def spVS (K : PySem.W.Frag) (C : Addr) : Sp := fun vs H Q E => ∃ x h r g dx ss rs ns, vs = [.ref x, h, r, g] ∧ H x = some (.ins C dx []) ∧ HousesOk H h ss ∧ RoadsOk H ss r rs ∧ HeadsOk H ss g ns ∧
  ∀ H' l1 l2 l3 d1 d2 d3 qs bs, Kept x H H' → ValS C H' x l1 l2 l3 d1 d2 d3 qs bs ss rs ns → NewV H l1 l2 l3 d1 d2 d3 qs bs ss → Q .non H'
theorem choose_at {ss : List Str} {R : Str → Addr → Prop} (h : ∀ s ∈ ss, ∃ d, R s d) : ∃ f : Str → Addr, ∀ s ∈ ss, R s (f s) := by
  classical
  refine ⟨fun s => if h' : s ∈ ss then (h s h').choose else 0, fun s hs => ?_⟩
  simp only [dif_pos hs]
  exact (h s hs).choose_spec
section
variable {P : Program} {w : World} {K : PySem.W.Frag} {mg : Str → Option Value} {base : Heap} {CF C CH CR CD : Addr}
theorem ok_VS {f fN fR fD fB fG : Addr} {fd nd_ rd_ dd_ bd gd : FuncData} (F : Fun K "__init__" "Valley.__init__" sVI f fd) (B : Bl mg) (me : mg "enumerate" = none) (T : VcT K C)
    (GN : FnOk P w K mg base (L2.CX P w) 4 fN nd_ ["houses"] (spNH K CH)) (kN : PySem.W.keepIn K (.ref fN) = true) (bN : Binds K nd_ ["houses"] []) (mN : mg "_need_houses" = some (.ref fN))
    (GR : FnOk P w K mg base (L2.CX P w) 4 fR rd_ ["houses", "roads"] (spNR K CR)) (kR : PySem.W.keepIn K (.ref fR) = true) (bR : Binds K rd_ ["houses", "roads"] []) (mR : mg "_need_roads" = some (.ref fR))
    (GD : FnOk P w K mg base (L2.CX P w) 4 fD dd_ ["houses", "heads"] (spND K CD)) (kD : PySem.W.keepIn K (.ref fD) = true) (bD : Binds K dd_ ["houses", "heads"] []) (mD : mg "_need_heads" = some (.ref fD))
    (FB : Fun K "_both_ways" "_both_ways" sBW fB bd) (bB : Binds K bd ["roads"] []) (mB : mg "_both_ways" = some (.ref fB))
    (FG : Fun K "_neighbours" "_neighbours" sNB fG gd) (bG : Binds K gd ["houses", "roads"] []) (mG : mg "_neighbours" = some (.ref fG)) :
    FnOk P w K mg base (L2.CX P w) 5 f fd ["self", "houses", "roads", "heads"] (spVS K C) := by
  have GB := ok_BW2 (P := P) (w := w) (base := base) FB me
  have GG := ok_NB2 (P := P) (w := w) (mg := mg) (base := base) FG
  refine F.okX scVI (fun vs H Q E h => ?_) (fun cdv A outer s H vs Q E hr h => ?_)
  · obtain ⟨x, hh, r, g, dx, ss, rs, ns, rfl, _⟩ := h
    rfl
  obtain ⟨x, hh, r, g, dx, ss, rs, ns, rfl, hx, ⟨sh, hne, hl, good⟩, ⟨vs, sr, pr, ends, forest, hrl⟩, ⟨sg, hn1, hnl⟩, q⟩ := h
  have nd := scVI.nd
  have hu := hu_of hr
  have hr1 : Room 1 _ := hr.mono (by decide)
  refine ⟨_, pss_cons (by exact (ps_expr (pe_call GN hr rfl mN kN bN .nil (passes_call (takes_of rfl rfl rfl rfl) (fun _ _ _ _ h => h)) (pa_cons (pv 1) pa_nil))))
    (pss_cons (by exact (ps_expr (pe_call GR hr rfl mR kR bR .nil (passes_call (takes_of rfl rfl rfl rfl) (fun _ _ _ _ h => h)) (pa_cons (pv 1) (pa_cons (pv 2) pa_nil)))))
    (pss_cons (by exact (ps_expr (pe_call GD hr rfl mD kD bD .nil (passes_call (takes_of rfl rfl rfl rfl) (fun _ _ _ _ h => h)) (pa_cons (pv 1) (pa_cons (pv 3) pa_nil)))))
    (pss_cons (by exact (ps_fld (pv 0) (pe_callTy call_list_of rfl B.list PyProof.Rows.boot_list (pa_cons (pv 1) pa_nil)) rfl))
    (pss_cons (by exact (ps_fld (pv 0) (pe_lc (own := [("one", 4), ("other", 5)]) (g := gSeq K 2 (gCons (gName 4) (gCons (gName 5) gNil))) (tt := tYes) (te := tTup (tCons (tVar 4) (tCons (tVar 5) tNil))) rfl nd (by exact pi_seqV 2 (pv 2))
        (by exact blkOk_by (N := ["self", "houses", "roads", "heads", "one", "other", "house", "index"]) (sc := defScope sVI) (by decide +kernel)) (fun _ _ _ _ _ => by exact pg_seq rfl (pgs_cons (pg_name (i := 4) nd rfl (.inl rfl)) (pgs_cons (pg_name (i := 5) nd rfl (.inl rfl)) pgs_nil)))
        (fun _ _ _ _ _ => pts_nil) (fun _ _ _ _ _ => by exact pe_tup (pa_cons (pv 4) (pa_cons (pv 5) pa_nil)))) rfl))
    (pss_cons (by exact (ps_fld (pv 0) (pe_callTy call_list_of rfl B.list PyProof.Rows.boot_list (pa_cons (pv 3) pa_nil)) rfl))
    (pss_cons (by exact (ps_fld (pv 0) (pe_dc (own := [("house", 6), ("index", 7)]) (g := gTup K 2 (gCons (gName 7) (gCons (gName 6) gNil))) (tt := tYes) (tk := tVar 6) (tv := tOp (rIx K) (tVar 3) (tVar 7)) rfl nd (by exact pi_enumV 1 rfl me (pv 1))
        (by exact blkOk_by (N := ["self", "houses", "roads", "heads", "one", "other", "house", "index"]) (sc := defScope sVI) (by decide +kernel)) (fun _ _ _ _ _ => by exact pg_tup rfl (pgs_cons (pg_name (i := 7) nd rfl (.inl rfl)) (pgs_cons (pg_name (i := 6) nd rfl (.inl rfl)) pgs_nil)))
        (fun _ _ _ _ _ => pts_nil) (fun _ _ _ _ _ => by exact pv 6) (fun _ _ _ _ _ => by exact pe_ix ix_seq (pv 3) (pv 7) (fun _ _ => rfl))) rfl))
    (pss_cons (by exact (ps_fld (pv 0) (pe_call GB hr1 rfl mB FB.kp bB .nil pass0 (pa_cons (pe_fld (pv 0) rfl) pa_nil)) rfl))
    (pss_one (by exact (ps_fld (pv 0) (pe_call GG hr1 rfl mG FG.kp bG .nil pass0 (pa_cons (pe_fld (pv 0) rfl) (pa_cons (pe_fld (pv 0) rfl) pa_nil))) rfl)))))))))), ?_⟩
  refine ⟨_, rfl, hh, rfl, .inr (.inr (.inl ⟨ss, sh, hne, hl, good, fun H1 e1 => ?_⟩))⟩
  refine ⟨_, rfl, _, rfl, hh, r, ss, rfl, sh.ext e1, good, hl, .inr ⟨vs, rs, [], by rw [List.append_nil]; exact sr.ext e1, paired_imp (fun _ _ q => SeqV.ext q e1) pr, ends, forest, .inl ⟨rfl, hrl, fun H2 e2' => ?_⟩⟩⟩
  have e2 := e1.trans e2'
  refine ⟨_, rfl, _, rfl, hh, g, ss.map V.str, rfl, sh.ext e2, .inr (.inl ⟨ns, sg.ext e2, hn1, by rw [List.length_map]; exact hnl, fun H3 e3' => ?_⟩)⟩
  have e3 := e2.trans e3'
  have x3 := e3 _ _ hx
  have k3 : Kept x H H3 := Kept.same e3
  -- list(houses)
  obtain ⟨p1, rfl, q1⟩ := (sh.ext e3).sq (K := K)
  refine ⟨_, rfl, p1, _, rfl, q1, fun l1 hl1 => ?_⟩
  have n1 : l1 ≠ x := fun z => by rw [z, x3] at hl1; cases hl1
  have l1H : H l1 = none := e3.free hl1
  refine ⟨_, rfl, x, C, dx, [], rfl, (by rw [upd_ne n1.symm]; exact x3), T.cl, T.n1, (by decide), ?_⟩
  have k4 : Kept x H3 (upd (upd H3 l1 (.lst (ss.map V.str))) x (.ins C dx (putF "_houses" (.ref l1) []))) := (Kept.new hl1).trans Kept.upd
  have f1 : upd (upd H3 l1 (.lst (ss.map V.str))) x (.ins C dx (putF "_houses" (.ref l1) [])) l1 = some (.lst (ss.map V.str)) := by rw [upd_ne n1, upd_same]
  have x4 : upd (upd H3 l1 (.lst (ss.map V.str))) x (.ins C dx (putF "_houses" (.ref l1) [])) x = some (.ins C dx (putF "_houses" (.ref l1) [])) := upd_same
  generalize upd (upd H3 l1 (.lst (ss.map V.str))) x (.ins C dx (putF "_houses" (.ref l1) [])) = H4 at k4 f1 x4 ⊢
  have k04 := k3.trans k4
  have fr : ∀ {Hz : Hp} {l : Addr}, Kept x H Hz → Hz l = none → l ≠ x → H l = none := fun {Hz l} k n ne => by
    cases e : H l with
    | none => rfl
    | some o => rw [k _ _ ne e] at n; cases n
  -- the roads' pairs
  obtain ⟨p2, rfl, q2⟩ := sr.kept hx k04
  have sq2 : SqA K H4 p2 vs := q2.imp (fun h => SqL.of h) (fun h => SqT.of h)
  refine ⟨p2, _, rfl, sq2, fun J G wk hG l2 hl2 => ?_⟩
  have n2 : l2 ≠ x := fun z => by rw [z, x4] at hl2; cases hl2
  have lvs : vs.length = rs.length := pr.length
  refine lc_it wk (fun i Hc => Same H4 Hc ∧ ∃ qs, Hc l2 = some (.lst (qs.map V.ref)) ∧ Paired (TupP Hc) qs (rs.take i) ∧ (∀ z ∈ qs, H4 z = none ∧ z ≠ l2)) ⟨K1.Same.upd hl2, [], upd_same, .nil, fun z hz => absurd hz (by simp)⟩ (fun i Hc _ h => hG Hc fun o ho => h.1 _ _ ho) ?_ ?_
  · rintro i y Hc H' hi ⟨a1, qs, a2, a3, a4⟩ ⟨rfl, hy⟩
    rw [lvs] at hi
    obtain ⟨y', ey, py⟩ := paired_get (PairV.kept pr hx k04) hi
    have : y = y' := Option.some.inj (hy.symm.trans ey)
    subst this
    obtain ⟨py1, rfl, py2⟩ := SeqV.ext py a1
    refine ⟨py1, _, rfl, py2.imp (fun h => SqL.of h) (fun h => SqT.of h), rfl, _, _, rfl, _, _, rfl, rfl, rfl, ?_⟩
    unfold tYes
    refine iteT ?_
    refine ⟨_, rfl, _, rfl, (by show 2 ≤ sizeLine; decide), fun b hb => ?_⟩
    have bl : b ≠ l2 := fun z => by rw [z, a2] at hb; cases hb
    have lq : qs.length ≤ rs.length := by rw [a3.length, List.length_take]; omega
    have sb := K1.Same.upd (H := H') (p := b) (o := .tup [.str rs[i].1, .str rs[i].2]) hb
    refine ⟨qs.map V.ref, by rw [upd_ne bl.symm]; exact a2, by rw [List.length_map]; exact small1000 (by omega), ?_, qs ++ [b], by rw [upd_same, List.map_append]; rfl, ?_, fun z hz => ?_⟩
    · intro c o n
      rw [upd_ne (ne_of_none n hl2)]
      exact sb _ _ (a1 _ _ n)
    · have up2 : ∀ z o, z ≠ l2 → upd H' b (.tup [.str rs[i].1, .str rs[i].2]) z = some o → upd (upd H' b (.tup [.str rs[i].1, .str rs[i].2])) l2 (.lst (qs.map V.ref ++ [.ref b])) z = some o := fun z o n e => by rw [upd_ne n]; exact e
      rw [List.take_add_one, List.getElem?_eq_getElem hi]
      have pz : ∀ {as : List Addr} {bs : List (Str × Str)}, Paired (TupP H') as bs → (∀ z ∈ as, z ≠ l2) → Paired (TupP (upd (upd H' b (.tup [.str rs[i].1, .str rs[i].2])) l2 (.lst (qs.map V.ref ++ [.ref b])))) (as ++ [b]) (bs ++ [rs[i]]) := by
        intro as bs h
        induction h with
        | nil => intro _; exact .cons (up2 _ _ bl upd_same) .nil
        | cons f1 f2 ih =>
          intro nz
          exact .cons (up2 _ _ (nz _ (List.mem_cons_self ..)) (sb _ _ f1)) (ih fun z hz => nz z (List.mem_cons_of_mem _ hz))
      exact pz a3 fun z hz => (a4 z hz).2
    · rcases List.mem_append.mp hz with hz | hz
      · exact a4 z hz
      · rw [List.mem_singleton.mp hz]
        exact ⟨a1.free hb, bl⟩
  rintro H5 ⟨e5, qs, a2, a3, a4⟩
  rw [lvs, List.take_length] at a3
  have x5 := e5 _ _ x4
  refine ⟨_, rfl, x, C, dx, _, rfl, x5, T.cl, T.n2, (Nat.lt_of_le_of_lt (length_putF _ _ _) (by decide)), ?_⟩
  have k5 : Kept x H (upd H5 x (.ins C dx (putF "_roads" (.ref l2) (putF "_houses" (.ref l1) [])))) := (k04.trans (Kept.same e5)).trans Kept.upd
  have up5 : ∀ z o, z ≠ x → H5 z = some o → upd H5 x (.ins C dx (putF "_roads" (.ref l2) (putF "_houses" (.ref l1) []))) z = some o := fun z o n e => by rw [upd_ne n]; exact e
  have g1 := up5 _ _ n1 (e5 _ _ f1)
  have g2 := up5 _ _ n2 a2
  have nq : ∀ z ∈ qs, z ≠ x := fun z hz e => by rw [e] at hz; rw [(a4 x hz).1] at x4; cases x4
  have pq : ∀ {Hz : Hp}, Kept x H5 Hz → Paired (TupP Hz) qs rs := fun {Hz} k => by
    have : ∀ {as : List Addr} {bs : List (Str × Str)}, Paired (TupP H5) as bs → (∀ z ∈ as, z ≠ x) → Paired (TupP Hz) as bs := by
      intro as bs h
      induction h with
      | nil => intro _; exact .nil
      | cons f1 f2 ih => intro nz; exact .cons (k _ _ (nz _ (List.mem_cons_self ..)) f1) (ih fun z hz => nz z (List.mem_cons_of_mem _ hz))
    exact this a3 nq
  have k56 : Kept x H5 (upd H5 x (.ins C dx (putF "_roads" (.ref l2) (putF "_houses" (.ref l1) [])))) := Kept.upd
  have x6 : upd H5 x (.ins C dx (putF "_roads" (.ref l2) (putF "_houses" (.ref l1) []))) x = some (.ins C dx (putF "_roads" (.ref l2) (putF "_houses" (.ref l1) []))) := upd_same
  generalize upd H5 x (.ins C dx (putF "_roads" (.ref l2) (putF "_houses" (.ref l1) []))) = H6 at k5 g1 g2 k56 x6 ⊢
  clear up5
  -- list(heads)
  obtain ⟨p3, rfl, q3⟩ := (sg.kept hx k5).sq (K := K)
  refine ⟨_, rfl, p3, _, rfl, q3, fun l3 hl3 => ?_⟩
  have n3 : l3 ≠ x := fun z => by rw [z, x6] at hl3; cases hl3
  refine ⟨_, rfl, x, C, dx, _, rfl, (by rw [upd_ne n3.symm]; exact x6), T.cl, T.n3, (Nat.lt_of_le_of_lt (Nat.le_trans (length_putF _ _ _) (Nat.succ_le_succ (length_putF _ _ _))) (by decide)), ?_⟩
  have k67 : Kept x H6 (upd (upd H6 l3 (.lst (ns.map V.int))) x (.ins C dx (putF "_heads" (.ref l3) (putF "_roads" (.ref l2) (putF "_houses" (.ref l1) []))))) := (Kept.new hl3).trans Kept.upd
  have g3 : upd (upd H6 l3 (.lst (ns.map V.int))) x (.ins C dx (putF "_heads" (.ref l3) (putF "_roads" (.ref l2) (putF "_houses" (.ref l1) [])))) l3 = some (.lst (ns.map V.int)) := by rw [upd_ne n3, upd_same]
  have x7 : upd (upd H6 l3 (.lst (ns.map V.int))) x (.ins C dx (putF "_heads" (.ref l3) (putF "_roads" (.ref l2) (putF "_houses" (.ref l1) [])))) x = some (.ins C dx (putF "_heads" (.ref l3) (putF "_roads" (.ref l2) (putF "_houses" (.ref l1) [])))) := upd_same
  have l3H : H l3 = none := fr k5 hl3 n3
  generalize upd (upd H6 l3 (.lst (ns.map V.int))) x (.ins C dx (putF "_heads" (.ref l3) (putF "_roads" (.ref l2) (putF "_houses" (.ref l1) [])))) = H7 at k67 g3 x7 ⊢
  have k07 := k5.trans k67
  -- the people
  obtain ⟨p1', e1', q1'⟩ := sh.kept hx k07
  cases e1'
  obtain ⟨p3', e3'', q3'⟩ := sg.kept hx k07
  cases e3''
  have sq7 : SqA K H7 p1 (ss.map V.str) := q1'.imp (fun h => SqL.of h) (fun h => SqT.of h)
  refine ⟨p1, _, rfl, sq7, fun J G wk hG D hD => ?_⟩
  have nD : D ≠ x := fun z => by rw [z, x7] at hD; cases hD
  refine dc_it wk (fun i Hc => Same H7 Hc ∧ Hc D = some (.dK (peo (ss.take i) ns))) ⟨K1.Same.upd hD, upd_same⟩ (fun i Hc _ h => hG Hc fun o ho => h.1 _ _ ho) ?_ ?_
  · rintro i y Hc H' hi ⟨b1, b2⟩ ⟨Tp, x1, x2, rfl, hT, rfl, ex1, ex2⟩
    rw [List.length_map] at hi
    obtain rfl : x1 = .int (i : Nat) := (Option.some.inj ex1).symm
    have ex2 : (ss.map V.str)[i]? = some x2 := ex2
    rw [List.getElem?_map, List.getElem?_eq_getElem hi] at ex2
    obtain rfl : x2 = .str ss[i] := (Option.some.inj ex2).symm
    have hT2 := K1.Same.upd (H := Hc) (p := Tp) (o := .tup [.int (i : Nat), .str ss[i]]) hT
    refine ⟨Tp, _, rfl, SqT.of upd_same, rfl, _, _, rfl, _, _, rfl, rfl, rfl, ?_⟩
    unfold tYes
    refine iteT ?_
    have hi2 : i < ns.length := by omega
    have sv : SeqV (upd Hc Tp (.tup [.int (i : Nat), .str ss[i]])) (.ref p3) (ns.map V.int) := SeqV.ext (SeqV.ext ⟨p3, rfl, q3'⟩ b1) hT2
    refine ⟨_, rfl, _, rfl, _, rfl, ixA sv (atI_nat (j := i) (v := .int ns[i]) (by rw [List.getElem?_map, List.getElem?_eq_getElem hi2]; rfl)) ?_⟩
    have pl : (peo (ss.take i) ns).length ≤ 1000 := by
      unfold peo
      rw [List.length_map, List.length_zip, List.length_take]
      omega
    refine ⟨_, .inr ss[i], rfl, hT2 _ _ b2, small1000 pl, fun c o n => ?_, ?_⟩
    · rw [upd_ne (ne_of_none n hD)]
      exact hT2 _ _ (b1 _ _ n)
    · rw [upd_same, putK_new _ (peo_none fun z => nodup_take_not good.1 hi z), peo_succ hi hi2]
  rintro H8 ⟨e8, pe8⟩
  rw [List.length_map, List.take_length] at pe8
  have x8 := e8 _ _ x7
  refine ⟨_, rfl, x, C, dx, _, rfl, x8, T.cl, T.n4, (Nat.lt_of_le_of_lt (Nat.le_trans (length_putF _ _ _) (Nat.succ_le_succ (Nat.le_trans (length_putF _ _ _) (Nat.succ_le_succ (length_putF _ _ _))))) (by decide)), ?_⟩
  have k79 : Kept x H7 (upd H8 x (.ins C dx (putF "_people" (.ref D) (putF "_heads" (.ref l3) (putF "_roads" (.ref l2) (putF "_houses" (.ref l1) [])))))) := (Kept.same e8).trans Kept.upd
  have x9 : upd H8 x (.ins C dx (putF "_people" (.ref D) (putF "_heads" (.ref l3) (putF "_roads" (.ref l2) (putF "_houses" (.ref l1) []))))) x = some (.ins C dx (putF "_people" (.ref D) (putF "_heads" (.ref l3) (putF "_roads" (.ref l2) (putF "_houses" (.ref l1) []))))) := upd_same
  have pe9 : upd H8 x (.ins C dx (putF "_people" (.ref D) (putF "_heads" (.ref l3) (putF "_roads" (.ref l2) (putF "_houses" (.ref l1) []))))) D = some (.dK (peo ss ns)) := by rw [upd_ne nD]; exact pe8
  generalize upd H8 x (.ins C dx (putF "_people" (.ref D) (putF "_heads" (.ref l3) (putF "_roads" (.ref l2) (putF "_houses" (.ref l1) []))))) = H9 at k79 x9 pe9 ⊢
  have k69 := k67.trans k79
  have k59 := k56.trans k69
  have o2 := k69 _ _ n2 g2
  have p9 := pq k59
  have lk2 : (putF "_people" (V.ref D) (putF "_heads" (.ref l3) (putF "_roads" (.ref l2) (putF "_houses" (.ref l1) [])))).lookup ("_roads" : Str) = some (.ref l2) := by
    rw [lookup_putF, if_neg (by decide +kernel), lookup_putF, if_neg (by decide +kernel), lookup_putF, if_pos rfl]
  refine ⟨_, rfl, x, C, dx, _, _, rfl, x9, T.cl, T.n2, lk2, l2, qs, rs, rfl, o2, p9, forest, by omega, fun r1 kv1 H10 e10 nr1 hr1' pl1 ll1 => ?_⟩
  have x10 := e10 _ _ x9
  refine ⟨_, rfl, x, C, dx, _, rfl, x10, T.cl, T.n5, (Nat.lt_of_le_of_lt (Nat.le_trans (length_putF _ _ _) (Nat.succ_le_succ (Nat.le_trans (length_putF _ _ _) (Nat.succ_le_succ (Nat.le_trans (length_putF _ _ _) (Nat.succ_le_succ (length_putF _ _ _))))))) (by decide)), ?_⟩
  have k911 : Kept x H9 (upd H10 x (.ins C dx (putF "_places" (.ref r1) (putF "_people" (.ref D) (putF "_heads" (.ref l3) (putF "_roads" (.ref l2) (putF "_houses" (.ref l1) []))))))) := (Kept.same e10).trans Kept.upd
  have x11 : upd H10 x (.ins C dx (putF "_places" (.ref r1) (putF "_people" (.ref D) (putF "_heads" (.ref l3) (putF "_roads" (.ref l2) (putF "_houses" (.ref l1) [])))))) x = some (.ins C dx (putF "_places" (.ref r1) (putF "_people" (.ref D) (putF "_heads" (.ref l3) (putF "_roads" (.ref l2) (putF "_houses" (.ref l1) [])))))) := upd_same
  have pl11 : upd H10 x (.ins C dx (putF "_places" (.ref r1) (putF "_people" (.ref D) (putF "_heads" (.ref l3) (putF "_roads" (.ref l2) (putF "_houses" (.ref l1) [])))))) r1 = some (.dT kv1) := by rw [upd_ne fun z => by rw [z, x9] at nr1; cases nr1]; exact hr1'
  generalize upd H10 x (.ins C dx (putF "_places" (.ref r1) (putF "_people" (.ref D) (putF "_heads" (.ref l3) (putF "_roads" (.ref l2) (putF "_houses" (.ref l1) [])))))) = H11 at k911 x11 pl11 ⊢
  have k6_11 := k69.trans k911
  have k5_11 := k56.trans k6_11
  have lk1 : (putF "_places" (V.ref r1) (putF "_people" (V.ref D) (putF "_heads" (.ref l3) (putF "_roads" (.ref l2) (putF "_houses" (.ref l1) []))))).lookup ("_houses" : Str) = some (.ref l1) := by
    rw [lookup_putF, if_neg (by decide +kernel), lookup_putF, if_neg (by decide +kernel), lookup_putF, if_neg (by decide +kernel), lookup_putF, if_neg (by decide +kernel), lookup_putF, if_pos rfl]
  have lk2' : (putF "_places" (V.ref r1) (putF "_people" (V.ref D) (putF "_heads" (.ref l3) (putF "_roads" (.ref l2) (putF "_houses" (.ref l1) []))))).lookup ("_roads" : Str) = some (.ref l2) := by
    rw [lookup_putF, if_neg (by decide +kernel)]
    exact lk2
  refine ⟨_, rfl, x, C, dx, _, _, rfl, x11, T.cl, T.n1, lk1, _, rfl, x, C, dx, _, _, rfl, x11, T.cl, T.n2, lk2', l1, l2, ss, qs, rs, rfl, k6_11 _ _ n1 g1, hl, good.1, k6_11 _ _ n2 g2, pq k5_11, ends, by omega, fun r2 kv2 H12 e12 nr2 hr2' ll2 nb2 => ?_⟩
  have x12 := e12 _ _ x11
  refine ⟨_, rfl, x, C, dx, _, rfl, x12, T.cl, T.n6, (Nat.lt_of_le_of_lt (Nat.le_trans (length_putF _ _ _) (Nat.succ_le_succ (Nat.le_trans (length_putF _ _ _) (Nat.succ_le_succ (Nat.le_trans (length_putF _ _ _) (Nat.succ_le_succ (Nat.le_trans (length_putF _ _ _) (Nat.succ_le_succ (length_putF _ _ _))))))))) (by decide)), ?_⟩
  have k11_13 : Kept x H11 (upd H12 x (.ins C dx (putF "_beside" (.ref r2) (putF "_places" (.ref r1) (putF "_people" (.ref D) (putF "_heads" (.ref l3) (putF "_roads" (.ref l2) (putF "_houses" (.ref l1) [])))))))) := (Kept.same e12).trans Kept.upd
  have k6_13 := k6_11.trans k11_13
  obtain ⟨bs, hbs⟩ := choose_at nb2
  have d1x : D ≠ x := nD
  have d2x : r1 ≠ x := fun z => by rw [z, x9] at nr1; cases nr1
  have d3x : r2 ≠ x := fun z => by rw [z, x11] at nr2; cases nr2
  have bsx : ∀ s ∈ ss, bs s ≠ x := fun s hs z => by
    have := (hbs s hs).2.1
    rw [z, x11] at this
    cases this
  have k0_11 : Kept x H H11 := k5.trans k6_11
  refine q _ l1 l2 l3 D r1 r2 qs bs (k5.trans k6_13) ⟨⟨dx, _, upd_same, ?_, ?_, ?_, ?_, ?_, ?_, fun m m1 m2 m3 m4 m5 m6 => ?_⟩, k6_13 _ _ n1 g1, k6_13 _ _ n2 g2, pq (k56.trans k6_13), (k79.trans (k911.trans k11_13)) _ _ n3 g3, ?_, ⟨kv1, ?_, pl1, ll1⟩, ⟨kv2, ?_, ll2, fun s hs => (hbs s hs).1⟩, fun s hs => ?_⟩
    ⟨l1H, fr k04 hl2 n2, l3H, fr k07 hD nD, fr (k5.trans k69) nr1 d2x, fr k0_11 nr2 d3x, fun z hz => fr k04 (a4 z hz).1 (nq z hz), fun s hs => fr k0_11 (hbs s hs).2.1 (bsx s hs)⟩
  · rw [lookup_putF, if_neg (by decide +kernel)]
    exact lk1
  · rw [lookup_putF, if_neg (by decide +kernel)]
    exact lk2'
  · rw [lookup_putF, if_neg (by decide +kernel), lookup_putF, if_neg (by decide +kernel), lookup_putF, if_neg (by decide +kernel), lookup_putF, if_pos rfl]
  · rw [lookup_putF, if_neg (by decide +kernel), lookup_putF, if_neg (by decide +kernel), lookup_putF, if_pos rfl]
  · rw [lookup_putF, if_neg (by decide +kernel), lookup_putF, if_pos rfl]
  · rw [lookup_putF, if_pos rfl]
  · rw [lookup_putF, if_neg m6, lookup_putF, if_neg m5, lookup_putF, if_neg m4, lookup_putF, if_neg m3, lookup_putF, if_neg m2, lookup_putF, if_neg m1]
    rfl
  · exact (k911.trans k11_13) _ _ d1x pe9
  · exact k11_13 _ _ d2x pl11
  · rw [upd_ne d3x]
    exact hr2'
  · rw [upd_ne (bsx s hs)]
    exact (hbs s hs).2.2
end
end K1
end
-- KFun
section
set_option Elab.async false
set_option linter.all false
set_option maxRecDepth 100000
set_option maxHeartbeats 4000000
/-! isinstance of a def -/
namespace K1F
open PySem
theorem slotGa : Slot "function" "__getattribute__" "object.__getattribute__" :=
  .of (owner := "object") (n := "__getattribute__") (by rw [typeLookup_type, builtinLookup_eq_fast]; kernel_rfl) (by decide +kernel) (by decide +kernel) (by decide +kernel)
    (by first | exact .inl (by decide +kernel) | exact .inr (by decide +kernel)) (by rw [isSubtype_type]; kernel_rfl)
theorem entryGa : entryFor table "object.__getattribute__" = some Builtin.«object.__getattribute__» := entryFor_of_tree (by kernel_rfl)
theorem lkClass : typeLookup (.type "function") "__class__" = pure (some (.builtin "object.__class__")) := by rw [typeLookup_type, builtinLookup_eq_fast]; kernel_rfl
theorem ownClass : isSubtype (.type "function") (.type (".".intercalate ("object.__class__".cutAt '.').dropLast)) = pure true := by
  rw [F.owner_object_class, isSubtype_type]; kernel_rfl
theorem argsGa (a b : Value) : argsOk "object.__getattribute__" ⟨[a, b], []⟩ := by
  unfold argsOk; kernel_rfl
section
variable {prog : Program} {w : World} {A : Around} {E : Value → Shared → Prop} {h : Heap} {g : Array GenState} {d : Drawn} {t : Nat} {os : OsState} {a : Addr} {o : Obj}
theorem fnGet {R : Result → Shared → Prop} (hx : h.get? a = some o) (hc : o.cls = .type "function") (hq : R (.ok (.ret (.type "function"))) ⟨h, g, d, t, os⟩) :
    codeAny (model prog w) A (.call (.builtin "getset_descriptor.__get__") ⟨[.builtin "object.__class__", .ref a, .type "function"], []⟩) R ⟨h, g, d, t, os⟩ := by
  have z1 : (⟨h, g, d, t, os⟩ : Shared).TypeIs (.ref a) "function" := ⟨_, hx, hc⟩
  have z2 : (⟨h, g, d, t, os⟩ : Shared).TypeIs (.builtin "object.__class__") "getset_descriptor" := F.typeOf_object_class
  have z3 := ownClass
  refine codeAny_call_builtin F.slot_gs_get.plain F.entry_gs_get (F.slot_gs_get.check _ _ _ _ _ _ _ _ z2 (F.args_gs_get _ _ _) ?_)
  repeat (any_goals (first | assumption | wp_step))
  refine ⟨Code.quiet_builtin _ (by decide +kernel), codeAny_builtin F.entry_object_class ?_⟩
  repeat (any_goals (first | assumption | wp_step))
theorem fnEntry {tk : Tok} {Q : Fin → Shared → Prop} (hx : h.get? a = some o) (hc : o.cls = .type "function") (hq : Q (.done (.ret (.type "function"))) ⟨h, g, d, t, os⟩) :
    wpAny (model prog w) A (Builtin.«object.__getattribute__» ⟨[.ref a, .str "__class__" tk], []⟩) Q E ⟨h, g, d, t, os⟩ := by
  have z1 : (⟨h, g, d, t, os⟩ : Shared).TypeIs (.ref a) "function" := ⟨_, hx, hc⟩
  have z2 : (⟨h, g, d, t, os⟩ : Shared).TypeIs (.builtin "object.__class__") "getset_descriptor" := F.typeOf_object_class
  have z3 := lkClass
  have z4 := F.typeOf_object_class
  have z5 := F.slot_gs_get.lookup
  have z6 := F.slot_gs_set.lookup
  repeat (any_goals (first | assumption | wp_step))
  refine fnGet hx hc ?_
  repeat (any_goals (first | assumption | wp_step))
theorem fnCall {tk : Tok} {R : Result → Shared → Prop} (hx : h.get? a = some o) (hc : o.cls = .type "function") (hq : R (.ok (.ret (.type "function"))) ⟨h, g, d, t, os⟩) :
    codeAny (model prog w) A (.call (.builtin "object.__getattribute__") ⟨[.ref a, .str "__class__" tk], []⟩) R ⟨h, g, d, t, os⟩ :=
  codeAny_call_builtin slotGa.plain entryGa (slotGa.check _ _ _ _ _ _ _ _ (show (⟨h, g, d, t, os⟩ : Shared).TypeIs (.ref a) "function" from ⟨_, hx, hc⟩) (argsGa _ _) (fnEntry hx hc hq))
theorem fnBy {tk : Tok} {Q : Value → Shared → Prop} (hx : h.get? a = some o) (hc : o.cls = .type "function") (hq : Q (.type "function") ⟨h, g, d, t, os⟩) : wpAny (model prog w) A (getAttrBy (.ref a) (.str "__class__" tk) false) Q E ⟨h, g, d, t, os⟩ := by
  have z1 : (⟨h, g, d, t, os⟩ : Shared).TypeIs (.ref a) "function" := ⟨_, hx, hc⟩
  have z2 := slotGa.lookup
  have z3 := slotGa.bind (.ref a)
  repeat (any_goals (first | assumption | wp_step))
  refine fnCall hx hc ?_
  repeat (any_goals (first | assumption | wp_step))
theorem fnAttr {Q : Option Value → Shared → Prop} (hx : h.get? a = some o) (hc : o.cls = .type "function") (hq : Q (some (.type "function")) ⟨h, g, d, t + 1, os⟩) : wpAny (model prog w) A (getAttr? (.ref a) "__class__") Q E ⟨h, g, d, t, os⟩ := by
  unfold getAttr? getAttrBy?
  repeat (any_goals (first | assumption | with_reducible apply fnBy hx hc | wp_step))
end
theorem kitFn {K : PySem.W.Frag} {a : Addr} : PySem.W.KitX K (.ref a) (.type "function") (PySem.W.KitAt a "function") :=
  PySem.W.kitx_of PySem.W.kitAt_ty (fun {_ _ _ _ _ s} p k => by obtain ⟨h, g, d, t, os⟩ := s; obtain ⟨o, h1, h2⟩ := p; exact fnAttr h1 h2 k)
end K1F
end
-- KOwn
section
set_option Elab.async false
set_option linter.all false
set_option maxRecDepth 100000
set_option maxHeartbeats 4000000
/-! == and != by an own __eq__, whatever it says and whatever stands on the right; isinstance of a def -/
namespace K1
open PySem PySem.Spec PyProof.Rows L2
/-- as TyX, defs too -/
def TyF (K : PySem.W.Frag) (H : Hp) (x : V) (t : Value) : Prop := TyX K H x t ∨ ∃ f o, x = .ref f ∧ K.lookup f = some o ∧ o.cls = .type "function" ∧ t = .type "function"
section
variable {X : Cx} {pins : List (Addr × Obj)} {σ : L2.St} {H : Hp} {s : Shared}
theorem kit_ofF {x : V} {u t : Value} (I : Inv X pins σ H s) (rx : RelV x u) (ty : TyF X.K H x t) : ∃ P : Heap → Prop, PySem.W.KitX X.K u t P ∧ P s.heap ∧ u ≠ .builtin "__main__.__loader__#opaque" := by
  rcases ty with ty | ⟨f, o, rfl, hl, hc, rfl⟩
  · exact kit_of I rx ty
  · cases (show u = Value.ref f from rx)
    exact ⟨_, K1F.kitFn, ⟨o, I.kIn _ _ hl, hc⟩, fun z => nomatch z⟩
def rIsiF (K : PySem.W.Frag) : List V → Hp → VK → Prop := fun xs H Q => ∃ (x c : V) (t u : Value) (b : Bool), xs = [x, c] ∧ ClsV c u ∧ TyF K H x t ∧ PySem.W.kitOne K t u = some b ∧ Q (.bl b) H
theorem call_isiF : CallR X (.builtin "isinstance") (rIsiF X.K) := by
  intro pins s σ H xs us Q I r h
  obtain ⟨x, c, t, u, b, rfl, k, ty, e, q⟩ := h
  obtain ⟨u1, u2, rfl, r1, r2⟩ := vals2 r
  obtain rfl := ClsV.eq k r2
  obtain ⟨P, Z, p, hx⟩ := kit_ofF I r1 ty
  exact PySem.W.kia_one Z I.kIn p e hx fun tk => ⟨.bl b, H, I.tok tk, rfl, q⟩
/-- the own __eq__, called -/
theorem callOwn {CX : CXT} {f a : Addr} {fd : FuncData} {ps : List Str} {sp : Sp} {E : XK} {n : Nat} {A : Around} {y : V} {u : Value} {R : Bool → Hp → Prop} (F : FnOk X.prog X.w X.K X.mg X.base CX n f fd ps sp) (hb : L2.Binds X.K fd ps []) (hx : Passes CX X E)
    (hr : Room n A) (hfr : A.frames = X.A.frames) (I : Inv X pins σ H s) (ry : RelV y u) (hsp : sp [.ref a, y] H (fun v H' => ∃ b, v = .bl b ∧ R b H') E) :
    wpAny (model X.prog X.w) A (call (.ref f) [.ref a, u]) (fun r s' => ∃ b H', r = .bool b ∧ Inv X pins σ H' s' ∧ R b H') X.xe s := by
  have e0 : Env0 X.prog X.w X.K X.mg X.base A X.stack s H := by
    have e := I.env0
    exact ⟨by rw [hfr]; exact e.frames, e.mod, e.bs, e.bsz, e.funs, e.frf, e.hok, e.bare⟩
  have hl := F.len _ _ _ _ hsp
  have r2 : Vals [V.ref a, y] [Value.ref a, u] := .cons rfl (.cons ry .nil)
  refine wpAny_call (codeAny_mono (F.run A X.stack s H ⟨[.ref a, u], []⟩ [.ref a, u] [.ref a, y] _ E hr e0 (by
    have := hb s [.ref a, u] I.kIn (by simpa using hl)
    simpa using this) r2 hsp) fun r s' hq => ?_)
  cases r with
  | error e => exact hx pins σ H s e s' I hq
  | ok fl =>
    cases fl with
    | ret w =>
      obtain ⟨z, H', I', rz, b, ez, q⟩ := I.after hq
      subst ez
      cases rz
      exact ⟨b, H', rfl, I', q⟩
    | next => exact False.elim hq
    | brk => exact False.elim hq
    | cont => exact False.elim hq
def rOwn (K : PySem.W.Frag) (C : Addr) (sp : Sp) (E : XK) (g : Bool → Bool) : R2 := fun x y H Q => ∃ a dx fs t, x = .ref a ∧ H a = some (.ins C dx fs) ∧ TyF K H y t ∧ PySem.W.notFirst K C t = true ∧ sp [x, y] H (fun v H' => ∃ b, v = .bl b ∧ Q (.bl (g b)) H') E
theorem op_eqOwn {CX : CXT} {C f : Addr} {fd : FuncData} {ps : List Str} {sp : Sp} {E : XK} {n : Nat} (F : FnOk X.prog X.w X.K X.mg X.base CX n f fd ps sp)
    (hs : PySem.W.findIn X.K (.ref C) "__eq__" = some (some (.ref f))) (hf : PySem.W.isFn X.K (.ref f) = true) (hb : L2.Binds X.K fd ps []) (hx : Passes CX X E) (hr : Room n X.A) : OpR X (compareOp .Eq) (rOwn X.K C sp E id) := by
  intro pins s σ H x y v u Q I rx ry hq
  obtain ⟨a, dx, fs, t, rfl, ha, ty, nf, hsp⟩ := hq
  cases rx
  obtain ⟨mA, J, _⟩ := ins_get I.hok ha
  obtain ⟨od, J, _⟩ := J.look
  obtain ⟨P, Z, p, _⟩ := kit_ofF I ry ty
  obtain ⟨m, hF⟩ := I.fr
  show wpAny (model X.prog X.w) X.A (richCompare .Eq (.ref a) u) (EP X pins σ Q) X.xe s
  refine PySem.W.cmp_K (op := .Eq) (tb := t) hr.units0 hF I.ok.mod.kin J (Z.ty _ _ I.kIn p) nf hs hf ?_
  refine wpAny_mono (callOwn (R := fun b H' => Q (.bl b) H') F hb hx hr rfl I ry hsp) (fun r s' q => ?_) fun _ _ z => z
  obtain ⟨b, H', rfl, I', q⟩ := q
  exact ⟨.bl b, H', I', rfl, q⟩
theorem op_neOwn {CX : CXT} {C f : Addr} {fd : FuncData} {ps : List Str} {sp : Sp} {E : XK} {n : Nat} (F : FnOk X.prog X.w X.K X.mg X.base CX n f fd ps sp)
    (hs : PySem.W.findIn X.K (.ref C) "__eq__" = some (some (.ref f))) (hn : PySem.W.findIn X.K (.ref C) "__ne__" = some (some (.builtin "object.__ne__"))) (hob : PySem.W.mroIn X.K C (.type "object") = some true)
    (hf : PySem.W.isFn X.K (.ref f) = true) (hb : L2.Binds X.K fd ps []) (hx : Passes CX X E) (hr : Room (n + 1) X.A) : OpR X (compareOp .NotEq) (rOwn X.K C sp E not) := by
  intro pins s σ H x y v u Q I rx ry hq
  obtain ⟨a, dx, fs, t, rfl, ha, ty, nf, hsp⟩ := hq
  cases rx
  obtain ⟨mA, J, _⟩ := ins_get I.hok ha
  obtain ⟨od, J, _⟩ := J.look
  obtain ⟨P, Z, p, _⟩ := kit_ofF I ry ty
  have hy := Z.ty (model X.prog X.w) _ I.kIn p
  have sp1 : PySem.W.Looks (model X.prog X.w) s.heap (specialOf (.ref a) "__ne__") (some (.builtin "object.__ne__")) := J.type.andThen (PySem.W.looks_findIn I.kIn hn)
  have inst : PySem.W.Looks (model X.prog X.w) s.heap (isInstance (.ref a) (.type "object")) true := J.type.andThen (PySem.W.looks_mroIn I.kIn hob)
  have one : wpAny (model X.prog X.w) X.A (tryCompare (.ref a) "__ne__" u) (fun r s' => ∃ b H', r = some (.bool (!b)) ∧ Inv X pins σ H' s' ∧ Q (.bl (!b)) H') X.xe s := by
    unfold tryCompare
    refine wpAny_bind (NtL.csib sp1 (PySem.F.cmp_object.ne.bind _) ?_)
    refine wpAny_call (codeAny_call_builtin PySem.F.cmp_object.ne.plain PySem.F.cmpEntry_ne (@PySem.W.check_slot (model X.prog X.w) _ _ _ "object.__ne__" "object" "__ne__" (.ref a) [u] [] _ PySem.F.cmpKind_ne PySem.F.cmpSplit_ne inst (PySem.F.cmpArgs_ne _ _) ?_))
    unfold Builtin.«object.__ne__»
    have hr1 : Room n X.A.in1 := hr.in1
    show wpAny (model X.prog X.w) X.A.in1 (do
      cRoomFor "comparison" [.ref a, u]
      match ← callSpecialIfBound? (.ref a) "__eq__" [u] with
      | some .notImplemented | none => ret .notImplemented
      | some r => ret (.bool (!(← truthy r)))) _ _ s
    refine wpAny_bind (wpAny_cRoomFor hr1.units0 ?_)
    refine wpAny_bind (PySem.W.ifBound_K I.kIn J hs hf (wpAny_mono (callOwn (R := fun b H' => Q (.bl (!b)) H') F hb hx hr1 rfl I ry hsp) (fun r s' q => ?_) fun _ _ z => z))
    obtain ⟨b, H', rfl, I', q⟩ := q
    cases b
    · exact wpAny_pure (wpAny_pure ⟨false, H', rfl, I', q⟩)
    · exact wpAny_pure (wpAny_pure ⟨true, H', rfl, I', q⟩)
  show wpAny (model X.prog X.w) X.A (richCompare .NotEq (.ref a) u) (EP X pins σ Q) X.xe s
  unfold richCompare
  simp only [oneThing_ref]
  refine wpAny_holding (wpAny_bind (wpAny_cRoomFor hr.units0 ?_))
  refine wpAny_bind (J.type.here (wpAny_bind (hy.here ?_)))
  split
  · rename_i q
    have e : PySem.W.subIn X.K t (.ref C) = some false := by
      rcases Bool.or_eq_true_iff.mp nf with e | e
      · rw [beq_iff_eq.mp e] at q; simp at q
      · exact beq_iff_eq.mp e
    refine wpAny_bind ((PySem.W.looks_subIn I.kIn e).here ?_)
    simp only [Bool.false_eq_true, if_false]
    refine wpAny_bind (wpAny_mono one (fun r s' z => ?_) fun _ _ e => e)
    obtain ⟨b, H', rfl, I', hq⟩ := z
    exact wpAny_pure ⟨.bl _, H', I', rfl, hq⟩
  · refine wpAny_bind (wpAny_pure ?_)
    simp only [Bool.false_eq_true, if_false]
    refine wpAny_bind (wpAny_mono one (fun r s' z => ?_) fun _ _ e => e)
    obtain ⟨b, H', rfl, I', hq⟩ := z
    exact wpAny_pure ⟨.bl _, H', I', rfl, hq⟩
end
end K1
end
-- KEq
section
set_option Elab.async false
set_option linter.all false
set_option maxRecDepth 100000
set_option maxHeartbeats 4000000
namespace K1
open PySem PySem.Spec PyProof.Rows L2
abbrev sVE : Stmt := inClass (top 24) 1
abbrev sVH : Stmt := inClass (top 24) 2
abbrev sVR : Stmt := inClass (top 24) 3
abbrev sVD : Stmt := inClass (top 24) 4
def dN (ss : List Str) : PyData := .list (ss.map PyData.str)
def dR (rs : List (Str × Str)) : PyData := .list (rs.map fun r => .tuple [.str r.1, .str r.2])
def dI (ns : List Int) : PyData := .list (ns.map PyData.int)
theorem eqvAll_map {α : Type} [DecidableEq α] {f : α → PyData} (h : ∀ a b, PyData.eqv (f a) (f b) = decide (a = b)) : ∀ xs ys : List α, PyData.eqvAll (xs.map f) (ys.map f) = decide (xs = ys)
  | [], [] => rfl
  | [], _ :: _ => rfl
  | _ :: _, [] => rfl
  | x :: xs, y :: ys => by
    show (PyData.eqv (f x) (f y) && PyData.eqvAll (xs.map f) (ys.map f)) = _
    rw [h, eqvAll_map h xs ys, ← Bool.decide_and]
    exact decide_eq_decide.mpr (by rw [List.cons.injEq])
theorem eqv_str (a b : Str) : PyData.eqv (.str a) (.str b) = decide (a = b) := by
  show (a == b) = _
  by_cases e : a = b
  · rw [decide_eq_true e, e]; exact beq_self_eq_true b
  · rw [decide_eq_false e]; exact beq_eq_false_iff_ne.mpr e
theorem eqv_int (a b : Int) : PyData.eqv (.int a) (.int b) = decide (a = b) := by
  show (a == b) = _
  by_cases e : a = b
  · rw [decide_eq_true e, e]; exact beq_self_eq_true b
  · rw [decide_eq_false e]; exact beq_eq_false_iff_ne.mpr e
theorem eqv_pair (a b : Str × Str) : PyData.eqv (.tuple [.str a.1, .str a.2]) (.tuple [.str b.1, .str b.2]) = decide (a = b) := by
  show (PyData.eqv (.str a.1) (.str b.1) && (PyData.eqv (.str a.2) (.str b.2) && true)) = _
  rw [eqv_str, eqv_str, Bool.and_true, ← Bool.decide_and]
  exact decide_eq_decide.mpr (by rw [Prod.ext_iff])
theorem eqv_dN (a b : List Str) : PyData.eqv (dN a) (dN b) = decide (a = b) := eqvAll_map eqv_str a b
theorem eqv_dR (a b : List (Str × Str)) : PyData.eqv (dR a) (dR b) = decide (a = b) := eqvAll_map eqv_pair a b
theorem eqv_dI (a b : List Int) : PyData.eqv (dI a) (dI b) = decide (a = b) := eqvAll_map eqv_int a b
theorem strOk_of {s : Str} (h : nameOk s = true) : PyData.strOk s = true := by
  unfold nameOk at h
  have h2 := (Bool.and_eq_true_iff.mp (Bool.and_eq_true_iff.mp (Bool.and_eq_true_iff.mp h).2).2).2
  unfold PyData.strOk
  rw [← Array.all_toList]
  rw [List.all_eq_true] at h2 ⊢
  intro c hc
  have q := h2 c hc
  unfold okSign at q
  have l1 : ∀ c ∈ letters.cps.toList, c < 0x110000 := by decide +kernel
  have l2 : ∀ c ∈ figures.cps.toList, c < 0x110000 := by decide +kernel
  rcases Bool.or_eq_true_iff.mp q with q | q
  · exact decide_eq_true (l1 c (of_decide_eq_true q))
  · exact decide_eq_true (l2 c (of_decide_eq_true q))
theorem lay_map {α : Type} {f : α → PyData} : ∀ {xs : List α}, (∀ x ∈ xs, (f x).canLay0 = true) → PyData.canLayAll0 (xs.map f) = true
  | [], _ => rfl
  | x :: xs, h => by
    show ((f x).canLay0 && PyData.canLayAll0 (xs.map f)) = true
    rw [h x (List.mem_cons_self ..), lay_map fun y hy => h y (List.mem_cons_of_mem _ hy)]
    rfl
theorem dep_map {α : Type} {f : α → PyData} {n : Nat} : ∀ {xs : List α}, (∀ x ∈ xs, (f x).depth ≤ n) → PyData.depthAll (xs.map f) ≤ n
  | [], _ => Nat.zero_le _
  | x :: xs, h => by
    show max (f x).depth (PyData.depthAll (xs.map f)) ≤ n
    exact Nat.max_le.mpr ⟨h x (List.mem_cons_self ..), dep_map fun y hy => h y (List.mem_cons_of_mem _ hy)⟩
theorem shaped_list {α : Type} {f : α → PyData} {xs : List α} (h1 : ∀ x ∈ xs, (f x).canLay0 = true) (h2 : ∀ x ∈ xs, (f x).depth ≤ 5) : SeqAt.shaped (.list (xs.map f)) = true := by
  show (PyData.canLayAll0 (xs.map f) && decide (PyData.depthAll (xs.map f) + 1 ≤ 64)) = true
  have := dep_map h2
  rw [lay_map h1, decide_eq_true (by omega)]
  rfl
theorem shaped_dN {ss : List Str} (h : ∀ s ∈ ss, nameOk s = true) : SeqAt.shaped (dN ss) = true := shaped_list (fun s hs => strOk_of (h s hs)) (fun _ _ => by show 0 ≤ 5; decide)
theorem shaped_dI (ns : List Int) : SeqAt.shaped (dI ns) = true := shaped_list (fun _ _ => rfl) (fun _ _ => by show 0 ≤ 5; decide)
theorem shaped_dR {rs : List (Str × Str)} (h : ∀ r ∈ rs, nameOk r.1 = true ∧ nameOk r.2 = true) : SeqAt.shaped (dR rs) = true := shaped_list (fun r hr => by
  show (PyData.strOk r.1 && (PyData.strOk r.2 && true)) = true
  rw [strOk_of (h r hr).1, strOk_of (h r hr).2]
  rfl) (fun _ _ => by show max 0 (max 0 0) + 1 ≤ 5; decide)
theorem dpAll {α : Type} {K : PySem.W.Frag} {H : Hp} {f : α → V} {g : α → PyData} (h : ∀ x, Dp K H (f x) (g x)) : ∀ xs : List α, DpAll K H (xs.map f) (xs.map g)
  | [] => .nil
  | x :: xs => .cons (h x) (dpAll h xs)
theorem dp_dN {K : PySem.W.Frag} {H : Hp} {l : Addr} {ss : List Str} (h : H l = some (.lst (ss.map V.str))) : Dp K H (.ref l) (dN ss) := .lst (SqL.of h) (dpAll (fun s => .str s) ss)
theorem dp_dI {K : PySem.W.Frag} {H : Hp} {l : Addr} {ns : List Int} (h : H l = some (.lst (ns.map V.int))) : Dp K H (.ref l) (dI ns) := .lst (SqL.of h) (dpAll (fun s => .int s) ns)
theorem dp_dR {K : PySem.W.Frag} {H : Hp} {l : Addr} {qs : List Addr} {rs : List (Str × Str)} (h : H l = some (.lst (qs.map V.ref))) (p : Paired (TupP H) qs rs) : Dp K H (.ref l) (dR rs) := by
  refine .lst (SqL.of h) ?_
  clear h
  induction p with
  | nil => exact .nil
  | cons f1 f2 ih => exact .cons (.tup (SqT.of f1) (.cons (.str _) (.cons (.str _) .nil))) ih
/-- what the text says of Valley beyond its fields -/
structure VcE (K : PySem.W.Frag) (C : Addr) : Prop extends VcT K C where
  ha : PySem.W.findIn K (.ref C) "__class__" = some (some (.builtin "object.__class__"))
  hn : PySem.W.specialIn K (.builtin "object.__class__") "__get__" = some (some (.builtin "getset_descriptor.__get__"))
  htk : PySem.W.takesIn K (.builtin "object.__class__") = some true
  hm : PySem.W.mroIn K C (.type "object") = some true
  own : PySem.W.kitOne K (.ref C) (.ref C) = some true
  no : ∀ t ∈ kinds ++ ["function"], PySem.W.kitOne K (.type t) (.ref C) = some false
def GoodV (ss : List Str) (rs : List (Str × Str)) : Prop := (∀ s ∈ ss, nameOk s = true) ∧ EndsIn ss rs
theorem GoodV.roads {ss : List Str} {rs : List (Str × Str)} (g : GoodV ss rs) : ∀ r ∈ rs, nameOk r.1 = true ∧ nameOk r.2 = true := fun r hr => ⟨g.1 _ (g.2 r hr).1, g.1 _ (g.2 r hr).2⟩
def spVE (K : PySem.W.Frag) (C : Addr) : Sp := fun vs H Q _ => ∃ x l1 l2 l3 qs ss rs ns y, vs = [.ref x, y] ∧ ValI C H x l1 l2 l3 qs ss rs ns ∧ GoodV ss rs ∧
  ((∃ t, TyF K H y (.type t) ∧ t ∈ kinds ++ ["function"] ∧ Q (.bl false) H) ∨ (∃ z m1 m2 m3 qs' ss' rs' ns', y = .ref z ∧ ValI C H z m1 m2 m3 qs' ss' rs' ns' ∧ GoodV ss' rs' ∧ Q (.bl (decide (ss = ss' ∧ rs = rs' ∧ ns = ns'))) H))
theorem scVE : FnScope ["self", "other"] ["self", "other"] (defScope sVE) := ⟨rfl, rfl, rfl, by decide +kernel, rfl, by decide +kernel, by decide +kernel⟩
theorem scVH : FnScope ["self"] ["self"] (defScope sVH) := ⟨rfl, rfl, rfl, by decide +kernel, rfl, by decide +kernel, by decide +kernel⟩
theorem scVR : FnScope ["self"] ["self"] (defScope sVR) := ⟨rfl, rfl, rfl, by decide +kernel, rfl, by decide +kernel, by decide +kernel⟩
theorem scVD : FnScope ["self"] ["self"] (defScope sVD) := ⟨rfl, rfl, rfl, by decide +kernel, rfl, by decide +kernel, by decide +kernel⟩
def spVH (C : Addr) : Sp := fun vs H Q _ => ∃ x l1 l2 l3 qs ss rs ns, vs = [.ref x] ∧ ValI C H x l1 l2 l3 qs ss rs ns ∧ ∀ l, H l = none → Q (.ref l) (upd H l (.lst (ss.map V.str)))
def spVR (C : Addr) : Sp := fun vs H Q _ => ∃ x l1 l2 l3 qs ss rs ns, vs = [.ref x] ∧ ValI C H x l1 l2 l3 qs ss rs ns ∧ ∀ l, H l = none → Q (.ref l) (upd H l (.lst (qs.map V.ref)))
def spVD (C : Addr) : Sp := fun vs H Q _ => ∃ x l1 l2 l3 qs ss rs ns, vs = [.ref x] ∧ ValI C H x l1 l2 l3 qs ss rs ns ∧ ∀ l, H l = none → Q (.ref l) (upd H l (.lst (ns.map V.int)))
section
variable {P : Program} {w : World} {K : PySem.W.Frag} {mg : Str → Option Value} {base : Heap} {C : Addr}
theorem ok_VE {f : Addr} {fd : FuncData} (F : Fun K "__eq__" "Valley.__eq__" sVE f fd) (B : Bl mg) (T : VcE K C) (mV : mg "Valley" = some (.ref C)) : FnOk P w K mg base CX0 1 f fd ["self", "other"] (spVE K C) := by
  refine F.ok scVE (fun vs H Q E h => ?_) (fun cdv A outer s H vs Q E hr h => ?_)
  · obtain ⟨x, l1, l2, l3, qs, ss, rs, ns, y, rfl, _⟩ := h
    rfl
  obtain ⟨x, l1, l2, l3, qs, ss, rs, ns, y, rfl, vx, gx, h⟩ := h
  have hu := hr.units
  refine ⟨_, pss_cons (by exact (ps_if (pt_not (pt_val (pe_callB call_isiF rfl B.isi PyProof.Rows.boot_isinstance (pa_cons (pv 1) (pa_cons (pe_glob (v := .ref C) rfl mV rfl) pa_nil)))))
      (pss_one (ps_ret pe_bl)) pss_nil))
    (pss_one (by exact (ps_ret (pe_and (pe_cmpR (op_eqD hu) (pe_fld (pv 0) rfl) (pe_fld (pv 1) rfl) (nomark _)) (pe_and (pe_cmpR (op_eqD hu) (pe_fld (pv 0) rfl) (pe_fld (pv 1) rfl) (nomark _)) (pe_one (pe_cmpR (op_eqD hu) (pe_fld (pv 0) rfl) (pe_fld (pv 1) rfl) (nomark _)))))))), ?_⟩
  rcases h with ⟨t, ty, kt, q⟩ | ⟨z, m1, m2, m3, qs', ss', rs', ns', rfl, vz, gz, q⟩
  · exact ⟨_, rfl, y, _, _, _, _, rfl, .own C, ty, T.no t kt, _, rfl, iteT q⟩
  · obtain ⟨dz, fz, iz, z1, z2, z3, _⟩ := vz.ins
    obtain ⟨dx, fx, ix, x1, x2, x3, _⟩ := vx.ins
    refine ⟨_, rfl, .ref z, _, _, _, _, rfl, .own C, .inl (.base (.ins iz T.cl T.ha T.hn T.htk T.hm)), T.own, _, rfl, iteF ?_⟩
    refine ⟨_, rfl, x, C, dx, fx, _, rfl, ix, T.cl, T.n1, x1, _, rfl, z, C, dz, fz, _, rfl, iz, T.cl, T.n1, z1, dN ss, dN ss', dp_dN vx.h1, dp_dN vz.h1, shaped_dN gx.1, shaped_dN gz.1, _, rfl, ?_⟩
    rw [eqv_dN]
    by_cases e1 : ss = ss'
    · rw [decide_eq_true e1]
      refine iteT ⟨_, rfl, x, C, dx, fx, _, rfl, ix, T.cl, T.n2, x2, _, rfl, z, C, dz, fz, _, rfl, iz, T.cl, T.n2, z2, dR rs, dR rs', dp_dR vx.h2 vx.pr, dp_dR vz.h2 vz.pr, shaped_dR gx.roads, shaped_dR gz.roads, _, rfl, ?_⟩
      rw [eqv_dR]
      by_cases e2 : rs = rs'
      · rw [decide_eq_true e2]
        refine iteT ⟨_, rfl, x, C, dx, fx, _, rfl, ix, T.cl, T.n3, x3, _, rfl, z, C, dz, fz, _, rfl, iz, T.cl, T.n3, z3, dI ns, dI ns', dp_dI vx.h3, dp_dI vz.h3, shaped_dI ns, shaped_dI ns', ?_⟩
        rw [eqv_dI]
        have e : decide (ss = ss' ∧ rs = rs' ∧ ns = ns') = decide (ns = ns') := decide_eq_decide.mpr ⟨fun h => h.2.2, fun h => ⟨e1, e2, h⟩⟩
        rw [e] at q
        exact q
      · rw [decide_eq_false e2]
        rw [decide_eq_false (fun h => e2 h.2.1)] at q
        exact iteF q
    · rw [decide_eq_false e1]
      rw [decide_eq_false (fun h => e1 h.1)] at q
      exact iteF q
theorem ok_VH {f : Addr} {fd : FuncData} (F : Fun K "houses" "Valley.houses" sVH f fd) (B : Bl mg) (T : VcE K C) : FnOk P w K mg base CX0 1 f fd ["self"] (spVH C) := by
  refine F.ok scVH (fun vs H Q E h => ?_) (fun cdv A outer s H vs Q E hr h => ?_)
  · obtain ⟨x, l1, l2, l3, qs, ss, rs, ns, rfl, _⟩ := h
    rfl
  obtain ⟨x, l1, l2, l3, qs, ss, rs, ns, rfl, vx, q⟩ := h
  obtain ⟨dx, fx, ix, x1, x2, x3, _⟩ := vx.ins
  refine ⟨_, pss_one (by exact (ps_ret (pe_callTy call_list_of rfl B.list PyProof.Rows.boot_list (pa_cons (pe_fld (pv 0) rfl) pa_nil)))), ?_⟩
  exact ⟨_, rfl, x, C, dx, fx, _, rfl, ix, T.cl, T.n1, x1, l1, _, rfl, .inl (SqL.of vx.h1), q⟩
theorem ok_VR {f : Addr} {fd : FuncData} (F : Fun K "roads" "Valley.roads" sVR f fd) (B : Bl mg) (T : VcE K C) : FnOk P w K mg base CX0 1 f fd ["self"] (spVR C) := by
  refine F.ok scVR (fun vs H Q E h => ?_) (fun cdv A outer s H vs Q E hr h => ?_)
  · obtain ⟨x, l1, l2, l3, qs, ss, rs, ns, rfl, _⟩ := h
    rfl
  obtain ⟨x, l1, l2, l3, qs, ss, rs, ns, rfl, vx, q⟩ := h
  obtain ⟨dx, fx, ix, x1, x2, x3, _⟩ := vx.ins
  refine ⟨_, pss_one (by exact (ps_ret (pe_callTy call_list_of rfl B.list PyProof.Rows.boot_list (pa_cons (pe_fld (pv 0) rfl) pa_nil)))), ?_⟩
  exact ⟨_, rfl, x, C, dx, fx, _, rfl, ix, T.cl, T.n2, x2, l2, _, rfl, .inl (SqL.of vx.h2), q⟩
theorem ok_VD {f : Addr} {fd : FuncData} (F : Fun K "heads" "Valley.heads" sVD f fd) (B : Bl mg) (T : VcE K C) : FnOk P w K mg base CX0 1 f fd ["self"] (spVD C) := by
  refine F.ok scVD (fun vs H Q E h => ?_) (fun cdv A outer s H vs Q E hr h => ?_)
  · obtain ⟨x, l1, l2, l3, qs, ss, rs, ns, rfl, _⟩ := h
    rfl
  obtain ⟨x, l1, l2, l3, qs, ss, rs, ns, rfl, vx, q⟩ := h
  obtain ⟨dx, fx, ix, x1, x2, x3, _⟩ := vx.ins
  refine ⟨_, pss_one (by exact (ps_ret (pe_callTy call_list_of rfl B.list PyProof.Rows.boot_list (pa_cons (pe_fld (pv 0) rfl) pa_nil)))), ?_⟩
  exact ⟨_, rfl, x, C, dx, fx, _, rfl, ix, T.cl, T.n3, x3, l3, _, rfl, .inl (SqL.of vx.h3), q⟩
end
end K1
end
-- KMisc
section
set_option Elab.async false
set_option linter.all false
set_option maxRecDepth 100000
set_option maxHeartbeats 4000000
/-! d.update(d2) of keys that are ints or texts; (x, y)[::-1] -/
namespace K1
open PySem PySem.Spec PyProof.Rows L2

theorem KV_merge {kvs : List (Key × V)} {vs : List (Key × Value)} (r : KV kvs vs) : ∀ {ms : List (Key × V)} {ws : List (Key × Value)}, KV ms ws → KV (mergeK kvs ms) (merged vs ws) := by
  intro ms ws h
  induction h generalizing kvs vs with
  | nil => exact r
  | @cons x y l1 l2 f1 f2 ih =>
    obtain ⟨e1, e2⟩ := f1
    refine ih ?_
    have q := KV.put r x.1 e2
    show KV (putK kvs x.1 x.2) (stored vs y.1 y.2)
    rw [← e1]
    exact q
theorem mergeK_len (kvs ms : List (Key × V)) : (mergeK kvs ms).length ≤ kvs.length + ms.length := by
  induction ms generalizing kvs with
  | nil => exact Nat.le_refl _
  | cons m r ih =>
    have := ih (putK kvs m.1 m.2)
    have h2 := length_putK kvs m.1 m.2
    show (mergeK (putK kvs m.1 m.2) r).length ≤ _
    rw [List.length_cons]
    omega
def rUpdK : V → List V → Hp → VK → Prop := fun x xs H Q => ∃ (a b : Addr) (kvs ms : List (Key × V)), x = .ref a ∧ xs = [.ref b] ∧ a ≠ b ∧ H a = some (.dK kvs) ∧ H b = some (.dK ms) ∧ kvs.length + ms.length ≤ 100000 ∧ Q .non (upd H a (.dK (mergeK kvs ms)))
theorem mt_updK {X : Cx} : MtR X "dict.update" rUpdK := by
  intro pins s σ H x xs v us Q I rx r h
  obtain ⟨a, b, kvs, ms, rfl, rfl, ne, ha, hb, hl, q⟩ := h
  obtain ⟨u1, rfl, r1⟩ := vals1 r
  cases rx
  cases r1
  obtain ⟨z1, s1, vs, rel, d1⟩ := dk_of I.hok ha
  obtain ⟨z2, s2, ws, rel2, d2⟩ := dk_of I.hok hb
  have l1 : vs.length = kvs.length := rel.length.symm
  have l2 : ws.length = ms.length := rel2.length.symm
  refine call_meetsIn PySem.F.slot_dict_update d1.typeIs PySem.F.entry_dict_update (PySem.F.args_dict_update_2 _ _) (meets_dict_update (mixKind X.prog X.w) a b ne s2) ⟨vs, ws, d1, d2, by rw [l1, l2]; exact Nat.le_trans hl (by decide), fun h' e1 e2 sb => ?_⟩
  have he : ∃ o, h'.get? a = some o := let ⟨o, _, _, ho, _⟩ := e1; ⟨o, ho⟩
  have hln : (mergeK kvs ms).length ≤ sizeLine := Nat.le_trans (mergeK_len kvs ms) (Nat.le_trans hl (by decide))
  exact ⟨.non, _, d_write I (by rw [ha]; exact True.intro) sb he (dk_new hln s1 (KV_merge rel rel2) e1), rfl, q⟩
end K1
namespace K1S
open PySem PySem.Spec PyProof.Rows L2 HT
section
variable {prog : Program} {w : World} {A : Around} {E : Value → Shared → Prop} {s : Shared}
theorem backApplied {sl : Addr} {vl vu vs : Value} {Q : Int × Int × Nat → Shared → Prop} (hs : s.heap.IsSliceOf sl vl vu vs) (pl : IsPart vl none) (pu : IsPart vu none) (ps : IsPart vs (some (-1)))
    (h : Q (1, -1, 2) s) : wpAny (model prog w) A (Builtin.Slice.sliceApplied (.ref sl) (pure ((2 : Nat) : Int))) Q E s := by
  obtain ⟨os, hos, hcs, hds⟩ := id hs
  unfold Builtin.Slice.sliceApplied Builtin.Slice.sliceFields
  refine wpAny_bind (wpAny_bind (wpAny_field hos hds (x := vl) rfl (wpAny_bind (wpAny_field hos hds (x := vu) rfl (wpAny_bind (wpAny_field hos hds (x := vs) rfl (wpAny_pure ?_)))))))
  refine wpAny_bind (slicePart_ ps ?_)
  show wpAny _ _ (if ((-1 : Int) == 0) = true then _ else _) _ _ s
  rw [if_neg (by decide)]
  refine wpAny_bind (slicePart_ pl (wpAny_bind (slicePart_ pu (wpAny_bind (wpAny_pure ?_)))))
  exact wpAny_pure h
theorem back2 {t sl : Addr} {x y : Value} {vl vu vs : Value} {Q : Value → Shared → Prop} (ht : IsTup s.heap t #[x, y]) (hs : s.heap.IsSliceOf sl vl vu vs) (pl : IsPart vl none) (pu : IsPart vu none) (ps : IsPart vs (some (-1)))
    (h : Q (.ref s.heap.objs.size) { s with heap := s.heap.push { cls := .type "tuple", data := .seq #[y, x] } }) : wpAny (model prog w) A (getItem (.ref t) (.ref sl)) Q E s := by
  have htake : sizeOk (.seq #[y, x]) := by show 2 ≤ sizeLine; decide
  obtain ⟨os, hos, hcs, hds⟩ := id hs
  have hTs : s.TypeIs (.ref sl) "slice" := ⟨os, hos, hcs⟩
  unfold getItem
  try with_reducible refine wpAny_holding ?_
  first | refine wpAny_bind (wpAny_pure ?_) | skip
  refine wpAny_bind (wpAny_sequenceKey ht.typeIs (by decide) ?_)
  refine wpAny_bind (wpAny_callSpecial?_slot (name := Str.ofString "__getitem__") ht.typeIs PyProof.Rows.slot_tuple_getitem
    (wpAny_call_entry PyProof.Rows.slot_tuple_getitem ht.typeIs entry_tuple_getitem ?_ (args_tuple_getitem _ _)))
  show wpAny _ _ (Builtin.Tuple.tupleItemsOf (.ref t) >>= _) _ _ s
  refine wpAny_bind (tupleItemsOf_ ht ?_)
  refine wpAny_bind (wpAny_typeOf hTs ?_)
  rw [if_pos (by decide)]
  refine wpAny_bind (backApplied hs pl pu ps ?_)
  first
    | exact wpAny_bind (m := Builtin.Tuple.tupleExact _) (wpAny_newObj_type (wpAny_pure ⟨_, rfl, wpAny_pure h⟩) htake)
    | exact wpAny_bind (m := Builtin.Tuple.tupleExact _) (wpAny_newObj_type (wpAny_bind (wpAny_pure (wpAny_pure ⟨_, rfl, wpAny_pure h⟩))) htake)
    | exact wpAny_bind (wpAny_bind (m := Builtin.Tuple.tupleExact _) (wpAny_newObj_type (wpAny_pure (wpAny_pure ⟨_, rfl, wpAny_pure h⟩)) htake))
    | exact wpAny_bind (wpAny_bind (m := Builtin.Tuple.tupleExact _) (wpAny_newObj_type (wpAny_pure ⟨_, rfl, wpAny_pure h⟩) htake))
end
end K1S
namespace K1
open PySem PySem.Spec PyProof.Rows L2
def tBack (K : PySem.W.Frag) (te : TE) : TE := fun σ H Q => te σ H fun v H1 => ∃ a x y, v = .ref a ∧ SqT K H1 a [x, y] ∧ ∀ p, H1 p = none → Q (.ref p) (upd H1 p (.tup [y, x]))
theorem pe_back {X : Cx} {e : Expr} {te : TE} {k : Nat} {p1 p2 p3 pos : Pos} (he : PE X e te) : PE X (.Subscript e (.Slice none none (some (.UnaryOp .USub (.Constant (.int 1) k p1) p2)) p3) pos) (tBack X.K te) := by
  refine ⟨fun pins s σ H Q I h => ?_⟩
  refine Subscript_ (thn (he.run pins s σ H _ I h) fun v s1 ⟨v1, H1, I1, r1, q1⟩ => ?_)
  obtain ⟨a, x, y, ex, hx, q⟩ := q1
  subst ex
  cases r1
  have hst : PO X (some (.UnaryOp .USub (.Constant (.int 1) k p1) p2)) (tPart (tUn (rU fun i => .int (-i)) (tC (.int 1)))) := po_some (pe_un un_neg pe_int)
  refine wpAny_Slice (thn (po_none.run pins s1 σ H1 (fun o H2 => o = none ∧ H2 = H1) I1 ⟨rfl, rfl⟩) fun vl s2 ⟨l, H2, I2, pl, el, e2⟩ => ?_)
  subst el e2
  refine thn (po_none.run pins s2 σ H2 (fun o H3 => o = none ∧ H3 = H2) I2 ⟨rfl, rfl⟩) fun vu s3 ⟨u, H3, I3, pu, eu, e3⟩ => ?_
  subst eu e3
  refine thn (hst.run pins s3 σ H3 (fun o H4 => o = some (-1) ∧ H4 = H3) I3 ⟨1, rfl, -1, rfl, rfl, rfl⟩) fun vs s4 ⟨o, H4, I4, ps, eo, e4⟩ => ?_
  subst eo e4
  have I5 : Inv X pins σ H4 { s4 with heap := s4.heap.push { cls := .type "slice", data := .fields #[vl, vu, vs] } } := I4.kept (t' := s4.toks) fun b ob q => Heap.get?_push_of_some _ q
  obtain ⟨its, r, ht, hz⟩ := I5.tuple hx
  obtain ⟨u1, u2, rfl, ra, rb⟩ := vals2 r
  show wpAny (model X.prog X.w) X.A (subscriptTail e (.Slice none none (some (.UnaryOp .USub (.Constant (.int 1) k p1) p2)) p3) (.ref a) (.ref s4.heap.objs.size)) (EP X pins σ Q) X.xe { s4 with heap := s4.heap.push { cls := .type "slice", data := .fields #[vl, vu, vs] } }
  refine tail_any (ops := [.ref a, .ref s4.heap.objs.size]) ht.typeIs (PyProof.Rows.slot_tuple_getitem.lookup) ?_ (by with_unfolding_all rfl)
  refine K1S.back2 ht (Heap.IsSliceOf.new _ vl vu vs) pl pu ps ?_
  refine ⟨.ref _, _, I5.laid (t' := s4.toks) (o := .tup [y, x]) (fun b ob q => Heap.get?_push_of_some _ q) (Nat.le_refl _) ?_, rfl, q _ (I5.hok.fresh (Nat.le_refl _))⟩
  exact ⟨by show 2 ≤ sizeLine; decide, [u2, u1], .cons rb (.cons ra .nil), IsTup.new _ _⟩
end K1
end
-- KLaw1
section
set_option Elab.async false
set_option linter.all false
set_option maxRecDepth 100000
set_option maxHeartbeats 4000000
namespace K1
open PySem PySem.Spec PyProof.Rows L2
abbrev sSpring : Stmt := top 47
abbrev sVN : Stmt := top 53
def spSpring (K : PySem.W.Frag) : Sp := fun vs H Q _ => ∃ (a : Addr) (t : Int) (ns : List Int), vs = [.ref a, .int t] ∧ SqL K H a (ns.map V.int) ∧ 0 ≤ t ∧ t ≤ 1000 ∧ ns.length ≤ 1000 ∧ ∀ p H', Same H H' → H p = none → Spr H' p 0 → Q (.ref p) H'
theorem scSpring : FnScope ["script", "turn", "cell", "mixed", "at", "one"] ["script", "turn"] (defScope sSpring) := ⟨rfl, rfl, rfl, by decide +kernel, rfl, by decide +kernel, by decide +kernel⟩
theorem atI_map {ns : List Int} {t : Int} (h0 : 0 ≤ t) (h1 : t < (ns.length : Int)) : ∃ n : Int, atI (ns.map V.int) t = some (.int n) := by
  have hk : t.toNat < ns.length := by omega
  have q : atI (ns.map V.int) ((t.toNat : Nat) : Int) = some (.int ns[t.toNat]) := atI_nat (by rw [List.getElem?_map, List.getElem?_eq_getElem hk]; rfl)
  rw [show ((t.toNat : Nat) : Int) = t by omega] at q
  exact ⟨_, q⟩
section
variable {P : Program} {w : World} {K : PySem.W.Frag} {mg : Str → Option Value} {base : Heap}
theorem ok_spring {f : Addr} {fd : FuncData} (F : Fun K "_law_spring" "_law_spring" sSpring f fd) (B : Bl mg) (me : mg "enumerate" = none) : FnOk P w K mg base CX0 1 f fd ["script", "turn"] (spSpring K) := by
  refine F.ok scSpring (fun vs H Q E h => ?_) (fun cdv A outer s H vs Q E hr h => ?_)
  · obtain ⟨a, t, ns, rfl, _⟩ := h
    rfl
  obtain ⟨a, t, ns, rfl, hS, t0, t1, hl, q⟩ := h
  have nd := scSpring.nd
  refine ⟨_, pss_cons (by exact (ps_par (i := 2) (j := 3) rfl nd rfl rfl (by decide) rfl rfl (pa_cons (pe_ifExp (pt_cmpR op_lt (pv 1) (pe_callB call_len_seq rfl B.len PySem.boot_len (pa_cons (pv 0) pa_nil)) (nomark _)) (pe_ix ix_list (pv 0) (pv 1) (fun _ _ => rfl))
      (pe_op op_add (pe_op op_add (pe_op op_mul pe_int (pv 1)) pe_int) (pe_callB call_len_seq rfl B.len PySem.boot_len (pa_cons (pv 0) pa_nil)))) (pa_cons (pe_op op_add pe_int (pe_op op_mul pe_int (pv 1))) pa_nil)) (by rfl)))
    (pss_cons (by exact (ps_for PassesOwn.never rfl (by exact pi_enum rfl me (pa_cons (pe_slice sl_list (pv 0) po_none (po_some pe_int)) pa_nil)) (pg_tup rfl (pgs_cons (pg_name (i := 4) nd rfl (.inl rfl)) (pgs_cons (pg_name (i := 5) nd rfl (.inl rfl)) pgs_nil)))
      (pss_one (by exact (ps_set (i := 3) nd rfl (.inl rfl) (pe_op op_mod (pe_callTy call_int1 rfl B.int PyProof.Rows.boot_int (pa_cons (pe_op op_add (pe_op op_add (pe_op op_add (pe_op op_mul (pv 3) pe_int) (pv 5)) (pe_op op_mul pe_int (pv 4))) pe_int) pa_nil)) pe_int))))))
    (pss_one (by exact (ps_ret (pe_lst (pa_cons (pe_ifExp (pt_cmpR op_ge (pv 2) (pe_op op_pow pe_int pe_int) (nomark _)) (pv 2) pe_int)
      (pa_cons (pe_op op_mod (pe_callTy call_int1 rfl B.int PyProof.Rows.boot_int (pa_cons (pe_op op_add (pv 3) (pe_op op_mul pe_int (pv 2))) pa_nil)) pe_int) (pa_cons pe_int pa_nil)))))))), ?_⟩
  have hlen : (ns.map V.int).length = ns.length := List.length_map _
  refine ⟨_, rfl, _, rfl, a, _, rfl, .inl hS, _, _, rfl, rfl, _, rfl, ?_⟩
  refine ite2 (fun c => ?_) (fun c => ?_)
  all_goals first
    | (have c' : t < (((ns.map V.int).length : Nat) : Int) := of_decide_eq_true c
       rw [hlen] at c'
       obtain ⟨cell, ec⟩ := atI_map t0 c'
       refine ⟨_, rfl, _, rfl, a, _, _, _, rfl, rfl, hS, ec, ?_⟩)
    | refine ⟨_, rfl, _, _, rfl, rfl, .inl (by constructor <;> decide), _, _, rfl, rfl, _, rfl, a, _, rfl, .inl hS, _, _, rfl, rfl, ?_⟩
  all_goals
    refine ⟨_, rfl, _, _, rfl, rfl, .inl (by constructor <;> decide), _, _, rfl, rfl, _, _, rfl, ?_⟩
    refine ⟨_, rfl, 64, rfl, a, _, rfl, hS, fun L hL => ⟨L, _, rfl, SqL.of upd_same, ?_⟩⟩
    have eL := K1.Same.upd (o := .lst (cutV (ns.map V.int) none (some 64))) hL
    refine for_it (walk_enum (K := K)) (fun i σ Hc => (∃ (c m : Int) (sa sb : Option V), σ = [some (.ref a), some (.int t), some (.int c), some (.int m), sa, sb] ∧ 0 ≤ m ∧ m < 1000000000000) ∧ Same H Hc ∧ Hc L = some (.lst (cutV (ns.map V.int) none (some 64)))) ⟨⟨_, _, _, _, rfl, by omega, by omega⟩, eL, upd_same⟩ (fun i σ Hc _ h => SqL.of h.2.2) ?_ ?_
    · rintro i x σ Hc H' hi ⟨⟨c, m, sa, sb, rfl, m0, m1⟩, h1, h2⟩ ⟨T, x1, x2, rfl, hT, rfl, e1', e2'⟩
      obtain rfl : x1 = .int (i : Nat) := (Option.some.inj e1').symm
      have e2' : (cutV (ns.map V.int) none (some 64))[i]? = some x2 := e2'
      obtain ⟨n, rfl⟩ : ∃ n : Int, x2 = .int n := by
        have m1 := List.mem_of_mem_drop (List.mem_of_mem_take (List.mem_of_getElem? e2'))
        obtain ⟨n, _, e⟩ := List.mem_map.mp m1
        exact ⟨n, e.symm⟩
      have hT2 := K1.Same.upd (H := Hc) (p := T) (o := .tup [.int (i : Nat), .int n]) hT
      refine ⟨T, _, rfl, SqT.of upd_same, rfl, _, _, rfl, _, _, rfl, rfl, ?_⟩
      refine ⟨_, rfl, _, _, rfl, rfl, .inl ⟨by omega, by omega⟩, _, rfl, _, _, rfl, rfl, _, rfl, _, _, rfl, rfl, .inl (by constructor <;> decide), _, _, rfl, rfl, _, _, rfl, rfl, .inl ⟨_, rfl, _, _, rfl, rfl, (by show (0 : Int) < 2147483543; decide), ?_⟩⟩
      refine ⟨⟨c, _, _, _, rfl, Int.emod_nonneg _ (by decide), ?_⟩, h1.trans hT2, hT2 _ _ h2⟩
      have := Int.emod_lt_of_pos (m * 69621 + n + 9 * (i : Nat) + 5) (show (0 : Int) < 2147483543 by decide)
      omega
    · rintro σ Hc ⟨⟨c, m, sa, sb, rfl, m0, m1⟩, h1, h2⟩
      refine ⟨_, rfl, _, _, rfl, rfl, ⟨by decide, by decide, by decide⟩, _, _, rfl, rfl, _, rfl, ?_⟩
      have y0 := Int.emod_nonneg (m + 53 * c) (show (2147483543 : Int) ≠ 0 by decide)
      have y1 := Int.emod_lt_of_pos (m + 53 * c) (show (0 : Int) < 2147483543 by decide)
      refine ite2 (fun c2 => ?_) (fun c2 => ?_)
      · have c3 : c ≥ 10 ^ ((18 : Int).toNat) := of_decide_eq_true c2
        refine ⟨_, rfl, _, rfl, _, rfl, _, _, rfl, rfl, .inl (by constructor <;> decide), _, _, rfl, rfl, .inl ⟨_, rfl, _, _, rfl, rfl, (by show (0 : Int) < 2147483543; decide), (by show 3 ≤ sizeLine; decide), fun l hl => ?_⟩⟩
        exact q l _ (h1.trans (K1.Same.upd hl)) (h1.free hl) ⟨c, _, 0, upd_same, Int.le_trans (by decide) c3, y0, y1, Int.le_refl 0, Int.le_refl 0⟩
      · refine ⟨_, rfl, _, rfl, _, _, rfl, rfl, .inl (by constructor <;> decide), _, _, rfl, rfl, .inl ⟨_, rfl, _, _, rfl, rfl, (by show (0 : Int) < 2147483543; decide), (by show 3 ≤ sizeLine; decide), fun l hl => ?_⟩⟩
        exact q l _ (h1.trans (K1.Same.upd hl)) (h1.free hl) ⟨0, _, 0, upd_same, Int.le_refl 0, y0, y1, Int.le_refl 0, Int.le_refl 0⟩
end
end K1
end
-- KLaw2
section
set_option Elab.async false
set_option linter.all false
set_option maxRecDepth 100000
set_option maxHeartbeats 4000000
namespace K1
open PySem PySem.Spec PyProof.Rows L2
def names12 : List Str := ["c3", "b", "z", "aa", "mill", "a", "x0", "eightsgn", "q", "no", "y7", "m1"]
def nameK (k : Nat) : Str := ("h" : Str) ++ Str.ofString (toString ((0 : Int) + (k : Int)))
def names60 : List Str := (List.range 60).map nameK
def goodB (ss : List Str) : Bool := ss.Nodup && ss.all fun s => nameOk s && decide (s.length ≤ 1000)
theorem good_of {ss : List Str} (h : decide ss.Nodup = true) (h2 : (ss.all fun s => nameOk s && decide (s.length ≤ 1000)) = true) : Good ss := by
  refine ⟨of_decide_eq_true h, fun s hs => ?_⟩
  have := List.all_eq_true.mp h2 s hs
  exact ⟨(Bool.and_eq_true_iff.mp this).1, of_decide_eq_true (Bool.and_eq_true_iff.mp this).2⟩
theorem good12 : Good names12 := good_of (by decide +kernel) (by decide +kernel)
theorem good60 : Good names60 := good_of (by decide +kernel) (by decide +kernel)
theorem Good.perm {as bs : List Str} (g : Good bs) (p : as.Perm bs) : Good as := ⟨p.nodup_iff.mpr g.1, fun s hs => g.2 s (p.mem_iff.mp hs)⟩
theorem Good.take {as : List Str} (g : Good as) (n : Nat) : Good (as.take n) := ⟨g.1.sublist (List.take_sublist _ _), fun s hs => g.2 s (List.mem_of_mem_take hs)⟩
def unS : V → Str
  | .str s => s
  | _ => ""
theorem unS_map (ss : List Str) : (ss.map V.str).map unS = ss := by
  rw [List.map_map]
  exact List.map_id _
theorem perm_str {ys : List V} {ss : List Str} (p : ys.Perm (ss.map V.str)) : ∃ ts : List Str, ys = ts.map V.str ∧ ts.Perm ss := by
  refine ⟨ys.map unS, ?_, by have := p.map unS; rwa [unS_map] at this⟩
  rw [List.map_map]
  have : ∀ y ∈ ys, (V.str ∘ unS) y = y := fun y hy => by
    obtain ⟨s, _, rfl⟩ := List.mem_map.mp (p.mem_iff.mp hy)
    rfl
  exact (List.map_congr_left this).trans (List.map_id _) |>.symm
theorem cut_to (xs : List V) (k : Nat) : cutV xs none (some (k : Int)) = xs.take k := by
  unfold cutV
  rw [HT.sIx_none, HT.sIx_nat, List.drop_zero, Nat.sub_zero]
  by_cases h : k ≤ xs.length
  · rw [Nat.min_eq_left h]
  · rw [Nat.min_eq_right (by omega), List.take_length, List.take_of_length_le (by omega)]
def NoB (ss : List Str) : Prop := ∀ s ∈ ss, s ≠ "nobody"
theorem nob12 : NoB names12 := by
  have : (names12.all fun s => decide (s ≠ "nobody")) = true := by decide +kernel
  exact fun s hs => of_decide_eq_true (List.all_eq_true.mp this s hs)
theorem nob60 : NoB names60 := by
  have : (names60.all fun s => decide (s ≠ "nobody")) = true := by decide +kernel
  exact fun s hs => of_decide_eq_true (List.all_eq_true.mp this s hs)
def spVN : Sp := fun vs H Q _ => ∃ (a : Addr) (l m : Int) (n : Nat), vs = [.ref a, .int l, .int m] ∧ Spr H a n ∧ n + 2000 ≤ 1000000 ∧ 1 ≤ l ∧ l ≤ m ∧ m ≤ 60 ∧
  ∀ (r : Addr) (ss : List Str) (H' : Hp), H r = none → r ≠ a → Kept a H H' → Spr H' a (n + 100) → H' r = some (.lst (ss.map V.str)) → Good ss → NoB ss → l ≤ (ss.length : Int) → (ss.length : Int) ≤ m → Q (.ref r) H'
theorem scVN : FnScope ["spring", "least", "most", "many", "some", "k"] ["spring", "least", "most"] (defScope sVN) := ⟨rfl, rfl, rfl, by decide +kernel, rfl, by decide +kernel, by decide +kernel⟩
section
variable {P : Program} {w : World} {K : PySem.W.Frag} {mg : Str → Option Value} {base : Heap} {fD fM : Addr} {fdD fdM : FuncData}
theorem ok_VN {f : Addr} {fd : FuncData} (F : Fun K "_law_v_names" "_law_v_names" sVN f fd) (B : Bl mg) (mr : mg "range" = none)
    (G : FnOk P w K mg base CX0 1 fD fdD ["spring", "many"] spDraw) (b : Binds K fdD ["spring", "many"] []) (k : PySem.W.keepIn K (.ref fD) = true) (m : mg "_law_draw" = some (.ref fD))
    (GM : FnOk P w K mg base CX0 2 fM fdM ["spring", "some"] spMixed) (bM : Binds K fdM ["spring", "some"] []) (kM : PySem.W.keepIn K (.ref fM) = true) (mM : mg "_law_mixed" = some (.ref fM)) :
    FnOk P w K mg base CX0 3 f fd ["spring", "least", "most"] spVN := by
  refine F.ok scVN (fun vs H Q E h => ?_) (fun cdv A outer s H vs Q E hr h => ?_)
  · obtain ⟨a, l, mo, n, rfl, _⟩ := h
    rfl
  obtain ⟨a, l, mo, n, rfl, hs, hn, hl, hlm, hm, q⟩ := h
  have nd := scVN.nd
  have hr1 : Room 1 _ := hr.mono (by decide)
  refine ⟨_, (pss_cons (by exact (ps_set (i := 3) nd rfl (.inl rfl) (pe_op op_add (pv 1) (pe_call G hr1 rfl m k b .nil pass0 (pa_cons (pv 0) (pa_cons (pe_op op_add (pe_op op_sub (pv 2) (pv 1)) pe_int) pa_nil)))))) (pss_cons (by exact (ps_set (i := 4) nd rfl (.inl rfl) (pe_lst (pa_cons pe_str (pa_cons pe_str (pa_cons pe_str (pa_cons pe_str (pa_cons pe_str (pa_cons pe_str (pa_cons pe_str (pa_cons pe_str (pa_cons pe_str (pa_cons pe_str (pa_cons pe_str (pa_cons pe_str pa_nil))))))))))))))) (pss_one (by exact (ps_ret (pe_slice sl_list (pe_call GM hr rfl mM kM bM .nil pass0 (pa_cons (pv 0) (pa_cons (pe_ifExp (pt_cmpR op_le (pv 3) pe_int (nomark _)) (pv 4) (pe_lc (own := [("k", 5)]) (g := gName 5) (tt := tYes) rfl nd (by exact pi_range1 rfl mr (pa_cons pe_int pa_nil)) (by exact blkOk_by (N := ["spring", "least", "most", "many", "some", "k"]) (sc := defScope sVN) (by decide +kernel)) (fun _ _ _ _ _ => by exact (pg_name (i := 5) nd rfl (.inl rfl))) (fun _ _ _ _ _ => by exact pts_nil) (fun _ _ _ _ _ => by exact (pe_op op_add_str pe_str (pe_callTy call_str_int rfl B.str PyProof.Rows.boot_str (pa_cons (pv 5) pa_nil)))))) pa_nil))) po_none (po_some (pv 3)))))))), ?_⟩
  refine ⟨_, rfl, _, rfl, _, rfl, _, rfl, _, _, rfl, rfl, _, _, rfl, rfl, a, _, n, rfl, hs, by omega, by omega, ?_, fun d H1 d0 d1 kp s1 => ?_⟩
  · have : (mo - l + 1).natAbs ≤ 100 := by omega
    exact Nat.lt_of_le_of_lt this (by decide)
  refine ⟨_, _, rfl, rfl, (by show 12 ≤ sizeLine; decide), fun L hL => ?_⟩
  have La := s1.ne hL
  have LH : H L = none := by
    cases e : H L with
    | none => rfl
    | some o => rw [kp _ _ La e] at hL; cases hL
  have k2 : Kept a H (L2.upd H1 L (.lst (names12.map V.str))) := kp.trans (Kept.new hL)
  have s2 : Spr (L2.upd H1 L (.lst (names12.map V.str))) a (n + 1) := s1.upd La
  have fin : ∀ (p : Addr) (ts : List Str) (Hx : Hp), Good ts → NoB ts → ts.length ≤ 60 → (l + d ≤ (ts.length : Int)) → Hx p = some (.lst (ts.map V.str)) → p ≠ a → Kept a H Hx → Spr Hx a (n + 1) →
      spMixed [.ref a, .ref p] Hx (fun v H' => ∃ r xs, v = .ref r ∧ SqL K H' r xs ∧ ∀ z, H' z = none → Q (.ref z) (L2.upd H' z (.lst (cutV xs none (some (l + d)))))) E0 := by
    intro p ts Hx gt nbt lt hk hp pa kx sx
    refine ⟨a, p, ts.map V.str, n + 1, rfl, sx, by omega, hp, pa, by rw [List.length_map]; omega, fun r ys H3 pm rn ra hr3 k3 s3 => ?_⟩
    obtain ⟨us, rfl, pu⟩ := perm_str pm
    refine ⟨r, _, rfl, SqL.of hr3, fun z hz => ?_⟩
    have za := s3.ne hz
    have e : cutV (us.map V.str) none (some (l + d)) = (us.take (l + d).toNat).map V.str := by
      rw [show l + d = (((l + d).toNat : Nat) : Int) by omega, cut_to, ← List.map_take]
      rfl
    have lu := pu.length_eq
    have k4 := kx.trans k3
    have zH : H z = none := by
      cases e : H z with
      | none => rfl
      | some o => rw [k4 _ _ za e] at hz; cases hz
    refine q z (us.take (l + d).toNat) _ zH za (k4.trans (Kept.new hz)) ((s3.upd za).mono (by rw [List.length_map]; omega)) (by rw [upd_same, e]) ((gt.perm pu).take _) (fun s hs => nbt s (pu.mem_iff.mp (List.mem_of_mem_take hs))) ?_ ?_
    · rw [List.length_take]; omega
    · rw [List.length_take]; omega
  refine ⟨_, rfl, _, rfl, _, _, rfl, rfl, _, rfl, ?_⟩
  refine ite2 (fun c => ?_) (fun c => ?_)
  · have c' : l + d ≤ 12 := of_decide_eq_true c
    refine ⟨_, rfl, ?_⟩
    obtain ⟨a', p', xs, n', e1, e2, e3, e4, e5, e6, e7⟩ := fin L names12 _ good12 nob12 (by decide) c' upd_same La k2 s2
    refine ⟨a', p', xs, n', e1, e2, e3, e4, e5, e6, fun r ys H' x1 x2 x3 x4 x5 x6 => ?_⟩
    obtain ⟨r', ws, y1, y2, y3⟩ := e7 r ys H' x1 x2 x3 x4 x5 x6
    exact ⟨_, rfl, _, rfl, r', ws, y1, y2, y3⟩
  · refine ⟨60, rfl, by decide, by decide, fun D hD => ?_⟩
    have DL : D ≠ L := fun z => by rw [z, upd_same] at hD; cases hD
    have Da := s2.ne hD
    refine lc_range (fun i Hc => Same (L2.upd H1 L (.lst (names12.map V.str))) Hc ∧ Hc D = some (.lst ((names60.take i).map V.str))) ⟨K1.Same.upd hD, upd_same⟩ ?_ ?_
    · rintro i Hc hi ⟨f1, f2⟩
      refine ⟨rfl, ?_⟩
      unfold tYes
      refine iteT ?_
      have hi2 : i < 60 := hi
      have e60 : names60[i]? = some (nameK i) := by
        unfold names60
        rw [List.getElem?_map, List.getElem?_range hi2]
        rfl
      refine ⟨_, rfl, _, rfl, ?_, _, _, rfl, rfl, ?_, _, f2, ?_, fun b o nn => ?_, ?_⟩
      · have : ((0 : Int) + (i : Int)).natAbs < 64 := by omega
        exact Nat.lt_of_le_of_lt (Nat.log2_le_self _) (by omega)
      · have := (good60.2 (nameK i) (List.mem_of_getElem? e60)).2
        unfold nameK at this
        have e : (("h" : Str) ++ Str.ofString (toString ((0 : Int) + (i : Int)))).length = ("h" : Str).length + (Str.ofString (toString ((0 : Int) + (i : Int)))).length := Array.size_append
        rw [e] at this
        exact Nat.le_trans this (by decide)
      · rw [List.length_map]
        exact small1000 (Nat.le_trans (List.length_take_le _ _) (by omega))
      · rw [upd_ne (ne_of_none nn hD)]
        exact f1 b o nn
      · rw [upd_same, map_take_succ e60]
        rfl
    · rintro Hc ⟨f1, f2⟩
      have l60 : names60.length = 60 := by decide +kernel
      have f3 : Hc D = some (.lst (names60.map V.str)) := by
        have e : names60.take 60 = names60 := List.take_of_length_le (by rw [l60]; decide)
        rw [← e]
        exact f2
      have k3 : Kept a (L2.upd H1 L (.lst (names12.map V.str))) Hc := Kept.same f1
      have s3 : Spr Hc a (n + 1) := by
        obtain ⟨x, y, z, e, r⟩ := s2
        exact ⟨x, y, z, f1 _ _ e, r⟩
      obtain ⟨a', p', xs, n', e1, e2, e3, e4, e5, e6, e7⟩ := fin D names60 Hc good60 nob60 (by rw [l60]; decide) (by rw [l60]; omega) f3 Da (k2.trans k3) s3
      refine ⟨a', p', xs, n', e1, e2, e3, e4, e5, e6, fun r ys H' x1 x2 x3 x4 x5 x6 => ?_⟩
      obtain ⟨r', ws, y1, y2, y3⟩ := e7 r ys H' x1 x2 x3 x4 x5 x6
      exact ⟨_, rfl, _, rfl, r', ws, y1, y2, y3⟩
end
end K1
end
-- KLaw3
section
set_option Elab.async false
set_option linter.all false
set_option maxRecDepth 100000
set_option maxHeartbeats 4000000
namespace K1
open PySem PySem.Spec PyProof.Rows L2
abbrev sVRo : Stmt := top 54
/-- each road parts its two ends, and no other road's -/
def Cut (rs : List (Str × Str)) : Prop := rs.Nodup ∧ ∀ e ∈ rs, ∃ c : Str → Bool, c e.1 ≠ c e.2 ∧ ∀ e' ∈ rs, e' ≠ e → c e'.1 = c e'.2
theorem Cut.nil : Cut [] := ⟨List.nodup_nil, fun e he => absurd he (by simp)⟩
theorem Cut.perm {as bs : List (Str × Str)} (h : Cut bs) (p : as.Perm bs) : Cut as := by
  refine ⟨p.nodup_iff.mpr h.1, fun e he => ?_⟩
  obtain ⟨c, h1, h2⟩ := h.2 e (p.mem_iff.mp he)
  exact ⟨c, h1, fun e' he' n => h2 e' (p.mem_iff.mp he') n⟩
theorem Cut.add {rs : List (Str × Str)} {u v : Str} {e0 : Str × Str} (h : Cut rs) (hv : ∀ r ∈ rs, r.1 ≠ v ∧ r.2 ≠ v) (huv : u ≠ v) (he : e0 = (u, v) ∨ e0 = (v, u)) : Cut (rs ++ [e0]) := by
  have ends : (e0.1 = u ∧ e0.2 = v) ∨ (e0.1 = v ∧ e0.2 = u) := he.imp (fun h => by rw [h]; exact ⟨rfl, rfl⟩) (fun h => by rw [h]; exact ⟨rfl, rfl⟩)
  have n0 : ¬ e0 ∈ rs := fun hm => by
    rcases ends with ⟨_, z⟩ | ⟨z, _⟩
    · exact (hv e0 hm).2 z
    · exact (hv e0 hm).1 z
  refine ⟨?_, fun e hm => ?_⟩
  · rw [List.nodup_append]
    refine ⟨h.1, by simp, fun x hx y hy => ?_⟩
    rw [List.mem_singleton.mp hy]
    intro z
    rw [z] at hx
    exact n0 hx
  · rcases List.mem_append.mp hm with hm | hm
    · obtain ⟨c, h1, h2⟩ := h.2 e hm
      refine ⟨fun s => if s = v then c u else c s, ?_, fun e' he' n => ?_⟩
      · show (if e.1 = v then c u else c e.1) ≠ (if e.2 = v then c u else c e.2)
        rw [if_neg (hv e hm).1, if_neg (hv e hm).2]
        exact h1
      · show (if e'.1 = v then c u else c e'.1) = (if e'.2 = v then c u else c e'.2)
        rcases List.mem_append.mp he' with he' | he'
        · rw [if_neg (hv e' he').1, if_neg (hv e' he').2]
          exact h2 e' he' n
        · rw [List.mem_singleton.mp he']
          rcases ends with ⟨z1, z2⟩ | ⟨z1, z2⟩
          · rw [z1, z2, if_neg huv, if_pos rfl]
          · rw [z1, z2, if_neg huv, if_pos rfl]
    · rw [List.mem_singleton.mp hm]
      refine ⟨fun s => decide (s = v), ?_, fun e' he' n => ?_⟩
      · show decide (e0.1 = v) ≠ decide (e0.2 = v)
        rcases ends with ⟨z1, z2⟩ | ⟨z1, z2⟩
        · rw [z1, z2, decide_eq_false huv, decide_eq_true rfl]; decide
        · rw [z1, z2, decide_eq_false huv, decide_eq_true rfl]; decide
      · show decide (e'.1 = v) = decide (e'.2 = v)
        rcases List.mem_append.mp he' with he' | he'
        · rw [decide_eq_false (hv e' he').1, decide_eq_false (hv e' he').2]
        · exact absurd (List.mem_singleton.mp he') n
theorem nodup_take_not' {α : Type} {ss : List α} (h : ss.Nodup) {i : Nat} (hi : i < ss.length) : ¬ ss[i] ∈ ss.take i := fun hm => by
  obtain ⟨j, hj, ej⟩ := List.getElem_of_mem hm
  rw [List.length_take] at hj
  rw [List.getElem_take] at ej
  have := (List.getElem_inj h).mp ej
  omega
theorem col_join {c : Str → Bool} {rt : Str → Str} {a b : Str} (h : ∀ s, c (rt s) = c s) (e : c a = c b) (s : Str) : c (joinRt rt a b s) = c s := by
  unfold joinRt
  by_cases z : rt s = rt a
  · rw [if_pos z, h, ← e, ← h a, ← z, h]
  · rw [if_neg z, h]
theorem col_rt {c : Str → Bool} : ∀ (n : Nat) {rs : List (Str × Str)}, rs.length = n → (∀ e ∈ rs, c e.1 = c e.2) → ∀ s, c (rtOf rs s) = c s
  | 0, rs, h0, _, s => by rw [List.length_eq_zero_iff.mp h0]; rfl
  | n + 1, rs, h0, h, s => by
    have hne : rs ≠ [] := fun z => by rw [z] at h0; cases h0
    have e := List.dropLast_concat_getLast hne
    rw [← e, rtOf_snoc]
    refine col_join (fun t => col_rt n (by rw [List.length_dropLast]; omega) (fun e he => h e ((List.dropLast_sublist _).mem he)) t) (h _ (List.getLast_mem hne)) s
theorem Cut.forest {rs : List (Str × Str)} (h : Cut rs) : Forest rs := by
  intro i hi z
  obtain ⟨c, h1, h2⟩ := h.2 rs[i] (List.getElem_mem hi)
  have hc : ∀ s, c (rtOf (rs.take i) s) = c s := col_rt _ rfl fun e he => h2 e (List.mem_of_mem_take he) (fun q => nodup_take_not' h.1 hi (by rw [← q]; exact he))
  exact h1 (by rw [← hc rs[i].1, z, hc])
def spVRo : Sp := fun vs H Q _ => ∃ (a p : Addr) (n : Nat) (ss : List Str), vs = [.ref a, .ref p] ∧ Spr H a n ∧ n + 2000 ≤ 1000000 ∧ H p = some (.lst (ss.map V.str)) ∧ p ≠ a ∧ Good ss ∧ 1 ≤ ss.length ∧ ss.length ≤ 60 ∧
  ∀ (r : Addr) (qs : List Addr) (rs : List (Str × Str)) (H' : Hp), H r = none → r ≠ a → Kept a H H' → Spr H' a (n + 400) → H' r = some (.lst (qs.map V.ref)) → Paired (TupP H') qs rs → (∀ q ∈ qs, H q = none) → Cut rs → EndsIn ss rs → rs.length + 1 = ss.length → Q (.ref r) H'
theorem scVRo : FnScope ["spring", "names", "shape", "found", "k", "at", "pair"] ["spring", "names"] (defScope sVRo) := ⟨rfl, rfl, rfl, by decide +kernel, rfl, by decide +kernel, by decide +kernel⟩
theorem at4 {a0 a1 a2 a3 s : Int} (h0 : 0 ≤ s) (h1 : s < 4) : ∃ x : Int, atI [V.int a0, V.int a1, V.int a2, V.int a3] s = some (.int x) ∧ (x = a0 ∨ x = a1 ∨ x = a2 ∨ x = a3) := by
  have : s = 0 ∨ s = 1 ∨ s = 2 ∨ s = 3 := by omega
  rcases this with rfl | rfl | rfl | rfl
  · exact ⟨a0, rfl, .inl rfl⟩
  · exact ⟨a1, rfl, .inr (.inl rfl)⟩
  · exact ⟨a2, rfl, .inr (.inr (.inl rfl))⟩
  · exact ⟨a3, rfl, .inr (.inr (.inr rfl))⟩
def unR : V → Addr
  | .ref a => a
  | _ => 0
theorem paired_perm {H : Hp} {qs : List Addr} {rs : List (Str × Str)} (h : Paired (TupP H) qs rs) {ys : List V} (p : ys.Perm (qs.map V.ref)) : ∃ qs' rs', ys = qs'.map V.ref ∧ qs'.Perm qs ∧ rs'.Perm rs ∧ Paired (TupP H) qs' rs' := by
  have e1 : ys = (ys.map unR).map V.ref := by
    rw [List.map_map]
    have : ∀ y ∈ ys, (V.ref ∘ unR) y = y := fun y hy => by
      obtain ⟨s, _, rfl⟩ := List.mem_map.mp (p.mem_iff.mp hy)
      rfl
    exact (List.map_congr_left this).trans (List.map_id _) |>.symm
  have p2 : (ys.map unR).Perm qs := by
    have := p.map unR
    rw [List.map_map] at this
    exact this.trans (List.Perm.of_eq (List.map_id _))
  have key : ∀ {as bs : List Addr}, as.Perm bs → ∀ {ts : List (Str × Str)}, Paired (TupP H) bs ts → ∃ us, us.Perm ts ∧ Paired (TupP H) as us := by
    intro as bs pm
    induction pm with
    | nil => intro ts h; cases h; exact ⟨[], .nil, .nil⟩
    | cons x _ ih =>
      intro ts h
      cases h with
      | cons f r =>
        obtain ⟨us, q1, q2⟩ := ih r
        exact ⟨_ :: us, q1.cons _, .cons f q2⟩
    | swap x y l =>
      intro ts h
      cases h with
      | cons f r =>
        cases r with
        | cons f2 r2 => exact ⟨_ :: _ :: _, .swap _ _ _, .cons f2 (.cons f r2)⟩
    | trans _ _ ih1 ih2 =>
      intro ts h
      obtain ⟨us, q1, q2⟩ := ih2 h
      obtain ⟨ws, q3, q4⟩ := ih1 q2
      exact ⟨ws, q3.trans q1, q4⟩
  obtain ⟨us, q1, q2⟩ := key p2 h
  exact ⟨_, us, e1, p2, q1, q2⟩
theorem Spr.tup {H : Hp} {a q : Addr} {n : Nat} {xs : List V} (h : Spr H a n) (e : H q = some (.tup xs)) : q ≠ a := fun z => by
  obtain ⟨x, y, z2, e2, _⟩ := h
  rw [z, e2] at e
  cases e
theorem TupP.kept {H H' : Hp} {a : Addr} {n : Nat} {qs : List Addr} {rs : List (Str × Str)} (h : Paired (TupP H) qs rs) (s : Spr H a n) (k : Kept a H H') : Paired (TupP H') qs rs := paired_imp (fun _ _ q => k _ _ (s.tup q) q) h
section
variable {P : Program} {w : World} {K : PySem.W.Frag} {mg : Str → Option Value} {base : Heap} {fD fM : Addr} {fdD fdM : FuncData}
theorem ok_VRo {f : Addr} {fd : FuncData} (F : Fun K "_law_v_roads" "_law_v_roads" sVRo f fd) (B : Bl mg) (mr : mg "range" = none) (mx : mg "max" = none)
    (G : FnOk P w K mg base CX0 1 fD fdD ["spring", "many"] spDraw) (b : Binds K fdD ["spring", "many"] []) (k : PySem.W.keepIn K (.ref fD) = true) (m : mg "_law_draw" = some (.ref fD))
    (GM : FnOk P w K mg base CX0 2 fM fdM ["spring", "some"] spMixed) (bM : Binds K fdM ["spring", "some"] []) (kM : PySem.W.keepIn K (.ref fM) = true) (mM : mg "_law_mixed" = some (.ref fM)) :
    FnOk P w K mg base CX0 3 f fd ["spring", "names"] spVRo := by
  refine F.ok scVRo (fun vs H Q E h => ?_) (fun cdv A outer s H vs Q E hr h => ?_)
  · obtain ⟨a, p, n, ss, rfl, _⟩ := h
    rfl
  obtain ⟨a, p, n, ss, rfl, hs, hn, hp, pa, good, l1, l60, q⟩ := h
  have nd := scVRo.nd
  have hr1 : Room 1 _ := hr.mono (by decide)
  refine ⟨_, (pss_cons (by exact (ps_par (i := 2) (j := 3) rfl nd rfl rfl (by decide) rfl rfl (pa_cons (pe_call G hr1 rfl m k b .nil pass0 (pa_cons (pv 0) (pa_cons pe_int pa_nil))) (pa_cons (pe_lst pa_nil) pa_nil)) (by rfl))) (pss_cons (by exact (ps_for PassesOwn.never rfl (by exact pi_range2 rfl mr (pa_cons pe_int (pa_cons (pe_callB call_len_seq rfl B.len PySem.boot_len (pa_cons (pv 1) pa_nil)) pa_nil))) (pg_name (i := 4) nd rfl (.inl rfl)) (pss_cons (by exact (ps_set (i := 5) nd rfl (.inl rfl) (pe_ix ix_list (pe_lst (pa_cons (pe_op op_sub (pv 4) pe_int) (pa_cons pe_int (pa_cons (pe_call G hr1 rfl m k b .nil pass0 (pa_cons (pv 0) (pa_cons (pv 4) pa_nil))) (pa_cons (pe_callB (call_max2 rfl) rfl mx (by decide +kernel) (pa_cons pe_int (pa_cons (pe_op op_sub (pe_op op_sub (pv 4) pe_int) (pe_call G hr1 rfl m k b .nil pass0 (pa_cons (pv 0) (pa_cons pe_int pa_nil)))) pa_nil))) pa_nil))))) (pv 2) (fun _ _ => rfl)))) (pss_cons (by exact (ps_set (i := 6) nd rfl (.inl rfl) (pe_tup (pa_cons (pe_ix ix_list (pv 1) (pv 5) (fun _ _ => rfl)) (pa_cons (pe_ix ix_list (pv 1) (pv 4) (fun _ _ => rfl)) pa_nil))))) (pss_one (by exact (ps_expr (pe_bm PySem.F.plainAttrs_list PySem.F.slot_list_append PySem.F.type_list_append mt_append (pv 3) (pa_cons (pe_ifExp (pt_cmpR op_eq (pe_call G hr1 rfl m k b .nil pass0 (pa_cons (pv 0) (pa_cons pe_int pa_nil))) pe_int (nomark _)) (pv 6) (pe_back (pv 6))) pa_nil))))))))) (pss_one (by exact (ps_ret (pe_call GM hr rfl mM kM bM .nil pass0 (pa_cons (pv 0) (pa_cons (pv 3) pa_nil)))))))), ?_⟩
  refine ⟨_, rfl, a, 4, n, rfl, hs, by omega, by decide, by decide, fun sh H1 s0 s1 kp hs1 => ?_⟩
  refine ⟨Nat.zero_le _, fun L hL => ?_⟩
  have La := hs1.ne hL
  have fr0 : ∀ {Hx : Hp} {z : Addr}, Kept a H Hx → Hx z = none → z ≠ a → H z = none := fun {Hx z} kx hz za => by
    cases e : H z with
    | none => rfl
    | some o => rw [kx _ _ za e] at hz; cases hz
  have LH := fr0 kp hL La
  have pL : p ≠ L := ne_of_none hp LH
  refine ⟨_, _, rfl, _, rfl, p, _, rfl, .inl (SqL.of (by rw [upd_ne pL]; exact kp _ _ pa hp)), _, _, rfl, ⟨by decide, by decide, by rw [List.length_map]; omega, by rw [List.length_map]; omega⟩, ?_⟩
  have hN : ((((ss.map V.str).length : Nat) : Int) - 1).toNat = ss.length - 1 := by rw [List.length_map]; omega
  rw [hN]
  refine for_range (lo := 1) (n := ss.length - 1) (fun i σ Hc => (∃ x y z, σ = [some (.ref a), some (.ref p), some (.int sh), some (.ref L), x, y, z]) ∧ Kept a H Hc ∧ Spr Hc a (n + 1 + 4 * i) ∧ ∃ qs rs, Hc L = some (.lst (qs.map V.ref)) ∧ Paired (TupP Hc) qs rs ∧ (∀ q ∈ qs, H q = none) ∧ Cut rs ∧ EndsIn (ss.take (i + 1)) rs ∧ rs.length = i) ?_ ?_ ?_
  · exact ⟨⟨_, _, _, rfl⟩, kp.trans (Kept.new hL), (hs1.upd La).mono (by omega), [], [], upd_same, .nil, fun q hq => absurd hq (by simp), Cut.nil, fun r hr => absurd hr (by simp), rfl⟩
  · rintro i σ Hc hi ⟨⟨x, y, z, rfl⟩, k1, sp1, qs, rs, g1, g2, g3, g4, g5, g6⟩
    have i59 : i < 60 := by omega
    have ck : ((1 : Int) + (i : Int)).natAbs < 2 ^ 100 := Nat.lt_of_le_of_lt (show ((1 : Int) + (i : Int)).natAbs ≤ 100 by omega) (by decide)
    refine ⟨_, rfl, _, _, rfl, rfl, _, rfl, _, rfl, a, _, _, rfl, sp1, by omega, by omega, ck, fun d2 H2 d20 d21 k2 sp2 => ?_⟩
    refine ⟨_, rfl, _, _, rfl, rfl, _, rfl, a, _, _, rfl, sp2, by omega, by decide, by decide, fun d3 H3 d30 d31 k3 sp3 => ?_⟩
    refine ⟨_, _, rfl, rfl, _, _, rfl, (by show 4 ≤ sizeLine; decide), fun l4 hl4 => ?_⟩
    obtain ⟨x5, e5, o5⟩ := at4 (a0 := 1 + (i : Int) - 1) (a1 := 0) (a2 := d2) (a3 := if 1 + (i : Int) - 1 - d3 > 0 then 1 + (i : Int) - 1 - d3 else 0) s0 s1
    have x50 : 0 ≤ x5 ∧ x5 ≤ (i : Int) := by
      rcases o5 with rfl | rfl | rfl | rfl
      · omega
      · omega
      · omega
      · split <;> omega
    have l4a := sp3.ne hl4
    have k13 := k1.trans (k2.trans k3)
    have k14 : Kept a H (L2.upd H3 l4 (.lst [.int (1 + (i : Int) - 1), .int 0, .int d2, .int (if 1 + (i : Int) - 1 - d3 > 0 then 1 + (i : Int) - 1 - d3 else 0)])) := k13.trans (Kept.new hl4)
    have sp4 : Spr (L2.upd H3 l4 (.lst [.int (1 + (i : Int) - 1), .int 0, .int d2, .int (if 1 + (i : Int) - 1 - d3 > 0 then 1 + (i : Int) - 1 - d3 else 0)])) a (n + 1 + 4 * i + 1 + 1) := sp3.upd l4a
    have g14 : L2.upd H3 l4 (.lst [.int (1 + (i : Int) - 1), .int 0, .int d2, .int (if 1 + (i : Int) - 1 - d3 > 0 then 1 + (i : Int) - 1 - d3 else 0)]) L = some (.lst (qs.map V.ref)) := by
      have h3 := (k2.trans k3) _ _ La g1
      rw [upd_ne (ne_of_none h3 hl4)]
      exact h3
    have t14 : Paired (TupP (L2.upd H3 l4 (.lst [.int (1 + (i : Int) - 1), .int 0, .int d2, .int (if 1 + (i : Int) - 1 - d3 > 0 then 1 + (i : Int) - 1 - d3 else 0)]))) qs rs := TupP.kept g2 sp1 ((k2.trans k3).trans (Kept.new hl4))
    refine ⟨_, rfl, l4, _, sh, _, rfl, rfl, SqL.of upd_same, e5, ?_⟩
    generalize L2.upd H3 l4 (.lst [.int (1 + (i : Int) - 1), .int 0, .int d2, .int (if 1 + (i : Int) - 1 - d3 > 0 then 1 + (i : Int) - 1 - d3 else 0)]) = H4 at k14 sp4 g14 t14 ⊢
    have hp4 := k14 _ _ pa hp
    have hx5 : x5.toNat < ss.length := by omega
    have hik : i + 1 < ss.length := by omega
    have ea : atI (ss.map V.str) x5 = some (.str ss[x5.toNat]) := by
      have := atI_nat (xs := ss.map V.str) (j := x5.toNat) (v := .str ss[x5.toNat]) (by rw [List.getElem?_map, List.getElem?_eq_getElem hx5]; rfl)
      rwa [show ((x5.toNat : Nat) : Int) = x5 by omega] at this
    have ek : atI (ss.map V.str) (1 + (i : Int)) = some (.str ss[i + 1]) := by
      have := atI_nat (xs := ss.map V.str) (j := i + 1) (v := .str ss[i + 1]) (by rw [List.getElem?_map, List.getElem?_eq_getElem hik]; rfl)
      rwa [show (((i + 1 : Nat)) : Int) = 1 + (i : Int) by omega] at this
    refine ⟨_, rfl, _, rfl, p, _, x5, _, rfl, rfl, SqL.of hp4, ea, _, rfl, _, rfl, p, _, _, _, rfl, rfl, SqL.of hp4, ek, (by show 2 ≤ sizeLine; decide), fun t ht => ?_⟩
    have ta := sp4.ne ht
    have tL : t ≠ L := fun z => by rw [z, g14] at ht; cases ht
    have k15 : Kept a H (L2.upd H4 t (.tup [.str ss[x5.toNat], .str ss[i + 1]])) := k14.trans (Kept.new ht)
    have sp5 : Spr (L2.upd H4 t (.tup [.str ss[x5.toNat], .str ss[i + 1]])) a (n + 1 + 4 * i + 1 + 1) := sp4.upd ta
    have g15 : L2.upd H4 t (.tup [.str ss[x5.toNat], .str ss[i + 1]]) L = some (.lst (qs.map V.ref)) := by rw [upd_ne tL.symm]; exact g14
    have t15 := TupP.kept t14 sp4 (Kept.new (a := a) ht (o := .tup [.str ss[x5.toNat], .str ss[i + 1]]))
    have tt : L2.upd H4 t (.tup [.str ss[x5.toNat], .str ss[i + 1]]) t = some (.tup [.str ss[x5.toNat], .str ss[i + 1]]) := upd_same
    have tH := fr0 k14 ht ta
    generalize L2.upd H4 t (.tup [.str ss[x5.toNat], .str ss[i + 1]]) = H5 at k15 sp5 g15 t15 tt ⊢
    refine ⟨_, rfl, .inl ⟨rfl, _, SqL.of g15⟩, _, rfl, a, _, _, rfl, sp5, by omega, by decide, by decide, fun d6 H6 d60 d61 k6 sp6 => ?_⟩
    have nv : ¬ ss[i + 1] ∈ ss.take (i + 1) := nodup_take_not good.1 hik
    have mv : ss[x5.toNat] ∈ ss.take (i + 1) := List.mem_take_iff_getElem.mpr ⟨x5.toNat, by omega, rfl⟩
    have ends2 : ∀ r ∈ rs, r.1 ≠ ss[i + 1] ∧ r.2 ≠ ss[i + 1] := fun r hr => ⟨fun z => nv (by rw [← z]; exact (g5 r hr).1), fun z => nv (by rw [← z]; exact (g5 r hr).2)⟩
    have huv : ss[x5.toNat] ≠ ss[i + 1] := fun z => nv (by rw [← z]; exact mv)
    have up1 : ∀ s ∈ ss.take (i + 1), s ∈ ss.take (i + 1 + 1) := fun s hs => (mem_take_succ hik).mpr (.inl hs)
    have lq : qs.length = rs.length := g2.length
    -- the new pair stands at t2
    have fin : ∀ (t2 : Addr) (e0 : Str × Str) (H7 : Hp), (e0 = (ss[x5.toNat], ss[i + 1]) ∨ e0 = (ss[i + 1], ss[x5.toNat])) → Kept a H H7 → Spr H7 a (n + 1 + 4 * i + 1 + 1 + 1) → H7 L = some (.lst (qs.map V.ref)) → Paired (TupP H7) qs rs → TupP H7 t2 e0 → H t2 = none →
        ∃ l xs y, V.ref L = .ref l ∧ [V.ref t2] = [y] ∧ H7 l = some (.lst xs) ∧ xs.length < sizeLine ∧ ((∃ x y z, ([some (.ref a), some (.ref p), some (.int sh), some (.ref L), some (.int (1 + (i : Int))), some (.int x5), some (.ref t)] : L2.St) = [some (.ref a), some (.ref p), some (.int sh), some (.ref L), x, y, z]) ∧
          Kept a H (L2.upd H7 l (.lst (xs ++ [y]))) ∧ Spr (L2.upd H7 l (.lst (xs ++ [y]))) a (n + 1 + 4 * (i + 1)) ∧ ∃ qs rs, L2.upd H7 l (.lst (xs ++ [y])) L = some (.lst (qs.map V.ref)) ∧ Paired (TupP (L2.upd H7 l (.lst (xs ++ [y])))) qs rs ∧ (∀ q ∈ qs, H q = none) ∧ Cut rs ∧ EndsIn (ss.take (i + 1 + 1)) rs ∧ rs.length = i + 1) := by
      intro t2 e0 H7 he kx sx gx tx tp tn
      have keepT : ∀ q r, TupP H7 q r → TupP (L2.upd H7 L (.lst (qs.map V.ref ++ [.ref t2]))) q r := fun q r e => by
        have ne : q ≠ L := fun z => by
          have e' : H7 q = _ := e
          rw [z, gx] at e'
          cases e'
        show L2.upd H7 L _ q = _
        rw [upd_ne ne]
        exact e
      refine ⟨L, _, _, rfl, rfl, gx, by rw [List.length_map]; exact small1000 (by omega), ⟨_, _, _, rfl⟩, fun b o nb e => ?_, (sx.upd La).mono (by omega), qs ++ [t2], rs ++ [e0], ?_, ?_, fun q hq => ?_, g4.add ends2 huv he, fun r hr => ?_, by rw [List.length_append, g6]; rfl⟩
      · rw [upd_ne (ne_of_none e LH)]
        exact kx b o nb e
      · rw [upd_same, List.map_append]
        rfl
      · have pz : ∀ {as : List Addr} {bs : List (Str × Str)}, Paired (TupP H7) as bs → Paired (TupP (L2.upd H7 L (.lst (qs.map V.ref ++ [.ref t2])))) (as ++ [t2]) (bs ++ [e0]) := by
          intro as bs h
          induction h with
          | nil => exact .cons (keepT _ _ tp) .nil
          | cons f1 f2 ih => exact .cons (keepT _ _ f1) ih
        exact pz tx
      · rcases List.mem_append.mp hq with hq | hq
        · exact g3 q hq
        · rw [List.mem_singleton.mp hq]
          exact tn
      · rcases List.mem_append.mp hr with hr | hr
        · exact ⟨up1 _ (g5 r hr).1, up1 _ (g5 r hr).2⟩
        · rw [List.mem_singleton.mp hr]
          have m2 : ss[i + 1] ∈ ss.take (i + 1 + 1) := (mem_take_succ hik).mpr (.inr rfl)
          rcases he with rfl | rfl
          · exact ⟨up1 _ mv, m2⟩
          · exact ⟨m2, up1 _ mv⟩
    have g16 := k6 _ _ La g15
    have t16 := TupP.kept t15 sp5 k6
    have tt6 := k6 _ _ ta tt
    refine ⟨rfl, _, rfl, ?_⟩
    refine ite2 (fun c => ?_) (fun c => ?_)
    · exact ⟨_, rfl, fin t _ H6 (.inl rfl) (k15.trans k6) sp6 g16 t16 tt6 tH⟩
    · refine ⟨_, rfl, t, _, _, rfl, SqT.of tt6, fun t2 ht2 => ?_⟩
      have ta2 := sp6.ne ht2
      have tn2 : t2 ≠ L := fun z => by rw [z, g16] at ht2; cases ht2
      refine fin t2 (ss[i + 1], ss[x5.toNat]) _ (.inr rfl) ((k15.trans k6).trans (Kept.new ht2)) (sp6.upd ta2) (by rw [upd_ne tn2.symm]; exact g16) (TupP.kept t16 sp6 (Kept.new ht2)) upd_same (fr0 (k15.trans k6) ht2 ta2)
  · rintro σ Hc ⟨⟨x, y, z, rfl⟩, k1, sp1, qs, rs, g1, g2, g3, g4, g5, g6⟩
    have lq : qs.length = rs.length := g2.length
    refine ⟨_, rfl, _, rfl, a, L, qs.map V.ref, _, rfl, sp1, by omega, g1, La, by rw [List.length_map]; omega, fun r ys H' pm rn ra hr3 k3 s3 => ?_⟩
    obtain ⟨qs', rs', rfl, pq, pr, pp⟩ := paired_perm g2 pm
    have le : ss.take (ss.length - 1 + 1) = ss := List.take_of_length_le (by omega)
    rw [le] at g5
    refine q r qs' rs' H' (fr0 k1 rn ra) ra (k1.trans k3) (s3.mono (by rw [List.length_map]; omega)) hr3 (TupP.kept pp sp1 k3) (fun z hz => g3 z (pq.mem_iff.mp hz)) (g4.perm pr) (fun r hr => g5 r (pr.mem_iff.mp hr)) (by rw [pr.length_eq]; omega)
end
end K1
end
-- NMath
section
set_option Elab.async false
set_option linter.all false
set_option maxRecDepth 100000
set_option maxHeartbeats 1000000
namespace K1
open PySem PySem.Spec PyProof.Rows L2
/-! trees: one root, the cut of a road, the reach of a house without another, the way -/
theorem rt_fold {ss : List Str} : ∀ (rs : List (Str × Str)) (rt : Str → Str), EndsIn ss rs → (∀ s, rt (rt s) = rt s) → (∀ s ∈ ss, rt s ∈ ss) →
    (∀ s, (rs.foldl (fun rt e => joinRt rt e.1 e.2) rt) ((rs.foldl (fun rt e => joinRt rt e.1 e.2) rt) s) = (rs.foldl (fun rt e => joinRt rt e.1 e.2) rt) s) ∧ ∀ s ∈ ss, (rs.foldl (fun rt e => joinRt rt e.1 e.2) rt) s ∈ ss
  | [], rt, _, h1, h2 => ⟨h1, h2⟩
  | e :: rs, rt, he, h1, h2 => by
    have he1 := he e (List.mem_cons_self ..)
    refine rt_fold rs (joinRt rt e.1 e.2) (fun r hr => he r (List.mem_cons_of_mem _ hr)) (fun s => ?_) (fun s hs => ?_)
    · unfold joinRt
      by_cases z : rt s = rt e.1
      · rw [if_pos z]
        by_cases z2 : rt (rt e.2) = rt e.1
        · rw [if_pos z2]
        · rw [if_neg z2, h1]
      · rw [if_neg z, if_neg (by rw [h1]; exact z), h1]
    · unfold joinRt
      by_cases z : rt s = rt e.1
      · rw [if_pos z]; exact h2 _ he1.2
      · rw [if_neg z]; exact h2 _ hs
theorem rt_idem {rs : List (Str × Str)} (s : Str) : rtOf rs (rtOf rs s) = rtOf rs s := by
  refine (rt_fold (ss := rs.map (·.1) ++ rs.map (·.2)) rs (fun s => s) (fun r hr => ⟨?_, ?_⟩) (fun _ => rfl) fun _ h => h).1 s
  · exact List.mem_append_left _ (List.mem_map.mpr ⟨r, hr, rfl⟩)
  · exact List.mem_append_right _ (List.mem_map.mpr ⟨r, hr, rfl⟩)
theorem rt_in {ss : List Str} {rs : List (Str × Str)} (he : EndsIn ss rs) {s : Str} (hs : s ∈ ss) : rtOf rs s ∈ ss := (rt_fold rs (fun s => s) he (fun _ => rfl) fun _ h => h).2 s hs
theorem filter_ne_len {α : Type} [DecidableEq α] {a : α} : ∀ {l : List α}, l.Nodup → a ∈ l → (l.filter fun x => decide (x ≠ a)).length + 1 = l.length
  | [], _, h => absurd h (by simp)
  | b :: l, nd, h => by
    have n := List.nodup_cons.mp nd
    by_cases e : b = a
    · subst e
      have : l.filter (fun x => decide (x ≠ b)) = l := List.filter_eq_self.mpr fun x hx => decide_eq_true fun z => n.1 (by rw [← z]; exact hx)
      rw [List.filter_cons, if_neg (by simp), this]
      rfl
    · rw [List.filter_cons, if_pos (decide_eq_true e), List.length_cons, List.length_cons, filter_ne_len n.2 ((List.mem_cons.mp h).resolve_left fun z => e z.symm)]
def rootsOf (ss : List Str) (rs : List (Str × Str)) : List Str := ss.filter fun s => decide (rtOf rs s = s)
theorem roots_len {ss : List Str} {rs : List (Str × Str)} (hn : ss.Nodup) (he : EndsIn ss rs) (f : Forest rs) : ∀ i, i ≤ rs.length → (rootsOf ss (rs.take i)).length + i = ss.length
  | 0, _ => by
    have : rootsOf ss (rs.take 0) = ss := List.filter_eq_self.mpr fun s _ => decide_eq_true rfl
    rw [this]
    rfl
  | i + 1, hi => by
    have ih := roots_len hn he f i (Nat.le_of_succ_le hi)
    have ee := he _ (List.getElem_mem hi)
    have et : EndsIn ss (rs.take i) := fun r hr => he r (List.mem_of_mem_take hr)
    have ne := f i hi
    have e : rootsOf ss (rs.take (i + 1)) = (rootsOf ss (rs.take i)).filter fun x => decide (x ≠ rtOf (rs.take i) rs[i].1) := by
      unfold rootsOf
      rw [List.filter_filter]
      refine List.filter_congr fun s _ => ?_
      rw [rtOf_succ hi]
      unfold joinRt
      rw [Bool.eq_iff_iff, Bool.and_eq_true, decide_eq_true_eq, decide_eq_true_eq, decide_eq_true_eq]
      by_cases z : rtOf (rs.take i) s = rtOf (rs.take i) rs[i].1
      · rw [if_pos z]
        constructor
        · intro h
          have h2 := rt_idem (rs := rs.take i) rs[i].2
          rw [h, z] at h2
          exact absurd (h2.trans h.symm) ne
        · rintro ⟨h1, h2⟩
          exact absurd (h2.symm.trans z) h1
      · rw [if_neg z]
        constructor
        · intro h
          exact ⟨fun q => z (h.trans q), h⟩
        · exact fun h => h.2
    have hm : rtOf (rs.take i) rs[i].1 ∈ rootsOf ss (rs.take i) := List.mem_filter.mpr ⟨rt_in et ee.1, decide_eq_true (rt_idem _)⟩
    have := filter_ne_len (List.Pairwise.filter _ hn) hm
    rw [e]
    unfold rootsOf at this ih ⊢
    omega
/-- what a tree of roads is here -/
structure Tree (ss : List Str) (rs : List (Str × Str)) : Prop where
  nd : ss.Nodup
  ends : EndsIn ss rs
  cut : Cut rs
  len : rs.length + 1 = ss.length
theorem Tree.root {ss : List Str} {rs : List (Str × Str)} (T : Tree ss rs) {s t : Str} (hs : s ∈ ss) (ht : t ∈ ss) : rtOf rs s = rtOf rs t := by
  have h := roots_len T.nd T.ends T.cut.forest rs.length (Nat.le_refl _)
  rw [List.take_length] at h
  have l1 : (rootsOf ss rs).length = 1 := by have := T.len; omega
  obtain ⟨r, hr⟩ := List.length_eq_one_iff.mp l1
  have a : ∀ u ∈ ss, rtOf rs u = r := fun u hu => by
    have : rtOf rs u ∈ rootsOf ss rs := List.mem_filter.mpr ⟨rt_in T.ends hu, decide_eq_true (rt_idem _)⟩
    rw [hr] at this
    exact List.mem_singleton.mp this
  rw [a s hs, a t ht]
/-- what is alike at both ends of each road is alike everywhere -/
theorem Tree.all {ss : List Str} {rs : List (Str × Str)} (T : Tree ss rs) {S : Str → Prop} (h : ∀ e ∈ rs, S e.1 ↔ S e.2) {s t : Str} (hs : s ∈ ss) (ht : t ∈ ss) (q : S s) : S t := by
  classical
  have c := col_rt (c := fun u => decide (S u)) _ (rfl : rs.length = rs.length) fun e he => decide_eq_decide.mpr (h e he)
  have e1 := c s
  have e2 := c t
  rw [T.root hs ht] at e1
  have := e1.symm.trans e2
  exact (decide_eq_decide.mp this).mp q
theorem nbB_iff {rs : List (Str × Str)} {s t : Str} : nbB rs s t = true ↔ (s, t) ∈ rs ∨ (t, s) ∈ rs := by
  unfold nbB
  rw [List.any_eq_true]
  constructor
  · rintro ⟨r, hr, h⟩
    rcases of_decide_eq_true h with h | h
    · exact .inl (h ▸ hr)
    · exact .inr (h ▸ hr)
  · rintro (h | h)
    · exact ⟨_, h, decide_eq_true (.inl rfl)⟩
    · exact ⟨_, h, decide_eq_true (.inr rfl)⟩
theorem nbB_swap {rs : List (Str × Str)} {s t : Str} : nbB rs s t = nbB rs t s := by
  rw [Bool.eq_iff_iff, nbB_iff, nbB_iff]
  exact Or.comm
theorem EndsIn.nb {ss : List Str} {rs : List (Str × Str)} (h : EndsIn ss rs) {s t : Str} (e : nbB rs s t = true) : s ∈ ss ∧ t ∈ ss := by
  rcases nbB_iff.mp e with e | e
  · exact h _ e
  · exact (h _ e).symm
theorem mem_nbs {ss : List Str} {rs : List (Str × Str)} (h : EndsIn ss rs) {s t : Str} : t ∈ nbs ss rs s ↔ nbB rs s t = true := by
  unfold nbs
  rw [List.mem_filter]
  exact ⟨fun h => h.2, fun e => ⟨(h.nb e).2, e⟩⟩
/-- the two sides of a road, as colours -/
theorem Cut.side {rs : List (Str × Str)} (h : Cut rs) {a b : Str} (e : nbB rs a b = true) : ∃ c : Str → Bool, c a ≠ c b ∧ ∀ s t, nbB rs s t = true → ¬ (s = a ∧ t = b) → ¬ (s = b ∧ t = a) → c s = c t := by
  have hx : ∀ e0 : Str × Str, e0 ∈ rs → (e0 = (a, b) ∨ e0 = (b, a)) → ∃ c : Str → Bool, c a ≠ c b ∧ ∀ s t, nbB rs s t = true → ¬ (s = a ∧ t = b) → ¬ (s = b ∧ t = a) → c s = c t := by
    intro e0 he0 w
    obtain ⟨c, h1, h2⟩ := h.2 e0 he0
    refine ⟨c, ?_, fun s t q n1 n2 => ?_⟩
    · rcases w with w | w
      · rw [w] at h1; exact h1
      · rw [w] at h1; exact h1.symm
    · have nn : ∀ x y : Str, ¬ (x = a ∧ y = b) → ¬ (x = b ∧ y = a) → (x, y) ≠ e0 := fun x y m1 m2 z => by
        rcases w with w | w
        · rw [w] at z; exact m1 ⟨congrArg Prod.fst z, congrArg Prod.snd z⟩
        · rw [w] at z; exact m2 ⟨congrArg Prod.fst z, congrArg Prod.snd z⟩
      rcases nbB_iff.mp q with q | q
      · exact h2 _ q (nn _ _ n1 n2)
      · exact (h2 _ q (nn _ _ (fun m => n2 ⟨m.2, m.1⟩) (fun m => n1 ⟨m.2, m.1⟩))).symm
  rcases nbB_iff.mp e with e | e
  · exact hx _ e (.inl rfl)
  · exact hx _ e (.inr rfl)
theorem Cut.irr {rs : List (Str × Str)} (h : Cut rs) {a b : Str} (e : nbB rs a b = true) : a ≠ b := by
  obtain ⟨c, h1, _⟩ := h.side e
  exact fun z => h1 (by rw [z])
/-- what is reached from other without coming into one -/
inductive Rch (rs : List (Str × Str)) (one other : Str) : Str → Prop
  | base : Rch rs one other other
  | step {s t : Str} : Rch rs one other s → nbB rs s t = true → t ≠ one → Rch rs one other t
theorem Rch.ne {rs : List (Str × Str)} {one other t : Str} (ne : other ≠ one) (h : Rch rs one other t) : t ≠ one := by
  cases h with
  | base => exact ne
  | step _ _ n => exact n
theorem Rch.mem {ss : List Str} {rs : List (Str × Str)} {one other t : Str} (he : EndsIn ss rs) (ho : other ∈ ss) (h : Rch rs one other t) : t ∈ ss := by
  cases h with
  | base => exact ho
  | step _ q _ => exact (he.nb q).2
theorem Rch.col {rs : List (Str × Str)} {one other t : Str} {c : Str → Bool} (ne : other ≠ one) (hc : ∀ s t, nbB rs s t = true → ¬ (s = one ∧ t = other) → ¬ (s = other ∧ t = one) → c s = c t) (h : Rch rs one other t) : c t = c other := by
  induction h with
  | base => rfl
  | @step s t h q n ih => rw [← ih]; exact (hc s t q (fun z => h.ne ne z.1) (fun z => n z.2)).symm
/-- the sides of a road: none in both, all in one of them -/
theorem Tree.sides {ss : List Str} {rs : List (Str × Str)} (T : Tree ss rs) {one other : Str} (e : nbB rs one other = true) {t : Str} (ht : t ∈ ss) : Rch rs other one t ↔ ¬ Rch rs one other t := by
  obtain ⟨c, h1, h2⟩ := T.cut.side e
  have ne : one ≠ other := T.cut.irr e
  constructor
  · intro a b
    have c1 := a.col (c := c) ne (fun s t q n1 n2 => h2 s t q n2 n1)
    have c2 := b.col (c := c) ne.symm h2
    exact h1 (c1.symm.trans c2)
  · intro nb
    refine (?_ : Rch rs one other t ∨ Rch rs other one t).resolve_left nb
    have st : ∀ a b, nbB rs a b = true → (Rch rs one other a ∨ Rch rs other one a) → (Rch rs one other b ∨ Rch rs other one b) := by
      intro a b q h
      rcases h with h | h
      · by_cases z : b = one
        · rw [z]; exact .inr .base
        · exact .inl (h.step q z)
      · by_cases z : b = other
        · rw [z]; exact .inl .base
        · exact .inr (h.step q z)
    refine T.all (S := fun u => Rch rs one other u ∨ Rch rs other one u) (fun r hr => ?_) (T.ends.nb e).2 ht (.inl .base)
    have q : nbB rs r.1 r.2 = true := nbB_iff.mpr (.inl hr)
    exact ⟨st _ _ q, st _ _ (by rw [nbB_swap]; exact q)⟩
/-- a way: no house twice -/
inductive Pt (rs : List (Str × Str)) : Str → List Str → Str → Prop
  | one (s : Str) : Pt rs s [s] s
  | cons {s u t : Str} {l : List Str} : nbB rs s u = true → Pt rs u l t → s ∉ l → Pt rs s (s :: l) t
theorem Pt.head {rs : List (Str × Str)} {s t : Str} {l : List Str} (h : Pt rs s l t) : ∃ r, l = s :: r := by
  cases h with
  | one => exact ⟨_, rfl⟩
  | cons _ _ _ => exact ⟨_, rfl⟩
theorem Pt.last {rs : List (Str × Str)} {s t : Str} {l : List Str} (h : Pt rs s l t) : l.getLast? = some t := by
  induction h with
  | one => rfl
  | cons _ h _ ih =>
    obtain ⟨r, rfl⟩ := h.head
    rw [List.getLast?_cons_cons]
    exact ih
theorem Pt.end_mem {rs : List (Str × Str)} {s t : Str} {l : List Str} (h : Pt rs s l t) : t ∈ l := List.mem_of_getLast? h.last
theorem Pt.nd {rs : List (Str × Str)} {s t : Str} {l : List Str} (h : Pt rs s l t) : l.Nodup := by
  induction h with
  | one => simp
  | cons _ _ n ih => exact List.nodup_cons.mpr ⟨n, ih⟩
theorem Pt.mem {ss : List Str} {rs : List (Str × Str)} (he : EndsIn ss rs) {s t : Str} {l : List Str} (h : Pt rs s l t) (ht : t ∈ ss) : ∀ u ∈ l, u ∈ ss := by
  induction h with
  | one => intro u hu; rw [List.mem_singleton.mp hu]; exact ht
  | cons q _ _ ih =>
    intro u hu
    rcases List.mem_cons.mp hu with rfl | hu
    · exact (he.nb q).1
    · exact ih ht u hu
/-- off a house, along a way that does not come through it, the colour stays -/
theorem Pt.col {rs : List (Str × Str)} {s t a b : Str} {l : List Str} {c : Str → Bool} (hc : ∀ s t, nbB rs s t = true → ¬ (s = a ∧ t = b) → ¬ (s = b ∧ t = a) → c s = c t) (h : Pt rs s l t) (n : a ∉ l) : c s = c t := by
  induction h with
  | one => rfl
  | @cons s u t l q h m ih =>
    have hu : u ∈ l := by
      obtain ⟨r, rfl⟩ := h.head
      exact List.mem_cons_self ..
    rw [← ih fun z => n (List.mem_cons_of_mem _ z)]
    exact hc s u q (fun z => n (by rw [z.1]; exact List.mem_cons_self ..)) (fun z => n (by rw [← z.2]; exact List.mem_cons_of_mem _ hu))
/-- there is one way at most -/
theorem Pt.uniq {rs : List (Str × Str)} (hcut : Cut rs) {s t : Str} {l : List Str} (h : Pt rs s l t) : ∀ {l' : List Str}, Pt rs s l' t → l = l' := by
  induction h with
  | one s =>
    intro l' h'
    cases h' with
    | one => rfl
    | cons _ h n => exact absurd h.end_mem n
  | @cons s u t l q h m ih =>
    intro l' h'
    cases h' with
    | one => exact absurd h.end_mem m
    | @cons _ v _ l2 q2 h2 m2 =>
      by_cases e : u = v
      · subst e
        rw [ih h2]
      · obtain ⟨c, c1, c2⟩ := hcut.side q
        have k1 := h.col (a := s) (b := u) c2 m
        have k2 := h2.col (a := s) (b := u) c2 m2
        have ne := hcut.irr q
        have k3 := c2 s v q2 (fun z => e z.2.symm) (fun z => ne z.1)
        exact absurd (k3.trans (k2.trans k1.symm)) c1
theorem Pt.tail {rs : List (Str × Str)} {s t y : Str} {l : List Str} (h : Pt rs s l t) (hy : y ∈ l) : ∃ l', Pt rs y l' t ∧ ∀ u ∈ l', u ∈ l := by
  induction h with
  | one s => rw [List.mem_singleton.mp hy]; exact ⟨_, .one s, fun _ h => h⟩
  | @cons s u t l q h m ih =>
    rcases List.mem_cons.mp hy with rfl | hy
    · exact ⟨_, .cons q h m, fun _ h => h⟩
    · obtain ⟨l', a, b⟩ := ih hy
      exact ⟨l', a, fun u hu => List.mem_cons_of_mem _ (b u hu)⟩
theorem Pt.snoc {rs : List (Str × Str)} {s x y : Str} {l : List Str} (h : Pt rs s l x) (q : nbB rs x y = true) (n : y ∉ l) : Pt rs s (l ++ [y]) y := by
  induction h with
  | one s => exact .cons q (.one y) (fun z => n (by rw [List.mem_singleton.mp z]; exact List.mem_cons_self ..))
  | @cons s u t l q2 h m ih =>
    refine .cons q2 (ih q fun z => n (List.mem_cons_of_mem _ z)) fun z => ?_
    rcases List.mem_append.mp z with z | z
    · exact m z
    · exact n (by rw [← List.mem_singleton.mp z]; exact List.mem_cons_self ..)
theorem Tree.way {ss : List Str} {rs : List (Str × Str)} (T : Tree ss rs) {s t : Str} (hs : s ∈ ss) (ht : t ∈ ss) : ∃ l, Pt rs s l t := by
  have st : ∀ a b, nbB rs a b = true → (∃ l, Pt rs a l t) → ∃ l, Pt rs b l t := by
    rintro a b q ⟨l, h⟩
    by_cases z : b ∈ l
    · obtain ⟨l', h', _⟩ := h.tail z
      exact ⟨l', h'⟩
    · exact ⟨_, .cons (by rw [nbB_swap]; exact q) h z⟩
  refine T.all (S := fun u => ∃ l, Pt rs u l t) (fun r hr => ?_) ht hs ⟨_, .one t⟩
  have q : nbB rs r.1 r.2 = true := nbB_iff.mpr (.inl hr)
  exact ⟨st _ _ q, st _ _ (by rw [nbB_swap]; exact q)⟩
end K1
end
-- NErr
section
set_option Elab.async false
set_option linter.all false
set_option maxRecDepth 100000
set_option maxHeartbeats 4000000
namespace K1
open PySem PySem.Spec PyProof.Rows L2
abbrev sIN : Stmt := inClass (top 7) 0
abbrev sIO : Stmt := inClass (top 8) 0
/-- an error's class, with these fields -/
structure ErF (K : PySem.W.Frag) (mg : Str → Option Value) (x : Str) (C f : Addr) (fs : List Str) : Prop where
  m : mg x = some (.ref C)
  ox : OexC K C
  no : ∀ n ∈ fs, PySem.W.findIn K (.ref C) n = some none
  ini : PySem.W.findIn K (.ref C) "__init__" = some (some (.ref f))
  ty : PySem.W.typeIn K (.ref f) = some (.type "function")
def spEr1 (C : Addr) (n : Str) : Sp := fun vs H Q _ => ∃ (a : Addr) (v : V), vs = [.ref a, v] ∧ H a = some (exo a C none) ∧ ∀ d, H d = none → d ≠ a → Q .non (upd (upd H d (exd d [(n, v)])) a (exo a C (some d)))
def spEr2 (C : Addr) : Sp := fun vs H Q _ => ∃ (a : Addr) (v u : V), vs = [.ref a, v, u] ∧ H a = some (exo a C none) ∧ ∀ d, H d = none → d ≠ a → Q .non (upd (upd (upd H d (exd d [("one", v)])) a (exo a C (some d))) d (exd d [("other", u), ("one", v)]))
theorem scIN : FnScope ["self", "house"] ["self", "house"] (defScope sIN) := ⟨rfl, rfl, rfl, by decide +kernel, rfl, by decide +kernel, by decide +kernel⟩
theorem scIO : FnScope ["self", "one", "other"] ["self", "one", "other"] (defScope sIO) := ⟨rfl, rfl, rfl, by decide +kernel, rfl, by decide +kernel, by decide +kernel⟩
/-- what goes out: a new error of the class, with these fields -/
def GoesF (C : Addr) (fs : List (Str × V)) (H : Hp) (E : XK) : Prop := ∀ (d : Addr) (H' : Hp), Same H H' → H d = none → H' d = some (.xd fs) → E (.ref C) (some d) H'
theorem GoesF.ext {C : Addr} {fs : List (Str × V)} {H H1 : Hp} {E : XK} (g : GoesF C fs H E) (e : Same H H1) : GoesF C fs H1 E := fun d H' e2 n h => g d H' (e.trans e2) (e.free n) h
theorem raise_one {C : Addr} {E : XK} {H0 H : Hp} {n : Str} {v : V} (g : GoesF C [(n, v)] H0 E) (e : Same H0 H) :
    ∀ a, H a = none → spEr1 C n [V.ref a, v] (upd H a (exo a C none)) (fun v H2 => v = .non ∧ ∃ (d : Addr) (fs : List (Str × V)), H2 a = some (exo a C (some d)) ∧ H2 d = some (exd d fs) ∧ H d = none ∧ E (.ref C) (some d) (upd (del H2 a) d (.xd fs))) (fun _ _ _ => False) := by
  intro a ha
  refine ⟨a, v, rfl, upd_same, fun d hd hda => ⟨rfl, d, [(n, v)], upd_same, ?_, ?_, ?_⟩⟩
  · rw [upd_ne hda, upd_same]
  · rw [upd_ne hda] at hd
    exact hd
  · rw [upd_ne hda] at hd
    refine g d _ (fun b o n => ?_) (e.free hd) upd_same
    have n1 := e b o n
    have b1 : b ≠ a := ne_of_none n1 ha
    have b2 : b ≠ d := ne_of_none n1 hd
    rw [upd_ne b2, del_ne b1, upd_ne b1, upd_ne b2, upd_ne b1]
    exact n1
theorem raise_two {C : Addr} {E : XK} {H0 H : Hp} {v u : V} (g : GoesF C [("other", u), ("one", v)] H0 E) (e : Same H0 H) :
    ∀ a, H a = none → spEr2 C [V.ref a, v, u] (upd H a (exo a C none)) (fun v H2 => v = .non ∧ ∃ (d : Addr) (fs : List (Str × V)), H2 a = some (exo a C (some d)) ∧ H2 d = some (exd d fs) ∧ H d = none ∧ E (.ref C) (some d) (upd (del H2 a) d (.xd fs))) (fun _ _ _ => False) := by
  intro a ha
  refine ⟨a, v, u, rfl, upd_same, fun d hd hda => ⟨rfl, d, [("other", u), ("one", v)], ?_, upd_same, ?_, ?_⟩⟩
  · rw [upd_ne hda.symm, upd_same]
  · rw [upd_ne hda] at hd
    exact hd
  · rw [upd_ne hda] at hd
    refine g d _ (fun b o n => ?_) (e.free hd) upd_same
    have n1 := e b o n
    have b1 : b ≠ a := ne_of_none n1 ha
    have b2 : b ≠ d := ne_of_none n1 hd
    rw [upd_ne b2, del_ne b1, upd_ne b2, upd_ne b1, upd_ne b2, upd_ne b1]
    exact n1
section
variable {P : Program} {w : World} {K : PySem.W.Frag} {mg : Str → Option Value} {base : Heap} {CF : Addr}
theorem ok_iN {f C : Addr} {fd : FuncData} (F : Fun K "__init__" "NoHouse.__init__" sIN f fd) (T : FeC K mg CF) (TC : ErF K mg "NoHouse" C f ["house"]) : FnOk P w K mg base CX0 1 f fd ["self", "house"] (spEr1 C "house") := by
  refine F.ok scIN (fun vs H Q E h => ?_) (fun cdv A outer s H vs Q E hr h => ?_)
  · obtain ⟨a, v, rfl, _⟩ := h
    rfl
  obtain ⟨a, v, rfl, ha, q⟩ := h
  refine ⟨_, pss_cons (by exact ps_expr (pe_feinit rfl T (pa_cons (pv 0) (pa_cons pe_str pa_nil)))) (pss_one (by exact ps_ost (pv 0) (pv 1))), ?_⟩
  refine ⟨_, rfl, a, C, [.str _], rfl, (by decide), TC.ox, ha, _, rfl, _, rfl, a, C, rfl, TC.ox, TC.no _ (by simp), .inl ⟨ha, fun d hd n => q d hd n⟩⟩
theorem ok_iO {f C : Addr} {fd : FuncData} (F : Fun K "__init__" "NoRoad.__init__" sIO f fd) (T : FeC K mg CF) (TC : ErF K mg "NoRoad" C f ["one", "other"]) : FnOk P w K mg base CX0 1 f fd ["self", "one", "other"] (spEr2 C) := by
  refine F.ok scIO (fun vs H Q E h => ?_) (fun cdv A outer s H vs Q E hr h => ?_)
  · obtain ⟨a, v, u, rfl, _⟩ := h
    rfl
  obtain ⟨a, v, u, rfl, ha, q⟩ := h
  refine ⟨_, pss_cons (by exact ps_expr (pe_feinit rfl T (pa_cons (pv 0) (pa_cons pe_str pa_nil)))) (pss_cons (by exact ps_ost (pv 0) (pv 1)) (pss_one (by exact ps_ost (pv 0) (pv 2)))), ?_⟩
  refine ⟨_, rfl, a, C, [.str _], rfl, (by decide), TC.ox, ha, _, rfl, _, rfl, a, C, rfl, TC.ox, TC.no _ (by simp), .inl ⟨ha, fun d hd n => ?_⟩⟩
  refine ⟨_, rfl, _, rfl, a, C, rfl, TC.ox, TC.no _ (by simp), .inr ⟨d, [("one", v)], upd_same, by rw [upd_ne n]; exact upd_same, (by show 1 ≤ 900; decide), q d hd n⟩⟩
end
end K1
end
-- NMeth
section
set_option Elab.async false
set_option linter.all false
set_option maxRecDepth 100000
set_option maxHeartbeats 4000000
namespace K1
open PySem PySem.Spec PyProof.Rows L2
abbrev sWa : Stmt := inClass (top 24) 6
abbrev sIs : Stmt := inClass (top 24) 8
abbrev sNe : Stmt := inClass (top 24) 10
abbrev sPl : Stmt := inClass (top 24) 11
abbrev sNr : Stmt := inClass (top 24) 12
/-- a Valley of these houses, roads, heads -/
def IsV (C : Addr) (H : Hp) (x : Addr) (ss : List Str) (rs : List (Str × Str)) (ns : List Int) : Prop := ss.length = ns.length ∧ ∃ l1 l2 l3 d1 d2 d3 qs bs, ValS C H x l1 l2 l3 d1 d2 d3 qs bs ss rs ns
/-- no house -/
def NoHo (K : PySem.W.Frag) (H : Hp) (ss : List Str) (v : V) : Prop := (∃ s, v = .str s ∧ s ∉ ss) ∨ ∃ t, TyX K H v (.type t) ∧ t ∈ kinds ∧ t ≠ "str"
theorem NoHo.ext {K : PySem.W.Frag} {H H' : Hp} {ss : List Str} {v : V} (h : NoHo K H ss v) (e : Same H H') : NoHo K H' ss v := h.imp id fun ⟨t, a, b⟩ => ⟨t, TyX.ext a e, b⟩
def spIs (K : PySem.W.Frag) (C : Addr) : Sp := fun vs H Q _ => ∃ x v ss rs ns, vs = [.ref x, v] ∧ IsV C H x ss rs ns ∧ ((∃ s, v = .str s ∧ s ∈ ss ∧ Q (.bl true) H) ∨ (NoHo K H ss v ∧ Q (.bl false) H))
def spNe (K : PySem.W.Frag) (C CN : Addr) : Sp := fun vs H Q E => ∃ x v ss rs ns, vs = [.ref x, v] ∧ IsV C H x ss rs ns ∧ ((∃ s, v = .str s ∧ s ∈ ss ∧ Q .non H) ∨ (NoHo K H ss v ∧ GoesF CN [("house", v)] H E))
def spPl (K : PySem.W.Frag) (C CN CO : Addr) : Sp := fun vs H Q E => ∃ x v u ss rs ns, vs = [.ref x, v, u] ∧ IsV C H x ss rs ns ∧ ((NoHo K H ss v ∧ GoesF CN [("house", v)] H E) ∨ (∃ s, v = .str s ∧ s ∈ ss ∧ ((NoHo K H ss u ∧ GoesF CN [("house", u)] H E) ∨
  (∃ t, u = .str t ∧ t ∈ ss ∧ ((plOf rs s t = none ∧ GoesF CO [("other", .str t), ("one", .str s)] H E) ∨ (∃ i : Nat, plOf rs s t = some i ∧ ∀ H', Same H H' → Q (.int (i : Nat)) H'))))))
theorem scIs : FnScope ["self", "thing"] ["self", "thing"] (defScope sIs) := ⟨rfl, rfl, rfl, by decide +kernel, rfl, by decide +kernel, by decide +kernel⟩
theorem scNe : FnScope ["self", "house"] ["self", "house"] (defScope sNe) := ⟨rfl, rfl, rfl, by decide +kernel, rfl, by decide +kernel, by decide +kernel⟩
theorem scPl : FnScope ["self", "one", "other"] ["self", "one", "other"] (defScope sPl) := ⟨rfl, rfl, rfl, by decide +kernel, rfl, by decide +kernel, by decide +kernel⟩
section
variable {P : Program} {w : World} {K : PySem.W.Frag} {mg : Str → Option Value} {base : Heap} {CF C CN CO : Addr}
theorem ok_Is {f : Addr} {fd : FuncData} (F : Fun K "is_house" "Valley.is_house" sIs f fd) (B : Bl mg) (T : VcT K C) : FnOk P w K mg base CX0 1 f fd ["self", "thing"] (spIs K C) := by
  refine F.ok scIs (fun vs H Q E h => ?_) (fun cdv A outer s H vs Q E hr h => ?_)
  · obtain ⟨x, v, ss, rs, ns, rfl, _⟩ := h
    rfl
  obtain ⟨x, v, ss, rs, ns, rfl, ⟨ln, l1, l2, l3, d1, d2, d3, qs, bs, vx⟩, h⟩ := h
  have hu := hu_of hr
  obtain ⟨dx, fx, ix, f1, f2, f3, f4, f5, f6, f0⟩ := vx.ins
  refine ⟨_, pss_one (by exact ps_ret (pe_and (pe_callB call_isi rfl B.isi PyProof.Rows.boot_isinstance (pa_cons (pv 1) (pa_cons (pe_bltn (v := .ty "str") rfl B.str PyProof.Rows.boot_str rfl) pa_nil))) (pe_one (pe_cmp (pc_din hu (pv 1) (pe_fld (pv 0) rfl)) (by with_unfolding_all rfl))))), ?_⟩
  have st : ∀ s : Str, v = .str s → Q (.bl (decide (s ∈ ss))) H → _ := fun s e q => (⟨s, e, q⟩ : ∃ s, v = .str s ∧ Q (.bl (decide (s ∈ ss))) H)
  have go : (∃ s, v = .str s ∧ Q (.bl (decide (s ∈ ss))) H) ∨ (∃ t, TyX K H v (.type t) ∧ t ∈ kinds ∧ t ≠ "str" ∧ Q (.bl false) H) := by
    rcases h with ⟨s, rfl, hs, q⟩ | ⟨⟨s, rfl, hs⟩ | ⟨t, ty, kt, nt⟩, q⟩
    · exact .inl ⟨s, rfl, by rw [decide_eq_true hs]; exact q⟩
    · exact .inl ⟨s, rfl, by rw [decide_eq_false hs]; exact q⟩
    · exact .inr ⟨t, ty, kt, nt, q⟩
  rcases go with ⟨s, rfl, q⟩ | ⟨t, ty, kt, nt, q⟩
  · refine ⟨_, rfl, .str s, _, _, _, _, rfl, .ty "str", .base (.str s), kit_str (t := "str") (by decide), _, rfl, ?_⟩
    refine iteT ⟨_, rfl, _, rfl, x, C, dx, fx, _, rfl, ix, T.cl, T.n4, f4, d1, _, rfl, DGet.k (k := .inr s) vx.p1, ?_⟩
    rw [peo_in ln]
    exact q
  · refine ⟨_, rfl, v, _, _, _, _, rfl, .ty "str", ty, kit_str kt, _, rfl, ?_⟩
    rw [decide_eq_false nt]
    exact iteF q
theorem ok_Ne {f fI fE : Addr} {fd id' ed : FuncData} (F : Fun K "need_house" "Valley.need_house" sNe f fd) (B : Bl mg) (T : VcT K C)
    (FI : Fun K "is_house" "Valley.is_house" sIs fI id') (hI : Meth K C "is_house" fI) (bI : Binds K id' ["self", "thing"] [])
    (TF : FeC K mg CF) (TC : ErF K mg "NoHouse" CN fE ["house"]) (FE : Fun K "__init__" "NoHouse.__init__" sIN fE ed) (bE : Binds K ed ["self", "house"] []) :
    FnOk P w K mg base (L2.CX P w) 3 f fd ["self", "house"] (spNe K C CN) := by
  have GI := ok_Is (P := P) (w := w) (base := base) FI B T
  have GE := ok_iN (P := P) (w := w) (base := base) FE TF TC
  refine F.okX scNe (fun vs H Q E h => ?_) (fun cdv A outer s H vs Q E hr h => ?_)
  · obtain ⟨x, v, ss, rs, ns, rfl, _⟩ := h
    rfl
  obtain ⟨x, v, ss, rs, ns, rfl, vx, h⟩ := h
  have hr1 : Room 1 _ := hr.mono (by decide)
  have hr2 : Room 2 _ := hr.mono (by decide)
  refine ⟨_, pss_one (by exact (ps_if (pt_not (pt_val (pe_meth (pv 0) T.cl hI GI hr1 bI .nil pass0 (pa_cons (pv 1) pa_nil))))
    (pss_one (by exact (ps_raise rfl (takes_of rfl rfl rfl rfl) (pmk_oex TC.ox TC.ini TC.ty GE hr2 bE .nil pass0 rfl TC.m (pa_cons (pv 1) pa_nil))))) pss_nil)), ?_⟩
  obtain ⟨dx, fx, ix, _, _, _, _, _, _, f0⟩ := vx.2.choose_spec.choose_spec.choose_spec.choose_spec.choose_spec.choose_spec.choose_spec.choose_spec.ins
  refine ⟨_, rfl, x, dx, fx, rfl, ix, f0 _ (by decide +kernel) (by decide +kernel) (by decide +kernel) (by decide +kernel) (by decide +kernel) (by decide +kernel), _, rfl, x, v, ss, rs, ns, rfl, vx, ?_⟩
  rcases h with ⟨s, rfl, hs, q⟩ | ⟨n, g⟩
  · exact .inl ⟨s, rfl, hs, _, rfl, iteF q⟩
  · exact .inr ⟨n, _, rfl, iteT ⟨_, rfl, (by show 1 ≤ 1000; decide), raise_one g (Same.refl _)⟩⟩
theorem ok_Pl {f fN fE : Addr} {fd nd_ ed : FuncData} (F : Fun K "place" "Valley.place" sPl f fd) (B : Bl mg) (T : VcT K C)
    (GN : FnOk P w K mg base (L2.CX P w) 3 fN nd_ ["self", "house"] (spNe K C CN)) (hN : Meth K C "need_house" fN) (bN : Binds K nd_ ["self", "house"] [])
    (TF : FeC K mg CF) (TC : ErF K mg "NoRoad" CO fE ["one", "other"]) (FE : Fun K "__init__" "NoRoad.__init__" sIO fE ed) (bE : Binds K ed ["self", "one", "other"] []) :
    FnOk P w K mg base (L2.CX P w) 4 f fd ["self", "one", "other"] (spPl K C CN CO) := by
  have GE := ok_iO (P := P) (w := w) (base := base) FE TF TC
  refine F.okX scPl (fun vs H Q E h => ?_) (fun cdv A outer s H vs Q E hr h => ?_)
  · obtain ⟨x, v, u, ss, rs, ns, rfl, _⟩ := h
    rfl
  obtain ⟨x, v, u, ss, rs, ns, rfl, iv, h⟩ := h
  obtain ⟨ln, l1, l2, l3, d1, d2, d3, qs, bs, vx⟩ := id iv
  obtain ⟨dx, fx, ix, f1, f2, f3, f4, f5, f6, f0⟩ := vx.ins
  have hu := hu_of hr
  have hr3 : Room 3 _ := hr.mono (by decide)
  have hr2 : Room 2 _ := hr.mono (by decide)
  have nN : fx.lookup ("need_house" : Str) = none := f0 _ (by decide +kernel) (by decide +kernel) (by decide +kernel) (by decide +kernel) (by decide +kernel) (by decide +kernel)
  refine ⟨_, pss_cons (by exact (ps_expr (pe_meth (pv 0) T.cl hN GN hr3 bN .nil (passes_call (takes_of rfl rfl rfl rfl) (fun _ _ _ _ h => h)) (pa_cons (pv 1) pa_nil))))
    (pss_cons (by exact (ps_expr (pe_meth (pv 0) T.cl hN GN hr3 bN .nil (passes_call (takes_of rfl rfl rfl rfl) (fun _ _ _ _ h => h)) (pa_cons (pv 2) pa_nil))))
    (pss_cons (by exact (ps_if (pt_cmp (pc_dnotin hu (pe_tup (pa_cons (pv 1) (pa_cons (pv 2) pa_nil))) (pe_fld (pv 0) rfl)) (by with_unfolding_all rfl))
      (pss_one (by exact (ps_raise rfl (takes_of rfl rfl rfl rfl) (pmk_oex TC.ox TC.ini TC.ty GE hr2 bE .nil pass0 rfl TC.m (pa_cons (pv 1) (pa_cons (pv 2) pa_nil)))))) pss_nil))
    (pss_one (by exact (ps_ret (pe_dget hu (pe_fld (pv 0) rfl) (pe_tup (pa_cons (pv 1) (pa_cons (pv 2) pa_nil))) (fun _ _ => rfl))))))), ?_⟩
  refine ⟨_, rfl, x, dx, fx, rfl, ix, nN, _, rfl, x, v, ss, rs, ns, rfl, iv, ?_⟩
  rcases h with ⟨n, g⟩ | ⟨s, rfl, hs, h⟩
  · exact .inr ⟨n, g⟩
  refine .inl ⟨s, rfl, hs, _, rfl, x, dx, fx, rfl, ix, nN, _, rfl, x, u, ss, rs, ns, rfl, iv, ?_⟩
  rcases h with ⟨n, g⟩ | ⟨t, rfl, ht, h⟩
  · exact .inr ⟨n, g⟩
  obtain ⟨kv, k1, k2, k3⟩ := vx.p2
  refine .inl ⟨t, rfl, ht, _, rfl, _, rfl, (by show 2 ≤ sizeLine; decide), fun b hb => ?_⟩
  have eb := K1.Same.upd (H := H) (p := b) (o := .tup [.str s, .str t]) hb
  refine ⟨_, rfl, x, C, dx, fx, _, rfl, eb _ _ ix, T.cl, T.n5, f5, d2, _, rfl, DGet.t (k := [.inr s, .inr t]) (eb _ _ k1) upd_same, ?_⟩
  rw [k2 s t]
  rcases h with ⟨n, g⟩ | ⟨i, n, q⟩
  · rw [n]
    exact ⟨_, rfl, iteT ⟨_, rfl, _, rfl, (by show 2 ≤ 1000; decide), raise_two g eb⟩⟩
  · rw [n]
    refine ⟨_, rfl, iteF ⟨_, rfl, x, C, dx, fx, _, rfl, eb _ _ ix, T.cl, T.n5, f5, _, rfl, _, rfl, (by show 2 ≤ sizeLine; decide), fun b2 hb2 => ?_⟩⟩
    have eb2 := K1.Same.upd (H := upd H b (.tup [.str s, .str t])) (p := b2) (o := .tup [.str s, .str t]) hb2
    have dg := DGet.t (k := [.inr s, .inr t]) (eb2 _ _ (eb _ _ k1)) upd_same
    rw [k2 s t, n] at dg
    exact ⟨d2, _, rfl, dg, q _ (eb.trans eb2)⟩
end
end K1
end
-- NNear
section
set_option Elab.async false
set_option linter.all false
set_option maxRecDepth 100000
set_option maxHeartbeats 4000000
namespace K1
open PySem PySem.Spec PyProof.Rows L2
theorem nodup_len {α : Type} [DecidableEq α] : ∀ {xs ys : List α}, xs.Nodup → (∀ x ∈ xs, x ∈ ys) → xs.length ≤ ys.length
  | [], _, _, _ => Nat.zero_le _
  | x :: xs, ys, n, h => by
    rw [List.nodup_cons] at n
    have hx := h x (List.mem_cons_self ..)
    have ih := nodup_len (ys := ys.erase x) n.2 fun y hy => (List.mem_erase_of_ne (fun z => n.1 (by rw [← z]; exact hy))).mpr (h y (List.mem_cons_of_mem _ hy))
    rw [List.length_erase_of_mem hx] at ih
    have := List.length_pos_of_mem hx
    rw [List.length_cons]
    omega
/-- while, with a measure that stands in the invariant -/
theorem while_gh {c : TT} {tb : TS} {D : Ends} {σ : L2.St} {H : Hp} (Pv : Nat → L2.St → Hp → Prop) (m0 : Nat) (h0 : Pv m0 σ H)
    (hs : ∀ m σ H, Pv m σ H → c σ H fun b H1 => if b = true then tb { D with nx := fun σ' H' => ∃ m', m' < m ∧ Pv m' σ' H', ct := fun σ' H' => ∃ m', m' < m ∧ Pv m' σ' H', bk := D.nx } σ H1 else D.nx σ H1)
    (mono : ∀ σ H Q Q', (∀ b H1, Q b H1 → Q' b H1) → c σ H Q → c σ H Q') : tWhile c tb D σ H := by
  refine ⟨Pv, ⟨m0, h0⟩, fun m σ H p => mono σ H _ _ (fun b H1 q => ?_) (hs m σ H p)⟩
  cases b with
  | true => exact ⟨_, fun σ' H' z => z, q⟩
  | false => exact q
theorem gN {i : Nat} {v : V} {σ : L2.St} {H : Hp} {Q : L2.St → Hp → Prop} (h : Q (σ.set i (some v)) H) : gName i v σ H Q := h
theorem sQ {t u : TS} {D : Ends} {σ : L2.St} {H : Hp} (h : t { D with nx := u D } σ H) : tSeq t u D σ H := h
/-- a search outward from a house: those gone through, those that wait, and the next house towards the start -/
structure SeaN (ss : List Str) (rs : List (Str × Str)) (o : Str) (done wt : List Str) (kvs : List (Key × V)) : Prop where
  nd : (done ++ wt).Nodup
  ins : ∀ s ∈ done ++ wt, s ∈ ss
  keys : ∀ s, (valV kvs (.inr s)).isSome = decide (s ∈ done ++ wt)
  len : kvs.length ≤ (done ++ wt).length
  st : o ∈ done ++ wt
  path : ∀ s ∈ done ++ wt, ∃ l, Pt rs s l o ∧ (∀ z ∈ l, z ∈ done ++ wt) ∧ (s ≠ o → ∃ u r, l = s :: u :: r ∧ valV kvs (.inr s) = some (.str u))
def Clo (rs : List (Str × Str)) (all : List Str) (s : Str) : Prop := ∀ t, nbB rs s t = true → t ∈ all
theorem SeaN.le {ss : List Str} {rs : List (Str × Str)} {o : Str} {done wt : List Str} {kvs : List (Key × V)} (S : SeaN ss rs o done wt kvs) : (done ++ wt).length ≤ ss.length := nodup_len S.nd S.ins
theorem SeaN.init {ss : List Str} {rs : List (Str × Str)} {o : Str} (ho : o ∈ ss) : SeaN ss rs o [] [o] [(.inr o, .non)] := by
  refine ⟨by simp, fun s hs => by rw [List.mem_singleton.mp hs]; exact ho, fun s => ?_, Nat.le_refl _, by simp, fun s hs => ?_⟩
  · by_cases e : s = o
    · subst e
      rw [valV_pos (p := (Sum.inr s, V.non)) rfl]
      simp
    · rw [valV_neg (p := (Sum.inr o, V.non)) (fun z => e (Sum.inr.inj z).symm)]
      simp [e, valV_nil]
  · have e := List.mem_singleton.mp hs
    subst e
    exact ⟨_, .one s, fun z hz => hz, fun n => absurd rfl n⟩
/-- the last one that waits is taken up -/
theorem SeaN.take {ss : List Str} {rs : List (Str × Str)} {o : Str} {done wt : List Str} {h : Str} {kvs : List (Key × V)} (S : SeaN ss rs o done (wt ++ [h]) kvs) : SeaN ss rs o (done ++ [h]) wt kvs := by
  have p : (done ++ (wt ++ [h])).Perm (done ++ [h] ++ wt) := by
    rw [List.append_assoc]
    exact List.Perm.append_left _ List.perm_append_comm
  have m : ∀ z, z ∈ done ++ (wt ++ [h]) ↔ z ∈ done ++ [h] ++ wt := fun z => p.mem_iff
  refine ⟨p.nodup_iff.mp S.nd, fun s hs => S.ins s ((m s).mpr hs), fun s => ?_, by rw [← p.length_eq]; exact S.len, (m o).mp S.st, fun s hs => ?_⟩
  · rw [S.keys s]
    exact decide_eq_decide.mpr (m s)
  · obtain ⟨l, a, b, c⟩ := S.path s ((m s).mpr hs)
    exact ⟨l, a, fun z hz => (m z).mp (b z hz), c⟩
/-- a house is found from one that was taken up -/
theorem SeaN.add {ss : List Str} {rs : List (Str × Str)} {o : Str} {done wt : List Str} {h f : Str} {kvs : List (Key × V)} (S : SeaN ss rs o done wt kvs) (hh : h ∈ done ++ wt) (he : EndsIn ss rs) (q : nbB rs h f = true) (n : f ∉ done ++ wt) :
    SeaN ss rs o done (wt ++ [f]) (putK kvs (.inr f) (.str h)) := by
  have m : ∀ z, z ∈ done ++ (wt ++ [f]) ↔ z ∈ done ++ wt ∨ z = f := fun z => by
    rw [← List.append_assoc, List.mem_append, List.mem_singleton]
  have vn : valV kvs (.inr f) = none := by
    have := S.keys f
    rw [decide_eq_false n] at this
    cases e : valV kvs (.inr f) with
    | none => rfl
    | some v => rw [e] at this; cases this
  refine ⟨?_, fun s hs => ?_, fun s => ?_, ?_, (m o).mpr (.inl S.st), fun s hs => ?_⟩
  · rw [← List.append_assoc, List.nodup_append]
    exact ⟨S.nd, by simp, fun x hx y hy => by rw [List.mem_singleton.mp hy]; intro z; exact n (by rw [← z]; exact hx)⟩
  · rcases (m s).mp hs with hs | rfl
    · exact S.ins s hs
    · exact (he.nb q).2
  · rw [valV_put]
    by_cases e : s = f
    · subst e
      rw [if_pos rfl, decide_eq_true ((m s).mpr (.inr rfl))]
      rfl
    · rw [if_neg fun z => e (Sum.inr.inj z), S.keys s]
      exact decide_eq_decide.mpr ⟨fun h => (m s).mpr (.inl h), fun h => ((m s).mp h).resolve_right e⟩
  · rw [putK_new _ vn, List.length_append, ← List.append_assoc, List.length_append]
    have := S.len
    simp only [List.length_singleton]
    omega
  · rcases (m s).mp hs with hs | rfl
    · obtain ⟨l, a, b, c⟩ := S.path s hs
      refine ⟨l, a, fun z hz => (m z).mpr (.inl (b z hz)), fun ne => ?_⟩
      obtain ⟨u, r, e1, e2⟩ := c ne
      exact ⟨u, r, e1, by rw [valV_put, if_neg fun z => n (by rw [← Sum.inr.inj z]; exact hs)]; exact e2⟩
    · obtain ⟨l, a, b, c⟩ := S.path h hh
      have nl : s ∉ l := fun z => n (b s z)
      obtain ⟨r, rfl⟩ := a.head
      refine ⟨s :: h :: r, .cons (by rw [nbB_swap]; exact q) a nl, fun z hz => ?_, fun _ => ⟨h, r, rfl, by rw [valV_put, if_pos rfl]⟩⟩
      rcases List.mem_cons.mp hz with rfl | hz
      · exact (m z).mpr (.inr rfl)
      · exact (m z).mpr (.inl (b z hz))
def spNr (C : Addr) : Sp := fun vs H Q _ => ∃ x o ss rs ns, vs = [.ref x, .str o] ∧ IsV C H x ss rs ns ∧ Tree ss rs ∧ ss.length ≤ 1000 ∧ o ∈ ss ∧
  ∀ r kvs H', Same H H' → H r = none → H' r = some (.dK kvs) → (∀ s ∈ ss, s ≠ o → ∃ u l, valV kvs (.inr s) = some (.str u) ∧ Pt rs s (s :: u :: l) o) → Q (.ref r) H'
theorem scNr : FnScope ["self", "start", "found", "waiting", "house", "far"] ["self", "start"] (defScope sNr) := ⟨rfl, rfl, rfl, by decide +kernel, rfl, by decide +kernel, by decide +kernel⟩
section
variable {P : Program} {w : World} {K : PySem.W.Frag} {mg : Str → Option Value} {base : Heap} {CF C CN CO : Addr}
theorem ok_Nr {f : Addr} {fd : FuncData} (F : Fun K "nearer" "Valley.nearer" sNr f fd) (T : VcT K C) : FnOk P w K mg base CX0 1 f fd ["self", "start"] (spNr C) := by
  refine F.ok scNr (fun vs H Q E h => ?_) (fun cdv A outer s H vs Q E hr h => ?_)
  · obtain ⟨x, o, ss, rs, ns, rfl, _⟩ := h
    rfl
  obtain ⟨x, o, ss, rs, ns, rfl, ⟨ln, l1, l2, l3, d1, d2, d3, qs, bs, vx⟩, tr, hl, ho, q⟩ := h
  have nd := scNr.nd
  have hu := hu_of hr
  obtain ⟨dx, fx, ix, f1, f2, f3, f4, f5, f6, f0⟩ := vx.ins
  refine ⟨_, (pss_cons (by exact (ps_set (i := 2) nd rfl (.inl rfl) (pe_disp (pps_cons (pv 1) pe_non pps_nil) (by rfl) (by rfl) (fun z => by cases z) (by decide))))
  (pss_cons (by exact (ps_set (i := 3) nd rfl (.inl rfl) (pe_lst (pa_cons (pv 1) pa_nil))))
  (pss_cons (by exact (ps_while PassesOwn.never (pt_truth (pv 3) (fun _ => rfl)) (pss_cons (by exact (ps_set (i := 4) nd rfl (.inl rfl) (pe_bm0 PySem.F.plainAttrs_list PySem.F.slot_list_pop PySem.F.type_list_pop mt_pop (pv 3))))
  (pss_one (by exact (ps_for PassesOwn.never rfl (by exact pi_list (pe_dget hu (pe_fld (pv 0) rfl) (pv 4) (fun _ _ => rfl))) (pg_name (i := 5) nd rfl (.inl rfl)) (pss_one (by exact (ps_if (pt_cmp (pc_dnotin hu (pv 5) (pv 2)) (by with_unfolding_all rfl)) (pss_cons (by exact (ps_dput hu (pv 2) (pv 5) (pv 4) rfl))
  (pss_one (by exact (ps_expr (pe_bm PySem.F.plainAttrs_list PySem.F.slot_list_append PySem.F.type_list_append mt_append (pv 3) (pa_cons (pv 5) pa_nil)))))) pss_nil)))))))))
  (pss_one (by exact (ps_ret (pv 2))))))), ?_⟩
  intro D hD
  refine ⟨_, rfl, upd_same, [(.inr o, .non)], rfl, (by show 1 ≤ 15; decide), ?_⟩
  have eD : Same H (upd (upd H D (.dK [])) D (.dK (mergeK [] [(Sum.inr o, V.non)]))) := fun b u n => by
    rw [upd_ne (ne_of_none n hD), upd_ne (ne_of_none n hD)]
    exact n
  have gD : upd (upd H D (.dK [])) D (.dK (mergeK [] [(Sum.inr o, V.non)])) D = some (.dK [(.inr o, .non)]) := upd_same
  generalize upd (upd H D (.dK [])) D (.dK (mergeK [] [(Sum.inr o, V.non)])) = H1 at eD gD ⊢
  refine ⟨_, rfl, (by show 1 ≤ sizeLine; decide), fun W hW => ?_⟩
  have WD : W ≠ D := fun z => by rw [z, gD] at hW; cases hW
  have hW0 : H W = none := eD.free hW
  refine gN ?_
  with_reducible refine sQ ?_

  refine while_gh (fun m σ Hc => (∃ a b, σ = [some (.ref x), some (.str o), some (.ref D), some (.ref W), a, b]) ∧ Same H Hc ∧ ∃ done wt kvs, Hc D = some (.dK kvs) ∧ Hc W = some (.lst (wt.map V.str)) ∧ SeaN ss rs o done wt kvs ∧ (∀ s ∈ done, Clo rs (done ++ wt) s) ∧ m = ss.length - done.length) ss.length
    ⟨⟨_, _, rfl⟩, fun b u n => by rw [upd_ne (ne_of_none n hW0)]; exact eD b u n, [], [o], _, by rw [upd_ne WD.symm]; exact gD, upd_same, SeaN.init ho, fun s hs => absurd hs (by simp), by simp⟩ ?_ ?_
  · rintro m σ Hc ⟨⟨ya, yb, rfl⟩, e1, done, wt, kvs, g1, g2, S, C1, rfl⟩
    refine ⟨_, rfl, _, .inl ⟨_, SqL.of g2, rfl⟩, ?_⟩
    rcases List.eq_nil_or_concat wt with rfl | ⟨wt, h, rfl⟩
    · refine iteF ⟨_, rfl, q D kvs Hc e1 hD g1 fun s hs ne => ?_⟩
      rw [List.append_nil] at C1
      have hin : ∀ t ∈ ss, t ∈ done := fun t ht => by
        refine tr.all (S := fun u => u ∈ done) (fun e he => ?_) ho ht (by have := S.st; rw [List.append_nil] at this; exact this)
        have q1 : nbB rs e.1 e.2 = true := nbB_iff.mpr (.inl he)
        exact ⟨fun h => C1 _ h _ q1, fun h => C1 _ h _ (by rw [nbB_swap]; exact q1)⟩
      obtain ⟨l, a, _, c⟩ := S.path s (by rw [List.append_nil]; exact hin s hs)
      obtain ⟨u, r, rfl, c2⟩ := c ne
      exact ⟨u, r, c2, a⟩
    · rw [List.concat_eq_append] at g2 S C1 ⊢
      have ne : (!((wt ++ [h]).map V.str).isEmpty) = true := by cases wt <;> rfl
      rw [ne]
      refine iteT ?_
      have lt1 : done.length < ss.length := by
        have := S.le
        rw [List.length_append, List.length_append] at this
        simp only [List.length_singleton] at this
        omega
      have hlast : ((wt ++ [h]).map V.str)[((wt ++ [h]).map V.str).length - 1]? = some (.str h) := by
        rw [List.map_append]
        simp
      refine ⟨_, rfl, .inl ⟨rfl, _, SqL.of g2⟩, W, _, .str h, rfl, rfl, g2, hlast, ?_⟩
      have dl : ((wt ++ [h]).map V.str).dropLast = wt.map V.str := by rw [List.map_append]; exact List.dropLast_concat
      rw [dl]
      have S1 := S.take
      have e2 : Same H (upd Hc W (.lst (wt.map V.str))) := fun b u n => by rw [upd_ne (ne_of_none n hW0)]; exact e1 b u n
      have gD2 : upd Hc W (.lst (wt.map V.str)) D = some (.dK kvs) := by rw [upd_ne WD.symm]; exact g1
      have gW2 : upd Hc W (.lst (wt.map V.str)) W = some (.lst (wt.map V.str)) := upd_same
      generalize upd Hc W (.lst (wt.map V.str)) = Hd at e2 gD2 gW2 ⊢
      have hss : h ∈ ss := S1.ins h (by simp)
      obtain ⟨kv3, k1, k2, k3⟩ := vx.p3
      have dg := DGet.k (k := .inr h) (e2 _ _ k1)
      rw [k3 h hss] at dg
      refine gN ?_
      refine ⟨_, rfl, x, C, dx, fx, _, rfl, e2 _ _ ix, T.cl, T.n6, f6, _, rfl, d3, _, rfl, dg, bs h, rfl, ⟨_, SqL.of (e2 _ _ (vx.nb h hss))⟩, ?_⟩
      refine for_it walk_list (fun i σ Hd => (∃ b, σ = [some (.ref x), some (.str o), some (.ref D), some (.ref W), some (.str h), b]) ∧ Same H Hd ∧ ∃ wt' kvs', Hd D = some (.dK kvs') ∧ Hd W = some (.lst (wt'.map V.str)) ∧ SeaN ss rs o (done ++ [h]) wt' kvs' ∧ (∀ s ∈ done, Clo rs (done ++ [h] ++ wt') s) ∧ ∀ t ∈ (nbs ss rs h).take i, t ∈ done ++ [h] ++ wt')
        ⟨⟨_, rfl⟩, e2, wt, kvs, gD2, gW2, S1, fun s hs t ht => ?_, fun t ht => absurd ht (by simp)⟩ (fun i σ Hd _ hh => SqL.of (hh.2.1 _ _ (vx.nb h hss))) ?_ ?_
      · have := C1 s hs t ht
        simp only [List.mem_append, List.mem_singleton] at this ⊢
        rcases this with a | a | a
        · exact .inl (.inl a)
        · exact .inr a
        · exact .inl (.inr a)
      · rintro i y σ Hd' H' hi ⟨⟨b, rfl⟩, e3, wt', kvs', gD3, gW3, S3, C3, N3⟩ ⟨rfl, hy⟩
        rw [List.length_map] at hi
        rw [List.getElem?_map, List.getElem?_eq_getElem hi] at hy
        obtain rfl := Option.some.inj hy
        have hf : (nbs ss rs h)[i] ∈ nbs ss rs h := List.getElem_mem hi
        have nf := (mem_nbs tr.ends).mp hf
        have lk : (done ++ [h] ++ wt').length ≤ 1000 := Nat.le_trans S3.le hl
        refine ⟨_, rfl, _, rfl, D, _, rfl, DGet.k (k := .inr (nbs ss rs h)[i]) gD3, _, rfl, ?_⟩
        rw [S3.keys]
        refine ite2 (fun c => ?_) (fun c => ?_)
        · have c2 : (nbs ss rs h)[i] ∉ done ++ [h] ++ wt' := fun z => by rw [decide_eq_true z] at c; cases c
          refine ⟨_, rfl, _, rfl, _, rfl, D, _, rfl, DPut.k (k := .inr (nbs ss rs h)[i]) gD3 (Nat.lt_of_le_of_lt S3.len (small1000 lk)), ?_⟩
          have gW4 : upd H' D (.dK (putK kvs' (.inr (nbs ss rs h)[i]) (.str h))) W = some (.lst (wt'.map V.str)) := by rw [upd_ne WD]; exact gW3
          have lw : wt'.length ≤ 1000 := by rw [List.length_append] at lk; omega
          refine ⟨_, rfl, .inl ⟨rfl, _, SqL.of gW4⟩, _, rfl, W, _, _, rfl, rfl, gW4, by rw [List.length_map]; exact small1000 lw, ?_⟩
          refine ⟨⟨_, rfl⟩, fun b u n => ?_, wt' ++ [(nbs ss rs h)[i]], _, by rw [upd_ne WD.symm]; exact upd_same, by rw [upd_same, List.map_append]; rfl, S3.add (by simp) tr.ends nf c2, fun s hs t ht => ?_, fun t ht => ?_⟩
          · rw [upd_ne (ne_of_none n hW0), upd_ne (ne_of_none n hD)]
            exact e3 b u n
          · rw [← List.append_assoc]
            exact List.mem_append_left _ (C3 s hs t ht)
          · rw [← List.append_assoc]
            rcases (mem_take_succ hi).mp ht with ht | rfl
            · exact List.mem_append_left _ (N3 t ht)
            · exact List.mem_append_right _ (by simp)
        · have c2 : (nbs ss rs h)[i] ∈ done ++ [h] ++ wt' := by
            by_cases z : (nbs ss rs h)[i] ∈ done ++ [h] ++ wt'
            · exact z
            · rw [decide_eq_false z] at c
              exact absurd rfl c
          refine ⟨⟨_, rfl⟩, e3, wt', kvs', gD3, gW3, S3, C3, fun t ht => ?_⟩
          rcases (mem_take_succ hi).mp ht with ht | rfl
          · exact N3 t ht
          · exact c2
      · rintro σ Hd' ⟨⟨b, rfl⟩, e3, wt', kvs', gD3, gW3, S3, C3, N3⟩
        rw [List.length_map, List.take_length] at N3
        refine ⟨ss.length - (done ++ [h]).length, by rw [List.length_append, List.length_singleton]; omega, ⟨_, _, rfl⟩, e3, done ++ [h], wt', kvs', gD3, gW3, S3, fun s hs => ?_, rfl⟩
        rcases List.mem_append.mp hs with hs | hs
        · exact C3 s hs
        · rw [List.mem_singleton.mp hs]
          exact fun t ht => N3 t ((mem_nbs tr.ends).mpr ht)
  · rintro σ Hc Q1 Q2 hq ⟨v, hv, k, tk, z⟩
    exact ⟨v, hv, k, tk, hq _ _ z⟩
end
end K1
end
-- NWay
section
set_option Elab.async false
set_option linter.all false
set_option maxRecDepth 100000
set_option maxHeartbeats 4000000
namespace K1
open PySem PySem.Spec PyProof.Rows L2
/-- two houses, or which of them is none -/
def spWa (K : PySem.W.Frag) (C CN : Addr) : Sp := fun vs H Q E => ∃ x v u ss rs ns, vs = [.ref x, v, u] ∧ IsV C H x ss rs ns ∧ Tree ss rs ∧ ss.length ≤ 1000 ∧ ((NoHo K H ss v ∧ GoesF CN [("house", v)] H E) ∨ (∃ s, v = .str s ∧ s ∈ ss ∧ ((NoHo K H ss u ∧ GoesF CN [("house", u)] H E) ∨
  (∃ t, u = .str t ∧ t ∈ ss ∧ ∀ r l H', Same H H' → H r = none → Pt rs s l t → H' r = some (.lst (l.map V.str)) → Q (.ref r) H'))))
theorem scWa : FnScope ["self", "one", "other", "nearer", "through"] ["self", "one", "other"] (defScope sWa) := ⟨rfl, rfl, rfl, by decide +kernel, rfl, by decide +kernel, by decide +kernel⟩
theorem Pt.tl {rs : List (Str × Str)} {s t u : Str} {l : List Str} (h : Pt rs s (s :: u :: l) t) : Pt rs u (u :: l) t := by
  cases h with
  | cons q h n =>
    obtain ⟨r, e⟩ := h.head
    injection e with e1 e2
    subst e1
    exact h
theorem Pt.here {rs : List (Str × Str)} (hc : Cut rs) {s : Str} {r : List Str} (h : Pt rs s (s :: r) s) : r = [] := by
  have := h.uniq hc (.one s)
  injection this with _ e
theorem same_upd {H Hc : Hp} {L : Addr} {o : HO} (e : Same H Hc) (n : H L = none) : Same H (L2.upd Hc L o) := fun b u h => by
  rw [upd_ne (ne_of_none h n)]
  exact e b u h
section
variable {P : Program} {w : World} {K : PySem.W.Frag} {mg : Str → Option Value} {base : Heap} {CF C CN CO : Addr}
theorem ok_Wa {f fN fR : Addr} {fd nd_ rd_ : FuncData} (F : Fun K "way" "Valley.way" sWa f fd) (T : VcT K C)
    (GN : FnOk P w K mg base (L2.CX P w) 3 fN nd_ ["self", "house"] (spNe K C CN)) (hN : Meth K C "need_house" fN) (bN : Binds K nd_ ["self", "house"] [])
    (GR : FnOk P w K mg base CX0 1 fR rd_ ["self", "start"] (spNr C)) (hR : Meth K C "nearer" fR) (bR : Binds K rd_ ["self", "start"] []) :
    FnOk P w K mg base (L2.CX P w) 4 f fd ["self", "one", "other"] (spWa K C CN) := by
  refine F.okX scWa (fun vs H Q E h => ?_) (fun cdv A outer s H vs Q E hr h => ?_)
  · obtain ⟨x, v, u, ss, rs, ns, rfl, _⟩ := h
    rfl
  obtain ⟨x, v, u, ss, rs, ns, rfl, iv, tr, hl, h⟩ := h
  obtain ⟨ln, l1, l2, l3, d1, d2, d3, qs, bs, vx⟩ := id iv
  obtain ⟨dx, fx, ix, f1, f2, f3, f4, f5, f6, f0⟩ := vx.ins
  have nd := scWa.nd
  have hu := hu_of hr
  have hr3 : Room 3 _ := hr.mono (by decide)
  have hr1 : Room 1 _ := hr.mono (by decide)
  have nN : fx.lookup ("need_house" : Str) = none := f0 _ (by decide +kernel) (by decide +kernel) (by decide +kernel) (by decide +kernel) (by decide +kernel) (by decide +kernel)
  have nR : fx.lookup ("nearer" : Str) = none := f0 _ (by decide +kernel) (by decide +kernel) (by decide +kernel) (by decide +kernel) (by decide +kernel) (by decide +kernel)
  refine ⟨_, (pss_cons (by exact (ps_expr (pe_meth (pv 0) T.cl hN GN hr3 bN .nil (passes_call (takes_of rfl rfl rfl rfl) (fun _ _ _ _ h => h)) (pa_cons (pv 1) pa_nil))))
  (pss_cons (by exact (ps_expr (pe_meth (pv 0) T.cl hN GN hr3 bN .nil (passes_call (takes_of rfl rfl rfl rfl) (fun _ _ _ _ h => h)) (pa_cons (pv 2) pa_nil))))
  (pss_cons (by exact (ps_set (i := 3) nd rfl (.inl rfl) (pe_meth (pv 0) T.cl hR GR hr1 bR .nil pass0 (pa_cons (pv 2) pa_nil))))
  (pss_cons (by exact (ps_set (i := 4) nd rfl (.inl rfl) (pe_lst (pa_cons (pv 1) pa_nil))))
  (pss_cons (by exact (ps_while (passes_of rfl) (pt_cmpR op_ne (pe_ix ix_list (pv 4) (pe_un un_neg pe_int) (fun _ _ => rfl)) (pv 2) (nomark _)) (pss_one (by exact (ps_expr (pe_bm PySem.F.plainAttrs_list PySem.F.slot_list_append PySem.F.type_list_append mt_append (pv 4) (pa_cons (pe_dget hu (pv 3) (pe_ix ix_list (pv 4) (pe_un un_neg pe_int) (fun _ _ => rfl)) (fun _ _ => rfl)) pa_nil)))))))
  (pss_one (by exact (ps_ret (pv 4))))))))), ?_⟩
  refine ⟨_, rfl, x, dx, fx, rfl, ix, nN, _, rfl, x, v, ss, rs, ns, rfl, iv, ?_⟩
  rcases h with ⟨n, g⟩ | ⟨s, rfl, hs, h⟩
  · exact .inr ⟨n, g⟩
  refine .inl ⟨s, rfl, hs, _, rfl, x, dx, fx, rfl, ix, nN, _, rfl, x, u, ss, rs, ns, rfl, iv, ?_⟩
  rcases h with ⟨n, g⟩ | ⟨t, rfl, ht, q⟩
  · exact .inr ⟨n, g⟩
  refine .inl ⟨t, rfl, ht, _, rfl, x, dx, fx, rfl, ix, nR, _, rfl, x, t, ss, rs, ns, rfl, iv, tr, hl, ht, fun D kvs H1 e1 nD gD near => ?_⟩
  refine gN ?_
  refine ⟨_, rfl, (by show 1 ≤ sizeLine; decide), fun W hW => ?_⟩
  have hW0 : H W = none := e1.free hW
  have WD : W ≠ D := fun z => by rw [z, gD] at hW; cases hW
  obtain ⟨l0, p0⟩ := tr.way hs ht
  obtain ⟨r0, rfl⟩ := p0.head
  refine gN ?_
  with_reducible refine sQ ?_
  refine while_gh (fun m σ Hc => σ = [some (.ref x), some (.str s), some (.str t), some (.ref D), some (.ref W)] ∧ Same H Hc ∧ Hc D = some (.dK kvs) ∧ ∃ pre cur r, Hc W = some (.lst ((pre ++ [cur]).map V.str)) ∧ cur ∈ ss ∧ Pt rs cur (cur :: r) t ∧ Pt rs s (pre ++ cur :: r) t ∧ m = r.length) r0.length
    ⟨rfl, same_upd e1 hW0, by rw [upd_ne WD.symm]; exact gD, [], s, r0, upd_same, hs, p0, p0, rfl⟩ ?_ ?_
  · rintro m σ Hc ⟨rfl, e2, g1, pre, cur, r, g2, hc, pc, pf, rfl⟩
    have al : atI ((pre ++ [cur]).map V.str) (-1) = some (.str cur) := by rw [List.map_append]; exact atI_last _ _
    refine ⟨_, rfl, _, rfl, W, _, _, _, rfl, rfl, SqL.of g2, al, _, rfl, rfl, _, rfl, ?_⟩
    by_cases e : cur = t
    · subst e
      rw [decide_eq_true rfl]
      refine iteF ⟨_, rfl, q W _ Hc e2 hW0 pf ?_⟩
      rw [pc.here tr.cut]
      exact g2
    · have ne : (!decide (V.str cur = V.str t)) = true := by rw [decide_eq_false (fun z => e (V.str.inj z))]; rfl
      rw [ne]
      obtain ⟨u, l, n1, n2⟩ := near cur hc e
      have el := pc.uniq tr.cut n2
      injection el with _ el
      subst el
      have dg := DGet.k (k := .inr cur) g1
      rw [n1] at dg
      have ln2 : (pre ++ [cur]).length ≤ 1000 := by
        have := nodup_len pf.nd (pf.mem tr.ends ht)
        rw [List.length_append] at this ⊢
        simp only [List.length_cons, List.length_nil] at this ⊢
        omega
      refine iteT ⟨_, rfl, .inl ⟨rfl, _, SqL.of g2⟩, _, rfl, _, rfl, _, rfl, W, _, _, _, rfl, rfl, SqL.of g2, al, D, _, rfl, dg, W, _, _, rfl, rfl, g2, by rw [List.length_map]; exact small1000 ln2, ?_⟩
      refine ⟨l.length, Nat.lt_succ_self _, rfl, same_upd e2 hW0, by rw [upd_ne WD.symm]; exact g1, pre ++ [cur], u, l, by rw [upd_same, List.map_append (l₂ := [u])]; rfl, (pc.mem tr.ends ht) u (by simp), pc.tl, by rw [List.append_assoc]; exact pf, rfl⟩
  · rintro σ Hc Q1 Q2 hq ⟨v1, h1, v2, h2, p, xs, i, y, a, b, c, d, v4, h4, k5, b5, h5, z⟩
    exact ⟨v1, h1, v2, h2, p, xs, i, y, a, b, c, d, v4, h4, k5, b5, h5, hq _ _ z⟩
end
end K1
end
-- ERoad
section
set_option Elab.async false
set_option linter.all false
set_option maxRecDepth 100000
set_option maxHeartbeats 1000000
namespace K1
open PySem PySem.Spec PyProof.Rows L2 W0
abbrev sCl : Stmt := inClass (top 22) 0
abbrev sIM : Stmt := inClass (top 9) 0
abbrev sIS : Stmt := inClass (top 10) 0
abbrev sNum : Stmt := top 16
abbrev sNv : Stmt := top 33
abbrev sNm : Stmt := top 37
abbrev sRd : Stmt := inClass (top 24) 9
theorem scCl : FnScope ["self", "closing"] ["self", "closing"] (defScope sCl) := ⟨rfl, rfl, rfl, by decide +kernel, rfl, by decide +kernel, by decide +kernel⟩
theorem scIM : FnScope ["self", "many"] ["self", "many"] (defScope sIM) := ⟨rfl, rfl, rfl, by decide +kernel, rfl, by decide +kernel, by decide +kernel⟩
theorem scIS : FnScope ["self", "house"] ["self", "house"] (defScope sIS) := ⟨rfl, rfl, rfl, by decide +kernel, rfl, by decide +kernel, by decide +kernel⟩
theorem scNum : FnScope ["thing"] ["thing"] (defScope sNum) := ⟨rfl, rfl, rfl, by decide +kernel, rfl, by decide +kernel, by decide +kernel⟩
theorem scNv : FnScope ["valley"] ["valley"] (defScope sNv) := ⟨rfl, rfl, rfl, by decide +kernel, rfl, by decide +kernel, by decide +kernel⟩
theorem scNm : FnScope ["valley", "many"] ["valley", "many"] (defScope sNm) := ⟨rfl, rfl, rfl, by decide +kernel, rfl, by decide +kernel, by decide +kernel⟩
theorem scRd : FnScope ["self", "thing"] ["self", "thing"] (defScope sRd) := ⟨rfl, rfl, rfl, by decide +kernel, rfl, by decide +kernel, by decide +kernel⟩
theorem upd_same' (H : Hp) (a : Addr) (o : HO) : L2.upd H a o a = some o := upd_same
theorem ValS.same {C : Addr} {H H' : Hp} {x l1 l2 l3 d1 d2 d3 : Addr} {qs : List Addr} {bs : Str → Addr} {ss : List Str} {rs : List (Str × Str)} {ns : List Int} (v : ValS C H x l1 l2 l3 d1 d2 d3 qs bs ss rs ns) (e : Same H H') : ValS C H' x l1 l2 l3 d1 d2 d3 qs bs ss rs ns := by
  obtain ⟨dx, fs, a, r⟩ := v.ins
  obtain ⟨k2, a2, b2⟩ := v.p2
  obtain ⟨k3, a3, b3⟩ := v.p3
  exact ⟨⟨dx, fs, e _ _ a, r⟩, e _ _ v.h1, e _ _ v.h2, TupP.ext v.pr e, e _ _ v.h3, e _ _ v.p1, ⟨k2, e _ _ a2, b2⟩, ⟨k3, e _ _ a3, b3⟩, fun s hs => e _ _ (v.nb s hs)⟩
theorem IsV.same {C : Addr} {H H' : Hp} {x : Addr} {ss : List Str} {rs : List (Str × Str)} {ns : List Int} (v : IsV C H x ss rs ns) (e : Same H H') : IsV C H' x ss rs ns := by
  obtain ⟨l, l1, l2, l3, d1, d2, d3, qs, bs, h⟩ := v
  exact ⟨l, l1, l2, l3, d1, d2, d3, qs, bs, h.same e⟩
/-- an instance, without fields of these names -/
theorem IsV.inst {C : Addr} {H : Hp} {x : Addr} {ss : List Str} {rs : List (Str × Str)} {ns : List Int} (v : IsV C H x ss rs ns) : ∃ dx fs, H x = some (.ins C dx fs) ∧
    ∀ m : Str, (decide (m ≠ "_houses") && (decide (m ≠ "_roads") && (decide (m ≠ "_heads") && (decide (m ≠ "_people") && (decide (m ≠ "_places") && decide (m ≠ "_beside")))))) = true → fs.lookup m = none := by
  obtain ⟨l, l1, l2, l3, d1, d2, d3, qs, bs, h⟩ := v
  obtain ⟨dx, fs, a, _, _, _, _, _, _, f0⟩ := h.ins
  refine ⟨dx, fs, a, fun m hm => ?_⟩
  simp only [Bool.and_eq_true, decide_eq_true_eq] at hm
  exact f0 m hm.1 hm.2.1 hm.2.2.1 hm.2.2.2.1 hm.2.2.2.2.1 hm.2.2.2.2.2
theorem take_snoc {α : Type} {xs : List α} {i : Nat} (hi : i < xs.length) : xs.take (i + 1) = xs.take i ++ [xs[i]] := by
  rw [List.take_succ, List.getElem?_eq_getElem hi]
  rfl
theorem ps_same_upd {H Hc : Hp} {L : Addr} {o : HO} (e : Same H Hc) (n : H L = none) : Same H (L2.upd Hc L o) := fun b u h => by
  rw [upd_ne (ne_of_none h n)]
  exact e b u h
def spHo (C : Addr) : Sp := fun vs H Q _ => ∃ x ss rs ns, vs = [.ref x] ∧ IsV C H x ss rs ns ∧ ∀ l, H l = none → Q (.ref l) (L2.upd H l (.lst (ss.map V.str)))
def spRo (C : Addr) : Sp := fun vs H Q _ => ∃ x ss rs ns, vs = [.ref x] ∧ IsV C H x ss rs ns ∧ ∀ l qs, H l = none → Paired (TupP H) qs rs → Q (.ref l) (L2.upd H l (.lst (qs.map V.ref)))
/-- a Valley is let through -/
def spNvG (C : Addr) : Sp := fun vs H Q _ => ∃ x ss rs ns, vs = [.ref x] ∧ IsV C H x ss rs ns ∧ Q .non H
/-- an int, or what is none -/
def NotI (K : PySem.W.Frag) (H : Hp) (v : V) : Prop := ∃ t, TyX K H v (.type t) ∧ t ∈ kinds ∧ t ≠ "int"
def spNum (K : PySem.W.Frag) : Sp := fun vs H Q _ => ∃ (v : V), vs = [v] ∧ ((∃ i, v = .int i ∧ Q (.bl (decide (0 ≤ i))) H) ∨ (NotI K H v ∧ Q (.bl false) H))
def spNm (K : PySem.W.Frag) (C CM : Addr) : Sp := fun vs H Q E => ∃ x ss rs ns v, vs = [.ref x, v] ∧ IsV C H x ss rs ns ∧ ((∃ m : Nat, v = .int (m : Int) ∧ m ≤ rs.length ∧ ∀ H', Same H H' → Q .non H') ∨
  (((∃ i : Int, v = .int i ∧ (i < 0 ∨ (rs.length : Int) < i)) ∨ NotI K H v) ∧ GoesF CM [("many", v)] H E))
/-- a road, either way round, as a list or a tuple; its place -/
def RoadV (H : Hp) (rs : List (Str × Str)) (v : V) (i : Nat) : Prop := ∃ s t : Str, SeqV H v [.str s, .str t] ∧ plOf rs s t = some i
def NoRd (K : PySem.W.Frag) (H : Hp) (ss : List Str) (rs : List (Str × Str)) (v : V) : Prop := NoSeq K H v ∨ (∃ xs, SeqV H v xs ∧ xs.length ≠ 2) ∨
  (∃ x y, SeqV H v [x, y] ∧ (NoHo K H ss x ∨ ∃ s, x = .str s ∧ s ∈ ss ∧ (NoHo K H ss y ∨ ∃ t, y = .str t ∧ t ∈ ss ∧ plOf rs s t = none)))
theorem RoadV.ext {H H' : Hp} {rs : List (Str × Str)} {v : V} {i : Nat} (h : RoadV H rs v i) (e : Same H H') : RoadV H' rs v i := by
  obtain ⟨s, t, a, b⟩ := h
  exact ⟨s, t, a.ext e, b⟩
theorem NoRd.ext {K : PySem.W.Frag} {H H' : Hp} {ss : List Str} {rs : List (Str × Str)} {v : V} (h : NoRd K H ss rs v) (e : Same H H') : NoRd K H' ss rs v := by
  rcases h with h | ⟨xs, a, b⟩ | ⟨x, y, a, h⟩
  · exact .inl (h.ext e)
  · exact .inr (.inl ⟨xs, a.ext e, b⟩)
  · refine .inr (.inr ⟨x, y, a.ext e, ?_⟩)
    rcases h with h | ⟨s, q1, q2, h⟩
    · exact .inl (h.ext e)
    · refine .inr ⟨s, q1, q2, ?_⟩
      rcases h with h | h
      · exact .inl (h.ext e)
      · exact .inr h
def spRd (K : PySem.W.Frag) (C : Addr) : Sp := fun vs H Q _ => ∃ x v ss rs ns, vs = [.ref x, v] ∧ IsV C H x ss rs ns ∧ EndsIn ss rs ∧ (((∃ i, RoadV H rs v i) ∧ ∀ H', Same H H' → Q (.bl true) H') ∨ (NoRd K H ss rs v ∧ ∀ H', Same H H' → Q (.bl false) H'))
theorem plOf_at {rs : List (Str × Str)} {s t : Str} {i : Nat} (h : plOf rs s t = some i) : ∃ hi : i < rs.length, rs[i] = (s, t) ∨ rs[i] = (t, s) := by
  unfold plOf at h
  rw [List.findIdx?_eq_some_iff_getElem] at h
  obtain ⟨hi, h, _⟩ := h
  exact ⟨hi, of_decide_eq_true h⟩
theorem plOf_in {ss : List Str} {rs : List (Str × Str)} (he : EndsIn ss rs) {s t : Str} {i : Nat} (h : plOf rs s t = some i) : s ∈ ss ∧ t ∈ ss := by
  obtain ⟨hi, h⟩ := plOf_at h
  have q := he _ (List.getElem_mem hi)
  rcases h with h | h <;> rw [h] at q
  · exact q
  · exact q.symm
theorem ixSeq {K : PySem.W.Frag} {H : Hp} {v z : V} {xs : List V} {i : Int} {Q : VK} (h : SeqV H v xs) (e : atI xs i = some z) (q : Q z H) : rIx K v (.int i) H Q := by
  obtain ⟨p, rfl, h | h⟩ := h
  · exact .inl ⟨p, xs, i, z, rfl, rfl, SqL.of h, e, q⟩
  · exact .inr (.inl ⟨p, xs, i, z, rfl, rfl, SqT.of h, e, q⟩)
section
variable {P : Program} {w : World} {K : PySem.W.Frag} {mg : Str → Option Value} {base : Heap} {CF C CN CM : Addr}
theorem ok_iCl {f C : Addr} {fd : FuncData} (F : Fun K "__init__" "BadClosing.__init__" sCl f fd) (T : FeC K mg CF) (TC : ErF K mg "BadClosing" C f ["closing"]) : FnOk P w K mg base CX0 1 f fd ["self", "closing"] (spEr1 C "closing") := by
  refine F.ok scCl (fun vs H Q E h => ?_) (fun cdv A outer s H vs Q E hr h => ?_)
  · obtain ⟨a, v, rfl, _⟩ := h
    rfl
  obtain ⟨a, v, rfl, ha, q⟩ := h
  refine ⟨_, pss_cons (by exact ps_expr (pe_feinit rfl T (pa_cons (pv 0) (pa_cons pe_str pa_nil)))) (pss_one (by exact ps_ost (pv 0) (pv 1))), ?_⟩
  refine ⟨_, rfl, a, C, [.str _], rfl, (by decide), TC.ox, ha, _, rfl, _, rfl, a, C, rfl, TC.ox, TC.no _ (by simp), .inl ⟨ha, fun d hd n => q d hd n⟩⟩
theorem ok_iM {f C : Addr} {fd : FuncData} (F : Fun K "__init__" "BadMany.__init__" sIM f fd) (T : FeC K mg CF) (TC : ErF K mg "BadMany" C f ["many"]) : FnOk P w K mg base CX0 1 f fd ["self", "many"] (spEr1 C "many") := by
  refine F.ok scIM (fun vs H Q E h => ?_) (fun cdv A outer s H vs Q E hr h => ?_)
  · obtain ⟨a, v, rfl, _⟩ := h
    rfl
  obtain ⟨a, v, rfl, ha, q⟩ := h
  refine ⟨_, pss_cons (by exact ps_expr (pe_feinit rfl T (pa_cons (pv 0) (pa_cons pe_str pa_nil)))) (pss_one (by exact ps_ost (pv 0) (pv 1))), ?_⟩
  refine ⟨_, rfl, a, C, [.str _], rfl, (by decide), TC.ox, ha, _, rfl, _, rfl, a, C, rfl, TC.ox, TC.no _ (by simp), .inl ⟨ha, fun d hd n => q d hd n⟩⟩
theorem ok_iS {f C : Addr} {fd : FuncData} (F : Fun K "__init__" "SameHouse.__init__" sIS f fd) (T : FeC K mg CF) (TC : ErF K mg "SameHouse" C f ["house"]) : FnOk P w K mg base CX0 1 f fd ["self", "house"] (spEr1 C "house") := by
  refine F.ok scIS (fun vs H Q E h => ?_) (fun cdv A outer s H vs Q E hr h => ?_)
  · obtain ⟨a, v, rfl, _⟩ := h
    rfl
  obtain ⟨a, v, rfl, ha, q⟩ := h
  refine ⟨_, pss_cons (by exact ps_expr (pe_feinit rfl T (pa_cons (pv 0) (pa_cons pe_str pa_nil)))) (pss_one (by exact ps_ost (pv 0) (pv 1))), ?_⟩
  refine ⟨_, rfl, a, C, [.str _], rfl, (by decide), TC.ox, ha, _, rfl, _, rfl, a, C, rfl, TC.ox, TC.no _ (by simp), .inl ⟨ha, fun d hd n => q d hd n⟩⟩
theorem ok_number {f g : Addr} {fd gd : FuncData} (F : Fun K "is_number" "is_number" sNum f fd) (FI : Fun K "is_integer" "is_integer" sIsInt g gd) (b : Binds K gd ["thing"] []) (m : mg "is_integer" = some (.ref g)) (B : Bl mg) :
    FnOk P w K mg base CX0 2 f fd ["thing"] (spNum K) := by
  have G := ok_isInt (P := P) (w := w) (base := base) FI B
  refine F.ok scNum (fun vs H Q E h => ?_) (fun cdv A outer s H vs Q E hr h => ?_)
  · obtain ⟨v, rfl, _⟩ := h
    rfl
  obtain ⟨v, rfl, h⟩ := h
  refine ⟨_, pss_one (by exact ps_ret (pe_and (pe_call G hr rfl m FI.kp b .nil pass0 (pa_cons (pv 0) pa_nil)) (pe_one (pe_cmpR op_ge (pv 0) pe_int (nomark _))))), ?_⟩
  rcases h with ⟨i, rfl, q⟩ | ⟨⟨t, ty, kt, nt⟩, q⟩
  · exact ⟨_, rfl, .int i, "int", rfl, .base (.int i), by decide, _, rfl, iteT ⟨_, rfl, i, 0, rfl, rfl, q⟩⟩
  · refine ⟨_, rfl, v, t, rfl, ty, kt, _, rfl, ?_⟩
    rw [decide_eq_false nt]
    exact iteF q
theorem ok_Ho {f : Addr} {fd : FuncData} (F : Fun K "houses" "Valley.houses" sVH f fd) (B : Bl mg) (T : VcT K C) : FnOk P w K mg base CX0 1 f fd ["self"] (spHo C) := by
  refine F.ok scVH (fun vs H Q E h => ?_) (fun cdv A outer s H vs Q E hr h => ?_)
  · obtain ⟨x, ss, rs, ns, rfl, _⟩ := h
    rfl
  obtain ⟨x, ss, rs, ns, rfl, iv, q⟩ := h
  obtain ⟨l, l1, l2, l3, d1, d2, d3, qs, bs, vx⟩ := iv
  obtain ⟨dx, fx, ix, x1, x2, x3, _⟩ := vx.ins
  refine ⟨_, pss_one (by exact (ps_ret (pe_callTy call_list_of rfl B.list PyProof.Rows.boot_list (pa_cons (pe_fld (pv 0) rfl) pa_nil)))), ?_⟩
  exact ⟨_, rfl, x, C, dx, fx, _, rfl, ix, T.cl, T.n1, x1, l1, _, rfl, .inl (SqL.of vx.h1), q⟩
theorem ok_Ro {f : Addr} {fd : FuncData} (F : Fun K "roads" "Valley.roads" sVR f fd) (B : Bl mg) (T : VcT K C) : FnOk P w K mg base CX0 1 f fd ["self"] (spRo C) := by
  refine F.ok scVR (fun vs H Q E h => ?_) (fun cdv A outer s H vs Q E hr h => ?_)
  · obtain ⟨x, ss, rs, ns, rfl, _⟩ := h
    rfl
  obtain ⟨x, ss, rs, ns, rfl, iv, q⟩ := h
  obtain ⟨l, l1, l2, l3, d1, d2, d3, qs, bs, vx⟩ := iv
  obtain ⟨dx, fx, ix, x1, x2, x3, _⟩ := vx.ins
  refine ⟨_, pss_one (by exact (ps_ret (pe_callTy call_list_of rfl B.list PyProof.Rows.boot_list (pa_cons (pe_fld (pv 0) rfl) pa_nil)))), ?_⟩
  exact ⟨_, rfl, x, C, dx, fx, _, rfl, ix, T.cl, T.n2, x2, l2, _, rfl, .inl (SqL.of vx.h2), fun l hl => q l qs hl vx.pr⟩
theorem ok_NvG {f : Addr} {fd : FuncData} (F : Fun K "need_valley" "need_valley" sNv f fd) (B : Bl mg) (T : VcE K C) (mV : mg "Valley" = some (.ref C)) : FnOk P w K mg base CX0 1 f fd ["valley"] (spNvG C) := by
  refine F.ok scNv (fun vs H Q E h => ?_) (fun cdv A outer s H vs Q E hr h => ?_)
  · obtain ⟨x, ss, rs, ns, rfl, _⟩ := h
    rfl
  obtain ⟨x, ss, rs, ns, rfl, iv, q⟩ := h
  obtain ⟨_, l1, l2, l3, d1, d2, d3, qs, bs, vx⟩ := iv
  obtain ⟨dx, fx, ix, _⟩ := vx.ins
  refine ⟨_, pss_one (by exact (ps_if (pt_not (pt_val (pe_callB call_isiF rfl B.isi PyProof.Rows.boot_isinstance (pa_cons (pv 0) (pa_cons (pe_glob (v := .ref C) rfl mV rfl) pa_nil)))))
    (pss_one ps_dead) pss_nil)), ?_⟩
  exact ⟨_, rfl, .ref x, _, _, _, _, rfl, .own C, .inl (.base (.ins ix T.cl T.ha T.hn T.htk T.hm)), T.own, _, rfl, iteF q⟩
theorem ok_Nm {f fN fR fE : Addr} {fd nd_ rd ed : FuncData} (F : Fun K "need_many" "need_many" sNm f fd) (B : Bl mg) (T : VcT K C) (GN : FnOk P w K mg base CX0 2 fN nd_ ["thing"] (spNum K)) (bN : Binds K nd_ ["thing"] []) (kN : PySem.W.keepIn K (.ref fN) = true) (mN : mg "is_number" = some (.ref fN))
    (GR : FnOk P w K mg base CX0 1 fR rd ["self"] (spRo C)) (hR : Meth K C "roads" fR) (bR : Binds K rd ["self"] [])
    (TF : FeC K mg CF) (TC : ErF K mg "BadMany" CM fE ["many"]) (FE : Fun K "__init__" "BadMany.__init__" sIM fE ed) (bE : Binds K ed ["self", "many"] []) : FnOk P w K mg base (L2.CX P w) 3 f fd ["valley", "many"] (spNm K C CM) := by
  have GE := ok_iM (P := P) (w := w) (base := base) FE TF TC
  refine F.okX scNm (fun vs H Q E h => ?_) (fun cdv A outer s H vs Q E hr h => ?_)
  · obtain ⟨x, ss, rs, ns, v, rfl, _⟩ := h
    rfl
  obtain ⟨x, ss, rs, ns, v, rfl, iv, h⟩ := h
  have hr2 : Room 2 _ := hr.mono (by decide)
  have hr1 : Room 1 _ := hr.mono (by decide)
  refine ⟨_, pss_one (by exact (ps_if (PW.pt (pw_or (pt_not (pt_val (pe_call GN hr2 rfl mN kN bN .nil pass0 (pa_cons (pv 1) pa_nil)))) (pw_or1 (pt_cmpR op_gt (pv 1) (pe_callB call_len_seq rfl B.len PySem.boot_len (pa_cons (pe_meth0 (pv 0) T.cl hR GR hr1 bR .nil pass0) pa_nil)) (nomark _)))))
    (pss_one (by exact (ps_raise rfl (takes_of rfl rfl rfl rfl) (pmk_oex TC.ox TC.ini TC.ty GE hr2 bE .nil pass0 rfl TC.m (pa_cons (pv 1) pa_nil))))) pss_nil)), ?_⟩
  obtain ⟨dx, fx, ix, f0⟩ := iv.inst
  rcases h with ⟨m, rfl, hm, q⟩ | ⟨⟨i, rfl, hi⟩ | n, g⟩
  · refine ⟨_, rfl, _, rfl, .inl ⟨_, rfl, ?_⟩⟩
    rw [decide_eq_true (by omega : (0 : Int) ≤ (m : Int))]
    refine ⟨_, rfl, iteF ⟨_, rfl, _, rfl, x, dx, fx, rfl, ix, f0 _ (by decide +kernel), x, ss, rs, ns, rfl, iv, fun l qs hl pq => ?_⟩⟩
    have e1 := K1.Same.upd (H := H) (p := l) (o := .lst (qs.map V.ref)) hl
    have gl := upd_same' H l (.lst (qs.map V.ref))
    generalize L2.upd H l (.lst (qs.map V.ref)) = H1 at e1 gl ⊢
    have lq : (qs.map V.ref).length = rs.length := by rw [List.length_map, pq.length]
    refine ⟨l, _, rfl, .inl (SqL.of gl), (m : Int), _, rfl, rfl, ?_⟩
    rw [lq]
    exact ⟨false, congrArg V.bl (decide_eq_false (by omega)), iteF (q H1 e1)⟩
  · refine ⟨_, rfl, _, rfl, .inl ⟨i, rfl, ?_⟩⟩
    by_cases h0 : 0 ≤ i
    · rw [decide_eq_true h0]
      refine ⟨_, rfl, iteF ⟨_, rfl, _, rfl, x, dx, fx, rfl, ix, f0 _ (by decide +kernel), x, ss, rs, ns, rfl, iv, fun l qs hl pq => ?_⟩⟩
      have e1 := K1.Same.upd (H := H) (p := l) (o := .lst (qs.map V.ref)) hl
      have gl := upd_same' H l (.lst (qs.map V.ref))
      generalize L2.upd H l (.lst (qs.map V.ref)) = H1 at e1 gl ⊢
      have lq : (qs.map V.ref).length = rs.length := by rw [List.length_map, pq.length]
      refine ⟨l, _, rfl, .inl (SqL.of gl), i, _, rfl, rfl, ?_⟩
      rw [lq]
      exact ⟨true, congrArg V.bl (decide_eq_true (by omega)), iteT ⟨_, rfl, (by show 1 ≤ 1000; decide), raise_one g e1⟩⟩
    · rw [decide_eq_false h0]
      exact ⟨_, rfl, iteT ⟨_, rfl, (by show 1 ≤ 1000; decide), raise_one g (Same.refl _)⟩⟩
  · exact ⟨_, rfl, _, rfl, .inr ⟨n, _, rfl, iteT ⟨_, rfl, (by show 1 ≤ 1000; decide), raise_one g (Same.refl _)⟩⟩⟩
theorem ok_Rd {f fP fI : Addr} {fd pd id' : FuncData} (F : Fun K "is_road" "Valley.is_road" sRd f fd) (B : Bl mg) (T : VcT K C)
    (GP : FnOk P w K mg base CX0 2 fP pd ["thing"] (spIsPair K)) (bP : Binds K pd ["thing"] []) (kP : PySem.W.keepIn K (.ref fP) = true) (mP : mg "is_pair" = some (.ref fP))
    (GI : FnOk P w K mg base CX0 1 fI id' ["self", "thing"] (spIs K C)) (hI : Meth K C "is_house" fI) (bI : Binds K id' ["self", "thing"] []) : FnOk P w K mg base CX0 3 f fd ["self", "thing"] (spRd K C) := by
  refine F.ok scRd (fun vs H Q E h => ?_) (fun cdv A outer s H vs Q E hr h => ?_)
  · obtain ⟨x, v, ss, rs, ns, rfl, _⟩ := h
    rfl
  obtain ⟨x, v, ss, rs, ns, rfl, iv, he, h⟩ := h
  have hu := hu_of hr
  have hr1 : Room 1 _ := hr.mono (by decide)
  refine ⟨_, pss_cons (by exact (ps_if (PW.pt (pw_or (pt_not (pt_val (pe_call GP hr rfl mP kP bP .nil pass0 (pa_cons (pv 1) pa_nil)))) (pw_or (pt_not (pt_val (pe_meth (pv 0) T.cl hI GI hr1 bI .nil pass0 (pa_cons (pe_ix ix_seq (pv 1) pe_int (fun _ _ => rfl)) pa_nil)))) (pw_or1 (pt_not (pt_val (pe_meth (pv 0) T.cl hI GI hr1 bI .nil pass0 (pa_cons (pe_ix ix_seq (pv 1) pe_int (fun _ _ => rfl)) pa_nil)))))))) (pss_one (by exact (ps_ret pe_bl))) pss_nil))
    (pss_one (by exact (ps_ret (pe_cmp (pc_din hu (pe_tup (pa_cons (pe_ix ix_seq (pv 1) pe_int (fun _ _ => rfl)) (pa_cons (pe_ix ix_seq (pv 1) pe_int (fun _ _ => rfl)) pa_nil))) (pe_fld (pv 0) rfl)) (by with_unfolding_all rfl))))), ?_⟩
  obtain ⟨ln, l1, l2, l3, d1, d2, d3, qs, bs, vx⟩ := id iv
  have inst : ∀ H1, Same H H1 → ∃ dx fx, H1 x = some (.ins C dx fx) ∧ fx.lookup ("is_house" : Str) = none ∧ fx.lookup ("_places" : Str) = some (.ref d2) := fun H1 e => by
    obtain ⟨dx, fx, ix, f1, f2, f3, f4, f5, f6, f0⟩ := vx.ins
    exact ⟨dx, fx, e _ _ ix, f0 _ (by decide +kernel) (by decide +kernel) (by decide +kernel) (by decide +kernel) (by decide +kernel) (by decide +kernel), f5⟩
  have two : ∀ (s t : Str), SeqV H v [.str s, .str t] → s ∈ ss → t ∈ ss → (∀ H', Same H H' → Q (.bl (plOf rs s t).isSome) H') → _ := fun s t sv hs ht q => (⟨s, t, sv, hs, ht, q⟩ : ∃ s t : Str, SeqV H v [.str s, .str t] ∧ s ∈ ss ∧ t ∈ ss ∧ ∀ H', Same H H' → Q (.bl (plOf rs s t).isSome) H')
  have split : (∃ s t : Str, SeqV H v [.str s, .str t] ∧ s ∈ ss ∧ t ∈ ss ∧ ∀ H', Same H H' → Q (.bl (plOf rs s t).isSome) H') ∨ ((∀ H', Same H H' → Q (.bl false) H') ∧ (NoSeq K H v ∨ (∃ xs, SeqV H v xs ∧ xs.length ≠ 2) ∨ ∃ y z, SeqV H v [y, z] ∧ (NoHo K H ss y ∨ ∃ s, y = .str s ∧ s ∈ ss ∧ NoHo K H ss z))) := by
    rcases h with ⟨⟨i, s, t, sv, pl⟩, q⟩ | ⟨n, q⟩
    · obtain ⟨hs, ht⟩ := plOf_in he pl
      exact .inl (two s t sv hs ht (by rw [pl]; exact q))
    · rcases n with n | n | ⟨y, z, sv, n | ⟨s, e1, hs, n | ⟨t, e2, ht, pl⟩⟩⟩
      · exact .inr ⟨q, .inl n⟩
      · exact .inr ⟨q, .inr (.inl n)⟩
      · exact .inr ⟨q, .inr (.inr ⟨y, z, sv, .inl n⟩)⟩
      · exact .inr ⟨q, .inr (.inr ⟨y, z, sv, .inr ⟨s, e1, hs, n⟩⟩)⟩
      · subst e1 e2
        exact .inl (two s t sv hs ht (by rw [pl]; exact q))
  rcases split with ⟨s, t, sv, hs, ht, q⟩ | ⟨q, n | ⟨xs, sv, n⟩ | ⟨y, z, sv, n⟩⟩
  · refine ⟨_, rfl, v, rfl, .inl ⟨_, sv, fun H1 e1 => ⟨_, rfl, iteF ?_⟩⟩⟩
    obtain ⟨dx, fx, ix, f0, f5⟩ := inst H1 e1
    refine ⟨_, rfl, x, dx, fx, rfl, ix, f0, _, rfl, ixSeq (sv.ext e1) rfl ?_⟩
    refine ⟨x, _, ss, rs, ns, rfl, iv.same e1, .inl ⟨s, rfl, hs, _, rfl, iteF ?_⟩⟩
    refine ⟨_, rfl, x, dx, fx, rfl, ix, f0, _, rfl, ixSeq (sv.ext e1) rfl ?_⟩
    refine ⟨x, _, ss, rs, ns, rfl, iv.same e1, .inl ⟨t, rfl, ht, _, rfl, iteF ?_⟩⟩
    refine ⟨_, rfl, ixSeq (sv.ext e1) rfl ?_⟩
    refine ⟨_, rfl, ixSeq (sv.ext e1) rfl ?_⟩
    refine ⟨(by show 2 ≤ sizeLine; decide), fun b hb => ?_⟩
    have eb := K1.Same.upd (H := H1) (p := b) (o := .tup [.str s, .str t]) hb
    obtain ⟨kv, k1, k2, k3⟩ := vx.p2
    refine ⟨_, rfl, x, C, dx, fx, _, rfl, eb _ _ ix, T.cl, T.n5, f5, d2, _, rfl, DGet.t (k := [.inr s, .inr t]) (eb _ _ (e1 _ _ k1)) upd_same, ?_⟩
    rw [k2 s t]
    have := q _ (e1.trans eb)
    cases hp : plOf rs s t with
    | none => rw [hp] at this; exact this
    | some i => rw [hp] at this; exact this
  · exact ⟨_, rfl, v, rfl, .inr ⟨n, fun H1 e1 => ⟨_, rfl, iteT (iteT (q H1 e1))⟩⟩⟩
  · refine ⟨_, rfl, v, rfl, .inl ⟨_, sv, fun H1 e1 => ⟨_, rfl, ?_⟩⟩⟩
    rw [decide_eq_false n]
    exact iteT (iteT (q H1 e1))
  · refine ⟨_, rfl, v, rfl, .inl ⟨_, sv, fun H1 e1 => ⟨_, rfl, iteF ?_⟩⟩⟩
    obtain ⟨dx, fx, ix, f0, f5⟩ := inst H1 e1
    refine ⟨_, rfl, x, dx, fx, rfl, ix, f0, _, rfl, ixSeq (sv.ext e1) rfl ?_⟩
    rcases n with n | ⟨s, rfl, hs, n⟩
    · exact ⟨x, _, ss, rs, ns, rfl, iv.same e1, .inr ⟨n.ext e1, _, rfl, iteT (iteT (q H1 e1))⟩⟩
    · refine ⟨x, _, ss, rs, ns, rfl, iv.same e1, .inl ⟨s, rfl, hs, _, rfl, iteF ?_⟩⟩
      refine ⟨_, rfl, x, dx, fx, rfl, ix, f0, _, rfl, ixSeq (sv.ext e1) rfl ?_⟩
      exact ⟨x, _, ss, rs, ns, rfl, iv.same e1, .inr ⟨n.ext e1, _, rfl, iteT (q H1 e1)⟩⟩
end
end K1
end
-- EPl
section
set_option Elab.async false
set_option linter.all false
set_option maxRecDepth 100000
set_option maxHeartbeats 1000000
namespace K1
open PySem PySem.Spec PyProof.Rows L2 W0
abbrev sBg : Stmt := top 34
abbrev sEp : Stmt := top 35
abbrev sCg : Stmt := top 36
abbrev intsV (js : List Nat) : List V := js.map fun i : Nat => V.int (i : Int)
abbrev keyN (js : List Nat) : List Key := js.map fun i : Nat => (Sum.inl (i : Int) : Key)
theorem keyN_map (js : List Nat) : (keyN js).map kV = intsV js := by
  unfold keyN intsV
  rw [List.map_map]
  rfl
theorem keyN_nodup {js : List Nat} : (keyN js).Nodup ↔ js.Nodup := by
  unfold keyN
  constructor
  · intro h
    exact List.Pairwise.of_map _ (fun a b (ne : (Sum.inl (a : Int) : Key) ≠ Sum.inl (b : Int)) z => ne (by rw [z])) h
  · intro h
    refine List.Pairwise.map _ (fun a b (ne : a ≠ b) z => ne ?_) h
    have := Sum.inl.inj z
    omega
/-- a thing is judged: a road or none -/
def Jud (K : PySem.W.Frag) (H : Hp) (ss : List Str) (rs : List (Str × Str)) (v : V) (b : Bool) : Prop := (b = true ∧ ∃ i, RoadV H rs v i) ∨ (b = false ∧ NoRd K H ss rs v)
theorem Jud.ext {K : PySem.W.Frag} {H H' : Hp} {ss : List Str} {rs : List (Str × Str)} {v : V} {b : Bool} (h : Jud K H ss rs v b) (e : Same H H') : Jud K H' ss rs v b :=
  h.imp (fun ⟨q, i, z⟩ => ⟨q, i, z.ext e⟩) fun ⟨q, z⟩ => ⟨q, z.ext e⟩
/-- unlike roads, as they are opened: their places -/
def BegV (H : Hp) (rs : List (Str × Str)) (v : V) (js : List Nat) : Prop := ∃ xs, SeqV H v xs ∧ xs.length ≤ 1000 ∧ Paired (RoadV H rs) xs js ∧ js.Nodup
def NoBeg (K : PySem.W.Frag) (H : Hp) (ss : List Str) (rs : List (Str × Str)) (v : V) : Prop := NoSeq K H v ∨ (∃ xs bs, SeqV H v xs ∧ xs.length ≤ 1000 ∧ Paired (Jud K H ss rs) xs bs ∧ bs.all id = false) ∨
  (∃ xs js, SeqV H v xs ∧ xs.length ≤ 1000 ∧ Paired (RoadV H rs) xs js ∧ ¬ js.Nodup)
def spBg (K : PySem.W.Frag) (C : Addr) : Sp := fun vs H Q _ => ∃ x v ss rs ns, vs = [.ref x, v] ∧ IsV C H x ss rs ns ∧ EndsIn ss rs ∧
  ((∃ js, BegV H rs v js ∧ ∀ p H', Same H H' → H p = none → H' p = some (.lst (intsV js)) → Q (.ref p) H') ∨ (NoBeg K H ss rs v ∧ ∀ H', Same H H' → Q .non H'))
def EvV (H : Hp) (rs : List (Str × Str)) (v : V) (js : List Nat) : Prop := BegV H rs v js ∧ js.length = rs.length
def NoEv (K : PySem.W.Frag) (H : Hp) (ss : List Str) (rs : List (Str × Str)) (v : V) : Prop := NoBeg K H ss rs v ∨ ∃ js, BegV H rs v js ∧ js.length ≠ rs.length
def spEp (K : PySem.W.Frag) (C : Addr) : Sp := fun vs H Q _ => ∃ x v ss rs ns, vs = [.ref x, v] ∧ IsV C H x ss rs ns ∧ EndsIn ss rs ∧
  ((∃ js, EvV H rs v js ∧ ∀ p H', Same H H' → H p = none → H' p = some (.lst (intsV js)) → Q (.ref p) H') ∨ (NoEv K H ss rs v ∧ ∀ H', Same H H' → Q .non H'))
def spCg (K : PySem.W.Frag) (C CC : Addr) : Sp := fun vs H Q E => ∃ x v ss rs ns, vs = [.ref x, v] ∧ IsV C H x ss rs ns ∧ EndsIn ss rs ∧
  ((∃ js, EvV H rs v js ∧ ∀ p H', Same H H' → H p = none → H' p = some (.lst (intsV js)) → Q (.ref p) H') ∨ (NoEv K H ss rs v ∧ GoesF CC [("closing", v)] H E))
theorem scBg : FnScope ["valley", "thing", "road", "places"] ["valley", "thing"] (defScope sBg) := ⟨rfl, rfl, rfl, by decide +kernel, rfl, by decide +kernel, by decide +kernel⟩
theorem scEp : FnScope ["valley", "thing", "places"] ["valley", "thing"] (defScope sEp) := ⟨rfl, rfl, rfl, by decide +kernel, rfl, by decide +kernel, by decide +kernel⟩
theorem scCg : FnScope ["valley", "closing", "places"] ["valley", "closing"] (defScope sCg) := ⟨rfl, rfl, rfl, by decide +kernel, rfl, by decide +kernel, by decide +kernel⟩
theorem paired_true {H : Hp} {K : PySem.W.Frag} {ss : List Str} {rs : List (Str × Str)} {xs : List V} {js : List Nat} (h : Paired (RoadV H rs) xs js) : Paired (Jud K H ss rs) xs (js.map fun _ => true) := by
  induction h with
  | nil => exact .nil
  | cons a _ ih => exact .cons (.inl ⟨rfl, _, a⟩) ih
theorem nQ {D : Ends} {σ : L2.St} {H : Hp} (h : D.nx σ H) : tNext D σ H := h
theorem cons_run {t : TE} {ta : TA} {σ : L2.St} {H : Hp} {Q : List V → Hp → Prop} (h : t σ H fun x H1 => ta σ H1 fun xs H2 => Q (x :: xs) H2) : tCons t ta σ H Q := h
section
variable {P : Program} {w : World} {K : PySem.W.Frag} {mg : Str → Option Value} {base : Heap} {CF C CN CO CC : Addr}
theorem ok_Bg {f fL fR fP : Addr} {fd ld rd pd : FuncData} (F : Fun K "begun_places" "begun_places" sBg f fd) (B : Bl mg) (T : VcT K C) (ms : mg "set" = none)
    (GL : FnOk P w K mg base CX0 1 fL ld ["thing"] (spIsList K)) (bL : Binds K ld ["thing"] []) (kL : PySem.W.keepIn K (.ref fL) = true) (mL : mg "is_list" = some (.ref fL))
    (GR : FnOk P w K mg base CX0 3 fR rd ["self", "thing"] (spRd K C)) (hR : Meth K C "is_road" fR) (bR : Binds K rd ["self", "thing"] [])
    (GP : FnOk P w K mg base (L2.CX P w) 4 fP pd ["self", "one", "other"] (spPl K C CN CO)) (hP : Meth K C "place" fP) (bP : Binds K pd ["self", "one", "other"] []) : FnOk P w K mg base CX0 5 f fd ["valley", "thing"] (spBg K C) := by
  refine F.ok scBg (fun vs H Q E h => ?_) (fun cdv A outer s H vs Q E hr h => ?_)
  · obtain ⟨x, v, ss, rs, ns, rfl, _⟩ := h
    rfl
  obtain ⟨x, v, ss, rs, ns, rfl, iv, he, h⟩ := h
  have nd := scBg.nd
  have hr1 : Room 1 _ := hr.mono (by decide)
  have hr3 : Room 3 _ := hr.mono (by decide)
  have hr4 : Room 4 _ := hr.mono (by decide)
  refine ⟨_, (pss_cons (by exact (ps_if (PW.pt (pw_or (pt_not (pt_val (pe_call GL hr1 rfl mL kL bL .nil pass0 (pa_cons (pv 1) pa_nil)))) (pw_or1 (pt_not (pt_val (pe_callB (cr_all rfl) rfl B.all PyProof.Rows.boot_all (pa_cons (pe_lc (own := [("road", 2)]) (g := gName 2) (tt := tYes) (te := tMeth C "is_road" (spRd K C) [] E0 (tVar 0) (tCons (tVar 2) tNil)) rfl nd (by exact pi_seqV 1 (pv 1)) (by exact blkOk_by (N := ["valley", "thing", "road", "places"]) (sc := defScope sBg) (by decide +kernel)) (fun _ _ _ _ _ => by exact (pg_name (i := 2) nd rfl (.inl rfl))) (fun _ _ _ _ _ => by exact pts_nil) (fun _ _ _ _ _ => by exact (pe_meth (pv 0) T.cl hR GR hr3 bR .nil pass0 (pa_cons (pv 2) pa_nil)))) pa_nil))))))) (pss_one (by exact (ps_ret pe_non))) pss_nil))
  (pss_cons (by exact (ps_setLc (i := 3) (own := [("road", 2)]) (g := gName 2) (tt := tYes) (te := tMeth C "place" (spPl K C CN CO) [] E0 (tVar 0) (tCons (tOp (rIx K) (tVar 2) (tC (.int 0))) (tCons (tOp (rIx K) (tVar 2) (tC (.int 1))) tNil))) rfl nd rfl rfl (sw_true rfl rfl rfl (by decide +kernel)) (by exact pi_seqV 1 (pv 1)) (by exact blkOk_by (N := ["valley", "thing", "road", "places"]) (sc := defScope sBg) (by decide +kernel)) (fun _ _ _ _ _ => by exact (pg_name (i := 2) nd rfl (.inl rfl))) (fun _ _ _ _ _ => by exact pts_nil) (fun _ _ _ _ _ => by exact (pe_meth (pv 0) T.cl hP GP hr4 bP .nil passL (pa_cons (pe_ix ix_seq (pv 2) pe_int (fun _ _ => rfl)) (pa_cons (pe_ix ix_seq (pv 2) pe_int (fun _ _ => rfl)) pa_nil))))))
  (pss_cons (by exact (ps_if (pt_cmpR op_ne (pe_callB (r := rLenS P w) cr_lenS rfl B.len PySem.boot_len (pa_cons (pe_callTy (r := rSetL K P w) (cr_setL rfl) rfl ms PyProof.Rows.boot_set (pa_cons (pv 3) pa_nil)) pa_nil)) (pe_callB call_len_seq rfl B.len PySem.boot_len (pa_cons (pv 3) pa_nil)) (nomark _)) (pss_one (by exact (ps_ret pe_non))) pss_nil))
  (pss_one (by exact (ps_ret (pv 3))))))), ?_⟩
  have inst : ∀ H1, Same H H1 → ∃ dx fx, H1 x = some (.ins C dx fx) ∧ fx.lookup ("is_road" : Str) = none ∧ fx.lookup ("place" : Str) = none := fun H1 e => by
    obtain ⟨dx, fx, ix, f0⟩ := iv.inst
    exact ⟨dx, fx, e _ _ ix, f0 _ (by decide +kernel), f0 _ (by decide +kernel)⟩
  -- the first list: what is a road
  have judge : ∀ (H1 : Hp) (xs : List V) (bs : List Bool) (QQ : VK), Same H H1 → SeqV H v xs → xs.length ≤ 1000 → Paired (Jud K H ss rs) xs bs → (∀ D H2, Same H1 H2 → H2 D = some (.lst (bs.map V.bl)) → QQ (.ref D) H2) →
      tLc (iSeqV K 1) (gName 2) tYes (tMeth C "is_road" (spRd K C) [] E0 (tVar 0) (tCons (tVar 2) tNil)) [2] [some (.ref x), some v, none, none] H1 QQ := by
    intro H1 xs bs QQ e1 sv lx pr qq
    obtain ⟨p, rfl, hp⟩ := sv
    have hp1 : H1 p = some (.lst xs) ∨ H1 p = some (.tup xs) := hp.imp (e1 _ _) (e1 _ _)
    have lb : xs.length = bs.length := pr.length
    refine ⟨p, xs, rfl, hp1.imp (fun h => SqL.of h) (fun h => SqT.of h), fun J G wk hG D hD => ?_⟩
    refine lc_it wk (fun i Hc => Same H1 Hc ∧ Hc D = some (.lst ((bs.take i).map V.bl))) ⟨K1.Same.upd hD, upd_same⟩ (fun i Hc _ h => hG Hc fun o ho => h.1 _ _ ho) ?_ ?_
    · rintro i y Hc H' hi ⟨c1, c2⟩ ⟨rfl, hy⟩
      have hi2 : i < bs.length := by omega
      obtain ⟨y', ey, ry⟩ := paired_get pr hi2
      obtain rfl : y' = y := Option.some.inj (ey.symm.trans hy)
      refine ⟨rfl, ?_⟩
      unfold tYes
      refine iteT ?_
      obtain ⟨dx, fx, ix, f1, _⟩ := inst H' (e1.trans c1)
      refine ⟨_, rfl, x, dx, fx, rfl, ix, f1, _, rfl, x, y', ss, rs, ns, rfl, iv.same (e1.trans c1), he, ?_⟩
      have us := take_snoc (xs := bs) hi2
      have fin : ∀ b, b = bs[i] → ∀ H2, Same H' H2 → ∃ acc, H2 D = some (.lst acc) ∧ acc.length < sizeLine ∧ (Same H1 (L2.upd H2 D (.lst (acc ++ [V.bl b]))) ∧ L2.upd H2 D (.lst (acc ++ [V.bl b])) D = some (.lst ((bs.take (i + 1)).map V.bl))) := by
        rintro b rfl H2 e2
        refine ⟨_, e2 _ _ c2, by rw [List.length_map, List.length_take]; exact small1000 (by omega), ps_same_upd (c1.trans e2) hD, ?_⟩
        rw [upd_same, us, List.map_append]
        rfl
      rcases ry with ⟨eb, z⟩ | ⟨eb, z⟩
      · obtain ⟨j, z⟩ := z
        exact .inl ⟨⟨j, z.ext (e1.trans c1)⟩, fin true eb.symm⟩
      · exact .inr ⟨z.ext (e1.trans c1), fin false eb.symm⟩
    · rintro Hc ⟨c1, c2⟩
      rw [lb, List.take_length] at c2
      exact qq D Hc c1 c2
  -- the second list: the places
  have plac : ∀ (H1 : Hp) (xs : List V) (js : List Nat) (QQ : VK), Same H H1 → SeqV H v xs → xs.length ≤ 1000 → Paired (RoadV H rs) xs js → (∀ D H2, Same H1 H2 → H1 D = none → H2 D = some (.lst (intsV js)) → QQ (.ref D) H2) →
      tLc (iSeqV K 1) (gName 2) tYes (tMeth C "place" (spPl K C CN CO) [] E0 (tVar 0) (tCons (tOp (rIx K) (tVar 2) (tC (.int 0))) (tCons (tOp (rIx K) (tVar 2) (tC (.int 1))) tNil))) [2] [some (.ref x), some v, none, none] H1 QQ := by
    intro H1 xs js QQ e1 sv lx pr qq
    obtain ⟨p, rfl, hp⟩ := sv
    have hp1 : H1 p = some (.lst xs) ∨ H1 p = some (.tup xs) := hp.imp (e1 _ _) (e1 _ _)
    have lb : xs.length = js.length := pr.length
    refine ⟨p, xs, rfl, hp1.imp (fun h => SqL.of h) (fun h => SqT.of h), fun J G wk hG D hD => ?_⟩
    refine lc_it wk (fun i Hc => Same H1 Hc ∧ Hc D = some (.lst (intsV (js.take i)))) ⟨K1.Same.upd hD, upd_same⟩ (fun i Hc _ h => hG Hc fun o ho => h.1 _ _ ho) ?_ ?_
    · rintro i y Hc H' hi ⟨c1, c2⟩ ⟨rfl, hy⟩
      have hi2 : i < js.length := by omega
      obtain ⟨y', ey, s, t, sv, pl⟩ := paired_get pr hi2
      obtain rfl : y' = y := Option.some.inj (ey.symm.trans hy)
      refine ⟨rfl, ?_⟩
      unfold tYes
      refine iteT ?_
      have e2 := e1.trans c1
      obtain ⟨dx, fx, ix, _, f1⟩ := inst H' e2
      obtain ⟨hs, ht⟩ := plOf_in he pl
      refine ⟨_, rfl, x, dx, fx, rfl, ix, f1, _, rfl, ixSeq (sv.ext e2) rfl ?_⟩
      refine ⟨_, rfl, ixSeq (sv.ext e2) rfl ?_⟩
      refine ⟨x, _, _, ss, rs, ns, rfl, iv.same e2, .inr ⟨s, rfl, hs, .inr ⟨t, rfl, ht, .inr ⟨js[i], pl, fun H2 e3 => ?_⟩⟩⟩⟩
      have us := take_snoc (xs := js) hi2
      refine ⟨_, e3 _ _ c2, by unfold intsV; rw [List.length_map, List.length_take]; exact small1000 (by omega), ps_same_upd (c1.trans e3) hD, ?_⟩
      unfold intsV
      rw [upd_same, us, List.map_append]
      rfl
    · rintro Hc ⟨c1, c2⟩
      rw [lb, List.take_length] at c2
      exact qq D Hc c1 hD c2
  have go : (∃ xs js, SeqV H v xs ∧ xs.length ≤ 1000 ∧ Paired (RoadV H rs) xs js ∧ ∀ p H3, Same H H3 → H p = none → H3 p = some (.lst (intsV js)) → ∀ H4, Same H3 H4 → if js.Nodup then Q (.ref p) H4 else Q .non H4) ∨ ((∀ H', Same H H' → Q .non H') ∧ (NoSeq K H v ∨ ∃ xs bs, SeqV H v xs ∧ xs.length ≤ 1000 ∧ Paired (Jud K H ss rs) xs bs ∧ bs.all id = false)) := by
    rcases h with ⟨js, ⟨xs, sv, lx, pr, ndj⟩, q⟩ | ⟨n | n | ⟨xs, js, sv, lx, pr, ndj⟩, q⟩
    · exact .inl ⟨xs, js, sv, lx, pr, fun p H3 e3 np gp H4 e4 => by rw [if_pos ndj]; exact q p H4 (e3.trans e4) np (e4 _ _ gp)⟩
    · exact .inr ⟨q, .inl n⟩
    · exact .inr ⟨q, .inr n⟩
    · exact .inl ⟨xs, js, sv, lx, pr, fun p H3 e3 np gp H4 e4 => by rw [if_neg ndj]; exact q H4 (e3.trans e4)⟩
  rcases go with ⟨xs, js, sv, lx, pr, z⟩ | ⟨q, n | ⟨xs, bs, sv, lx, pr, al⟩⟩
  · obtain ⟨t, ty, kt, st⟩ := sv.ty (K := K)
    refine ⟨_, rfl, v, t, rfl, ty, kt, fun H1 e1 => ⟨_, rfl, ?_⟩⟩
    rw [st]
    refine iteF ?_
    unfold tNot tB tCB
    refine cons_run ?_
    refine judge H1 xs (js.map fun _ => true) _ e1 sv lx (paired_true pr) fun D H2 e2 gD => ?_
    refine ⟨D, _, rfl, SqL.of gD, _, rfl, ?_⟩
    have al : (js.map fun _ => true).all id = true := by simp
    rw [al]
    refine iteF ?_
    have e12 := e1.trans e2
    refine nQ ?_
    with_reducible refine sQ ?_
    unfold tAsg
    refine plac H2 xs js _ e12 sv lx pr fun p H3 e3 np gp => ?_
    refine K1.gN ?_
    have lj : js.length ≤ 1000 := by rw [← pr.length]; exact lx
    refine ⟨_, rfl, p, keyN js, rfl, SqL.of (by rw [keyN_map]; exact gp), by unfold keyN; rw [List.length_map]; exact lj, fun m hm => ?_⟩
    have e4 := K1.Same.upd (H := H3) (p := m) (o := setOn P w m (keyN js)) hm
    have gm := upd_same' H3 m (setOn P w m (keyN js))
    generalize L2.upd H3 m (setOn P w m (keyN js)) = H4 at e4 gm ⊢
    have lk : (keyN js).length = js.length := by unfold keyN; rw [List.length_map]
    have lo : (once [] (keyN js)).length ≤ 1000 := by have := once_len (keyN js) []; simp only [List.length_nil] at this; omega
    refine ⟨m, _, _, rfl, gm, lo, ?_⟩
    refine ⟨_, rfl, p, _, rfl, .inl (SqL.of (e4 _ _ gp)), ?_⟩
    have z4 := z p H3 (e12.trans e3) (e12.free np) gp H4 e4
    have ne : decide (V.int ((once [] (keyN js)).length : Int) = V.int ((intsV js).length : Int)) = decide js.Nodup := by
      refine decide_eq_decide.mpr ?_
      have li : (intsV js).length = js.length := List.length_map ..
      rw [li, ← keyN_nodup, ← once_full, lk]
      exact ⟨fun q => by have := V.int.inj q; omega, fun q => by rw [q]⟩
    refine ⟨rfl, _, congrArg (fun b => V.bl (!b)) ne, ?_⟩
    by_cases nj : js.Nodup
    · rw [if_pos nj] at z4
      rw [decide_eq_true nj]
      exact iteF ⟨_, rfl, z4⟩
    · rw [if_neg nj] at z4
      rw [decide_eq_false nj]
      exact iteT z4
  · obtain ⟨t, ty, kt, st⟩ := n
    refine ⟨_, rfl, v, t, rfl, ty, kt, fun H1 e1 => ⟨_, rfl, ?_⟩⟩
    rw [st]
    exact iteT (iteT (q H1 e1))
  · obtain ⟨t, ty, kt, st⟩ := sv.ty (K := K)
    refine ⟨_, rfl, v, t, rfl, ty, kt, fun H1 e1 => ⟨_, rfl, ?_⟩⟩
    rw [st]
    refine iteF ?_
    unfold tNot tB tCB
    refine cons_run ?_
    refine judge H1 xs bs _ e1 sv lx pr fun D H2 e2 gD => ?_
    refine ⟨D, bs, rfl, SqL.of gD, _, rfl, ?_⟩
    rw [al]
    exact iteT (q H2 (e1.trans e2))
end
end K1
end
-- EPl2
section
set_option Elab.async false
set_option linter.all false
set_option maxRecDepth 100000
set_option maxHeartbeats 1000000
namespace K1
open PySem PySem.Spec PyProof.Rows L2 W0
section
variable {P : Program} {w : World} {K : PySem.W.Frag} {mg : Str → Option Value} {base : Heap} {CF C CN CO CC : Addr}
theorem ok_Ep {f fB fR : Addr} {fd bd rd : FuncData} (F : Fun K "evening_places" "evening_places" sEp f fd) (B : Bl mg) (T : VcT K C)
    (GB : FnOk P w K mg base CX0 5 fB bd ["valley", "thing"] (spBg K C)) (bB : Binds K bd ["valley", "thing"] []) (kB : PySem.W.keepIn K (.ref fB) = true) (mB : mg "begun_places" = some (.ref fB))
    (GR : FnOk P w K mg base CX0 1 fR rd ["self"] (spRo C)) (hR : Meth K C "roads" fR) (bR : Binds K rd ["self"] []) : FnOk P w K mg base CX0 6 f fd ["valley", "thing"] (spEp K C) := by
  refine F.ok scEp (fun vs H Q E h => ?_) (fun cdv A outer s H vs Q E hr h => ?_)
  · obtain ⟨x, v, ss, rs, ns, rfl, _⟩ := h
    rfl
  obtain ⟨x, v, ss, rs, ns, rfl, iv, he, h⟩ := h
  have nd := scEp.nd
  have hr1 : Room 1 _ := hr.mono (by decide)
  refine ⟨_, pss_cons (by exact (ps_set (i := 2) nd rfl (.inl rfl) (pe_call GB hr rfl mB kB bB .nil pass0 (pa_cons (pv 0) (pa_cons (pv 1) pa_nil)))))
    (pss_cons (by exact (ps_if (PW.pt (pw_or (pt_cmpR op_isN (pv 2) pe_non (nomark _)) (pw_or1 (pt_cmpR op_ne (pe_callB call_len_seq rfl B.len PySem.boot_len (pa_cons (pv 2) pa_nil)) (pe_callB call_len_seq rfl B.len PySem.boot_len (pa_cons (pe_meth0 (pv 0) T.cl hR GR hr1 bR .nil pass0) pa_nil)) (nomark _))))) (pss_one (by exact (ps_ret pe_non))) pss_nil))
    (pss_one (by exact (ps_ret (pv 2))))), ?_⟩
  have good : ∀ js, BegV H rs v js → (∀ p H', Same H H' → H p = none → H' p = some (.lst (intsV js)) → if js.length = rs.length then Q (.ref p) H' else Q .non H') → _ := fun js b q => (⟨js, b, q⟩ : ∃ js, BegV H rs v js ∧ ∀ p H', Same H H' → H p = none → H' p = some (.lst (intsV js)) → if js.length = rs.length then Q (.ref p) H' else Q .non H')
  have go : (∃ js, BegV H rs v js ∧ ∀ p H', Same H H' → H p = none → H' p = some (.lst (intsV js)) → if js.length = rs.length then Q (.ref p) H' else Q .non H') ∨ (NoBeg K H ss rs v ∧ ∀ H', Same H H' → Q .non H') := by
    rcases h with ⟨js, ⟨b, l⟩, q⟩ | ⟨n | ⟨js, b, l⟩, q⟩
    · exact .inl ⟨js, b, fun p H' e n g => by rw [if_pos l]; exact q p H' e n g⟩
    · exact .inr ⟨n, q⟩
    · exact .inl ⟨js, b, fun p H' e n g => by rw [if_neg l]; exact q H' e⟩
  rcases go with ⟨js, b, q⟩ | ⟨n, q⟩
  · refine ⟨_, rfl, _, rfl, x, v, ss, rs, ns, rfl, iv, he, .inl ⟨js, b, fun p H1 e1 np gp => ?_⟩⟩
    refine K1.gN ?_
    obtain ⟨dx, fx, ix, f0⟩ := (iv.same e1).inst
    refine ⟨_, rfl, rfl, _, rfl, iteF ?_⟩
    refine ⟨_, rfl, p, _, rfl, .inl (SqL.of gp), ?_⟩
    refine ⟨_, rfl, x, dx, fx, rfl, ix, f0 _ (by decide +kernel), x, ss, rs, ns, rfl, iv.same e1, fun l qs hl pq => ?_⟩
    have e2 := K1.Same.upd (H := H1) (p := l) (o := .lst (qs.map V.ref)) hl
    have gl := upd_same' H1 l (.lst (qs.map V.ref))
    generalize L2.upd H1 l (.lst (qs.map V.ref)) = H2 at e2 gl ⊢
    refine ⟨l, _, rfl, .inl (SqL.of gl), rfl, ?_⟩
    have z := q p H2 (e1.trans e2) np (e2 _ _ gp)
    have ne : decide (V.int ((intsV js).length : Int) = V.int ((qs.map V.ref).length : Int)) = decide (js.length = rs.length) := by
      refine decide_eq_decide.mpr ?_
      have l1 : (intsV js).length = js.length := List.length_map ..
      have l2 : (qs.map V.ref).length = rs.length := by rw [List.length_map, pq.length]
      rw [l1, l2]
      exact ⟨fun q => by have := V.int.inj q; omega, fun q => by rw [q]⟩
    refine ⟨_, congrArg (fun b => V.bl (!b)) ne, ?_⟩
    by_cases nj : js.length = rs.length
    · rw [if_pos nj] at z
      rw [decide_eq_true nj]
      exact iteF ⟨_, rfl, z⟩
    · rw [if_neg nj] at z
      rw [decide_eq_false nj]
      exact iteT z
  · refine ⟨_, rfl, _, rfl, x, v, ss, rs, ns, rfl, iv, he, .inr ⟨n, fun H1 e1 => ?_⟩⟩
    exact K1.gN ⟨_, rfl, rfl, _, rfl, iteT (iteT (q H1 e1))⟩
theorem ok_Cg {f fB fE : Addr} {fd bd ed : FuncData} (F : Fun K "need_closing" "need_closing" sCg f fd)
    (GB : FnOk P w K mg base CX0 6 fB bd ["valley", "thing"] (spEp K C)) (bB : Binds K bd ["valley", "thing"] []) (kB : PySem.W.keepIn K (.ref fB) = true) (mB : mg "evening_places" = some (.ref fB))
    (TF : FeC K mg CF) (TC : ErF K mg "BadClosing" CC fE ["closing"]) (FE : Fun K "__init__" "BadClosing.__init__" sCl fE ed) (bE : Binds K ed ["self", "closing"] []) : FnOk P w K mg base (L2.CX P w) 7 f fd ["valley", "closing"] (spCg K C CC) := by
  have GE := ok_iCl (P := P) (w := w) (base := base) FE TF TC
  refine F.okX scCg (fun vs H Q E h => ?_) (fun cdv A outer s H vs Q E hr h => ?_)
  · obtain ⟨x, v, ss, rs, ns, rfl, _⟩ := h
    rfl
  obtain ⟨x, v, ss, rs, ns, rfl, iv, he, h⟩ := h
  have nd := scCg.nd
  have hr2 : Room 2 _ := hr.mono (by decide)
  refine ⟨_, pss_cons (by exact (ps_set (i := 2) nd rfl (.inl rfl) (pe_call GB hr rfl mB kB bB .nil pass0 (pa_cons (pv 0) (pa_cons (pv 1) pa_nil)))))
    (pss_cons (by exact (ps_if (pt_cmpR op_isN (pv 2) pe_non (nomark _)) (pss_one (by exact (ps_raise rfl (takes_of rfl rfl rfl rfl) (pmk_oex TC.ox TC.ini TC.ty GE hr2 bE .nil pass0 rfl TC.m (pa_cons (pv 1) pa_nil))))) pss_nil))
    (pss_one (by exact (ps_ret (pv 2))))), ?_⟩
  rcases h with ⟨js, b, q⟩ | ⟨n, g⟩
  · refine ⟨_, rfl, _, rfl, x, v, ss, rs, ns, rfl, iv, he, .inl ⟨js, b, fun p H1 e1 np gp => ?_⟩⟩
    exact K1.gN ⟨_, rfl, rfl, _, rfl, iteF ⟨_, rfl, q p H1 e1 np gp⟩⟩
  · refine ⟨_, rfl, _, rfl, x, v, ss, rs, ns, rfl, iv, he, .inr ⟨n, fun H1 e1 => ?_⟩⟩
    exact K1.gN ⟨_, rfl, rfl, _, rfl, iteT ⟨_, rfl, (by show 1 ≤ 1000; decide), raise_one g e1⟩⟩
end
end K1
end
-- EMath
section
set_option Elab.async false
set_option linter.all false
set_option maxRecDepth 100000
set_option maxHeartbeats 1000000
namespace K1
open PySem PySem.Spec PyProof.Rows L2 W0
/-- the houses that are joined to one by some roads -/
def comp (ss : List Str) (es : List (Str × Str)) (s : Str) : List Str := ss.filter fun t => decide (rtOf es t = rtOf es s)
/-- the roads at these places -/
def esOf (rs : List (Str × Str)) (js : List Nat) : List (Str × Str) := js.filterMap fun j => rs[j]?
theorem esOf_snoc {rs : List (Str × Str)} {js : List Nat} {j : Nat} (hj : j < rs.length) : esOf rs (js ++ [j]) = esOf rs js ++ [rs[j]] := by
  unfold esOf
  rw [List.filterMap_append, List.filterMap_cons, List.filterMap_nil, List.getElem?_eq_getElem hj]
theorem joinRt_iff {rt : Str → Str} {a b s t : Str} : joinRt rt a b t = joinRt rt a b s ↔ rt t = rt s ∨ ((rt t = rt a ∨ rt t = rt b) ∧ (rt s = rt a ∨ rt s = rt b)) := by
  unfold joinRt
  by_cases h1 : rt t = rt a <;> by_cases h2 : rt s = rt a
  · rw [if_pos h1, if_pos h2]
    exact ⟨fun _ => .inl (h1.trans h2.symm), fun _ => rfl⟩
  · rw [if_pos h1, if_neg h2]
    constructor
    · exact fun q => .inr ⟨.inl h1, .inr q.symm⟩
    · rintro (q | ⟨_, q | q⟩)
      · exact absurd (q.symm.trans h1) h2
      · exact absurd q h2
      · exact q.symm
  · rw [if_neg h1, if_pos h2]
    constructor
    · exact fun q => .inr ⟨.inr q, .inl h2⟩
    · rintro (q | ⟨q | q, _⟩)
      · exact absurd (q.trans h2) h1
      · exact absurd q h1
      · exact q
  · rw [if_neg h1, if_neg h2]
    constructor
    · exact .inl
    · rintro (q | ⟨q | q, q2 | q2⟩)
      · exact q
      · exact absurd q h1
      · exact absurd q h1
      · exact absurd q2 h2
      · exact q.trans q2.symm
theorem mem_comp {ss : List Str} {es : List (Str × Str)} {s t : Str} : t ∈ comp ss es s ↔ t ∈ ss ∧ rtOf es t = rtOf es s := by
  unfold comp
  rw [List.mem_filter, decide_eq_true_eq]
theorem comp_nil {ss : List Str} (nd : ss.Nodup) {s : Str} (hs : s ∈ ss) : comp ss [] s = [s] := by
  unfold comp
  show ss.filter (fun t => decide (t = s)) = [s]
  induction ss with
  | nil => cases hs
  | cons a r ih =>
    have n := List.nodup_cons.mp nd
    rcases List.mem_cons.mp hs with rfl | h
    · rw [List.filter_cons, if_pos (decide_eq_true rfl)]
      have : r.filter (fun t => decide (t = s)) = [] := List.filter_eq_nil_iff.mpr fun x hx => by
        rw [decide_eq_true_eq]
        exact fun z => n.1 (by rw [← z]; exact hx)
      rw [this]
    · rw [List.filter_cons, if_neg (by rw [decide_eq_true_eq]; exact fun z => n.1 (by rw [z]; exact h)), ih n.2 h]
theorem comp_len {ss : List Str} {es : List (Str × Str)} {s : Str} : (comp ss es s).length ≤ ss.length := List.length_filter_le _ _
/-- a road more: who lies at one of its ends -/
theorem comp_new {ss : List Str} {es : List (Str × Str)} {e : Str × Str} {s : Str} (h : rtOf es s = rtOf es e.1 ∨ rtOf es s = rtOf es e.2) : comp ss (es ++ [e]) s = ss.filter fun t => decide (t ∈ comp ss es e.1 ++ comp ss es e.2) := by
  refine List.filter_congr fun t ht => decide_eq_decide.mpr ?_
  rw [rtOf_snoc, joinRt_iff, List.mem_append, mem_comp, mem_comp]
  constructor
  · rintro (q | ⟨q, _⟩)
    · rw [q]
      exact h.imp (fun z => ⟨ht, z⟩) fun z => ⟨ht, z⟩
    · exact q.imp (fun z => ⟨ht, z⟩) fun z => ⟨ht, z⟩
  · exact fun q => .inr ⟨q.imp And.right And.right, h⟩
theorem comp_old {ss : List Str} {es : List (Str × Str)} {e : Str × Str} {s : Str} (h : ¬ (rtOf es s = rtOf es e.1 ∨ rtOf es s = rtOf es e.2)) : comp ss (es ++ [e]) s = comp ss es s := by
  refine List.filter_congr fun t ht => decide_eq_decide.mpr ?_
  rw [rtOf_snoc, joinRt_iff]
  exact ⟨fun q => q.resolve_right fun z => h z.2, .inl⟩
theorem mem_new {ss : List Str} {es : List (Str × Str)} {e : Str × Str} {s : Str} (hs : s ∈ ss) : s ∈ (ss.filter fun t => decide (t ∈ comp ss es e.1 ++ comp ss es e.2)) ↔ rtOf es s = rtOf es e.1 ∨ rtOf es s = rtOf es e.2 := by
  rw [List.mem_filter, decide_eq_true_eq, List.mem_append, mem_comp, mem_comp]
  exact ⟨fun q => q.2.imp And.right And.right, fun q => ⟨hs, q.imp (fun z => ⟨hs, z⟩) fun z => ⟨hs, z⟩⟩⟩
end K1
end
-- EOrd
section
set_option Elab.async false
set_option linter.all false
set_option maxRecDepth 100000
set_option maxHeartbeats 1000000
namespace K1
open PySem PySem.Spec PyProof.Rows L2 W0
abbrev sIo : Stmt := top 39
abbrev keyS (pt : List Str) : List Key := pt.map Sum.inr
theorem keyS_map (pt : List Str) : (keyS pt).map kV = pt.map V.str := by
  unfold keyS
  rw [List.map_map]
  rfl
theorem inB_str {pt : List Str} {s : Str} : inB (keyS pt) (.inr s) = decide (s ∈ pt) := by
  rw [Bool.eq_iff_iff, inB_iff, decide_eq_true_eq]
  unfold keyS
  rw [List.mem_map]
  constructor
  · rintro ⟨a, h, e⟩
    cases e
    exact h
  · intro h
    exact ⟨s, h, rfl⟩
theorem take_filter_succ {f : Str → Bool} {pt : List Str} {i : Nat} (hi : i < pt.length) : (pt.take (i + 1)).filter f = (pt.take i).filter f ++ if f pt[i] = true then [pt[i]] else [] := by
  rw [take_snoc hi, List.filter_append]
  congr 1
  rw [List.filter_cons, List.filter_nil]
/-- in the valley's order -/
def spIo (C : Addr) : Sp := fun vs H Q _ => ∃ (x p : Addr) (ss : List Str) (rs : List (Str × Str)) (ns : List Int) (pt : List Str), vs = [.ref x, .ref p] ∧ IsV C H x ss rs ns ∧ ss.length ≤ 1000 ∧ H p = some (.lst (pt.map V.str)) ∧ pt.length ≤ 1000 ∧
  ∀ r H', Same H H' → H r = none → H' r = some (.lst ((ss.filter fun s => decide (s ∈ pt)).map V.str)) → Q (.ref r) H'
theorem scIo : FnScope ["valley", "some", "members", "house"] ["valley", "some"] (defScope sIo) := ⟨rfl, rfl, rfl, by decide +kernel, rfl, by decide +kernel, by decide +kernel⟩
section
variable {P : Program} {w : World} {K : PySem.W.Frag} {mg : Str → Option Value} {base : Heap} {C CN CO : Addr}
theorem ok_Io {f fH : Addr} {fd hd : FuncData} (F : Fun K "in_order" "in_order" sIo f fd) (T : VcT K C) (ms : mg "set" = none)
    (GH : FnOk P w K mg base CX0 1 fH hd ["self"] (spHo C)) (hH : Meth K C "houses" fH) (bH : Binds K hd ["self"] []) : FnOk P w K mg base CX0 2 f fd ["valley", "some"] (spIo C) := by
  refine F.ok scIo (fun vs H Q E h => ?_) (fun cdv A outer s H vs Q E hr h => ?_)
  · obtain ⟨x, p, ss, rs, ns, pt, rfl, _⟩ := h
    rfl
  obtain ⟨x, p, ss, rs, ns, pt, rfl, iv, lss, hp, lpt, q⟩ := h
  have nd := scIo.nd
  refine ⟨_, pss_cons (by exact (ps_set (i := 2) nd rfl (.inr rfl) (pe_callTy (r := rSetL K P w) (cr_setL rfl) rfl ms PyProof.Rows.boot_set (pa_cons (pv 1) pa_nil))))
    (pss_one (by exact (ps_ret (pe_lc (own := [("house", 3)]) (g := gName 3) (tt := tTest (tOp (rSInK P w false) (tVar 3) (tVar 2))) (te := tVar 3) rfl nd (by exact pi_list (pe_meth0 (pv 0) T.cl hH GH hr bH .nil pass0))
      (by exact blkOk_by (N := ["valley", "some", "members", "house"]) (sc := defScope sIo) (by decide +kernel)) (fun _ _ _ _ _ => by exact pg_name (i := 3) nd rfl (Or.inl rfl)) (fun _ _ _ _ _ => by exact (pts_one (pt_cmpR or_sinK (pv 3) (pv 2) (by with_unfolding_all rfl)))) (fun _ _ _ _ _ => by exact pv 3))))), ?_⟩
  refine ⟨_, rfl, p, keyS pt, rfl, SqL.of (by rw [keyS_map]; exact hp), by rw [List.length_map]; exact lpt, fun m hm => ?_⟩
  have e0 := K1.Same.upd (H := H) (p := m) (o := setOn P w m (keyS pt)) hm
  have gm := upd_same' H m (setOn P w m (keyS pt))
  generalize L2.upd H m (setOn P w m (keyS pt)) = H0 at e0 gm ⊢
  have iv0 := iv.same e0
  obtain ⟨dx, fx, ix, f0⟩ := iv0.inst
  refine ⟨_, rfl, x, dx, fx, rfl, ix, f0 _ (by decide +kernel), x, ss, rs, ns, rfl, iv0, fun l hl => ?_⟩
  have e1 := K1.Same.upd (H := H0) (p := l) (o := .lst (ss.map V.str)) hl
  have gl := upd_same' H0 l (.lst (ss.map V.str))
  generalize L2.upd H0 l (.lst (ss.map V.str)) = H1 at e1 gl ⊢
  have gm1 := e1 _ _ gm
  refine ⟨l, rfl, ⟨_, SqL.of gl⟩, fun D hD => ?_⟩
  have lm : (ss.map V.str).length = ss.length := List.length_map ..
  refine lc_it (Qd := _) walk_list (fun i Hc => Same H1 Hc ∧ Hc D = some (.lst (((ss.take i).filter fun s => decide (s ∈ pt)).map V.str))) ⟨K1.Same.upd hD, upd_same⟩ (fun i Hc _ h => SqL.of (h.1 _ _ gl)) ?_ ?_
  · rintro i v Hc H' hi ⟨c1, c2⟩ ⟨rfl, hv⟩
    rw [lm] at hi
    have ev : v = .str ss[i] := by
      rw [List.getElem?_map, List.getElem?_eq_getElem hi] at hv
      exact (Option.some.inj hv).symm
    subst ev
    refine ⟨rfl, ?_⟩
    refine ⟨_, rfl, _, rfl, .inr ss[i], m, _, _, rfl, rfl, c1 _ _ gm1, _, rfl, ?_⟩
    show if inB (keyS pt) (.inr ss[i]) = true then _ else _
    rw [inB_str]
    have us := take_filter_succ (f := fun s => decide (s ∈ pt)) hi
    have ll : ((ss.take i).filter fun s => decide (s ∈ pt)).length ≤ 1000 := Nat.le_trans (List.length_filter_le _ _) (by rw [List.length_take]; omega)
    refine ite2 (fun y => ?_) (fun y => ?_)
    · rw [if_pos y] at us
      refine ⟨_, rfl, _, c2, by rw [List.length_map]; exact small1000 ll, ps_same_upd c1 hD, ?_⟩
      rw [upd_same, us, List.map_append]
      rfl
    · rw [if_neg y] at us
      refine ⟨c1, ?_⟩
      rw [us, c2]
      simp
  · rintro Hc ⟨c1, c2⟩
    rw [lm, List.take_length] at c2
    exact q D Hc (e0.trans (e1.trans c1)) ((e0.trans e1).free hD) c2
end
end K1
end
-- KLaw4
section
set_option Elab.async false
set_option linter.all false
set_option maxRecDepth 100000
set_option maxHeartbeats 4000000
namespace K1
open PySem PySem.Spec PyProof.Rows L2
abbrev sVV : Stmt := top 55
/-- the law's own valley: a triple of three lists -/
structure VAt (a : Addr) (H : Hp) (t p1 p2 p3 : Addr) (qs : List Addr) (ss : List Str) (rs : List (Str × Str)) (ns : List Int) : Prop where
  t0 : H t = some (.tup [.ref p1, .ref p2, .ref p3])
  h1 : H p1 = some (.lst (ss.map V.str))
  h2 : H p2 = some (.lst (qs.map V.ref))
  pr : Paired (TupP H) qs rs
  h3 : H p3 = some (.lst (ns.map V.int))
  n1 : p1 ≠ a
  n2 : p2 ≠ a
  n3 : p3 ≠ a
structure VOk (ss : List Str) (rs : List (Str × Str)) (ns : List Int) : Prop where
  good : Good ss
  pos : 1 ≤ ss.length
  le : ss.length ≤ 60
  cut : Cut rs
  ends : EndsIn ss rs
  rl : rs.length + 1 = ss.length
  nl : ns.length = ss.length
  ge : ∀ n ∈ ns, 1 ≤ n
  nob : NoB ss
theorem VAt.kept {a : Addr} {H H' : Hp} {t p1 p2 p3 : Addr} {qs : List Addr} {ss : List Str} {rs : List (Str × Str)} {ns : List Int} {n : Nat} (v : VAt a H t p1 p2 p3 qs ss rs ns) (s : Spr H a n) (k : Kept a H H') : VAt a H' t p1 p2 p3 qs ss rs ns :=
  ⟨k _ _ (s.tup v.t0) v.t0, k _ _ v.n1 v.h1, k _ _ v.n2 v.h2, TupP.kept v.pr s k, k _ _ v.n3 v.h3, v.n1, v.n2, v.n3⟩
def spVV : Sp := fun vs H Q _ => ∃ (a : Addr) (l m : Int) (n : Nat), vs = [.ref a, .int l, .int m] ∧ Spr H a n ∧ n + 5000 ≤ 1000000 ∧ 1 ≤ l ∧ l ≤ m ∧ m ≤ 60 ∧
  ∀ (t p1 p2 p3 : Addr) (qs : List Addr) (ss : List Str) (rs : List (Str × Str)) (ns : List Int) (H' : Hp), Kept a H H' → Spr H' a (n + 1000) → VAt a H' t p1 p2 p3 qs ss rs ns → VOk ss rs ns → l ≤ (ss.length : Int) → (ss.length : Int) ≤ m → Q (.ref t) H'
theorem scVV : FnScope ["spring", "least", "most", "names", "top", "name"] ["spring", "least", "most"] (defScope sVV) := ⟨rfl, rfl, rfl, by decide +kernel, rfl, by decide +kernel, by decide +kernel⟩
theorem fr_kept {a : Addr} {H Hx : Hp} {z : Addr} (kx : Kept a H Hx) (hz : Hx z = none) (za : z ≠ a) : H z = none := by
  cases e : H z with
  | none => rfl
  | some o => rw [kx _ _ za e] at hz; cases hz
section
variable {P : Program} {w : World} {K : PySem.W.Frag} {mg : Str → Option Value} {base : Heap} {fD fM fN fP fR : Addr} {fdD fdM fdN fdP fdR : FuncData}
theorem ok_VV {f : Addr} {fd : FuncData} (F : Fun K "_law_v_valley" "_law_v_valley" sVV f fd) (B : Bl mg)
    (GD : FnOk P w K mg base CX0 1 fD fdD ["spring", "many"] spDraw) (bD : Binds K fdD ["spring", "many"] []) (kD : PySem.W.keepIn K (.ref fD) = true) (mD : mg "_law_draw" = some (.ref fD))
    (GM : FnOk P w K mg base CX0 2 fM fdM ["spring", "some"] spMixed) (bM : Binds K fdM ["spring", "some"] []) (kM : PySem.W.keepIn K (.ref fM) = true) (mM : mg "_law_mixed" = some (.ref fM))
    (GP : FnOk P w K mg base CX0 2 fP fdP ["spring", "some"] spPick) (bP : Binds K fdP ["spring", "some"] []) (kP : PySem.W.keepIn K (.ref fP) = true) (mP : mg "_law_pick" = some (.ref fP))
    (GN : FnOk P w K mg base CX0 3 fN fdN ["spring", "least", "most"] spVN) (bN : Binds K fdN ["spring", "least", "most"] []) (kN : PySem.W.keepIn K (.ref fN) = true) (mN : mg "_law_v_names" = some (.ref fN))
    (GR : FnOk P w K mg base CX0 3 fR fdR ["spring", "names"] spVRo) (bR : Binds K fdR ["spring", "names"] []) (kR : PySem.W.keepIn K (.ref fR) = true) (mR : mg "_law_v_roads" = some (.ref fR)) :
    FnOk P w K mg base CX0 4 f fd ["spring", "least", "most"] spVV := by
  refine F.ok scVV (fun vs H Q E h => ?_) (fun cdv A outer s H vs Q E hr h => ?_)
  · obtain ⟨a, l, m, n, rfl, _⟩ := h
    rfl
  obtain ⟨a, l, m, n, rfl, hs, hn, hl, hlm, hm, q⟩ := h
  have nd := scVV.nd
  have hr1 : Room 1 _ := hr.mono (by decide)
  have hr2 : Room 2 _ := hr.mono (by decide)
  refine ⟨_, (pss_cons (by exact (ps_asg (pe_tup (pa_cons (pe_call GN hr rfl mN kN bN .nil pass0 (pa_cons (pv 0) (pa_cons (pv 1) (pa_cons (pv 2) pa_nil)))) (pa_cons (pe_call GP hr2 rfl mP kP bP .nil pass0 (pa_cons (pv 0) (pa_cons (pe_lst (pa_cons pe_int (pa_cons pe_int (pa_cons (pe_op op_pow pe_int pe_int) pa_nil)))) pa_nil))) pa_nil))) (pg_tup rfl (pgs_cons (pg_name (i := 3) nd rfl (.inl rfl)) (pgs_cons (pg_name (i := 4) nd rfl (.inr rfl)) pgs_nil))))) (pss_one (by exact (ps_ret (pe_tup (pa_cons (pe_call GM hr2 rfl mM kM bM .nil pass0 (pa_cons (pv 0) (pa_cons (pv 3) pa_nil))) (pa_cons (pe_call GR hr rfl mR kR bR .nil pass0 (pa_cons (pv 0) (pa_cons (pv 3) pa_nil))) (pa_cons (pe_lc (own := [("name", 5)]) (g := gName 5) (tt := tYes) rfl nd (by exact pi_seqV 3 (pv 3)) (by exact blkOk_by (N := ["spring", "least", "most", "names", "top", "name"]) (sc := defScope sVV) (by decide +kernel)) (fun _ _ _ _ _ => by exact (pg_name (i := 5) nd rfl (.inl rfl))) (fun _ _ _ _ _ => by exact pts_nil) (fun _ _ _ _ _ => by exact (pe_op op_add pe_int (pe_call GD hr1 rfl mD kD bD .nil pass0 (pa_cons (pv 0) (pa_cons (pv 4) pa_nil)))))) pa_nil)))))))), ?_⟩
  refine ⟨_, rfl, _, rfl, _, rfl, a, l, m, n, rfl, hs, by omega, hl, hlm, hm, fun p ss0 H1 p0 pa k1 s1 hp good nob g1 g2 => ?_⟩
  refine ⟨_, rfl, _, _, rfl, rfl, ⟨by decide, by decide, by decide⟩, (by show 3 ≤ sizeLine; decide), fun l1 hl1 => ?_⟩
  have l1a := s1.ne hl1
  have p1n := ne_of_none hp hl1
  refine ⟨a, l1, _, n + 100, rfl, s1.upd l1a, by omega, upd_same, l1a, by simp, (by show 3 ≤ 1000; decide), fun x H2 hx k2 s2 => ?_⟩
  have k12 : Kept a H1 H2 := (Kept.new hl1).trans k2
  have hp2 := k12 _ _ pa hp
  obtain ⟨top, rfl, tp1, tp2⟩ : ∃ t : Int, x = .int t ∧ 0 < t ∧ t.natAbs < 2 ^ 100 := by
    rcases List.mem_cons.mp hx with rfl | hx
    · exact ⟨1, rfl, by decide, by decide⟩
    · rcases List.mem_cons.mp hx with rfl | hx
      · exact ⟨4, rfl, by decide, by decide⟩
      · rcases List.mem_cons.mp hx with rfl | hx
        · exact ⟨_, rfl, by decide, by decide⟩
        · cases hx
  refine ⟨(by show 2 ≤ sizeLine; decide), fun u hu => ⟨u, _, rfl, SqT.of upd_same, rfl, _, _, rfl, _, _, rfl, rfl, ?_⟩⟩
  have ua := s2.ne hu
  have pu := ne_of_none hp2 hu
  have k13 : Kept a H1 (L2.upd H2 u (.tup [.ref p, .int top])) := k12.trans (Kept.new hu)
  have s3 : Spr (L2.upd H2 u (.tup [.ref p, .int top])) a (n + 100 + 1) := s2.upd ua
  have hp3 : L2.upd H2 u (.tup [.ref p, .int top]) p = some (.lst (ss0.map V.str)) := by rw [upd_ne pu]; exact hp2
  generalize L2.upd H2 u (.tup [.ref p, .int top]) = H3 at k13 s3 hp3 ⊢
  refine ⟨_, rfl, _, rfl, a, p, ss0.map V.str, _, rfl, s3, by omega, hp3, pa, by rw [List.length_map]; omega, fun r1 ys H4 pm rn1 ra1 hr1' k4 s4 => ?_⟩
  rw [List.length_map] at s4
  obtain ⟨ss, rfl, ps⟩ := perm_str pm
  have hp4 := k4 _ _ pa hp3
  refine ⟨_, rfl, _, rfl, a, p, _, ss0, rfl, s4, by omega, hp4, pa, good, by omega, by omega, fun r2 qs rs H5 rn2 ra2 k5 s5 hr2' pr qf cut ends hrl => ?_⟩
  have hp5 := k5 _ _ pa hp4
  have h15 := k5 _ _ ra1 hr1'
  refine ⟨p, _, rfl, .inl (SqL.of hp5), fun J G wk hG D hD => ?_⟩
  have Da := s5.ne hD
  have l0 : ss.length = ss0.length := ps.length_eq
  refine lc_it wk (fun i Hc => Kept a H5 Hc ∧ Spr Hc a (n + 700 + i) ∧ ∃ ns : List Int, Hc D = some (.lst (ns.map V.int)) ∧ ns.length = i ∧ ∀ z ∈ ns, 1 ≤ z) ⟨Kept.new hD, (s5.upd Da).mono (by omega), [], upd_same, rfl, fun z hz => absurd hz (by simp)⟩ (fun i Hc _ h => hG Hc fun o ho => h.1 _ _ pa ho) ?_ ?_
  · rintro i y Hc H' hi ⟨c1, c2, ns, c3, c4, c5⟩ ⟨rfl, hy⟩
    rw [List.length_map] at hi
    refine ⟨rfl, ?_⟩
    unfold tYes
    refine iteT ?_
    refine ⟨_, rfl, _, rfl, a, top, _, rfl, c2, by omega, tp1, tp2, fun d H6 d0 d1 k6 s6 => ?_⟩
    have c3' := k6 _ _ Da c3
    refine ⟨_, _, rfl, rfl, _, c3', by rw [List.length_map]; exact small1000 (by omega), fun b o nb e => ?_, (s6.upd Da).mono (by omega), ns ++ [1 + d], by rw [upd_same, List.map_append]; rfl, by rw [List.length_append, c4]; rfl, fun z hz => ?_⟩
    · rw [upd_ne (ne_of_none e hD)]
      exact k6 b o nb (c1 b o nb e)
    · rcases List.mem_append.mp hz with hz | hz
      · exact c5 z hz
      · rw [List.mem_singleton.mp hz]
        omega
  · rintro Hc ⟨c1, c2, ns, c3, c4, c5⟩
    rw [List.length_map] at c4
    refine ⟨(by show 3 ≤ sizeLine; decide), fun t ht => ?_⟩
    have ta := c2.ne ht
    have kk : Kept a Hc (L2.upd Hc t (.tup [.ref r1, .ref r2, .ref D])) := Kept.new ht
    have kall : Kept a H1 (L2.upd Hc t (.tup [.ref r1, .ref r2, .ref D])) := k13.trans (k4.trans (k5.trans (c1.trans kk)))
    refine q t r1 r2 D qs ss rs ns _ (k1.trans kall) ((c2.upd ta).mono (by rw [List.length_map]; omega)) ⟨upd_same, kk _ _ ra1 (c1 _ _ ra1 h15), kk _ _ ra2 (c1 _ _ ra2 hr2'), TupP.kept pr s5 (c1.trans kk), kk _ _ Da c3, ra1, ra2, Da⟩
      ⟨good.perm ps, by omega, by omega, cut, fun r hr => ⟨ps.mem_iff.mpr (ends r hr).1, ps.mem_iff.mpr (ends r hr).2⟩, by omega, by omega, c5, fun s hs => nob s (ps.mem_iff.mp hs)⟩ (by omega) (by omega)
end
end K1
end
-- KLaw5
section
set_option Elab.async false
set_option linter.all false
set_option maxRecDepth 100000
set_option maxHeartbeats 4000000
namespace K1
open PySem PySem.Spec PyProof.Rows L2
abbrev sLo : Stmt := top 52
open Classical in
/-- the heap without these -/
noncomputable def wo (Z : Addr → Prop) (H : Hp) : Hp := fun b => if Z b then none else H b
theorem wo_some {Z : Addr → Prop} {H : Hp} {b : Addr} {o : HO} : wo Z H b = some o ↔ ¬ Z b ∧ H b = some o := by
  unfold wo
  by_cases h : Z b
  · rw [if_pos h]
    exact ⟨fun q => (by cases q), fun q => absurd h q.1⟩
  · rw [if_neg h]
    exact ⟨fun q => ⟨h, q⟩, fun q => q.2⟩
theorem wo_same {Z : Addr → Prop} {H H' : Hp} (k : ∀ b o, ¬ Z b → H b = some o → H' b = some o) : Same (wo Z H) (wo Z H') := fun b o e => by
  obtain ⟨n, e⟩ := wo_some.mp e
  exact wo_some.mpr ⟨n, k b o n e⟩
theorem wo_le {Z Z' : Addr → Prop} {H : Hp} (k : ∀ b, Z b → Z' b) : Same (wo Z' H) (wo Z H) := fun b o e => by
  obtain ⟨n, e⟩ := wo_some.mp e
  exact wo_some.mpr ⟨fun z => n (k b z), e⟩
theorem wo_out {Z : Addr → Prop} {H : Hp} : Same (wo Z H) H := fun b o e => (wo_some.mp e).2
abbrev Rel (α : Type) := Hp → V → α → Prop
def MonR {α : Type} (R : Rel α) : Prop := ∀ H H' v x, Same H H' → R H v x → R H' v x
def SeqR {α : Type} (R : Rel α) : Rel (List α) := fun H v xs => ∃ vs, SeqV H v vs ∧ xs.length ≤ 60 ∧ Paired (R H) vs xs
def Flat0 (K : PySem.W.Frag) : Rel V := fun H v x => v = x ∧ NoSeq K H v
theorem mon_flat0 {K : PySem.W.Frag} : MonR (Flat0 K) := fun H H' v x e h => ⟨h.1, h.2.ext e⟩
theorem mon_seq {α : Type} {R : Rel α} (m : MonR R) : MonR (SeqR R) := fun H H' v x e ⟨vs, a, b, c⟩ => ⟨vs, a.ext e, b, paired_imp (fun _ _ q => m _ _ _ _ e q) c⟩
def spLo {α : Type} (R : Rel α) (c : Nat) : Sp := fun vs H Q _ => ∃ (a : Addr) (v : V) (x : α) (n : Nat) (Z : Addr → Prop), vs = [.ref a, v] ∧ Spr H a n ∧ n + c ≤ 1000000 ∧ Z a ∧ (∀ z, Z z → H z ≠ none) ∧ R (wo Z H) v x ∧
  ∀ y H', Kept a H H' → Spr H' a (n + c) → R (wo Z H') y x → Q y H'
theorem scLo : FnScope ["spring", "thing", "found", "one"] ["spring", "thing"] (defScope sLo) := ⟨rfl, rfl, rfl, by decide +kernel, rfl, by decide +kernel, by decide +kernel⟩
theorem Spr.same {H H' : Hp} {a : Addr} {n : Nat} (s : Spr H a n) (e : Same H H') : Spr H' a n := by
  obtain ⟨x, y, z, h, r⟩ := s
  exact ⟨x, y, z, e _ _ h, r⟩
section
variable {P : Program} {w : World} {K : PySem.W.Frag} {mg : Str → Option Value} {base : Heap} {fD : Addr} {fdD : FuncData}
theorem ok_lo0 {f : Addr} {fd : FuncData} (F : Fun K "_law_loose" "_law_loose" sLo f fd) (B : Bl mg) : FnOk P w K mg base CX0 1 f fd ["spring", "thing"] (spLo (Flat0 K) 0) := by
  refine F.ok scLo (fun vs H Q E h => ?_) (fun cdv A outer s H vs Q E hr h => ?_)
  · obtain ⟨a, v, x, n, Z, rfl, _⟩ := h
    rfl
  obtain ⟨a, v, x, n, Z, rfl, hs, hn, za, hz, ⟨rfl, t, ty, kt, st⟩, q⟩ := h
  have nd := scLo.nd
  refine ⟨_, (pss_cons (by exact (ps_if (pt_not (pt_val (pe_callB call_isiT rfl B.isi PyProof.Rows.boot_isinstance (pa_cons (pv 1) (pa_cons (pe_tup (pa_cons (pe_bltn (v := .ty "list") rfl B.list PyProof.Rows.boot_list rfl) (pa_cons (pe_bltn (v := .ty "tuple") rfl B.tuple PyProof.Rows.boot_tuple rfl) pa_nil))) pa_nil))))) (pss_one (by exact (ps_ret (pv 1)))) pss_nil)) (pss_cons (by exact (ps_never)) (pss_one (by exact (ps_never))))), ?_⟩
  refine ⟨_, rfl, (by show 2 ≤ sizeLine; decide), fun p hp => ?_⟩
  have e := K1.Same.upd (H := H) (p := p) (o := .tup [.ty "list", .ty "tuple"]) hp
  refine ⟨v, p, _, _, _, _, rfl, upd_same, .cons (.ty "list") (.cons (.ty "tuple") .nil), TyX.ext ty (wo_out.trans e), kit_seq kt, _, rfl, ?_⟩
  rw [st]
  refine iteT ⟨_, rfl, q _ _ (Kept.same e) (hs.same e) ⟨rfl, t, TyX.ext ty (wo_same fun b o _ h => e b o h), kt, st⟩⟩
theorem ok_lo {α : Type} {R : Rel α} {c k : Nat} {f : Addr} {fd : FuncData} (mon : MonR R) (F : Fun K "_law_loose" "_law_loose" sLo f fd) (B : Bl mg) (mF : mg "_law_loose" = some (.ref f)) (b : Binds K fd ["spring", "thing"] [])
    (GD : FnOk P w K mg base CX0 1 fD fdD ["spring", "many"] spDraw) (bD : Binds K fdD ["spring", "many"] []) (kD : PySem.W.keepIn K (.ref fD) = true) (mD : mg "_law_draw" = some (.ref fD))
    (hk : 1 ≤ k) (G : FnOk P w K mg base CX0 k f fd ["spring", "thing"] (spLo R c)) : FnOk P w K mg base CX0 (k + 1) f fd ["spring", "thing"] (spLo (SeqR R) (60 * c + 1)) := by
  refine F.ok scLo (fun vs H Q E h => ?_) (fun cdv A outer s H vs Q E hr h => ?_)
  · obtain ⟨a, v, x, n, Z, rfl, _⟩ := h
    rfl
  obtain ⟨a, v, xs, n, Z, rfl, hs, hn, za, hz, ⟨vs, sv, hl, pv_⟩, q⟩ := h
  have nd := scLo.nd
  have hr1 : Room 1 _ := hr.mono hk
  refine ⟨_, (pss_cons (by exact (ps_if (pt_not (pt_val (pe_callB call_isiT rfl B.isi PyProof.Rows.boot_isinstance (pa_cons (pv 1) (pa_cons (pe_tup (pa_cons (pe_bltn (v := .ty "list") rfl B.list PyProof.Rows.boot_list rfl) (pa_cons (pe_bltn (v := .ty "tuple") rfl B.tuple PyProof.Rows.boot_tuple rfl) pa_nil))) pa_nil))))) (pss_one (by exact (ps_ret (pv 1)))) pss_nil)) (pss_cons (by exact (ps_setLc (i := 2) (own := [("one", 3)]) (g := gName 3) (tt := tYes) rfl nd rfl rfl (sw_true rfl rfl rfl (by decide +kernel)) (by exact pi_seqV 1 (pv 1)) (by exact blkOk_by (N := ["spring", "thing", "found", "one"]) (sc := defScope sLo) (by decide +kernel)) (fun _ _ _ _ _ => by exact (pg_name (i := 3) nd rfl (.inl rfl))) (fun _ _ _ _ _ => by exact pts_nil) (fun _ _ _ _ _ => by exact (pe_call G hr rfl mF F.kp b .nil pass0 (pa_cons (pv 0) (pa_cons (pv 3) pa_nil)))))) (pss_one (by exact (ps_ret (pe_ifExp (pt_cmpR op_eq (pe_call GD hr1 rfl mD kD bD .nil pass0 (pa_cons (pv 0) (pa_cons pe_int pa_nil))) pe_int (nomark _)) (pe_callTy call_tuple_of rfl B.tuple PyProof.Rows.boot_tuple (pa_cons (pv 2) pa_nil)) (pv 2))))))), ?_⟩
  obtain ⟨t, ty, kt, st⟩ := sv.ty (K := K)
  refine ⟨_, rfl, (by show 2 ≤ sizeLine; decide), fun p hp => ?_⟩
  have e := K1.Same.upd (H := H) (p := p) (o := .tup [.ty "list", .ty "tuple"]) hp
  refine ⟨v, p, _, _, _, _, rfl, upd_same, .cons (.ty "list") (.cons (.ty "tuple") .nil), TyX.ext ty (wo_out.trans e), kit_seq kt, _, rfl, ?_⟩
  rw [st]
  refine iteF ?_
  have hs1 := hs.same e
  have kp1 : Kept a H (L2.upd H p (.tup [.ty "list", .ty "tuple"])) := Kept.same e
  generalize L2.upd H p (.tup [.ty "list", .ty "tuple"]) = H1 at e hs1 kp1 ⊢
  obtain ⟨pv0, rfl, hpv⟩ := id sv
  have hpz : ¬ Z pv0 := hpv.elim (fun h => (wo_some.mp h).1) (fun h => (wo_some.mp h).1)
  have pva : pv0 ≠ a := fun z => hpz (by rw [z]; exact za)
  have hpv1 : H1 pv0 = some (.lst vs) ∨ H1 pv0 = some (.tup vs) := hpv.imp (fun h => e _ _ (wo_some.mp h).2) (fun h => e _ _ (wo_some.mp h).2)
  refine ⟨pv0, vs, rfl, hpv1.imp (fun h => SqL.of h) (fun h => SqT.of h), fun J Gw wk hG D hD => ?_⟩
  have Da := hs1.ne hD
  have DH : H D = none := e.free hD
  have lvs : vs.length = xs.length := pv_.length
  have nzD : ¬ Z D := fun z => hz D z DH
  refine lc_it wk (fun i Hc => Kept a H1 Hc ∧ Spr Hc a (n + c * i) ∧ ∃ acc, Hc D = some (.lst acc) ∧ acc.length = i ∧ Paired (R (wo (fun z => Z z ∨ z = D) Hc)) acc (xs.take i)) ⟨Kept.new hD, (hs1.upd Da).mono (by omega), [], upd_same, rfl, .nil⟩ (fun i Hc _ h => hG Hc fun o ho => h.1 _ _ pva ho) ?_ ?_
  · rintro i y Hc H' hi ⟨c1, c2, acc, c3, c4, c5⟩ ⟨rfl, hy⟩
    have hi2 : i < xs.length := by omega
    obtain ⟨y', ey, ry⟩ := paired_get pv_ hi2
    have : y' = y := Option.some.inj (ey.symm.trans hy)
    subst this
    refine ⟨rfl, ?_⟩
    unfold tYes
    refine iteT ?_
    have sm : Same (wo Z H) (wo (fun z => Z z ∨ z = D) H') := fun b o eb => by
      obtain ⟨n1, e1⟩ := wo_some.mp eb
      refine wo_some.mpr ⟨fun z => z.elim n1 fun z => ?_, c1 _ _ (fun z => n1 (by rw [z]; exact za)) (e _ _ e1)⟩
      rw [z, DH] at e1
      cases e1
    have hci : c * i + c ≤ c * 60 := by
      have : c * (i + 1) ≤ c * 60 := Nat.mul_le_mul (Nat.le_refl c) (by omega)
      rwa [Nat.mul_add, Nat.mul_one] at this
    refine ⟨_, rfl, _, rfl, a, y', xs[i], n + c * i, fun z => Z z ∨ z = D, rfl, c2, by omega, .inl za, fun z zz => ?_, mon _ _ _ _ sm ry, fun y2 H6 k6 s6 r6 => ?_⟩
    · rcases zz with zz | rfl
      · intro q0
        by_cases z1 : z = a
        · rw [z1] at q0
          exact c2.kept q0
        · exact hz z zz (fr_kept (kp1.trans c1) q0 z1)
      · rw [c3]
        exact Option.some_ne_none _
    · have sD : ∀ acc', Same (wo (fun z => Z z ∨ z = D) H6) (wo (fun z => Z z ∨ z = D) (L2.upd H6 D acc')) := fun acc' => wo_same fun b o nb eb => by
        rw [upd_ne (fun z => nb (.inr z))]
        exact eb
      have c3' := k6 _ _ Da c3
      refine ⟨acc, c3', by rw [c4]; exact small1000 (by omega), fun b o nb eb => ?_, (s6.upd Da).mono (by rw [Nat.mul_add, Nat.mul_one]; omega), acc ++ [y2], upd_same, by rw [List.length_append, c4]; rfl, ?_⟩
      · rw [upd_ne (ne_of_none eb hD)]
        exact k6 b o nb (c1 b o nb eb)
      · rw [List.take_add_one, List.getElem?_eq_getElem hi2]
        have s36 : Same (wo (fun z => Z z ∨ z = D) H') (wo (fun z => Z z ∨ z = D) H6) := wo_same fun b o nb eb => k6 b o (fun z => nb (.inl (by rw [z]; exact za))) eb
        have pz : ∀ {as : List V} {bs : List α}, Paired (R (wo (fun z => Z z ∨ z = D) H')) as bs → Paired (R (wo (fun z => Z z ∨ z = D) (L2.upd H6 D (.lst (acc ++ [y2]))))) (as ++ [y2]) (bs ++ [xs[i]]) := by
          intro as bs h
          induction h with
          | nil => exact .cons (mon _ _ _ _ (sD _) r6) .nil
          | cons f1 f2 ih => exact .cons (mon _ _ _ _ (s36.trans (sD _)) f1) ih
        exact pz c5
  · rintro Hc ⟨c1, c2, acc, c3, c4, c5⟩
    rw [lvs, List.take_length] at c5
    have hcl : c * vs.length ≤ 60 * c := by rw [Nat.mul_comm]; exact Nat.mul_le_mul (by omega) (Nat.le_refl c)
    refine ⟨_, rfl, a, 2, _, rfl, c2, by omega, by decide, by decide, fun d H6 d0 d1 k6 s6 => ⟨rfl, _, rfl, ?_⟩⟩
    have c36 := k6 _ _ Da c3
    have kall : Kept a H H6 := kp1.trans (c1.trans k6)
    have s6' : Spr H6 a (n + (60 * c + 1)) := s6.mono (by omega)
    have fin : ∀ Hf, Same H6 Hf → Paired (R (wo Z Hf)) acc xs := fun Hf ef => paired_imp (fun _ _ r => mon _ _ _ _ (Same.trans (wo_le fun b z => .inl z) (wo_same fun b o nb eb => ef _ _ (k6 b o (fun z => nb (by rw [z]; exact za)) eb))) r) c5
    refine ite2 (fun cc => ?_) (fun cc => ?_)
    · refine ⟨_, rfl, D, acc, rfl, .inl ⟨SqL.of c36, fun u hu => ?_⟩⟩
      have eu := K1.Same.upd (o := .tup acc) hu
      have ua := s6.ne hu
      exact q (.ref u) _ (kall.trans (Kept.new hu)) (s6'.same eu) ⟨acc, ⟨u, rfl, .inr (wo_some.mpr ⟨fun z => hz u z (fr_kept kall hu ua), upd_same⟩)⟩, hl, fin _ eu⟩
    · exact ⟨_, rfl, q (.ref D) _ kall s6' ⟨acc, ⟨D, rfl, .inl (wo_some.mpr ⟨nzD, c36⟩)⟩, hl, fin _ (Same.refl _)⟩⟩
end
end K1
end
-- EUp
section
set_option Elab.async false
set_option linter.all false
set_option maxRecDepth 100000
set_option maxHeartbeats 2000000
namespace K1
open PySem PySem.Spec PyProof.Rows L2 W0
abbrev sJu : Stmt := top 40
/-- the lots of all houses: lists that are not in Z, and were not there -/
def LotsS (H0 Hc : Hp) (Z : Addr → Prop) (ss : List Str) (es : List (Str × Str)) (kvs : List (Key × V)) : Prop := ∀ s ∈ ss, ∃ d, valV kvs (.inr s) = some (.ref d) ∧ ¬ Z d ∧ H0 d = none ∧ Hc d = some (.lst ((comp ss es s).map V.str))
/-- the parts that came -/
def CameS (H0 Hc : Hp) (Z : Addr → Prop) (ss : List Str) (rs : List (Str × Str)) (js : List Nat) (qs : List Addr) : Prop := ∀ k q, qs[k]? = some q → ∃ j e, js[k]? = some j ∧ rs[j]? = some e ∧ ¬ Z q ∧ H0 q = none ∧ Hc q = some (.lst ((comp ss (esOf rs (js.take (k + 1))) e.1).map V.str))
theorem LotsS.keep {H0 Hc H2 : Hp} {Z : Addr → Prop} {ss : List Str} {es : List (Str × Str)} {kvs : List (Key × V)} (h : LotsS H0 Hc Z ss es kvs) (e : Same (wo Z Hc) H2) : LotsS H0 H2 Z ss es kvs := fun s hs => by
  obtain ⟨d, a, b, c, g⟩ := h s hs
  exact ⟨d, a, b, c, e _ _ (wo_some.mpr ⟨b, g⟩)⟩
theorem CameS.keep {H0 Hc H2 : Hp} {Z : Addr → Prop} {ss : List Str} {rs : List (Str × Str)} {js : List Nat} {qs : List Addr} (h : CameS H0 Hc Z ss rs js qs) (e : Same (wo Z Hc) H2) : CameS H0 H2 Z ss rs js qs := fun k q hq => by
  obtain ⟨j, r, a, b, c, g, z⟩ := h k q hq
  exact ⟨j, r, a, b, c, g, e _ _ (wo_some.mpr ⟨c, z⟩)⟩
def spJu (C : Addr) : Sp := fun vs H Q _ => ∃ (x p : Addr) (ss : List Str) (rs : List (Str × Str)) (ns : List Int) (js : List Nat), vs = [.ref x, .ref p] ∧ IsV C H x ss rs ns ∧ EndsIn ss rs ∧ ss.Nodup ∧ ss.length ≤ 500 ∧ rs.length ≤ 1000 ∧ H p = some (.lst (intsV js)) ∧ js.length ≤ 1000 ∧ (∀ j ∈ js, j < rs.length) ∧
  ∀ r ca L kvs qs H', Same H H' → H r = none → H' r = some (.tup [.ref ca, .ref L]) → H ca = none → H' ca = some (.lst (qs.map V.ref)) → qs.length = js.length → H' L = some (.dK kvs) → kvs.length ≤ ss.length →
    LotsS H H' (fun b => b = L ∨ b = ca) ss (esOf rs js) kvs → CameS H H' (fun b => b = L ∨ b = ca) ss rs js qs → Q (.ref r) H'
theorem scJu : FnScope ["valley", "places", "house", "lots", "roads", "came", "place", "one", "other", "part"] ["valley", "places"] (defScope sJu) := ⟨rfl, rfl, rfl, by decide +kernel, rfl, by decide +kernel, by decide +kernel⟩
theorem mem_take_one {xs : List Str} {i : Nat} (hi : i < xs.length) {t : Str} : t ∈ xs.take (i + 1) ↔ t ∈ xs.take i ∨ t = xs[i] := by
  rw [take_snoc hi, List.mem_append, List.mem_singleton]
section
variable {P : Program} {w : World} {K : PySem.W.Frag} {mg : Str → Option Value} {base : Heap} {C CN CO : Addr}
theorem ok_Ju {f fH fR fI : Addr} {fd hd rd id' : FuncData} (F : Fun K "join_up" "join_up" sJu f fd) (T : VcT K C)
    (GH : FnOk P w K mg base CX0 1 fH hd ["self"] (spHo C)) (hH : Meth K C "houses" fH) (bH : Binds K hd ["self"] [])
    (GR : FnOk P w K mg base CX0 1 fR rd ["self"] (spRo C)) (hR : Meth K C "roads" fR) (bR : Binds K rd ["self"] [])
    (GI : FnOk P w K mg base CX0 2 fI id' ["valley", "some"] (spIo C)) (bI : Binds K id' ["valley", "some"] []) (kI : PySem.W.keepIn K (.ref fI) = true) (mI : mg "in_order" = some (.ref fI)) : FnOk P w K mg base CX0 3 f fd ["valley", "places"] (spJu C) := by
  refine F.ok scJu (fun vs H Q E h => ?_) (fun cdv A outer s H vs Q E hr h => ?_)
  · obtain ⟨x, p, ss, rs, ns, js, rfl, _⟩ := h
    rfl
  obtain ⟨x, p, ss, rs, ns, js, rfl, iv, he, ndS, lss, lrs, hp, ljs, hjs, q⟩ := h
  have nd := scJu.nd
  have hu := hu_of hr
  have hr1 : Room 1 _ := hr.mono (by decide)
  refine ⟨_, (pss_cons (by exact (ps_setDc (i := 3) (own := [("house", 2)]) (g := gName 2) (tt := tYes) rfl nd rfl rfl (sw_trueD rfl rfl rfl (by decide +kernel)) (by exact pi_list (pe_meth0 (pv 0) T.cl hH GH hr1 bH .nil pass0)) (by exact blkOk_by (N := ["valley", "places", "house", "lots", "roads", "came", "place", "one", "other", "part"]) (sc := defScope sJu) (by decide +kernel)) (fun _ _ _ _ _ => by exact (pg_name (i := 2) nd rfl (.inl rfl))) (fun _ _ _ _ _ => by exact pts_nil) (fun _ _ _ _ _ => by exact (pv 2)) (fun _ _ _ _ _ => by exact (pe_lst (pa_cons (pv 2) pa_nil)))))
  (pss_cons (by exact (ps_set (i := 4) nd rfl (.inl rfl) (pe_meth0 (pv 0) T.cl hR GR hr1 bR .nil pass0)))
  (pss_cons (by exact (ps_set (i := 5) nd rfl (.inl rfl) (pe_lst pa_nil)))
  (pss_cons (by exact (ps_for PassesOwn.never rfl (by exact pi_list (pv 1)) (pg_name (i := 6) nd rfl (.inl rfl)) (pss_cons (by exact (ps_asg (pe_ix ix_list (pv 4) (pv 6) (fun _ _ => rfl)) (pg_tup rfl (pgs_cons (pg_name (i := 7) nd rfl (.inl rfl)) (pgs_cons (pg_name (i := 8) nd rfl (.inl rfl)) pgs_nil)))))
  (pss_cons (by exact (ps_set (i := 9) nd rfl (.inl rfl) (pe_call GI hr rfl mI kI bI .nil pass0 (pa_cons (pv 0) (pa_cons (pe_op op_cat (pe_dget hu (pv 3) (pv 7) (fun _ _ => rfl)) (pe_dget hu (pv 3) (pv 8) (fun _ _ => rfl))) pa_nil)))))
  (pss_cons (by exact (ps_for PassesOwn.never rfl (by exact pi_list (pv 9)) (pg_name (i := 2) nd rfl (.inl rfl)) (pss_one (by exact (ps_dput hu (pv 3) (pv 2) (pv 9) rfl)))))
  (pss_one (by exact (ps_expr (pe_bm PySem.F.plainAttrs_list PySem.F.slot_list_append PySem.F.type_list_append mt_append (pv 5) (pa_cons (pv 9) pa_nil))))))))))
  (pss_one (by exact (ps_ret (pe_tup (pa_cons (pv 5) (pa_cons (pv 3) pa_nil)))))))))), ?_⟩
  obtain ⟨dx, fx, ix, f0⟩ := iv.inst
  have nm : fx.lookup ("houses" : Str) = none ∧ fx.lookup ("roads" : Str) = none := ⟨f0 _ (by decide +kernel), f0 _ (by decide +kernel)⟩
  refine ⟨_, rfl, x, dx, fx, rfl, ix, nm.1, x, ss, rs, ns, rfl, iv, fun l hl => ?_⟩
  have e1 := K1.Same.upd (H := H) (p := l) (o := .lst (ss.map V.str)) hl
  have gl := upd_same' H l (.lst (ss.map V.str))
  generalize L2.upd H l (.lst (ss.map V.str)) = H1 at e1 gl ⊢
  have lm : (ss.map V.str).length = ss.length := List.length_map ..
  refine ⟨l, rfl, ⟨_, SqL.of gl⟩, fun L hL => ?_⟩
  have hL0 : H L = none := e1.free hL
  refine dc_it (Qd := _) walk_list (fun i Hc => Same H1 Hc ∧ ∃ kvs, Hc L = some (.dK kvs) ∧ kvs.length ≤ i ∧ ∀ (k : Nat) (hk : k < ss.length), k < i → ∃ d, valV kvs (.inr ss[k]) = some (.ref d) ∧ d ≠ L ∧ H1 d = none ∧ Hc d = some (.lst [V.str ss[k]]))
    ⟨K1.Same.upd hL, [], upd_same, Nat.zero_le _, fun k _ hk => absurd hk (by omega)⟩ (fun i Hc _ h => SqL.of (h.1 _ _ gl)) ?_ ?_
  · rintro i v Hc H' hi ⟨c1, kvs, c2, c3, c4⟩ ⟨rfl, hv⟩
    rw [lm] at hi
    have ev : v = .str ss[i] := by
      rw [List.getElem?_map, List.getElem?_eq_getElem hi] at hv
      exact (Option.some.inj hv).symm
    subst ev
    refine ⟨rfl, ?_⟩
    unfold tYes
    refine iteT ⟨_, rfl, _, rfl, (by show 1 ≤ sizeLine; decide), fun d hd => ?_⟩
    have dL : d ≠ L := fun z => by rw [z, c2] at hd; cases hd
    have d0 : H1 d = none := c1.free hd
    refine ⟨kvs, .inr ss[i], rfl, by rw [upd_ne dL.symm]; exact c2, Nat.lt_of_le_of_lt c3 (small1000 (by omega)), ?_, putK kvs (.inr ss[i]) (.ref d), upd_same, Nat.le_trans putK_le (by omega), fun k hk ki => ?_⟩
    · exact ps_same_upd (ps_same_upd c1 d0) hL
    · rw [valV_put]
      by_cases e : k = i
      · subst e
        exact ⟨d, if_pos rfl, dL, d0, by rw [upd_ne dL, upd_same]⟩
      · have ne : ss[k] ≠ ss[i] := fun z => e ((List.getElem_inj ndS).mp z)
        obtain ⟨d2, a1, a2, a3, a4⟩ := c4 k hk (by omega)
        refine ⟨d2, by rw [if_neg fun z => ne (Sum.inr.inj z)]; exact a1, a2, a3, ?_⟩
        rw [upd_ne a2, upd_ne (ne_of_none a4 hd)]
        exact a4
  rintro Hc ⟨c1, kvs, c2, c3, c4⟩
  rw [lm] at c3 c4
  refine K1.gN ?_
  have e2 : Same H Hc := e1.trans c1
  have iv2 := iv.same e2
  refine ⟨_, rfl, x, dx, fx, rfl, e2 _ _ ix, nm.2, x, ss, rs, ns, rfl, iv2, fun R qs hR pq => ?_⟩
  have e3 := K1.Same.upd (H := Hc) (p := R) (o := .lst (qs.map V.ref)) hR
  have gR := upd_same' Hc R (.lst (qs.map V.ref))
  generalize L2.upd Hc R (.lst (qs.map V.ref)) = H2 at e3 gR ⊢
  have gL := e3 _ _ c2
  have RL : R ≠ L := fun z => by rw [z, gL] at gR; cases gR
  refine K1.gN ⟨(by show 0 ≤ sizeLine; decide), fun ca hca => ?_⟩
  have e4 := K1.Same.upd (H := H2) (p := ca) (o := .lst []) hca
  have gC := upd_same' H2 ca (.lst [])
  generalize L2.upd H2 ca (.lst []) = H3 at e4 gC ⊢
  have e23 := e2.trans e3
  have eH3 := e23.trans e4
  have caL : ca ≠ L := fun z => by rw [z, gL] at hca; cases hca
  have caR : ca ≠ R := fun z => by rw [z, gR] at hca; cases hca
  have hca0 : H ca = none := e23.free hca
  have pq3 : Paired (TupP H3) qs rs := TupP.ext (TupP.ext pq e3) e4
  have gR3 := e4 _ _ gR
  have gL3 := e4 _ _ gL
  have lots0 : LotsS H H3 (fun b => b = L ∨ b = ca) ss [] kvs := by
    intro s hs
    obtain ⟨k, hk, rfl⟩ := List.mem_iff_getElem.mp hs
    obtain ⟨d, a1, a2, a3, a4⟩ := c4 k hk hk
    have h3 := e4 _ _ (e3 _ _ a4)
    refine ⟨d, a1, fun z => z.elim a2 fun z => ?_, e1.free a3, ?_⟩
    · rw [z, gC] at h3
      cases h3
    · rw [comp_nil ndS hs]
      exact h3
  refine K1.gN ?_
  with_reducible refine sQ ?_
  have lj : (intsV js).length = js.length := List.length_map ..
  have hpL : p ≠ L := fun z => by rw [z, hL0] at hp; cases hp
  have hpc : p ≠ ca := fun z => by rw [z, hca0] at hp; cases hp
  have up : ∀ {Hc : Hp}, Same (wo (fun b => b = L ∨ b = ca) H3) Hc → Same H Hc := fun e b o hb => e _ _ (wo_some.mpr ⟨fun z => z.elim (fun z => by rw [z, hL0] at hb; cases hb) (fun z => by rw [z, hca0] at hb; cases hb), eH3 _ _ hb⟩)
  refine ⟨_, rfl, p, rfl, ⟨_, SqL.of (eH3 _ _ hp)⟩, ?_⟩
  refine for_it walk_list (fun i σ Hc => (∃ a b c d e, σ = [some (.ref x), some (.ref p), a, some (.ref L), some (.ref R), some (.ref ca), b, c, d, e]) ∧ Same (wo (fun b => b = L ∨ b = ca) H3) Hc ∧
      ∃ kvs qs', Hc L = some (.dK kvs) ∧ kvs.length ≤ ss.length ∧ Hc ca = some (.lst (qs'.map V.ref)) ∧ qs'.length = i ∧ LotsS H Hc (fun b => b = L ∨ b = ca) ss (esOf rs (js.take i)) kvs ∧ CameS H Hc (fun b => b = L ∨ b = ca) ss rs js qs')
    ⟨⟨_, _, _, _, _, rfl⟩, wo_out, kvs, [], gL3, c3, gC, rfl, lots0, fun k q hq => by simp at hq⟩ (fun i σ Hc _ h => SqL.of (up h.2.1 _ _ hp)) ?_ ?_
  · rintro i v σ Hc H' hi ⟨⟨a, b, c, d, e, rfl⟩, k1, kvs, qs', k2, k3, k4, k5, k6, k7⟩ ⟨rfl, hv⟩
    rw [lj] at hi
    have ev : v = .int (js[i] : Int) := by
      unfold intsV at hv
      rw [List.getElem?_map, List.getElem?_eq_getElem hi] at hv
      exact (Option.some.inj hv).symm
    subst ev
    have hj := hjs _ (List.getElem_mem hi)
    obtain ⟨h1, h2⟩ := he _ (List.getElem_mem hj)
    refine K1.gN ?_
    with_reducible refine sQ ?_
    have eHc := up k1
    have gRc : H' R = some (.lst (qs.map V.ref)) := k1 _ _ (wo_some.mpr ⟨fun z => z.elim RL fun z => caR z.symm, gR3⟩)
    have lq : qs.length = rs.length := pq.length
    have hq : (qs.map V.ref)[js[i]]? = some (.ref (qs[js[i]]'(by omega))) := by rw [List.getElem?_map, List.getElem?_eq_getElem (by omega)]; rfl
    obtain ⟨t, et, ht⟩ := paired_ref pq3 hj hq
    have hq2 : (qs.map V.ref)[js[i]]? = some (.ref t) := by rw [hq, et]
    have ht' : H' t = some (.tup [.str rs[js[i]].1, .str rs[js[i]].2]) := by
      refine k1 _ _ (wo_some.mpr ⟨fun z => ?_, ht⟩)
      rcases z with z | z
      · rw [z, gL3] at ht; cases ht
      · rw [z, gC] at ht; cases ht
    refine ⟨_, rfl, _, rfl, R, _, (js[i] : Int), _, rfl, rfl, SqL.of gRc, atI_nat (j := js[i]) hq2, t, _, rfl, SqT.of ht', rfl, _, _, rfl, _, _, rfl, rfl, ?_⟩
    with_reducible refine sQ ?_
    obtain ⟨d1, v1, z1, n1, g1⟩ := k6 _ h1
    obtain ⟨d2, v2, z2, n2, g2⟩ := k6 _ h2
    have dg1 := DGet.k (k := .inr rs[js[i]].1) k2
    have dg2 := DGet.k (k := .inr rs[js[i]].2) k2
    rw [v1] at dg1
    rw [v2] at dg2
    have l1 : (comp ss (esOf rs (js.take i)) rs[js[i]].1).length ≤ 500 := Nat.le_trans comp_len lss
    have l2 : (comp ss (esOf rs (js.take i)) rs[js[i]].2).length ≤ 500 := Nat.le_trans comp_len lss
    refine ⟨_, rfl, _, rfl, _, rfl, L, _, rfl, dg1, _, rfl, _, rfl, L, _, rfl, dg2, d1, d2, _, _, rfl, rfl, g1, g2, by rw [List.length_map, List.length_map]; exact Nat.le_trans (Nat.add_le_add l1 l2) (by decide), fun pc hpc2 => ?_⟩
    have e5 := K1.Same.upd (H := H') (p := pc) (o := .lst ((comp ss (esOf rs (js.take i)) rs[js[i]].1).map V.str ++ (comp ss (esOf rs (js.take i)) rs[js[i]].2).map V.str)) hpc2
    have gpc := upd_same' H' pc (.lst ((comp ss (esOf rs (js.take i)) rs[js[i]].1).map V.str ++ (comp ss (esOf rs (js.take i)) rs[js[i]].2).map V.str))
    generalize L2.upd H' pc _ = H5 at e5 gpc ⊢
    rw [← List.map_append] at gpc
    refine ⟨x, pc, ss, rs, ns, _, rfl, iv.same (eHc.trans e5), Nat.le_trans lss (by decide), gpc, by rw [List.length_append]; omega, fun r H6 e6 nr gr => ?_⟩
    have e56 := e5.trans e6
    generalize hpt : (ss.filter fun s => decide (s ∈ comp ss (esOf rs (js.take i)) rs[js[i]].1 ++ comp ss (esOf rs (js.take i)) rs[js[i]].2)) = pt at gr
    have memp : ∀ s ∈ ss, (s ∈ pt ↔ rtOf (esOf rs (js.take i)) s = rtOf (esOf rs (js.take i)) rs[js[i]].1 ∨ rtOf (esOf rs (js.take i)) s = rtOf (esOf rs (js.take i)) rs[js[i]].2) := fun s hs => by rw [← hpt]; exact mem_new hs
    have pts : ∀ s ∈ pt, s ∈ ss := fun s hs => by rw [← hpt] at hs; exact (List.mem_filter.mp hs).1
    have lp : pt.length ≤ 500 := by rw [← hpt]; exact Nat.le_trans (List.length_filter_le _ _) lss
    have g6L := e56 _ _ k2
    have g6c := e56 _ _ k4
    have nr' : H' r = none := e5.free nr
    have rL : r ≠ L := fun z => by rw [z, k2] at nr'; cases nr'
    have rc : r ≠ ca := fun z => by rw [z, k4] at nr'; cases nr'
    have lpm : (pt.map V.str).length = pt.length := List.length_map ..
    refine K1.gN ?_
    with_reducible refine sQ ?_
    refine ⟨_, rfl, r, rfl, ⟨_, SqL.of gr⟩, ?_⟩
    refine for_it walk_list (fun k σ Hd => (∃ a, σ = [some (.ref x), some (.ref p), a, some (.ref L), some (.ref R), some (.ref ca), some (.int (js[i] : Int)), some (.str rs[js[i]].1), some (.str rs[js[i]].2), some (.ref r)]) ∧ Same (wo (fun b => b = L) H6) Hd ∧
        ∃ kv, Hd L = some (.dK kv) ∧ kv.length ≤ ss.length ∧ ∀ s : Str, valV kv (.inr s) = if s ∈ pt.take k then some (.ref r) else valV kvs (.inr s))
      ⟨⟨_, rfl⟩, wo_out, kvs, g6L, k3, fun s => by simp⟩ (fun k σ Hd _ h => SqL.of (h.2.1 _ _ (wo_some.mpr ⟨rL, gr⟩))) ?_ ?_
    · rintro k v σ Hd He hk ⟨⟨a, rfl⟩, m1, kv, m2, m3, m4⟩ ⟨rfl, hv⟩
      rw [lpm] at hk
      have ev : v = .str pt[k] := by
        rw [List.getElem?_map, List.getElem?_eq_getElem hk] at hv
        exact (Option.some.inj hv).symm
      subst ev
      have hps : pt[k] ∈ ss := pts _ (List.getElem_mem hk)
      obtain ⟨dk, vk, _⟩ := k6 _ hps
      have has : (valV kv (.inr pt[k])).isSome = true := by
        rw [m4]
        split
        · rfl
        · rw [vk]; rfl
      refine ⟨_, rfl, _, rfl, _, rfl, L, _, rfl, DPut.k (k := .inr pt[k]) m2 (Nat.lt_of_le_of_lt m3 (small1000 (by omega))), ⟨_, rfl⟩, fun b o hb => ?_, _, upd_same, by rw [putK_len has]; exact m3, fun s => ?_⟩
      · have nb : b ≠ L := (wo_some.mp hb).1
        rw [upd_ne nb]
        exact m1 _ _ hb
      · rw [valV_put, ite_rr, m4]
        by_cases e : s = pt[k]
        · rw [if_pos e, if_pos ((mem_take_one hk).mpr (.inr e))]
        · rw [if_neg e]
          by_cases e2 : s ∈ pt.take k
          · rw [if_pos e2, if_pos ((mem_take_one hk).mpr (.inl e2))]
          · rw [if_neg e2, if_neg fun z => ((mem_take_one hk).mp z).elim e2 e]
    · rintro σ Hd ⟨⟨a, rfl⟩, m1, kv, m2, m3, m4⟩
      rw [lpm, List.take_length] at m4
      have gcd : Hd ca = some (.lst (qs'.map V.ref)) := m1 _ _ (wo_some.mpr ⟨caL, g6c⟩)
      have grd : Hd r = some (.lst (pt.map V.str)) := m1 _ _ (wo_some.mpr ⟨rL, gr⟩)
      refine ⟨_, rfl, .inl ⟨rfl, _, SqL.of gcd⟩, _, rfl, ca, _, _, rfl, rfl, gcd, by rw [List.length_map, k5]; exact small1000 (by omega), ?_⟩
      have keepZ : ∀ b o, ¬ (b = L ∨ b = ca) → H' b = some o → L2.upd Hd ca (.lst (qs'.map V.ref ++ [V.ref r])) b = some o := fun b o nb hb => by
        rw [upd_ne fun z => nb (.inr z)]
        exact m1 _ _ (wo_some.mpr ⟨fun z => nb (.inl z), e56 _ _ hb⟩)
      have us := take_snoc (xs := js) hi
      have grd' : L2.upd Hd ca (.lst (qs'.map V.ref ++ [V.ref r])) r = some (.lst (pt.map V.str)) := by rw [upd_ne rc]; exact grd
      have r0 : H r = none := eHc.free nr'
      refine ⟨⟨_, _, _, _, _, rfl⟩, fun b o hb => ?_, kv, qs' ++ [r], by rw [upd_ne caL.symm]; exact m2, m3, by rw [upd_same, List.map_append]; rfl, by rw [List.length_append, k5]; rfl, fun s hs => ?_, fun k q hq => ?_⟩
      · exact keepZ _ _ (wo_some.mp hb).1 (k1 _ _ hb)
      · rw [us, esOf_snoc hj]
        by_cases e : s ∈ pt
        · refine ⟨r, by rw [m4, if_pos e], fun z => z.elim rL rc, r0, ?_⟩
          rw [comp_new ((memp s hs).mp e), hpt]
          exact grd'
        · obtain ⟨d, w1, w2, w3, w4⟩ := k6 s hs
          refine ⟨d, by rw [m4, if_neg e]; exact w1, w2, w3, ?_⟩
          rw [comp_old fun z => e ((memp s hs).mpr z)]
          exact keepZ _ _ w2 w4
      · rcases Nat.lt_or_ge k qs'.length with hk | hk
        · rw [List.getElem?_append_left hk] at hq
          obtain ⟨j, e, w1, w2, w3, w4, w5⟩ := k7 k q hq
          exact ⟨j, e, w1, w2, w3, w4, keepZ _ _ w3 w5⟩
        · rw [List.getElem?_append_right hk] at hq
          have ek : k = qs'.length := by
            rcases Nat.lt_or_ge (k - qs'.length) 1 with z | z
            · omega
            · rw [List.getElem?_eq_none (by simpa using z)] at hq; cases hq
          subst ek
          simp at hq
          subst hq
          refine ⟨js[i], rs[js[i]], by rw [k5]; exact List.getElem?_eq_getElem hi, List.getElem?_eq_getElem hj, fun z => z.elim rL rc, r0, ?_⟩
          rw [k5, us, esOf_snoc hj, comp_new (.inl rfl), hpt]
          exact grd'
  · rintro σ Hc ⟨⟨a, b, c, d, e, rfl⟩, k1, kvs, qs', k2, k3, k4, k5, k6, k7⟩
    rw [lj] at k5 k6
    rw [List.take_length] at k6
    refine ⟨_, rfl, _, rfl, (by show 2 ≤ sizeLine; decide), fun U hU => ?_⟩
    have eU := K1.Same.upd (H := Hc) (p := U) (o := .tup [.ref ca, .ref L]) hU
    have eHc := up k1
    exact q U ca L kvs qs' _ (eHc.trans eU) (eHc.free hU) upd_same hca0 (eU _ _ k4) k5 (eU _ _ k2) k3 (k6.keep fun b o hb => eU _ _ (wo_some.mp hb).2) (k7.keep fun b o hb => eU _ _ (wo_some.mp hb).2)
end
end K1
end
-- EBt
section
set_option Elab.async false
set_option linter.all false
set_option maxRecDepth 100000
set_option maxHeartbeats 1000000
namespace K1
open PySem PySem.Spec PyProof.Rows L2 W0
abbrev sBt : Stmt := top 42
theorem plOf_nb {rs : List (Str × Str)} {s t : Str} : (plOf rs s t).isSome = nbB rs s t := by
  unfold plOf nbB
  rw [List.findIdx?_isSome]
theorem cut_from (xs : List V) (k : Nat) : cutV xs (some (k : Int)) none = xs.drop k := by
  unfold cutV
  rw [HT.sIx_none, HT.sIx_nat]
  rcases Nat.le_total k xs.length with h | h
  · rw [Nat.min_eq_left h, List.take_of_length_le (by rw [List.length_drop]; exact Nat.le_refl _)]
  · rw [Nat.min_eq_right h, List.drop_of_length_le h, List.drop_of_length_le (Nat.le_refl _)]
    exact List.take_nil
/-- the places of the roads of a way -/
def wayPl (rs : List (Str × Str)) (l : List Str) : List Nat := (l.zip (l.drop 1)).map fun e => (plOf rs e.1 e.2).getD 0
theorem Pt.adj {rs : List (Str × Str)} {s t : Str} {l : List Str} (h : Pt rs s l t) : ∀ (i : Nat) (hi : i + 1 < l.length), nbB rs l[i] l[i + 1] = true := by
  induction h with
  | one s => intro i hi; simp at hi
  | @cons s u t l q h n ih =>
    intro i hi
    obtain ⟨r, rfl⟩ := h.head
    cases i with
    | zero => exact q
    | succ i => exact ih i (by simpa using hi)
def spBt (K : PySem.W.Frag) (C CN : Addr) : Sp := fun vs H Q E => ∃ x v u ss rs ns, vs = [.ref x, v, u] ∧ IsV C H x ss rs ns ∧ Tree ss rs ∧ ss.length ≤ 500 ∧ ((NoHo K H ss v ∧ GoesF CN [("house", v)] H E) ∨ (∃ s, v = .str s ∧ s ∈ ss ∧ ((NoHo K H ss u ∧ GoesF CN [("house", u)] H E) ∨
  (∃ t, u = .str t ∧ t ∈ ss ∧ ∀ r l H', Same H H' → H r = none → Pt rs s l t → H' r = some (.lst (intsV (wayPl rs l))) → Q (.ref r) H'))))
theorem scBt : FnScope ["valley", "one", "other", "way", "here", "there"] ["valley", "one", "other"] (defScope sBt) := ⟨rfl, rfl, rfl, by decide +kernel, rfl, by decide +kernel, by decide +kernel⟩
section
variable {P : Program} {w : World} {K : PySem.W.Frag} {mg : Str → Option Value} {base : Heap} {C CN CO : Addr}
theorem ok_Bt {f fW fP : Addr} {fd wd pd : FuncData} (F : Fun K "places_between" "places_between" sBt f fd) (T : VcT K C) (mz : mg "zip" = none)
    (GW : FnOk P w K mg base (L2.CX P w) 4 fW wd ["self", "one", "other"] (spWa K C CN)) (hW : Meth K C "way" fW) (bW : Binds K wd ["self", "one", "other"] [])
    (GP : FnOk P w K mg base (L2.CX P w) 4 fP pd ["self", "one", "other"] (spPl K C CN CO)) (hP : Meth K C "place" fP) (bP : Binds K pd ["self", "one", "other"] []) : FnOk P w K mg base (L2.CX P w) 5 f fd ["valley", "one", "other"] (spBt K C CN) := by
  refine F.okX scBt (fun vs H Q E h => ?_) (fun cdv A outer s H vs Q E hr h => ?_)
  · obtain ⟨x, v, u, ss, rs, ns, rfl, _⟩ := h
    rfl
  obtain ⟨x, v, u, ss, rs, ns, rfl, iv, tr, lss, h⟩ := h
  have nd := scBt.nd
  refine ⟨_, (pss_cons (by exact (ps_set (i := 3) nd rfl (.inl rfl) (pe_meth (pv 0) T.cl hW GW hr bW .nil (passes_call (takes_of rfl rfl rfl rfl) (fun _ _ _ _ h => h)) (pa_cons (pv 1) (pa_cons (pv 2) pa_nil)))))
  (pss_one (by exact (ps_ret (pe_lc (own := [("here", 4), ("there", 5)]) (g := gTup K 2 (gCons (gName 4) (gCons (gName 5) gNil))) (tt := tYes) (te := tMeth C "place" (spPl K C CN CO) [] E0 (tVar 0) (tCons (tVar 4) (tCons (tVar 5) tNil))) rfl nd (by exact pi_zip rfl mz (pa_cons (pv 3) (pa_cons (pe_slice sl_list (pv 3) (po_some pe_int) po_none) pa_nil))) (by exact blkOk_by (N := ["valley", "one", "other", "way", "here", "there"]) (sc := defScope sBt) (by decide +kernel)) (fun _ _ _ _ _ => by exact (pg_tup rfl (pgs_cons (pg_name (i := 4) nd rfl (.inl rfl)) (pgs_cons (pg_name (i := 5) nd rfl (.inl rfl)) pgs_nil)))) (fun _ _ _ _ _ => by exact pts_nil) (fun _ _ _ _ _ => by exact (pe_meth (pv 0) T.cl hP GP hr bP .nil passL (pa_cons (pv 4) (pa_cons (pv 5) pa_nil))))))))), ?_⟩
  obtain ⟨dx, fx, ix, f0⟩ := iv.inst
  have nm : fx.lookup ("way" : Str) = none ∧ fx.lookup ("place" : Str) = none := ⟨f0 _ (by decide +kernel), f0 _ (by decide +kernel)⟩
  refine ⟨_, rfl, x, dx, fx, rfl, ix, nm.1, _, rfl, _, rfl, x, v, u, ss, rs, ns, rfl, iv, tr, Nat.le_trans lss (by decide), ?_⟩
  rcases h with ⟨n, g⟩ | ⟨s, rfl, hs, h⟩
  · exact .inl ⟨n, g⟩
  refine .inr ⟨s, rfl, hs, ?_⟩
  rcases h with ⟨n, g⟩ | ⟨t, rfl, ht, q⟩
  · exact .inl ⟨n, g⟩
  refine .inr ⟨t, rfl, ht, fun r l H1 e1 nr pt gr => ?_⟩
  refine K1.gN ?_
  have ll : l.length ≤ 500 := Nat.le_trans (nodup_len pt.nd (pt.mem tr.ends ht)) lss
  have lm : (l.map V.str).length = l.length := List.length_map ..
  refine ⟨_, rfl, _, rfl, _, rfl, r, _, rfl, SqL.of gr, fun p hp => ?_⟩
  have ce : cutV (l.map V.str) (some 1) none = (l.drop 1).map V.str := (cut_from (l.map V.str) 1).trans List.map_drop.symm
  rw [ce]
  have e2 := K1.Same.upd (H := H1) (p := p) (o := .lst ((l.drop 1).map V.str)) hp
  have gp := upd_same' H1 p (.lst ((l.drop 1).map V.str))
  generalize L2.upd H1 p (.lst ((l.drop 1).map V.str)) = H2 at e2 gp ⊢
  have gr2 := e2 _ _ gr
  have ld : ((l.drop 1).map V.str).length = l.length - 1 := by rw [List.length_map, List.length_drop]
  refine ⟨r, p, _, _, rfl, SqL.of gr2, SqL.of gp, fun D hD => ?_⟩
  have n3 : l.length - 1 = min (l.map V.str).length ((l.drop 1).map V.str).length := by rw [lm, ld]; omega
  have lw : (wayPl rs l).length = l.length - 1 := by unfold wayPl; rw [List.length_map, List.length_zip, List.length_drop]; omega
  have wat : ∀ (i : Nat) (hi : i < l.length - 1), (wayPl rs l)[i]'(by omega) = (plOf rs (l[i]'(by omega)) (l[i + 1]'(by omega))).getD 0 := fun i hi => by
    unfold wayPl
    simp [Nat.add_comm]
  refine lc_it (Qd := _) (walk_zip n3) (fun i Hc => Same H2 Hc ∧ Hc D = some (.lst (intsV ((wayPl rs l).take i)))) ⟨K1.Same.upd hD, upd_same⟩ (fun i Hc _ h => ⟨SqL.of (h.1 _ _ gr2), SqL.of (h.1 _ _ gp)⟩) ?_ ?_
  · rintro i v Hc H' hi ⟨c1, c2⟩ ⟨T', x1, x2, rfl, hT, rfl, ex1, ex2⟩
    dsimp only at ex1 ex2
    have h1 : i < l.length := by omega
    have h2 : i + 1 < l.length := by omega
    have a1 : x1 = .str l[i] := by
      rw [List.getElem?_map, List.getElem?_eq_getElem h1] at ex1
      exact (Option.some.inj ex1).symm
    have a2 : x2 = .str l[i + 1] := by
      rw [List.getElem?_map, List.getElem?_drop, Nat.add_comm 1 i, List.getElem?_eq_getElem h2] at ex2
      exact (Option.some.inj ex2).symm
    subst a1 a2
    have hT2 := K1.Same.upd (H := Hc) (p := T') (o := .tup [.str l[i], .str l[i + 1]]) hT
    have gT := upd_same' Hc T' (.tup [.str l[i], .str l[i + 1]])
    generalize L2.upd Hc T' (.tup [.str l[i], .str l[i + 1]]) = H3 at hT2 gT ⊢
    have e3 : Same H H3 := e1.trans (e2.trans (c1.trans hT2))
    refine ⟨T', _, rfl, SqT.of gT, rfl, _, _, rfl, _, _, rfl, rfl, rfl, ?_⟩
    unfold tYes
    refine iteT ?_
    have nb := pt.adj i h2
    rw [← plOf_nb] at nb
    obtain ⟨j, hj⟩ := Option.isSome_iff_exists.mp nb
    refine ⟨_, rfl, x, dx, fx, rfl, e3 _ _ ix, nm.2, _, rfl, _, rfl, x, _, _, ss, rs, ns, rfl, iv.same e3, .inr ⟨_, rfl, pt.mem tr.ends ht _ (List.getElem_mem h1), .inr ⟨_, rfl, pt.mem tr.ends ht _ (List.getElem_mem h2), .inr ⟨j, hj, fun H4 e4 => ?_⟩⟩⟩⟩
    have hw : i < (wayPl rs l).length := by omega
    have ej : (wayPl rs l)[i] = j := by rw [wat i (by omega), hj]; rfl
    refine ⟨_, e4 _ _ (hT2 _ _ c2), by unfold intsV; rw [List.length_map, List.length_take]; exact small1000 (by omega), ps_same_upd ((c1.trans hT2).trans e4) hD, ?_⟩
    rw [upd_same, take_snoc hw, ej]
    unfold intsV
    rw [List.map_append]
    rfl
  · rintro Hc ⟨c1, c2⟩
    rw [← lw, List.take_length] at c2
    exact q D l Hc (e1.trans (e2.trans c1)) ((e1.trans e2).free hD) pt c2
end
end K1
end
-- EPar
section
set_option Elab.async false
set_option linter.all false
set_option maxRecDepth 100000
set_option maxHeartbeats 1000000
namespace K1
open PySem PySem.Spec PyProof.Rows L2 W0
abbrev sPb : Stmt := top 44
abbrev sSj : Stmt := top 45
theorem NotI.ext {K : PySem.W.Frag} {H H' : Hp} {v : V} (h : NotI K H v) (e : Same H H') : NotI K H' v := by
  obtain ⟨t, a, b⟩ := h
  exact ⟨t, TyX.ext a e, b⟩
/-- no number of closings -/
def NoMany (K : PySem.W.Frag) (H : Hp) (n : Nat) (v : V) : Prop := (∃ i : Int, v = .int i ∧ (i < 0 ∨ (n : Int) < i)) ∨ NotI K H v
theorem roads_lt {H : Hp} {rs : List (Str × Str)} {xs : List V} {js : List Nat} (pr : Paired (RoadV H rs) xs js) : ∀ j ∈ js, j < rs.length := by
  induction pr with
  | nil => intro j hj; cases hj
  | cons a _ ih =>
    intro j hj
    rcases List.mem_cons.mp hj with rfl | hj
    · obtain ⟨s, t, _, pl⟩ := a
      obtain ⟨hi, _⟩ := plOf_at pl
      exact hi
    · exact ih j hj
theorem BegV.lt {H : Hp} {rs : List (Str × Str)} {v : V} {js : List Nat} (h : BegV H rs v js) : ∀ j ∈ js, j < rs.length := by
  obtain ⟨xs, _, _, pr, _⟩ := h
  exact roads_lt pr
theorem BegV.len {H : Hp} {rs : List (Str × Str)} {v : V} {js : List Nat} (h : BegV H rs v js) : js.length ≤ 1000 := by
  obtain ⟨xs, _, lx, pr, _⟩ := h
  rw [← pr.length]
  exact lx
/-- an evening has all places -/
theorem all_in {js : List Nat} {n : Nat} (nd : js.Nodup) (lt : ∀ j ∈ js, j < n) (len : js.length = n) {i : Nat} (hi : i < n) : i ∈ js := by
  by_cases h : i ∈ js
  · exact h
  · have := nodup_len (xs := i :: js) (ys := List.range n) (List.nodup_cons.mpr ⟨h, nd⟩) fun x hx => by
      rw [List.mem_range]
      rcases List.mem_cons.mp hx with rfl | hx
      · exact hi
      · exact lt x hx
    rw [List.length_cons, List.length_range] at this
    omega
/-- the road by whose closing two houses are parted, and how many are closed ahead of it -/
def PartAt (rs : List (Str × Str)) (js : List Nat) (s t : Str) (m : Nat) (a b : Str) : Prop := ∃ l, Pt rs s l t ∧ ∃ h : m < js.length, js[m] ∈ wayPl rs l ∧ (∀ (k : Nat) (hk : k < m), js[k] ∉ wayPl rs l) ∧ rs[js[m]]? = some (a, b)
def spPb (K : PySem.W.Frag) (C CC CN CS : Addr) : Sp := fun vs H Q E => ∃ x v y z ss rs ns, vs = [.ref x, v, y, z] ∧ IsV C H x ss rs ns ∧ Tree ss rs ∧ ss.length ≤ 500 ∧ ((NoEv K H ss rs v ∧ GoesF CC [("closing", v)] H E) ∨ ∃ js, EvV H rs v js ∧
  ((NoHo K H ss y ∧ GoesF CN [("house", y)] H E) ∨ ∃ s, y = .str s ∧ s ∈ ss ∧ ((NoHo K H ss z ∧ GoesF CN [("house", z)] H E) ∨ ∃ t, z = .str t ∧ t ∈ ss ∧
    ((s = t ∧ GoesF CS [("house", .str t)] H E) ∨ (s ≠ t ∧ ∀ r q m a b H', Same H H' → H r = none → H' r = some (.tup [.ref q, .int (m : Nat)]) → H' q = some (.tup [.str a, .str b]) → PartAt rs js s t m a b → Q (.ref r) H')))))
def spSj (K : PySem.W.Frag) (C CC CN CM : Addr) : Sp := fun vs H Q E => ∃ x v y z ss rs ns, vs = [.ref x, v, y, z] ∧ IsV C H x ss rs ns ∧ Tree ss rs ∧ ss.length ≤ 500 ∧ ((NoEv K H ss rs v ∧ GoesF CC [("closing", v)] H E) ∨ ∃ js, EvV H rs v js ∧
  ((NoHo K H ss y ∧ GoesF CN [("house", y)] H E) ∨ ∃ s, y = .str s ∧ s ∈ ss ∧ ((NoMany K H rs.length z ∧ GoesF CM [("many", z)] H E) ∨ ∃ m : Nat, z = .int (m : Int) ∧ m ≤ rs.length ∧
    ∀ r H', Same H H' → H r = none → H' r = some (.lst ((comp ss (esOf rs (js.drop m)) s).map V.str)) → Q (.ref r) H')))
theorem scPb : FnScope ["valley", "closing", "one", "other", "places", "way", "place", "many"] ["valley", "closing", "one", "other"] (defScope sPb) := ⟨rfl, rfl, rfl, by decide +kernel, rfl, by decide +kernel, by decide +kernel⟩
theorem scSj : FnScope ["valley", "closing", "house", "many", "places", "_", "lots"] ["valley", "closing", "house", "many"] (defScope sSj) := ⟨rfl, rfl, rfl, by decide +kernel, rfl, by decide +kernel, by decide +kernel⟩
section
variable {P : Program} {w : World} {K : PySem.W.Frag} {mg : Str → Option Value} {base : Heap} {CF C CC CN CO CS CM : Addr}
theorem ok_Sj {f fV fC fH fM fJ : Addr} {fd vd cd hd md jd : FuncData} (F : Fun K "still_joined" "still_joined" sSj f fd) (T : VcT K C)
    (GV : FnOk P w K mg base CX0 1 fV vd ["valley"] (spNvG C)) (bV : Binds K vd ["valley"] []) (kV : PySem.W.keepIn K (.ref fV) = true) (mV : mg "need_valley" = some (.ref fV))
    (GC : FnOk P w K mg base (L2.CX P w) 7 fC cd ["valley", "closing"] (spCg K C CC)) (bC : Binds K cd ["valley", "closing"] []) (kC : PySem.W.keepIn K (.ref fC) = true) (mC : mg "need_closing" = some (.ref fC))
    (GH : FnOk P w K mg base (L2.CX P w) 3 fH hd ["self", "house"] (spNe K C CN)) (hH : Meth K C "need_house" fH) (bH : Binds K hd ["self", "house"] [])
    (GM : FnOk P w K mg base (L2.CX P w) 3 fM md ["valley", "many"] (spNm K C CM)) (bM : Binds K md ["valley", "many"] []) (kM : PySem.W.keepIn K (.ref fM) = true) (mM : mg "need_many" = some (.ref fM))
    (GJ : FnOk P w K mg base CX0 3 fJ jd ["valley", "places"] (spJu C)) (bJ : Binds K jd ["valley", "places"] []) (kJ : PySem.W.keepIn K (.ref fJ) = true) (mJ : mg "join_up" = some (.ref fJ)) :
    FnOk P w K mg base (L2.CX P w) 8 f fd ["valley", "closing", "house", "many"] (spSj K C CC CN CM) := by
  refine F.okX scSj (fun vs H Q E h => ?_) (fun cdv A outer s H vs Q E hr h => ?_)
  · obtain ⟨x, v, y, z, ss, rs, ns, rfl, _⟩ := h
    rfl
  obtain ⟨x, v, y, z, ss, rs, ns, rfl, iv, tr, lss, h⟩ := h
  have nd := scSj.nd
  have hu := hu_of hr
  have hr1 : Room 1 _ := hr.mono (by decide)
  have hr3 : Room 3 _ := hr.mono (by decide)
  refine ⟨_, (pss_cons (by exact (ps_expr (pe_call GV hr1 rfl mV kV bV .nil pass0 (pa_cons (pv 0) pa_nil))))
  (pss_cons (by exact (ps_set (i := 4) nd rfl (.inl rfl) (pe_call GC hr rfl mC kC bC .nil (passes_call (takes_of rfl rfl rfl rfl) (fun _ _ _ _ h => h)) (pa_cons (pv 0) (pa_cons (pv 1) pa_nil)))))
  (pss_cons (by exact (ps_expr (pe_meth (pv 0) T.cl hH GH hr3 bH .nil (passes_call (takes_of rfl rfl rfl rfl) (fun _ _ _ _ h => h)) (pa_cons (pv 2) pa_nil))))
  (pss_cons (by exact (ps_expr (pe_call GM hr3 rfl mM kM bM .nil (passes_call (takes_of rfl rfl rfl rfl) (fun _ _ _ _ h => h)) (pa_cons (pv 0) (pa_cons (pv 3) pa_nil)))))
  (pss_cons (by exact (ps_asg (pe_call GJ hr3 rfl mJ kJ bJ .nil pass0 (pa_cons (pv 0) (pa_cons (pe_slice sl_list (pv 4) (po_some (pv 3)) po_none) pa_nil))) (pg_tup rfl (pgs_cons (pg_name (i := 5) nd rfl (.inl rfl)) (pgs_cons (pg_name (i := 6) nd rfl (.inl rfl)) pgs_nil)))))
  (pss_one (by exact (ps_ret (pe_dget hu (pv 6) (pv 2) (fun _ _ => rfl)))))))))), ?_⟩
  refine ⟨_, rfl, x, ss, rs, ns, rfl, iv, ?_⟩
  with_reducible refine sQ ?_
  rcases h with ⟨n, g⟩ | ⟨js, ev, h⟩
  · exact ⟨_, rfl, _, rfl, x, v, ss, rs, ns, rfl, iv, tr.ends, .inr ⟨n, g⟩⟩
  refine ⟨_, rfl, _, rfl, x, v, ss, rs, ns, rfl, iv, tr.ends, .inl ⟨js, ev, fun p H1 e1 np gp => ?_⟩⟩
  refine K1.gN ?_
  with_reducible refine sQ ?_
  obtain ⟨dx, fx, ix, f0⟩ := (iv.same e1).inst
  refine ⟨_, rfl, x, dx, fx, rfl, ix, f0 _ (by decide +kernel), _, rfl, x, y, ss, rs, ns, rfl, iv.same e1, ?_⟩
  rcases h with ⟨n, g⟩ | ⟨s, rfl, hs, h⟩
  · exact .inr ⟨n.ext e1, g.ext e1⟩
  refine .inl ⟨s, rfl, hs, ?_⟩
  with_reducible refine sQ ?_
  refine ⟨_, rfl, _, rfl, x, ss, rs, ns, z, rfl, iv.same e1, ?_⟩
  rcases h with ⟨n, g⟩ | ⟨m, rfl, hm, q⟩
  · exact .inr ⟨n.imp id fun n => n.ext e1, g.ext e1⟩
  refine .inl ⟨m, rfl, hm, fun H2 e2 => ?_⟩
  with_reducible refine sQ ?_
  have e12 := e1.trans e2
  have gp2 := e2 _ _ gp
  refine ⟨_, rfl, _, rfl, _, rfl, (m : Int), rfl, p, _, rfl, SqL.of gp2, fun c hc => ?_⟩
  have ce : cutV (intsV js) (some (m : Int)) none = intsV (js.drop m) := (cut_from (intsV js) m).trans List.map_drop.symm
  rw [ce]
  have e3 := K1.Same.upd (H := H2) (p := c) (o := .lst (intsV (js.drop m))) hc
  have gc := upd_same' H2 c (.lst (intsV (js.drop m)))
  generalize L2.upd H2 c (.lst (intsV (js.drop m))) = H3 at e3 gc ⊢
  have e13 := e12.trans e3
  have lj : js.length ≤ 1000 := ev.1.len
  refine ⟨x, c, ss, rs, ns, js.drop m, rfl, iv.same e13, tr.ends, tr.nd, lss, by have := tr.len; omega, gc, by rw [List.length_drop]; omega, fun j hj => ev.1.lt j (List.mem_of_mem_drop hj), fun r ca L kvs qs H4 e4 nr gr nca gca lq gL lk lots came => ?_⟩
  refine ⟨r, _, rfl, SqT.of gr, rfl, _, _, rfl, _, _, rfl, rfl, ?_⟩
  obtain ⟨d, v1, v2, v3, v4⟩ := lots s hs
  have dg := DGet.k (k := .inr s) gL
  rw [v1] at dg
  exact ⟨_, rfl, _, rfl, L, _, rfl, dg, q d H4 (e13.trans e4) (e13.free v3) v4⟩
end
end K1
end
-- EPb
section
set_option Elab.async false
set_option linter.all false
set_option maxRecDepth 100000
set_option maxHeartbeats 1000000
namespace K1
open PySem PySem.Spec PyProof.Rows L2 W0
theorem wayPl_lt {ss : List Str} {rs : List (Str × Str)} {s t : Str} {l : List Str} (pt : Pt rs s l t) : ∀ j ∈ wayPl rs l, j < rs.length := by
  intro j hj
  obtain ⟨k, hk, rfl⟩ := List.mem_iff_getElem.mp hj
  have lw : (wayPl rs l).length = l.length - 1 := by unfold wayPl; rw [List.length_map, List.length_zip, List.length_drop]; omega
  have h2 : k + 1 < l.length := by omega
  have nb := pt.adj k h2
  rw [← plOf_nb] at nb
  obtain ⟨i, hi⟩ := Option.isSome_iff_exists.mp nb
  have e : (wayPl rs l)[k] = i := by
    unfold wayPl
    simp [Nat.add_comm, hi]
  obtain ⟨hi2, _⟩ := plOf_at hi
  rw [e]
  exact hi2
theorem wayPl_ne {rs : List (Str × Str)} {s t : Str} {l : List Str} (pt : Pt rs s l t) : wayPl rs l = [] ↔ s = t := by
  have lw : (wayPl rs l).length = l.length - 1 := by unfold wayPl; rw [List.length_map, List.length_zip, List.length_drop]; omega
  cases pt with
  | one s => exact ⟨fun _ => rfl, fun _ => rfl⟩
  | @cons s u t l q h n =>
    obtain ⟨r, rfl⟩ := h.head
    constructor
    · intro z
      rw [z] at lw
      simp at lw
    · intro z
      subst z
      exact absurd h.end_mem n
section
variable {P : Program} {w : World} {K : PySem.W.Frag} {mg : Str → Option Value} {base : Heap} {CF C CC CN CO CS CM : Addr}
theorem ok_Pb {f fV fC fB fR fE : Addr} {fd vd cd bd rd ed : FuncData} (F : Fun K "parted_by" "parted_by" sPb f fd) (T : VcT K C) (mn : mg "min" = none)
    (GV : FnOk P w K mg base CX0 1 fV vd ["valley"] (spNvG C)) (bV : Binds K vd ["valley"] []) (kV : PySem.W.keepIn K (.ref fV) = true) (mV : mg "need_valley" = some (.ref fV))
    (GC : FnOk P w K mg base (L2.CX P w) 7 fC cd ["valley", "closing"] (spCg K C CC)) (bC : Binds K cd ["valley", "closing"] []) (kC : PySem.W.keepIn K (.ref fC) = true) (mC : mg "need_closing" = some (.ref fC))
    (GB : FnOk P w K mg base (L2.CX P w) 5 fB bd ["valley", "one", "other"] (spBt K C CN)) (bB : Binds K bd ["valley", "one", "other"] []) (kB : PySem.W.keepIn K (.ref fB) = true) (mB : mg "places_between" = some (.ref fB))
    (GR : FnOk P w K mg base CX0 1 fR rd ["self"] (spRo C)) (hR : Meth K C "roads" fR) (bR : Binds K rd ["self"] [])
    (TF : FeC K mg CF) (TC : ErF K mg "SameHouse" CS fE ["house"]) (FE : Fun K "__init__" "SameHouse.__init__" sIS fE ed) (bE : Binds K ed ["self", "house"] []) :
    FnOk P w K mg base (L2.CX P w) 8 f fd ["valley", "closing", "one", "other"] (spPb K C CC CN CS) := by
  have GE := ok_iS (P := P) (w := w) (base := base) FE TF TC
  refine F.okX scPb (fun vs H Q E h => ?_) (fun cdv A outer s H vs Q E hr h => ?_)
  · obtain ⟨x, v, y, z, ss, rs, ns, rfl, _⟩ := h
    rfl
  obtain ⟨x, v, y, z, ss, rs, ns, rfl, iv, tr, lss, h⟩ := h
  have nd := scPb.nd
  have hr1 : Room 1 _ := hr.mono (by decide)
  have hr2 : Room 2 _ := hr.mono (by decide)
  have hr5 : Room 5 _ := hr.mono (by decide)
  refine ⟨_, (pss_cons (by exact (ps_expr (pe_call GV hr1 rfl mV kV bV .nil pass0 (pa_cons (pv 0) pa_nil))))
  (pss_cons (by exact (ps_set (i := 4) nd rfl (.inr rfl) (pe_call GC hr rfl mC kC bC .nil (passes_call (takes_of rfl rfl rfl rfl) (fun _ _ _ _ h => h)) (pa_cons (pv 0) (pa_cons (pv 1) pa_nil)))))
  (pss_cons (by exact (ps_set (i := 5) nd rfl (.inl rfl) (pe_call GB hr5 rfl mB kB bB .nil (passes_call (takes_of rfl rfl rfl rfl) (fun _ _ _ _ h => h)) (pa_cons (pv 0) (pa_cons (pv 2) (pa_cons (pv 3) pa_nil))))))
  (pss_cons (by exact (ps_if (pt_not (pt_truth (pv 5) (fun _ => rfl))) (pss_one (by exact (ps_raise rfl (takes_of rfl rfl rfl rfl) (pmk_oex TC.ox TC.ini TC.ty GE hr2 bE .nil pass0 rfl TC.m (pa_cons (pv 3) pa_nil))))) pss_nil))
  (pss_cons (by exact (ps_set (i := 7) nd rfl (.inl rfl) (pe_callB (cr_min rfl) rfl mn (by decide +kernel) (pa_cons (pe_lc (own := [("place", 6)]) (g := gName 6) (tt := tYes) (te := tBM K "list" (rIndex K) (tVar 4) (tCons (tVar 6) tNil)) rfl nd (by exact pi_list (pv 5)) (by exact blkOk_by (N := ["valley", "closing", "one", "other", "places", "way", "place", "many"]) (sc := defScope sPb) (by decide +kernel)) (fun _ _ _ _ _ => by exact (pg_name (i := 6) nd rfl (.inl rfl))) (fun _ _ _ _ _ => by exact pts_nil) (fun _ _ _ _ _ => by exact (pe_bm PySem.F.plainAttrs_list PySem.F.slot_list_index PySem.F.type_list_index mt_index (pv 4) (pa_cons (pv 6) pa_nil)))) pa_nil))))
  (pss_one (by exact (ps_ret (pe_tup (pa_cons (pe_ix ix_list (pe_meth0 (pv 0) T.cl hR GR hr1 bR .nil pass0) (pe_ix ix_list (pv 4) (pv 7) (fun _ _ => rfl)) (fun _ _ => rfl)) (pa_cons (pv 7) pa_nil))))))))))), ?_⟩
  refine ⟨_, rfl, x, ss, rs, ns, rfl, iv, ?_⟩
  with_reducible refine sQ ?_
  rcases h with ⟨n, g⟩ | ⟨js, ev, h⟩
  · exact ⟨_, rfl, _, rfl, x, v, ss, rs, ns, rfl, iv, tr.ends, .inr ⟨n, g⟩⟩
  refine ⟨_, rfl, _, rfl, x, v, ss, rs, ns, rfl, iv, tr.ends, .inl ⟨js, ev, fun p H1 e1 np gp => ?_⟩⟩
  refine K1.gN ?_
  with_reducible refine sQ ?_
  refine ⟨_, rfl, _, rfl, _, rfl, x, y, z, ss, rs, ns, rfl, iv.same e1, tr, lss, ?_⟩
  rcases h with ⟨n, g⟩ | ⟨s, rfl, hs, h⟩
  · exact .inl ⟨n.ext e1, g.ext e1⟩
  refine .inr ⟨s, rfl, hs, ?_⟩
  rcases h with ⟨n, g⟩ | ⟨t, rfl, ht, h⟩
  · exact .inl ⟨n.ext e1, g.ext e1⟩
  refine .inr ⟨t, rfl, ht, fun r l H2 e2 nr pt gr => ?_⟩
  refine K1.gN ?_
  with_reducible refine sQ ?_
  have e12 := e1.trans e2
  have gp2 := e2 _ _ gp
  refine ⟨_, rfl, _, .inl ⟨_, SqL.of gr, rfl⟩, ?_⟩
  rcases h with ⟨eq, g⟩ | ⟨ne, q⟩
  · have z := (wayPl_ne pt).mpr eq
    rw [z]
    exact iteT ⟨_, rfl, (by show 1 ≤ 1000; decide), raise_one g e12⟩
  have z := fun z => ne ((wayPl_ne pt).mp z)
  have nem : (intsV (wayPl rs l)).isEmpty = false := by
    cases hw : wayPl rs l with
    | nil => exact absurd hw z
    | cons a b => rfl
  rw [nem]
  refine iteF ?_
  refine nQ ?_
  with_reducible refine sQ ?_
  unfold tAsg tCB
  refine cons_run ?_
  refine ⟨_, rfl, r, rfl, ⟨_, SqL.of gr⟩, fun D hD => ?_⟩
  have lw : (intsV (wayPl rs l)).length = (wayPl rs l).length := List.length_map ..
  have ndj : js.Nodup := ev.1.choose_spec.2.2.2
  have ljs : js.length ≤ 1000 := ev.1.len
  have isin : ∀ j ∈ wayPl rs l, j ∈ js := fun j hj => all_in ndj ev.1.lt ev.2 (wayPl_lt (ss := ss) pt j hj)
  have lwl : (wayPl rs l).length ≤ 500 := by
    have h1 : (wayPl rs l).length ≤ l.length := by unfold wayPl; rw [List.length_map, List.length_zip]; omega
    exact Nat.le_trans h1 (Nat.le_trans (nodup_len pt.nd (pt.mem tr.ends ht)) lss)
  have flat : (intsV js).all flatV = true := List.all_eq_true.mpr fun x hx => by
    obtain ⟨j, _, rfl⟩ := List.mem_map.mp hx
    rfl
  have at_ : ∀ {k : Nat} {u : V}, (intsV js)[k]? = some u → ∃ h : k < js.length, u = .int (js[k] : Int) := fun {k u} e => by
    unfold intsV at e
    rw [List.getElem?_map] at e
    rcases Nat.lt_or_ge k js.length with hk | hk
    · rw [List.getElem?_eq_getElem hk] at e
      exact ⟨hk, (Option.some.inj e).symm⟩
    · rw [List.getElem?_eq_none hk] at e
      cases e
  have lm : ((wayPl rs l).map fun j => js.idxOf j).length = (wayPl rs l).length := List.length_map ..
  refine lc_it (Qd := _) walk_list (fun i Hc => Same H2 Hc ∧ Hc D = some (.lst (intsV (((wayPl rs l).map fun j => js.idxOf j).take i)))) ⟨K1.Same.upd hD, upd_same⟩ (fun i Hc _ h => SqL.of (h.1 _ _ gr)) ?_ ?_
  · rintro i v2 Hc H' hi ⟨c1, c2⟩ ⟨rfl, hv⟩
    rw [lw] at hi
    have ev2 : v2 = .int ((wayPl rs l)[i] : Int) := by
      unfold intsV at hv
      rw [List.getElem?_map, List.getElem?_eq_getElem hi] at hv
      exact (Option.some.inj hv).symm
    subst ev2
    refine ⟨rfl, ?_⟩
    unfold tYes
    refine iteT ?_
    have hm := isin _ (List.getElem_mem hi)
    have hlt := List.idxOf_lt_length_of_mem hm
    have hget := List.getElem_idxOf hlt
    have g2 := c1 _ _ gp2
    refine ⟨_, rfl, .inl ⟨rfl, _, SqL.of g2⟩, _, rfl, p, intsV js, .int ((wayPl rs l)[i] : Int), js.idxOf (wayPl rs l)[i], .int ((wayPl rs l)[i] : Int), rfl, rfl, SqL.of g2, rfl, flat, ?_, ?_, fun m z' hm' hz => ?_, ?_⟩
    · unfold intsV
      rw [List.getElem?_map, List.getElem?_eq_getElem hlt, hget]
      rfl
    · exact beq_self_eq_true _
    · obtain ⟨h1, rfl⟩ := at_ hz
      refine beq_eq_false_iff_ne.mpr fun q => ?_
      have q2 : js[m] = (wayPl rs l)[i] := by omega
      have := List.Nodup.idxOf_getElem ndj m h1
      rw [q2] at this
      omega
    · have hk : i < ((wayPl rs l).map fun j => js.idxOf j).length := by rw [lm]; exact hi
      refine ⟨_, c2, by unfold intsV; rw [List.length_map, List.length_take]; exact small1000 (by omega), ps_same_upd c1 hD, ?_⟩
      rw [upd_same, take_snoc hk]
      unfold intsV
      rw [List.map_append, List.getElem_map]
      rfl
  · rintro Hc ⟨c1, c2⟩
    rw [lw, ← lm, List.take_length] at c2
    have enm : intsV ((wayPl rs l).map fun j => js.idxOf j) = (((wayPl rs l).map fun j => js.idxOf j).map fun k : Nat => (k : Int)).map V.int := by
      unfold intsV
      rw [List.map_map, List.map_map, List.map_map]
      rfl
    rw [enm] at c2
    refine ⟨D, _, rfl, SqL.of c2, ?_, fun m hm hle => ?_⟩
    · rw [List.length_map, lm]
      exact List.length_pos_iff.mpr z
    obtain ⟨k, hk, rfl⟩ := List.mem_map.mp hm
    obtain ⟨j0, hj0, rfl⟩ := List.mem_map.mp hk
    have hlt := List.idxOf_lt_length_of_mem (isin _ hj0)
    have hget := List.getElem_idxOf hlt
    have hjr := wayPl_lt (ss := ss) pt j0 hj0
    refine K1.gN ?_
    have e1c : Same H Hc := e12.trans c1
    obtain ⟨dx, fx, ix, f0⟩ := (iv.same e1c).inst
    refine ⟨_, rfl, x, dx, fx, rfl, ix, f0 _ (by decide +kernel), x, ss, rs, ns, rfl, iv.same e1c, fun b qs hb pq => ?_⟩
    have e3 := K1.Same.upd (H := Hc) (p := b) (o := .lst (qs.map V.ref)) hb
    have gb := upd_same' Hc b (.lst (qs.map V.ref))
    generalize L2.upd Hc b (.lst (qs.map V.ref)) = H3 at e3 gb ⊢
    have gp3 := e3 _ _ (c1 _ _ gp2)
    have at1 : atI (intsV js) ((js.idxOf j0 : Nat) : Int) = some (.int (j0 : Int)) := atI_nat (j := js.idxOf j0) (by
      unfold intsV
      rw [List.getElem?_map, List.getElem?_eq_getElem hlt, hget]
      rfl)
    have lq : qs.length = rs.length := pq.length
    have hq : (qs.map V.ref)[j0]? = some (.ref (qs[j0]'(by omega))) := by rw [List.getElem?_map, List.getElem?_eq_getElem (by omega)]; rfl
    obtain ⟨t3, et, ht3⟩ := paired_ref pq hjr hq
    have at2 : atI (qs.map V.ref) ((j0 : Nat) : Int) = some (.ref t3) := atI_nat (j := j0) (by rw [hq, et])
    refine ⟨_, rfl, _, rfl, p, _, _, _, rfl, rfl, SqL.of gp3, at1, b, _, _, _, rfl, rfl, SqL.of gb, at2, _, rfl, (by show 2 ≤ sizeLine; decide), fun U hU => ?_⟩
    have eU := K1.Same.upd (H := H3) (p := U) (o := .tup [.ref t3, .int ((js.idxOf j0 : Nat) : Int)]) hU
    refine q U t3 (js.idxOf j0) rs[j0].1 rs[j0].2 _ (e1c.trans (e3.trans eU)) ((e1c.trans e3).free hU) upd_same (eU _ _ (e3 _ _ ht3)) ⟨l, pt, hlt, by rw [hget]; exact hj0, fun k hk hin => ?_, by rw [hget]; exact List.getElem?_eq_getElem hjr⟩
    have h1 : k < js.length := by omega
    have := List.Nodup.idxOf_getElem ndj k h1
    have hle2 := hle _ (List.mem_map.mpr ⟨_, List.mem_map.mpr ⟨_, hin, rfl⟩, rfl⟩)
    rw [this] at hle2
    omega
end
end K1
end
-- KLaw6
section
set_option Elab.async false
set_option linter.all false
set_option maxRecDepth 100000
set_option maxHeartbeats 4000000
namespace K1
open PySem PySem.Spec PyProof.Rows L2
abbrev sVM : Stmt := top 56
theorem flat_str {K : PySem.W.Frag} {H : Hp} (s : Str) : Flat0 K H (.str s) (.str s) := ⟨rfl, "str", .base (.str s), by decide, by decide⟩
theorem flat_int {K : PySem.W.Frag} {H : Hp} (s : Int) : Flat0 K H (.int s) (.int s) := ⟨rfl, "int", .base (.int s), by decide, by decide⟩
theorem paired_same {α : Type} {F : α → α → Prop} : ∀ {xs : List α}, (∀ x ∈ xs, F x x) → Paired F xs xs
  | [], _ => .nil
  | x :: xs, h => .cons (h x (List.mem_cons_self ..)) (paired_same fun y hy => h y (List.mem_cons_of_mem _ hy))
theorem flat_eq {K : PySem.W.Frag} {H : Hp} : ∀ {vs xs : List V}, Paired (Flat0 K H) vs xs → vs = xs
  | _, _, .nil => rfl
  | _, _, .cons f r => by rw [f.1, flat_eq r]
theorem paired_map {α β γ : Type} {F : α → β → Prop} {g : γ → β} : ∀ {xs : List α} {ys : List γ}, Paired F xs (ys.map g) → Paired (fun x y => F x (g y)) xs ys
  | _, [], .nil => .nil
  | _, _ :: _, .cons f r => .cons f (paired_map r)
theorem map_paired {α β γ : Type} {F : α → β → Prop} {g : γ → α} : ∀ {xs : List γ} {ys : List β}, Paired (fun x y => F (g x) y) xs ys → Paired F (xs.map g) ys
  | _, _, .nil => .nil
  | _, _, .cons f r => .cons f (map_paired r)
def prV (r : Str × Str) : List V := [.str r.1, .str r.2]
def spVM (C : Addr) : Sp := fun vs H Q _ => ∃ (a t p1 p2 p3 : Addr) (qs : List Addr) (ss : List Str) (rs : List (Str × Str)) (ns : List Int) (n : Nat), vs = [.ref a, .ref t] ∧ Spr H a n ∧ n + 200 ≤ 1000000 ∧ VAt a H t p1 p2 p3 qs ss rs ns ∧ VOk ss rs ns ∧
  ∀ x l1 l2 l3 qs' H', Kept a H H' → Spr H' a (n + 200) → ValI C H' x l1 l2 l3 qs' ss rs ns → l1 ≠ a → l2 ≠ a → l3 ≠ a → Q (.ref x) H'
theorem scVM : FnScope ["spring", "valley"] ["spring", "valley"] (defScope sVM) := ⟨rfl, rfl, rfl, by decide +kernel, rfl, by decide +kernel, by decide +kernel⟩
theorem same_make {H : Hp} {x dx C : Addr} (nx : H x = none) (nd : H dx = none) : Same H (L2.upd (L2.upd H dx (.own x)) x (.ins C dx [])) := fun b o e => by
  rw [upd_ne (ne_of_none e nx), upd_ne (ne_of_none e nd)]
  exact e
theorem Spr.keptx {H H' : Hp} {a x : Addr} {n : Nat} (s : Spr H a n) (ne : a ≠ x) (k : Kept x H H') : Spr H' a n := by
  obtain ⟨u, y, z, e, r⟩ := s
  exact ⟨u, y, z, k _ _ ne e, r⟩
/-- the three lists, handed in some way, make a Valley -/
theorem made_of {K : PySem.W.Frag} {C CH CR CD a x dx : Addr} {H H3 : Hp} {Q : VK} {E : XK} {y1 y2 y3 : V} {ss : List Str} {rs : List (Str × Str)} {ns : List Int} {n : Nat} (ok : VOk ss rs ns) (s3 : Spr H3 a n) (k3 : Kept a H H3) (s0 : H a ≠ none) (nx : H3 x = none) (ndx : H3 dx = none)
    (v1 : SeqV H3 y1 (ss.map V.str)) (v2 : ∃ vs, SeqV H3 y2 vs ∧ Paired (PairV H3) vs rs) (v3 : SeqV H3 y3 (ns.map V.int))
    (q : ∀ l1 l2 l3 qs' H', Kept a H H' → Spr H' a n → ValI C H' x l1 l2 l3 qs' ss rs ns → H3 l1 = none → H3 l2 = none → H3 l3 = none → (∀ q ∈ qs', H3 q = none) → Same H3 H' → Q .non H') :
    spVI K C CH CR CD ([.ref x, y1, y2, y3]) (L2.upd (L2.upd H3 dx (.own x)) x (.ins C dx [])) Q E := by
  have e := same_make (C := C) nx ndx
  obtain ⟨vs, a1, a2⟩ := v2
  have hne : ss ≠ [] := fun z => by have := ok.pos; rw [z] at this; simp at this
  refine ⟨x, y1, y2, y3, dx, rfl, upd_same, .inr (.inr (.inr ⟨ss, rs, ns, ⟨v1.ext e, hne, by have := ok.le; omega, ok.good⟩, ⟨vs, a1.ext e, paired_imp (fun _ _ q => SeqV.ext q e) a2, ok.ends, ok.cut.forest, ok.rl⟩, ⟨v3.ext e, ok.ge, ok.nl⟩, fun H' l1 l2 l3 qs k v f1 f2 f3 f4 => ?_⟩))⟩
  have ax : a ≠ x := fun z => by
    rw [← z] at nx
    exact s3.kept nx
  have back : ∀ {z}, L2.upd (L2.upd H3 dx (.own x)) x (.ins C dx []) z = none → H3 z = none := fun {z} hz => by
    cases q : H3 z with
    | none => rfl
    | some o => rw [e _ _ q] at hz; cases hz
  have sm : Same H3 H' := fun b o eb => k b o (ne_of_none eb nx) (e b o eb)
  exact q l1 l2 l3 qs H' (k3.trans (Kept.same sm)) (s3.same sm) v (back f1) (back f2) (back f3) (fun z hz => back (f4 z hz)) sm
section
variable {P : Program} {w : World} {K : PySem.W.Frag} {mg : Str → Option Value} {base : Heap} {C CH CR CD fL fV : Addr} {fdL fdV : FuncData}
theorem ok_VM {f : Addr} {fd : FuncData} (F : Fun K "_law_v_made" "_law_v_made" sVM f fd) (mV : mg "Valley" = some (.ref C)) (M : Mk K C fV)
    (GV : FnOk P w K mg base (L2.CX P w) 5 fV fdV ["self", "houses", "roads", "heads"] (spVI K C CH CR CD)) (bV : Binds K fdV ["self", "houses", "roads", "heads"] [])
    (GL1 : FnOk P w K mg base CX0 2 fL fdL ["spring", "thing"] (spLo (SeqR (Flat0 K)) 1)) (GL2 : FnOk P w K mg base CX0 3 fL fdL ["spring", "thing"] (spLo (SeqR (SeqR (Flat0 K))) 61))
    (bL : Binds K fdL ["spring", "thing"] []) (kL : PySem.W.keepIn K (.ref fL) = true) (mL : mg "_law_loose" = some (.ref fL)) :
    FnOk P w K mg base CX0 7 f fd ["spring", "valley"] (spVM C) := by
  refine F.ok scVM (fun vs H Q E h => ?_) (fun cdv A outer s H vs Q E hr h => ?_)
  · obtain ⟨a, t, p1, p2, p3, qs, ss, rs, ns, n, rfl, _⟩ := h
    rfl
  obtain ⟨a, t, p1, p2, p3, qs, ss, rs, ns, n, rfl, hs, hn, v, ok, q⟩ := h
  have hrA : Room 2 _ := hr.mono (by decide)
  have hrB : Room 3 _ := hr.mono (by decide)
  refine ⟨_, (pss_one (by exact (ps_ret (pe_make M GV hr rfl mV bV .nil passL (pa_cons (pe_call GL1 hrA rfl mL kL bL .nil pass0 (pa_cons (pv 0) (pa_cons (pe_ix ix_tup (pv 1) pe_int (fun _ _ => rfl)) pa_nil))) (pa_cons (pe_call GL2 hrB rfl mL kL bL .nil pass0 (pa_cons (pv 0) (pa_cons (pe_ix ix_tup (pv 1) pe_int (fun _ _ => rfl)) pa_nil))) (pa_cons (pe_call GL1 hrA rfl mL kL bL .nil pass0 (pa_cons (pv 0) (pa_cons (pe_ix ix_tup (pv 1) pe_int (fun _ _ => rfl)) pa_nil))) pa_nil))))))), ?_⟩
  have zz : ∀ {Hx : Hp} {m : Nat}, Spr Hx a m → ∀ z, z = a → Hx z ≠ none := fun s z e => by rw [e]; exact s.kept
  have i0 : atI [V.ref p1, V.ref p2, V.ref p3] 0 = some (.ref p1) := rfl
  have i1 : atI [V.ref p1, V.ref p2, V.ref p3] 1 = some (.ref p2) := rfl
  have i2 : atI [V.ref p1, V.ref p2, V.ref p3] 2 = some (.ref p3) := rfl
  have pl := ok.le
  refine ⟨_, rfl, _, rfl, t, _, _, _, rfl, rfl, SqT.of v.t0, i0, a, _, ss.map V.str, n, fun z => z = a, rfl, hs, by omega, rfl, zz hs, ⟨ss.map V.str, ⟨p1, rfl, .inl (wo_some.mpr ⟨v.n1, v.h1⟩)⟩, by rw [List.length_map]; exact pl, paired_same fun x hx => ?_⟩, fun y1 H1 k1 s1 r1 => ?_⟩
  · obtain ⟨s, _, rfl⟩ := List.mem_map.mp hx
    exact flat_str s
  have v1 := v.kept hs k1
  refine ⟨_, rfl, _, rfl, t, _, _, _, rfl, rfl, SqT.of v1.t0, i1, a, _, rs.map prV, _, fun z => z = a, rfl, s1, by omega, rfl, zz s1, ⟨qs.map V.ref, ⟨p2, rfl, .inl (wo_some.mpr ⟨v.n2, v1.h2⟩)⟩, by rw [List.length_map]; have := ok.rl; omega, ?_⟩, fun y2 H2 k2 s2 r2 => ?_⟩
  · have : Paired (fun (q : Addr) (r : Str × Str) => SeqR (Flat0 K) (wo (fun z => z = a) H1) (.ref q) (prV r)) qs rs := paired_imp (fun qq r e => ⟨prV r, ⟨qq, rfl, .inr (wo_some.mpr ⟨s1.tup e, e⟩)⟩, by show 2 ≤ 60; decide, .cons (flat_str _) (.cons (flat_str _) .nil)⟩) v1.pr
    have h2 : ∀ {as : List Addr} {bs : List (Str × Str)}, Paired (fun (q : Addr) (r : Str × Str) => SeqR (Flat0 K) (wo (fun z => z = a) H1) (.ref q) (prV r)) as bs → Paired (SeqR (Flat0 K) (wo (fun z => z = a) H1)) (as.map V.ref) (bs.map prV) := by
      intro as bs h
      induction h with
      | nil => exact .nil
      | cons f1 f2 ih => exact .cons f1 ih
    exact h2 this
  have v2 := v1.kept s1 k2
  refine ⟨_, rfl, _, rfl, t, _, _, _, rfl, rfl, SqT.of v2.t0, i2, a, _, ns.map V.int, _, fun z => z = a, rfl, s2, by omega, rfl, zz s2, ⟨ns.map V.int, ⟨p3, rfl, .inl (wo_some.mpr ⟨v.n3, v2.h3⟩)⟩, by rw [List.length_map, ok.nl]; exact pl, paired_same fun x hx => ?_⟩, fun y3 H3 k3 s3 r3 => ?_⟩
  · obtain ⟨s, _, rfl⟩ := List.mem_map.mp hx
    exact flat_int s
  have w1 : Same (wo (fun z => z = a) H1) H3 := Same.trans (wo_same fun b o nb e => k2 b o nb e) (Same.trans (wo_same fun b o nb e => k3 b o nb e) wo_out)
  have w2 : Same (wo (fun z => z = a) H2) H3 := Same.trans (wo_same fun b o nb e => k3 b o nb e) wo_out
  obtain ⟨vs1, sv1, _, q1⟩ := r1
  obtain ⟨vs2, sv2, _, q2⟩ := r2
  obtain ⟨vs3, sv3, _, q3⟩ := r3
  rw [flat_eq q1] at sv1
  rw [flat_eq q3] at sv3
  intro x dx nx ndx nex
  refine made_of ok s3 (k1.trans (k2.trans k3)) hs.kept nx ndx (sv1.ext w1) ⟨vs2, sv2.ext w2, ?_⟩ (sv3.ext wo_out) fun l1 l2 l3 qs' H' kk ss' vv f1 f2 f3 f4 sm => ⟨rfl, ?_⟩
  · refine paired_imp (fun x r h => ?_) (paired_map q2)
    obtain ⟨us, su, _, qu⟩ := h
    rw [flat_eq qu] at su
    exact SeqV.ext su w2
  · exact q x l1 l2 l3 qs' H' kk (ss'.mono (by omega)) vv (s3.ne f1) (s3.ne f2) (s3.ne f3)
end
end K1
end
-- EHa
section
set_option Elab.async false
set_option linter.all false
set_option maxRecDepth 100000
set_option maxHeartbeats 1000000
namespace K1
open PySem PySem.Spec PyProof.Rows L2 W0
abbrev sHd : Stmt := top 58
/-- the same roads, some the other way round -/
def Turned : List (Str × Str) → List (Str × Str) → Prop := Paired fun e' e => e' = e ∨ e' = (e.2, e.1)
/-- roads as they may be handed: lists, tuples, either way round; not at Z -/
def HandV (K : PySem.W.Frag) (H : Hp) (Z : Addr → Prop) (y : V) (es : List (Str × Str)) : Prop := ∃ es', Turned es' es ∧ SeqR (SeqR (Flat0 K)) (wo Z H) y (es'.map prV)
def spHd (K : PySem.W.Frag) : Sp := fun vs H Q _ => ∃ (a p : Addr) (qs : List Addr) (es : List (Str × Str)) (n : Nat), vs = [.ref a, .ref p] ∧ Spr H a n ∧ n + 200 ≤ 1000000 ∧ H p = some (.lst (qs.map V.ref)) ∧ p ≠ a ∧ Paired (TupP H) qs es ∧ es.length ≤ 59 ∧
  ∀ y H', Kept a H H' → Spr H' a (n + 200) → HandV K H' (fun z => z = a) y es → Q y H'
theorem scHd : FnScope ["spring", "evening", "road"] ["spring", "evening"] (defScope sHd) := ⟨rfl, rfl, rfl, by decide +kernel, rfl, by decide +kernel, by decide +kernel⟩
theorem paired_snoc {α β : Type} {R : α → β → Prop} {x : α} {y : β} : ∀ {xs : List α} {ys : List β}, Paired R xs ys → R x y → Paired R (xs ++ [x]) (ys ++ [y])
  | _, _, .nil, h => .cons h .nil
  | _, _, .cons a r, h => .cons a (paired_snoc r h)
theorem two_maps {α β γ δ : Type} {R : γ → δ → Prop} {f : α → γ} {g : β → δ} : ∀ {xs : List α} {ys : List β}, Paired (fun x y => R (f x) (g y)) xs ys → Paired R (xs.map f) (ys.map g)
  | _, _, .nil => .nil
  | _, _, .cons a r => .cons a (two_maps r)
section
variable {P : Program} {w : World} {K : PySem.W.Frag} {mg : Str → Option Value} {base : Heap} {fD fL : Addr} {fdD fdL : FuncData}
theorem ok_Hd {f : Addr} {fd : FuncData} (F : Fun K "_law_v_handed" "_law_v_handed" sHd f fd)
    (G : FnOk P w K mg base CX0 1 fD fdD ["spring", "many"] spDraw) (b : Binds K fdD ["spring", "many"] []) (k : PySem.W.keepIn K (.ref fD) = true) (m : mg "_law_draw" = some (.ref fD))
    (GL : FnOk P w K mg base CX0 3 fL fdL ["spring", "thing"] (spLo (SeqR (SeqR (Flat0 K))) 61)) (bL : Binds K fdL ["spring", "thing"] []) (kL : PySem.W.keepIn K (.ref fL) = true) (mL : mg "_law_loose" = some (.ref fL)) : FnOk P w K mg base CX0 4 f fd ["spring", "evening"] (spHd K) := by
  refine F.ok scHd (fun vs H Q E h => ?_) (fun cdv A outer s H vs Q E hr h => ?_)
  · obtain ⟨a, p, qs, es, n, rfl, _⟩ := h
    rfl
  obtain ⟨a, p, qs, es, n, rfl, hs, hn, hp, pa, pr, le, q⟩ := h
  have nd := scHd.nd
  have hr1 : Room 1 _ := hr.mono (by decide)
  refine ⟨_, (pss_one (by exact (ps_ret (pe_call GL hr rfl mL kL bL .nil pass0 (pa_cons (pv 0) (pa_cons (pe_lc (own := [("road", 2)]) (g := gName 2) (tt := tYes) (te := tIf (tTest (tOp rEq (tCall spDraw [] E0 (tCons (tVar 0) (tCons (tC (.int 2)) tNil))) (tC (.int 0)))) (tVar 2) (tBack K (tVar 2))) rfl nd (by exact pi_list (pv 1)) (by exact blkOk_by (N := ["spring", "evening", "road"]) (sc := defScope sHd) (by decide +kernel)) (fun _ _ _ _ _ => by exact (pg_name (i := 2) nd rfl (.inl rfl))) (fun _ _ _ _ _ => by exact pts_nil) (fun _ _ _ _ _ => by exact (pe_ifExp (pt_cmpR op_eq (pe_call G hr1 rfl m k b .nil pass0 (pa_cons (pv 0) (pa_cons pe_int pa_nil))) pe_int (nomark _)) (pv 2) (pe_back (pv 2))))) pa_nil)))))), ?_⟩
  refine ⟨_, rfl, _, rfl, p, rfl, ⟨_, SqL.of hp⟩, fun D hD => ?_⟩
  have Da := hs.ne hD
  have lq : qs.length = es.length := pr.length
  have lm : (qs.map V.ref).length = es.length := by rw [List.length_map, lq]
  refine lc_it (Qd := _) walk_list (fun i Hc => Kept a H Hc ∧ Spr Hc a (n + i) ∧ ∃ (qs' : List Addr) (es' : List (Str × Str)), Hc D = some (.lst (qs'.map V.ref)) ∧ qs'.length = i ∧ Paired (TupP (wo (fun z => z = a ∨ z = D) Hc)) qs' es' ∧ Turned es' (es.take i))
    ⟨Kept.new hD, hs.upd Da, [], [], upd_same, rfl, .nil, .nil⟩ (fun i Hc _ h => SqL.of (h.1 _ _ pa hp)) ?_ ?_
  · rintro i v Hc H' hi ⟨c1, c2, qs', es', c3, c4, c5, c6⟩ ⟨rfl, hv⟩
    rw [lm] at hi
    have hq : (qs.map V.ref)[i]? = some (.ref (qs[i]'(by omega))) := by rw [List.getElem?_map, List.getElem?_eq_getElem (by omega)]; rfl
    obtain ⟨t, et, ht⟩ := paired_ref pr hi hq
    have ev : v = .ref t := by rw [hq, et] at hv; exact (Option.some.inj hv).symm
    subst ev
    refine ⟨rfl, ?_⟩
    unfold tYes
    refine iteT ?_
    refine ⟨_, rfl, a, 2, n + i, rfl, c2, by omega, by decide, by decide, fun d H2 d0 d1 k2 s2 => ?_⟩
    have kk := c1.trans k2
    have DH2 : H2 D = some (.lst (qs'.map V.ref)) := k2 _ _ Da c3
    have ht2 : H2 t = some (.tup [.str es[i].1, .str es[i].2]) := kk _ _ (fun z => by
      obtain ⟨x, y, z0, e0, _⟩ := hs
      rw [z, e0] at ht
      cases ht) ht
    have fin : ∀ (t2 : Addr) (e2 : Str × Str) (H3 : Hp), (e2 = es[i] ∨ e2 = (es[i].2, es[i].1)) → Kept a H2 H3 → Spr H3 a (n + i + 1) → H3 t2 = some (.tup [.str e2.1, .str e2.2]) →
        ∃ acc, H3 D = some (.lst acc) ∧ acc.length < sizeLine ∧ (Kept a H (L2.upd H3 D (.lst (acc ++ [V.ref t2]))) ∧ Spr (L2.upd H3 D (.lst (acc ++ [V.ref t2]))) a (n + (i + 1)) ∧ ∃ (qs' : List Addr) (es' : List (Str × Str)), L2.upd H3 D (.lst (acc ++ [V.ref t2])) D = some (.lst (qs'.map V.ref)) ∧ qs'.length = i + 1 ∧ Paired (TupP (wo (fun z => z = a ∨ z = D) (L2.upd H3 D (.lst (acc ++ [V.ref t2]))))) qs' es' ∧ Turned es' (es.take (i + 1))) := by
      intro t2 e2 H3 he2 k3 s3 g3
      have D3 := k3 _ _ Da DH2
      have t2D : t2 ≠ D := fun z => by rw [z, D3] at g3; cases g3
      have t2a : t2 ≠ a := fun z => by
        obtain ⟨x, y, z0, e0, _⟩ := s3
        rw [z, e0] at g3
        cases g3
      have sm : Same (wo (fun z => z = a ∨ z = D) H') (wo (fun z => z = a ∨ z = D) (L2.upd H3 D (.lst (qs'.map V.ref ++ [V.ref t2])))) := wo_same fun c o nb eb => by
        rw [upd_ne fun z => nb (.inr z)]
        exact k3 _ _ (fun z => nb (.inl z)) (k2 _ _ (fun z => nb (.inl z)) eb)
      refine ⟨_, D3, by rw [List.length_map, c4]; exact small1000 (by omega), fun c o nb eb => ?_, (s3.upd Da).mono (by omega), qs' ++ [t2], es' ++ [e2], by rw [upd_same, List.map_append]; rfl, by rw [List.length_append, c4]; rfl, ?_, ?_⟩
      · rw [upd_ne (ne_of_none eb hD)]
        exact k3 _ _ nb (kk _ _ nb eb)
      · refine paired_snoc (TupP.ext c5 sm) ?_
        exact wo_some.mpr ⟨fun z => z.elim t2a t2D, by rw [upd_ne t2D]; exact g3⟩
      · rw [take_snoc hi]
        exact paired_snoc c6 he2
    refine ⟨rfl, _, rfl, ?_⟩
    by_cases d00 : V.int d = V.int 0
    · rw [decide_eq_true d00]
      exact iteT ⟨_, rfl, fin t es[i] H2 (.inl rfl) Kept.refl s2 ht2⟩
    · rw [decide_eq_false d00]
      refine iteF ⟨_, rfl, t, _, _, rfl, SqT.of ht2, fun u hu => ?_⟩
      exact fin u (es[i].2, es[i].1) _ (.inr rfl) (Kept.new hu) (s2.upd (s2.ne hu)) upd_same
  · rintro Hc ⟨c1, c2, qs', es', c3, c4, c5, c6⟩
    rw [lm] at c2
    rw [lm, List.take_length] at c6
    have les : es'.length = es.length := c6.length
    refine ⟨a, .ref D, es'.map prV, n + es.length, fun z => z = a, rfl, c2, by omega, rfl, fun z hz => by rw [hz]; exact c2.kept, ⟨qs'.map V.ref, ⟨D, rfl, .inl (wo_some.mpr ⟨Da, c3⟩)⟩, by rw [List.length_map]; omega, ?_⟩, fun y H6 k6 s6 r6 => q y H6 (c1.trans k6) (s6.mono (by omega)) ⟨es', c6, r6⟩⟩
    exact two_maps (paired_imp (fun t e ht => ⟨prV e, ⟨t, rfl, .inr (wo_some.mpr ⟨fun z => (wo_some.mp ht).1 (.inl z), (wo_some.mp ht).2⟩)⟩, (by show 2 ≤ 60; decide), .cons (flat_str _) (.cons (flat_str _) .nil)⟩) c5)
end
end K1
end
-- EEv
section
set_option Elab.async false
set_option linter.all false
set_option maxRecDepth 100000
set_option maxHeartbeats 1000000
namespace K1
open PySem PySem.Spec PyProof.Rows L2 W0
/-- what may be shown: texts in lists and tuples -/
structure ShowD (n k : Nat) (d : PyData) : Prop where
  lay : d.canLay0 = true
  dep : d.depth ≤ n
  wt : d.weight ≤ k
  sh : d.showable = true
  sm : d.intsShort 8 = true
theorem show_str {s : Str} (h : nameOk s = true) : ShowD 0 8 (.str s) := by
  refine ⟨strOk_of h, Nat.le_refl _, ?_, rfl, by show PyData.intsShort 8 (.str s) = true; simp [PyData.intsShort]⟩
  unfold nameOk at h
  exact of_decide_eq_true (Bool.and_eq_true_iff.mp (Bool.and_eq_true_iff.mp h).2).1
theorem show_all {n k : Nat} : ∀ {ds : List PyData}, (∀ d ∈ ds, ShowD n k d) → PyData.canLayAll0 ds = true ∧ PyData.depthAll ds ≤ n ∧ PyData.weightAll ds ≤ (k + 1) * ds.length ∧ PyData.showableAll ds = true ∧ PyData.intsShortAll 8 ds = true
  | [], _ => ⟨rfl, Nat.zero_le _, Nat.zero_le _, rfl, by simp [PyData.intsShortAll]⟩
  | d :: ds, h => by
    obtain ⟨a1, a2, a3, a4, a5⟩ := h d (List.mem_cons_self ..)
    obtain ⟨b1, b2, b3, b4, b5⟩ := show_all fun x hx => h x (List.mem_cons_of_mem _ hx)
    refine ⟨?_, ?_, ?_, ?_, ?_⟩
    · show (d.canLay0 && PyData.canLayAll0 ds) = true
      rw [a1, b1]; rfl
    · show max d.depth (PyData.depthAll ds) ≤ n
      exact Nat.max_le.mpr ⟨a2, b2⟩
    · show d.weight + 1 + PyData.weightAll ds ≤ (k + 1) * (ds.length + 1)
      rw [Nat.mul_add]
      omega
    · show (d.showable && PyData.showableAll ds) = true
      rw [a4, b4]; rfl
    · simp only [PyData.intsShortAll, a5, b5, Bool.and_self]
theorem show_list {n k m : Nat} {ds : List PyData} (h : ∀ d ∈ ds, ShowD n k d) (l : ds.length ≤ m) : ShowD (n + 1) ((k + 1) * m) (.list ds) ∧ ShowD (n + 1) ((k + 1) * m) (.tuple ds) := by
  obtain ⟨b1, b2, b3, b4, b5⟩ := show_all h
  have wt : PyData.weightAll ds ≤ (k + 1) * m := Nat.le_trans b3 (Nat.mul_le_mul_left _ l)
  exact ⟨⟨b1, Nat.succ_le_succ b2, wt, b4, by simp only [PyData.intsShort, b5]⟩, ⟨b1, Nat.succ_le_succ b2, wt, b4, by simp only [PyData.intsShort, b5]⟩⟩
/-- lists and tuples of what may be shown -/
theorem seq_show {K : PySem.W.Frag} {H : Hp} {v : V} {vs : List V} {n k m : Nat} (sv : SeqV H v vs) (h : ∃ ds, (∀ d ∈ ds, ShowD n k d) ∧ ds.length ≤ m ∧ ∀ H', Same H H' → DpAll K H' vs ds) : ∃ d, ShowD (n + 1) ((k + 1) * m) d ∧ ∀ H', Same H H' → Dp K H' v d := by
  obtain ⟨p, rfl, hp⟩ := sv
  obtain ⟨ds, g, l, dp⟩ := h
  obtain ⟨s1, s2⟩ := show_list g l
  rcases hp with hp | hp
  · exact ⟨.list ds, s1, fun H' e => .lst (SqL.of (e _ _ hp)) (dp H' e)⟩
  · exact ⟨.tuple ds, s2, fun H' e => .tup (SqT.of (e _ _ hp)) (dp H' e)⟩
theorem pairs_show {K : PySem.W.Frag} {H : Hp} : ∀ {vs : List V} {es : List (Str × Str)}, Paired (SeqR (Flat0 K) H) vs (es.map prV) → (∀ e ∈ es, nameOk e.1 = true ∧ nameOk e.2 = true) → ∃ ds, (∀ d ∈ ds, ShowD 1 18 d) ∧ ds.length ≤ es.length ∧ ∀ H', Same H H' → DpAll K H' vs ds
  | _, [], .nil, _ => ⟨[], fun d hd => absurd hd (by simp), Nat.le_refl _, fun _ _ => .nil⟩
  | _, e :: es, .cons a r, h => by
    obtain ⟨ds, g, l, dp⟩ := pairs_show r fun x hx => h x (List.mem_cons_of_mem _ hx)
    obtain ⟨vs, sv, _, pr⟩ := a
    have ev := flat_eq pr
    subst ev
    obtain ⟨h1, h2⟩ := h e (List.mem_cons_self ..)
    obtain ⟨d, sd, dd⟩ := seq_show (K := K) (n := 0) (k := 8) (m := 2) sv ⟨[.str e.1, .str e.2], fun d hd => by
      simp only [List.mem_cons, List.not_mem_nil, or_false] at hd
      rcases hd with rfl | rfl
      · exact show_str h1
      · exact show_str h2, Nat.le_refl _, fun H' _ => .cons (.str _) (.cons (.str _) .nil)⟩
    refine ⟨d :: ds, fun x hx => ?_, Nat.succ_le_succ l, fun H' e' => .cons (dd H' e') (dp H' e')⟩
    rcases List.mem_cons.mp hx with rfl | hx
    · exact sd
    · exact g x hx
theorem turned_names {es' es : List (Str × Str)} (t : Turned es' es) (h : ∀ e ∈ es, nameOk e.1 = true ∧ nameOk e.2 = true) : ∀ e ∈ es', nameOk e.1 = true ∧ nameOk e.2 = true := by
  induction t with
  | nil => intro e he; cases he
  | cons a _ ih =>
    intro e he
    rcases List.mem_cons.mp he with rfl | he
    · have q := h _ (List.mem_cons_self ..)
      rcases a with rfl | rfl
      · exact q
      · exact q.symm
    · exact ih (fun x hx => h x (List.mem_cons_of_mem _ hx)) e he
/-- roads that were handed: what repr tells of them -/
theorem hand_show {K : PySem.W.Frag} {H : Hp} {Z : Addr → Prop} {y : V} {es : List (Str × Str)} (h : HandV K H Z y es) (g : ∀ e ∈ es, nameOk e.1 = true ∧ nameOk e.2 = true) (l : es.length ≤ 59) :
    ∃ (b : Addr) (d : PyData), y = .ref b ∧ d.showable = true ∧ d.hasDict = false ∧ d.depth ≤ 60 ∧ d.shown.length ≤ sizeLine ∧ ∀ H', Same (wo Z H) H' → Dp K H' y d := by
  obtain ⟨es', t, vs, sv, _, pr⟩ := h
  have les : es'.length = es.length := t.length
  obtain ⟨ds, g2, l2, dp⟩ := pairs_show pr (turned_names t g)
  obtain ⟨d, sd, dd⟩ := seq_show (m := 59) sv ⟨ds, g2, by omega, dp⟩
  obtain ⟨b, rfl, _⟩ := sv
  refine ⟨b, d, rfl, sd.sh, PyData.hasDict_of_canLay d sd.lay, Nat.le_trans sd.dep (by decide), ?_, dd⟩
  refine PyData.shown_fits_of_layable0 (B := 8) (by decide) (by decide) ?_ sd.sm
  show (d.canLay0 && decide (d.depth ≤ 64) && decide (d.weight ≤ 2 ^ 20)) = true
  have h1 := sd.dep
  have h2 := sd.wt
  rw [sd.lay, decide_eq_true (by omega), decide_eq_true (by omega)]
  rfl
/-- the place of a road is where it stands -/
theorem plOf_of {rs : List (Str × Str)} (f : Forest rs) {j : Nat} (hj : j < rs.length) : plOf rs rs[j].1 rs[j].2 = some j := by
  have fr := f.fresh hj
  unfold plOf at fr ⊢
  rw [List.findIdx?_eq_some_iff_getElem]
  refine ⟨hj, decide_eq_true (.inl rfl), fun i hi => ?_⟩
  rw [List.findIdx?_eq_none_iff] at fr
  have := fr rs[i] (List.mem_take_iff_getElem.mpr ⟨i, by omega, rfl⟩)
  rw [this]
  exact Bool.false_ne_true
/-- an evening as the law has it: roads, and their places -/
def AtPl (rs : List (Str × Str)) (js : List Nat) (es : List (Str × Str)) : Prop := Paired (fun j e => rs[j]? = some e) js es
theorem hand_roads {K : PySem.W.Frag} {H : Hp} {rs : List (Str × Str)} (f : Forest rs) : ∀ {vs : List V} {es' es : List (Str × Str)} {js : List Nat}, Paired (SeqR (Flat0 K) H) vs (es'.map prV) → Turned es' es → AtPl rs js es → Paired (RoadV H rs) vs js
  | _, [], _, [], .nil, .nil, _ => .nil
  | _, [], _, _ :: _, .nil, .nil, h => by cases h
  | _, e' :: es', e :: es, j :: js, .cons a r, .cons t ts, .cons h hs => by
    refine .cons ?_ (hand_roads f r ts hs)
    obtain ⟨vs, sv, _, pr⟩ := a
    have ev := flat_eq pr
    subst ev
    obtain ⟨hj, rfl⟩ := List.getElem?_eq_some_iff.mp h
    have pl := plOf_of f hj
    rcases t with rfl | rfl
    · exact ⟨_, _, sv, pl⟩
    · exact ⟨_, _, sv, by rw [plOf_swap]; exact pl⟩
theorem hand_ev {K : PySem.W.Frag} {H : Hp} {Z : Addr → Prop} {y : V} {rs es : List (Str × Str)} {js : List Nat} (f : Forest rs) (h : HandV K H Z y es) (at_ : AtPl rs js es) (nd : js.Nodup) (len : js.length = rs.length) : EvV H rs y js := by
  obtain ⟨es', t, vs, sv, l, pr⟩ := h
  have lv : vs.length = (es'.map prV).length := pr.length
  exact ⟨⟨vs, sv.ext wo_out, by rw [lv]; omega, hand_roads f (paired_imp (fun x y q => mon_seq mon_flat0 _ _ _ _ wo_out q) pr) t at_, nd⟩, len⟩
end K1
end
-- NNr2
section
set_option Elab.async false
set_option linter.all false
set_option maxRecDepth 100000
set_option maxHeartbeats 4000000
namespace K1
open PySem PySem.Spec PyProof.Rows L2
abbrev sVn : Stmt := top 57
theorem inV_str {x : Str} : ∀ {xs : List Str}, inV (.str x) (xs.map V.str) = decide (x ∈ xs)
  | [] => rfl
  | y :: ys => by
    unfold inV
    rw [List.map_cons, List.any_cons]
    have ih := inV_str (x := x) (xs := ys)
    unfold inV at ih
    rw [ih]
    by_cases e : y = x
    · subst e
      simp [eqV]
    · have e2 : ¬ x = y := fun z => e z.symm
      simp [eqV, e, e2]
theorem flat_strs {xs : List Str} : (xs.map V.str).all flatV = true := by
  rw [List.all_eq_true]
  intro v hv
  obtain ⟨s, _, rfl⟩ := List.mem_map.mp hv
  rfl
def spVn : Sp := fun vs H Q _ => ∃ (t p1 p2 : Addr) (x3 : V) (qs : List Addr) (ss : List Str) (rs : List (Str × Str)) (s : Str), vs = [.ref t, .str s] ∧ H t = some (.tup [.ref p1, .ref p2, x3]) ∧ H p1 = some (.lst (ss.map V.str)) ∧ H p2 = some (.lst (qs.map V.ref)) ∧ Paired (TupP H) qs rs ∧ ss.length ≤ 1000 ∧ rs.length ≤ 1000 ∧
  ∀ r H', Same H H' → H r = none → H' r = some (.lst ((nbs ss rs s).map V.str)) → Q (.ref r) H'
theorem scVn : FnScope ["valley", "house", "one", "other", "found", "name"] ["valley", "house"] (defScope sVn) := ⟨rfl, rfl, rfl, by decide +kernel, rfl, by decide +kernel, by decide +kernel⟩
/-- the other ends of the roads that begin, or end, at a house -/
def outs (rs : List (Str × Str)) (s : Str) : List Str := (rs.filter fun r => decide (r.1 = s)).map (·.2)
def inns (rs : List (Str × Str)) (s : Str) : List Str := (rs.filter fun r => decide (r.2 = s)).map (·.1)
theorem mem_near {rs : List (Str × Str)} {s t : Str} : decide (t ∈ outs rs s ++ inns rs s) = nbB rs s t := by
  rw [Bool.eq_iff_iff, decide_eq_true_eq, nbB_iff, List.mem_append]
  unfold outs inns
  simp only [List.mem_map, List.mem_filter, decide_eq_true_eq]
  constructor
  · rintro (⟨r, ⟨h, rfl⟩, rfl⟩ | ⟨r, ⟨h, rfl⟩, rfl⟩)
    · exact .inl h
    · exact .inr h
  · rintro (h | h)
    · exact .inl ⟨_, ⟨h, rfl⟩, rfl⟩
    · exact .inr ⟨_, ⟨h, rfl⟩, rfl⟩
theorem outs_succ {rs : List (Str × Str)} {s : Str} {i : Nat} (hi : i < rs.length) : outs (rs.take (i + 1)) s = outs (rs.take i) s ++ if rs[i].1 = s then [rs[i].2] else [] := by
  unfold outs
  rw [List.take_succ, List.getElem?_eq_getElem hi, List.filter_append, List.map_append]
  congr 1
  by_cases c : rs[i].1 = s
  · simp [c]
  · simp [c]
theorem inns_succ {rs : List (Str × Str)} {s : Str} {i : Nat} (hi : i < rs.length) : inns (rs.take (i + 1)) s = inns (rs.take i) s ++ if rs[i].2 = s then [rs[i].1] else [] := by
  unfold inns
  rw [List.take_succ, List.getElem?_eq_getElem hi, List.filter_append, List.map_append]
  congr 1
  by_cases c : rs[i].2 = s
  · simp [c]
  · simp [c]
theorem outs_len {rs : List (Str × Str)} {s : Str} : (outs rs s).length ≤ rs.length := by
  unfold outs
  rw [List.length_map]
  exact List.length_filter_le _ _
theorem inns_len {rs : List (Str × Str)} {s : Str} : (inns rs s).length ≤ rs.length := by
  unfold inns
  rw [List.length_map]
  exact List.length_filter_le _ _
section
variable {P : Program} {w : World} {K : PySem.W.Frag} {mg : Str → Option Value} {base : Heap}
theorem ok_Vn {f : Addr} {fd : FuncData} (F : Fun K "_law_v_near" "_law_v_near" sVn f fd) : FnOk P w K mg base CX0 1 f fd ["valley", "house"] spVn := by
  refine F.ok scVn (fun vs H Q E h => ?_) (fun cdv A outer s H vs Q E hr h => ?_)
  · obtain ⟨t, p1, p2, x3, qs, ss, rs, s, rfl, _⟩ := h
    rfl
  obtain ⟨t, p1, p2, x3, qs, ss, rs, s, rfl, ht, h1, h2, pr, hl, hlr, q⟩ := h
  have nd := scVn.nd
  have lqs : qs.length = rs.length := pr.length
  refine ⟨_, (pss_cons (by exact (ps_set (i := 4) nd rfl (.inr rfl) (pe_op op_cat (pe_lc (own := [("one", 2), ("other", 3)]) (g := gTup K 2 (gCons (gName 2) (gCons (gName 3) gNil))) (tt := _) rfl nd (by exact pi_list (pe_ix ix_tup (pv 0) pe_int (fun _ _ => rfl))) (by exact blkOk_by (N := ["valley", "house", "one", "other", "found", "name"]) (sc := defScope sVn) (by decide +kernel)) (fun _ _ _ _ _ => by exact (pg_tup rfl (pgs_cons (pg_name (i := 2) nd rfl (.inl rfl)) (pgs_cons (pg_name (i := 3) nd rfl (.inl rfl)) pgs_nil)))) (fun _ _ _ _ _ => by exact (pts_one (pt_cmpR op_eq (pv 2) (pv 1) (nomark _)))) (fun _ _ _ _ _ => by exact (pv 3))) (pe_lc (own := [("one", 2), ("other", 3)]) (g := gTup K 2 (gCons (gName 2) (gCons (gName 3) gNil))) (tt := _) rfl nd (by exact pi_list (pe_ix ix_tup (pv 0) pe_int (fun _ _ => rfl))) (by exact blkOk_by (N := ["valley", "house", "one", "other", "found", "name"]) (sc := defScope sVn) (by decide +kernel)) (fun _ _ _ _ _ => by exact (pg_tup rfl (pgs_cons (pg_name (i := 2) nd rfl (.inl rfl)) (pgs_cons (pg_name (i := 3) nd rfl (.inl rfl)) pgs_nil)))) (fun _ _ _ _ _ => by exact (pts_one (pt_cmpR op_eq (pv 3) (pv 1) (nomark _)))) (fun _ _ _ _ _ => by exact (pv 2))))))
  (pss_one (by exact (ps_ret (pe_lc (own := [("name", 5)]) (g := gName 5) (tt := tB (tOp (rIn K false) (tVar 5) (tVar 4))) rfl nd (by exact pi_list (pe_ix ix_tup (pv 0) pe_int (fun _ _ => rfl))) (by exact blkOk_by (N := ["valley", "house", "one", "other", "found", "name"]) (sc := defScope sVn) (by decide +kernel)) (fun _ _ _ _ _ => by exact (pg_name (i := 5) nd rfl (.inl rfl))) (fun _ _ _ _ _ => by exact (pts_one (pt_cmpR op_in_seq (pv 5) (pv 4) (by with_unfolding_all rfl)))) (fun _ _ _ _ _ => by exact (pv 5))))))), ?_⟩
  have m1 : atI [V.ref p1, V.ref p2, x3] 1 = some (.ref p2) := rfl
  have m0 : atI [V.ref p1, V.ref p2, x3] 0 = some (.ref p1) := rfl
  refine ⟨_, rfl, t, _, _, _, rfl, rfl, SqT.of ht, m1, p2, rfl, ⟨_, SqL.of h2⟩, fun L1 hL1 => ?_⟩
  refine lc_it walk_list (fun i Hd => Same H Hd ∧ Hd L1 = some (.lst ((outs (rs.take i) s).map V.str))) ⟨K1.Same.upd hL1, upd_same⟩ (fun i Hd _ hh => SqL.of (hh.1 _ _ h2)) ?_ ?_
  · rintro i y Hd H' hi ⟨k1, k2⟩ ⟨rfl, hy⟩
    rw [List.length_map, lqs] at hi
    obtain ⟨q', rfl, tq⟩ := paired_ref pr hi hy
    have ll : (outs (rs.take i) s).length ≤ 1000 := Nat.le_trans outs_len (Nat.le_trans (List.length_take_le _ _) (by omega))
    refine ⟨q', _, rfl, SqT.of (k1 _ _ tq), rfl, _, _, rfl, _, _, rfl, rfl, rfl, ?_⟩
    refine ⟨_, rfl, _, rfl, rfl, _, rfl, ?_⟩
    by_cases c : rs[i].1 = s
    · rw [c, decide_eq_true rfl]
      refine iteT ⟨_, rfl, _, k2, by rw [List.length_map]; exact small1000 ll, same_upd k1 hL1, by rw [upd_same, outs_succ hi, if_pos c, List.map_append]; rfl⟩
    · rw [decide_eq_false fun z => c (V.str.inj z)]
      exact iteF ⟨k1, by rw [outs_succ hi, if_neg c, List.append_nil]; exact k2⟩
  rintro H1 ⟨e1, g1⟩
  rw [List.length_map, lqs, List.take_length] at g1
  refine ⟨_, rfl, t, _, _, _, rfl, rfl, SqT.of (e1 _ _ ht), m1, p2, rfl, ⟨_, SqL.of (e1 _ _ h2)⟩, fun L2 hL2 => ?_⟩
  have hL20 : H L2 = none := e1.free hL2
  have L12 : L1 ≠ L2 := fun z => by rw [← z, g1] at hL2; cases hL2
  refine lc_it walk_list (fun i Hd => Same H Hd ∧ Hd L1 = some (.lst ((outs rs s).map V.str)) ∧ Hd L2 = some (.lst ((inns (rs.take i) s).map V.str))) ⟨same_upd e1 hL20, by rw [upd_ne L12]; exact g1, upd_same⟩ (fun i Hd _ hh => SqL.of (hh.1 _ _ h2)) ?_ ?_
  · rintro i y Hd H' hi ⟨k1, kL, k2⟩ ⟨rfl, hy⟩
    rw [List.length_map, lqs] at hi
    obtain ⟨q', rfl, tq⟩ := paired_ref pr hi hy
    have ll : (inns (rs.take i) s).length ≤ 1000 := Nat.le_trans inns_len (Nat.le_trans (List.length_take_le _ _) (by omega))
    refine ⟨q', _, rfl, SqT.of (k1 _ _ tq), rfl, _, _, rfl, _, _, rfl, rfl, rfl, ?_⟩
    refine ⟨_, rfl, _, rfl, rfl, _, rfl, ?_⟩
    by_cases c : rs[i].2 = s
    · rw [c, decide_eq_true rfl]
      refine iteT ⟨_, rfl, _, k2, by rw [List.length_map]; exact small1000 ll, same_upd k1 hL20, by rw [upd_ne L12]; exact kL, by rw [upd_same, inns_succ hi, if_pos c, List.map_append]; rfl⟩
    · rw [decide_eq_false fun z => c (V.str.inj z)]
      exact iteF ⟨k1, kL, by rw [inns_succ hi, if_neg c, List.append_nil]; exact k2⟩
  rintro H2 ⟨e2, g1, g2⟩
  rw [List.length_map, lqs, List.take_length] at g2
  have lo := outs_len (rs := rs) (s := s)
  have li := inns_len (rs := rs) (s := s)
  refine ⟨L1, L2, _, _, rfl, rfl, g1, g2, by rw [List.length_map, List.length_map]; exact Nat.le_trans (Nat.add_le_add lo li) (by show _ ≤ 2 ^ 24; omega), fun L3 hL3 => ?_⟩
  have e3 := same_upd (o := .lst ((outs rs s).map V.str ++ (inns rs s).map V.str)) e2 (e2.free hL3)
  have g3 : upd H2 L3 (.lst ((outs rs s).map V.str ++ (inns rs s).map V.str)) L3 = some (.lst ((outs rs s ++ inns rs s).map V.str)) := by rw [upd_same, List.map_append]
  generalize upd H2 L3 (.lst ((outs rs s).map V.str ++ (inns rs s).map V.str)) = H3 at e3 g3 ⊢
  refine gN ?_
  refine ⟨_, rfl, t, _, _, _, rfl, rfl, SqT.of (e3 _ _ ht), m0, p1, rfl, ⟨_, SqL.of (e3 _ _ h1)⟩, fun L4 hL4 => ?_⟩
  have hL40 : H L4 = none := e3.free hL4
  have L34 : L3 ≠ L4 := fun z => by rw [← z, g3] at hL4; cases hL4
  refine lc_it walk_list (fun i Hd => Same H Hd ∧ Hd L3 = some (.lst ((outs rs s ++ inns rs s).map V.str)) ∧ Hd L4 = some (.lst (((ss.take i).filter fun z => nbB rs s z).map V.str))) ⟨same_upd e3 hL40, by rw [upd_ne L34]; exact g3, upd_same⟩ (fun i Hd _ hh => SqL.of (hh.1 _ _ h1)) ?_ ?_
  · rintro j y Hd H' hj ⟨k1, k3, k2⟩ ⟨rfl, hy⟩
    rw [List.length_map] at hj
    rw [List.getElem?_map, List.getElem?_eq_getElem hj] at hy
    obtain rfl := Option.some.inj hy
    refine ⟨rfl, ?_⟩
    refine ⟨_, rfl, _, rfl, L3, _, rfl, .inl (SqL.of k3), rfl, flat_strs, _, rfl, ?_⟩
    have tk : (ss.take (j + 1)).filter (fun z => nbB rs s z) = (ss.take j).filter (fun z => nbB rs s z) ++ if nbB rs s ss[j] = true then [ss[j]] else [] := by
      rw [List.take_succ, List.getElem?_eq_getElem hj, List.filter_append]
      congr 1
      by_cases c : nbB rs s ss[j] = true
      · simp [c]
      · simp [c]
    have ll : ((ss.take j).filter fun z => nbB rs s z).length ≤ 1000 := Nat.le_trans (List.length_filter_le _ _) (Nat.le_trans (List.length_take_le _ _) (by omega))
    show if inV (V.str ss[j]) ((outs rs s ++ inns rs s).map V.str) = true then _ else _
    rw [inV_str, mem_near]
    refine ite2 (fun c => ?_) (fun c => ?_)
    · exact ⟨_, rfl, _, k2, by rw [List.length_map]; exact small1000 ll, same_upd k1 hL40, by rw [upd_ne L34]; exact k3, by rw [upd_same, tk, if_pos c, List.map_append]; rfl⟩
    · exact ⟨k1, k3, by rw [tk, if_neg c, List.append_nil]; exact k2⟩
  · rintro Hd ⟨k1, _, k2⟩
    rw [List.length_map, List.take_length] at k2
    exact q L4 Hd k1 hL40 k2
end
end K1
end
-- WUpd
section
set_option Elab.async false
set_option linter.all false
set_option maxRecDepth 100000
set_option maxHeartbeats 4000000
/-! d.update(l), l a list of pairs (k, v) whose keys are ints or texts -/
namespace Wu
open PySem PySem.Spec PyProof.Rows L2
section
variable {X : Cx}
theorem pairs2_of {pins : List (Addr × Obj)} {σ : L2.St} {H : Hp} {s : Shared} (I : Inv X pins σ H s) : ∀ {ps : List Addr} {kvs : List (Key × V)}, Paired (fun p kv => SqT X.K H p [kV kv.1, kv.2]) ps kvs →
    ∃ (prs : List (Key × Value)) (zs : List (Value × Value)), KV kvs prs ∧ prs.length = ps.length ∧ zs.length = ps.length ∧ ∀ (j : Nat) (z : Value × Value), zs[j]? = some z → ∃ b q, ps[j]? = some b ∧ prs[j]? = some q ∧ q.2 = z.2 ∧ IsTup s.heap b #[z.1, z.2] ∧ keyIs q.1 z.1 = true
  | _, _, .nil => ⟨[], [], .nil, rfl, rfl, fun j q e => by simp at e⟩
  | _, _, .cons (a := p) (b := kv) h t => by
    obtain ⟨prs, zs, r, hl, hz, hp⟩ := pairs2_of I t
    obtain ⟨its, rv, ht, _⟩ := I.tuple h
    obtain ⟨u, y, rfl, ru, ry⟩ := vals2 rv
    refine ⟨(kv.1, y) :: prs, (u, y) :: zs, .cons ⟨rfl, ry⟩ r, by rw [List.length_cons, List.length_cons, hl], by rw [List.length_cons, List.length_cons, hz], fun j z e => ?_⟩
    cases j with
    | zero =>
      obtain rfl := Option.some.inj e
      exact ⟨p, (kv.1, y), rfl, rfl, rfl, ht, kV_is (P := X.prog) (w := X.w) ru⟩
    | succ j => exact hp j z e
/-- later pairs win -/
def rUpdP (K : PySem.W.Frag) : V → List V → Hp → VK → Prop := fun x xs H Q => ∃ (d a : Addr) (ps : List Addr) (old kvs : List (Key × V)), x = .ref d ∧ xs = [.ref a] ∧ H d = some (.dK old) ∧ SqL K H a (ps.map V.ref) ∧ Paired (fun p kv => SqT K H p [kV kv.1, kv.2]) ps kvs ∧
  old.length + kvs.length ≤ 100000 ∧ Q .non (upd H d (.dK (mergeK old kvs)))
theorem mt_updP (hcalm : X.calm = true) : MtR X "dict.update" (rUpdP X.K) := by
  rintro pins s σ H x xs v us Q I rx r ⟨d, a, ps, old, kvs, rfl, rfl, hd, hq, hp, hl, q⟩
  obtain ⟨u1, rfl, r1⟩ := vals1 r
  cases rx
  cases r1
  obtain ⟨z1, s1, vs, rel, d1⟩ := dk_of I.hok hd
  obtain ⟨its, rv, pl, hz⟩ := I.list hq
  have ei := refs_at rv
  subst ei
  rw [List.length_map] at hz
  obtain ⟨prs, zs, rel2, hl2, hz2, hpr⟩ := pairs2_of I hp
  obtain ⟨o, n, ho, hc, hdn, hdat⟩ := pl
  have lv : vs.length = old.length := rel.length.symm
  have lp : prs.length = kvs.length := rel2.length.symm
  obtain ⟨od, esd, epd, hod, hdd, rest⟩ := id d1
  have items : PairItems s.heap (ps.map Value.ref).toArray (fun j => ps.getD j 0) zs := by
    refine ⟨by simp [hz2], fun j k v e => ?_⟩
    obtain ⟨b, q0, e1, e2, e3, e4, e5⟩ := hpr j (k, v) e
    have eb : ps.getD j 0 = b := by rw [List.getD_eq_getElem?_getD, e1]; rfl
    show _ = some (Value.ref (ps.getD j 0)) ∧ PairAt s.heap (ps.getD j 0) k v
    rw [eb]
    exact ⟨by simp [e1], .inl e4⟩
  have dict_ne : ∀ {b : Addr} {t : String} {ob : Obj}, s.heap.get? b = some ob → ob.cls = .type t → t ≠ "dict" → d ≠ b := fun {b t ob} e1 e2 ne z => by
    rw [← z] at e1
    obtain ⟨o2, h2, h3⟩ := d1.typeIs
    have : ob = o2 := Option.some.inj (e1.symm.trans h2)
    rw [this, h3] at e2
    injection e2 with e2
    exact ne e2.symm
  refine call_update_pairs (knd := mixKind X.prog X.w) (acc := vs) (kvs := prs) (PairArg.list a (ps.map Value.ref).toArray (fun j => ps.getD j 0) zs) (I.ok.hd hcalm) ⟨⟨o, n, ho, hc, hdn, hdat⟩, items⟩ ?_ ⟨by rw [hl2, hz2], fun i key v h => ?_⟩ d1 ?_ fun h' tk e1 e2 => ?_
  · intro z
    rcases List.mem_cons.mp z with z | z
    · exact dict_ne ho hc (by decide) z
    · obtain ⟨j, hj, z⟩ := List.mem_map.mp z
      rw [List.mem_range] at hj
      obtain ⟨o3, h3, c3⟩ := (items.2 j zs[j].1 zs[j].2 (List.getElem?_eq_getElem hj)).2.there
      exact c3.elim (fun c3 => dict_ne h3 c3 (by decide) z.symm) fun c3 => dict_ne h3 c3 (by decide) z.symm
  · obtain ⟨b, q0, g1, g2, g3, g4, g5⟩ := hpr i (key, v) h
    refine ⟨q0.1, ?_, g5⟩
    have g3' : q0.2 = v := g3
    rw [g2, ← g3']
  · rw [lv, hz2, ← hl2, lp]
    exact Nat.le_trans hl (by decide)
  · have he : ∃ o, h'.get? d = some o := let ⟨o, _, _, ho, _⟩ := e1; ⟨o, ho⟩
    have hln : (mergeK old kvs).length ≤ sizeLine := Nat.le_trans (length_mergeK kvs old) (Nat.le_trans hl (by decide))
    exact ⟨.non, _, I.write (x := d) (e := d) (by rw [hd]; exact True.intro) (.inl rfl) (fun b u nb z => e2 b u nb (by simp) z) he (dk_new hln s1 (KV.merge rel2 rel) e1), rfl, q⟩
end
end Wu
end
-- EWay
section
set_option Elab.async false
set_option linter.all false
set_option maxRecDepth 100000
set_option maxHeartbeats 2000000
namespace K1
open PySem PySem.Spec PyProof.Rows L2 W0
abbrev sVw : Stmt := top 61
def spVw : Sp := fun vs H Q _ => ∃ (t p1 p2 : Addr) (x3 : V) (qs : List Addr) (ss : List Str) (rs : List (Str × Str)) (s u : Str), vs = [.ref t, .str s, .str u] ∧ H t = some (.tup [.ref p1, .ref p2, x3]) ∧ H p1 = some (.lst (ss.map V.str)) ∧ H p2 = some (.lst (qs.map V.ref)) ∧ Paired (TupP H) qs rs ∧ Tree ss rs ∧ ss.length ≤ 500 ∧ s ∈ ss ∧ u ∈ ss ∧
  ∀ r l H', Same H H' → H r = none → Pt rs u l s → H' r = some (.lst (l.map V.str).reverse) → Q (.ref r) H'
theorem scVw : FnScope ["valley", "one", "other", "ahead", "waiting", "here", "name", "more", "row"] ["valley", "one", "other"] (defScope sVw) := ⟨rfl, rfl, rfl, by decide +kernel, rfl, by decide +kernel, by decide +kernel⟩
theorem SeaN.first {ss : List Str} {rs : List (Str × Str)} {o : Str} {done wt : List Str} {h : Str} {kvs : List (Key × V)} (S : SeaN ss rs o done (h :: wt) kvs) : SeaN ss rs o (done ++ [h]) wt kvs := by
  have e : done ++ h :: wt = done ++ [h] ++ wt := by simp
  exact ⟨e ▸ S.nd, e ▸ S.ins, e ▸ S.keys, e ▸ S.len, e ▸ S.st, e ▸ S.path⟩
/-- all that are new beside a house -/
theorem SeaN.adds {ss : List Str} {rs : List (Str × Str)} {o : Str} {done : List Str} {h : Str} (he : EndsIn ss rs) : ∀ {ts wt : List Str} {kvs : List (Key × V)}, SeaN ss rs o done wt kvs → h ∈ done ++ wt → ts.Nodup → (∀ t ∈ ts, nbB rs h t = true ∧ t ∉ done ++ wt) →
    SeaN ss rs o done (wt ++ ts) (mergeK kvs (ts.map fun t => ((Sum.inr t : Key), V.str h)))
  | [], wt, kvs, S, _, _, _ => by rw [List.append_nil]; exact S
  | t :: ts, wt, kvs, S, hh, nd, q => by
    have n := List.nodup_cons.mp nd
    have S1 := S.add hh he (q t (List.mem_cons_self ..)).1 (q t (List.mem_cons_self ..)).2
    have S2 := SeaN.adds he (ts := ts) S1 (by rw [← List.append_assoc]; exact List.mem_append_left _ hh) n.2 fun x hx => by
      have := q x (List.mem_cons_of_mem _ hx)
      refine ⟨this.1, fun z => ?_⟩
      rw [← List.append_assoc] at z
      rcases List.mem_append.mp z with z | z
      · exact this.2 z
      · exact n.1 (by rw [← List.mem_singleton.mp z]; exact hx)
    rw [show wt ++ t :: ts = wt ++ [t] ++ ts by simp]
    exact S2
theorem paired_maps {α β γ : Type} {R : α → γ → Prop} {g : β → γ} : ∀ {xs : List α} {ys : List β}, Paired (fun x y => R x (g y)) xs ys → Paired R xs (ys.map g)
  | _, _, .nil => .nil
  | _, _, .cons a r => .cons a (paired_maps r)
section
variable {P : Program} {w : World} {K : PySem.W.Frag} {mg : Str → Option Value} {base : Heap} {fN : Addr} {fdN : FuncData}
theorem ok_Vw {f : Addr} {fd : FuncData} (F : Fun K "_law_v_way" "_law_v_way" sVw f fd) (B : Bl mg) (GN : FnOk P w K mg base CX0 1 fN fdN ["valley", "house"] spVn) (bN : Binds K fdN ["valley", "house"] []) (kN : PySem.W.keepIn K (.ref fN) = true) (mN : mg "_law_v_near" = some (.ref fN)) :
    FnOk P w K mg base CX0 2 f fd ["valley", "one", "other"] spVw := by
  refine F.ok scVw (fun vs H Q E h => ?_) (fun cdv A outer s0 H vs Q E hr h => ?_)
  · obtain ⟨t, p1, p2, x3, qs, ss, rs, s, u, rfl, _⟩ := h
    rfl
  obtain ⟨t, p1, p2, x3, qs, ss, rs, s, u, rfl, ht, h1, h2, pr, tr, lss, hs, hu', q⟩ := h
  have nd := scVw.nd
  have hu := hu_of hr
  refine ⟨_, (pss_cons (by exact (ps_asg (pe_tup (pa_cons (pe_callTy (call_dictP rfl) rfl B.dict PyProof.Rows.boot_dict (pa_cons (pe_lst (pa_cons (pe_tup (pa_cons (pv 1) (pa_cons pe_non pa_nil))) pa_nil)) pa_nil)) (pa_cons (pe_lst (pa_cons (pv 1) pa_nil)) pa_nil))) (pg_tup rfl (pgs_cons (pg_name (i := 3) nd rfl (.inr rfl)) (pgs_cons (pg_name (i := 4) nd rfl (.inl rfl)) pgs_nil)))))
  (pss_cons (by exact (ps_while PassesOwn.never (pt_cmp (pc_dnotin hu (pv 2) (pv 3)) (by with_unfolding_all rfl)) (pss_cons (by exact (ps_set (i := 5) nd rfl (.inr rfl) (pe_bm PySem.F.plainAttrs_list PySem.F.slot_list_pop PySem.F.type_list_pop mt_popAt (pv 4) (pa_cons pe_int pa_nil))))
  (pss_cons (by exact (ps_setLc (i := 7) (own := [("name", 6)]) (g := gName 6) (tt := tTest (tDNotIn (tVar 6) (tVar 3))) (te := tVar 6) rfl nd rfl rfl (sw_true rfl rfl rfl (by decide +kernel)) (by exact pi_list (pe_call GN hr rfl mN kN bN .nil pass0 (pa_cons (pv 0) (pa_cons (pv 5) pa_nil)))) (by exact blkOk_by (N := ["valley", "one", "other", "ahead", "waiting", "here", "name", "more", "row"]) (sc := defScope sVw) (by decide +kernel)) (fun _ _ _ _ _ => by exact (pg_name (i := 6) nd rfl (.inl rfl))) (fun _ _ _ _ _ => by exact (pts_one (pt_cmp (pc_dnotin hu (pv 6) (pv 3)) (by with_unfolding_all rfl)))) (fun _ _ _ _ _ => by exact (pv 6))))
  (pss_cons (by exact (ps_expr (pe_bm PySem.F.plainAttrs_dict PySem.F.slot_dict_update PySem.F.type_dict_update (Wu.mt_updP rfl) (pv 3) (pa_cons (pe_lc (own := [("name", 6)]) (g := gName 6) (tt := tYes) (te := tTup (tCons (tVar 6) (tCons (tVar 5) tNil))) rfl nd (by exact pi_list (pv 7)) (by exact blkOk_by (N := ["valley", "one", "other", "ahead", "waiting", "here", "name", "more", "row"]) (sc := defScope sVw) (by decide +kernel)) (fun _ _ _ _ _ => by exact (pg_name (i := 6) nd rfl (.inl rfl))) (fun _ _ _ _ _ => by exact pts_nil) (fun _ _ _ _ _ => by exact (pe_tup (pa_cons (pv 6) (pa_cons (pv 5) pa_nil))))) pa_nil))))
  (pss_one (by exact (ps_expr (pe_bm PySem.F.plainAttrs_list PySem.F.slot_list_extend PySem.F.type_list_extend mt_extend (pv 4) (pa_cons (pv 7) pa_nil))))))))))
  (pss_cons (by exact (ps_set (i := 8) nd rfl (.inl rfl) (pe_lst (pa_cons (pv 2) pa_nil))))
  (pss_cons (by exact (ps_while PassesOwn.never (pt_cmpR op_ne (pe_ix ix_list (pv 8) (pe_un un_neg pe_int) (fun _ _ => rfl)) (pv 1) (nomark _)) (pss_one (by exact (ps_expr (pe_bm PySem.F.plainAttrs_list PySem.F.slot_list_append PySem.F.type_list_append mt_append (pv 8) (pa_cons (pe_dget hu (pv 3) (pe_ix ix_list (pv 8) (pe_un un_neg pe_int) (fun _ _ => rfl)) (fun _ _ => rfl)) pa_nil)))))))
  (pss_one (by exact (ps_ret (pe_revL (pv 8))))))))), ?_⟩
  refine ⟨_, rfl, (by show 2 ≤ sizeLine; decide), fun T0 hT0 => ?_⟩
  have e1 := K1.Same.upd (H := H) (p := T0) (o := .tup [.str s, .non]) hT0
  have gT0 := upd_same' H T0 (.tup [.str s, .non])
  generalize L2.upd H T0 (.tup [.str s, .non]) = H1 at e1 gT0 ⊢
  refine ⟨(by show 1 ≤ sizeLine; decide), fun l0 hl0 => ?_⟩
  have e2 := K1.Same.upd (H := H1) (p := l0) (o := .lst [.ref T0]) hl0
  have gl0 := upd_same' H1 l0 (.lst [.ref T0])
  generalize L2.upd H1 l0 (.lst [.ref T0]) = H2 at e2 gl0 ⊢
  refine ⟨l0, [T0], [(.inr s, .non)], rfl, SqL.of gl0, .cons (SqT.of (e2 _ _ gT0)) .nil, fun D hD => ?_⟩
  have e3 := K1.Same.upd (H := H2) (p := D) (o := .dK (mergeK [] [(.inr s, .non)])) hD
  have gD : L2.upd H2 D (.dK (mergeK [] [(Sum.inr s, V.non)])) D = some (.dK [(.inr s, .non)]) := upd_same
  generalize L2.upd H2 D (.dK (mergeK [] [(Sum.inr s, V.non)])) = H3 at e3 gD ⊢
  refine ⟨_, rfl, (by show 1 ≤ sizeLine; decide), fun W hW => ?_⟩
  have e4 := K1.Same.upd (H := H3) (p := W) (o := .lst [.str s]) hW
  have gW := upd_same' H3 W (.lst [.str s])
  generalize L2.upd H3 W (.lst [.str s]) = H4 at e4 gW ⊢
  have gD4 := e4 _ _ gD
  have WD : W ≠ D := fun z => by rw [z, gD] at hW; cases hW
  refine ⟨(by show 2 ≤ sizeLine; decide), fun T1 hT1 => ?_⟩
  have e5 := K1.Same.upd (H := H4) (p := T1) (o := .tup [.ref D, .ref W]) hT1
  have gT1 := upd_same' H4 T1 (.tup [.ref D, .ref W])
  generalize L2.upd H4 T1 (.tup [.ref D, .ref W]) = H5 at e5 gT1 ⊢
  refine ⟨T1, _, rfl, SqT.of gT1, rfl, _, _, rfl, _, _, rfl, rfl, ?_⟩
  have e123 := e1.trans (e2.trans e3)
  have eH5 : Same H H5 := e123.trans (e4.trans e5)
  have hD0 : H D = none := (e1.trans e2).free hD
  have hW0 : H W = none := e123.free hW
  have gD5 := e5 _ _ gD4
  have gW5 := e5 _ _ gW
  with_reducible refine sQ ?_
  refine while_gh (fun m σ Hc => (∃ a b c, σ = [some (.ref t), some (.str s), some (.str u), some (.ref D), some (.ref W), a, b, c, none]) ∧ Same H Hc ∧ ∃ done wt kvs, Hc D = some (.dK kvs) ∧ Hc W = some (.lst (wt.map V.str)) ∧ SeaN ss rs s done wt kvs ∧ (∀ x ∈ done, Clo rs (done ++ wt) x) ∧ m = ss.length - done.length) ss.length
    ⟨⟨_, _, _, rfl⟩, eH5, [], [s], _, gD5, gW5, SeaN.init hs, fun x hx => absurd hx (by simp), by simp⟩ ?_ ?_
  · rintro m σ Hc ⟨⟨ya, yb, yc, rfl⟩, k1, done, wt, kvs, g1, g2, S, C1, rfl⟩
    refine ⟨_, rfl, _, rfl, D, _, rfl, DGet.k (k := .inr u) g1, _, rfl, ?_⟩
    rw [S.keys]
    by_cases hin : u ∈ done ++ wt
    · rw [decide_eq_true hin]
      refine iteF ?_
      obtain ⟨l0', p0, _, _⟩ := S.path u hin
      refine ⟨_, rfl, (by show 1 ≤ sizeLine; decide), fun R hR => ?_⟩
      have k6 := K1.Same.upd (H := Hc) (p := R) (o := .lst [.str u]) hR
      have gR := upd_same' Hc R (.lst [.str u])
      have gD6 := k6 _ _ g1
      have kH6 := k1.trans k6
      have hR0 : H R = none := k1.free hR
      have RD : R ≠ D := fun z => by rw [z, g1] at hR; cases hR
      generalize L2.upd Hc R (.lst [.str u]) = H6 at k6 gR gD6 kH6 ⊢
      obtain ⟨r0, rfl⟩ := p0.head
      refine K1.gN ?_
      with_reducible refine sQ ?_
      refine while_gh (fun m σ Hd => (∃ a b c, σ = [some (.ref t), some (.str s), some (.str u), some (.ref D), some (.ref W), a, b, c, some (.ref R)]) ∧ Same H Hd ∧ Hd D = some (.dK kvs) ∧ ∃ pre cur r, Hd R = some (.lst ((pre ++ [cur]).map V.str)) ∧ cur ∈ done ++ wt ∧ Pt rs cur (cur :: r) s ∧ Pt rs u (pre ++ cur :: r) s ∧ m = r.length) r0.length
        ⟨⟨_, _, _, rfl⟩, kH6, gD6, [], u, r0, gR, hin, p0, p0, rfl⟩ ?_ ?_
      · rintro m σ Hd ⟨⟨a, b, c, rfl⟩, m1, m2, pre, cur, r, m3, m4, m5, m6, rfl⟩
        have al : atI ((pre ++ [cur]).map V.str) (-1) = some (.str cur) := by rw [List.map_append]; exact atI_last _ _
        refine ⟨_, rfl, _, rfl, R, _, _, _, rfl, rfl, SqL.of m3, al, _, rfl, rfl, _, rfl, ?_⟩
        by_cases e : cur = s
        · subst e
          rw [decide_eq_true rfl]
          have er := m5.here tr.cut
          subst er
          refine iteF ⟨_, rfl, R, _, rfl, SqL.of m3, fun z hz => ?_⟩
          exact q z _ _ (ps_same_upd m1 (m1.free hz)) (m1.free hz) m6 upd_same
        · have ne : (!decide (V.str cur = V.str s)) = true := by rw [decide_eq_false (fun z => e (V.str.inj z))]; rfl
          rw [ne]
          obtain ⟨l2, n1, n2, n3⟩ := S.path cur m4
          obtain ⟨w2, r2, rfl, n4⟩ := n3 e
          have el := m5.uniq tr.cut n1
          injection el with _ el
          subst el
          have dg := DGet.k (k := .inr cur) m2
          rw [n4] at dg
          have ln2 : (pre ++ [cur]).length ≤ 1000 := by
            have := nodup_len m6.nd (m6.mem tr.ends hs)
            rw [List.length_append] at this ⊢
            simp only [List.length_cons, List.length_nil] at this ⊢
            omega
          refine iteT ⟨_, rfl, .inl ⟨rfl, _, SqL.of m3⟩, _, rfl, _, rfl, _, rfl, R, _, _, _, rfl, rfl, SqL.of m3, al, D, _, rfl, dg, R, _, _, rfl, rfl, m3, by rw [List.length_map]; exact small1000 ln2, ?_⟩
          exact ⟨r2.length, Nat.lt_succ_self _, ⟨_, _, _, rfl⟩, ps_same_upd m1 hR0, by rw [upd_ne RD.symm]; exact m2, pre ++ [cur], w2, r2, by rw [upd_same, List.map_append (l₂ := [w2])]; rfl, n2 w2 (by simp), m5.tl, by rw [List.append_assoc]; exact m6, rfl⟩
      · rintro σ Hc Q1 Q2 hq ⟨v1, h1, v2, h2, p, xs, i, y, a, b, c, d, v4, h4, k5, b5, h5, z⟩
        exact ⟨v1, h1, v2, h2, p, xs, i, y, a, b, c, d, v4, h4, k5, b5, h5, hq _ _ z⟩
    · rw [decide_eq_false hin]
      refine iteT ?_
      cases wt with
      | nil =>
        exfalso
        rw [List.append_nil] at C1 hin
        refine hin (tr.all (S := fun z => z ∈ done) (fun e he => ?_) hs hu' (by have := S.st; rw [List.append_nil] at this; exact this))
        have q1 : nbB rs e.1 e.2 = true := nbB_iff.mpr (.inl he)
        exact ⟨fun h => C1 _ h _ q1, fun h => C1 _ h _ (by rw [nbB_swap]; exact q1)⟩
      | cons h wt =>
        have lt1 : done.length < ss.length := by
          have := S.le
          rw [List.length_append, List.length_cons] at this
          omega
        refine ⟨_, rfl, .inl ⟨rfl, _, SqL.of g2⟩, W, _, 0, 0, .str h, rfl, rfl, g2, by decide, by decide, ?_, rfl, ?_⟩
        · unfold seqIndex?
          simp
        have dl : ((h :: wt).map V.str).eraseIdx 0 = wt.map V.str := rfl
        rw [dl]
        have S1 := S.first
        have k2 : Same H (L2.upd Hc W (.lst (wt.map V.str))) := fun b o n => by rw [upd_ne (ne_of_none n hW0)]; exact k1 b o n
        have gD2 : L2.upd Hc W (.lst (wt.map V.str)) D = some (.dK kvs) := by rw [upd_ne WD.symm]; exact g1
        have gW2 : L2.upd Hc W (.lst (wt.map V.str)) W = some (.lst (wt.map V.str)) := upd_same
        generalize L2.upd Hc W (.lst (wt.map V.str)) = Hd at k2 gD2 gW2 ⊢
        have hss : h ∈ ss := S1.ins h (by simp)
        refine K1.gN ?_
        with_reducible refine sQ ?_
        unfold tAsg
        refine ⟨_, rfl, _, rfl, t, p1, p2, x3, qs, ss, rs, h, rfl, k2 _ _ ht, k2 _ _ h1, k2 _ _ h2, TupP.ext pr k2, by omega, by have := tr.len; omega, fun r He e6 nr gr => ?_⟩
        refine ⟨r, rfl, ⟨_, SqL.of gr⟩, fun D2 hD2 => ?_⟩
        have hD2' : Hd D2 = none := e6.free hD2
        have lnb : (nbs ss rs h).length ≤ 500 := Nat.le_trans (List.length_filter_le _ _) lss
        have lm : ((nbs ss rs h).map V.str).length = (nbs ss rs h).length := List.length_map ..
        have gDe := e6 _ _ gD2
        refine lc_it (Qd := _) walk_list (fun i Hf => Same He Hf ∧ Hf D2 = some (.lst ((((nbs ss rs h).take i).filter fun z => !decide (z ∈ done ++ [h] ++ wt)).map V.str))) ⟨K1.Same.upd hD2, upd_same⟩ (fun i Hf _ h => SqL.of (h.1 _ _ gr)) ?_ ?_
        · rintro i v Hf H' hi ⟨c1, c2⟩ ⟨rfl, hv⟩
          rw [lm] at hi
          have ev : v = .str (nbs ss rs h)[i] := by
            rw [List.getElem?_map, List.getElem?_eq_getElem hi] at hv
            exact (Option.some.inj hv).symm
          subst ev
          refine ⟨rfl, _, rfl, _, rfl, D, _, rfl, DGet.k (k := .inr (nbs ss rs h)[i]) (c1 _ _ gDe), _, rfl, ?_⟩
          rw [S1.keys]
          have us := take_filter_succ (f := fun z => !decide (z ∈ done ++ [h] ++ wt)) hi
          have ll : (((nbs ss rs h).take i).filter fun z => !decide (z ∈ done ++ [h] ++ wt)).length ≤ 1000 := Nat.le_trans (List.length_filter_le _ _) (by rw [List.length_take]; omega)
          refine ite2 (fun y => ?_) (fun y => ?_)
          · rw [if_pos y] at us
            refine ⟨_, rfl, _, c2, by rw [List.length_map]; exact small1000 ll, ps_same_upd c1 hD2, ?_⟩
            rw [upd_same, us, List.map_append]
            rfl
          · rw [if_neg y] at us
            refine ⟨c1, ?_⟩
            rw [us, c2]
            simp
        · rintro Hf ⟨c1, c2⟩
          rw [lm, List.take_length] at c2
          generalize hts : ((nbs ss rs h).filter fun z => !decide (z ∈ done ++ [h] ++ wt)) = ts at c2
          have tsm : ∀ x ∈ ts, nbB rs h x = true ∧ x ∉ done ++ [h] ++ wt := fun x hx => by
            rw [← hts, List.mem_filter] at hx
            exact ⟨(mem_nbs tr.ends).mp hx.1, fun z => by rw [decide_eq_true z] at hx; exact absurd hx.2 (by simp)⟩
          have tsd : ts.Nodup := by
            rw [← hts]
            exact List.Pairwise.filter _ (List.Pairwise.filter _ tr.nd)
          have lts : ts.length ≤ 500 := by rw [← hts]; exact Nat.le_trans (List.length_filter_le _ _) lnb
          have kH : Same H Hf := k2.trans (e6.trans c1)
          have gDf := c1 _ _ gDe
          have gWf := c1 _ _ (e6 _ _ gW2)
          refine K1.gN ?_
          with_reducible refine sQ ?_
          refine ⟨_, rfl, .inr (.inr (.inl ⟨rfl, .inl ⟨_, gDf⟩⟩)), ?_⟩
          refine cons_run ?_
          refine ⟨_, rfl, D2, rfl, ⟨_, SqL.of c2⟩, fun D3 hD3 => ?_⟩
          have ltm : (ts.map V.str).length = ts.length := List.length_map ..
          refine lc_it (Qd := _) walk_list (fun i Hg => Same Hf Hg ∧ ∃ ps : List Addr, Hg D3 = some (.lst (ps.map V.ref)) ∧ ps.length = i ∧ Paired (fun (p : Addr) (x : Str) => Hg p = some (.tup [.str x, .str h])) ps (ts.take i)) ⟨K1.Same.upd hD3, [], upd_same, rfl, .nil⟩ (fun i Hg _ h => SqL.of (h.1 _ _ c2)) ?_ ?_
          · rintro i v Hg H' hi ⟨d1, ps, d2, d3, d4⟩ ⟨rfl, hv⟩
            rw [ltm] at hi
            have ev : v = .str ts[i] := by
              rw [List.getElem?_map, List.getElem?_eq_getElem hi] at hv
              exact (Option.some.inj hv).symm
            subst ev
            refine ⟨rfl, ?_⟩
            unfold tYes
            refine iteT ⟨_, rfl, _, rfl, (by show 2 ≤ sizeLine; decide), fun T hT => ?_⟩
            have TD : T ≠ D3 := fun z => by rw [z, d2] at hT; cases hT
            have eT := K1.Same.upd (H := H') (p := T) (o := .tup [.str ts[i], .str h]) hT
            have gT := upd_same' H' T (.tup [.str ts[i], .str h])
            generalize L2.upd H' T (.tup [.str ts[i], .str h]) = H'' at eT gT ⊢
            have d2' := eT _ _ d2
            have sm : Same H' (L2.upd H'' D3 (.lst (ps.map V.ref ++ [.ref T]))) ∨ True := .inr trivial
            refine ⟨_, d2', by rw [List.length_map, d3]; exact small1000 (by omega), ps_same_upd (d1.trans eT) hD3, ps ++ [T], by rw [upd_same, List.map_append]; rfl, by rw [List.length_append, d3]; rfl, ?_⟩
            rw [take_snoc hi]
            have off : ∀ (p : Addr) (x : Str), H' p = some (.tup [.str x, .str h]) → L2.upd H'' D3 (.lst (ps.map V.ref ++ [.ref T])) p = some (.tup [.str x, .str h]) := fun p x e => by
              rw [upd_ne fun z => by rw [z, d2] at e; cases e]
              exact eT _ _ e
            exact paired_snoc (paired_imp off d4) (by rw [upd_ne TD]; exact gT)
          · rintro Hg ⟨d1, ps, d2, d3, d4⟩
            rw [ltm, List.take_length] at d4
            have gDg := d1 _ _ gDf
            have gWg := d1 _ _ gWf
            have g2g := d1 _ _ c2
            have kvl := S1.len
            have le1 := S1.le
            have S2 := S1.adds tr.ends (by simp) tsd tsm
            have le2 := S2.le
            refine ⟨D, D3, ps, kvs, ts.map fun x => ((Sum.inr x : Key), V.str h), rfl, rfl, gDg, SqL.of d2, paired_maps (paired_imp (fun p x e => SqT.of e) d4), by rw [List.length_map]; omega, ?_⟩
            have n2D : D2 ≠ D := fun z => by rw [z, gDf] at c2; cases c2
            have n2W : D2 ≠ W := fun z => by rw [z, gW2] at hD2'; cases hD2'
            have gW3 : L2.upd Hg D (.dK (mergeK kvs (ts.map fun x => ((Sum.inr x : Key), V.str h)))) W = some (.lst (wt.map V.str)) := by rw [upd_ne WD]; exact gWg
            have g23 : L2.upd Hg D (.dK (mergeK kvs (ts.map fun x => ((Sum.inr x : Key), V.str h)))) D2 = some (.lst (ts.map V.str)) := by rw [upd_ne n2D]; exact g2g
            have gD3 : L2.upd Hg D (.dK (mergeK kvs (ts.map fun x => ((Sum.inr x : Key), V.str h)))) D = some (.dK (mergeK kvs (ts.map fun x => ((Sum.inr x : Key), V.str h)))) := upd_same
            have k3 : Same H (L2.upd Hg D (.dK (mergeK kvs (ts.map fun x => ((Sum.inr x : Key), V.str h))))) := ps_same_upd (kH.trans d1) hD0
            generalize L2.upd Hg D (.dK (mergeK kvs (ts.map fun x => ((Sum.inr x : Key), V.str h)))) = Hh at gW3 g23 gD3 k3 ⊢
            refine ⟨_, rfl, .inl ⟨rfl, _, SqL.of gW3⟩, _, rfl, W, D2, _, _, rfl, rfl, gW3, g23, by rw [List.length_map, List.length_map]; rw [List.length_append] at le1; exact Nat.le_of_lt (small1000 (by omega)), ?_⟩
            refine ⟨ss.length - (done ++ [h]).length, by rw [List.length_append, List.length_singleton]; omega, ⟨_, _, _, rfl⟩, ps_same_upd k3 hW0, done ++ [h], wt ++ ts, _, by rw [upd_ne WD.symm]; exact gD3, by rw [upd_same, List.map_append], S2, fun x hx z hz => ?_, rfl⟩
            rcases List.mem_append.mp hx with hx | hx
            · have := C1 x hx z hz
              simp only [List.mem_append, List.mem_cons, List.not_mem_nil, or_false] at this ⊢
              rcases this with a | a | a
              · exact .inl (.inl a)
              · exact .inl (.inr a)
              · exact .inr (.inl a)
            · rw [List.mem_singleton.mp hx] at hz
              by_cases zz : z ∈ done ++ [h] ++ wt
              · simp only [List.mem_append] at zz ⊢
                rcases zz with zz | zz
                · exact .inl zz
                · exact .inr (.inl zz)
              · have : z ∈ ts := by
                  rw [← hts, List.mem_filter]
                  exact ⟨(mem_nbs tr.ends).mpr hz, by rw [decide_eq_false zz]; rfl⟩
                exact List.mem_append_right _ (List.mem_append_right _ this)
  · rintro σ Hc Q1 Q2 hq ⟨v1, h1, v2, h2, a, o, e1, dg, b, e2, z⟩
    exact ⟨v1, h1, v2, h2, a, o, e1, dg, b, e2, hq _ _ z⟩
end
end K1
end
-- ENc
section
set_option Elab.async false
set_option linter.all false
set_option maxRecDepth 100000
set_option maxHeartbeats 2000000
namespace K1
open PySem PySem.Spec PyProof.Rows L2 W0
abbrev sNc : Stmt := top 62
theorem merge_new : ∀ {ps : List (Key × V)} {acc : List (Key × V)}, (∀ p ∈ ps, valV acc p.1 = none) → (ps.map (·.1)).Nodup → mergeK acc ps = acc ++ ps
  | [], acc, _, _ => by
    show acc = acc ++ []
    rw [List.append_nil]
  | p :: ps, acc, h1, h2 => by
    rw [List.map_cons, List.nodup_cons] at h2
    have h0 := h1 p (List.mem_cons_self ..)
    show mergeK (putK acc p.1 p.2) ps = _
    rw [putK_new _ h0, merge_new (fun q hq => ?_) h2.2, List.append_assoc]
    · rfl
    · rw [valV_snoc _ _ _ _ h0, if_neg (fun z => h2.1 (by rw [← z]; exact List.mem_map.mpr ⟨q, hq, rfl⟩))]
      exact h1 q (List.mem_cons_of_mem _ hq)
def allTo (ts : List Str) (x : V) : List (Key × V) := ts.map fun s => ((.inr s : Key), x)
theorem merge_same {ts : List Str} {x : V} : ∀ {kvs : List (Key × V)} {u : Str}, valV (mergeK kvs (allTo ts x)) (.inr u) = if u ∈ ts then some x else valV kvs (.inr u) := by
  induction ts with
  | nil =>
    intro kvs u
    rw [if_neg (by simp)]
    rfl
  | cons s r ih =>
    intro kvs u
    show valV (mergeK (putK kvs (.inr s) x) (allTo r x)) (.inr u) = _
    rw [ih, valV_put, ite_rr]
    by_cases h : u ∈ r
    · rw [if_pos h, if_pos (List.mem_cons_of_mem _ h)]
    · rw [if_neg h]
      by_cases e : u = s
      · rw [if_pos e, if_pos (by rw [e]; exact List.mem_cons_self ..)]
      · rw [if_neg e, if_neg (fun z => (List.mem_cons.mp z).elim e h)]
theorem merge_len {ts : List Str} {x : V} : ∀ {kvs : List (Key × V)}, (∀ s ∈ ts, (valV kvs (.inr s)).isSome = true) → (mergeK kvs (allTo ts x)).length = kvs.length := by
  induction ts with
  | nil => intro kvs _; rfl
  | cons s r ih =>
    intro kvs h
    show (mergeK (putK kvs (.inr s) x) (allTo r x)).length = _
    rw [ih fun u hu => ?_, putK_len (h s (List.mem_cons_self ..))]
    rw [valV_put]
    split
    · rfl
    · exact h u (List.mem_cons_of_mem _ hu)
theorem allTo_new {ts : List Str} {x : V} (nd : ts.Nodup) : mergeK [] (allTo ts x) = allTo ts x := by
  rw [merge_new (fun p _ => rfl), List.nil_append]
  unfold allTo
  rw [List.map_map]
  exact List.Pairwise.map _ (fun a b (h : a ≠ b) z => h (Sum.inr.inj z)) nd
theorem valV_keys {kvs : List (Key × V)} {ss : List Str} (h : kvs.map (·.1) = ss.map Sum.inr) {s : Str} (hs : s ∈ ss) : ∃ v, valV kvs (.inr s) = some v ∧ ((.inr s : Key), v) ∈ kvs := by
  have hk : (Sum.inr s : Key) ∈ kvs.map (·.1) := by rw [h]; exact List.mem_map.mpr ⟨s, hs, rfl⟩
  obtain ⟨p, hp, ep⟩ := List.mem_map.mp hk
  have ha : (kvs.any fun kv => decide (kv.1 = Sum.inr s)) = true := List.any_eq_true.mpr ⟨p, hp, decide_eq_true ep⟩
  rw [valV_any] at ha
  obtain ⟨v, hv⟩ := Option.isSome_iff_exists.mp ha
  refine ⟨v, hv, ?_⟩
  unfold valV at hv
  obtain ⟨q, hq, eq⟩ := Option.map_eq_some_iff.mp hv
  have m := List.mem_of_find?_eq_some hq
  have e0 := List.find?_some hq
  have e1 : q.1 = Sum.inr s := of_decide_eq_true e0
  rw [← e1, ← eq]
  exact m
theorem str_at {ss : List Str} {i : Nat} {x : V} (e : (ss.map V.str)[i]? = some x) : ∃ h : i < ss.length, x = .str ss[i] := by
  rw [List.getElem?_map] at e
  rcases Nat.lt_or_ge i ss.length with hi | hi
  · rw [List.getElem?_eq_getElem hi] at e
    exact ⟨hi, (Option.some.inj e).symm⟩
  · rw [List.getElem?_eq_none hi] at e
    cases e
theorem snoc_paired {α β : Type} {F G : α → β → Prop} {a : α} {b : β} (h : G a b) : ∀ {xs : List α} {ys : List β}, Paired F xs ys → (∀ x y, x ∈ xs → F x y → G x y) → Paired G (xs ++ [a]) (ys ++ [b])
  | _, _, .nil, _ => .cons h .nil
  | _, _, .cons f r, k => .cons (k _ _ (List.mem_cons_self ..) f) (snoc_paired h r fun x y hx => k x y (List.mem_cons_of_mem _ hx))
/-- the lots, by their first houses -/
def lotsOf (ss : List Str) (es : List (Str × Str)) : List (List Str) := (ss.filter fun s => decide ((comp ss es s).head? = some s)).map (comp ss es)
theorem comp_head {ss : List Str} {es : List (Str × Str)} (nd : ss.Nodup) {i : Nat} (hi : i < ss.length) : (comp ss es ss[i]).head? = some ss[i] ↔ ∀ (k : Nat) (hk : k < i), rtOf es (ss[k]'(by omega)) ≠ rtOf es ss[i] := by
  have e : ss = ss.take i ++ ss[i] :: ss.drop (i + 1) := by rw [List.getElem_cons_drop, List.take_append_drop]
  have ec : comp ss es ss[i] = ((ss.take i).filter fun t => decide (rtOf es t = rtOf es ss[i])) ++ ss[i] :: ((ss.drop (i + 1)).filter fun t => decide (rtOf es t = rtOf es ss[i])) := by
    have : comp ss es ss[i] = (ss.take i ++ ss[i] :: ss.drop (i + 1)).filter fun t => decide (rtOf es t = rtOf es ss[i]) := by rw [← e]; rfl
    rw [this, List.filter_append, List.filter_cons, if_pos (decide_eq_true rfl)]
  rw [ec]
  constructor
  · intro h k hk z
    have hm : ss[k] ∈ (ss.take i).filter fun t => decide (rtOf es t = rtOf es ss[i]) := List.mem_filter.mpr ⟨List.mem_take_iff_getElem.mpr ⟨k, by omega, rfl⟩, decide_eq_true z⟩
    cases hf : (ss.take i).filter (fun t => decide (rtOf es t = rtOf es ss[i])) with
    | nil => rw [hf] at hm; cases hm
    | cons a r =>
      rw [hf] at h
      have ea : a = ss[i] := Option.some.inj h
      have ha : a ∈ (ss.take i).filter fun t => decide (rtOf es t = rtOf es ss[i]) := by rw [hf]; exact List.mem_cons_self ..
      obtain ⟨j, hj, ej⟩ := List.mem_take_iff_getElem.mp (List.mem_filter.mp ha).1
      have := (List.getElem_inj nd).mp (ej.trans ea)
      omega
  · intro h
    have : (ss.take i).filter (fun t => decide (rtOf es t = rtOf es ss[i])) = [] := List.filter_eq_nil_iff.mpr fun x hx => by
      obtain ⟨j, hj, rfl⟩ := List.mem_take_iff_getElem.mp hx
      rw [decide_eq_true_eq]
      exact h j (by omega)
    rw [this]
    rfl
/-- the dict of lots: lists of just the houses that are joined -/
def LotsD (Hc : Hp) (D : Addr) (ss : List Str) (es : List (Str × Str)) : Prop := ∃ kvs : List (Key × V), Hc D = some (.dK kvs) ∧ kvs.length = ss.length ∧ ∀ s ∈ ss, ∃ (d : Addr) (l : List Str), valV kvs (.inr s) = some (.ref d) ∧ Hc d = some (.lst (l.map V.str)) ∧ l.Nodup ∧ ∀ u, u ∈ l ↔ u ∈ comp ss es s
def spNc : Sp := fun vs H Q _ => ∃ (t p c : Addr) (x2 x3 : V) (ss : List Str) (cq : List Addr) (es : List (Str × Str)) (m : Nat), vs = [.ref t, .ref c, .int (m : Int)] ∧ H t = some (.tup [.ref p, x2, x3]) ∧ H p = some (.lst (ss.map V.str)) ∧ H c = some (.lst (cq.map V.ref)) ∧ Paired (TupP H) cq es ∧
  ss.Nodup ∧ ss.length ≤ 60 ∧ EndsIn ss es ∧ Forest (es.drop m) ∧ es.length ≤ 60 ∧
  ∀ (r : Addr) (ls : List Addr) (H' : Hp), Same H H' → H r = none → H' r = some (.lst (ls.map V.ref)) → Paired (fun (l : Addr) (xs : List Str) => H l = none ∧ H' l = some (.lst (xs.map V.str))) ls (lotsOf ss (es.drop m)) → Q (.ref r) H'
theorem scNc : FnScope ["valley", "closing", "many", "name", "lots", "one", "other", "both", "found", "met", "known"] ["valley", "closing", "many"] (defScope sNc) := ⟨rfl, rfl, rfl, by decide +kernel, rfl, by decide +kernel, by decide +kernel⟩
theorem paired_drop {α β : Type} {R : α → β → Prop} : ∀ (m : Nat) {xs : List α} {ys : List β}, Paired R xs ys → Paired R (xs.drop m) (ys.drop m)
  | 0, _, _, h => h
  | _ + 1, _, _, .nil => .nil
  | m + 1, _, _, .cons _ r => paired_drop m r
section
variable {P : Program} {w : World} {K : PySem.W.Frag} {mg : Str → Option Value} {base : Heap}
theorem ok_Nc {f : Addr} {fd : FuncData} (F : Fun K "_law_n_closed" "_law_n_closed" sNc f fd) (B : Bl mg) : FnOk P w K mg base CX0 1 f fd ["valley", "closing", "many"] spNc := by
  refine F.ok scNc (fun vs H Q E h => ?_) (fun cdv A outer s0 H vs Q E hr h => ?_)
  · obtain ⟨t, p, c, x2, x3, ss, cq, es, m, rfl, _⟩ := h
    rfl
  obtain ⟨t, p, c, x2, x3, ss, cq, es, m, rfl, ht, hp, hc, pr, nds, ls, ends, forest, lr, q⟩ := h
  have nd := scNc.nd
  have hu := hu_of hr
  refine ⟨_, (pss_cons (by exact (ps_set (i := 4) nd rfl (.inl rfl) (pe_callTy (call_dictP rfl) rfl B.dict PyProof.Rows.boot_dict (pa_cons (pe_lc (own := [("name", 3)]) (g := gName 3) (tt := tYes) (te := tTup (tCons (tVar 3) (tCons (tLst (tCons (tVar 3) tNil)) tNil))) rfl nd (by exact pi_list (pe_ix ix_tup (pv 0) pe_int (fun _ _ => rfl))) (by exact blkOk_by (N := ["valley", "closing", "many", "name", "lots", "one", "other", "both", "found", "met", "known"]) (sc := defScope sNc) (by decide +kernel)) (fun _ _ _ _ _ => by exact (pg_name (i := 3) nd rfl (.inl rfl))) (fun _ _ _ _ _ => by exact pts_nil) (fun _ _ _ _ _ => by exact (pe_tup (pa_cons (pv 3) (pa_cons (pe_lst (pa_cons (pv 3) pa_nil)) pa_nil))))) pa_nil))))
  (pss_cons (by exact (ps_for PassesOwn.never rfl (by exact pi_list (pe_slice sl_list (pv 1) (po_some (pv 2)) po_none)) (pg_tup rfl (pgs_cons (pg_name (i := 5) nd rfl (.inl rfl)) (pgs_cons (pg_name (i := 6) nd rfl (.inl rfl)) pgs_nil))) (pss_cons (by exact (ps_set (i := 7) nd rfl (.inr rfl) (pe_op op_cat (pe_dget hu (pv 4) (pv 5) (fun _ _ => rfl)) (pe_dget hu (pv 4) (pv 6) (fun _ _ => rfl)))))
  (pss_one (by exact (ps_expr (pe_bm PySem.F.plainAttrs_dict PySem.F.slot_dict_update PySem.F.type_dict_update (Wu.mt_updP rfl) (pv 4) (pa_cons (pe_lc (own := [("name", 3)]) (g := gName 3) (tt := tYes) (te := tTup (tCons (tVar 3) (tCons (tVar 7) tNil))) rfl nd (by exact pi_list (pv 7)) (by exact blkOk_by (N := ["valley", "closing", "many", "name", "lots", "one", "other", "both", "found", "met", "known"]) (sc := defScope sNc) (by decide +kernel)) (fun _ _ _ _ _ => by exact (pg_name (i := 3) nd rfl (.inl rfl))) (fun _ _ _ _ _ => by exact pts_nil) (fun _ _ _ _ _ => by exact (pe_tup (pa_cons (pv 3) (pa_cons (pv 7) pa_nil))))) pa_nil))))))))
  (pss_cons (by exact (ps_par (i := 8) (j := 9) rfl nd rfl rfl (by decide) rfl rfl (pa_cons (pe_lst pa_nil) (pa_cons pe_dnewK pa_nil)) (by rfl)))
  (pss_cons (by exact (ps_for PassesOwn.never rfl (by exact pi_list (pe_ix ix_tup (pv 0) pe_int (fun _ _ => rfl))) (pg_name (i := 3) nd rfl (.inl rfl)) (pss_one (by exact (ps_if (pt_cmp (pc_dnotin hu (pv 3) (pv 9)) (by with_unfolding_all rfl)) (pss_cons (by exact (ps_set (i := 10) nd rfl (.inr rfl) (pe_callTy (call_dictP rfl) rfl B.dict PyProof.Rows.boot_dict (pa_cons (pe_lc (own := [("one", 5)]) (g := gName 5) (tt := tYes) (te := tTup (tCons (tVar 5) (tCons (tC (.bl true)) tNil))) rfl nd (by exact pi_list (pe_dget hu (pv 4) (pv 3) (fun _ _ => rfl))) (by exact blkOk_by (N := ["valley", "closing", "many", "name", "lots", "one", "other", "both", "found", "met", "known"]) (sc := defScope sNc) (by decide +kernel)) (fun _ _ _ _ _ => by exact (pg_name (i := 5) nd rfl (.inl rfl))) (fun _ _ _ _ _ => by exact pts_nil) (fun _ _ _ _ _ => by exact (pe_tup (pa_cons (pv 5) (pa_cons pe_bl pa_nil))))) pa_nil))))
  (pss_cons (by exact (ps_expr (pe_bm PySem.F.plainAttrs_dict PySem.F.slot_dict_update PySem.F.type_dict_update mt_updK (pv 9) (pa_cons (pv 10) pa_nil))))
  (pss_one (by exact (ps_expr (pe_bm PySem.F.plainAttrs_list PySem.F.slot_list_append PySem.F.type_list_append mt_append (pv 8) (pa_cons (pe_lc (own := [("one", 5)]) (g := gName 5) (tt := tTest (tDIn (tVar 5) (tVar 10))) (te := tVar 5) rfl nd (by exact pi_list (pe_ix ix_tup (pv 0) pe_int (fun _ _ => rfl))) (by exact blkOk_by (N := ["valley", "closing", "many", "name", "lots", "one", "other", "both", "found", "met", "known"]) (sc := defScope sNc) (by decide +kernel)) (fun _ _ _ _ _ => by exact (pg_name (i := 5) nd rfl (.inl rfl))) (fun _ _ _ _ _ => by exact (pts_one (pt_cmp (pc_din hu (pv 5) (pv 10)) (by with_unfolding_all rfl)))) (fun _ _ _ _ _ => by exact (pv 5))) pa_nil))))))) pss_nil)))))
  (pss_one (by exact (ps_ret (pv 8)))))))), ?_⟩
  have i0 : atI [V.ref p, x2, x3] 0 = some (.ref p) := rfl
  have lqs : cq.length = es.length := pr.length
  -- the dict of lots, at first
  refine ⟨_, rfl, t, _, _, _, rfl, rfl, SqT.of ht, i0, p, rfl, ⟨_, SqL.of hp⟩, fun D0 hD0 => ?_⟩
  refine lc_it (Qd := _) walk_list (fun i Hc => Same H Hc ∧ ∃ (ts : List Addr) (kvs : List (Key × V)), Hc D0 = some (.lst (ts.map V.ref)) ∧ Paired (fun t kv => Hc t = some (.tup [kV kv.1, kv.2])) ts kvs ∧ kvs.map (·.1) = (ss.take i).map Sum.inr ∧ ∀ kv ∈ kvs, ∃ s d, kv = ((.inr s : Key), V.ref d) ∧ Hc d = some (.lst [.str s]) ∧ d ≠ D0)
    ⟨K1.Same.upd hD0, [], [], upd_same, .nil, rfl, fun kv hkv => absurd hkv (by simp)⟩ (fun i Hc _ h => SqL.of (h.1 _ _ hp)) ?_ ?_
  · rintro i x Hc H' hi ⟨f1, ts, kvs, f2, f3, f4, f5⟩ ⟨rfl, hx⟩
    obtain ⟨hi', rfl⟩ := str_at hx
    refine ⟨rfl, ?_⟩
    unfold tYes
    refine iteT ?_
    refine ⟨_, rfl, _, rfl, (by show 1 ≤ sizeLine; decide), fun l hl => ⟨(by show 2 ≤ sizeLine; decide), fun u hu' => ?_⟩⟩
    have lD : l ≠ D0 := fun z => by rw [z, f2] at hl; cases hl
    have ul : u ≠ l := fun z => by rw [z, upd_same] at hu'; cases hu'
    have uD : u ≠ D0 := fun z => by rw [z, upd_ne lD.symm, f2] at hu'; cases hu'
    have lt : ts.length ≤ i := by
      have := f3.length
      have l2 : kvs.length = (ss.take i).length := by have := congrArg List.length f4; simpa using this
      rw [this, l2]
      exact List.length_take_le _ _
    refine ⟨ts.map V.ref, by rw [upd_ne uD.symm, upd_ne lD.symm]; exact f2, by rw [List.length_map]; exact small1000 (by omega), ?_⟩
    have kd : Kept D0 H' (L2.upd (L2.upd (L2.upd H' l (.lst [.str ss[i]])) u (.tup [.str ss[i], .ref l])) D0 (.lst (ts.map V.ref ++ [.ref u]))) := (Kept.new hl).trans ((Kept.new hu').trans Kept.upd)
    refine ⟨fun b o n => kd b o (ne_of_none n hD0) (f1 b o n), ts ++ [u], kvs ++ [((.inr ss[i] : Key), V.ref l)], by rw [upd_same, List.map_append]; rfl, snoc_paired (by show L2.upd _ _ _ u = _; rw [upd_ne uD, upd_same]; rfl) f3 (fun y kv _ ey => kd _ _ (fun z => by rw [z, f2] at ey; cases ey) ey), ?_, fun kv hkv => ?_⟩
    · rw [List.map_append, f4, List.take_add_one, List.getElem?_eq_getElem hi', List.map_append]
      rfl
    · rcases List.mem_append.mp hkv with hkv | hkv
      · obtain ⟨s', d, e1, e2, e3⟩ := f5 kv hkv
        exact ⟨s', d, e1, kd _ _ e3 e2, e3⟩
      · rw [List.mem_singleton.mp hkv]
        exact ⟨ss[i], l, rfl, by rw [upd_ne lD, upd_ne ul.symm, upd_same], lD⟩
  rintro H1 ⟨e1, ts0, kvs0, f2, f3, f4, f5⟩
  rw [List.length_map, List.take_length] at f4
  refine ⟨D0, ts0, kvs0, rfl, SqL.of f2, paired_imp (fun _ _ h => SqT.of h) f3, fun D hD => ?_⟩
  have mk : mergeK [] kvs0 = kvs0 := by
    rw [merge_new (fun p _ => rfl), List.nil_append]
    rw [f4]
    exact List.Pairwise.map _ (fun a b (h : a ≠ b) z => h (Sum.inr.inj z)) nds
  rw [mk]
  have s1 : Same H1 (L2.upd H1 D (.dK kvs0)) := K1.Same.upd hD
  have hD1 : L2.upd H1 D (.dK kvs0) D = some (.dK kvs0) := upd_same
  generalize L2.upd H1 D (.dK kvs0) = H2 at s1 hD1 ⊢
  have e12 : Same H H2 := e1.trans s1
  have DH : H D = none := e1.free hD
  have lots0 : LotsD H2 D ss [] := by
    refine ⟨kvs0, hD1, by have := congrArg List.length f4; simpa using this, fun s hs => ?_⟩
    obtain ⟨v, hv, hm⟩ := valV_keys f4 hs
    obtain ⟨s', d, ee, hd, _⟩ := f5 _ hm
    have e3 : (Sum.inr s : Key) = .inr s' := congrArg Prod.fst ee
    have e4 : v = V.ref d := congrArg Prod.snd ee
    have e5 : s = s' := Sum.inr.inj e3
    subst e5 e4
    refine ⟨d, [s], hv, s1 _ _ hd, by simp, fun u => ?_⟩
    rw [comp_nil nds hs]
  refine K1.gN ?_
  with_reducible refine sQ ?_
  -- the roads
  refine ⟨_, rfl, _, rfl, (m : Int), rfl, c, _, rfl, SqL.of (e12 _ _ hc), fun C hC => ?_⟩
  have ce : cutV (cq.map V.ref) (some (m : Int)) none = (cq.drop m).map V.ref := (cut_from (cq.map V.ref) m).trans List.map_drop.symm
  rw [ce]
  have s3 := K1.Same.upd (H := H2) (p := C) (o := .lst ((cq.drop m).map V.ref)) hC
  have gC := upd_same' H2 C (.lst ((cq.drop m).map V.ref))
  generalize L2.upd H2 C (.lst ((cq.drop m).map V.ref)) = H3 at s3 gC ⊢
  have CD : C ≠ D := fun z => by rw [z, hD1] at hC; cases hC
  have lots3 : LotsD H3 D ss [] := by
    obtain ⟨kv, a1, a2, a3⟩ := lots0
    exact ⟨kv, s3 _ _ a1, a2, fun s hs => by
      obtain ⟨d, l, b1, b2, b3, b4⟩ := a3 s hs
      exact ⟨d, l, b1, s3 _ _ b2, b3, b4⟩⟩
  have e13 : Same H H3 := e12.trans s3
  have prd : Paired (TupP H) (cq.drop m) (es.drop m) := paired_drop m pr
  generalize hes : es.drop m = es' at forest q prd
  have lr' : es'.length ≤ 60 := by rw [← hes, List.length_drop]; omega
  have ends' : EndsIn ss es' := fun r hr => ends r (by rw [← hes] at hr; exact List.mem_of_mem_drop hr)
  generalize cq.drop m = cq' at gC prd
  have lq' : cq'.length = es'.length := prd.length
  refine ⟨C, rfl, ⟨_, SqL.of gC⟩, ?_⟩
  refine for_it walk_list (fun i σ Hc => (∃ x1 x2 x3 x4, σ = [some (.ref t), some (.ref c), some (.int (m : Int)), x1, some (.ref D), x2, x3, x4, none, none, none]) ∧ Same H Hc ∧ Hc C = some (.lst (cq'.map V.ref)) ∧ LotsD Hc D ss (es'.take i))
    ⟨⟨_, _, _, _, rfl⟩, e13, gC, lots3⟩ (fun i σ Hc _ h => SqL.of h.2.2.1) ?_ ?_
  · rintro i x σ Hc H' hi ⟨⟨xa, xb, xc, xd, rfl⟩, g1, gC1, g2⟩ ⟨rfl, hx⟩
    rw [List.length_map, lq'] at hi
    obtain ⟨tq, rfl, htq⟩ := paired_ref prd hi hx
    have ee := ends' _ (List.getElem_mem hi)
    obtain ⟨kvs, b1, b2, b3⟩ := g2
    obtain ⟨da, la, a1, a2, a3, a4⟩ := b3 es'[i].1 ee.1
    obtain ⟨db, lb, c1, c2, c3, c4⟩ := b3 es'[i].2 ee.2
    have dg1 := DGet.k (k := .inr es'[i].1) b1
    rw [a1] at dg1
    have dg2 := DGet.k (k := .inr es'[i].2) b1
    rw [c1] at dg2
    have ne := forest i hi
    have nab : (la ++ lb).Nodup := List.nodup_append.mpr ⟨a3, c3, fun u hu v hv z => ne (by
      have h1 := (mem_comp.mp ((a4 u).mp hu)).2
      have h2 := (mem_comp.mp ((c4 v).mp hv)).2
      rw [← h1, ← h2, z])⟩
    have mab : ∀ u, u ∈ la ++ lb ↔ u ∈ comp ss (es'.take i) es'[i].1 ++ comp ss (es'.take i) es'[i].2 := fun u => by rw [List.mem_append, List.mem_append, a4, c4]
    have sub : ∀ u ∈ la ++ lb, u ∈ ss := fun u hu => (List.mem_append.mp hu).elim (fun h => (mem_comp.mp ((a4 u).mp h)).1) fun h => (mem_comp.mp ((c4 u).mp h)).1
    have lab : (la ++ lb).length ≤ ss.length := nodup_len nab sub
    have hq := g1 _ _ htq
    refine ⟨tq, _, rfl, SqT.of hq, rfl, _, _, rfl, _, _, rfl, rfl, ?_⟩
    refine ⟨_, rfl, _, rfl, D, _, rfl, dg1, _, rfl, _, rfl, D, _, rfl, dg2, da, db, _, _, rfl, rfl, a2, c2, ?_, fun M hM => ?_⟩
    · rw [List.length_map, List.length_map]
      rw [List.length_append] at lab
      exact Nat.le_trans (show la.length + lb.length ≤ 1000 by omega) (by decide)
    have sm : Same H' (L2.upd H' M (.lst (la.map V.str ++ lb.map V.str))) := K1.Same.upd hM
    have hm1 : L2.upd H' M (.lst (la.map V.str ++ lb.map V.str)) M = some (.lst ((la ++ lb).map V.str)) := by rw [upd_same, List.map_append]
    generalize L2.upd H' M (.lst (la.map V.str ++ lb.map V.str)) = H4 at sm hm1 ⊢
    have DM : D ≠ M := ne_of_none b1 hM
    refine K1.gN ?_
    have b14 := sm _ _ b1
    refine ⟨_, rfl, .inr (.inr (.inl ⟨rfl, .inl ⟨_, b14⟩⟩)), ?_⟩
    refine cons_run ?_
    refine ⟨_, rfl, M, rfl, ⟨_, SqL.of hm1⟩, fun D1 hD1' => ?_⟩
    refine lc_it (Qd := _) walk_list (fun j Hd => Same H4 Hd ∧ ∃ (us : List Addr), Hd D1 = some (.lst (us.map V.ref)) ∧ Paired (fun t kv => Hd t = some (.tup [kV kv.1, kv.2])) us (allTo ((la ++ lb).take j) (.ref M)))
      ⟨K1.Same.upd hD1', [], upd_same, .nil⟩ (fun j Hd _ h => SqL.of (h.1 _ _ hm1)) ?_ ?_
    · rintro j y Hd H'' hj ⟨k1, us, k2, k3⟩ ⟨rfl, hy⟩
      obtain ⟨hj', rfl⟩ := str_at hy
      refine ⟨rfl, ?_⟩
      unfold tYes
      refine iteT ?_
      refine ⟨_, rfl, _, rfl, (by show 2 ≤ sizeLine; decide), fun u hu' => ?_⟩
      have uD : u ≠ D1 := fun z => by rw [z, k2] at hu'; cases hu'
      have lu : us.length ≤ j := by
        have := k3.length
        unfold allTo at this
        rw [List.length_map, List.length_take] at this
        omega
      have kd : Kept D1 H'' (L2.upd (L2.upd H'' u (.tup [.str (la ++ lb)[j], .ref M])) D1 (.lst (us.map V.ref ++ [.ref u]))) := (Kept.new hu').trans Kept.upd
      refine ⟨us.map V.ref, by rw [upd_ne uD.symm]; exact k2, by rw [List.length_map]; exact small1000 (by omega), fun b o n => kd b o (ne_of_none n hD1') (k1 b o n), us ++ [u], by rw [upd_same, List.map_append]; rfl, ?_⟩
      have ea : allTo ((la ++ lb).take (j + 1)) (.ref M) = allTo ((la ++ lb).take j) (.ref M) ++ [((.inr (la ++ lb)[j] : Key), V.ref M)] := by
        unfold allTo
        rw [List.take_add_one, List.getElem?_eq_getElem hj', List.map_append]
        rfl
      rw [ea]
      exact snoc_paired (by show L2.upd _ _ _ u = _; rw [upd_ne uD, upd_same]; rfl) k3 (fun y kv _ ey => kd _ _ (fun z => by rw [z, k2] at ey; cases ey) ey)
    rintro H5 ⟨e5, us, k2, k3⟩
    rw [List.length_map, List.take_length] at k3
    have lkv : (mergeK kvs (allTo (la ++ lb) (.ref M))).length = kvs.length := merge_len fun u hu => by
      obtain ⟨d, l, z1, _⟩ := b3 u (sub u hu)
      rw [z1]
      rfl
    have lal : (allTo (la ++ lb) (.ref M)).length = (la ++ lb).length := List.length_map _
    have s5 : Same H' H5 := sm.trans e5
    have hD5 := s5 _ _ b1
    have hm5 := e5 _ _ hm1
    refine ⟨D, D1, us, kvs, _, rfl, rfl, hD5, SqL.of k2, paired_imp (fun _ _ h => SqT.of h) k3, by omega, ?_⟩
    have k6 : Kept D H5 (L2.upd H5 D (.dK (mergeK kvs (allTo (la ++ lb) (.ref M))))) := Kept.upd
    have hD6 : L2.upd H5 D (.dK (mergeK kvs (allTo (la ++ lb) (.ref M)))) D = some (.dK (mergeK kvs (allTo (la ++ lb) (.ref M)))) := upd_same
    have dD : ∀ {d : Addr} {l : List V}, H5 d = some (.lst l) → d ≠ D := fun {d l} h z => by rw [z, hD5] at h; cases h
    refine ⟨⟨_, _, _, _, rfl⟩, fun b o n => k6 b o (ne_of_none n DH) (s5 _ _ (g1 b o n)), k6 _ _ (dD (s5 _ _ gC1)) (s5 _ _ gC1), _, hD6, by rw [lkv]; exact b2, fun s hs => ?_⟩
    rw [merge_same, take_snoc hi]
    have isn := mem_new (ss := ss) (es := es'.take i) (e := es'[i]) hs
    rw [List.mem_filter, decide_eq_true_eq, ← mab] at isn
    by_cases hin : s ∈ la ++ lb
    · rw [if_pos hin, comp_new (isn.mp ⟨hs, hin⟩)]
      refine ⟨M, la ++ lb, rfl, k6 _ _ (dD hm5) hm5, nab, fun u => ?_⟩
      rw [List.mem_filter, decide_eq_true_eq, ← mab]
      exact ⟨fun h => ⟨sub u h, h⟩, fun h => h.2⟩
    · rw [if_neg hin, comp_old fun z => hin (isn.mpr z).2]
      obtain ⟨d, l, z1, z2, z3, z4⟩ := b3 s hs
      exact ⟨d, l, z1, k6 _ _ (dD (s5 _ _ z2)) (s5 _ _ z2), z3, z4⟩
  · rintro σ Hc ⟨⟨xa, xb, xc, xd, rfl⟩, g1, gC1, g2⟩
    rw [List.length_map, lq', List.take_length] at g2
    refine ⟨Nat.zero_le _, fun L hL M hM => ⟨_, _, rfl, ?_⟩⟩
    obtain ⟨kvs, b1, b2, b3⟩ := g2
    have LH : H L = none := g1.free hL
    have t1 := K1.Same.upd (H := Hc) (p := L) (o := .lst []) hL
    have gL := upd_same' Hc L (.lst [])
    generalize L2.upd Hc L (.lst []) = Ha at t1 gL hM ⊢
    have ML : M ≠ L := fun z => by rw [z, gL] at hM; cases hM
    have MH : H M = none := (g1.trans t1).free hM
    have t2 := K1.Same.upd (H := Ha) (p := M) (o := .dK []) hM
    have gM := upd_same' Ha M (.dK [])
    generalize L2.upd Ha M (.dK []) = Hb at t2 gM ⊢
    have gLb := t2 _ _ gL
    have t12 := t1.trans t2
    have e0b := g1.trans t12
    have lk : ∀ s ∈ ss, ∃ (d : Addr) (l : List Str), valV kvs (.inr s) = some (.ref d) ∧ ¬ (d = L ∨ d = M) ∧ Hb d = some (.lst (l.map V.str)) ∧ l.Nodup ∧ ∀ u, u ∈ l ↔ u ∈ comp ss es' s := fun s hs => by
      obtain ⟨d, l, z1, z2, z3, z4⟩ := b3 s hs
      refine ⟨d, l, z1, fun z => ?_, t12 _ _ z2, z3, z4⟩
      rcases z with z | z
      · rw [z, hL] at z2; cases z2
      · have := t1 _ _ z2
        rw [z, hM] at this; cases this
    have gDb := t12 _ _ b1
    have DZ : ¬ (D = L ∨ D = M) := fun z => by
      rcases z with z | z
      · rw [z, hL] at b1; cases b1
      · have := t1 _ _ b1
        rw [z, hM] at this; cases this
    have up : ∀ {Hx : Hp}, Same (wo (fun z => z = L ∨ z = M) Hb) Hx → Same H Hx := fun e b o hb => e _ _ (wo_some.mpr ⟨fun z => z.elim (fun z => by rw [z, LH] at hb; cases hb) (fun z => by rw [z, MH] at hb; cases hb), e0b _ _ hb⟩)
    with_reducible refine sQ ?_
    refine ⟨_, rfl, t, _, _, _, rfl, rfl, SqT.of (e0b _ _ ht), i0, p, rfl, ⟨_, SqL.of (e0b _ _ hp)⟩, ?_⟩
    refine for_it walk_list (fun i σ Hd => (∃ x1 x2 x3 x4 x5, σ = [some (.ref t), some (.ref c), some (.int (m : Int)), x1, some (.ref D), x2, x3, x4, some (.ref L), some (.ref M), x5]) ∧ Same (wo (fun z => z = L ∨ z = M) Hb) Hd ∧ ∃ (as : List Addr) (kvM : List (Key × V)), Hd L = some (.lst (as.map V.ref)) ∧ Hd M = some (.dK kvM) ∧ kvM.length ≤ 60 * i ∧ as.length ≤ i ∧
        (∀ u ∈ ss, (valV kvM (.inr u)).isSome = true ↔ ∃ (k : Nat) (hk : k < ss.length), k < i ∧ rtOf es' ss[k] = rtOf es' u) ∧ Paired (fun (l : Addr) (xs : List Str) => H l = none ∧ ¬ (l = L ∨ l = M) ∧ Hd l = some (.lst (xs.map V.str))) as (((ss.take i).filter fun s => decide ((comp ss es' s).head? = some s)).map (comp ss es')))
      ⟨⟨_, _, _, _, _, rfl⟩, wo_out, [], [], gLb, gM, Nat.zero_le _, Nat.zero_le _, fun u _ => ⟨(fun z => by cases z), fun ⟨k, _, hk, _⟩ => absurd hk (by omega)⟩, .nil⟩ (fun i σ Hd _ h => SqL.of (up h.2.1 _ _ hp)) ?_ ?_
    · rintro i x σ Hd H' hi ⟨⟨x1, x2', x3', x4, x5, rfl⟩, k1, as, kvM, k2, k3, k4, k5, k6, k7⟩ ⟨rfl, hx⟩
      obtain ⟨hi', rfl⟩ := str_at hx
      have hss : ss[i] ∈ ss := List.getElem_mem hi'
      refine K1.gN ?_
      refine ⟨_, rfl, _, rfl, M, _, rfl, DGet.k (k := .inr ss[i]) k3, _, rfl, ?_⟩
      have fst : (valV kvM (.inr ss[i])).isSome = true ↔ ¬ (comp ss es' ss[i]).head? = some ss[i] := by
        rw [k6 _ hss, comp_head nds hi']
        constructor
        · rintro ⟨k, hk, hki, e⟩ h
          exact h k hki e
        · intro h
          by_cases z : ∃ (k : Nat) (hk : k < ss.length), k < i ∧ rtOf es' ss[k] = rtOf es' ss[i]
          · exact z
          · exact absurd (fun k hk e => z ⟨k, by omega, hk, e⟩) h
      have us := take_filter_succ (f := fun s => decide ((comp ss es' s).head? = some s)) hi'
      by_cases hf : (comp ss es' ss[i]).head? = some ss[i]
      · have hn : (valV kvM (.inr ss[i])).isSome = false := Bool.eq_false_iff.mpr fun z => fst.mp z hf
        rw [hn]
        refine iteT ?_
        rw [if_pos (decide_eq_true hf)] at us
        obtain ⟨d, l, v1, dz, gd, ndl, mem⟩ := lk _ hss
        have gdH := k1 _ _ (wo_some.mpr ⟨dz, gd⟩)
        have gDH := k1 _ _ (wo_some.mpr ⟨DZ, gDb⟩)
        have dgl := DGet.k (k := .inr ss[i]) gDH
        rw [v1] at dgl
        have ll : l.length ≤ 60 := Nat.le_trans (nodup_len ndl fun u hu => (mem_comp.mp ((mem u).mp hu)).1) ls
        refine ⟨_, rfl, _, rfl, D, _, rfl, dgl, d, rfl, ⟨_, SqL.of gdH⟩, fun D1 hD1' => ?_⟩
        refine lc_it (Qd := _) walk_list (fun j He => Same H' He ∧ ∃ (us : List Addr), He D1 = some (.lst (us.map V.ref)) ∧ Paired (fun t kv => He t = some (.tup [kV kv.1, kv.2])) us (allTo (l.take j) (.bl true)))
          ⟨K1.Same.upd hD1', [], upd_same, .nil⟩ (fun j He _ h => SqL.of (h.1 _ _ gdH)) ?_ ?_
        · rintro j y He H'' hj ⟨m1, us', m2, m3⟩ ⟨rfl, hy⟩
          obtain ⟨hj', rfl⟩ := str_at hy
          refine ⟨rfl, ?_⟩
          unfold tYes
          refine iteT ?_
          refine ⟨_, rfl, (by show 2 ≤ sizeLine; decide), fun u hu' => ?_⟩
          have uD : u ≠ D1 := fun z => by rw [z, m2] at hu'; cases hu'
          have lu : us'.length ≤ j := by
            have := m3.length
            unfold allTo at this
            rw [List.length_map, List.length_take] at this
            omega
          have kd : Kept D1 H'' (L2.upd (L2.upd H'' u (.tup [.str l[j], .bl true])) D1 (.lst (us'.map V.ref ++ [.ref u]))) := (Kept.new hu').trans Kept.upd
          refine ⟨us'.map V.ref, by rw [upd_ne uD.symm]; exact m2, by rw [List.length_map]; exact small1000 (by omega), fun b o n => kd b o (ne_of_none n hD1') (m1 b o n), us' ++ [u], by rw [upd_same, List.map_append]; rfl, ?_⟩
          have ea : allTo (l.take (j + 1)) (.bl true) = allTo (l.take j) (.bl true) ++ [((.inr l[j] : Key), V.bl true)] := by
            unfold allTo
            rw [List.take_add_one, List.getElem?_eq_getElem hj', List.map_append]
            rfl
          rw [ea]
          exact snoc_paired (by show L2.upd _ _ _ u = _; rw [upd_ne uD, upd_same]; rfl) m3 (fun y kv _ ey => kd _ _ (fun z => by rw [z, m2] at ey; cases ey) ey)
        rintro He ⟨m1, us', m2, m3⟩
        rw [List.length_map, List.take_length] at m3
        refine ⟨D1, us', _, rfl, SqL.of m2, paired_imp (fun _ _ h => SqT.of h) m3, fun N hN => ?_⟩
        rw [allTo_new ndl]
        have sN := K1.Same.upd (H := He) (p := N) (o := .dK (allTo l (.bl true))) hN
        have gN := upd_same' He N (.dK (allTo l (.bl true)))
        generalize L2.upd He N (.dK (allTo l (.bl true))) = Hf at sN gN ⊢
        have kf := m1.trans sN
        have k3f := kf _ _ k3
        have k2f := kf _ _ k2
        have MN : M ≠ N := fun z => by rw [← z, m1 _ _ k3] at hN; cases hN
        have lal : (allTo l (.bl true)).length = l.length := List.length_map _
        refine K1.gN ?_
        with_reducible refine sQ ?_
        refine ⟨_, rfl, .inr (.inr (.inl ⟨rfl, .inl ⟨_, k3f⟩⟩)), _, rfl, M, N, kvM, _, rfl, rfl, MN, k3f, gN, by omega, ?_⟩
        have MLz : M ≠ L := ML
        have k2g : L2.upd Hf M (.dK (mergeK kvM (allTo l (.bl true)))) L = some (.lst (as.map V.ref)) := by rw [upd_ne MLz.symm]; exact k2f
        have gNg : L2.upd Hf M (.dK (mergeK kvM (allTo l (.bl true)))) N = some (.dK (allTo l (.bl true))) := by rw [upd_ne MN.symm]; exact gN
        have k3g : L2.upd Hf M (.dK (mergeK kvM (allTo l (.bl true)))) M = some (.dK (mergeK kvM (allTo l (.bl true)))) := upd_same
        have kg : ∀ b o, ¬ (b = L ∨ b = M) → H' b = some o → L2.upd Hf M (.dK (mergeK kvM (allTo l (.bl true)))) b = some o := fun b o nb hb => by
          rw [upd_ne fun z => nb (.inr z)]
          exact kf _ _ hb
        generalize L2.upd Hf M (.dK (mergeK kvM (allTo l (.bl true)))) = Hg at k2g gNg k3g kg ⊢
        have kgS : Same (wo (fun z => z = L ∨ z = M) Hb) Hg := fun b o hb => kg b o (wo_some.mp hb).1 (k1 _ _ hb)
        have kgH := up kgS
        refine ⟨_, rfl, .inl ⟨rfl, _, SqL.of k2g⟩, ?_⟩
        refine cons_run ?_
        refine ⟨_, rfl, t, _, _, _, rfl, rfl, SqT.of (kgH _ _ ht), i0, p, rfl, ⟨_, SqL.of (kgH _ _ hp)⟩, fun D2 hD2 => ?_⟩
        refine lc_it (Qd := _) walk_list (fun j Hh => Same Hg Hh ∧ Hh D2 = some (.lst (((ss.take j).filter fun u => decide (u ∈ l)).map V.str))) ⟨K1.Same.upd hD2, upd_same⟩ (fun j Hh _ h => SqL.of (h.1 _ _ (kgH _ _ hp))) ?_ ?_
        · rintro j y Hh H'' hj ⟨n1, n2⟩ ⟨rfl, hy⟩
          obtain ⟨hj', rfl⟩ := str_at hy
          refine ⟨rfl, ?_⟩
          have et := take_filter_succ (f := fun u => decide (u ∈ l)) hj'
          have vk : valV (allTo l (.bl true)) (.inr ss[j]) = if ss[j] ∈ l then some (.bl true) else none := by
            have := merge_same (ts := l) (x := .bl true) (kvs := []) (u := ss[j])
            rw [allTo_new ndl] at this
            rw [this]
            rfl
          refine ⟨_, rfl, _, rfl, N, _, rfl, DGet.k (k := .inr ss[j]) (n1 _ _ gNg), _, rfl, ?_⟩
          rw [vk, et]
          by_cases h : ss[j] ∈ l
          · rw [if_pos h, if_pos (decide_eq_true h)]
            refine iteT ⟨_, rfl, _, n2, ?_, ps_same_upd n1 hD2, ?_⟩
            · rw [List.length_map]
              exact small1000 (Nat.le_trans (List.length_filter_le _ _) (by have := List.length_take_le j ss; omega))
            · rw [upd_same, List.map_append]
              rfl
          · rw [if_neg h, if_neg (by rw [decide_eq_true_eq]; exact h), List.append_nil]
            exact iteF ⟨n1, n2⟩
        rintro Hh ⟨n1, n2⟩
        rw [List.length_map, List.take_length] at n2
        have ec : (ss.filter fun u => decide (u ∈ l)) = comp ss es' ss[i] := by
          unfold comp
          refine List.filter_congr fun u hu2 => decide_eq_decide.mpr ?_
          rw [mem, mem_comp]
          exact ⟨fun h => h.2, fun h => ⟨hu2, h⟩⟩
        rw [ec] at n2
        have k2h := n1 _ _ k2g
        have k3h := n1 _ _ k3g
        have D2H : H D2 = none := kgH.free hD2
        have D2Z : ¬ (D2 = L ∨ D2 = M) := fun z => by
          rcases z with z | z
          · rw [z, k2g] at hD2; cases hD2
          · rw [z, k3g] at hD2; cases hD2
        refine ⟨L, _, _, rfl, rfl, k2h, by rw [List.length_map]; exact small1000 (by omega), ⟨_, _, _, _, _, rfl⟩, fun b o hb => ?_, as ++ [D2], _, by rw [upd_same, List.map_append]; rfl, by rw [upd_ne ML]; exact k3h, ?_, by rw [List.length_append]; exact Nat.succ_le_succ k5, fun u hu2 => ?_, ?_⟩
        · rw [upd_ne fun z => (wo_some.mp hb).1 (.inl z)]
          exact n1 _ _ (kgS _ _ hb)
        · have := mergeK_len kvM (allTo l (.bl true))
          omega
        · rw [merge_same]
          constructor
          · intro h
            by_cases z : u ∈ l
            · exact ⟨i, hi', by omega, ((mem_comp.mp ((mem u).mp z)).2).symm⟩
            · rw [if_neg z] at h
              obtain ⟨k, hk, hki, e⟩ := (k6 u hu2).mp h
              exact ⟨k, hk, by omega, e⟩
          · rintro ⟨k, hk, hki, e⟩
            by_cases z : u ∈ l
            · rw [if_pos z]; rfl
            · rw [if_neg z]
              by_cases zi : k = i
              · subst zi
                exact absurd ((mem u).mpr (mem_comp.mpr ⟨hu2, e.symm⟩)) z
              · exact (k6 u hu2).mpr ⟨k, hk, by omega, e⟩
        · rw [us, List.map_append]
          refine snoc_paired ⟨D2H, D2Z, by rw [upd_ne fun z => D2Z (.inl z)]; exact n2⟩ k7 fun b xs _ h => ⟨h.1, h.2.1, ?_⟩
          rw [upd_ne fun z => h.2.1 (.inl z)]
          exact n1 _ _ (kg _ _ h.2.1 h.2.2)
      · have hn : (valV kvM (.inr ss[i])).isSome = true := fst.mpr hf
        rw [hn]
        refine iteF ?_
        rw [if_neg (by rw [decide_eq_true_eq]; exact hf), List.append_nil] at us
        refine ⟨⟨_, _, _, _, _, rfl⟩, k1, as, kvM, k2, k3, by omega, by omega, fun u hu2 => ?_, by rw [us]; exact k7⟩
        rw [k6 u hu2]
        constructor
        · rintro ⟨k, hk, hki, e⟩
          exact ⟨k, hk, by omega, e⟩
        · rintro ⟨k, hk, hki, e⟩
          by_cases z : k = i
          · subst z
            obtain ⟨k', hk', hki', e'⟩ := (k6 _ hss).mp hn
            exact ⟨k', hk', hki', e'.trans e⟩
          · exact ⟨k, hk, by omega, e⟩
    · rintro σ Hd ⟨⟨x1, x2', x3', x4, x5, rfl⟩, k1, as, kvM, k2, k3, k4, k5, k6, k7⟩
      rw [List.length_map, List.take_length] at k7
      exact ⟨_, rfl, q L as Hd (up k1) LH k2 (paired_imp (fun l xs h => ⟨h.1, h.2.2⟩) k7)⟩
end
end K1
end
-- NMade
section
set_option Elab.async false
set_option linter.all false
set_option maxRecDepth 100000
set_option maxHeartbeats 4000000
namespace K1
open PySem PySem.Spec PyProof.Rows L2
/-- the Valley's lists are not the spring -/
def OffV (a l1 l2 l3 : Addr) (bs : Str → Addr) (ss : List Str) : Prop := l1 ≠ a ∧ l2 ≠ a ∧ l3 ≠ a ∧ ∀ s ∈ ss, bs s ≠ a
theorem ValS.kept {C a : Addr} {H H' : Hp} {x l1 l2 l3 d1 d2 d3 : Addr} {qs : List Addr} {bs : Str → Addr} {ss : List Str} {rs : List (Str × Str)} {ns : List Int} {n : Nat} (v : ValS C H x l1 l2 l3 d1 d2 d3 qs bs ss rs ns) (o : OffV a l1 l2 l3 bs ss) (s : Spr H a n) (k : Kept a H H') : ValS C H' x l1 l2 l3 d1 d2 d3 qs bs ss rs ns := by
  obtain ⟨dx, fs, h, r⟩ := v.ins
  obtain ⟨k2, a2, b2⟩ := v.p2
  obtain ⟨k3, a3, b3⟩ := v.p3
  obtain ⟨u, y, z, es, _⟩ := s
  have off : ∀ b o, H b = some o → (∀ xs, o ≠ .lst xs) → b ≠ a := fun b o e n z => by
    rw [z, es] at e
    exact n _ (Option.some.inj e).symm
  exact ⟨⟨dx, fs, k _ _ (off _ _ h fun _ z => by cases z) h, r⟩, k _ _ o.1 v.h1, k _ _ o.2.1 v.h2, paired_imp (fun _ _ q => k _ _ (off _ _ q fun _ z => by cases z) q) v.pr, k _ _ o.2.2.1 v.h3, k _ _ (off _ _ v.p1 fun _ z => by cases z) v.p1, ⟨k2, k _ _ (off _ _ a2 fun _ z => by cases z) a2, b2⟩, ⟨k3, k _ _ (off _ _ a3 fun _ z => by cases z) a3, b3⟩, fun s hs => k _ _ (o.2.2.2 s hs) (v.nb s hs)⟩
def spMd (C : Addr) : Sp := fun vs H Q _ => ∃ (a t p1 p2 p3 : Addr) (qs : List Addr) (ss : List Str) (rs : List (Str × Str)) (ns : List Int) (n : Nat), vs = [.ref a, .ref t] ∧ Spr H a n ∧ n + 200 ≤ 1000000 ∧ VAt a H t p1 p2 p3 qs ss rs ns ∧ VOk ss rs ns ∧
  ∀ x l1 l2 l3 d1 d2 d3 qs' bs H', Kept a H H' → Spr H' a (n + 200) → ValS C H' x l1 l2 l3 d1 d2 d3 qs' bs ss rs ns → OffV a l1 l2 l3 bs ss → Q (.ref x) H'
/-- the three lists, handed in some way, make a Valley -/
theorem made_ofS {K : PySem.W.Frag} {C a x dx : Addr} {H H3 : Hp} {Q : VK} {E : XK} {y1 y2 y3 : V} {ss : List Str} {rs : List (Str × Str)} {ns : List Int} {n : Nat} (ok : VOk ss rs ns) (s3 : Spr H3 a n) (k3 : Kept a H H3) (s0 : H a ≠ none) (nx : H3 x = none) (ndx : H3 dx = none)
    (v1 : SeqV H3 y1 (ss.map V.str)) (v2 : ∃ vs, SeqV H3 y2 vs ∧ Paired (PairV H3) vs rs) (v3 : SeqV H3 y3 (ns.map V.int))
    (q : ∀ l1 l2 l3 d1 d2 d3 qs' bs H', Kept a H H' → Spr H' a n → ValS C H' x l1 l2 l3 d1 d2 d3 qs' bs ss rs ns → OffV a l1 l2 l3 bs ss → Same H3 H' → Q .non H') :
    spVS K C ([.ref x, y1, y2, y3]) (L2.upd (L2.upd H3 dx (.own x)) x (.ins C dx [])) Q E := by
  have e := same_make (C := C) nx ndx
  obtain ⟨vs, a1, a2⟩ := v2
  have hne : ss ≠ [] := fun z => by have := ok.pos; rw [z] at this; simp at this
  refine ⟨x, y1, y2, y3, dx, ss, rs, ns, rfl, upd_same, ⟨v1.ext e, hne, by have := ok.le; omega, ok.good⟩, ⟨vs, a1.ext e, paired_imp (fun _ _ q => SeqV.ext q e) a2, ok.ends, ok.cut.forest, ok.rl⟩, ⟨v3.ext e, ok.ge, ok.nl⟩, fun H' l1 l2 l3 d1 d2 d3 qs bs k v nv => ?_⟩
  have ax : a ≠ x := fun z => by
    rw [← z] at nx
    exact s3.kept nx
  have back : ∀ {z}, L2.upd (L2.upd H3 dx (.own x)) x (.ins C dx []) z = none → H3 z = none := fun {z} hz => by
    cases q : H3 z with
    | none => rfl
    | some o => rw [e _ _ q] at hz; cases hz
  have sm : Same H3 H' := fun b o eb => k b o (ne_of_none eb nx) (e b o eb)
  exact q l1 l2 l3 d1 d2 d3 qs bs H' (k3.trans (Kept.same sm)) (s3.same sm) v ⟨s3.ne (back nv.1), s3.ne (back nv.2.1), s3.ne (back nv.2.2.1), fun s hs => s3.ne (back (nv.2.2.2.2.2.2.2 s hs))⟩ sm
section
variable {P : Program} {w : World} {K : PySem.W.Frag} {mg : Str → Option Value} {base : Heap} {C fL fV : Addr} {fdL fdV : FuncData}
theorem ok_Md {f : Addr} {fd : FuncData} (F : Fun K "_law_v_made" "_law_v_made" sVM f fd) (mV : mg "Valley" = some (.ref C)) (M : Mk K C fV)
    (GV : FnOk P w K mg base (L2.CX P w) 5 fV fdV ["self", "houses", "roads", "heads"] (spVS K C)) (bV : Binds K fdV ["self", "houses", "roads", "heads"] [])
    (GL1 : FnOk P w K mg base CX0 2 fL fdL ["spring", "thing"] (spLo (SeqR (Flat0 K)) 1)) (GL2 : FnOk P w K mg base CX0 3 fL fdL ["spring", "thing"] (spLo (SeqR (SeqR (Flat0 K))) 61))
    (bL : Binds K fdL ["spring", "thing"] []) (kL : PySem.W.keepIn K (.ref fL) = true) (mL : mg "_law_loose" = some (.ref fL)) :
    FnOk P w K mg base CX0 7 f fd ["spring", "valley"] (spMd C) := by
  refine F.ok scVM (fun vs H Q E h => ?_) (fun cdv A outer s H vs Q E hr h => ?_)
  · obtain ⟨a, t, p1, p2, p3, qs, ss, rs, ns, n, rfl, _⟩ := h
    rfl
  obtain ⟨a, t, p1, p2, p3, qs, ss, rs, ns, n, rfl, hs, hn, v, ok, q⟩ := h
  have hrA : Room 2 _ := hr.mono (by decide)
  have hrB : Room 3 _ := hr.mono (by decide)
  refine ⟨_, (pss_one (by exact (ps_ret (pe_make M GV hr rfl mV bV .nil passL (pa_cons (pe_call GL1 hrA rfl mL kL bL .nil pass0 (pa_cons (pv 0) (pa_cons (pe_ix ix_tup (pv 1) pe_int (fun _ _ => rfl)) pa_nil))) (pa_cons (pe_call GL2 hrB rfl mL kL bL .nil pass0 (pa_cons (pv 0) (pa_cons (pe_ix ix_tup (pv 1) pe_int (fun _ _ => rfl)) pa_nil))) (pa_cons (pe_call GL1 hrA rfl mL kL bL .nil pass0 (pa_cons (pv 0) (pa_cons (pe_ix ix_tup (pv 1) pe_int (fun _ _ => rfl)) pa_nil))) pa_nil))))))), ?_⟩
  have zz : ∀ {Hx : Hp} {m : Nat}, Spr Hx a m → ∀ z, z = a → Hx z ≠ none := fun s z e => by rw [e]; exact s.kept
  have i0 : atI [V.ref p1, V.ref p2, V.ref p3] 0 = some (.ref p1) := rfl
  have i1 : atI [V.ref p1, V.ref p2, V.ref p3] 1 = some (.ref p2) := rfl
  have i2 : atI [V.ref p1, V.ref p2, V.ref p3] 2 = some (.ref p3) := rfl
  have pl := ok.le
  refine ⟨_, rfl, _, rfl, t, _, _, _, rfl, rfl, SqT.of v.t0, i0, a, _, ss.map V.str, n, fun z => z = a, rfl, hs, by omega, rfl, zz hs, ⟨ss.map V.str, ⟨p1, rfl, .inl (wo_some.mpr ⟨v.n1, v.h1⟩)⟩, by rw [List.length_map]; exact pl, paired_same fun x hx => ?_⟩, fun y1 H1 k1 s1 r1 => ?_⟩
  · obtain ⟨s, _, rfl⟩ := List.mem_map.mp hx
    exact flat_str s
  have v1 := v.kept hs k1
  refine ⟨_, rfl, _, rfl, t, _, _, _, rfl, rfl, SqT.of v1.t0, i1, a, _, rs.map prV, _, fun z => z = a, rfl, s1, by omega, rfl, zz s1, ⟨qs.map V.ref, ⟨p2, rfl, .inl (wo_some.mpr ⟨v.n2, v1.h2⟩)⟩, by rw [List.length_map]; have := ok.rl; omega, ?_⟩, fun y2 H2 k2 s2 r2 => ?_⟩
  · have : Paired (fun (q : Addr) (r : Str × Str) => SeqR (Flat0 K) (wo (fun z => z = a) H1) (.ref q) (prV r)) qs rs := paired_imp (fun qq r e => ⟨prV r, ⟨qq, rfl, .inr (wo_some.mpr ⟨s1.tup e, e⟩)⟩, by show 2 ≤ 60; decide, .cons (flat_str _) (.cons (flat_str _) .nil)⟩) v1.pr
    have h2 : ∀ {as : List Addr} {bs : List (Str × Str)}, Paired (fun (q : Addr) (r : Str × Str) => SeqR (Flat0 K) (wo (fun z => z = a) H1) (.ref q) (prV r)) as bs → Paired (SeqR (Flat0 K) (wo (fun z => z = a) H1)) (as.map V.ref) (bs.map prV) := by
      intro as bs h
      induction h with
      | nil => exact .nil
      | cons f1 f2 ih => exact .cons f1 ih
    exact h2 this
  have v2 := v1.kept s1 k2
  refine ⟨_, rfl, _, rfl, t, _, _, _, rfl, rfl, SqT.of v2.t0, i2, a, _, ns.map V.int, _, fun z => z = a, rfl, s2, by omega, rfl, zz s2, ⟨ns.map V.int, ⟨p3, rfl, .inl (wo_some.mpr ⟨v.n3, v2.h3⟩)⟩, by rw [List.length_map, ok.nl]; exact pl, paired_same fun x hx => ?_⟩, fun y3 H3 k3 s3 r3 => ?_⟩
  · obtain ⟨s, _, rfl⟩ := List.mem_map.mp hx
    exact flat_int s
  have w1 : Same (wo (fun z => z = a) H1) H3 := Same.trans (wo_same fun b o nb e => k2 b o nb e) (Same.trans (wo_same fun b o nb e => k3 b o nb e) wo_out)
  have w2 : Same (wo (fun z => z = a) H2) H3 := Same.trans (wo_same fun b o nb e => k3 b o nb e) wo_out
  obtain ⟨vs1, sv1, _, q1⟩ := r1
  obtain ⟨vs2, sv2, _, q2⟩ := r2
  obtain ⟨vs3, sv3, _, q3⟩ := r3
  rw [flat_eq q1] at sv1
  rw [flat_eq q3] at sv3
  intro x dx nx ndx nex
  refine made_ofS ok s3 (k1.trans (k2.trans k3)) hs.kept nx ndx (sv1.ext w1) ⟨vs2, sv2.ext w2, ?_⟩ (sv3.ext wo_out) fun l1 l2 l3 d1 d2 d3 qs' bs H' kk ss' vv ov sm => ⟨rfl, ?_⟩
  · refine paired_imp (fun x r h => ?_) (paired_map q2)
    obtain ⟨us, su, _, qu⟩ := h
    rw [flat_eq qu] at su
    exact SeqV.ext su w2
  · exact q x l1 l2 l3 d1 d2 d3 qs' bs H' kk (ss'.mono (by omega)) vv ov
end
end K1
end
-- KLaw7
section
set_option Elab.async false
set_option linter.all false
set_option maxRecDepth 100000
set_option maxHeartbeats 4000000
namespace K1
open PySem PySem.Spec PyProof.Rows L2
abbrev sSm : Stmt := top 51
abbrev RelE := Hp → V → V → Prop
def MonE (R : RelE) : Prop := ∀ H H' x y, Same H H' → R H x y → R H' x y
def FlatE : RelE := fun _ x y => x = y ∧ ((∃ i, x = .int i) ∨ (∃ b, x = .bl b) ∨ ∃ s, x = .str s)
def SeqE (R : RelE) : RelE := fun H x y => ∃ p q xs ys, x = .ref p ∧ y = .ref q ∧ ((H p = some (.lst xs) ∧ H q = some (.lst ys)) ∨ (H p = some (.tup xs) ∧ H q = some (.tup ys))) ∧ xs.length ≤ 100 ∧ Paired (R H) xs ys
def NextE (R : RelE) : RelE := fun H x y => FlatE H x y ∨ SeqE R H x y
theorem SeqE.mon {R : RelE} (m : MonE R) : MonE (SeqE R) := fun H H' x y e ⟨p, q, xs, ys, a, b, c, d, f⟩ => ⟨p, q, xs, ys, a, b, c.imp (fun c => ⟨e _ _ c.1, e _ _ c.2⟩) (fun c => ⟨e _ _ c.1, e _ _ c.2⟩), d, paired_imp (fun _ _ r => m _ _ _ _ e r) f⟩
theorem NextE.mon {R : RelE} (m : MonE R) : MonE (NextE R) := fun H H' x y e h => h.imp id (SeqE.mon m H H' x y e)
def spSm (R : RelE) : Sp := fun vs H Q _ => ∃ x y, vs = [x, y] ∧ R H x y ∧ ∀ H', Same H H' → Q (.bl true) H'
theorem scSm : FnScope ["found", "due", "one", "other"] ["found", "due"] (defScope sSm) := ⟨rfl, rfl, rfl, by decide +kernel, rfl, by decide +kernel, by decide +kernel⟩
theorem walk_zipT {K : PySem.W.Frag} {a b : Addr} {xs ys : List V} {n : Nat} (hn : n = min xs.length ys.length) : Walk (RZ.ItzT K a b) n (fun H => SqT K H a xs ∧ SqT K H b ys) (YPair (fun i => xs[i]?) (fun i => ys[i]?)) := by
  subst hn
  refine ⟨fun i _ hi q => ?_, fun _ q => ⟨xs, ys, q.1, q.2, by omega⟩, fun i H v H' _ q y => ?_⟩
  · have z1 : i < xs.length := by omega
    have z2 : i < ys.length := by omega
    exact ⟨xs, ys, xs[i], ys[i], q.1, q.2, by simp [z1], by simp [z2]⟩
  · obtain ⟨T, x, z, e1, e2, e3, e4, e5⟩ := y
    exact ⟨T, x, z, e1, e2, e3, e4 xs q.1, e5 ys q.2⟩
theorem kit_dlt {K : PySem.W.Frag} {t : String} (h : t = "int" ∨ t = "bool" ∨ t = "str") : PySem.W.kitAny K (.type t) [.type "dict", .type "list", .type "tuple"] = some false := by
  unfold PySem.W.kitAny
  rcases h with rfl | rfl | rfl
  · rw [kit_dict (t := "int") (by decide)]; exact kit_seq (t := "int") (by decide)
  · rw [kit_dict (t := "bool") (by decide)]; exact kit_seq (t := "bool") (by decide)
  · rw [kit_dict (t := "str") (by decide)]; exact kit_seq (t := "str") (by decide)
section
variable {P : Program} {w : World} {K : PySem.W.Frag} {mg : Str → Option Value} {base : Heap}
theorem ok_sm_none {f : Addr} {fd : FuncData} : FnOk P w K mg base CX0 0 f fd ["found", "due"] (spSm fun _ _ _ => False) := by
  have no : ∀ vs H Q E, ¬ spSm (fun _ _ _ => False) vs H Q E := fun vs H Q E h => by
    obtain ⟨x, y, _, h, _⟩ := h
    exact h
  exact ⟨fun vs H Q E h => absurd h (no vs H Q E), fun A outer s H args us vs Q E _ _ _ _ h => absurd h (no vs H Q E)⟩
theorem ok_sm {R : RelE} {k : Nat} {f : Addr} {fd : FuncData} (mon : MonE R) (F : Fun K "_law_same" "_law_same" sSm f fd) (B : Bl mg) (mz : mg "zip" = none) (mF : mg "_law_same" = some (.ref f)) (b : Binds K fd ["found", "due"] [])
    (G : FnOk P w K mg base CX0 k f fd ["found", "due"] (spSm R)) : FnOk P w K mg base CX0 (k + 1) f fd ["found", "due"] (spSm (NextE R)) := by
  refine F.ok scSm (fun vs H Q E h => ?_) (fun cdv A outer s H vs Q E hr h => ?_)
  · obtain ⟨x, y, rfl, _⟩ := h
    rfl
  obtain ⟨x, y, rfl, h, q⟩ := h
  have nd := scSm.nd
  refine ⟨_, (pss_cons (by exact (ps_if (pt_val (pe_callB call_isi rfl B.isi PyProof.Rows.boot_isinstance (pa_cons (pv 1) (pa_cons (pe_bltn (v := .ty "dict") rfl B.dict PyProof.Rows.boot_dict rfl) pa_nil)))) (pss_one (by exact (ps_never))) pss_nil)) (pss_cons (by exact (ps_if (pt_val (pe_callB call_isiT rfl B.isi PyProof.Rows.boot_isinstance (pa_cons (pv 1) (pa_cons (pe_tup (pa_cons (pe_bltn (v := .ty "list") rfl B.list PyProof.Rows.boot_list rfl) (pa_cons (pe_bltn (v := .ty "tuple") rfl B.tuple PyProof.Rows.boot_tuple rfl) pa_nil))) pa_nil)))) (pss_cons (by exact (ps_if (PW.pt (pw_or (pt_cmpR op_ne (pe_callB call_isi rfl B.isi PyProof.Rows.boot_isinstance (pa_cons (pv 0) (pa_cons (pe_bltn (v := .ty "tuple") rfl B.tuple PyProof.Rows.boot_tuple rfl) pa_nil))) (pe_callB call_isi rfl B.isi PyProof.Rows.boot_isinstance (pa_cons (pv 1) (pa_cons (pe_bltn (v := .ty "tuple") rfl B.tuple PyProof.Rows.boot_tuple rfl) pa_nil))) (nomark _)) (pw_or1 (pt_cmpR op_ne (pe_callB call_isi rfl B.isi PyProof.Rows.boot_isinstance (pa_cons (pv 0) (pa_cons (pe_bltn (v := .ty "list") rfl B.list PyProof.Rows.boot_list rfl) pa_nil))) (pe_callB call_isi rfl B.isi PyProof.Rows.boot_isinstance (pa_cons (pv 1) (pa_cons (pe_bltn (v := .ty "list") rfl B.list PyProof.Rows.boot_list rfl) pa_nil))) (nomark _))))) (pss_one (by exact (ps_ret pe_bl))) pss_nil)) (pss_one (by exact (ps_ret (pe_and (pe_cmpR op_eq (pe_callB call_len_seq rfl B.len PySem.boot_len (pa_cons (pv 0) pa_nil)) (pe_callB call_len_seq rfl B.len PySem.boot_len (pa_cons (pv 1) pa_nil)) (nomark _)) (pe_one (pe_callB (cr_all rfl) rfl B.all PyProof.Rows.boot_all (pa_cons (pe_lc (own := [("one", 2), ("other", 3)]) (g := gTup K 2 (gCons (gName 2) (gCons (gName 3) gNil))) (tt := tYes) (te := tCall (spSm R) [] E0 (tCons (tVar 2) (tCons (tVar 3) tNil))) rfl nd (by exact RZ.pi_zipA rfl mz (pa_cons (pv 0) (pa_cons (pv 1) pa_nil))) (by exact blkOk_by (N := ["found", "due", "one", "other"]) (sc := defScope sSm) (by decide +kernel)) (fun _ _ _ _ _ => by exact (pg_tup rfl (pgs_cons (pg_name (i := 2) nd rfl (.inl rfl)) (pgs_cons (pg_name (i := 3) nd rfl (.inl rfl)) pgs_nil)))) (fun _ _ _ _ _ => by exact pts_nil) (fun _ _ _ _ _ => by exact (pe_call G hr rfl mF F.kp b .nil pass0 (pa_cons (pv 2) (pa_cons (pv 3) pa_nil))))) pa_nil)))))))) pss_nil)) (pss_cons (by exact (ps_if (PW.pt (pw_or (pt_val (pe_callB call_isiT rfl B.isi PyProof.Rows.boot_isinstance (pa_cons (pv 0) (pa_cons (pe_tup (pa_cons (pe_bltn (v := .ty "dict") rfl B.dict PyProof.Rows.boot_dict rfl) (pa_cons (pe_bltn (v := .ty "list") rfl B.list PyProof.Rows.boot_list rfl) (pa_cons (pe_bltn (v := .ty "tuple") rfl B.tuple PyProof.Rows.boot_tuple rfl) pa_nil)))) pa_nil)))) (pw_or1 (pt_cmpR op_ne (pe_callB call_isi rfl B.isi PyProof.Rows.boot_isinstance (pa_cons (pv 0) (pa_cons (pe_bltn (v := .ty "bool") rfl B.bool PyProof.Rows.boot_bool rfl) pa_nil))) (pe_callB call_isi rfl B.isi PyProof.Rows.boot_isinstance (pa_cons (pv 1) (pa_cons (pe_bltn (v := .ty "bool") rfl B.bool PyProof.Rows.boot_bool rfl) pa_nil))) (nomark _))))) (pss_one (by exact (ps_ret pe_bl))) pss_nil)) (pss_one (by exact (ps_ret (pe_cmpR op_eq (pv 0) (pv 1) (nomark _)))))))), ?_⟩
  rcases h with ⟨rfl, fl⟩ | ⟨p, r, xs, ys, rfl, rfl, kinds2, hl, pr⟩
  · obtain ⟨t, ty, tk⟩ : ∃ t, TyOf K H x (.type t) ∧ (t = "int" ∨ t = "bool" ∨ t = "str") := by
      rcases fl with ⟨i, rfl⟩ | ⟨i, rfl⟩ | ⟨i, rfl⟩
      · exact ⟨"int", .int i, .inl rfl⟩
      · exact ⟨"bool", .bl i, .inr (.inl rfl)⟩
      · exact ⟨"str", .str i, .inr (.inr rfl)⟩
    have kt : t ∈ kinds := by rcases tk with rfl | rfl | rfl <;> decide
    have nD : decide (t = "dict") = false := by rcases tk with rfl | rfl | rfl <;> decide
    have nS : isSeqT t = false := by rcases tk with rfl | rfl | rfl <;> decide
    have tx : ∀ {Hx}, TyX K Hx x (.type t) := fun {Hx} => by
      rcases fl with ⟨i, rfl⟩ | ⟨i, rfl⟩ | ⟨i, rfl⟩ <;> cases ty
      · exact .base (.int i)
      · exact .base (.bl i)
      · exact .base (.str i)
    refine ⟨_, rfl, x, _, _, _, _, rfl, .ty "dict", tx, kit_dict kt, _, rfl, ?_⟩
    rw [nD]
    refine iteF ?_
    refine ⟨_, rfl, (by show 2 ≤ sizeLine; decide), fun u1 hu1 => ?_⟩
    refine ⟨x, u1, _, _, _, _, rfl, upd_same, .cons (.ty "list") (.cons (.ty "tuple") .nil), tx, kit_seq kt, _, rfl, ?_⟩
    rw [nS]
    refine iteF ?_
    have e1 := K1.Same.upd (H := H) (p := u1) (o := .tup [.ty "list", .ty "tuple"]) hu1
    refine ⟨_, rfl, (by show 3 ≤ sizeLine; decide), fun u2 hu2 => ?_⟩
    refine ⟨x, u2, _, _, _, _, rfl, upd_same, .cons (.ty "dict") (.cons (.ty "list") (.cons (.ty "tuple") .nil)), tx, kit_dlt tk, _, rfl, ?_⟩
    refine iteF ?_
    have e2 := e1.trans (K1.Same.upd (o := .tup [.ty "dict", .ty "list", .ty "tuple"]) hu2)
    refine ⟨_, rfl, x, _, _, _, _, rfl, .ty "bool", tx, kit_bool kt, _, rfl, x, _, _, _, _, rfl, .ty "bool", tx, kit_bool kt, rfl, _, rfl, ?_⟩
    rw [decide_eq_true rfl]
    refine iteF ?_
    have fin : Q (.bl true) _ := q _ e2
    rcases fl with ⟨i, rfl⟩ | ⟨i, rfl⟩ | ⟨i, rfl⟩
    · refine ⟨_, rfl, _, rfl, rfl, ?_⟩
      rw [decide_eq_true rfl]
      exact fin
    · refine ⟨_, rfl, _, rfl, rfl, ?_⟩
      rw [decide_eq_true rfl]
      exact fin
    · refine ⟨_, rfl, _, rfl, rfl, ?_⟩
      rw [decide_eq_true rfl]
      exact fin
  · obtain ⟨t, kt, nD, nS, tx, ty⟩ : ∃ t, t ∈ kinds ∧ decide (t = "dict") = false ∧ isSeqT t = true ∧ (∀ Hx, Same H Hx → TyX K Hx (.ref p) (.type t)) ∧ (∀ Hx, Same H Hx → TyX K Hx (.ref r) (.type t)) := by
      rcases kinds2 with ⟨h1, h2⟩ | ⟨h1, h2⟩
      · exact ⟨"list", by decide, by decide, by decide, fun Hx e => .base (.lst (e _ _ h1)), fun Hx e => .base (.lst (e _ _ h2))⟩
      · exact ⟨"tuple", by decide, by decide, by decide, fun Hx e => .base (.tup (e _ _ h1)), fun Hx e => .base (.tup (e _ _ h2))⟩
    refine ⟨_, rfl, _, _, _, _, _, rfl, .ty "dict", ty _ (Same.refl _), kit_dict kt, _, rfl, ?_⟩
    rw [nD]
    refine iteF ?_
    refine ⟨_, rfl, (by show 2 ≤ sizeLine; decide), fun u1 hu1 => ?_⟩
    have e1 := K1.Same.upd (H := H) (p := u1) (o := .tup [.ty "list", .ty "tuple"]) hu1
    refine ⟨_, u1, _, _, _, _, rfl, upd_same, .cons (.ty "list") (.cons (.ty "tuple") .nil), ty _ e1, kit_seq kt, _, rfl, ?_⟩
    rw [nS]
    refine iteT ?_
    generalize L2.upd H u1 (.tup [.ty "list", .ty "tuple"]) = H1 at e1 ⊢
    refine ⟨_, rfl, _, _, _, _, _, rfl, .ty "tuple", tx _ e1, kit_tuple kt, _, rfl, _, _, _, _, _, rfl, .ty "tuple", ty _ e1, kit_tuple kt, rfl, _, rfl, ?_⟩
    rw [decide_eq_true rfl]
    refine iteF ?_
    refine ⟨_, rfl, _, _, _, _, _, rfl, .ty "list", tx _ e1, kit_list kt, _, rfl, _, _, _, _, _, rfl, .ty "list", ty _ e1, kit_list kt, rfl, _, rfl, ?_⟩
    rw [decide_eq_true rfl]
    refine iteF ?_
    have ll := pr.length
    have sp : SqA K H1 p xs := kinds2.imp (fun h => SqL.of (e1 _ _ h.1)) (fun h => SqT.of (e1 _ _ h.1))
    have sr : SqA K H1 r ys := kinds2.imp (fun h => SqL.of (e1 _ _ h.2)) (fun h => SqT.of (e1 _ _ h.2))
    refine ⟨_, rfl, p, xs, rfl, sp, _, rfl, r, ys, rfl, sr, rfl, _, rfl, ?_⟩
    rw [ll, decide_eq_true rfl]
    refine iteT ?_
    have pr1 : Paired (R H1) xs ys := paired_imp (fun _ _ z => mon _ _ _ _ e1 z) pr
    -- the walk over both
    have main : ∀ (J : It) (G0 : Hp → Prop), Walk J xs.length G0 (YPair (fun i => xs[i]?) (fun i => ys[i]?)) → (∀ Hx, Same H1 Hx → G0 Hx) → ∀ (D : Addr), H1 D = none → ∃ W : Nat → Nat → Hp → Prop, (∃ m, W 0 m (L2.upd H1 D (.lst []))) ∧ ∀ i m Hc, W i m Hc →
        (J.stop i Hc ∧ ∃ (a : Addr) (bs : List Bool), [V.ref D] = [V.ref a] ∧ SqL K Hc a (bs.map V.bl) ∧ Q (.bl (bs.all id)) Hc) ∨ (J.go i Hc ∧ ∃ Nx : Hp → Prop, (∀ H', Nx H' → ∃ m', m' < m ∧ W (i + 1) m' H') ∧ ∀ v H', J.yld i Hc v H' →
          gTup K 2 (gCons (gName 2) (gCons (gName 3) gNil)) v (wipe (L2.start ["found", "due", "one", "other"] [.ref p, .ref r]) [2, 3]) H' fun σ2 H2 => wipe σ2 [2, 3] = wipe (L2.start ["found", "due", "one", "other"] [.ref p, .ref r]) [2, 3] ∧ tYes σ2 H2 fun b H3 =>
            if b = true then tCall (spSm R) [] E0 (tCons (tVar 2) (tCons (tVar 3) tNil)) σ2 H3 fun y H4 => ∃ acc, H4 D = some (.lst acc) ∧ acc.length < sizeLine ∧ Nx (L2.upd H4 D (.lst (acc ++ [y]))) else Nx H3) := by
      intro J G0 wk hG D hD
      refine lc_it (Qd := fun Hc => ∃ (a : Addr) (bs : List Bool), [V.ref D] = [V.ref a] ∧ SqL K Hc a (bs.map V.bl) ∧ Q (.bl (bs.all id)) Hc) wk (fun i Hc => Same H1 Hc ∧ Hc D = some (.lst ((List.replicate i true).map V.bl))) ⟨K1.Same.upd hD, upd_same⟩ (fun i Hc _ h => hG Hc h.1) ?_ ?_
      · rintro i v Hc H' hi ⟨c1, c2⟩ ⟨T, x1, x2, rfl, hT, rfl, ex1, ex2⟩
        have ex1 : xs[i]? = some x1 := ex1
        have ex2 : ys[i]? = some x2 := ex2
        have hT2 := K1.Same.upd (H := Hc) (p := T) (o := .tup [x1, x2]) hT
        refine ⟨T, _, rfl, SqT.of upd_same, rfl, _, _, rfl, _, _, rfl, rfl, rfl, ?_⟩
        unfold tYes
        refine iteT ?_
        have hi2 : i < ys.length := by omega
        obtain ⟨x1', e3, r3⟩ := paired_get pr1 hi2
        have z1 : x1' = x1 := Option.some.inj (e3.symm.trans ex1)
        have z2 : ys[i] = x2 := Option.some.inj ((List.getElem?_eq_getElem hi2).symm.trans ex2)
        rw [z1, z2] at r3
        refine ⟨_, rfl, _, rfl, x1, x2, rfl, mon _ _ _ _ (c1.trans hT2) r3, fun H6 e6 => ?_⟩
        refine ⟨_, e6 _ _ (hT2 _ _ c2), by rw [List.length_map, List.length_replicate]; exact small1000 (by omega), fun c o n => ?_, ?_⟩
        · rw [upd_ne (ne_of_none n hD)]
          exact e6 _ _ (hT2 _ _ (c1 _ _ n))
        · rw [upd_same, List.replicate_succ', List.map_append]
          rfl
      · rintro Hc ⟨c1, c2⟩
        refine ⟨D, _, rfl, SqL.of c2, ?_⟩
        have : ((List.replicate xs.length true).all id) = true := by
          rw [List.all_replicate]
          split <;> rfl
        rw [this]
        exact q Hc (e1.trans c1)
    refine ⟨_, rfl, _, rfl, p, r, xs, ys, rfl, ?_⟩
    rcases kinds2 with ⟨h1, h2⟩ | ⟨h1, h2⟩
    · exact .inl ⟨SqL.of (e1 _ _ h1), SqL.of (e1 _ _ h2), fun D hD => main _ _ (walk_zip (by omega)) (fun Hx e => ⟨SqL.of (e _ _ (e1 _ _ h1)), SqL.of (e _ _ (e1 _ _ h2))⟩) D hD⟩
    · exact .inr ⟨SqT.of (e1 _ _ h1), SqT.of (e1 _ _ h2), fun D hD => main _ _ (walk_zipT (by omega)) (fun Hx e => ⟨SqT.of (e _ _ (e1 _ _ h1)), SqT.of (e _ _ (e1 _ _ h2))⟩) D hD⟩
end
end K1
end
-- NSame
section
set_option Elab.async false
set_option linter.all false
set_option maxRecDepth 100000
set_option maxHeartbeats 4000000
namespace K1
open PySem PySem.Spec PyProof.Rows L2
def FlatF : RelE := fun _ x y => x = y ∧ ((∃ i, x = .int i) ∨ (∃ b, x = .bl b) ∨ (∃ s, x = .str s) ∨ x = .non)
/-- two dicts that hold the same, whose items are the same by R -/
def DctE (R : RelE) : RelE := fun H x y => ∃ p q kvs, x = .ref p ∧ y = .ref q ∧ H p = some (.dK kvs) ∧ H q = some (.dK kvs) ∧
  ∀ H' a b as bs, Same H H' → H' a = some (.lst (as.map V.ref)) → H' b = some (.lst (bs.map V.ref)) → Paired (fun (t : Addr) (e : Key × V) => H' t = some (.tup [kV e.1, e.2])) as kvs → Paired (fun (t : Addr) (e : Key × V) => H' t = some (.tup [kV e.1, e.2])) bs kvs → R H' (.ref a) (.ref b)
def NextF (R : RelE) : RelE := fun H x y => FlatF H x y ∨ SeqE R H x y ∨ DctE R H x y
theorem NextF.mon {R : RelE} (m : MonE R) : MonE (NextF R) := fun H H' x y e h => h.imp id fun h => h.imp (SeqE.mon m H H' x y e) fun ⟨p, q, kvs, a, b, c, d, f⟩ => ⟨p, q, kvs, a, b, e _ _ c, e _ _ d, fun H2 a b as bs e2 => f H2 a b as bs (e.trans e2)⟩
theorem kit_dlf {K : PySem.W.Frag} {t : String} (h : t = "int" ∨ t = "bool" ∨ t = "str" ∨ t = "NoneType") : PySem.W.kitAny K (.type t) [.type "dict", .type "list", .type "tuple"] = some false := by
  unfold PySem.W.kitAny
  rcases h with rfl | rfl | rfl | rfl
  · rw [kit_dict (t := "int") (by decide)]; exact kit_seq (t := "int") (by decide)
  · rw [kit_dict (t := "bool") (by decide)]; exact kit_seq (t := "bool") (by decide)
  · rw [kit_dict (t := "str") (by decide)]; exact kit_seq (t := "str") (by decide)
  · rw [kit_dict (t := "NoneType") (by decide)]; exact kit_seq (t := "NoneType") (by decide)
section
variable {P : Program} {w : World} {K : PySem.W.Frag} {mg : Str → Option Value} {base : Heap}
theorem ok_smF {R : RelE} {k : Nat} {f : Addr} {fd : FuncData} (mon : MonE R) (F : Fun K "_law_same" "_law_same" sSm f fd) (B : Bl mg) (mz : mg "zip" = none) (mF : mg "_law_same" = some (.ref f)) (b : Binds K fd ["found", "due"] [])
    (G : FnOk P w K mg base CX0 k f fd ["found", "due"] (spSm R)) : FnOk P w K mg base CX0 (k + 1) f fd ["found", "due"] (spSm (NextF R)) := by
  refine F.ok scSm (fun vs H Q E h => ?_) (fun cdv A outer s H vs Q E hr h => ?_)
  · obtain ⟨x, y, rfl, _⟩ := h
    rfl
  obtain ⟨x, y, rfl, h, q⟩ := h
  have nd := scSm.nd
  refine ⟨_, (pss_cons (by exact (ps_if (pt_val (pe_callB call_isi rfl B.isi PyProof.Rows.boot_isinstance (pa_cons (pv 1) (pa_cons (pe_bltn (v := .ty "dict") rfl B.dict PyProof.Rows.boot_dict rfl) pa_nil)))) (pss_one (by exact (ps_ret (pe_and (pe_callB call_isi rfl B.isi PyProof.Rows.boot_isinstance (pa_cons (pv 0) (pa_cons (pe_bltn (v := .ty "dict") rfl B.dict PyProof.Rows.boot_dict rfl) pa_nil))) (pe_one (pe_call G hr rfl mF F.kp b .nil pass0 (pa_cons (LiI.pe_listItems rfl (pv 0) rfl B.list PyProof.Rows.boot_list) (pa_cons (LiI.pe_listItems rfl (pv 1) rfl B.list PyProof.Rows.boot_list) pa_nil)))))))) pss_nil)) (pss_cons (by exact (ps_if (pt_val (pe_callB call_isiT rfl B.isi PyProof.Rows.boot_isinstance (pa_cons (pv 1) (pa_cons (pe_tup (pa_cons (pe_bltn (v := .ty "list") rfl B.list PyProof.Rows.boot_list rfl) (pa_cons (pe_bltn (v := .ty "tuple") rfl B.tuple PyProof.Rows.boot_tuple rfl) pa_nil))) pa_nil)))) (pss_cons (by exact (ps_if (PW.pt (pw_or (pt_cmpR op_ne (pe_callB call_isi rfl B.isi PyProof.Rows.boot_isinstance (pa_cons (pv 0) (pa_cons (pe_bltn (v := .ty "tuple") rfl B.tuple PyProof.Rows.boot_tuple rfl) pa_nil))) (pe_callB call_isi rfl B.isi PyProof.Rows.boot_isinstance (pa_cons (pv 1) (pa_cons (pe_bltn (v := .ty "tuple") rfl B.tuple PyProof.Rows.boot_tuple rfl) pa_nil))) (nomark _)) (pw_or1 (pt_cmpR op_ne (pe_callB call_isi rfl B.isi PyProof.Rows.boot_isinstance (pa_cons (pv 0) (pa_cons (pe_bltn (v := .ty "list") rfl B.list PyProof.Rows.boot_list rfl) pa_nil))) (pe_callB call_isi rfl B.isi PyProof.Rows.boot_isinstance (pa_cons (pv 1) (pa_cons (pe_bltn (v := .ty "list") rfl B.list PyProof.Rows.boot_list rfl) pa_nil))) (nomark _))))) (pss_one (by exact (ps_ret pe_bl))) pss_nil)) (pss_one (by exact (ps_ret (pe_and (pe_cmpR op_eq (pe_callB call_len_seq rfl B.len PySem.boot_len (pa_cons (pv 0) pa_nil)) (pe_callB call_len_seq rfl B.len PySem.boot_len (pa_cons (pv 1) pa_nil)) (nomark _)) (pe_one (pe_callB (cr_all rfl) rfl B.all PyProof.Rows.boot_all (pa_cons (pe_lc (own := [("one", 2), ("other", 3)]) (g := gTup K 2 (gCons (gName 2) (gCons (gName 3) gNil))) (tt := tYes) (te := tCall (spSm R) [] E0 (tCons (tVar 2) (tCons (tVar 3) tNil))) rfl nd (by exact RZ.pi_zipA rfl mz (pa_cons (pv 0) (pa_cons (pv 1) pa_nil))) (by exact blkOk_by (N := ["found", "due", "one", "other"]) (sc := defScope sSm) (by decide +kernel)) (fun _ _ _ _ _ => by exact (pg_tup rfl (pgs_cons (pg_name (i := 2) nd rfl (.inl rfl)) (pgs_cons (pg_name (i := 3) nd rfl (.inl rfl)) pgs_nil)))) (fun _ _ _ _ _ => by exact pts_nil) (fun _ _ _ _ _ => by exact (pe_call G hr rfl mF F.kp b .nil pass0 (pa_cons (pv 2) (pa_cons (pv 3) pa_nil))))) pa_nil)))))))) pss_nil)) (pss_cons (by exact (ps_if (PW.pt (pw_or (pt_val (pe_callB call_isiT rfl B.isi PyProof.Rows.boot_isinstance (pa_cons (pv 0) (pa_cons (pe_tup (pa_cons (pe_bltn (v := .ty "dict") rfl B.dict PyProof.Rows.boot_dict rfl) (pa_cons (pe_bltn (v := .ty "list") rfl B.list PyProof.Rows.boot_list rfl) (pa_cons (pe_bltn (v := .ty "tuple") rfl B.tuple PyProof.Rows.boot_tuple rfl) pa_nil)))) pa_nil)))) (pw_or1 (pt_cmpR op_ne (pe_callB call_isi rfl B.isi PyProof.Rows.boot_isinstance (pa_cons (pv 0) (pa_cons (pe_bltn (v := .ty "bool") rfl B.bool PyProof.Rows.boot_bool rfl) pa_nil))) (pe_callB call_isi rfl B.isi PyProof.Rows.boot_isinstance (pa_cons (pv 1) (pa_cons (pe_bltn (v := .ty "bool") rfl B.bool PyProof.Rows.boot_bool rfl) pa_nil))) (nomark _))))) (pss_one (by exact (ps_ret pe_bl))) pss_nil)) (pss_one (by exact (ps_ret (pe_cmpR op_eq (pv 0) (pv 1) (nomark _)))))))), ?_⟩
  rcases h with ⟨rfl, fl⟩ | ⟨p, r, xs, ys, rfl, rfl, kinds2, hl, pr⟩ | ⟨p, r, kvs, rfl, rfl, dp, dr, hD⟩
  · obtain ⟨t, ty, tk⟩ : ∃ t, TyOf K H x (.type t) ∧ (t = "int" ∨ t = "bool" ∨ t = "str" ∨ t = "NoneType") := by
      rcases fl with ⟨i, rfl⟩ | ⟨i, rfl⟩ | ⟨i, rfl⟩ | rfl
      · exact ⟨"int", .int i, .inl rfl⟩
      · exact ⟨"bool", .bl i, .inr (.inl rfl)⟩
      · exact ⟨"str", .str i, .inr (.inr (.inl rfl))⟩
      · exact ⟨"NoneType", .non, .inr (.inr (.inr rfl))⟩
    have kt : t ∈ kinds := by rcases tk with rfl | rfl | rfl | rfl <;> decide
    have nD : decide (t = "dict") = false := by rcases tk with rfl | rfl | rfl | rfl <;> decide
    have nS : isSeqT t = false := by rcases tk with rfl | rfl | rfl | rfl <;> decide
    have tx : ∀ {Hx}, TyX K Hx x (.type t) := fun {Hx} => by
      rcases fl with ⟨i, rfl⟩ | ⟨i, rfl⟩ | ⟨i, rfl⟩ | rfl <;> cases ty
      · exact .base (.int i)
      · exact .base (.bl i)
      · exact .base (.str i)
      · exact .base .non
    refine ⟨_, rfl, x, _, _, _, _, rfl, .ty "dict", tx, kit_dict kt, _, rfl, ?_⟩
    rw [nD]
    refine iteF ?_
    refine ⟨_, rfl, (by show 2 ≤ sizeLine; decide), fun u1 hu1 => ?_⟩
    refine ⟨x, u1, _, _, _, _, rfl, upd_same, .cons (.ty "list") (.cons (.ty "tuple") .nil), tx, kit_seq kt, _, rfl, ?_⟩
    rw [nS]
    refine iteF ?_
    have e1 := K1.Same.upd (H := H) (p := u1) (o := .tup [.ty "list", .ty "tuple"]) hu1
    refine ⟨_, rfl, (by show 3 ≤ sizeLine; decide), fun u2 hu2 => ?_⟩
    refine ⟨x, u2, _, _, _, _, rfl, upd_same, .cons (.ty "dict") (.cons (.ty "list") (.cons (.ty "tuple") .nil)), tx, kit_dlf tk, _, rfl, ?_⟩
    refine iteF ?_
    have e2 := e1.trans (K1.Same.upd (o := .tup [.ty "dict", .ty "list", .ty "tuple"]) hu2)
    refine ⟨_, rfl, x, _, _, _, _, rfl, .ty "bool", tx, kit_bool kt, _, rfl, x, _, _, _, _, rfl, .ty "bool", tx, kit_bool kt, rfl, _, rfl, ?_⟩
    rw [decide_eq_true rfl]
    refine iteF ?_
    have fin : Q (.bl true) _ := q _ e2
    rcases fl with ⟨i, rfl⟩ | ⟨i, rfl⟩ | ⟨i, rfl⟩ | rfl
    · refine ⟨_, rfl, _, rfl, rfl, ?_⟩
      rw [decide_eq_true rfl]
      exact fin
    · refine ⟨_, rfl, _, rfl, rfl, ?_⟩
      rw [decide_eq_true rfl]
      exact fin
    · refine ⟨_, rfl, _, rfl, rfl, ?_⟩
      rw [decide_eq_true rfl]
      exact fin
    · refine ⟨_, rfl, _, rfl, rfl, ?_⟩
      rw [decide_eq_true rfl]
      exact fin
  · obtain ⟨t, kt, nD, nS, tx, ty⟩ : ∃ t, t ∈ kinds ∧ decide (t = "dict") = false ∧ isSeqT t = true ∧ (∀ Hx, Same H Hx → TyX K Hx (.ref p) (.type t)) ∧ (∀ Hx, Same H Hx → TyX K Hx (.ref r) (.type t)) := by
      rcases kinds2 with ⟨h1, h2⟩ | ⟨h1, h2⟩
      · exact ⟨"list", by decide, by decide, by decide, fun Hx e => .base (.lst (e _ _ h1)), fun Hx e => .base (.lst (e _ _ h2))⟩
      · exact ⟨"tuple", by decide, by decide, by decide, fun Hx e => .base (.tup (e _ _ h1)), fun Hx e => .base (.tup (e _ _ h2))⟩
    refine ⟨_, rfl, _, _, _, _, _, rfl, .ty "dict", ty _ (Same.refl _), kit_dict kt, _, rfl, ?_⟩
    rw [nD]
    refine iteF ?_
    refine ⟨_, rfl, (by show 2 ≤ sizeLine; decide), fun u1 hu1 => ?_⟩
    have e1 := K1.Same.upd (H := H) (p := u1) (o := .tup [.ty "list", .ty "tuple"]) hu1
    refine ⟨_, u1, _, _, _, _, rfl, upd_same, .cons (.ty "list") (.cons (.ty "tuple") .nil), ty _ e1, kit_seq kt, _, rfl, ?_⟩
    rw [nS]
    refine iteT ?_
    generalize L2.upd H u1 (.tup [.ty "list", .ty "tuple"]) = H1 at e1 ⊢
    refine ⟨_, rfl, _, _, _, _, _, rfl, .ty "tuple", tx _ e1, kit_tuple kt, _, rfl, _, _, _, _, _, rfl, .ty "tuple", ty _ e1, kit_tuple kt, rfl, _, rfl, ?_⟩
    rw [decide_eq_true rfl]
    refine iteF ?_
    refine ⟨_, rfl, _, _, _, _, _, rfl, .ty "list", tx _ e1, kit_list kt, _, rfl, _, _, _, _, _, rfl, .ty "list", ty _ e1, kit_list kt, rfl, _, rfl, ?_⟩
    rw [decide_eq_true rfl]
    refine iteF ?_
    have ll := pr.length
    have sp : SqA K H1 p xs := kinds2.imp (fun h => SqL.of (e1 _ _ h.1)) (fun h => SqT.of (e1 _ _ h.1))
    have sr : SqA K H1 r ys := kinds2.imp (fun h => SqL.of (e1 _ _ h.2)) (fun h => SqT.of (e1 _ _ h.2))
    refine ⟨_, rfl, p, xs, rfl, sp, _, rfl, r, ys, rfl, sr, rfl, _, rfl, ?_⟩
    rw [ll, decide_eq_true rfl]
    refine iteT ?_
    have pr1 : Paired (R H1) xs ys := paired_imp (fun _ _ z => mon _ _ _ _ e1 z) pr
    -- the walk over both
    have main : ∀ (J : It) (G0 : Hp → Prop), Walk J xs.length G0 (YPair (fun i => xs[i]?) (fun i => ys[i]?)) → (∀ Hx, Same H1 Hx → G0 Hx) → ∀ (D : Addr), H1 D = none → ∃ W : Nat → Nat → Hp → Prop, (∃ m, W 0 m (L2.upd H1 D (.lst []))) ∧ ∀ i m Hc, W i m Hc →
        (J.stop i Hc ∧ ∃ (a : Addr) (bs : List Bool), [V.ref D] = [V.ref a] ∧ SqL K Hc a (bs.map V.bl) ∧ Q (.bl (bs.all id)) Hc) ∨ (J.go i Hc ∧ ∃ Nx : Hp → Prop, (∀ H', Nx H' → ∃ m', m' < m ∧ W (i + 1) m' H') ∧ ∀ v H', J.yld i Hc v H' →
          gTup K 2 (gCons (gName 2) (gCons (gName 3) gNil)) v (wipe (L2.start ["found", "due", "one", "other"] [.ref p, .ref r]) [2, 3]) H' fun σ2 H2 => wipe σ2 [2, 3] = wipe (L2.start ["found", "due", "one", "other"] [.ref p, .ref r]) [2, 3] ∧ tYes σ2 H2 fun b H3 =>
            if b = true then tCall (spSm R) [] E0 (tCons (tVar 2) (tCons (tVar 3) tNil)) σ2 H3 fun y H4 => ∃ acc, H4 D = some (.lst acc) ∧ acc.length < sizeLine ∧ Nx (L2.upd H4 D (.lst (acc ++ [y]))) else Nx H3) := by
      intro J G0 wk hG D hD
      refine lc_it (Qd := fun Hc => ∃ (a : Addr) (bs : List Bool), [V.ref D] = [V.ref a] ∧ SqL K Hc a (bs.map V.bl) ∧ Q (.bl (bs.all id)) Hc) wk (fun i Hc => Same H1 Hc ∧ Hc D = some (.lst ((List.replicate i true).map V.bl))) ⟨K1.Same.upd hD, upd_same⟩ (fun i Hc _ h => hG Hc h.1) ?_ ?_
      · rintro i v Hc H' hi ⟨c1, c2⟩ ⟨T, x1, x2, rfl, hT, rfl, ex1, ex2⟩
        have ex1 : xs[i]? = some x1 := ex1
        have ex2 : ys[i]? = some x2 := ex2
        have hT2 := K1.Same.upd (H := Hc) (p := T) (o := .tup [x1, x2]) hT
        refine ⟨T, _, rfl, SqT.of upd_same, rfl, _, _, rfl, _, _, rfl, rfl, rfl, ?_⟩
        unfold tYes
        refine iteT ?_
        have hi2 : i < ys.length := by omega
        obtain ⟨x1', e3, r3⟩ := paired_get pr1 hi2
        have z1 : x1' = x1 := Option.some.inj (e3.symm.trans ex1)
        have z2 : ys[i] = x2 := Option.some.inj ((List.getElem?_eq_getElem hi2).symm.trans ex2)
        rw [z1, z2] at r3
        refine ⟨_, rfl, _, rfl, x1, x2, rfl, mon _ _ _ _ (c1.trans hT2) r3, fun H6 e6 => ?_⟩
        refine ⟨_, e6 _ _ (hT2 _ _ c2), by rw [List.length_map, List.length_replicate]; exact small1000 (by omega), fun c o n => ?_, ?_⟩
        · rw [upd_ne (ne_of_none n hD)]
          exact e6 _ _ (hT2 _ _ (c1 _ _ n))
        · rw [upd_same, List.replicate_succ', List.map_append]
          rfl
      · rintro Hc ⟨c1, c2⟩
        refine ⟨D, _, rfl, SqL.of c2, ?_⟩
        have : ((List.replicate xs.length true).all id) = true := by
          rw [List.all_replicate]
          split <;> rfl
        rw [this]
        exact q Hc (e1.trans c1)
    refine ⟨_, rfl, _, rfl, p, r, xs, ys, rfl, ?_⟩
    rcases kinds2 with ⟨h1, h2⟩ | ⟨h1, h2⟩
    · exact .inl ⟨SqL.of (e1 _ _ h1), SqL.of (e1 _ _ h2), fun D hD => main _ _ (walk_zip (by omega)) (fun Hx e => ⟨SqL.of (e _ _ (e1 _ _ h1)), SqL.of (e _ _ (e1 _ _ h2))⟩) D hD⟩
    · exact .inr ⟨SqT.of (e1 _ _ h1), SqT.of (e1 _ _ h2), fun D hD => main _ _ (walk_zipT (by omega)) (fun Hx e => ⟨SqT.of (e _ _ (e1 _ _ h1)), SqT.of (e _ _ (e1 _ _ h2))⟩) D hD⟩
  · -- two dicts
    have tx : ∀ {Hx}, Same H Hx → TyX K Hx (.ref p) (.type "dict") := fun {Hx} e => .base (.dK (e _ _ dp))
    have ty : ∀ {Hx}, Same H Hx → TyX K Hx (.ref r) (.type "dict") := fun {Hx} e => .base (.dK (e _ _ dr))
    refine ⟨_, rfl, .ref r, _, _, _, _, rfl, .ty "dict", ty (Same.refl _), kit_dict (t := "dict") (by decide), _, rfl, ?_⟩
    refine iteT ?_
    refine ⟨_, rfl, .ref p, _, _, _, _, rfl, .ty "dict", tx (Same.refl _), kit_dict (t := "dict") (by decide), _, rfl, ?_⟩
    refine iteT ⟨_, rfl, p, kvs, rfl, dp, fun H1 a as e1 na nas npa g1 pa => ⟨_, rfl, r, kvs, rfl, e1 _ _ dr, fun H2 c cs e2 nc ncs npc g2 pc => ⟨_, _, rfl, ?_, fun H3 e3 => ?_⟩⟩⟩
    · exact hD H2 a c as cs (fun b o h => e2 _ _ (e1 _ _ h)) (e2 _ _ g1) g2 (paired_imp (fun _ _ z => e2 _ _ z) pa) pc
    · exact q H3 fun b o h => e3 _ _ (e2 _ _ (e1 _ _ h))

end
end K1
end
-- EKw
section
set_option Elab.async false
set_option linter.all false
set_option maxRecDepth 100000
set_option maxHeartbeats 1000000
namespace K1
open PySem PySem.Spec PyProof.Rows L2 W0
section
variable {X : Cx} {CX : CXT} {k n : Nat} {f C : Addr} {fd : FuncData} {ps ks : List Str} {sp : Sp} {E : XK} {x m : Str} {p pos apos : Pos} {e o : Expr} {es : List Expr} {kws : List Keyword} {ta : TE} {t tk : TA} {g : List Value → List Value → List Value} {gV : List V → List V → List V}
/-- the callee runs, its parameters given by name -/
theorem run_fnN {pins : List (Addr × Obj)} {σ : L2.St} {H : Hp} {s : Shared} {Q : VK} {us ws : List Value} {vs zs : List V} (F : FnOk X.prog X.w X.K X.mg X.base CX k f fd ps sp) (hr : Room k X.A) (hb : KBn X.K fd ps n ks g gV) (hx : Passes CX X E)
    (I : Inv X pins σ H s) (r : Vals vs us) (rz : Vals zs ws) (l1 : vs.length = n) (l2 : zs.length = ks.length)
    (h : sp (gV vs zs) H Q E) : wpAny (model X.prog X.w) X.A (call (.ref f) us (ks.zip ws)) (EP X pins σ Q) X.xe s := by
  have r2 := hb.rel r rz
  have go := F.run X.A X.stack s H ⟨us, ks.zip ws⟩ (g us ws) (gV vs zs) Q E
  refine wpAny_call (codeAny_mono (go hr I.env0 (hb.to s us ws I.kIn (r.length.symm.trans l1) (rz.length.symm.trans l2)) r2 h) fun r s' hq => ?_)
  cases r with
  | error e => exact hx pins σ H s e s' I hq
  | ok fl =>
    cases fl with
    | ret u => exact I.after hq
    | next => exact False.elim hq
    | brk => exact False.elim hq
    | cont => exact False.elim hq
def tCallN (k : Nat) (sp : Sp) (gV : List V → List V → List V) (E : XK) (tk : TA) : TE := fun σ H Q => tk σ H fun zs H2 => zs.length = k ∧ sp (gV [] zs) H2 Q E
/-- f(k = v, ..), every parameter by name -/
theorem pe_callN (F : FnOk X.prog X.w X.K X.mg X.base CX k f fd ps sp) (hr : Room k X.A) (hg : Gl X x) (hm : X.mg x = some (.ref f)) (hk : PySem.W.keepIn X.K (.ref f) = true) (hb : KBn X.K fd ps 0 ks g gV) (hx : Passes CX X E) (hkw : PK X kws tk)
    (hall : (backToKw pos (keywordEach kws X.env)).all (·.1.isSome) = true := by rfl) (hks : (backToKw pos (keywordEach kws X.env)).filterMap (·.1) = ks := by rfl)
    (hdb : (x == ("__debug__" : Str)) = false := by decide)
    (hpl : ((backTo pos (starEach [] X.env)).any (·.1) || (backToKw pos (keywordEach kws X.env)).any (·.1.isNone)) = false := by rfl) :
    PE X (.Call (.Name x p) [] kws pos) (tCallN ks.length sp gV E tk) := by
  refine ⟨fun pins s σ H Q I h => ?_⟩
  refine wpAny_Call_Name_kw (ld_glob I hg hm ?_ hdb)
  refine PySem.W.callWith_KW0 (first := []) (h₀ := X.base) I.ok.mod.kin hk hall ?_ hpl
  refine thn (hkw.run pos pins s σ H _ I h) fun ws s2 ⟨zs, H2, I2, rz, l2, q2⟩ => ⟨I2.kIn, ?_⟩
  rw [hks]
  exact run_fnN (us := []) (vs := []) F hr hb hx I2 .nil rz rfl l2 q2
end

/-! what is the same, to a depth -/
def RF : Nat → RelE
  | 0 => fun _ _ _ => False
  | n + 1 => NextF (RF n)
theorem r_str {R : RelE} {H : Hp} (s : Str) : NextF R H (.str s) (.str s) := .inl ⟨rfl, .inr (.inr (.inl ⟨s, rfl⟩))⟩
theorem r_int {R : RelE} {H : Hp} (i : Int) : NextF R H (.int i) (.int i) := .inl ⟨rfl, .inl ⟨i, rfl⟩⟩
theorem r_bl {R : RelE} {H : Hp} (b : Bool) : NextF R H (.bl b) (.bl b) := .inl ⟨rfl, .inr (.inl ⟨b, rfl⟩)⟩
theorem r_strs {R : RelE} {H : Hp} : ∀ ss : List Str, Paired (NextF R H) (ss.map V.str) (ss.map V.str)
  | [] => .nil
  | s :: ss => .cons (r_str s) (r_strs ss)
theorem r_ints {R : RelE} {H : Hp} : ∀ ss : List Int, Paired (NextF R H) (ss.map V.int) (ss.map V.int)
  | [] => .nil
  | s :: ss => .cons (r_int s) (r_ints ss)
theorem r_lists {R : RelE} {H : Hp} {p q : Addr} {xs ys : List V} (h1 : H p = some (.lst xs)) (h2 : H q = some (.lst ys)) (l : xs.length ≤ 100) (r : Paired (R H) xs ys) : NextF R H (.ref p) (.ref q) := .inr (.inl ⟨p, q, xs, ys, rfl, rfl, .inl ⟨h1, h2⟩, l, r⟩)
theorem r_tups {R : RelE} {H : Hp} {p q : Addr} {xs ys : List V} (h1 : H p = some (.tup xs)) (h2 : H q = some (.tup ys)) (l : xs.length ≤ 100) (r : Paired (R H) xs ys) : NextF R H (.ref p) (.ref q) := .inr (.inl ⟨p, q, xs, ys, rfl, rfl, .inr ⟨h1, h2⟩, l, r⟩)
theorem r_pairs {R : RelE} {H : Hp} : ∀ {as bs : List Addr} {rs : List (Str × Str)}, Paired (TupP H) as rs → Paired (TupP H) bs rs → Paired (NextF (NextF R) H) (as.map V.ref) (bs.map V.ref)
  | _, _, _, .nil, .nil => .nil
  | _, _, _, .cons f1 g1, .cons f2 g2 => .cons (r_tups f1 f2 (by show 2 ≤ 100; decide) (.cons (r_str _) (.cons (r_str _) .nil))) (r_pairs g1 g2)
theorem r_non {R : RelE} {H : Hp} : NextF R H .non .non := .inl ⟨rfl, .inr (.inr (.inr rfl))⟩
theorem vals_at {vs : List V} {us : List Value} (h : Vals vs us) : ∀ i, RelV (vs.getD i .non) (us.getD i .none) := by
  induction h with
  | nil => intro i; exact rfl
  | cons a r ih =>
    intro i
    cases i with
    | zero => exact a
    | succ i => exact ih i

/-- four parameters by name, the last one first -/
def kwR4 : List V → List V → List V := fun _ zs => [zs.getD 3 .non, zs.getD 2 .non, zs.getD 1 .non, zs.getD 0 .non]
def kwR4v : List Value → List Value → List Value := fun _ zs => [zs.getD 3 .none, zs.getD 2 .none, zs.getD 1 .none, zs.getD 0 .none]
theorem kb_Pb {K : PySem.W.Frag} {f : Addr} {fd : FuncData} (F : Fun K "parted_by" "parted_by" sPb f fd) : KBn K fd ["valley", "closing", "one", "other"] 0 ["other", "one", "closing", "valley"] kwR4v kwR4 := by
  obtain ⟨oc, od, kV, doc, pm, an, cdv, ct, osl, rfl, lk, hcd⟩ := F.ex
  refine ⟨fun s us ws X l1 l2 => ?_, fun r1 r2 => ?_⟩
  · match us, ws, l1, l2 with
    | [], [a, b, c, d], _, _ => exact BindsTo.of_looks fun M => .of_pure rfl
  · exact .cons (vals_at r2 3) (.cons (vals_at r2 2) (.cons (vals_at r2 1) (.cons (vals_at r2 0) .nil)))
theorem kb_Sj {K : PySem.W.Frag} {f : Addr} {fd : FuncData} (F : Fun K "still_joined" "still_joined" sSj f fd) : KBn K fd ["valley", "closing", "house", "many"] 0 ["many", "house", "closing", "valley"] kwR4v kwR4 := by
  obtain ⟨oc, od, kV, doc, pm, an, cdv, ct, osl, rfl, lk, hcd⟩ := F.ex
  refine ⟨fun s us ws X l1 l2 => ?_, fun r1 r2 => ?_⟩
  · match us, ws, l1, l2 with
    | [], [a, b, c, d], _, _ => exact BindsTo.of_looks fun M => .of_pure rfl
  · exact .cons (vals_at r2 3) (.cons (vals_at r2 2) (.cons (vals_at r2 1) (.cons (vals_at r2 0) .nil)))
/-- a Valley that is off the spring -/
def IsVO (C a : Addr) (H : Hp) (x : Addr) (ss : List Str) (rs : List (Str × Str)) (ns : List Int) : Prop := ss.length = ns.length ∧ ∃ l1 l2 l3 d1 d2 d3 qs bs, ValS C H x l1 l2 l3 d1 d2 d3 qs bs ss rs ns ∧ OffV a l1 l2 l3 bs ss
theorem IsVO.kept {C a : Addr} {H H' : Hp} {x : Addr} {ss : List Str} {rs : List (Str × Str)} {ns : List Int} {n : Nat} (v : IsVO C a H x ss rs ns) (s : Spr H a n) (k : Kept a H H') : IsVO C a H' x ss rs ns := by
  obtain ⟨l, l1, l2, l3, d1, d2, d3, qs, bs, vs, o⟩ := v
  exact ⟨l, l1, l2, l3, d1, d2, d3, qs, bs, vs.kept o s k, o⟩
theorem IsVO.is {C a : Addr} {H : Hp} {x : Addr} {ss : List Str} {rs : List (Str × Str)} {ns : List Int} (v : IsVO C a H x ss rs ns) : IsV C H x ss rs ns := by
  obtain ⟨l, l1, l2, l3, d1, d2, d3, qs, bs, vs, o⟩ := v
  exact ⟨l, l1, l2, l3, d1, d2, d3, qs, bs, vs⟩
theorem VOk.tree {ss : List Str} {rs : List (Str × Str)} {ns : List Int} (v : VOk ss rs ns) : Tree ss rs := ⟨v.good.1, v.ends, v.cut, v.rl⟩
end K1
end
-- WRepr
section
set_option Elab.async false
set_option linter.all false
set_option maxRecDepth 100000
set_option maxHeartbeats 4000000
/-! repr of data of any depth: it is asked where nothing else is being shown; so the defs from the law down to it promise with that premise (FnG) -/
namespace Wr
open PySem PySem.Spec PyProof.Rows L2
abbrev Bare0 (A : Around) : Prop := A.guards = some []
structure FnG (P : Program) (w : World) (K : PySem.W.Frag) (mg : Str → Option Value) (base : Heap) (CX : CXT) (k : Nat) (f : Addr) (fd : FuncData) (ps : List Str) (sp : Sp) : Prop where
  ln : ∀ xs H Q E, sp xs H Q E → xs.length = ps.length
  go : ∀ (A : Around) (out : List Env) (s : Shared) (H : Hp) (ar : Args) (us : List Value) (xs : List V) (Q : VK) (E : XK), Bare0 A → Room k A → Env0 P w K mg base A out s H → BindsTo s fd ar (ps.zip us) → Vals xs us → sp xs H Q E → codeAny (model P w) A (.call (.ref f) ar) (CR CX out P w H s Q E) s
theorem FnG.of {P : Program} {w : World} {K : PySem.W.Frag} {mg : Str → Option Value} {base : Heap} {CX : CXT} {k : Nat} {f : Addr} {fd : FuncData} {ps : List Str} {sp : Sp} (F : FnOk P w K mg base CX k f fd ps sp) : FnG P w K mg base CX k f fd ps sp :=
  ⟨F.len, fun A out s H ar us xs Q E _ hr => F.run A out s H ar us xs Q E hr⟩
theorem FnG.mono {P : Program} {w : World} {K : PySem.W.Frag} {mg : Str → Option Value} {base : Heap} {CX : CXT} {j k : Nat} {f : Addr} {fd : FuncData} {ps : List Str} {sp : Sp} (F : FnG P w K mg base CX j f fd ps sp) (h : j ≤ k) : FnG P w K mg base CX k f fd ps sp :=
  ⟨F.ln, fun A out s H ar us xs Q E hb hr => F.go A out s H ar us xs Q E hb (hr.mono h)⟩
section
variable {K : PySem.W.Frag} {P : Program} {w : World} {base : Heap} {mg : Str → Option Value}
theorem fnG_of {CX : CXT} {k : Nat} {f : Addr} {nm qu : Str} {pa : Arguments} {bd : List Stmt} {sc : Scope} {dV kV doc pm cv ct oc : Value} {an od : Option Addr} {osl : Array (Option Value)} {N ps : List Str} {sp : Sp}
    (lk : K.lookup f = some ⟨oc, od, .func (PySem.W.fnOf nm qu pa bd sc dV kV doc pm an cv ct), osl⟩) (hc : PySem.W.codeIn K cv qu = true) (S : FnScope N ps sc) (ln : ∀ xs H Q E, sp xs H Q E → xs.length = ps.length)
    (hb : ∀ (A : Around) (out : List Env) (s : Shared) (H : Hp) (xs : List V) (Q : VK) (E : XK), Bare0 A → Room k (A.deeper (envOfC qu sc s.heap.objs.size f cv)) → sp xs H Q E →
      ∃ t, PSs (cxOf CX P w K mg base N qu sc f cv A out s H E) bd t ∧ t { nx := fun _ H2 => Q .non H2, rt := Q } (start N xs) H) : FnG P w K mg base CX (k + 1) f (PySem.W.fnOf nm qu pa bd sc dV kV doc pm an cv ct) ps sp := by
  refine ⟨ln, fun A out s H ar us xs Q E hA hr e0 hbi r hsp => ?_⟩
  have hl := ln _ _ _ _ hsp
  have KI : K.In s.heap := e0.mod.kin.keeps fun c o e => (e0.bs c o e).1
  have li : s.heap.NoLimit := e0.mod.nolimit.keeps fun c o e => (e0.bs c o e).1
  have hk : ∀ y ∈ ps.zip us, sc.names.lookup y.1 = some .local ∨ (sc.names.lookup y.1 = some .cell ∧ ((cellsFrom (s.heap.objs.size + 1) sc.names []).lookup y.1).isSome = true) := by
    rintro ⟨n, v⟩ hy
    exact (S.par n (List.of_mem_zip hy).1).imp id fun q => ⟨q, PySem.W.cellsFrom_some _ _ _ (.inl q)⟩
  refine codeAny_call_function hr.depth (KI _ _ lk) rfl S.co S.gen rfl (PySem.W.codeRec_of KI hc) (hbi _ _ _ _ ?_)
  refine wpAny_newFunctionEnv_cells S.kind hk fun en he s1 z => ?_
  subst he
  refine ⟨li.keeps z.toInCall.keep, codeAny_func ?_⟩
  obtain ⟨t, ht, hq⟩ := hb A out s H xs Q E hA (hr.deeper _) hsp
  have I : Inv (cxOf CX P w K mg base N qu sc f cv A out s H E) [] (start N xs) H s1 := inv_start S hr.hd e0 hl r z
  have fi : ∀ {τ : L2.St} {H2 : Hp} {v : V} {u : Value} {s2 : Shared}, Inv (cxOf CX P w K mg base N qu sc f cv A out s H E) [] τ H2 s2 → RelV v u → Q v H2 → CE out P w H s Q u s2 := fun {τ H2 v u s2} J rv q => ⟨v, H2, J.os, J.bare, J.base, J.hok, rv, q⟩
  refine wpAny_mono (ht.run [] s1 (start N xs) H _ I hq) (fun fl s2 hs => ?_) fun e s2 hs => hs
  cases fl with
  | ret u =>
    obtain ⟨v, τ, H2, J, rv, q⟩ := hs
    exact fi J rv q
  | next =>
    obtain ⟨τ, H2, J, q⟩ := hs
    exact fi (v := V.non) (u := Value.none) J rfl q
  | brk =>
    obtain ⟨_, _, _, q⟩ := hs
    exact q.elim
  | cont =>
    obtain ⟨_, _, _, q⟩ := hs
    exact q.elim
/-- Fun.ok with the premise -/
theorem okG {x qu : Str} {st : Stmt} {f : Addr} {fd : FuncData} {N ps : List Str} {k : Nat} {sp : Sp} (F : Fun K x qu st f fd) (S : FnScope N ps (defScope st)) (ln : ∀ xs H Q E, sp xs H Q E → xs.length = ps.length)
    (hb : ∀ (cv : Value) (A : Around) (out : List Env) (s : Shared) (H : Hp) (xs : List V) (Q : VK) (E : XK), Bare0 A → Room k (A.deeper (envOfC qu (defScope st) s.heap.objs.size f cv)) → sp xs H Q E →
      ∃ t, PSs (cxOf CX0 P w K mg base N qu (defScope st) f cv A out s H E).nox (defBody st) t ∧ t { nx := fun _ H2 => Q .non H2, rt := Q } (start N xs) H) : FnG P w K mg base CX0 (k + 1) f fd ps sp := by
  obtain ⟨oc, od, kV, doc, pm, an, cv, ct, osl, rfl, lk, hc⟩ := F.ex
  exact fnG_of lk hc S ln fun A out s H xs Q E hA hr hsp => by
    obtain ⟨t, h, q⟩ := hb cv A out s H xs Q E hA hr hsp
    exact ⟨t, h.nox, q⟩
end
section
variable {X : Cx} {CX : CXT} {k : Nat} {f : Addr} {fd : FuncData} {ps : List Str} {sp : Sp} {dvs : List V} {ds : List Value} {E : XK} {x : Str} {p pos : Pos} {e : Expr} {es : List Expr} {t : TA}
theorem runG {pins : List (Addr × Obj)} {σ : L2.St} {H : Hp} {s : Shared} {Q : VK} {us : List Value} {vs : List V} (hA : Bare0 X.A) (F : FnG X.prog X.w X.K X.mg X.base CX k f fd ps sp) (hr : Room k X.A) (hb : Binds X.K fd ps ds) (hd : Vals dvs ds) (hx : Passes CX X E)
    (I : Inv X pins σ H s) (rV : Vals vs us) (h : sp (vs ++ dvs) H Q E) : wpAny (model X.prog X.w) X.A (call (.ref f) us) (EP X pins σ Q) X.xe s := by
  have r3 : Vals (vs ++ dvs) (us ++ ds) := rV.append hd
  have hl : (us ++ ds).length = ps.length := by rw [← r3.length]; exact F.ln _ _ _ _ h
  refine wpAny_call (codeAny_mono (F.go X.A X.stack s H ⟨us, []⟩ (us ++ ds) (vs ++ dvs) Q E hA hr I.env0 (hb s us I.kIn hl) r3 h) fun z s2 hq => ?_)
  cases z with
  | error e => exact hx pins σ H s e s2 I hq
  | ok fl =>
    cases fl with
    | ret u => exact I.after hq
    | next => exact hq.elim
    | brk => exact hq.elim
    | cont => exact hq.elim
theorem pe_callG (hA : Bare0 X.A) (F : FnG X.prog X.w X.K X.mg X.base CX k f fd ps sp) (hr : Room k X.A) (hg : Gl X x) (hm : X.mg x = some (.ref f)) (hk : PySem.W.keepIn X.K (.ref f) = true) (hb : Binds X.K fd ps ds) (hd : Vals dvs ds) (hx : Passes CX X E)
    (ha : PA X (e :: es) t) (hdb : (x == ("__debug__" : Str)) = false := by decide) (he : starEach (e :: es) X.env = (false, eval e X.env) :: starEach es X.env := by rfl) (hpl : (backTo pos (starEach es X.env)).any (·.1) = false := by rfl) : PE X (.Call (.Name x p) (e :: es) [] pos) (tCall sp dvs E t) := by
  refine ⟨fun pins s σ H Q I h => wpAny_Call_Name_kw (ld_glob I hg hm ?_ hdb)⟩
  refine PySem.W.callWith_K (h₀ := X.base) I.ok.mod.kin hk (thn (ha.run pos pins s σ H _ I h) fun us s2 ⟨vs, H2, J, r, q⟩ => ⟨J.kIn, ?_⟩) he hpl
  exact runG hA F hr hb hd hx J r q
/-- repr(x) of lists, tuples at any depth -/
def rRepr (K : PySem.W.Frag) : List V → Hp → VK → Prop := fun vs H Q => ∃ (a : Addr) (d : PyData), vs = [.ref a] ∧ Dp K H (.ref a) d ∧ d.showable = true ∧ d.hasDict = false ∧ d.depth ≤ 60 ∧ d.shown.length ≤ sizeLine ∧ Q (.str d.shown) H
theorem cr_repr (hA : Bare0 X.A) (hu : X.A.units + 64 < cLine) : CallR X (.builtin "repr") (rRepr X.K) := by
  rintro pins s σ H xs us Q I r ⟨a, d, rfl, hd, h1, h2, h3, h4, q⟩
  cases r with
  | cons r0 rt =>
    cases rt
    cases r0
    obtain ⟨as, rd⟩ := Dp.reads I d (.ref a) (.ref a) hd rfl
    exact repr_of_reads' rd h1 (PyData.noDict_hsm h2) hA (by omega) (fun _ _ e => e) (fun h' u tk hk => ⟨.str d.shown, H, I.kept hk, ⟨u, rfl⟩, q⟩) h4
end
end Wr
end
-- EJr0
section
set_option Elab.async false
set_option linter.all false
set_option maxRecDepth 100000
set_option maxHeartbeats 1000000
namespace K1
open PySem PySem.Spec PyProof.Rows L2 W0
/-- their places -/
def jsOf (rs es : List (Str × Str)) : List Nat := es.map fun e => rs.idxOf e
theorem jsOf_at {rs : List (Str × Str)} : ∀ {es : List (Str × Str)}, (∀ e ∈ es, e ∈ rs) → AtPl rs (jsOf rs es) es
  | [], _ => .nil
  | e :: es, h => .cons (by
      have hl := List.idxOf_lt_length_of_mem (h e (List.mem_cons_self ..))
      rw [List.getElem?_eq_getElem hl, List.getElem_idxOf hl]) (jsOf_at fun x hx => h x (List.mem_cons_of_mem _ hx))
theorem jsOf_nodup {rs : List (Str × Str)} : ∀ {es : List (Str × Str)}, (∀ e ∈ es, e ∈ rs) → es.Nodup → (jsOf rs es).Nodup
  | [], _, _ => .nil
  | e :: es, h, nd => by
    have n := List.nodup_cons.mp nd
    refine List.nodup_cons.mpr ⟨fun z => ?_, jsOf_nodup (fun x hx => h x (List.mem_cons_of_mem _ hx)) n.2⟩
    obtain ⟨x, hx, ex⟩ := List.mem_map.mp z
    have h1 := List.idxOf_lt_length_of_mem (h e (List.mem_cons_self ..))
    have h2 := List.idxOf_lt_length_of_mem (h x (List.mem_cons_of_mem _ hx))
    have g1 := List.getElem_idxOf h1
    have g2 := List.getElem_idxOf h2
    have : x = e := by rw [← g1, ← g2]; simp only [ex]
    exact n.1 (by rw [← this]; exact hx)
theorem esOf_at {rs : List (Str × Str)} : ∀ {js : List Nat} {es : List (Str × Str)}, AtPl rs js es → esOf rs js = es
  | [], [], .nil => rfl
  | j :: js, e :: es, .cons a r => by
    unfold esOf
    rw [List.filterMap_cons, a]
    show e :: esOf rs js = _
    rw [esOf_at r]
theorem forest_nodup {rs : List (Str × Str)} (f : Forest rs) : rs.Nodup := by
  rw [List.nodup_iff_pairwise_ne, List.pairwise_iff_getElem]
  intro i j hi hj hij e
  have h1 := plOf_of f hi
  have h2 := plOf_of f hj
  rw [e, h2] at h1
  have := Option.some.inj h1
  omega
/-- an evening of the law: its roads' tuples, in some order -/
structure ClAt (a : Addr) (H : Hp) (c : Addr) (cq : List Addr) (rs es : List (Str × Str)) : Prop where
  h : H c = some (.lst (cq.map V.ref))
  n : c ≠ a
  pr : Paired (TupP H) cq es
  perm : es.Perm rs
theorem ClAt.kept {a : Addr} {H H' : Hp} {c : Addr} {cq : List Addr} {rs es : List (Str × Str)} {n : Nat} (v : ClAt a H c cq rs es) (s : Spr H a n) (k : Kept a H H') : ClAt a H' c cq rs es := ⟨k _ _ v.n v.h, v.n, TupP.kept v.pr s k, v.perm⟩
theorem ClAt.at_ {a : Addr} {H : Hp} {c : Addr} {cq : List Addr} {rs es : List (Str × Str)} (v : ClAt a H c cq rs es) (f : Forest rs) : AtPl rs (jsOf rs es) es ∧ (jsOf rs es).Nodup ∧ (jsOf rs es).length = rs.length := by
  have hin : ∀ e ∈ es, e ∈ rs := fun e he => v.perm.mem_iff.mp he
  exact ⟨jsOf_at hin, jsOf_nodup hin (v.perm.nodup_iff.mpr (forest_nodup f)), by unfold jsOf; rw [List.length_map, v.perm.length_eq]⟩
theorem ClAt.ends {a : Addr} {H : Hp} {c : Addr} {cq : List Addr} {ss : List Str} {rs es : List (Str × Str)} (v : ClAt a H c cq rs es) (h : EndsIn ss rs) : EndsIn ss es := fun r hr => h r (v.perm.mem_iff.mp hr)
theorem Cut.drop {es : List (Str × Str)} (m : Nat) (h : Cut es) : Cut (es.drop m) := by
  refine ⟨h.1.sublist (List.drop_sublist m es), fun e he => ?_⟩
  obtain ⟨c, h1, h2⟩ := h.2 e (List.mem_of_mem_drop he)
  exact ⟨c, h1, fun e' he' => h2 e' (List.mem_of_mem_drop he')⟩
/-- the law's own list, as it is handed -/
theorem ClAt.ev {a : Addr} {H : Hp} {c : Addr} {cq : List Addr} {rs es : List (Str × Str)} (v : ClAt a H c cq rs es) (f : Forest rs) (l : rs.length ≤ 1000) : EvV H rs (.ref c) (jsOf rs es) := by
  obtain ⟨at_, nd, len⟩ := v.at_ f
  have go : ∀ {cq : List Addr} {es : List (Str × Str)} {js : List Nat}, Paired (TupP H) cq es → AtPl rs js es → Paired (RoadV H rs) (cq.map V.ref) js := by
    intro cq es js h1
    induction h1 generalizing js with
    | nil => intro h2; cases h2; exact .nil
    | cons a _ ih =>
      intro h2
      cases h2 with
      | cons b r =>
        obtain ⟨hj, rfl⟩ := List.getElem?_eq_some_iff.mp b
        exact .cons ⟨_, _, ⟨_, rfl, .inr a⟩, plOf_of f hj⟩ (ih r)
  have lc : cq.length = rs.length := by rw [v.pr.length, v.perm.length_eq]
  exact ⟨⟨_, ⟨c, rfl, .inl v.h⟩, by rw [List.length_map]; omega, go v.pr at_, nd⟩, len⟩
end K1
end
-- EJr
section
set_option Elab.async false
set_option linter.all false
set_option maxRecDepth 100000
set_option maxHeartbeats 2000000
namespace K1
open PySem PySem.Spec PyProof.Rows L2 W0
abbrev sJr : Stmt := top 66
def spJr (C : Addr) : Sp := fun vs H Q _ => ∃ (a x t p1 p2 p3 c : Addr) (qs cq : List Addr) (ss : List Str) (rs es : List (Str × Str)) (ns : List Int) (m n : Nat), vs = [.ref a, .ref x, .ref t, .ref c, .int (m : Int)] ∧ Spr H a n ∧ n + 2000 ≤ 1000000 ∧ IsVO C a H x ss rs ns ∧ VAt a H t p1 p2 p3 qs ss rs ns ∧ VOk ss rs ns ∧ ClAt a H c cq rs es ∧ m ≤ rs.length ∧
  ∀ H', Kept a H H' → Spr H' a (n + 500) → Q (.bl true) H'
theorem scJr : FnScope ["spring", "made", "valley", "closing", "many", "handed", "lots", "was", "house", "lot", "due", "told"] ["spring", "made", "valley", "closing", "many"] (defScope sJr) := ⟨rfl, rfl, rfl, by decide +kernel, rfl, by decide +kernel, by decide +kernel⟩
theorem HandV.kept {K : PySem.W.Frag} {a : Addr} {H H' : Hp} {y : V} {es : List (Str × Str)} (h : HandV K H (fun z => z = a) y es) (k : Kept a H H') : HandV K H' (fun z => z = a) y es := by
  obtain ⟨es', t, r⟩ := h
  exact ⟨es', t, mon_seq (mon_seq mon_flat0) _ _ _ _ (wo_same fun b o nb e => k b o nb e) r⟩
theorem comp_eq {ss : List Str} {es : List (Str × Str)} {s u : Str} (h : rtOf es s = rtOf es u) : comp ss es s = comp ss es u := by
  unfold comp
  rw [h]
theorem lots_has {ss : List Str} {es : List (Str × Str)} {xs : List Str} {s : Str} (h : xs ∈ lotsOf ss es) (hs : s ∈ xs) : xs = comp ss es s := by
  obtain ⟨u, _, rfl⟩ := List.mem_map.mp h
  exact (comp_eq (mem_comp.mp hs).2).symm
theorem lots_in {ss : List Str} {es : List (Str × Str)} {s : Str} (hs : s ∈ ss) : comp ss es s ∈ lotsOf ss es := by
  have hm : s ∈ comp ss es s := mem_comp.mpr ⟨hs, rfl⟩
  cases hc : comp ss es s with
  | nil => rw [hc] at hm; cases hm
  | cons u r =>
    have hu : u ∈ comp ss es s := by rw [hc]; exact List.mem_cons_self ..
    have e := comp_eq (ss := ss) (mem_comp.mp hu).2
    refine List.mem_map.mpr ⟨u, List.mem_filter.mpr ⟨(mem_comp.mp hu).1, ?_⟩, by rw [e, hc]⟩
    rw [e, hc]
    exact decide_eq_true rfl
theorem EvV.ext {H H' : Hp} {rs : List (Str × Str)} {v : V} {js : List Nat} (h : EvV H rs v js) (e : Same H H') : EvV H' rs v js := by
  obtain ⟨⟨xs, a, b, c, d⟩, l⟩ := h
  exact ⟨⟨xs, a.ext e, b, paired_imp (fun _ _ z => z.ext e) c, d⟩, l⟩
section
variable {P : Program} {w : World} {K : PySem.W.Frag} {mg : Str → Option Value} {base : Heap} {C CC CN CM : Addr}
theorem ok_Jr {f fH fN fM fS fJ : Addr} {fd hd nd_ md sd jd : FuncData} (F : Fun K "_law_joined_right" "_law_joined_right" sJr f fd) (mrp : mg "repr" = none)
    (GH : FnOk P w K mg base CX0 4 fH hd ["spring", "evening"] (spHd K)) (bH : Binds K hd ["spring", "evening"] []) (kH : PySem.W.keepIn K (.ref fH) = true) (mH : mg "_law_v_handed" = some (.ref fH))
    (GN : FnOk P w K mg base CX0 1 fN nd_ ["valley", "closing", "many"] spNc) (bN : Binds K nd_ ["valley", "closing", "many"] []) (kN : PySem.W.keepIn K (.ref fN) = true) (mN : mg "_law_n_closed" = some (.ref fN))
    (GM : FnOk P w K mg base CX0 2 fM md ["spring", "some"] spMixed) (bM : Binds K md ["spring", "some"] []) (kM : PySem.W.keepIn K (.ref fM) = true) (mM : mg "_law_mixed" = some (.ref fM))
    (GS : FnOk P w K mg base CX0 2 fS sd ["found", "due"] (spSm (RF 2))) (bS : Binds K sd ["found", "due"] []) (kS : PySem.W.keepIn K (.ref fS) = true) (mS : mg "_law_same" = some (.ref fS))
    (GJ : FnOk P w K mg base (L2.CX P w) 8 fJ jd ["valley", "closing", "house", "many"] (spSj K C CC CN CM)) (bJ : Binds K jd ["valley", "closing", "house", "many"] []) (nJ : KBn K jd ["valley", "closing", "house", "many"] 0 ["many", "house", "closing", "valley"] kwR4v kwR4) (kJ : PySem.W.keepIn K (.ref fJ) = true) (mJ : mg "still_joined" = some (.ref fJ)) :
    Wr.FnG P w K mg base CX0 9 f fd ["spring", "made", "valley", "closing", "many"] (spJr C) := by
  refine Wr.okG F scJr (fun vs H Q E h => ?_) (fun cdv A outer s0 H vs Q E hA hr h => ?_)
  · obtain ⟨a, x, t, p1, p2, p3, c, qs, cq, ss, rs, es, ns, m, n, rfl, _⟩ := h
    rfl
  obtain ⟨a, x, t, p1, p2, p3, c, qs, cq, ss, rs, es, ns, m, n, rfl, hs, hn, iv, va, ok, cl, hm, q⟩ := h
  have nd := scJr.nd
  have hr1 : Room 1 _ := hr.mono (by decide)
  have hr2 : Room 2 _ := hr.mono (by decide)
  have hr4 : Room 4 _ := hr.mono (by decide)
  have hu := hr.units
  refine ⟨_, (pss_cons (by exact (ps_par (i := 5) (j := 6) rfl nd rfl rfl (by decide) rfl rfl (pa_cons (pe_call GH hr4 rfl mH kH bH .nil pass0 (pa_cons (pv 0) (pa_cons (pv 3) pa_nil))) (pa_cons (pe_call GN hr1 rfl mN kN bN .nil pass0 (pa_cons (pv 2) (pa_cons (pv 3) (pa_cons (pv 4) pa_nil)))) pa_nil)) (by rfl)))
  (pss_cons (by exact (ps_set (i := 7) nd rfl (.inl rfl) (pe_callB (Wr.cr_repr hA hu) rfl mrp (by decide +kernel) (pa_cons (pv 5) pa_nil))))
  (pss_cons (by exact (ps_for PassesOwn.never rfl (by exact pi_list (pe_slice sl_list (pe_call GM hr2 rfl mM kM bM .nil pass0 (pa_cons (pv 0) (pa_cons (pe_ix ix_tup (pv 2) pe_int (fun _ _ => rfl)) pa_nil))) po_none (po_some pe_int))) (pg_name (i := 8) nd rfl (.inr rfl)) (pss_cons (by exact (ps_set (i := 10) nd rfl (.inl rfl) (pe_ix ix_list (pe_lc (own := [("lot", 9)]) (g := gName 9) (tt := tTest (tOp (rIn K false) (tVar 8) (tVar 9))) (te := tVar 9) rfl nd (by exact pi_list (pv 6)) (by exact blkOk_by (N := ["spring", "made", "valley", "closing", "many", "handed", "lots", "was", "house", "lot", "due", "told"]) (sc := defScope sJr) (by decide +kernel)) (fun _ _ _ _ _ => by exact (pg_name (i := 9) nd rfl (.inl rfl))) (fun _ _ _ _ _ => by exact (pts_one (pt_cmpR op_in_seq (pv 8) (pv 9) (by with_unfolding_all rfl)))) (fun _ _ _ _ _ => by exact (pv 9))) pe_int (fun _ _ => rfl))))
  (pss_cons (by exact (ps_set (i := 11) nd rfl (.inl rfl) (pe_call GJ hr rfl mJ kJ bJ .nil passL (pa_cons (pv 1) (pa_cons (pv 5) (pa_cons (pv 8) (pa_cons (pv 4) pa_nil)))))))
  (pss_cons (by exact (ps_if (PW.pt (pw_or (pt_not (pt_val (pe_call GS hr2 rfl mS kS bS .nil pass0 (pa_cons (pv 11) (pa_cons (pv 10) pa_nil))))) (pw_or1 (pt_cmpR op_ne (pe_callB (Wr.cr_repr hA hu) rfl mrp (by decide +kernel) (pa_cons (pv 5) pa_nil)) (pv 7) (nomark _))))) (pss_one (by exact (ps_ret pe_bl))) pss_nil))
  (pss_cons (by exact (ps_expr (pe_bm PySem.F.plainAttrs_list PySem.F.slot_list_append PySem.F.type_list_append mt_append (pv 11) (pa_cons pe_str pa_nil))))
  (pss_one (by exact (ps_if (pt_not (pt_val (pe_call GS hr2 rfl mS kS bS .nil pass0 (pa_cons (pe_callN GJ hr rfl mJ kJ nJ passL (pk_cons (pv 4) (pk_cons (pv 8) (pk_cons (pv 3) (pk_cons (pv 1) pk_nil))))) (pa_cons (pv 10) pa_nil))))) (pss_one (by exact (ps_ret pe_bl))) pss_nil)))))))))
  (pss_one (by exact (ps_ret pe_bl)))))), ?_⟩
  have tr := ok.tree
  have lrs : rs.length ≤ 59 := by have := ok.rl; have := ok.le; omega
  have les : es.length = rs.length := cl.perm.length_eq
  have frs := ok.cut.forest
  have fd_ : Forest (es.drop m) := ((ok.cut.perm cl.perm).drop m).forest
  obtain ⟨at_, jnd, jlen⟩ := cl.at_ frs
  have eo : esOf rs ((jsOf rs es).drop m) = es.drop m := esOf_at (paired_drop m at_)
  have nms : ∀ e ∈ es, nameOk e.1 = true ∧ nameOk e.2 = true := fun e he => by
    have := cl.ends ok.ends e he
    exact ⟨(ok.good.2 _ this.1).1, (ok.good.2 _ this.2).1⟩
  refine ⟨_, rfl, _, rfl, a, c, cq, es, n, rfl, hs, by omega, cl.h, cl.n, cl.pr, by omega, fun y H1 k1 s1 hv => ?_⟩
  have va1 := va.kept hs k1
  have cl1 := cl.kept hs k1
  have iv1 := iv.kept hs k1
  refine ⟨_, rfl, _, rfl, _, rfl, t, p1, c, _, _, ss, cq, es, m, rfl, va1.t0, va1.h1, cl1.h, cl1.pr, ok.good.1, ok.le, cl1.ends ok.ends, fd_, by omega, fun r ls H2 e2 nr gr pls => ⟨_, _, rfl, ?_⟩⟩
  obtain ⟨b, d, rfl, d1, d2, d3, d4, dp⟩ := hand_show hv nms (by omega)
  have s2 := s1.same e2
  have k2 : Kept a H H2 := k1.trans (Kept.same e2)
  have dpk : ∀ {Hx : Hp}, Kept a H1 Hx → Dp K Hx (.ref b) d := fun kx => dp _ fun z o hz => kx _ _ (wo_some.mp hz).1 (wo_some.mp hz).2
  with_reducible refine sQ ?_
  refine ⟨_, rfl, b, d, rfl, dpk (Kept.same e2), d1, d2, d3, d4, ?_⟩
  refine K1.gN ?_
  with_reducible refine sQ ?_
  have va2 := va.kept hs k2
  refine ⟨_, rfl, _, rfl, t, _, _, _, rfl, rfl, SqT.of va2.t0, (rfl : atI [V.ref p1, V.ref p2, V.ref p3] 0 = some (.ref p1)), a, p1, ss.map V.str, _, rfl, s2, by omega, va2.h1, va2.n1, by rw [List.length_map]; have := ok.le; omega, fun r3 ys H3 pm nr3 n3 gr3 k3 s3 => ?_⟩
  refine ⟨3, rfl, r3, _, rfl, SqL.of gr3, fun c3 hc3 => ?_⟩
  have ce : cutV ys none (some 3) = ys.take 3 := cut_to ys 3
  rw [ce]
  have e4 := K1.Same.upd (H := H3) (p := c3) (o := .lst (ys.take 3)) hc3
  have g4 := upd_same' H3 c3 (.lst (ys.take 3))
  have s4 := s3.same e4
  generalize L2.upd H3 c3 (.lst (ys.take 3)) = H4 at e4 g4 s4 ⊢
  have k24 : Kept a H2 H4 := k3.trans (Kept.same e4)
  have k4 : Kept a H H4 := k2.trans k24
  have k14 : Kept a H1 H4 := (Kept.same e2).trans k24
  have ra : r ≠ a := s1.ne nr
  have va4 := va.kept hs k4
  have cl4 := cl.kept hs k4
  have iv4 := (iv.kept hs k4).is
  have gr4 : H4 r = some (.lst (ls.map V.ref)) := k24 _ _ ra gr
  have pl4 : Paired (fun (l : Addr) (xs : List Str) => H4 l = some (.lst (xs.map V.str))) ls (lotsOf ss (es.drop m)) := paired_imp (fun l xs h => k24 _ _ (s1.ne h.1) h.2) pls
  have ev4 : EvV H4 rs (.ref b) (jsOf rs es) := hand_ev frs (hv.kept k14) at_ jnd jlen
  have ec4 : EvV H4 rs (.ref c) (jsOf rs es) := cl4.ev frs (by omega)
  have dp4 : ∀ {Hx : Hp}, Same H4 Hx → Dp K Hx (.ref b) d := fun e => dpk (k14.trans (Kept.same e))
  have lls : ls.length ≤ 60 := by
    have := pl4.length
    unfold lotsOf at this
    rw [List.length_map] at this
    have h2 := List.length_filter_le (fun s => decide ((comp ss (es.drop m) s).head? = some s)) ss
    have := ok.le
    omega
  have lss := ok.le
  refine ⟨c3, rfl, ⟨_, SqL.of g4⟩, ?_⟩
  refine for_it walk_list (fun i σ Hc => (∃ x1 x2 x3 x4, σ = [some (.ref a), some (.ref x), some (.ref t), some (.ref c), some (.int (m : Int)), some (.ref b), some (.ref r), some (.str d.shown), x1, x2, x3, x4]) ∧ Same H4 Hc) ⟨⟨_, _, _, _, rfl⟩, Same.refl _⟩ (fun i σ Hc _ h => SqL.of (h.2 _ _ g4)) ?_ ?_
  · rintro i v σ Hc H' hi ⟨⟨x1, x2, x3, x4, rfl⟩, c1⟩ ⟨rfl, hv2⟩
    obtain ⟨s, hs', rfl⟩ : ∃ s, s ∈ ss ∧ v = .str s := by
      have h1 : v ∈ ys := List.mem_of_mem_take (List.mem_of_getElem? hv2)
      obtain ⟨s, h2, rfl⟩ := List.mem_map.mp (pm.mem_iff.mp h1)
      exact ⟨s, h2, rfl⟩
    refine K1.gN ?_
    with_reducible refine sQ ?_
    unfold tAsg
    refine ⟨_, rfl, r, rfl, ⟨_, SqL.of (c1 _ _ gr4)⟩, fun D hD => ?_⟩
    have lmr : (ls.map V.ref).length = ls.length := List.length_map ..
    refine lc_it (Qd := _) walk_list (fun i Hd => Same H' Hd ∧ ∃ us : List Addr, Hd D = some (.lst (us.map V.ref)) ∧ us.length ≤ i ∧ (∀ u ∈ us, H4 u = some (.lst ((comp ss (es.drop m) s).map V.str))) ∧ ((∃ (k : Nat) (xs : List Str), k < i ∧ (lotsOf ss (es.drop m))[k]? = some xs ∧ s ∈ xs) → us ≠ [])) ⟨K1.Same.upd hD, [], upd_same, Nat.le_refl _, fun u hu' => absurd hu' (by simp), fun ⟨k, _, hk, _⟩ => absurd hk (by omega)⟩ (fun i Hd _ h => SqL.of (h.1 _ _ (c1 _ _ gr4))) ?_ ?_
    · rintro j v Hd H'' hj ⟨f1, us, f2, f3, f4, f5⟩ ⟨rfl, hv3⟩
      rw [lmr] at hj
      have hjl : j < (lotsOf ss (es.drop m)).length := by rw [← pl4.length]; exact hj
      obtain ⟨l', el, gl⟩ := paired_get pl4 hjl
      have ev2 : v = .ref l' := by
        rw [List.getElem?_map, el] at hv3
        exact (Option.some.inj hv3).symm
      subst ev2
      refine ⟨rfl, ?_⟩
      refine ⟨_, rfl, _, rfl, l', _, rfl, .inl (SqL.of (f1 _ _ (c1 _ _ gl))), rfl, flat_strs, _, rfl, ?_⟩
      show if inV (V.str s) (((lotsOf ss (es.drop m))[j]).map V.str) = true then _ else _
      rw [inV_str]
      by_cases hin : s ∈ (lotsOf ss (es.drop m))[j]
      · rw [decide_eq_true hin]
        have ex := lots_has (List.getElem_mem hjl) hin
        refine iteT ⟨_, rfl, _, f2, by rw [List.length_map]; exact small1000 (by omega), ps_same_upd f1 hD, us ++ [l'], by rw [upd_same, List.map_append]; rfl, by rw [List.length_append]; exact Nat.succ_le_succ f3, fun u hu' => ?_, fun _ => by simp⟩
        rcases List.mem_append.mp hu' with hu' | hu'
        · exact f4 u hu'
        · rw [List.mem_singleton.mp hu', ← ex]
          exact gl
      · rw [decide_eq_false hin]
        refine iteF ⟨f1, us, f2, by omega, f4, fun ⟨k, xs, hk, ek, hx⟩ => f5 ⟨k, xs, ?_, ek, hx⟩⟩
        by_cases z : k = j
        · subst z
          rw [List.getElem?_eq_getElem hjl] at ek
          rw [Option.some.inj ek] at hin
          exact absurd hx hin
        · omega
    rintro Hd ⟨f1, us, f2, f3, f4, f5⟩
    have hne : us ≠ [] := by
      obtain ⟨k, hk, ek⟩ := List.mem_iff_getElem.mp (lots_in (es := es.drop m) hs')
      refine f5 ⟨k, _, by rw [lmr, pl4.length]; exact hk, List.getElem?_eq_getElem hk, ?_⟩
      rw [ek]
      exact mem_comp.mpr ⟨hs', rfl⟩
    obtain ⟨u0, us', rfl⟩ := List.exists_cons_of_ne_nil hne
    have gu := f4 u0 (List.mem_cons_self ..)
    refine ⟨D, _, 0, .ref u0, rfl, rfl, SqL.of f2, atI_nat (xs := (u0 :: us').map V.ref) (j := 0) (v := .ref u0) rfl, ?_⟩
    refine K1.gN ?_
    with_reducible refine sQ ?_
    have e4d := c1.trans f1
    have ss5 : ss.length ≤ 500 := Nat.le_trans lss (by decide)
    have lc : ((comp ss (es.drop m) s).map V.str).length ≤ 100 := by rw [List.length_map]; exact Nat.le_trans comp_len (by omega)
    refine ⟨_, rfl, _, rfl, _, rfl, _, rfl, x, .ref b, .str s, .int (m : Int), ss, rs, ns, rfl, iv4.same e4d, tr, ss5, .inr ⟨jsOf rs es, ev4.ext e4d, .inr ⟨s, rfl, hs', .inr ⟨m, rfl, hm, fun r5 H5 e5 nr5 gr5 => ?_⟩⟩⟩⟩
    rw [eo] at gr5
    refine K1.gN ?_
    with_reducible refine sQ ?_
    have e45 := e4d.trans e5
    have same5 : ∀ {Hx : Hp} {q5 : Addr}, Hx q5 = some (.lst ((comp ss (es.drop m) s).map V.str)) → Hx u0 = some (.lst ((comp ss (es.drop m) s).map V.str)) → RF 2 Hx (.ref q5) (.ref u0) := fun h1 h2 => r_lists (R := RF 1) h1 h2 lc (r_strs (R := RF 0) _)
    refine ⟨_, rfl, _, rfl, _, _, rfl, same5 gr5 (e45 _ _ gu), fun H6 e6 => ⟨_, rfl, iteF ?_⟩⟩
    have e46 := e45.trans e6
    refine ⟨_, rfl, b, d, rfl, dp4 e46, d1, d2, d3, d4, _, rfl, rfl, _, rfl, ?_⟩
    have dd : decide (V.str d.shown = V.str d.shown) = true := decide_eq_true rfl
    rw [dd]
    refine iteF ?_
    refine nQ ?_
    with_reducible refine sQ ?_
    have gr6 := e6 _ _ gr5
    have r5H : H4 r5 = none := e4d.free nr5
    refine ⟨_, rfl, .inl ⟨rfl, _, SqL.of gr6⟩, r5, _, _, rfl, rfl, gr6, Nat.lt_of_le_of_lt lc (by decide), ?_⟩
    have e47 : Same H4 (L2.upd H6 r5 (.lst ((comp ss (es.drop m) s).map V.str ++ [V.str "late"]))) := ps_same_upd e46 r5H
    generalize L2.upd H6 r5 (.lst ((comp ss (es.drop m) s).map V.str ++ [V.str "late"])) = H7 at e47 ⊢
    refine ⟨_, rfl, _, rfl, _, rfl, _, rfl, rfl, x, .ref c, .str s, .int (m : Int), ss, rs, ns, rfl, iv4.same e47, tr, ss5, .inr ⟨jsOf rs es, ec4.ext e47, .inr ⟨s, rfl, hs', .inr ⟨m, rfl, hm, fun r8 H8 e8 nr8 gr8 => ?_⟩⟩⟩⟩
    rw [eo] at gr8
    refine ⟨_, rfl, _, _, rfl, same5 gr8 (e8 _ _ (e47 _ _ gu)), fun H9 e9 => ⟨_, rfl, ?_⟩⟩
    exact iteF ⟨⟨_, _, _, _, rfl⟩, e47.trans (e8.trans e9)⟩
  · rintro σ Hc ⟨⟨x1, x2, x3, x4, rfl⟩, c1⟩
    exact q Hc (k4.trans (Kept.same c1)) ((s4.same c1).mono (by rw [List.length_map]; omega))
end
end K1
end
-- EPm
section
set_option Elab.async false
set_option linter.all false
set_option maxRecDepth 100000
set_option maxHeartbeats 1000000
namespace K1
open PySem PySem.Spec PyProof.Rows L2 W0
theorem wayPl_cons {rs : List (Str × Str)} {s u : Str} {r : List Str} : wayPl rs (s :: u :: r) = (plOf rs s u).getD 0 :: wayPl rs (u :: r) := rfl
/-- a road lies on the way just if its cut parts the two ends -/
theorem way_cut {rs : List (Str × Str)} {j : Nat} (hj : j < rs.length) (f : Forest rs) {c : Str → Bool} (c1 : c rs[j].1 ≠ c rs[j].2) (c2 : ∀ e ∈ rs, e ≠ rs[j] → c e.1 = c e.2) {s t : Str} {l : List Str} (h : Pt rs s l t) : j ∈ wayPl rs l ↔ c s ≠ c t := by
  induction h with
  | one s => exact ⟨(fun z => by cases z), fun z => absurd rfl z⟩
  | @cons s u t l q h n ih =>
    obtain ⟨r, rfl⟩ := h.head
    rw [wayPl_cons, List.mem_cons]
    have q2 := q
    rw [← plOf_nb] at q2
    obtain ⟨i, hi⟩ := Option.isSome_iff_exists.mp q2
    obtain ⟨hil, hie⟩ := plOf_at hi
    rw [hi]
    show j = i ∨ _ ↔ _
    by_cases e : j = i
    · subst e
      have csu : c s ≠ c u := by
        rcases hie with hie | hie
        · rw [hie] at c1; exact c1
        · rw [hie] at c1; exact c1.symm
      have hc : ∀ x y, nbB rs x y = true → ¬ (x = s ∧ y = u) → ¬ (x = u ∧ y = s) → c x = c y := by
        intro x y hxy n1 n2
        have ne : ∀ z : Str × Str, z ∈ rs → (z = (x, y) ∨ z = (y, x)) → z ≠ rs[j] := fun z _ hz ez => by
          rw [ez] at hz
          rcases hie with hie | hie <;> rw [hie] at hz <;> rcases hz with hz | hz <;> injection hz with z1 z2
          · exact n1 ⟨z1.symm, z2.symm⟩
          · exact n2 ⟨z2.symm, z1.symm⟩
          · exact n2 ⟨z1.symm, z2.symm⟩
          · exact n1 ⟨z2.symm, z1.symm⟩
        rcases nbB_iff.mp hxy with hm | hm
        · exact c2 _ hm (ne _ hm (.inl rfl))
        · exact (c2 _ hm (ne _ hm (.inr rfl))).symm
      have cut_ : c u = c t := h.col (a := s) (b := u) hc n
      exact ⟨fun _ => by rw [← cut_]; exact csu, fun _ => .inl rfl⟩
    · have csu : c s = c u := by
        have hm := List.getElem_mem hil
        have hne : rs[i] ≠ rs[j] := fun z => e ((List.getElem_inj (forest_nodup f)).mp z).symm
        have := c2 _ hm hne
        rcases hie with hie | hie <;> rw [hie] at this
        · exact this
        · exact this.symm
      rw [csu, ← ih]
      exact ⟨fun z => z.resolve_left e, .inr⟩
theorem way_swap {ss : List Str} {rs : List (Str × Str)} (tr : Tree ss rs) {s t : Str} {l l' : List Str} (h : Pt rs s l t) (h' : Pt rs t l' s) {j : Nat} (hj : j < rs.length) : j ∈ wayPl rs l ↔ j ∈ wayPl rs l' := by
  obtain ⟨c, c1, c2⟩ := tr.cut.2 rs[j] (List.getElem_mem hj)
  rw [way_cut hj tr.cut.forest c1 c2 h, way_cut hj tr.cut.forest c1 c2 h']
  exact ⟨fun z => z.symm, fun z => z.symm⟩
theorem way_ends {ss : List Str} {rs : List (Str × Str)} (tr : Tree ss rs) {s t : Str} {l : List Str} (h : Pt rs s l t) {j : Nat} (hj : j < rs.length) : j ∈ wayPl rs l ↔ rs[j].1 ∈ l ∧ rs[j].2 ∈ l := by
  constructor
  · intro hin
    obtain ⟨k, hk, ek⟩ := List.mem_iff_getElem.mp hin
    have lw : (wayPl rs l).length = l.length - 1 := by unfold wayPl; rw [List.length_map, List.length_zip, List.length_drop]; omega
    have h2 : k + 1 < l.length := by omega
    have nb := h.adj k h2
    rw [← plOf_nb] at nb
    obtain ⟨i, hi⟩ := Option.isSome_iff_exists.mp nb
    have e : (wayPl rs l)[k] = i := by
      unfold wayPl
      simp [Nat.add_comm, hi]
    have eij : i = j := e.symm.trans ek
    subst eij
    obtain ⟨_, hie⟩ := plOf_at hi
    have m1 : l[k] ∈ l := List.getElem_mem _
    have m2 : l[k + 1] ∈ l := List.getElem_mem _
    rcases hie with hie | hie <;> rw [hie]
    · exact ⟨m1, m2⟩
    · exact ⟨m2, m1⟩
  · rintro ⟨m1, m2⟩
    obtain ⟨c, c1, c2⟩ := tr.cut.2 rs[j] (List.getElem_mem hj)
    rw [way_cut hj tr.cut.forest c1 c2 h]
    intro e
    -- all houses of the way have one colour, unless the road lies on it
    have no : j ∉ wayPl rs l := fun z => (way_cut hj tr.cut.forest c1 c2 h).mp z e
    have all : ∀ {s t : Str} {l : List Str}, Pt rs s l t → j ∉ wayPl rs l → ∀ y ∈ l, c y = c s := by
      intro s t l h
      induction h with
      | one s => intro _ y hy; rw [List.mem_singleton.mp hy]
      | @cons s u t l q h n ih =>
        obtain ⟨r, rfl⟩ := h.head
        intro no y hy
        rw [wayPl_cons, List.mem_cons] at no
        have q2 := q
        rw [← plOf_nb] at q2
        obtain ⟨i, hi⟩ := Option.isSome_iff_exists.mp q2
        obtain ⟨hil, hie⟩ := plOf_at hi
        rw [hi] at no
        have hne : rs[i] ≠ rs[j] := fun z => no (.inl ((List.getElem_inj (forest_nodup tr.cut.forest)).mp z).symm)
        have csu : c s = c u := by
          have := c2 _ (List.getElem_mem hil) hne
          rcases hie with hie | hie <;> rw [hie] at this
          · exact this
          · exact this.symm
        rcases List.mem_cons.mp hy with rfl | hy
        · rfl
        · rw [csu]
          exact ih (fun z => no (.inr z)) y hy
    exact c1 ((all h no _ m1).trans (all h no _ m2).symm)
/-- roads that hold a way join its ends -/
theorem way_joined {rs es : List (Str × Str)} {s t : Str} {l : List Str} (h : Pt rs s l t) (q : ∀ (j : Nat) (hj : j < rs.length), j ∈ wayPl rs l → rs[j] ∈ es) : rtOf es s = rtOf es t := by
  induction h with
  | one s => rfl
  | @cons s u t l hq h n ih =>
    obtain ⟨r, rfl⟩ := h.head
    have q2 := hq
    rw [← plOf_nb] at q2
    obtain ⟨i, hi⟩ := Option.isSome_iff_exists.mp q2
    obtain ⟨hil, hie⟩ := plOf_at hi
    have hm := q i hil (by rw [wayPl_cons, hi]; exact List.mem_cons_self ..)
    have e1 : rtOf es rs[i].1 = rtOf es rs[i].2 := by
      obtain ⟨k, hk, ek⟩ := List.mem_iff_getElem.mp hm
      have := rt_joined (rs := es) hk es.length hk (Nat.le_refl _)
      rw [List.take_length, ek] at this
      exact this
    rw [← ih fun j hj hin => q j hj (by rw [wayPl_cons]; exact List.mem_cons_of_mem _ hin)]
    rcases hie with hie | hie <;> rw [hie] at e1
    · exact e1
    · exact e1.symm
/-- roads none of which crosses the cut of one on the way don't -/
theorem way_parted {ss : List Str} {rs es : List (Str × Str)} (tr : Tree ss rs) {s t : Str} {l : List Str} (h : Pt rs s l t) {j : Nat} (hj : j < rs.length) (hin : j ∈ wayPl rs l) (q : ∀ e ∈ es, e ∈ rs ∧ e ≠ rs[j]) : rtOf es s ≠ rtOf es t := by
  obtain ⟨c, c1, c2⟩ := tr.cut.2 rs[j] (List.getElem_mem hj)
  have ne := (way_cut hj tr.cut.forest c1 c2 h).mp hin
  intro z
  have cc := col_rt (c := c) _ (rfl : es.length = es.length) fun e he => c2 e (q e he).1 (q e he).2
  exact ne (by rw [← cc s, ← cc t, z])
end K1
end
-- ETr
section
set_option Elab.async false
set_option linter.all false
set_option maxRecDepth 100000
set_option maxHeartbeats 2000000
namespace K1
open PySem PySem.Spec PyProof.Rows L2 W0
abbrev sTr : Stmt := top 65
def spTr (C : Addr) : Sp := fun vs H Q _ => ∃ (a x t p1 p2 p3 c : Addr) (qs cq : List Addr) (ss : List Str) (rs es : List (Str × Str)) (ns : List Int) (s u : Str) (n : Nat), vs = [.ref a, .ref x, .ref t, .ref c, .str s, .str u] ∧ Spr H a n ∧ n + 2000 ≤ 1000000 ∧ IsVO C a H x ss rs ns ∧ VAt a H t p1 p2 p3 qs ss rs ns ∧ VOk ss rs ns ∧ ClAt a H c cq rs es ∧ s ∈ ss ∧ u ∈ ss ∧ s ≠ u ∧
  ∀ H', Kept a H H' → Spr H' a (n + 500) → Q (.bl true) H'
theorem scTr : FnScope ["spring", "made", "valley", "closing", "one", "other", "way", "pair", "roads", "road", "many", "found", "behind", "lots", "lot"] ["spring", "made", "valley", "closing", "one", "other"] (defScope sTr) := ⟨rfl, rfl, rfl, by decide +kernel, rfl, by decide +kernel, by decide +kernel⟩
/-- on the way -/
def onW (l : List Str) (e : Str × Str) : Bool := decide (e.1 ∈ l) && decide (e.2 ∈ l)
theorem onW_iff {l : List Str} {e : Str × Str} : onW l e = true ↔ e.1 ∈ l ∧ e.2 ∈ l := by
  unfold onW
  rw [Bool.and_eq_true, decide_eq_true_eq, decide_eq_true_eq]
theorem at_pl {rs : List (Str × Str)} : ∀ {js : List Nat} {es : List (Str × Str)}, AtPl rs js es → ∀ (k : Nat) (hk : k < js.length), ∃ (h : k < es.length) (hj : js[k] < rs.length), rs[js[k]] = es[k]
  | j :: js, e :: es, .cons a r, 0, hk => by
    obtain ⟨hj, e1⟩ := List.getElem?_eq_some_iff.mp a
    exact ⟨Nat.succ_pos _, hj, e1⟩
  | j :: js, e :: es, .cons a r, k + 1, hk => by
    obtain ⟨h, hj, e1⟩ := at_pl r k (by simpa using hk)
    exact ⟨Nat.succ_lt_succ h, hj, e1⟩
/-- both ways tell the same road, and the same number -/
theorem part_is {ss : List Str} {rs es : List (Str × Str)} {js : List Nat} (tr : Tree ss rs) (at_ : AtPl rs js es) {s u : Str} {l : List Str} (pl : Pt rs u l s) {m : Nat} (hm : m < es.length) (hw : onW l es[m] = true) (hmin : ∀ (k : Nat) (hkl : k < es.length), k < m → onW l es[k] = false)
    {m1 : Nat} {a b : Str} (p : PartAt rs js s u m1 a b ∨ PartAt rs js u s m1 a b) : m1 = m ∧ (a, b) = es[m] := by
  have ljs : js.length = es.length := at_.length
  have main : ∀ (h1 : m1 < js.length), js[m1] ∈ wayPl rs l → (∀ (k : Nat) (hk : k < m1), js[k] ∉ wayPl rs l) → rs[js[m1]]? = some (a, b) → m1 = m ∧ (a, b) = es[m] := by
    intro h1 h2 h3 h4
    have key : ∀ (k : Nat) (hk : k < js.length), js[k] ∈ wayPl rs l ↔ onW l (es[k]'(by omega)) = true := fun k hk => by
      obtain ⟨_, hj, e1⟩ := at_pl at_ k hk
      rw [way_ends tr pl hj, e1, onW_iff]
    have e1 : m1 = m := by
      rcases Nat.lt_trichotomy m1 m with z | z | z
      · have := (key m1 h1).mp h2
        rw [hmin m1 (by omega) z] at this
        cases this
      · exact z
      · exact absurd ((key m (by omega)).mpr hw) (h3 m z)
    subst e1
    obtain ⟨_, hj, e2⟩ := at_pl at_ m1 h1
    rw [List.getElem?_eq_getElem hj, e2] at h4
    exact ⟨rfl, (Option.some.inj h4).symm⟩
  rcases p with ⟨l1, p1, h1, h2, h3, h4⟩ | ⟨l1, p1, h1, h2, h3, h4⟩
  · have lt : ∀ (k : Nat) (hk : k < js.length), js[k] < rs.length := fun k hk => (at_pl at_ k hk).2.1
    exact main h1 ((way_swap tr p1 pl (lt _ h1)).mp h2) (fun k hk z => h3 k hk ((way_swap tr p1 pl (lt _ (by omega))).mpr z)) h4
  · have e := p1.uniq tr.cut pl
    subst e
    exact main h1 h2 h3 h4
section
variable {P : Program} {w : World} {K : PySem.W.Frag} {mg : Str → Option Value} {base : Heap} {C CC CN CS : Addr}
theorem ok_Tr {f fW fH fN fS fP : Addr} {fd wd hd nd_ sd pd : FuncData} (F : Fun K "_law_two_right" "_law_two_right" sTr f fd) (mn : mg "min" = none) (ma : mg "any" = none)
    (GW : FnOk P w K mg base CX0 2 fW wd ["valley", "one", "other"] spVw) (bW : Binds K wd ["valley", "one", "other"] []) (kW : PySem.W.keepIn K (.ref fW) = true) (mW : mg "_law_v_way" = some (.ref fW))
    (GH : FnOk P w K mg base CX0 4 fH hd ["spring", "evening"] (spHd K)) (bH : Binds K hd ["spring", "evening"] []) (kH : PySem.W.keepIn K (.ref fH) = true) (mH : mg "_law_v_handed" = some (.ref fH))
    (GN : FnOk P w K mg base CX0 1 fN nd_ ["valley", "closing", "many"] spNc) (bN : Binds K nd_ ["valley", "closing", "many"] []) (kN : PySem.W.keepIn K (.ref fN) = true) (mN : mg "_law_n_closed" = some (.ref fN))
    (GS : FnOk P w K mg base CX0 4 fS sd ["found", "due"] (spSm (RF 4))) (bS : Binds K sd ["found", "due"] []) (kS : PySem.W.keepIn K (.ref fS) = true) (mS : mg "_law_same" = some (.ref fS))
    (GP : FnOk P w K mg base (L2.CX P w) 8 fP pd ["valley", "closing", "one", "other"] (spPb K C CC CN CS)) (bP : Binds K pd ["valley", "closing", "one", "other"] []) (nP : KBn K pd ["valley", "closing", "one", "other"] 0 ["other", "one", "closing", "valley"] kwR4v kwR4) (kP : PySem.W.keepIn K (.ref fP) = true) (mP : mg "parted_by" = some (.ref fP)) :
    FnOk P w K mg base CX0 9 f fd ["spring", "made", "valley", "closing", "one", "other"] (spTr C) := by
  refine F.ok scTr (fun vs H Q E h => ?_) (fun cdv A outer s0 H vs Q E hr h => ?_)
  · obtain ⟨a, x, t, p1, p2, p3, c, qs, cq, ss, rs, es, ns, s, u, n, rfl, _⟩ := h
    rfl
  obtain ⟨a, x, t, p1, p2, p3, c, qs, cq, ss, rs, es, ns, s, u, n, rfl, hs, hn, iv, va, ok, cl, hss, huu, hne, q⟩ := h
  have nd := scTr.nd
  have hr1 : Room 1 _ := hr.mono (by decide)
  have hr2 : Room 2 _ := hr.mono (by decide)
  have hr4 : Room 4 _ := hr.mono (by decide)
  have hu65 : (A.deeper (envOfC "_law_two_right" (defScope sTr) s0.heap.objs.size f cdv)).units + 65 < cLine := by have := hr.un; omega
  refine ⟨_, (pss_cons (by exact (ps_set (i := 6) nd rfl (.inr rfl) (pe_call GW hr2 rfl mW kW bW .nil pass0 (pa_cons (pv 2) (pa_cons (pv 4) (pa_cons (pv 5) pa_nil))))))
  (pss_cons (by exact (ps_setLc (i := 8) (own := [("pair", 7)]) (g := gName 7) (tt := tAnd (tTest (tOp (rIn K false) (tOp (rIxT K) (tVar 7) (tC (.int 0))) (tVar 6))) (tTest (tOp (rIn K false) (tOp (rIxT K) (tVar 7) (tC (.int 1))) (tVar 6)))) (te := tVar 7) rfl nd rfl rfl (sw_true rfl rfl rfl (by decide +kernel)) (by exact pi_list (pe_ix ix_tup (pv 2) pe_int (fun _ _ => rfl))) (by exact blkOk_by (N := ["spring", "made", "valley", "closing", "one", "other", "way", "pair", "roads", "road", "many", "found", "behind", "lots", "lot"]) (sc := defScope sTr) (by decide +kernel)) (fun _ _ _ _ _ => by exact (pg_name (i := 7) nd rfl (.inl rfl))) (fun _ _ _ _ _ => by exact (pts_one (PW.pt (pw_and (pt_cmpR op_in_seq (pe_ix ix_tup (pv 7) pe_int (fun _ _ => rfl)) (pv 6) (by with_unfolding_all rfl)) (pw_and1 (pt_cmpR op_in_seq (pe_ix ix_tup (pv 7) pe_int (fun _ _ => rfl)) (pv 6) (by with_unfolding_all rfl))))))) (fun _ _ _ _ _ => by exact (pv 7))))
  (pss_cons (by exact (ps_set (i := 10) nd rfl (.inl rfl) (pe_callB (cr_min rfl) rfl mn (by decide +kernel) (pa_cons (pe_lc (own := [("road", 9)]) (g := gName 9) (tt := tYes) (te := tBM K "list" (rIndexD K) (tVar 3) (tCons (tVar 9) tNil)) rfl nd (by exact pi_list (pv 8)) (by exact blkOk_by (N := ["spring", "made", "valley", "closing", "one", "other", "way", "pair", "roads", "road", "many", "found", "behind", "lots", "lot"]) (sc := defScope sTr) (by decide +kernel)) (fun _ _ _ _ _ => by exact (pg_name (i := 9) nd rfl (.inl rfl))) (fun _ _ _ _ _ => by exact pts_nil) (fun _ _ _ _ _ => by exact (pe_bm PySem.F.plainAttrs_list PySem.F.slot_list_index PySem.F.type_list_index (mt_indexD hu65) (pv 3) (pa_cons (pv 9) pa_nil)))) pa_nil))))
  (pss_cons (by exact (ps_set (i := 11) nd rfl (.inl rfl) (pe_lst (pa_cons (pe_call GP hr rfl mP kP bP .nil passL (pa_cons (pv 1) (pa_cons (pe_call GH hr4 rfl mH kH bH .nil pass0 (pa_cons (pv 0) (pa_cons (pv 3) pa_nil))) (pa_cons (pv 4) (pa_cons (pv 5) pa_nil))))) pa_nil))))
  (pss_cons (by exact (ps_expr (pe_bm PySem.F.plainAttrs_list PySem.F.slot_list_append PySem.F.type_list_append mt_append (pv 11) (pa_cons (pe_callN GP hr rfl mP kP nP passL (pk_cons (pv 4) (pk_cons (pv 5) (pk_cons (pv 3) (pk_cons (pv 1) pk_nil))))) pa_nil))))
  (pss_cons (by exact (ps_if (pt_not (pt_val (pe_call GS hr4 rfl mS kS bS .nil pass0 (pa_cons (pv 11) (pa_cons (pe_op op_rep (pe_lst (pa_cons (pe_tup (pa_cons (pe_ix ix_list (pv 3) (pv 10) (fun _ _ => rfl)) (pa_cons (pv 10) pa_nil))) pa_nil)) pe_int) pa_nil))))) (pss_one (by exact (ps_ret pe_bl))) pss_nil))
  (pss_cons (by exact (ps_for PassesOwn.never rfl (by exact pi_tup (pe_tup (pa_cons (pv 10) (pa_cons (pe_op op_add (pv 10) pe_int) pa_nil)))) (pg_name (i := 12) nd rfl (.inl rfl)) (pss_cons (by exact (ps_set (i := 13) nd rfl (.inl rfl) (pe_call GN hr1 rfl mN kN bN .nil pass0 (pa_cons (pv 2) (pa_cons (pv 3) (pa_cons (pv 12) pa_nil))))))
  (pss_one (by exact (ps_if (pt_cmpR op_ne (pe_callB (cr_any rfl) rfl ma PyProof.Rows.boot_any (pa_cons (pe_lc (own := [("lot", 14)]) (g := gName 14) (tt := tYes) (te := tAndV (tOp (rIn K false) (tVar 4) (tVar 14)) (tOp (rIn K false) (tVar 5) (tVar 14))) rfl nd (by exact pi_list (pv 13)) (by exact blkOk_by (N := ["spring", "made", "valley", "closing", "one", "other", "way", "pair", "roads", "road", "many", "found", "behind", "lots", "lot"]) (sc := defScope sTr) (by decide +kernel)) (fun _ _ _ _ _ => by exact (pg_name (i := 14) nd rfl (.inl rfl))) (fun _ _ _ _ _ => by exact pts_nil) (fun _ _ _ _ _ => by exact (pe_and (pe_cmpR op_in_seq (pv 4) (pv 14) (by with_unfolding_all rfl)) (pe_one (pe_cmpR op_in_seq (pv 5) (pv 14) (by with_unfolding_all rfl)))))) pa_nil)) (pe_cmpR op_eq (pv 12) (pv 10) (nomark _)) (nomark _)) (pss_one (by exact (ps_ret pe_bl))) pss_nil))))))
  (pss_one (by exact (ps_ret pe_bl)))))))))), ?_⟩
  have tr := ok.tree
  have lrs : rs.length ≤ 59 := by have := ok.rl; have := ok.le; omega
  have lss := ok.le
  have les : es.length = rs.length := cl.perm.length_eq
  have lcq : cq.length = es.length := cl.pr.length
  have frs := ok.cut.forest
  obtain ⟨at_, jnd, jlen⟩ := cl.at_ frs
  have esd : es.Nodup := cl.perm.nodup_iff.mpr (forest_nodup frs)
  have nms : ∀ e ∈ es, nameOk e.1 = true ∧ nameOk e.2 = true := fun e he => by
    have := cl.ends ok.ends e he
    exact ⟨(ok.good.2 _ this.1).1, (ok.good.2 _ this.2).1⟩
  refine ⟨_, rfl, _, rfl, _, rfl, t, p1, p2, .ref p3, qs, ss, rs, s, u, rfl, va.t0, va.h1, va.h2, va.pr, tr, by omega, hss, huu, fun r l H1 e1 nr pl gr => ?_⟩
  have gr' : H1 r = some (.lst (l.reverse.map V.str)) := by rw [gr, List.map_reverse]
  have k1 : Kept a H H1 := Kept.same e1
  have va1 := va.kept hs k1
  have cl1 := cl.kept hs k1
  have iv1 := iv.kept hs k1
  have s1 := hs.same e1
  refine K1.gN ?_
  with_reducible refine sQ ?_
  unfold tAsg
  refine ⟨_, rfl, t, _, _, _, rfl, rfl, SqT.of va1.t0, (rfl : atI [V.ref p1, V.ref p2, V.ref p3] 1 = some (.ref p2)), p2, rfl, ⟨_, SqL.of va1.h2⟩, fun D hD => ?_⟩
  have lqs : qs.length = rs.length := va1.pr.length
  have lmq : (qs.map V.ref).length = rs.length := by rw [List.length_map, lqs]
  refine lc_it (Qd := _) walk_list (fun i Hc => Same H1 Hc ∧ ∃ (us : List Addr) (fs : List (Str × Str)), Hc D = some (.lst (us.map V.ref)) ∧ us.length ≤ i ∧ Paired (TupP H1) us fs ∧ fs = (rs.take i).filter (onW l)) ⟨K1.Same.upd hD, [], [], upd_same, Nat.le_refl _, .nil, rfl⟩ (fun i Hc _ h => SqL.of (h.1 _ _ va1.h2)) ?_ ?_
  · rintro i v Hc H' hi ⟨c1, us, fs, c2, c3, c4, c5⟩ ⟨rfl, hv⟩
    rw [lmq] at hi
    obtain ⟨tq, rfl, htq⟩ := paired_ref va1.pr hi hv
    have hT := c1 _ _ htq
    refine ⟨rfl, ?_⟩
    have us' : (rs.take (i + 1)).filter (onW l) = (rs.take i).filter (onW l) ++ if onW l rs[i] = true then [rs[i]] else [] := by
      rw [take_snoc hi, List.filter_append]
      congr 1
      rw [List.filter_cons, List.filter_nil]
    refine ⟨_, rfl, tq, _, 0, .str rs[i].1, rfl, rfl, SqT.of hT, rfl, _, rfl, r, _, rfl, .inl (SqL.of (c1 _ _ gr')), rfl, flat_strs, _, rfl, ?_⟩
    show if inV (V.str rs[i].1) (l.reverse.map V.str) = true then _ else _
    rw [inV_str]
    by_cases h1 : rs[i].1 ∈ l
    · rw [decide_eq_true (List.mem_reverse.mpr h1)]
      refine iteT ⟨_, rfl, tq, _, 1, .str rs[i].2, rfl, rfl, SqT.of hT, rfl, _, rfl, r, _, rfl, .inl (SqL.of (c1 _ _ gr')), rfl, flat_strs, _, rfl, ?_⟩
      show if inV (V.str rs[i].2) (l.reverse.map V.str) = true then _ else _
      rw [inV_str]
      by_cases h2 : rs[i].2 ∈ l
      · rw [decide_eq_true (List.mem_reverse.mpr h2)]
        rw [if_pos (onW_iff.mpr ⟨h1, h2⟩)] at us'
        refine iteT ⟨_, rfl, _, c2, by rw [List.length_map]; exact small1000 (by omega), ps_same_upd c1 hD, us ++ [tq], _, by rw [upd_same, List.map_append]; rfl, by rw [List.length_append]; exact Nat.succ_le_succ c3, ?_, us'.symm⟩
        rw [← c5]
        exact paired_snoc c4 htq
      · rw [decide_eq_false fun z => h2 (List.mem_reverse.mp z)]
        rw [if_neg (fun z => h2 (onW_iff.mp z).2), List.append_nil] at us'
        exact iteF ⟨c1, us, fs, c2, by omega, c4, by rw [us', c5]⟩
    · rw [decide_eq_false fun z => h1 (List.mem_reverse.mp z)]
      rw [if_neg (fun z => h1 (onW_iff.mp z).1), List.append_nil] at us'
      exact iteF (iteF ⟨c1, us, fs, c2, by omega, c4, by rw [us', c5]⟩)
  rintro H2 ⟨e2, us, fs, c2, c3, c4, c5⟩
  rw [lmq] at c3
  rw [lmq, List.take_length] at c5
  refine K1.gN ?_
  with_reducible refine sQ ?_
  unfold tCB
  refine cons_run ?_
  refine ⟨_, rfl, D, rfl, ⟨_, SqL.of c2⟩, fun D2 hD2 => ?_⟩
  have lmu : (us.map V.ref).length = fs.length := by rw [List.length_map, c4.length]
  have cl2 : ClAt a H2 c cq rs es := cl1.kept s1 (Kept.same e2)
  have fin : ∀ e ∈ fs, e ∈ es := fun e he => by
    rw [c5] at he
    exact cl.perm.mem_iff.mpr (List.mem_filter.mp he).1
  have shp : ∀ e ∈ es, SeqAt.shaped (.tuple [.str e.1, .str e.2]) = true := fun e he => by
    show ((PyData.strOk e.1 && (PyData.strOk e.2 && true)) && decide (max 0 (max 0 0) + 1 ≤ 64)) = true
    rw [strOk_of (nms e he).1, strOk_of (nms e he).2]
    rfl
  have lkm : (fs.map fun e => es.idxOf e).length = fs.length := List.length_map ..
  have lfs : fs.length ≤ 59 := by rw [c5]; exact Nat.le_trans (List.length_filter_le _ _) lrs
  refine lc_it (Qd := _) walk_list (fun i Hc => Same H2 Hc ∧ Hc D2 = some (.lst (intsV ((fs.map fun e => es.idxOf e).take i)))) ⟨K1.Same.upd hD2, upd_same⟩ (fun i Hc _ h => SqL.of (h.1 _ _ c2)) ?_ ?_
  · rintro i v Hc H' hi ⟨d1, d2⟩ ⟨rfl, hv⟩
    rw [lmu] at hi
    obtain ⟨tq, rfl, htq⟩ := paired_ref c4 hi hv
    have hT := d1 _ _ (e2 _ _ htq)
    refine ⟨rfl, ?_⟩
    unfold tYes
    refine iteT ?_
    have he := fin _ (List.getElem_mem hi)
    have hlt := List.idxOf_lt_length_of_mem he
    have hget := List.getElem_idxOf hlt
    have ch := d1 _ _ cl2.h
    have cp : Paired (TupP H') cq es := TupP.ext cl2.pr d1
    have hk : i < (fs.map fun e => es.idxOf e).length := by rw [lkm]; exact hi
    refine ⟨_, rfl, .inl ⟨rfl, _, SqL.of ch⟩, _, rfl, c, .ref tq, .tuple [.str fs[i].1, .str fs[i].2], es.map fun e : Str × Str => PyData.tuple [.str e.1, .str e.2], es.idxOf fs[i], .tuple [.str fs[i].1, .str fs[i].2], rfl, rfl, dp_dR ch cp, .tup (SqT.of hT) (.cons (.str _) (.cons (.str _) .nil)), shaped_dR nms, shp _ he, ?_, ?_, fun m z' hm' hz => ?_, ?_⟩
    · rw [List.getElem?_map, List.getElem?_eq_getElem hlt, hget]
      rfl
    · rw [eqv_pair]
      exact decide_eq_true rfl
    · have hml : m < es.length := by omega
      rw [List.getElem?_map, List.getElem?_eq_getElem hml] at hz
      obtain rfl := Option.some.inj hz
      show PyData.eqv (.tuple [.str es[m].1, .str es[m].2]) (.tuple [.str fs[i].1, .str fs[i].2]) = false
      rw [eqv_pair]
      refine decide_eq_false fun z => ?_
      have := List.Nodup.idxOf_getElem esd m hml
      rw [z] at this
      omega
    · refine ⟨_, d2, by unfold intsV; rw [List.length_map, List.length_take]; exact small1000 (by omega), ps_same_upd d1 hD2, ?_⟩
      rw [upd_same, take_snoc hk]
      unfold intsV
      rw [List.map_append, List.getElem_map]
      rfl
  rintro H3 ⟨e3, d2⟩
  rw [lmu, ← lkm, List.take_length] at d2
  have enm : intsV (fs.map fun e => es.idxOf e) = ((fs.map fun e => es.idxOf e).map fun k : Nat => (k : Int)).map V.int := by
    unfold intsV
    rw [List.map_map, List.map_map, List.map_map]
    rfl
  rw [enm] at d2
  have fne : fs ≠ [] := fun z => by
    have w1 : wayPl rs l ≠ [] := fun z => hne ((wayPl_ne pl).mp z).symm
    obtain ⟨j, hj⟩ := List.exists_mem_of_ne_nil _ w1
    have hjl := wayPl_lt (ss := ss) pl j hj
    have : rs[j] ∈ fs := by
      rw [c5]
      exact List.mem_filter.mpr ⟨List.getElem_mem hjl, onW_iff.mpr ((way_ends tr pl hjl).mp hj)⟩
    rw [z] at this
    cases this
  refine ⟨D2, _, rfl, SqL.of d2, by rw [List.length_map, lkm]; exact List.length_pos_iff.mpr fne, fun m' hm' hle => ?_⟩
  obtain ⟨k', hk', rfl⟩ := List.mem_map.mp hm'
  obtain ⟨e0, he0, rfl⟩ := List.mem_map.mp hk'
  have hml := List.idxOf_lt_length_of_mem (fin e0 he0)
  have hmg := List.getElem_idxOf hml
  have hmin : ∀ (k : Nat) (hkl : k < es.length), k < es.idxOf e0 → onW l es[k] = false := fun k hkl hk => by
    refine Bool.eq_false_iff.mpr fun z => ?_
    have hf : es[k] ∈ fs := by
      rw [c5]
      exact List.mem_filter.mpr ⟨cl.perm.mem_iff.mp (List.getElem_mem hkl), z⟩
    have := hle _ (List.mem_map.mpr ⟨_, List.mem_map.mpr ⟨_, hf, rfl⟩, rfl⟩)
    rw [List.Nodup.idxOf_getElem esd k hkl] at this
    omega
  have hw : onW l e0 = true := by
    rw [c5] at he0
    exact (List.mem_filter.mp he0).2
  rw [← hmg] at hw
  obtain ⟨m, em, hml, hw, hmin⟩ : ∃ (m : Nat), es.idxOf e0 = m ∧ ∃ hml : m < es.length, onW l es[m] = true ∧ ∀ (k : Nat) (hkl : k < es.length), k < m → onW l es[k] = false := ⟨_, rfl, hml, hw, hmin⟩
  rw [em]
  clear hm' hk' hle
  refine K1.gN ?_
  with_reducible refine sQ ?_
  have k3 : Kept a H H3 := k1.trans (Kept.same (e2.trans e3))
  have s3 := s1.same (e2.trans e3)
  have va3 := va.kept hs k3
  have cl3 := cl.kept hs k3
  have iv3 := iv.kept hs k3
  have ss5 : ss.length ≤ 500 := by omega
  refine ⟨_, rfl, _, rfl, _, rfl, a, c, cq, es, n, rfl, s3, by omega, cl3.h, cl3.n, cl3.pr, by omega, fun y H4 k34 s4 hv => ?_⟩
  have k4 : Kept a H H4 := k3.trans k34
  have va4 := va.kept hs k4
  have cl4 := cl.kept hs k4
  have iv4 := (iv.kept hs k4).is
  have ev4 : EvV H4 rs y (jsOf rs es) := hand_ev frs hv at_ jnd jlen
  have ec4 : EvV H4 rs (.ref c) (jsOf rs es) := cl4.ev frs (by omega)
  refine ⟨_, rfl, _, rfl, x, y, .str s, .str u, ss, rs, ns, rfl, iv4, tr, ss5, .inr ⟨jsOf rs es, ev4, .inr ⟨s, rfl, hss, .inr ⟨u, rfl, huu, .inr ⟨hne, fun r5 q5 m5 a5 b5 H5 e5 nr5 gr5 gq5 part5 => ?_⟩⟩⟩⟩⟩
  obtain ⟨rfl, eab⟩ := part_is tr at_ pl hml hw hmin (.inl part5)
  refine ⟨(by show 1 ≤ sizeLine; decide), fun L5 hL5 => ?_⟩
  have e6 := K1.Same.upd (H := H5) (p := L5) (o := .lst [.ref r5]) hL5
  have gL6 := upd_same' H5 L5 (.lst [.ref r5])
  generalize L2.upd H5 L5 (.lst [.ref r5]) = H6 at e6 gL6 ⊢
  have e46 := e5.trans e6
  have gr6 := e6 _ _ gr5
  have gq6 := e6 _ _ gq5
  have L5H : H4 L5 = none := e5.free hL5
  refine K1.gN ?_
  with_reducible refine sQ ?_
  refine ⟨_, rfl, .inl ⟨rfl, _, SqL.of gL6⟩, _, rfl, _, rfl, _, rfl, _, rfl, rfl, x, .ref c, .str u, .str s, ss, rs, ns, rfl, iv4.same e46, tr, ss5, .inr ⟨jsOf rs es, ec4.ext e46, .inr ⟨u, rfl, huu, .inr ⟨s, rfl, hss, .inr ⟨fun z => hne z.symm, fun r7 q7 m7 a7 b7 H7 e7 nr7 gr7 gq7 part7 => ?_⟩⟩⟩⟩⟩
  obtain ⟨rfl, eab7⟩ := part_is tr at_ pl hml hw hmin (.inr part7)
  have gL7 := e7 _ _ gL6
  refine ⟨L5, _, _, rfl, rfl, gL7, (by show 1 < sizeLine; decide), ?_⟩
  have L5r : L5 ≠ r5 := fun z => by rw [← z, gL6] at gr6; cases gr6
  have L5q : L5 ≠ q5 := fun z => by rw [← z, gL6] at gq6; cases gq6
  have L5r7 : L5 ≠ r7 := fun z => by rw [← z, gL7] at gr7; cases gr7
  have L5q7 : L5 ≠ q7 := fun z => by rw [← z, gL7] at gq7; cases gq7
  have e48 : Same H4 (L2.upd H7 L5 (.lst ([V.ref r5] ++ [V.ref r7]))) := ps_same_upd (e46.trans e7) L5H
  have gL8 : L2.upd H7 L5 (.lst ([V.ref r5] ++ [V.ref r7])) L5 = some (.lst [V.ref r5, V.ref r7]) := upd_same
  have gr58 : L2.upd H7 L5 (.lst ([V.ref r5] ++ [V.ref r7])) r5 = some (.tup [.ref q5, .int (m7 : Int)]) := by rw [upd_ne L5r.symm]; exact e7 _ _ gr6
  have gq58 : L2.upd H7 L5 (.lst ([V.ref r5] ++ [V.ref r7])) q5 = some (.tup [.str a5, .str b5]) := by rw [upd_ne L5q.symm]; exact e7 _ _ gq6
  have gr78 : L2.upd H7 L5 (.lst ([V.ref r5] ++ [V.ref r7])) r7 = some (.tup [.ref q7, .int (m7 : Int)]) := by rw [upd_ne L5r7.symm]; exact gr7
  have gq78 : L2.upd H7 L5 (.lst ([V.ref r5] ++ [V.ref r7])) q7 = some (.tup [.str a7, .str b7]) := by rw [upd_ne L5q7.symm]; exact gq7
  generalize L2.upd H7 L5 (.lst ([V.ref r5] ++ [V.ref r7])) = H8 at e48 gL8 gr58 gq58 gr78 gq78 ⊢
  with_reducible refine sQ ?_
  have cl8 : H8 c = some (.lst (cq.map V.ref)) := e48 _ _ cl4.h
  have hcq : (cq.map V.ref)[m7]? = some (.ref (cq[m7]'(by omega))) := by rw [List.getElem?_map, List.getElem?_eq_getElem (by omega)]; rfl
  obtain ⟨tm, etm, htm⟩ := paired_ref cl4.pr hml hcq
  have htm8 : H8 tm = some (.tup [.str es[m7].1, .str es[m7].2]) := e48 _ _ htm
  refine ⟨_, rfl, _, rfl, _, rfl, c, _, (m7 : Int), .ref tm, rfl, rfl, SqL.of cl8, atI_nat (j := m7) (by rw [hcq, etm]), _, rfl, (by show 2 ≤ sizeLine; decide), fun T hT => ?_⟩
  have e9 := K1.Same.upd (H := H8) (p := T) (o := .tup [.ref tm, .int (m7 : Int)]) hT
  have gT9 := upd_same' H8 T (.tup [.ref tm, .int (m7 : Int)])
  generalize L2.upd H8 T (.tup [.ref tm, .int (m7 : Int)]) = H9 at e9 gT9 ⊢
  refine ⟨(by show 1 ≤ sizeLine; decide), fun L9 hL9 => ?_⟩
  have e10 := K1.Same.upd (H := H9) (p := L9) (o := .lst [.ref T]) hL9
  have gL10 := upd_same' H9 L9 (.lst [.ref T])
  generalize L2.upd H9 L9 (.lst [.ref T]) = H10 at e10 gL10 ⊢
  refine ⟨L9, 2, _, rfl, rfl, gL10, by decide, by decide, (by show 1 * 2 ≤ sizeLine; decide), fun L11 hL11 => ?_⟩
  have e11 := K1.Same.upd (H := H10) (p := L11) (o := .lst [.ref T, .ref T]) hL11
  have gL11 : L2.upd H10 L11 (.lst (List.replicate (2 : Int).toNat [V.ref T]).flatten) L11 = some (.lst [.ref T, .ref T]) := upd_same
  have e11' : Same H10 (L2.upd H10 L11 (.lst (List.replicate (2 : Int).toNat [V.ref T]).flatten)) := K1.Same.upd hL11
  generalize L2.upd H10 L11 (.lst (List.replicate (2 : Int).toNat [V.ref T]).flatten) = H11 at e11' gL11 ⊢
  clear e11
  have e811 := e9.trans (e10.trans e11')
  have gT11 := e11' _ _ (e10 _ _ gT9)
  have ea : a5 = es[m7].1 ∧ b5 = es[m7].2 := ⟨congrArg Prod.fst eab, congrArg Prod.snd eab⟩
  have ea7 : a7 = es[m7].1 ∧ b7 = es[m7].2 := ⟨congrArg Prod.fst eab7, congrArg Prod.snd eab7⟩
  have pairE : ∀ {q : Addr} {a0 b0 : Str}, H11 q = some (.tup [.str a0, .str b0]) → a0 = es[m7].1 → b0 = es[m7].2 → RF 2 H11 (.ref q) (.ref tm) := fun h e1 e2 => by
    subst e1 e2
    exact r_tups (R := RF 1) h (e811 _ _ htm8) (by show 2 ≤ 100; decide) (.cons (r_str (R := RF 0) _) (.cons (r_str (R := RF 0) _) .nil))
  have tupE : ∀ {r q : Addr} {a0 b0 : Str}, H11 r = some (.tup [.ref q, .int (m7 : Int)]) → H11 q = some (.tup [.str a0, .str b0]) → a0 = es[m7].1 → b0 = es[m7].2 → RF 3 H11 (.ref r) (.ref T) := fun h h2 e1 e2 =>
    r_tups (R := RF 2) h gT11 (by show 2 ≤ 100; decide) (.cons (pairE h2 e1 e2) (.cons (r_int (R := RF 1) _) .nil))
  refine ⟨_, _, rfl, r_lists (R := RF 3) (e811 _ _ gL8) gL11 (by show 2 ≤ 100; decide) (.cons (tupE (e811 _ _ gr58) (e811 _ _ gq58) ea.1 ea.2) (.cons (tupE (e811 _ _ gr78) (e811 _ _ gq78) ea7.1 ea7.2) .nil)), fun H12 e12 => ⟨_, rfl, iteF ?_⟩⟩
  have e412 := e48.trans (e811.trans e12)
  refine nQ ?_
  with_reducible refine sQ ?_
  have va12 : VAt a H12 t p1 p2 p3 qs ss rs ns := va4.kept s4 (Kept.same e412)
  have cl12 : ClAt a H12 c cq rs es := cl4.kept s4 (Kept.same e412)
  refine ⟨_, rfl, _, rfl, _, _, rfl, rfl, ?_⟩
  refine ⟨(by show 2 ≤ sizeLine; decide), fun T2 hT2 => ?_⟩
  generalize hU : L2.upd H12 T2 _ = H13
  have e13 : Same H12 H13 := by rw [← hU]; exact K1.Same.upd hT2
  have gT13 : H13 T2 = some (.tup [.int (m7 : Int), .int ((m7 : Int) + 1)]) := by rw [← hU]; exact upd_same
  have e413 := e412.trans e13
  refine ⟨T2, rfl, ⟨_, SqT.of gT13⟩, ?_⟩
  refine for_it walk_tup (fun i σ Hc => (∃ x1 x2 x3 x4, σ = [some (.ref a), some (.ref x), some (.ref t), some (.ref c), some (.str s), some (.str u), some (.ref r), none, x1, none, some (.int (m7 : Int)), x2, x3, x4, none]) ∧ Same H13 Hc) ⟨⟨_, _, _, _, rfl⟩, Same.refl _⟩ (fun i σ Hc _ h => SqT.of (h.2 _ _ gT13)) ?_ ?_
  · rintro i v σ Hc H' hi ⟨⟨x1, x2, x3, x4, rfl⟩, c1⟩ ⟨rfl, hv⟩
    obtain ⟨k, rfl, hk⟩ : ∃ k : Nat, v = .int (k : Int) ∧ (k = m7 ∨ k = m7 + 1) := by
      have hv : ([V.int (m7 : Int), V.int ((m7 : Int) + 1)] : List V)[i]? = some v := hv
      rcases i with _ | _ | i
      · exact ⟨m7, (Option.some.inj hv).symm, .inl rfl⟩
      · exact ⟨m7 + 1, (Option.some.inj hv).symm, .inr rfl⟩
      · cases hv
    refine K1.gN ?_
    with_reducible refine sQ ?_
    have va13 : VAt a H' t p1 p2 p3 qs ss rs ns := va12.kept (s4.same e412) (Kept.same (e13.trans c1))
    have cl13 : ClAt a H' c cq rs es := cl12.kept (s4.same e412) (Kept.same (e13.trans c1))
    have fdk : Forest (es.drop k) := ((ok.cut.perm cl.perm).drop k).forest
    refine ⟨_, rfl, _, rfl, _, rfl, t, p1, c, _, _, ss, cq, es, k, rfl, va13.t0, va13.h1, cl13.h, cl13.pr, ok.good.1, ok.le, cl13.ends ok.ends, fdk, by omega, fun r2 ls H14 e14 nr2 gr2 pls => ?_⟩
    refine K1.gN ?_
    have pl14 : Paired (fun (l : Addr) (xs : List Str) => H14 l = some (.lst (xs.map V.str))) ls (lotsOf ss (es.drop k)) := paired_imp (fun l xs h => h.2) pls
    have lls : ls.length = (lotsOf ss (es.drop k)).length := pl14.length
    have llo : (lotsOf ss (es.drop k)).length ≤ 60 := by
      unfold lotsOf
      rw [List.length_map]
      exact Nat.le_trans (List.length_filter_le _ _) lss
    have lmr : (ls.map V.ref).length = (lotsOf ss (es.drop k)).length := by rw [List.length_map, lls]
    have lbm : ((lotsOf ss (es.drop k)).map fun xs => decide (s ∈ xs) && decide (u ∈ xs)).length = (lotsOf ss (es.drop k)).length := List.length_map ..
    refine ⟨_, rfl, r2, rfl, ⟨_, SqL.of gr2⟩, fun D3 hD3 => ?_⟩
    refine lc_it (Qd := _) walk_list (fun i Hc => Same H14 Hc ∧ Hc D3 = some (.lst ((((lotsOf ss (es.drop k)).map fun xs => decide (s ∈ xs) && decide (u ∈ xs)).take i).map V.bl))) ⟨K1.Same.upd hD3, upd_same⟩ (fun i Hc _ h => SqL.of (h.1 _ _ gr2)) ?_ ?_
    · rintro j v Hd H'' hj ⟨f1, f2⟩ ⟨rfl, hv3⟩
      rw [lmr] at hj
      obtain ⟨l', el, gl⟩ := paired_get pl14 hj
      have ev2 : v = .ref l' := by
        rw [List.getElem?_map, el] at hv3
        exact (Option.some.inj hv3).symm
      subst ev2
      refine ⟨rfl, ?_⟩
      unfold tYes
      refine iteT ?_
      have hk2 : j < ((lotsOf ss (es.drop k)).map fun xs => decide (s ∈ xs) && decide (u ∈ xs)).length := by rw [lbm]; exact hj
      have fin : ∀ b : Bool, b = (decide (s ∈ (lotsOf ss (es.drop k))[j]) && decide (u ∈ (lotsOf ss (es.drop k))[j])) → ∃ acc, H'' D3 = some (.lst acc) ∧ acc.length < sizeLine ∧ (Same H14 (L2.upd H'' D3 (.lst (acc ++ [V.bl b]))) ∧ L2.upd H'' D3 (.lst (acc ++ [V.bl b])) D3 = some (.lst ((((lotsOf ss (es.drop k)).map fun xs => decide (s ∈ xs) && decide (u ∈ xs)).take (j + 1)).map V.bl))) := by
        rintro b rfl
        refine ⟨_, f2, by rw [List.length_map, List.length_take]; exact small1000 (by omega), ps_same_upd f1 hD3, ?_⟩
        rw [upd_same, take_snoc hk2, List.map_append, List.getElem_map]
        rfl
      refine ⟨_, rfl, _, rfl, l', _, rfl, .inl (SqL.of (f1 _ _ gl)), rfl, flat_strs, _, rfl, ?_⟩
      show if inV (V.str s) (((lotsOf ss (es.drop k))[j]).map V.str) = true then _ else _
      rw [inV_str]
      by_cases h1 : s ∈ (lotsOf ss (es.drop k))[j]
      · rw [decide_eq_true h1] at fin ⊢
        refine iteT ⟨_, rfl, _, rfl, l', _, rfl, .inl (SqL.of (f1 _ _ gl)), rfl, flat_strs, ?_⟩
        refine fin _ ?_
        show inV (V.str u) (((lotsOf ss (es.drop k))[j]).map V.str) = _
        rw [inV_str, Bool.true_and]
      · rw [decide_eq_false h1] at fin ⊢
        exact iteF (fin false rfl)
    rintro H15 ⟨f1, f2⟩
    rw [lmr, ← lbm, List.take_length] at f2
    have any : (((lotsOf ss (es.drop k)).map fun xs => decide (s ∈ xs) && decide (u ∈ xs)).any id) = decide (k = m7) := by
      rw [Bool.eq_iff_iff, List.any_eq_true, decide_eq_true_eq]
      have two : (∃ x, x ∈ ((lotsOf ss (es.drop k)).map fun xs => decide (s ∈ xs) && decide (u ∈ xs)) ∧ id x = true) ↔ rtOf (es.drop k) s = rtOf (es.drop k) u := by
        constructor
        · rintro ⟨b, hb, hb2⟩
          obtain ⟨xs, hx, rfl⟩ := List.mem_map.mp hb
          have hb3 := Bool.and_eq_true_iff.mp hb2
          have h1 := of_decide_eq_true hb3.1
          have h2 := of_decide_eq_true hb3.2
          have e1 := lots_has hx h1
          rw [e1] at h2
          exact (mem_comp.mp h2).2.symm
        · intro h
          refine ⟨true, List.mem_map.mpr ⟨comp ss (es.drop k) s, lots_in hss, ?_⟩, rfl⟩
          rw [decide_eq_true (mem_comp.mpr ⟨hss, rfl⟩), decide_eq_true (mem_comp.mpr ⟨huu, h.symm⟩)]
          rfl
      rw [two]
      have hmr : es[m7] ∈ rs := cl.perm.mem_iff.mp (List.getElem_mem hml)
      rcases hk with rfl | rfl
      · refine ⟨fun _ => rfl, fun _ => ?_⟩
        have pj := way_joined (es := es.drop k) pl fun j hj hin => by
          have hrin : rs[j] ∈ es := cl.perm.mem_iff.mpr (List.getElem_mem hj)
          obtain ⟨q, hq, eq⟩ := List.mem_iff_getElem.mp hrin
          have wq : onW l es[q] = true := by rw [eq]; exact onW_iff.mpr ((way_ends tr pl hj).mp hin)
          have : k ≤ q := by
            rcases Nat.lt_or_ge q k with z | z
            · rw [hmin q hq z] at wq; cases wq
            · exact z
          rw [List.mem_drop_iff_getElem]
          exact ⟨q - k, by omega, by rw [← eq]; congr 1; omega⟩
        exact pj.symm
      · refine ⟨fun z => ?_, fun z => by omega⟩
        obtain ⟨j, hj, ej⟩ := List.mem_iff_getElem.mp hmr
        have hin : j ∈ wayPl rs l := (way_ends tr pl hj).mpr (by rw [ej]; exact onW_iff.mp hw)
        refine absurd z.symm (way_parted (es := es.drop (m7 + 1)) tr pl hj hin fun e he => ?_)
        refine ⟨cl.perm.mem_iff.mp (List.mem_of_mem_drop he), fun z2 => ?_⟩
        rw [List.mem_drop_iff_getElem] at he
        obtain ⟨q, hq, eq⟩ := he
        rw [← eq, ej] at z2
        have := (List.getElem_inj esd).mp z2
        omega
    refine ⟨D3, _, rfl, SqL.of f2, _, rfl, _, rfl, rfl, rfl, _, rfl, ?_⟩
    rw [any]
    have ek : decide (V.int (k : Int) = V.int (m7 : Int)) = decide (k = m7) := decide_eq_decide.mpr ⟨fun z => by have := V.int.inj z; omega, fun z => by rw [z]⟩
    rw [ek]
    have e0 : (!decide (V.bl (decide (k = m7)) = V.bl (decide (k = m7)))) = false := by rw [decide_eq_true rfl]; rfl
    rw [e0]
    exact iteF ⟨⟨_, _, _, _, rfl⟩, c1.trans (e14.trans f1)⟩
  · rintro σ Hc ⟨⟨x1, x2, x3, x4, rfl⟩, c1⟩
    exact q Hc (k4.trans (Kept.same (e413.trans c1))) ((s4.same (e413.trans c1)).mono (by omega))
end
end K1
end
-- EPut
section
set_option Elab.async false
set_option linter.all false
set_option maxRecDepth 100000
set_option maxHeartbeats 1000000
namespace K1
open PySem PySem.Spec PyProof.Rows L2 W0
abbrev sPu : Stmt := top 63
def spPu : Sp := fun vs H Q _ => ∃ (p o : Addr) (xs ys : List V), vs = [.ref p, .ref o] ∧ H p = some (.lst xs) ∧ H o = some (.lst ys) ∧ p ≠ o ∧ ys.length ≤ 1000 ∧ ∀ H', Kept p H H' → H' p = some (.lst ys) → Q (.ref p) H'
theorem scPu : FnScope ["held", "other"] ["held", "other"] (defScope sPu) := ⟨rfl, rfl, rfl, by decide +kernel, rfl, by decide +kernel, by decide +kernel⟩
section
variable {P : Program} {w : World} {K : PySem.W.Frag} {mg : Str → Option Value} {base : Heap}
theorem ok_Pu {f : Addr} {fd : FuncData} (F : Fun K "_law_v_put" "_law_v_put" sPu f fd) (B : Bl mg) : FnOk P w K mg base CX0 1 f fd ["held", "other"] spPu := by
  refine F.ok scPu (fun vs H Q E h => ?_) (fun cdv A outer s0 H vs Q E hr h => ?_)
  · obtain ⟨p, o, xs, ys, rfl, _⟩ := h
    rfl
  obtain ⟨p, o, xs, ys, rfl, hp, ho, ne, ly, q⟩ := h
  refine ⟨_, (pss_cons (by exact (ps_expr (pe_bm0 PySem.F.plainAttrs_list PySem.F.slot_list_clear PySem.F.type_list_clear mt_clear (pv 0))))
  (pss_cons (by exact (ps_if (pt_val (pe_callB call_isi rfl B.isi PyProof.Rows.boot_isinstance (pa_cons (pv 0) (pa_cons (pe_bltn (v := .ty "dict") rfl B.dict PyProof.Rows.boot_dict rfl) pa_nil)))) (pss_one ps_dead) (pss_one (by exact (ps_expr (pe_bm PySem.F.plainAttrs_list PySem.F.slot_list_extend PySem.F.type_list_extend mt_extend (pv 0) (pa_cons (pv 1) pa_nil)))))))
  (pss_one (by exact (ps_ret (pv 0)))))), ?_⟩
  refine ⟨_, rfl, .inl ⟨rfl, _, SqL.of hp⟩, p, xs, rfl, rfl, hp, ?_⟩
  have g1 : L2.upd H p (.lst []) p = some (.lst []) := upd_same
  have go : L2.upd H p (.lst []) o = some (.lst ys) := by rw [upd_ne ne.symm]; exact ho
  have k1 : Kept p H (L2.upd H p (.lst [])) := Kept.upd
  generalize L2.upd H p (.lst []) = H1 at g1 go k1 ⊢
  with_reducible refine sQ ?_
  refine ⟨_, rfl, .ref p, _, _, _, _, rfl, .ty "dict", .base (.lst g1), kit_dict (t := "list") (by decide), _, rfl, ?_⟩
  rw [show decide (("list" : String) = "dict") = false from rfl]
  refine iteF ?_
  refine ⟨_, rfl, .inl ⟨rfl, _, SqL.of g1⟩, _, rfl, p, o, _, _, rfl, rfl, g1, go, Nat.le_of_lt (small1000 (by simpa using ly)), ?_⟩
  exact ⟨_, rfl, q _ (k1.trans Kept.upd) upd_same⟩
end
end K1
end
-- EMet
section
set_option Elab.async false
set_option linter.all false
set_option maxRecDepth 100000
set_option maxHeartbeats 1000000
namespace K1
open PySem PySem.Spec PyProof.Rows L2 W0
abbrev sMt : Stmt := top 64
structure MetH (K : PySem.W.Frag) (mg : Str → Option Value) (CC CN CS CM : Addr) : Prop where
  mC : mg "BadClosing" = some (.ref CC)
  mN : mg "NoHouse" = some (.ref CN)
  mS : mg "SameHouse" = some (.ref CS)
  mM : mg "BadMany" = some (.ref CM)
  cc : PySem.W.exmOne K (.ref CC) (.ref CC) = some true
  nc : PySem.W.exmOne K (.ref CN) (.ref CC) = some false
  nn : PySem.W.exmOne K (.ref CN) (.ref CN) = some true
  sc : PySem.W.exmOne K (.ref CS) (.ref CC) = some false
  sn : PySem.W.exmOne K (.ref CS) (.ref CN) = some false
  ss : PySem.W.exmOne K (.ref CS) (.ref CS) = some true
  mc : PySem.W.exmOne K (.ref CM) (.ref CC) = some false
  mn : PySem.W.exmOne K (.ref CM) (.ref CN) = some false
  ms : PySem.W.exmOne K (.ref CM) (.ref CS) = some false
  mm : PySem.W.exmOne K (.ref CM) (.ref CM) = some true
  xC : XfC K CC
  xN : XfC K CN
  xS : XfC K CS
  xM : XfC K CM
  iC : PySem.W.findIn K (.ref CC) "closing" = some none
  iN : PySem.W.findIn K (.ref CN) "house" = some none
  iS : PySem.W.findIn K (.ref CS) "house" = some none
  iM : PySem.W.findIn K (.ref CM) "many" = some none
/-- what an asker is told, or how it is refused -/
def XMet (CC CN CS CM : Addr) (Q : VK) : XK := fun cls d H' => (cls = .ref CC ∧ ∃ dd v, d = some dd ∧ H' dd = some (.xd [("closing", v)]) ∧ ∀ p, H' p = none → Q (.ref p) (upd H' p (.tup [.str "closing", v]))) ∨
  (cls = .ref CN ∧ ∃ dd v, d = some dd ∧ H' dd = some (.xd [("house", v)]) ∧ ∀ p, H' p = none → Q (.ref p) (upd H' p (.tup [.str "house", v]))) ∨
  (cls = .ref CS ∧ ∃ dd v, d = some dd ∧ H' dd = some (.xd [("house", v)]) ∧ ∀ p, H' p = none → Q (.ref p) (upd H' p (.tup [.str "same", v]))) ∨
  (cls = .ref CM ∧ ∃ dd v, d = some dd ∧ H' dd = some (.xd [("many", v)]) ∧ ∀ p, H' p = none → Q (.ref p) (upd H' p (.tup [.str "many", v])))
def TMt (CC CN CS CM : Addr) : (XK → Hp → VK → Prop) → Hp → VK → Prop := fun tl H Q =>
  tl (XMet CC CN CS CM Q) H (fun v H1 => [V.str "told", v].length ≤ sizeLine ∧ ∀ p, H1 p = none → Q (.ref p) (upd H1 p (.tup [.str "told", v])))
theorem scMt : FnScope ["ask", "e"] ["ask"] (defScope sMt) := ⟨rfl, rfl, rfl, by decide +kernel, rfl, by decide +kernel, by decide +kernel⟩
theorem set_get {α : Type} {l : List α} {i : Nat} {x : α} (h : i < l.length) : (l.set i x)[i]? = some x := by rw [List.getElem?_set_self h]
theorem mt_gives {X : Cx} {g CC CN CS CM : Addr} {cdg : Value} {q : Str} (F : MetH X.K X.mg CC CN CS CM) : LamX.GivesTo X ["ask", "e"] "_law_met" (defScope sMt) g cdg (defBody sMt) "ask" q (TMt CC CN CS CM) := by
  intro f c' s H Q tl act hc h
  have nd := scMt.nd
  refine ⟨_, pss_one (ps_try_some (i := 1) (X := (cxOf C8.CX0 X.prog X.w X.K X.mg X.base ["ask", "e"] "_law_met" (defScope sMt) g cdg X.A X.stack s H C8.E0).nox)
      (l := [(.ref CC, fun a cls d => tRet (tTup (tCons (tC (.str "closing")) (tCons (tXf a cls d CC "closing" (tVar 1)) tNil)))), (.ref CN, fun a cls d => tRet (tTup (tCons (tC (.str "house")) (tCons (tXf a cls d CN "house" (tVar 1)) tNil)))), (.ref CS, fun a cls d => tRet (tTup (tCons (tC (.str "same")) (tCons (tXf a cls d CS "house" (tVar 1)) tNil)))), (.ref CM, fun a cls d => tRet (tTup (tCons (tC (.str "many")) (tCons (tXf a cls d CM "many" (tVar 1)) tNil))))])
      (tb := fun W D σ H => ∃ Ech : XK, (∀ cls d σ' H', Ech cls d H' → W cls d σ' H') ∧ σ[0]? = some (some (.ref f)) ∧ H c' = some (LamX.CodeO c' q) ∧ tl Ech H (fun v H1 => [V.str "told", v].length ≤ sizeLine ∧ ∀ p, H1 p = none → D.rt (.ref p) (upd H1 p (.tup [.str "told", v]))))
      rfl rfl nd rfl rfl LamX.takes0 (fun W pn xe tk _ => ?_)
      (.cons ⟨rfl, by decide, .inl F.mC⟩ (fun a oe cls d pn hz hf => pss_one (by exact ps_ret (pe_tup (pa_cons pe_str (pa_cons (pe_xf F.xC F.iC hz hf (pv 1)) pa_nil)))))
        (.cons ⟨rfl, by decide, .inl F.mN⟩ (fun a oe cls d pn hz hf => pss_one (by exact ps_ret (pe_tup (pa_cons pe_str (pa_cons (pe_xf F.xN F.iN hz hf (pv 1)) pa_nil)))))
          (.cons ⟨rfl, by decide, .inl F.mS⟩ (fun a oe cls d pn hz hf => pss_one (by exact ps_ret (pe_tup (pa_cons pe_str (pa_cons (pe_xf F.xS F.iS hz hf (pv 1)) pa_nil)))))
            (.cons ⟨rfl, by decide, .inl F.mM⟩ (fun a oe cls d pn hz hf => pss_one (by exact ps_ret (pe_tup (pa_cons pe_str (pa_cons (pe_xf F.xM F.iM hz hf (pv 1)) pa_nil))))) .nil))))), ?_⟩
  · refine ⟨fun pins s' σ H' D I h' => ?_⟩
    obtain ⟨Ech, hW, h1, h2, h3⟩ := h'
    exact (pss_one (ps_ret (pe_tup (pa_cons pe_str (pa_cons (act W pn xe Ech _ _ tk hW) pa_nil))))).run pins s' σ H' D I ⟨h1, h2, h3⟩
  · refine ⟨_, fun cls d σ' H' hE hl => ?_, rfl, hc, h⟩
    have s1 : ∀ a : Addr, (σ'.set 1 (some (V.ref a)))[1]? = some (some (V.ref a)) := fun a => set_get (by rw [hl]; exact (by decide : 1 < 2))
    rcases hE with ⟨rfl, dd, v, rfl, hx, qq⟩ | ⟨rfl, dd, v, rfl, hx, qq⟩ | ⟨rfl, dd, v, rfl, hx, qq⟩ | ⟨rfl, dd, v, rfl, hx, qq⟩
    · refine ⟨true, F.cc, And.intro (fun _ a _ => ?_) (fun z => Bool.noConfusion z)⟩
      exact ⟨_, s1 a, rfl, rfl, dd, _, v, rfl, hx, rfl, (by show 2 ≤ sizeLine; decide), qq⟩
    · refine ⟨false, F.nc, And.intro (fun z => Bool.noConfusion z) (fun _ => ⟨true, F.nn, And.intro (fun _ a _ => ?_) (fun z => Bool.noConfusion z)⟩)⟩
      exact ⟨_, s1 a, rfl, rfl, dd, _, v, rfl, hx, rfl, (by show 2 ≤ sizeLine; decide), qq⟩
    · refine ⟨false, F.sc, And.intro (fun z => Bool.noConfusion z) (fun _ => ⟨false, F.sn, And.intro (fun z => Bool.noConfusion z) (fun _ => ⟨true, F.ss, And.intro (fun _ a _ => ?_) (fun z => Bool.noConfusion z)⟩)⟩)⟩
      exact ⟨_, s1 a, rfl, rfl, dd, _, v, rfl, hx, rfl, (by show 2 ≤ sizeLine; decide), qq⟩
    · refine ⟨false, F.mc, And.intro (fun z => Bool.noConfusion z) (fun _ => ⟨false, F.mn, And.intro (fun z => Bool.noConfusion z) (fun _ => ⟨false, F.ms, And.intro (fun z => Bool.noConfusion z) (fun _ => ⟨true, F.mm, And.intro (fun _ a _ => ?_) (fun z => Bool.noConfusion z)⟩)⟩)⟩)⟩
      exact ⟨_, s1 a, rfl, rfl, dd, _, v, rfl, hx, rfl, (by show 2 ≤ sizeLine; decide), qq⟩
end K1
end
-- NOdd
section
set_option Elab.async false
set_option linter.all false
set_option maxRecDepth 100000
set_option maxHeartbeats 1000000
namespace K1
open PySem PySem.Spec PyProof.Rows L2
abbrev sOdd : Stmt := top 60
/-! displays, over a heap that is known: what they make is new, all else stays -/
abbrev PV := Hp → V → Prop
structure Mr (H0 : Hp) (t : TE) (σ : L2.St) (P : PV) : Prop where
  mono : ∀ H H' v, Same H H' → P H v → P H' v
  run : ∀ H, Same H0 H → ∀ Q : VK, (∀ v H', Same H H' → P H' v → Q v H') → t σ H Q
structure MrA (H0 : Hp) (t : TA) (σ : L2.St) (Ps : List PV) : Prop where
  mono : ∀ P ∈ Ps, ∀ H H' v, Same H H' → P H v → P H' v
  run : ∀ H, Same H0 H → ∀ Q : List V → Hp → Prop, (∀ vs H', Same H H' → Paired (fun v P => P H' v) vs Ps → Q vs H') → t σ H Q
abbrev eqP (x : V) : PV := fun _ v => v = x
def tupP (Ps : List PV) : PV := fun H v => ∃ p xs, v = .ref p ∧ H p = some (.tup xs) ∧ Paired (fun v P => P H v) xs Ps
def lstP (Ps : List PV) : PV := fun H v => ∃ p xs, v = .ref p ∧ H p = some (.lst xs) ∧ Paired (fun v P => P H v) xs Ps
def dicP : PV := fun H v => ∃ p, v = .ref p ∧ H p = some (.dK [])
section
variable {H0 : Hp} {σ : L2.St} {t : TE} {ta : TA} {P : PV} {Ps : List PV}
theorem mr_c (x : V) : Mr H0 (tC x) σ (eqP x) := ⟨fun _ _ _ _ h => h, fun H _ Q q => q x H (Same.refl _) rfl⟩
theorem mr_v {i : Nat} {x : V} (h : σ[i]? = some (some x) := by rfl) : Mr H0 (tVar i) σ (eqP x) := ⟨fun _ _ _ _ h => h, fun H _ Q q => ⟨x, h, q x H (Same.refl _) rfl⟩⟩
theorem mr_ix {K : PySem.W.Frag} {i : Nat} {p : Addr} {xs : List V} {x : V} (h : σ[i]? = some (some (.ref p))) (hp : H0 p = some (.lst xs)) (hx : atI xs 0 = some x) : Mr H0 (tOp (rIxL K) (tVar i) (tC (.int 0))) σ (eqP x) :=
  ⟨fun _ _ _ _ h => h, fun H e Q q => ⟨_, h, p, xs, 0, x, rfl, rfl, SqL.of (e _ _ hp), hx, q x H (Same.refl _) rfl⟩⟩
theorem mr_nil : MrA H0 tNil σ [] := ⟨fun P h => absurd h (by simp), fun H _ Q q => q [] H (Same.refl _) .nil⟩
theorem mr_cons (h1 : Mr H0 t σ P) (h2 : MrA H0 ta σ Ps) : MrA H0 (tCons t ta) σ (P :: Ps) := by
  refine ⟨fun P' h => ?_, fun H e Q q => h1.run H e _ fun v H1 e1 p1 => h2.run H1 (e.trans e1) _ fun vs H2 e2 p2 => q _ H2 (e1.trans e2) (.cons (h1.mono _ _ _ e2 p1) p2)⟩
  rcases List.mem_cons.mp h with rfl | h
  · exact h1.mono
  · exact h2.mono P' h
theorem paired_mono {H H' : Hp} (e : Same H H') : ∀ {xs : List V} {Ps : List PV}, (∀ P ∈ Ps, ∀ H H' v, Same H H' → P H v → P H' v) → Paired (fun v P => P H v) xs Ps → Paired (fun v P => P H' v) xs Ps
  | _, _, _, .nil => .nil
  | _, _, m, .cons f r => .cons (m _ (List.mem_cons_self ..) _ _ _ e f) (paired_mono e (fun P h => m P (List.mem_cons_of_mem _ h)) r)
theorem mr_tup (h : MrA H0 ta σ Ps) (l : Ps.length ≤ 1000 := by exact Nat.le_of_ble_eq_true rfl) : Mr H0 (tTup ta) σ (tupP Ps) := by
  refine ⟨fun H H' v e ⟨p, xs, a, b, c⟩ => ⟨p, xs, a, e _ _ b, paired_mono e h.mono c⟩, fun H e0 Q q => h.run H e0 _ fun vs H1 e1 p1 => ⟨?_, fun p hp => ?_⟩⟩
  · rw [p1.length]
    exact Nat.le_trans l (by decide)
  · have e := K1.Same.upd (H := H1) (p := p) (o := .tup vs) hp
    exact q _ _ (e1.trans e) ⟨p, vs, rfl, upd_same, paired_mono e h.mono p1⟩
theorem mr_lst (h : MrA H0 ta σ Ps) (l : Ps.length ≤ 1000 := by exact Nat.le_of_ble_eq_true rfl) : Mr H0 (tLst ta) σ (lstP Ps) := by
  refine ⟨fun H H' v e ⟨p, xs, a, b, c⟩ => ⟨p, xs, a, e _ _ b, paired_mono e h.mono c⟩, fun H e0 Q q => h.run H e0 _ fun vs H1 e1 p1 => ⟨?_, fun p hp => ?_⟩⟩
  · rw [p1.length]
    exact Nat.le_trans l (by decide)
  · have e := K1.Same.upd (H := H1) (p := p) (o := .lst vs) hp
    exact q _ _ (e1.trans e) ⟨p, vs, rfl, upd_same, paired_mono e h.mono p1⟩
theorem mr_dict : Mr H0 tDNewK σ dicP := ⟨fun H H' v e ⟨p, a, b⟩ => ⟨p, a, e _ _ b⟩, fun H _ Q q => fun p hp => q _ _ (K1.Same.upd hp) ⟨p, rfl, upd_same⟩⟩
end
/-- the nine things that are no house -/
def oddPs (s : Str) : List PV := [eqP .non, eqP (.int 5), eqP (.str "nobody"), eqP (.str ""), eqP (.bl true), lstP [eqP (.str s)], tupP [eqP (.str s)], dicP, eqP (.int 0)]
def spOdd : Sp := fun vs H Q _ => ∃ (p : Addr) (s : Str) (ss : List Str), vs = [.ref p] ∧ H p = some (.lst ((s :: ss).map V.str)) ∧ ∀ v H', Same H H' → lstP (oddPs s) H' v → Q v H'
theorem scOdd : FnScope ["names"] ["names"] (defScope sOdd) := ⟨rfl, rfl, rfl, by decide +kernel, rfl, by decide +kernel, by decide +kernel⟩
section
variable {P : Program} {w : World} {K : PySem.W.Frag} {mg : Str → Option Value} {base : Heap}
theorem ok_Odd {f : Addr} {fd : FuncData} (F : Fun K "_law_v_odd_houses" "_law_v_odd_houses" sOdd f fd) : FnOk P w K mg base CX0 1 f fd ["names"] spOdd := by
  refine F.ok scOdd (fun vs H Q E h => ?_) (fun cdv A outer s H vs Q E hr h => ?_)
  · obtain ⟨p, s, ss, rfl, _⟩ := h
    rfl
  obtain ⟨p, s, ss, rfl, hp, q⟩ := h
  refine ⟨_, (pss_one (by exact (ps_ret (pe_lst (pa_cons pe_non (pa_cons pe_int (pa_cons pe_str (pa_cons pe_str (pa_cons pe_bl (pa_cons (pe_lst (pa_cons (pe_ix ix_list (pv 0) pe_int (fun _ _ => rfl)) pa_nil)) (pa_cons (pe_tup (pa_cons (pe_ix ix_list (pv 0) pe_int (fun _ _ => rfl)) pa_nil)) (pa_cons pe_dnewK (pa_cons pe_int pa_nil))))))))))))), ?_⟩
  have a0 : atI ((s :: ss).map V.str) 0 = some (.str s) := atI_nat (j := 0) rfl
  have ix : ∀ {K : PySem.W.Frag}, Mr H (tOp (rIxL K) (tVar 0) (tC (.int 0))) (L2.start ["names"] [.ref p]) (eqP (.str s)) := mr_ix rfl hp a0
  exact (mr_lst (mr_cons (mr_c _) (mr_cons (mr_c _) (mr_cons (mr_c _) (mr_cons (mr_c _) (mr_cons (mr_c _) (mr_cons (mr_lst (mr_cons ix mr_nil)) (mr_cons (mr_tup (mr_cons ix mr_nil)) (mr_cons mr_dict (mr_cons (mr_c _) mr_nil)))))))))).run H (Same.refl _) _ fun v H' e h => q v H' e h
end
end K1
end
-- EOdd
section
set_option Elab.async false
set_option linter.all false
set_option maxRecDepth 100000
set_option maxHeartbeats 2000000
namespace K1
open PySem PySem.Spec PyProof.Rows L2 W0
abbrev sOe : Stmt := top 59
theorem scOe : FnScope ["spring", "valley", "evening", "roads", "at", "found", "road", "odd"] ["spring", "valley", "evening"] (defScope sOe) := ⟨rfl, rfl, rfl, by decide +kernel, rfl, by decide +kernel, by decide +kernel⟩
/-! the heap without tables -/
noncomputable def nt (H : Hp) : Hp := fun b => match H b with | some (.tbl _) => none | o => o
theorem nt_some {H : Hp} {b : Addr} {o : HO} : nt H b = some o ↔ H b = some o ∧ ∀ ps, o ≠ .tbl ps := by
  unfold nt
  constructor
  · intro h
    split at h
    · cases h
    · rename_i x y
      refine ⟨h, fun ps z => y ps ?_⟩
      rw [h, z]
  · intro ⟨h, n⟩
    rw [h]
    split
    · rename_i x ps e
      exact absurd (Option.some.inj e) (n ps)
    · rfl
theorem nt_same {H H' : Hp} (e : LamX.ExtN H H') : Same (nt H) (nt H') := fun b o h => by
  obtain ⟨h1, h2⟩ := nt_some.mp h
  exact nt_some.mpr ⟨e b o h1 h2, h2⟩
theorem nt_out {H : Hp} : Same (nt H) H := fun b o h => (nt_some.mp h).1
theorem nt_to {H H' : Hp} (e : LamX.ExtN H H') : Same (nt H) H' := (nt_same e).trans nt_out
theorem nt_mono {H H' : Hp} (e : Same H H') : Same (nt H) (nt H') := nt_same (LamX.ExtN.of e)
theorem nt_l {H : Hp} {p : Addr} {xs : List V} (h : H p = some (.lst xs)) : nt H p = some (.lst xs) := nt_some.mpr ⟨h, fun _ z => by cases z⟩
theorem nt_t {H : Hp} {p : Addr} {xs : List V} (h : H p = some (.tup xs)) : nt H p = some (.tup xs) := nt_some.mpr ⟨h, fun _ z => by cases z⟩
theorem nt_d {H : Hp} {p : Addr} {xs : List (Key × V)} (h : H p = some (.dK xs)) : nt H p = some (.dK xs) := nt_some.mpr ⟨h, fun _ z => by cases z⟩
/-- no evening, and the same as itself -/
def OddE (K : PySem.W.Frag) (ss : List Str) (rs : List (Str × Str)) (G : Hp) (y : V) : Prop := NoEv K G ss rs y ∧ RF 5 G y y
theorem RF.mon : ∀ n, MonE (RF n)
  | 0 => fun _ _ _ _ _ h => h
  | n + 1 => NextF.mon (RF.mon n)
theorem NoBeg.ext {K : PySem.W.Frag} {H H' : Hp} {ss : List Str} {rs : List (Str × Str)} {v : V} (h : NoBeg K H ss rs v) (e : Same H H') : NoBeg K H' ss rs v := by
  rcases h with h | ⟨xs, bs, a, b, c, d⟩ | ⟨xs, js, a, b, c, d⟩
  · exact .inl (h.ext e)
  · exact .inr (.inl ⟨xs, bs, a.ext e, b, paired_imp (fun _ _ z => z.ext e) c, d⟩)
  · exact .inr (.inr ⟨xs, js, a.ext e, b, paired_imp (fun _ _ z => z.ext e) c, d⟩)
theorem BegV.ext {H H' : Hp} {rs : List (Str × Str)} {v : V} {js : List Nat} (h : BegV H rs v js) (e : Same H H') : BegV H' rs v js := by
  obtain ⟨xs, a, b, c, d⟩ := h
  exact ⟨xs, a.ext e, b, paired_imp (fun _ _ z => z.ext e) c, d⟩
theorem NoEv.ext {K : PySem.W.Frag} {H H' : Hp} {ss : List Str} {rs : List (Str × Str)} {v : V} (h : NoEv K H ss rs v) (e : Same H H') : NoEv K H' ss rs v := by
  rcases h with h | ⟨js, a, b⟩
  · exact .inl (h.ext e)
  · exact .inr ⟨js, a.ext e, b⟩
theorem OddE.ext {K : PySem.W.Frag} {ss : List Str} {rs : List (Str × Str)} {G G' : Hp} {y : V} (h : OddE K ss rs G y) (e : Same G G') : OddE K ss rs G' y := ⟨h.1.ext e, RF.mon 5 _ _ _ _ e h.2⟩
/-! what is the same as itself -/
theorem self_lst {n : Nat} {G : Hp} {p : Addr} {xs : List V} (h : G p = some (.lst xs)) (l : xs.length ≤ 100) (r : ∀ x ∈ xs, RF n G x x) : RF (n + 1) G (.ref p) (.ref p) := r_lists h h l (paired_same r)
theorem self_tup {n : Nat} {G : Hp} {p : Addr} {xs : List V} (h : G p = some (.tup xs)) (l : xs.length ≤ 100) (r : ∀ x ∈ xs, RF n G x x) : RF (n + 1) G (.ref p) (.ref p) := r_tups h h l (paired_same r)
theorem RF.up {n : Nat} {G : Hp} {x y : V} (h : RF n G x y) : RF (n + 1) G x y := by
  induction n generalizing G x y with
  | zero => exact h.elim
  | succ n ih =>
    rcases h with h | ⟨p, q, xs, ys, a, b, c, d, e⟩ | ⟨p, q, kvs, a, b, c, d, f⟩
    · exact .inl h
    · exact .inr (.inl ⟨p, q, xs, ys, a, b, c, d, paired_imp (fun _ _ z => ih z) e⟩)
    · exact .inr (.inr ⟨p, q, kvs, a, b, c, d, fun H2 a2 b2 as bs e2 h1 h2 h3 h4 => ih (f H2 a2 b2 as bs e2 h1 h2 h3 h4)⟩)
/-- a list or tuple of things of which one is no road -/
theorem no_list {K : PySem.W.Frag} {G : Hp} {ss : List Str} {rs : List (Str × Str)} {v : V} {xs ys : List V} {z : V} {js1 js2 : List Nat} (sv : SeqV G v (xs ++ z :: ys)) (l : (xs ++ z :: ys).length ≤ 1000) (h1 : Paired (RoadV G rs) xs js1) (h2 : Paired (RoadV G rs) ys js2) (hz : NoRd K G ss rs z) : NoEv K G ss rs v := by
  have ap : ∀ {as cs : List V} {bs ds : List Bool}, Paired (Jud K G ss rs) as bs → Paired (Jud K G ss rs) cs ds → Paired (Jud K G ss rs) (as ++ cs) (bs ++ ds) := by
    intro as cs bs ds h
    induction h with
    | nil => exact id
    | cons a _ ih => exact fun q => .cons a (ih q)
  refine .inl (.inr (.inl ⟨_, _, sv, l, ap (paired_true h1) (.cons (.inr ⟨rfl, hz⟩) (paired_true h2)), ?_⟩))
  rw [List.all_append, List.all_cons]
  simp
/-- too few, or one twice -/
theorem no_perm {K : PySem.W.Frag} {G : Hp} {ss : List Str} {rs : List (Str × Str)} {v : V} {xs : List V} {js : List Nat} (sv : SeqV G v xs) (l : xs.length ≤ 1000) (h : Paired (RoadV G rs) xs js) (bad : ¬ js.Nodup ∨ js.length ≠ rs.length) : NoEv K G ss rs v := by
  by_cases nd : js.Nodup
  · exact .inr ⟨js, ⟨xs, sv, l, h, nd⟩, bad.resolve_left fun z => z nd⟩
  · exact .inl (.inr (.inr ⟨xs, js, sv, l, h, nd⟩))
end K1
end
-- EOe
section
set_option Elab.async false
set_option linter.all false
set_option maxRecDepth 100000
set_option maxHeartbeats 2000000
namespace K1
open PySem PySem.Spec PyProof.Rows L2 W0
def spOe (K : PySem.W.Frag) : Sp := fun vs H Q _ => ∃ (a t c : Addr) (cq : List Addr) (ss : List Str) (rs es : List (Str × Str)) (n : Nat), vs = [.ref a, .ref t, .ref c] ∧ Spr H a n ∧ n + 200 ≤ 1000000 ∧ ClAt a H c cq rs es ∧ Forest rs ∧ EndsIn ss rs ∧ rs.length ≤ 59 ∧ (∀ s ∈ ss, nameOk s = true) ∧ ("nobody" : Str) ∉ ss ∧
  ∀ (r : Addr) (ys : List V) (H' : Hp), Kept a H H' → Spr H' a (n + 1) → H r = none → H' r = some (.lst ys) → ys.length ≤ 100 → (∀ y ∈ ys, OddE K ss rs (nt H') y) → Q (.ref r) H'
theorem cut_last (xs : List V) : cutV xs none (some (-1)) = xs.dropLast := by
  unfold cutV
  have h1 : HT.sIx xs.length xs.length (some (-1)) = xs.length - 1 := by
    show (if (-1 : Int) < 0 then ((-1 : Int) + (xs.length : Int)).toNat else min (-1 : Int).toNat xs.length) = _
    rw [if_pos (by decide)]
    omega
  rw [h1, HT.sIx_none, List.drop_zero, Nat.sub_zero, List.dropLast_eq_take]
theorem tlst_run {ta : TA} {σ : L2.St} {H : Hp} {Q : VK} (h : ta σ H fun xs H1 => xs.length ≤ sizeLine ∧ ∀ p, H1 p = none → Q (.ref p) (L2.upd H1 p (.lst xs))) : tLst ta σ H Q := h
theorem tif_run {t : TT} {ta tb : TE} {σ : L2.St} {H : Hp} {Q : VK} (R : V → Hp → Prop) (k : ∀ v H1, R v H1 → Q v H1) (h : (∀ v H1, R v H1 → Q v H1) → t σ H fun c H1 => if c = true then ta σ H1 Q else tb σ H1 Q) : tIf t ta tb σ H Q := h k
def dctP (kvs : List (Key × V)) : PV := fun H v => ∃ p, v = .ref p ∧ H p = some (.dK (mergeK [] kvs))
theorem mr_dctP {K : PySem.W.Frag} {H0 : Hp} {σ : L2.St} {i : Nat} {R : Addr} {cq : List Addr} {kvs : List (Key × V)} (h : σ[i]? = some (some (.ref R))) (hR : H0 R = some (.lst (cq.map V.ref))) (pr : Paired (fun (p : Addr) (kv : Key × V) => H0 p = some (.tup [kV kv.1, kv.2])) cq kvs) :
    Mr H0 (tCB (fun xs H Q => ∃ (a : Addr) (ps : List Addr) (kvs : List (Key × V)), xs = [.ref a] ∧ SqL K H a (ps.map V.ref) ∧ Paired (fun p kv => SqT K H p [kV kv.1, kv.2]) ps kvs ∧ ∀ p, H p = none → Q (.ref p) (upd H p (.dK (mergeK [] kvs)))) (tCons (tVar i) tNil)) σ (dctP kvs) :=
  ⟨fun H H' v e ⟨p, a, b⟩ => ⟨p, a, e _ _ b⟩, fun H e Q q => ⟨_, h, R, cq, kvs, rfl, SqL.of (e _ _ hR), paired_imp (fun p kv z => SqT.of (e _ _ z)) pr, fun p hp => q _ _ (K1.Same.upd hp) ⟨p, rfl, upd_same⟩⟩⟩
def oddA (kvs : List (Key × V)) : List PV := [eqP .non, eqP (.int 5), eqP (.str "ab"), dicP, eqP (.bl true), dctP kvs, lstP [eqP .non], lstP [tupP [eqP (.str "nobody"), eqP (.str "no")]], lstP [lstP []]]
def kvOf (es : List (Str × Str)) : List (Key × V) := es.map fun e => ((Sum.inr e.1 : Key), V.str e.2)
theorem noSeq_ty {K : PySem.W.Frag} {G : Hp} {v : V} {t : String} (h : TyX K G v (.type t)) (k : t ∈ kinds) (s : isSeqT t = false) : NoSeq K G v := ⟨t, h, k, s⟩
theorem putK_flat {R : RelE} {kvs : List (Key × V)} {k : Key} {v : V} (h : ∀ e ∈ kvs, (∃ s : Str, e.1 = .inr s) ∧ ∃ s : Str, e.2 = .str s) (hk : ∃ s : Str, k = .inr s) (hv : ∃ s : Str, v = .str s) : ∀ e ∈ putK kvs k v, (∃ s : Str, e.1 = .inr s) ∧ ∃ s : Str, e.2 = .str s := by
  intro e he
  unfold putK at he
  split at he
  · obtain ⟨x, hx, rfl⟩ := List.mem_map.mp he
    have := h x hx
    split
    · exact ⟨this.1, hv⟩
    · exact this
  · rcases List.mem_append.mp he with he | he
    · exact h e he
    · rw [List.mem_singleton.mp he]
      exact ⟨hk, hv⟩
theorem kvOf_flat : ∀ {es : List (Str × Str)} {acc : List (Key × V)}, (∀ e ∈ acc, (∃ s : Str, e.1 = .inr s) ∧ ∃ s : Str, e.2 = .str s) → ∀ e ∈ mergeK acc (kvOf es), (∃ s : Str, e.1 = .inr s) ∧ ∃ s : Str, e.2 = .str s
  | [], acc, h => h
  | x :: es, acc, h => kvOf_flat (es := es) (acc := putK acc (.inr x.1) (.str x.2)) (putK_flat (R := fun _ _ _ => True) h ⟨_, rfl⟩ ⟨_, rfl⟩)
theorem oddA_ok {K : PySem.W.Frag} {ss : List Str} {rs es : List (Str × Str)} {H : Hp} (les : es.length ≤ 59) (nob : ("nobody" : Str) ∉ ss) {v : V} {P : PV} (hP : P ∈ oddA (kvOf es)) (h : P H v) : OddE K ss rs (nt H) v := by
  unfold oddA at hP
  simp only [List.mem_cons, List.not_mem_nil, or_false] at hP
  have ns : ∀ {t : String}, TyX K (nt H) v (.type t) → t ∈ kinds → isSeqT t = false → NoEv K (nt H) ss rs v := fun a b c => .inl (.inl (noSeq_ty a b c))
  rcases hP with rfl | rfl | rfl | rfl | rfl | rfl | rfl | rfl | rfl
  · cases h
    exact ⟨ns (.base .non) (by decide) rfl, r_non⟩
  · cases h
    exact ⟨ns (.base (.int 5)) (by decide) rfl, r_int 5⟩
  · cases h
    exact ⟨ns (.base (.str "ab")) (by decide) rfl, r_str _⟩
  · obtain ⟨p, rfl, hp⟩ := h
    refine ⟨ns (.base (.dK (nt_d hp))) (by decide) rfl, .inr (.inr ⟨p, p, [], rfl, rfl, nt_d hp, nt_d hp, fun H' a b as bs e ha hb pa pb => ?_⟩)⟩
    cases pa
    cases pb
    exact r_lists (R := RF 3) ha hb (by show 0 ≤ 100; decide) .nil
  · cases h
    exact ⟨ns (.base (.bl true)) (by decide) rfl, r_bl _⟩
  · obtain ⟨p, rfl, hp⟩ := h
    refine ⟨ns (.base (.dK (nt_d hp))) (by decide) rfl, .inr (.inr ⟨p, p, _, rfl, rfl, nt_d hp, nt_d hp, fun H' a b as bs e ha hb pa pb => ?_⟩)⟩
    have fl := kvOf_flat (es := es) (acc := []) (fun e he => by cases he)
    have ll : (mergeK [] (kvOf es)).length ≤ 100 := by
      have := mergeK_len [] (kvOf es)
      unfold kvOf at this
      rw [List.length_map, List.length_nil] at this
      unfold kvOf
      omega
    refine r_lists (R := RF 3) ha hb (by rw [List.length_map, pa.length]; exact ll) ?_
    have go : ∀ {as bs : List Addr} {kvs : List (Key × V)}, (∀ e ∈ kvs, (∃ s : Str, e.1 = .inr s) ∧ ∃ s : Str, e.2 = .str s) → Paired (fun (t : Addr) (e : Key × V) => H' t = some (.tup [kV e.1, e.2])) as kvs → Paired (fun (t : Addr) (e : Key × V) => H' t = some (.tup [kV e.1, e.2])) bs kvs → Paired (RF 3 H') (as.map V.ref) (bs.map V.ref) := by
      intro as bs kvs hf h1
      induction h1 generalizing bs with
      | nil => intro h2; cases h2; exact .nil
      | @cons x e1 xs es1 a1 _ ih =>
        intro h2
        cases h2 with
        | cons b1 r =>
          obtain ⟨⟨s1, e2⟩, s2, e3⟩ := hf e1 (List.mem_cons_self ..)
          refine .cons ?_ (ih (fun e he => hf e (List.mem_cons_of_mem _ he)) r)
          rw [e2, e3] at a1 b1
          exact r_tups (R := RF 2) a1 b1 (by show 2 ≤ 100; decide) (.cons (r_str (R := RF 1) s1) (.cons (r_str (R := RF 1) s2) .nil))
    exact go fl pa pb
  · obtain ⟨p, xs, rfl, hp, pr⟩ := h
    cases pr with
    | cons a r =>
      cases r
      cases a
      exact ⟨no_list (xs := []) (ys := []) (js1 := []) (js2 := []) ⟨p, rfl, .inl (nt_l hp)⟩ (by decide) .nil .nil (.inl (noSeq_ty (.base .non) (by decide) rfl)), self_lst (n := 4) (nt_l hp) (by decide) fun x hx => by rw [List.mem_singleton.mp hx]; exact r_non⟩
  · obtain ⟨p, xs, rfl, hp, pr⟩ := h
    cases pr with
    | cons a r =>
      cases r
      obtain ⟨p2, xs2, rfl, hp2, pr2⟩ := a
      cases pr2 with
      | cons a1 r1 =>
        cases r1 with
        | cons a2 r2 =>
          cases r2
          cases a1
          cases a2
          refine ⟨no_list (xs := []) (ys := []) (js1 := []) (js2 := []) ⟨p, rfl, .inl (nt_l hp)⟩ (by show 1 ≤ 1000; decide) .nil .nil (.inr (.inr ⟨_, _, ⟨p2, rfl, .inr (nt_t hp2)⟩, .inl (.inl ⟨_, rfl, nob⟩)⟩)), self_lst (n := 4) (nt_l hp) (by show 1 ≤ 100; decide) fun x hx => ?_⟩
          rw [List.mem_singleton.mp hx]
          refine self_tup (n := 3) (nt_t hp2) (by show 2 ≤ 100; decide) fun x hx => ?_
          simp only [List.mem_cons, List.not_mem_nil, or_false] at hx
          rcases hx with rfl | rfl
          · exact r_str _
          · exact r_str _
  · obtain ⟨p, xs, rfl, hp, pr⟩ := h
    cases pr with
    | cons a r =>
      cases r
      obtain ⟨p2, xs2, rfl, hp2, pr2⟩ := a
      cases pr2
      refine ⟨no_list (xs := []) (ys := []) (js1 := []) (js2 := []) ⟨p, rfl, .inl (nt_l hp)⟩ (by show 1 ≤ 1000; decide) .nil .nil (.inr (.inl ⟨[], ⟨p2, rfl, .inl (nt_l hp2)⟩, by decide⟩)), self_lst (n := 4) (nt_l hp) (by show 1 ≤ 100; decide) fun x hx => ?_⟩
      rw [List.mem_singleton.mp hx]
      exact self_lst (n := 3) (nt_l hp2) (by decide) fun x hx => by cases hx
theorem roads_go {G : Hp} {rs : List (Str × Str)} (f : Forest rs) {cq : List Addr} {es : List (Str × Str)} {js : List Nat} (h1 : Paired (TupP G) cq es) : AtPl rs js es → Paired (RoadV G rs) (cq.map V.ref) js := by
  induction h1 generalizing js with
  | nil => intro h2; cases h2; exact .nil
  | cons a _ ih =>
    intro h2
    cases h2 with
    | cons b r =>
      obtain ⟨hj, rfl⟩ := List.getElem?_eq_some_iff.mp b
      exact .cons ⟨_, _, ⟨_, rfl, .inr a⟩, plOf_of f hj⟩ (ih r)
theorem paired_take {α β : Type} {R : α → β → Prop} : ∀ (m : Nat) {xs : List α} {ys : List β}, Paired R xs ys → Paired R (xs.take m) (ys.take m)
  | 0, _, _, _ => .nil
  | _ + 1, _, _, .nil => .nil
  | m + 1, _, _, .cons a r => .cons a (paired_take m r)
/-- the end: one more, with a None amid the roads -/
theorem oe_end {K : PySem.W.Frag} {D : Ends} {σ : L2.St} {Hx : Hp} {ss : List Str} {rs es : List (Str × Str)} {R Fd : Addr} {cq : List Addr} {zs : List V} {d : Int} (h3 : σ[3]? = some (some (.ref R))) (h4 : σ[4]? = some (some (.int d))) (h5 : σ[5]? = some (some (.ref Fd)))
    (d0 : 0 ≤ d) (gR : Hx R = some (.lst (cq.map V.ref))) (gF : Hx Fd = some (.lst zs)) (lz : zs.length ≤ 30) (lc : cq.length ≤ 59) (pr : Paired (TupP Hx) cq es) (pj : ∀ {G : Hp}, Paired (TupP G) cq es → Paired (RoadV G rs) (cq.map V.ref) (jsOf rs es)) (ok : ∀ y ∈ zs, OddE K ss rs (nt Hx) y)
    (q : ∀ (r : Addr) (ys : List V) (H' : Hp), Same Hx H' → Hx r = none → H' r = some (.lst ys) → ys.length ≤ 100 → (∀ y ∈ ys, OddE K ss rs (nt H') y) → D.rt (.ref r) H') :
    tRet (tOp rCat (tVar 5) (tLst (tCons (tOp rCat (tOp rCat (tSl (rSlL K) (tVar 3) tNoPart (tPart (tVar 4))) (tLst (tCons (tC .non) tNil))) (tSl (rSlL K) (tVar 3) (tPart (tVar 4)) tNoPart)) tNil))) D σ Hx := by
  obtain ⟨m, rfl⟩ : ∃ m : Nat, d = (m : Int) := ⟨d.toNat, by omega⟩
  refine ⟨_, h5, _, h3, _, h4, (m : Int), rfl, R, _, rfl, SqL.of gR, fun A hA => ?_⟩
  rw [cut_to]
  have e1 := K1.Same.upd (H := Hx) (p := A) (o := .lst ((cq.map V.ref).take m)) hA
  have gA := upd_same' Hx A (.lst ((cq.map V.ref).take m))
  generalize L2.upd Hx A (.lst ((cq.map V.ref).take m)) = H1 at e1 gA ⊢
  refine ⟨(by show 1 ≤ sizeLine; decide), fun B hB => ?_⟩
  have e2 := K1.Same.upd (H := H1) (p := B) (o := .lst [.non]) hB
  have gB := upd_same' H1 B (.lst [.non])
  generalize L2.upd H1 B (.lst [.non]) = H2 at e2 gB ⊢
  have lcm : (cq.map V.ref).length = cq.length := List.length_map ..
  have lt : ((cq.map V.ref).take m).length ≤ 59 := by rw [List.length_take]; omega
  have ld : ((cq.map V.ref).drop m).length ≤ 59 := by rw [List.length_drop]; omega
  refine ⟨A, B, _, _, rfl, rfl, e2 _ _ gA, gB, Nat.le_of_lt (small1000 (by simp only [List.length_cons, List.length_nil]; omega)), fun C hC => ?_⟩
  have e3 := K1.Same.upd (H := H2) (p := C) (o := .lst ((cq.map V.ref).take m ++ [.non])) hC
  have gC := upd_same' H2 C (.lst ((cq.map V.ref).take m ++ [.non]))
  generalize L2.upd H2 C (.lst ((cq.map V.ref).take m ++ [.non])) = H3 at e3 gC ⊢
  have e13 := e1.trans (e2.trans e3)
  refine ⟨_, h3, _, h4, (m : Int), rfl, R, _, rfl, SqL.of (e13 _ _ gR), fun E hE => ?_⟩
  rw [cut_from]
  have e4 := K1.Same.upd (H := H3) (p := E) (o := .lst ((cq.map V.ref).drop m)) hE
  have gE := upd_same' H3 E (.lst ((cq.map V.ref).drop m))
  generalize L2.upd H3 E (.lst ((cq.map V.ref).drop m)) = H4 at e4 gE ⊢
  refine ⟨C, E, _, _, rfl, rfl, e4 _ _ gC, gE, Nat.le_of_lt (small1000 (by simp only [List.length_append, List.length_cons, List.length_nil]; omega)), fun M hM => ?_⟩
  have e5 := K1.Same.upd (H := H4) (p := M) (o := .lst ((cq.map V.ref).take m ++ [.non] ++ (cq.map V.ref).drop m)) hM
  have gM := upd_same' H4 M (.lst ((cq.map V.ref).take m ++ [.non] ++ (cq.map V.ref).drop m))
  generalize L2.upd H4 M (.lst ((cq.map V.ref).take m ++ [.non] ++ (cq.map V.ref).drop m)) = H5 at e5 gM ⊢
  refine ⟨(by show 1 ≤ sizeLine; decide), fun N hN => ?_⟩
  have e6 := K1.Same.upd (H := H5) (p := N) (o := .lst [.ref M]) hN
  have gN := upd_same' H5 N (.lst [.ref M])
  generalize L2.upd H5 N (.lst [.ref M]) = H6 at e6 gN ⊢
  have e16 : Same Hx H6 := e13.trans (e4.trans (e5.trans e6))
  refine ⟨Fd, N, _, _, rfl, rfl, e16 _ _ gF, gN, Nat.le_of_lt (small1000 (by simp only [List.length_cons, List.length_nil]; omega)), fun U hU => ?_⟩
  have e7 := K1.Same.upd (H := H6) (p := U) (o := .lst (zs ++ [.ref M])) hU
  have gU := upd_same' H6 U (.lst (zs ++ [.ref M]))
  generalize L2.upd H6 U (.lst (zs ++ [.ref M])) = H7 at e7 gU ⊢
  have e17 := e16.trans e7
  refine q U _ H7 e17 (e16.free hU) gU (by simp only [List.length_append, List.length_cons, List.length_nil]; omega) fun y hy => ?_
  rcases List.mem_append.mp hy with hy | hy
  · exact (ok y hy).ext (nt_mono e17)
  · rw [List.mem_singleton.mp hy]
    have prn : Paired (TupP (nt H7)) cq es := paired_imp (fun p e h => nt_t (e17 _ _ h)) pr
    have pjn := pj prn
    have gM7 := e7 _ _ (e6 _ _ gM)
    have le : ((cq.map V.ref).take m ++ V.non :: (cq.map V.ref).drop m).length ≤ 100 := by rw [List.length_append, List.length_cons, List.length_take, List.length_drop]; omega
    have gM8 : nt H7 M = some (.lst ((cq.map V.ref).take m ++ V.non :: (cq.map V.ref).drop m)) := by rw [nt_l gM7, List.append_assoc]; rfl
    refine ⟨no_list (xs := (cq.map V.ref).take m) (ys := (cq.map V.ref).drop m) ⟨M, rfl, .inl gM8⟩ (by omega) (paired_take m pjn) (paired_drop m pjn) (.inl (noSeq_ty (.base .non) (by decide) rfl)), self_lst (n := 4) gM8 le fun x hx => ?_⟩
    have tups : ∀ x ∈ cq.map V.ref, K1.RF 4 (nt H7) x x := fun x hx => by
      obtain ⟨p, hp, rfl⟩ := List.mem_map.mp hx
      obtain ⟨k, hk, ek⟩ := List.mem_iff_getElem.mp hp
      have hke : k < es.length := by rw [← prn.length]; exact hk
      obtain ⟨p', ep, tp⟩ := paired_get prn hke
      have : p' = p := by rw [List.getElem?_eq_getElem hk, ek] at ep; exact (Option.some.inj ep).symm
      subst this
      refine self_tup (n := 3) tp (by show 2 ≤ 100; decide) fun y hy => ?_
      simp only [List.mem_cons, List.not_mem_nil, or_false] at hy
      rcases hy with rfl | rfl
      · exact r_str _
      · exact r_str _
    rcases List.mem_append.mp hx with hx | hx
    · exact tups x (List.mem_of_mem_take hx)
    · rcases List.mem_cons.mp hx with rfl | hx
      · exact r_non
      · exact tups x (List.mem_of_mem_drop hx)
section
variable {P : Program} {w : World} {K : PySem.W.Frag} {mg : Str → Option Value} {base : Heap} {fD : Addr} {fdD : FuncData}
theorem ok_Oe {f : Addr} {fd : FuncData} (F : Fun K "_law_v_odd_evenings" "_law_v_odd_evenings" sOe f fd) (B : Bl mg)
    (G : FnOk P w K mg base CX0 1 fD fdD ["spring", "many"] spDraw) (b : Binds K fdD ["spring", "many"] []) (k : PySem.W.keepIn K (.ref fD) = true) (m : mg "_law_draw" = some (.ref fD)) :
    FnOk P w K mg base CX0 2 f fd ["spring", "valley", "evening"] (spOe K) := by
  refine F.ok scOe (fun vs H Q E h => ?_) (fun cdv A outer s0 H vs Q E hr h => ?_)
  · obtain ⟨a, t, c, cq, ss, rs, es, n, rfl, _⟩ := h
    rfl
  obtain ⟨a, t, c, cq, ss, rs, es, n, rfl, hs, hn, cl, frs, ends, lrs, nms, nob, q⟩ := h
  have nd := scOe.nd
  have hu64 : (A.deeper (envOfC "_law_v_odd_evenings" (defScope sOe) s0.heap.objs.size f cdv)).units + 64 < cLine := hr.units
  refine ⟨_, (pss_cons (by exact (ps_par (i := 3) (j := 4) rfl nd rfl rfl (by decide) rfl rfl (pa_cons (pe_callTy call_list_of rfl B.list PyProof.Rows.boot_list (pa_cons (pv 2) pa_nil)) (pa_cons (pe_call G hr rfl m k b .nil pass0 (pa_cons (pv 0) (pa_cons (pe_op op_add (pe_callB call_len_seq rfl B.len PySem.boot_len (pa_cons (pv 2) pa_nil)) pe_int) pa_nil))) pa_nil)) (by rfl)))
  (pss_cons (by exact (ps_set (i := 5) nd rfl (.inl rfl) (pe_lst (pa_cons pe_non (pa_cons pe_int (pa_cons pe_str (pa_cons pe_dnewK (pa_cons pe_bl (pa_cons (pe_callTy (call_dictP rfl) rfl B.dict PyProof.Rows.boot_dict (pa_cons (pv 3) pa_nil)) (pa_cons (pe_lst (pa_cons pe_non pa_nil)) (pa_cons (pe_lst (pa_cons (pe_tup (pa_cons pe_str (pa_cons pe_str pa_nil))) pa_nil)) (pa_cons (pe_lst (pa_cons (pe_lst pa_nil) pa_nil)) pa_nil))))))))))))
  (pss_cons (by exact (ps_if (pt_cmpR (op_neD hu64) (pv 3) (pe_lst pa_nil) (nomark _)) (pss_cons (by exact (ps_set (i := 6) nd rfl (.inl rfl) (pe_ix ix_list (pv 3) pe_int (fun _ _ => rfl))))
  (pss_cons (by exact (ps_expr (pe_bm PySem.F.plainAttrs_list PySem.F.slot_list_extend PySem.F.type_list_extend mt_extend (pv 5) (pa_cons (pe_lst (pa_cons (pe_lst pa_nil) (pa_cons (pe_slice sl_list (pv 3) (po_some pe_int) po_none) (pa_cons (pe_op op_cat (pv 3) (pe_slice sl_list (pv 3) po_none (po_some pe_int))) (pa_cons (pe_ifExp (pt_cmpR op_gt (pe_callB call_len_seq rfl B.len PySem.boot_len (pa_cons (pv 3) pa_nil)) pe_int (nomark _)) (pe_op op_cat (pe_slice sl_list (pv 3) (po_some pe_int) po_none) (pe_lst (pa_cons (pe_ix ix_list (pv 3) (pe_un un_neg pe_int) (fun _ _ => rfl)) pa_nil))) (pe_op op_rep (pv 3) pe_int)) pa_nil))))) pa_nil))))
  (pss_one (by exact (ps_for PassesOwn.never rfl (by exact pi_tup (pe_tup (pa_cons pe_non (pa_cons pe_int (pa_cons pe_str (pa_cons (pe_tup pa_nil) (pa_cons (pe_slice sl_tup (pv 6) po_none (po_some pe_int)) (pa_cons (pe_op op_catT (pv 6) (pv 6)) (pa_cons (pe_tup (pa_cons (pe_ix ix_tup (pv 6) pe_int (fun _ _ => rfl)) (pa_cons pe_str pa_nil))) (pa_cons (pe_op op_repT (pe_tup (pa_cons (pe_ix ix_tup (pv 6) pe_int (fun _ _ => rfl)) pa_nil)) pe_int) pa_nil)))))))))) (pg_name (i := 7) nd rfl (.inl rfl)) (pss_one (by exact (ps_expr (pe_bm PySem.F.plainAttrs_list PySem.F.slot_list_append PySem.F.type_list_append mt_append (pv 5) (pa_cons (pe_op op_cat (pe_slice sl_list (pv 3) po_none (po_some (pe_un un_neg pe_int))) (pe_lst (pa_cons (pv 7) pa_nil))) pa_nil)))))))))) pss_nil))
  (pss_one (by exact (ps_ret (pe_op op_cat (pv 5) (pe_lst (pa_cons (pe_op op_cat (pe_op op_cat (pe_slice sl_list (pv 3) po_none (po_some (pv 4))) (pe_lst (pa_cons pe_non pa_nil))) (pe_slice sl_list (pv 3) (po_some (pv 4)) po_none)) pa_nil))))))))), ?_⟩
  refine ⟨_, rfl, c, _, rfl, .inl (SqL.of cl.h), fun R hR => ?_⟩
  have Ra := hs.ne hR
  have e1 := K1.Same.upd (H := H) (p := R) (o := .lst (cq.map V.ref)) hR
  have gR1 := upd_same' H R (.lst (cq.map V.ref))
  have s1 := hs.upd (o := .lst (cq.map V.ref)) Ra
  generalize L2.upd H R (.lst (cq.map V.ref)) = H1 at e1 gR1 s1 ⊢
  have les : es.length = rs.length := cl.perm.length_eq
  have lcq : cq.length = es.length := cl.pr.length
  have lcm : (cq.map V.ref).length = es.length := by rw [List.length_map, lcq]
  refine ⟨_, rfl, _, rfl, c, _, rfl, .inl (SqL.of (e1 _ _ cl.h)), _, _, rfl, rfl, a, _, n, rfl, s1, by omega, by omega, ?_, fun d H2 d0 d1 k2 s2 => ⟨_, _, rfl, ?_⟩⟩
  · refine Nat.lt_of_le_of_lt (show ((((cq.map V.ref).length : Nat) : Int) + 1).natAbs ≤ 100 by omega) (by decide)
  have k12 : Kept a H H2 := (Kept.same e1).trans k2
  have cl2 := cl.kept hs k12
  have gR2 := k2 _ _ Ra gR1
  have R0 : H R = none := hR
  with_reducible refine sQ ?_
  have kvp : Paired (fun (p : Addr) (kv : Key × V) => H2 p = some (.tup [kV kv.1, kv.2])) cq (kvOf es) := paired_maps cl2.pr
  refine tlst_run ?_
  refine (mr_cons (mr_c _) (mr_cons (mr_c _) (mr_cons (mr_c _) (mr_cons mr_dict (mr_cons (mr_c _) (mr_cons (mr_dctP (kvs := kvOf es) rfl gR2 kvp) (mr_cons (mr_lst (mr_cons (mr_c _) mr_nil)) (mr_cons (mr_lst (mr_cons (mr_tup (mr_cons (mr_c _) (mr_cons (mr_c _) mr_nil))) mr_nil)) (mr_cons (mr_lst (mr_cons (mr_lst mr_nil) mr_nil)) mr_nil))))))))).run H2 (Same.refl _) _ fun ys H3 e3 pys0 => ⟨by rw [pys0.length]; show 9 ≤ sizeLine; decide, fun Fd hFd => ?_⟩
  have pys : Paired (fun v P => P H3 v) ys (oddA (kvOf es)) := pys0
  have Fd0 : H Fd = none := by
    cases e : H Fd with
    | none => rfl
    | some o =>
      by_cases z : Fd = a
      · rw [z] at hFd
        exact absurd hFd (s2.same e3).kept
      · have := e3 _ _ (k12 _ _ z e)
        rw [hFd] at this
        cases this
  have lys : ys.length = 9 := pys.length
  have okA : ∀ {G : Hp}, Same H3 G → ∀ y ∈ ys, OddE K ss rs (nt G) y := fun {G} eG y hy => by
    have go : ∀ {ys : List V} {Ps : List PV}, Paired (fun v P => P H3 v) ys Ps → (∀ P ∈ Ps, P ∈ oddA (kvOf es)) → ∀ y ∈ ys, OddE K ss rs (nt H3) y := by
      intro ys Ps h
      induction h with
      | nil => intro _ y hy; cases hy
      | cons a _ ih =>
        intro hs y hy
        rcases List.mem_cons.mp hy with rfl | hy
        · exact oddA_ok (by omega) nob (hs _ (List.mem_cons_self ..)) a
        · exact ih (fun P hP => hs P (List.mem_cons_of_mem _ hP)) y hy
    exact (go pys (fun P hP => hP) y hy).ext (nt_mono eG)
  have e4 := K1.Same.upd (H := H3) (p := Fd) (o := .lst ys) hFd
  have gF4 := upd_same' H3 Fd (.lst ys)
  generalize L2.upd H3 Fd (.lst ys) = H4 at e4 gF4 ⊢
  have k4 : Kept a H H4 := k12.trans (Kept.same (e3.trans e4))
  have s4 := (s2.same e3).same e4
  have Fa : Fd ≠ a := (s2.same e3).ne hFd
  have cl4 := cl.kept hs k4
  have gR4 := e4 _ _ (e3 _ _ gR2)
  have RF : R ≠ Fd := fun z => by rw [z] at gR2; have := e3 _ _ gR2; rw [hFd] at this; cases this
  refine K1.gN ?_
  with_reducible refine sQ ?_
  have nme : ∀ e ∈ es, nameOk e.1 = true ∧ nameOk e.2 = true := fun e he => by
    have := cl.ends ends e he
    exact ⟨nms _ this.1, nms _ this.2⟩
  obtain ⟨at_, jnd, jlen⟩ := cl.at_ frs
  have pj : ∀ {G : Hp}, Paired (TupP G) cq es → Paired (RoadV G rs) (cq.map V.ref) (jsOf rs es) := fun h => roads_go frs h at_
  have kS : ∀ {Hx : Hp}, Same H4 Hx → Kept a H Hx := fun e => k4.trans (Kept.same e)
  refine ⟨_, rfl, (by show 0 ≤ sizeLine; decide), fun l0 hl0 => ?_⟩
  have e5 := K1.Same.upd (H := H4) (p := l0) (o := .lst []) hl0
  have gl5 := upd_same' H4 l0 (.lst [])
  generalize L2.upd H4 l0 (.lst []) = H5 at e5 gl5 ⊢
  have pr5 : Paired (TupP H5) cq es := TupP.ext cl4.pr e5
  refine ⟨dR es, .list [], dp_dR (e5 _ _ gR4) pr5, .lst (SqL.of gl5) .nil, shaped_dR nme, rfl, _, rfl, ?_⟩
  cases es with
  | nil =>
    rw [show (!PyData.eqv (dR []) (.list [])) = false from rfl]
    refine iteF ?_
    refine oe_end (K := K) (ss := ss) (rs := rs) (R := R) (Fd := Fd) (cq := cq) (zs := ys) (d := d) rfl rfl rfl d0 (e5 _ _ gR4) (e5 _ _ gF4) (by omega) (by rw [lcq]; show 0 ≤ 59; decide) pr5 pj (fun y hy => okA (e4.trans e5) y hy) fun r ys' H' e6 n6 g6 l6 ok6 => ?_
    exact q r ys' H' (kS (e5.trans e6)) ((s4.same (e5.trans e6)).mono (by omega)) ((kS e5) |> fun kx => by
      cases e : H r with
      | none => rfl
      | some o =>
        by_cases z : r = a
        · rw [z] at n6; exact absurd n6 (s4.same e5).kept
        · rw [kx _ _ z e] at n6; cases n6) g6 l6 ok6
  | cons e0 es' =>
    rw [show (!PyData.eqv (dR (e0 :: es')) (.list [])) = true from rfl]
    refine iteT ?_
    cases cq with
    | nil => simp at lcq
    | cons t0 cq' =>
    obtain ⟨j0, js', ejs⟩ : ∃ j0 js', jsOf rs (e0 :: es') = j0 :: js' := ⟨_, _, rfl⟩
    have lR : ((t0 :: cq').map V.ref).length = rs.length := by rw [lcm, les]
    have gR5 := e5 _ _ gR4
    have gF5 := e5 _ _ gF4
    have frH : ∀ {Hx : Hp} {r : Addr}, Kept a H Hx → Spr Hx a (n + 1) → Hx r = none → H r = none := fun {Hx r} kx sx n6 => by
      cases e : H r with
      | none => rfl
      | some o =>
        by_cases z : r = a
        · rw [z] at n6; exact absurd n6 sx.kept
        · rw [kx _ _ z e] at n6; cases n6
    have s5 : Spr H5 a (n + 1) := (s4.same e5).mono (by omega)
    have k5 := kS e5
    with_reducible refine sQ ?_
    refine ⟨_, rfl, R, _, 0, .ref t0, rfl, rfl, SqL.of gR5, atI_nat (xs := (t0 :: cq').map V.ref) (j := 0) (v := .ref t0) rfl, ?_⟩
    refine K1.gN ?_
    with_reducible refine sQ ?_
    refine ⟨_, rfl, .inl ⟨rfl, _, SqL.of gF5⟩, ?_⟩
    refine cons_run ?_
    refine ⟨(by show 0 ≤ sizeLine; decide), fun a1 ha1 => ?_⟩
    have f1 := K1.Same.upd (H := H5) (p := a1) (o := .lst []) ha1
    have g1 := upd_same' H5 a1 (.lst [])
    generalize L2.upd H5 a1 (.lst []) = G1 at f1 g1 ⊢
    refine ⟨_, rfl, (1 : Int), rfl, R, _, rfl, SqL.of (f1 _ _ gR5), fun a2 ha2 => ?_⟩
    have c1 : cutV ((t0 :: cq').map V.ref) (some 1) none = cq'.map V.ref := cut_from ((t0 :: cq').map V.ref) 1
    have c2 : cutV ((t0 :: cq').map V.ref) none (some 1) = [.ref t0] := cut_to ((t0 :: cq').map V.ref) 1
    rw [c1]
    have f2 := K1.Same.upd (H := G1) (p := a2) (o := .lst (cq'.map V.ref)) ha2
    have g2 := upd_same' G1 a2 (.lst (cq'.map V.ref))
    generalize L2.upd G1 a2 (.lst (cq'.map V.ref)) = G2 at f2 g2 ⊢
    have f12 := f1.trans f2
    refine ⟨_, rfl, _, rfl, (1 : Int), rfl, R, _, rfl, SqL.of (f12 _ _ gR5), fun a3 ha3 => ?_⟩
    rw [c2]
    have f3 := K1.Same.upd (H := G2) (p := a3) (o := .lst [.ref t0]) ha3
    have g3 := upd_same' G2 a3 (.lst [.ref t0])
    generalize L2.upd G2 a3 (.lst [.ref t0]) = G3 at f3 g3 ⊢
    have f13 := f12.trans f3
    refine ⟨R, a3, _, _, rfl, rfl, f13 _ _ gR5, g3, Nat.le_of_lt (small1000 (by simp only [List.length_cons, List.length_nil] at lR ⊢; omega)), fun a4 ha4 => ?_⟩
    have f4 := K1.Same.upd (H := G3) (p := a4) (o := .lst ((t0 :: cq').map V.ref ++ [.ref t0])) ha4
    have g4 := upd_same' G3 a4 (.lst ((t0 :: cq').map V.ref ++ [.ref t0]))
    generalize L2.upd G3 a4 (.lst ((t0 :: cq').map V.ref ++ [.ref t0])) = G4 at f4 g4 ⊢
    have f14 := f13.trans f4
    have f05 : ∀ {G : Hp}, Same G4 G → Paired (TupP G) (t0 :: cq') (e0 :: es') := fun e => TupP.ext pr5 (f14.trans e)
    dsimp only
    refine cons_run (tif_run (fun v G5 => ∃ (a7 : Addr) (L4 : List V) (J4 : List Nat), v = .ref a7 ∧ Same G4 G5 ∧ G5 a7 = some (.lst L4) ∧ L4.length ≤ 60 ∧ (∀ G : Hp, Paired (RoadV G rs) ((t0 :: cq').map V.ref) (jsOf rs (e0 :: es')) → Paired (RoadV G rs) L4 J4) ∧ ¬ J4.Nodup ∧ ∀ x ∈ L4, x ∈ (t0 :: cq').map V.ref) (fun v G5 hR => ?_) (fun cont => ?_))
    · obtain ⟨a7, L4, J4, rfl, f5, g7, l4, p4, nj4, in4⟩ := hR
      refine ⟨(by show 4 ≤ sizeLine; decide), fun a8 ha8 => ?_⟩
      have f6 := K1.Same.upd (H := G5) (p := a8) (o := .lst [.ref a1, .ref a2, .ref a4, .ref a7]) ha8
      have g8 := upd_same' G5 a8 (.lst [.ref a1, .ref a2, .ref a4, .ref a7])
      generalize L2.upd G5 a8 (.lst [.ref a1, .ref a2, .ref a4, .ref a7]) = G6 at f6 g8 ⊢
      have f06 : Same H5 G6 := f14.trans (f5.trans f6)
      have gF6 := f06 _ _ gF5
      refine ⟨Fd, a8, _, _, rfl, rfl, gF6, g8, Nat.le_of_lt (small1000 (by simp only [List.length_cons, List.length_nil]; omega)), ?_⟩
      have k67 : Kept Fd G6 (L2.upd G6 Fd (.lst (ys ++ [.ref a1, .ref a2, .ref a4, .ref a7]))) := Kept.upd
      have gF7 : L2.upd G6 Fd (.lst (ys ++ [.ref a1, .ref a2, .ref a4, .ref a7])) Fd = some (.lst (ys ++ [.ref a1, .ref a2, .ref a4, .ref a7])) := upd_same
      generalize L2.upd G6 Fd (.lst (ys ++ [.ref a1, .ref a2, .ref a4, .ref a7])) = G7 at k67 gF7 ⊢
      have F1 : ∀ {p : Addr} {o : HO}, G6 p = some o → p ≠ Fd → wo (fun z => z = Fd) G7 p = some o := fun h n => wo_some.mpr ⟨n, k67 _ _ n h⟩
      have nF : ∀ {p : Addr}, H5 p = none → p ≠ Fd := fun h z => by rw [z, gF5] at h; cases h
      have up7 : Same H3 (wo (fun z => z = Fd) G7) := fun b0 o hb => F1 (f06 _ _ (e5 _ _ (e4 _ _ hb))) fun z => by rw [z, hFd] at hb; cases hb
      have pr7 : Paired (TupP (nt (wo (fun z => z = Fd) G7))) (t0 :: cq') (e0 :: es') := paired_imp (fun p e h => nt_t (up7 _ _ h)) (TupP.ext cl2.pr e3)
      have pj7 := pj pr7
      have tups : ∀ {G : Hp}, Paired (TupP G) (t0 :: cq') (e0 :: es') → ∀ x ∈ (t0 :: cq').map V.ref, K1.RF 4 G x x := fun {G} hG x hx => by
        obtain ⟨p, hp, rfl⟩ := List.mem_map.mp hx
        obtain ⟨k, hk, ek⟩ := List.mem_iff_getElem.mp hp
        have hke : k < (e0 :: es').length := by rw [← hG.length]; exact hk
        obtain ⟨p', ep, tp⟩ := paired_get hG hke
        have : p' = p := by rw [List.getElem?_eq_getElem hk, ek] at ep; exact (Option.some.inj ep).symm
        subst this
        refine self_tup (n := 3) tp (by show 2 ≤ 100; decide) fun y hy => ?_
        simp only [List.mem_cons, List.not_mem_nil, or_false] at hy
        rcases hy with rfl | rfl
        · exact r_str _
        · exact r_str _
      have lQ : ((t0 :: cq').map V.ref).length ≤ 59 := by omega
      have hl1 : nt (wo (fun z => z = Fd) G7) a1 = some (.lst []) := nt_l (F1 ((f2.trans (f3.trans (f4.trans (f5.trans f6)))) _ _ g1) (nF ha1))
      have hl2 : nt (wo (fun z => z = Fd) G7) a2 = some (.lst (cq'.map V.ref)) := nt_l (F1 ((f3.trans (f4.trans (f5.trans f6))) _ _ g2) (nF (f1.free ha2)))
      have hl4 : nt (wo (fun z => z = Fd) G7) a4 = some (.lst ((t0 :: cq').map V.ref ++ [.ref t0])) := nt_l (F1 ((f5.trans f6) _ _ g4) (nF (f13.free ha4)))
      have a7n : a7 ≠ Fd := fun z => by
        have h1 := f6 _ _ g7
        rw [z, gF6] at h1
        have h2 := HO.lst.inj (Option.some.inj h1)
        have h3 : V.non ∈ L4 := by
          rw [← h2]
          cases pys with
          | cons x r => cases x; exact List.mem_cons_self ..
        obtain ⟨p, _, h4⟩ := List.mem_map.mp (in4 _ h3)
        cases h4
      have hl7 : nt (wo (fun z => z = Fd) G7) a7 = some (.lst L4) := nt_l (F1 (f6 _ _ g7) a7n)
      have ok7 : ∀ y ∈ ys ++ [V.ref a1, V.ref a2, V.ref a4, V.ref a7], OddE K ss rs (nt (wo (fun z => z = Fd) G7)) y := fun y hy => by
        rcases List.mem_append.mp hy with hy | hy
        · exact okA up7 y hy
        · have inJ : ∀ {j : Nat} {r : List Nat}, ¬ ((j :: r) ++ [j]).Nodup := fun {j r} nd => (List.nodup_append.mp nd).2.2 j (List.mem_cons_self ..) j (List.mem_singleton.mpr rfl) rfl
          simp only [List.mem_cons, List.not_mem_nil, or_false] at hy
          rw [ejs] at pj7
          cases pj7 with
          | cons b0 r0 =>
          rcases hy with rfl | rfl | rfl | rfl
          · exact ⟨no_perm (xs := []) (js := []) ⟨_, rfl, .inl hl1⟩ (by decide) .nil (.inr (by show 0 ≠ rs.length; simp at les; omega)), self_lst (n := 4) hl1 (by decide) fun x hx => by cases hx⟩
          · refine ⟨no_perm ⟨_, rfl, .inl hl2⟩ (by simp at lQ ⊢; omega) r0 (.inr ?_), self_lst (n := 4) hl2 (by simp at lQ ⊢; omega) fun x hx => tups pr7 x (List.mem_cons_of_mem _ hx)⟩
            have := jlen
            rw [ejs] at this
            simp at this
            omega
          · refine ⟨no_perm ⟨_, rfl, .inl hl4⟩ (by rw [List.length_append]; simp only [List.length_cons, List.length_nil] at lQ ⊢; omega) (paired_snoc (.cons b0 r0) b0) (.inl inJ), self_lst (n := 4) hl4 (by rw [List.length_append]; simp only [List.length_cons, List.length_nil] at lQ ⊢; omega) fun x hx => ?_⟩
            rcases List.mem_append.mp hx with hx | hx
            · exact tups pr7 x hx
            · exact tups pr7 x (by rw [List.mem_singleton.mp hx]; exact List.mem_cons_self ..)
          · exact ⟨no_perm ⟨_, rfl, .inl hl7⟩ (by omega) (p4 _ (by rw [ejs]; exact .cons b0 r0)) (.inl nj4), self_lst (n := 4) hl7 (by omega) fun x hx => tups pr7 x (in4 x hx)⟩
      -- the odd roads
      have t0n : t0 ≠ Fd := fun z => by
        cases cl2.pr with
        | cons b0 r0 =>
          have h1 := e3 _ _ b0
          rw [z, hFd] at h1; cases h1
      have gt0 : G7 t0 = some (.tup [.str e0.1, .str e0.2]) := by
        cases cl2.pr with
        | cons b0 r0 => exact k67 _ _ t0n (f06 _ _ (e5 _ _ (e4 _ _ (e3 _ _ b0))))
      refine ⟨(by show 0 ≤ sizeLine; decide), fun b1 hb1 => ?_⟩
      have h1 := K1.Same.upd (H := G7) (p := b1) (o := .tup []) hb1
      have u1 := upd_same' G7 b1 (.tup [])
      generalize L2.upd G7 b1 (.tup []) = U1 at h1 u1 ⊢
      refine ⟨_, rfl, (1 : Int), rfl, t0, _, rfl, SqT.of (h1 _ _ gt0), (by show ¬ ((0 : Nat) = 0 ∧ (1 : Nat) = 2); decide), fun b2 hb2 => ?_⟩
      have c3 : cutV [V.str e0.1, V.str e0.2] none (some 1) = [.str e0.1] := cut_to [V.str e0.1, V.str e0.2] 1
      rw [c3]
      have h2 := K1.Same.upd (H := U1) (p := b2) (o := .tup [.str e0.1]) hb2
      have u2 := upd_same' U1 b2 (.tup [.str e0.1])
      generalize L2.upd U1 b2 (.tup [.str e0.1]) = U2 at h2 u2 ⊢
      have h12 := h1.trans h2
      refine ⟨_, rfl, _, rfl, t0, t0, _, _, rfl, rfl, SqT.of (h12 _ _ gt0), SqT.of (h12 _ _ gt0), by simp, (by show 2 + 2 ≤ sizeLine; decide), (fun z => by cases z), fun _ b3 hb3 => ?_⟩
      have h3 := K1.Same.upd (H := U2) (p := b3) (o := .tup ([V.str e0.1, V.str e0.2] ++ [V.str e0.1, V.str e0.2])) hb3
      have u3 := upd_same' U2 b3 (.tup ([V.str e0.1, V.str e0.2] ++ [V.str e0.1, V.str e0.2]))
      generalize L2.upd U2 b3 (.tup ([V.str e0.1, V.str e0.2] ++ [V.str e0.1, V.str e0.2])) = U3 at h3 u3 ⊢
      have h13 := h12.trans h3
      refine ⟨_, rfl, t0, _, 0, .str e0.1, rfl, rfl, SqT.of (h13 _ _ gt0), rfl, (by show 2 ≤ sizeLine; decide), fun b4 hb4 => ?_⟩
      have h4 := K1.Same.upd (H := U3) (p := b4) (o := .tup [.str e0.1, .str "nobody"]) hb4
      have u4 := upd_same' U3 b4 (.tup [.str e0.1, .str "nobody"])
      generalize L2.upd U3 b4 (.tup [.str e0.1, .str "nobody"]) = U4 at h4 u4 ⊢
      have h14 := h13.trans h4
      refine ⟨_, rfl, t0, _, 0, .str e0.1, rfl, rfl, SqT.of (h14 _ _ gt0), rfl, (by show 1 ≤ sizeLine; decide), fun b5 hb5 => ?_⟩
      have h5 := K1.Same.upd (H := U4) (p := b5) (o := .tup [.str e0.1]) hb5
      have u5 := upd_same' U4 b5 (.tup [.str e0.1])
      generalize L2.upd U4 b5 (.tup [.str e0.1]) = U5 at h5 u5 ⊢
      refine ⟨b5, 2, _, rfl, rfl, SqT.of u5, by simp, by decide, by decide, (by show 1 ≤ 1000; decide), fun b6 hb6 => ?_⟩
      have h6 : Same U5 (L2.upd U5 b6 (.tup (List.replicate (2 : Int).toNat [V.str e0.1]).flatten)) := K1.Same.upd hb6
      have u6 : L2.upd U5 b6 (.tup (List.replicate (2 : Int).toNat [V.str e0.1]).flatten) b6 = some (.tup [.str e0.1, .str e0.1]) := upd_same
      generalize L2.upd U5 b6 (.tup (List.replicate (2 : Int).toNat [V.str e0.1]).flatten) = U6 at h6 u6 ⊢
      refine ⟨(by show 8 ≤ sizeLine; decide), fun T hT => ?_⟩
      have h7 := K1.Same.upd (H := U6) (p := T) (o := .tup [.non, .int 5, .str "ab", .ref b1, .ref b2, .ref b3, .ref b4, .ref b6]) hT
      have u7 := upd_same' U6 T (.tup [.non, .int 5, .str "ab", .ref b1, .ref b2, .ref b3, .ref b4, .ref b6])
      generalize L2.upd U6 T (.tup [.non, .int 5, .str "ab", .ref b1, .ref b2, .ref b3, .ref b4, .ref b6]) = U7 at h7 u7 ⊢
      have h17 : Same G7 U7 := h14.trans (h5.trans (h6.trans h7))
      have nT : ∀ {p : Addr} {xs : List V}, U7 p = some (.tup xs) → nt (wo (fun z => z = Fd) U7) p = some (.tup xs) := fun {p xs} h => nt_t (wo_some.mpr ⟨(fun z => by
        rw [z, h17 _ _ gF7] at h; cases h), h⟩)
      have v1 := nT ((h2.trans (h3.trans (h4.trans (h5.trans (h6.trans h7))))) _ _ u1)
      have v2 := nT ((h3.trans (h4.trans (h5.trans (h6.trans h7)))) _ _ u2)
      have v3 := nT ((h4.trans (h5.trans (h6.trans h7))) _ _ u3)
      have v4 := nT ((h5.trans (h6.trans h7)) _ _ u4)
      have v6 := nT (h7 _ _ u6)
      have up17 : Same (wo (fun z => z = Fd) G7) (wo (fun z => z = Fd) U7) := wo_same fun b0 o nb hb => h17 _ _ hb
      have e0m := cl.ends ends e0 (List.mem_cons_self ..)
      have sts : ∀ {n : Nat} {G : Hp} {xs : List V}, (∀ x ∈ xs, ∃ s : Str, x = .str s) → ∀ x ∈ xs, K1.RF (n + 1) G x x := fun h x hx => by
        obtain ⟨s, rfl⟩ := h x hx
        exact r_str _
      have odd : ∀ v ∈ [V.non, .int 5, .str "ab", .ref b1, .ref b2, .ref b3, .ref b4, .ref b6], NoRd K (nt (wo (fun z => z = Fd) U7)) ss rs v ∧ K1.RF 4 (nt (wo (fun z => z = Fd) U7)) v v := by
        intro v hv
        simp only [List.mem_cons, List.not_mem_nil, or_false] at hv
        rcases hv with rfl | rfl | rfl | rfl | rfl | rfl | rfl | rfl
        · exact ⟨.inl (noSeq_ty (.base .non) (by decide) rfl), r_non⟩
        · exact ⟨.inl (noSeq_ty (.base (.int 5)) (by decide) rfl), r_int 5⟩
        · exact ⟨.inl (noSeq_ty (.base (.str "ab")) (by decide) rfl), r_str _⟩
        · exact ⟨.inr (.inl ⟨_, ⟨b1, rfl, .inr v1⟩, by decide⟩), self_tup (n := 3) v1 (by decide) fun x hx => by cases hx⟩
        · exact ⟨.inr (.inl ⟨_, ⟨b2, rfl, .inr v2⟩, by simp⟩), self_tup (n := 3) v2 (by show 1 ≤ 100; decide) (sts fun x hx => ⟨_, List.mem_singleton.mp hx⟩)⟩
        · refine ⟨.inr (.inl ⟨_, ⟨b3, rfl, .inr v3⟩, by simp⟩), self_tup (n := 3) v3 (by show 4 ≤ 100; decide) (sts fun x hx => ?_)⟩
          simp only [List.cons_append, List.nil_append, List.mem_cons, List.not_mem_nil, or_false] at hx
          rcases hx with rfl | rfl | rfl | rfl <;> exact ⟨_, rfl⟩
        · refine ⟨.inr (.inr ⟨_, _, ⟨b4, rfl, .inr v4⟩, .inr ⟨_, rfl, e0m.1, .inl (.inl ⟨_, rfl, nob⟩)⟩⟩), self_tup (n := 3) v4 (by show 2 ≤ 100; decide) (sts fun x hx => ?_)⟩
          simp only [List.mem_cons, List.not_mem_nil, or_false] at hx
          rcases hx with rfl | rfl <;> exact ⟨_, rfl⟩
        · refine ⟨.inr (.inr ⟨_, _, ⟨b6, rfl, .inr v6⟩, .inr ⟨_, rfl, e0m.1, .inr ⟨_, rfl, e0m.1, ?_⟩⟩⟩), self_tup (n := 3) v6 (by show 2 ≤ 100; decide) (sts fun x hx => ?_)⟩
          · cases hpl : plOf rs e0.1 e0.1 with
            | none => rfl
            | some i =>
              obtain ⟨hi, hie⟩ := plOf_at hpl
              have fi := frs i hi
              exfalso
              rcases hie with hie | hie <;> rw [hie] at fi <;> exact fi rfl
          · simp only [List.mem_cons, List.not_mem_nil, or_false] at hx
            rcases hx with rfl | rfl <;> exact ⟨_, rfl⟩
      refine ⟨T, rfl, ⟨_, SqT.of u7⟩, ?_⟩
      have gF8 : U7 Fd = some (.lst (ys ++ [.ref a1, .ref a2, .ref a4, .ref a7])) := h17 _ _ gF7
      have RFn : R ≠ Fd := RF
      have gR8 : U7 R = some (.lst ((t0 :: cq').map V.ref)) := h17 _ _ (k67 _ _ RFn (f06 _ _ gR5))
      have k57 : Kept Fd H5 U7 := fun b0 o nb hb => h17 _ _ (k67 _ _ nb (f06 _ _ hb))
      have Tn : T ≠ Fd := fun z => by rw [z, gF8] at u7; cases u7
      refine for_it walk_tup (fun i σ Hc => (∃ x1, σ = [some (.ref a), some (.ref t), some (.ref c), some (.ref R), some (.int d), some (.ref Fd), some (.ref t0), x1]) ∧ Kept Fd U7 Hc ∧ ∃ zs, Hc Fd = some (.lst zs) ∧ zs.length = 13 + i ∧ ∀ y ∈ zs, OddE K ss rs (nt (wo (fun z => z = Fd) Hc)) y)
        ⟨⟨_, rfl⟩, Kept.refl, _, gF8, by rw [List.length_append, lys]; rfl, fun y hy => (ok7 y hy).ext (nt_mono up17)⟩ (fun i σ Hc _ h => SqT.of (h.2.1 _ _ Tn u7)) ?_ ?_
      · rintro i v σ Hc H' hi ⟨⟨x1, rfl⟩, w1, zs, w2, w3, w4⟩ ⟨rfl, hv⟩
        obtain ⟨od, sm⟩ := odd v (List.mem_of_getElem? hv)
        have hi8 : i < 8 := hi
        refine K1.gN ?_
        have gR9 := w1 _ _ RFn gR8
        refine ⟨_, rfl, .inl ⟨rfl, _, SqL.of w2⟩, ?_⟩
        refine cons_run ?_
        refine ⟨_, rfl, _, rfl, (-1 : Int), rfl, R, _, rfl, SqL.of gR9, fun q1 hq1 => ?_⟩
        rw [cut_last]
        have y1 := K1.Same.upd (H := H') (p := q1) (o := .lst ((t0 :: cq').map V.ref).dropLast) hq1
        have z1 := upd_same' H' q1 (.lst ((t0 :: cq').map V.ref).dropLast)
        generalize L2.upd H' q1 (.lst ((t0 :: cq').map V.ref).dropLast) = Y1 at y1 z1 ⊢
        refine ⟨_, rfl, (by show 1 ≤ sizeLine; decide), fun q2 hq2 => ?_⟩
        have y2 := K1.Same.upd (H := Y1) (p := q2) (o := .lst [v]) hq2
        have z2 := upd_same' Y1 q2 (.lst [v])
        generalize L2.upd Y1 q2 (.lst [v]) = Y2 at y2 z2 ⊢
        have ldr : ((t0 :: cq').map V.ref).dropLast.length ≤ 58 := by rw [List.length_dropLast]; omega
        refine ⟨q1, q2, _, _, rfl, rfl, y2 _ _ z1, z2, Nat.le_of_lt (small1000 (by simp only [List.length_cons, List.length_nil]; omega)), fun q3 hq3 => ?_⟩
        have y3 := K1.Same.upd (H := Y2) (p := q3) (o := .lst (((t0 :: cq').map V.ref).dropLast ++ [v])) hq3
        have z3 := upd_same' Y2 q3 (.lst (((t0 :: cq').map V.ref).dropLast ++ [v]))
        generalize L2.upd Y2 q3 (.lst (((t0 :: cq').map V.ref).dropLast ++ [v])) = Y3 at y3 z3 ⊢
        have y13 := y1.trans (y2.trans y3)
        have q3n : q3 ≠ Fd := fun z => by rw [z, (y1.trans y2) _ _ w2] at hq3; cases hq3
        refine ⟨Fd, _, _, rfl, rfl, y13 _ _ w2, by rw [w3]; exact small1000 (by omega), ⟨_, rfl⟩, fun b0 o nb hb => ?_, zs ++ [.ref q3], upd_same, by rw [List.length_append, w3]; rfl, fun y hy => ?_⟩
        · rw [upd_ne nb]
          exact y13 _ _ (w1 _ _ nb hb)
        · have lift : Same (wo (fun z => z = Fd) H') (wo (fun z => z = Fd) (L2.upd Y3 Fd (.lst (zs ++ [.ref q3])))) := wo_same fun b0 o nb hb => by
            rw [upd_ne nb]
            exact y13 _ _ hb
          have lift7 : Same (wo (fun z => z = Fd) U7) (wo (fun z => z = Fd) H') := wo_same fun b0 o nb hb => w1 _ _ nb hb
          rcases List.mem_append.mp hy with hy | hy
          · exact (w4 y hy).ext (nt_mono lift)
          · rw [List.mem_singleton.mp hy]
            have big := nt_mono (up17.trans (lift7.trans lift))
            have bigU := nt_mono (lift7.trans lift)
            have prY := TupP.ext pr7 big
            have pjY := pj prY
            have gq3 : nt (wo (fun z => z = Fd) (L2.upd Y3 Fd (.lst (zs ++ [.ref q3])))) q3 = some (.lst (((t0 :: cq').map V.ref).dropLast ++ [v])) := nt_l (wo_some.mpr ⟨q3n, by rw [upd_ne q3n]; exact z3⟩)
            have dl : ((t0 :: cq').map V.ref).dropLast = ((t0 :: cq').map V.ref).take (((t0 :: cq').map V.ref).length - 1) := List.dropLast_eq_take ..
            refine ⟨no_list (xs := ((t0 :: cq').map V.ref).dropLast) (ys := []) (js2 := []) ⟨q3, rfl, .inl gq3⟩ (by rw [List.length_append]; simp only [List.length_cons, List.length_nil]; omega) (by rw [dl]; exact paired_take _ pjY) .nil (od.ext bigU), self_lst (n := 4) gq3 (by rw [List.length_append]; simp only [List.length_cons, List.length_nil]; omega) fun x hx => ?_⟩
            rcases List.mem_append.mp hx with hx | hx
            · exact tups prY x (by rw [dl] at hx; exact List.mem_of_mem_take hx)
            · rw [List.mem_singleton.mp hx]
              exact K1.RF.mon 4 _ _ _ _ bigU sm
      · rintro σ Hc ⟨⟨x1, rfl⟩, w1, zs, w2, w3, w4⟩
        have kHc : Kept a H Hc := fun b0 o nb hb => by
          have h5 := k5 _ _ nb hb
          exact w1 _ _ (fun z => by rw [z, Fd0] at hb; cases hb) (k57 _ _ (fun z => by rw [z, Fd0] at hb; cases hb) h5)
        have sHc : Spr Hc a (n + 1) := by
          obtain ⟨x, y, z, g, r⟩ := s5
          exact ⟨x, y, z, w1 _ _ Fa.symm (k57 _ _ Fa.symm g), r⟩
        refine oe_end (K := K) (ss := ss) (rs := rs) (R := R) (Fd := Fd) (cq := t0 :: cq') (zs := zs) (d := d) rfl rfl rfl d0 (w1 _ _ RFn gR8) w2 (by rw [w3]; show 13 + 8 ≤ 30; decide) (by simp at lR ⊢; omega) ?_ pj (fun y hy => (w4 y hy).ext (nt_mono wo_out)) fun r ys' H' e6 n6 g6 l6 ok6 => ?_
        · have tn : ∀ (p : Addr) (e : Str × Str), TupP H5 p e → TupP Hc p e := fun p e h => by
            have pn : p ≠ Fd := fun z => by
              have h : H5 p = _ := h
              rw [z, gF5] at h; cases h
            exact w1 _ _ pn (k57 _ _ pn h)
          exact paired_imp tn pr5
        · exact q r ys' H' (kHc.trans (Kept.same e6)) (sHc.same e6) (frH kHc sHc n6) g6 l6 ok6
    · have ljs : (jsOf rs (e0 :: es')).length = cq'.length + 1 := by rw [jlen, ← lR]; simp
      refine ⟨_, rfl, R, _, rfl, .inl (SqL.of (f14 _ _ gR5)), _, _, rfl, rfl, _, rfl, ?_⟩
      cases cq' with
      | nil =>
        refine iteF ⟨_, rfl, R, 2, _, rfl, rfl, f14 _ _ gR5, by decide, by decide, (by show 1 * 2 ≤ sizeLine; decide), fun a7 ha7 => ?_⟩
        refine cont _ _ ⟨a7, [.ref t0, .ref t0], [j0, j0], rfl, K1.Same.upd ha7, upd_same, (by show 2 ≤ 60; decide), fun G hG => ?_, by simp, fun x hx => ?_⟩
        · rw [ejs] at hG
          cases hG with
          | cons b0 r0 =>
            exact .cons b0 (.cons b0 .nil)
        · simp only [List.mem_cons, List.not_mem_nil, or_false] at hx
          rcases hx with rfl | rfl <;> simp
      | cons t1 cq'' =>
        have lt1 : (1 : Int) < ((((t0 :: t1 :: cq'').map V.ref).length : Nat) : Int) := by simp only [List.map_cons, List.length_cons]; omega
        rw [decide_eq_true lt1]
        refine iteT ⟨_, rfl, (1 : Int), rfl, R, _, rfl, SqL.of (f14 _ _ gR5), fun a5 ha5 => ?_⟩
        rw [c1]
        have f5 := K1.Same.upd (H := G4) (p := a5) (o := .lst ((t1 :: cq'').map V.ref)) ha5
        have g5 := upd_same' G4 a5 (.lst ((t1 :: cq'').map V.ref))
        generalize L2.upd G4 a5 (.lst ((t1 :: cq'').map V.ref)) = G5 at f5 g5 ⊢
        obtain ⟨tl, hl1, hl2⟩ : ∃ tl : Addr, ∃ pre : List Addr, (t1 :: cq'') = pre ++ [tl] := by
          rcases List.eq_nil_or_concat (t1 :: cq'') with h | ⟨pre, tl, h⟩
          · cases h
          · exact ⟨tl, pre, by rw [h, List.concat_eq_append]⟩
        have al : atI ((t0 :: t1 :: cq'').map V.ref) (-1) = some (.ref tl) := by
          rw [hl2, show t0 :: (hl1 ++ [tl]) = (t0 :: hl1) ++ [tl] from rfl, List.map_append]
          exact atI_last _ _
        refine ⟨_, rfl, _, rfl, R, _, _, _, rfl, rfl, SqL.of (f5 _ _ (f14 _ _ gR5)), al, (by show 1 ≤ sizeLine; decide), fun a6 ha6 => ?_⟩
        have f6 := K1.Same.upd (H := G5) (p := a6) (o := .lst [.ref tl]) ha6
        have g6 := upd_same' G5 a6 (.lst [.ref tl])
        generalize L2.upd G5 a6 (.lst [.ref tl]) = G6 at f6 g6 ⊢
        have lq : ((t1 :: cq'').map V.ref).length ≤ 58 := by simp only [List.map_cons, List.length_cons] at lR ⊢; omega
        refine ⟨a5, a6, _, _, rfl, rfl, f6 _ _ g5, g6, Nat.le_of_lt (small1000 (by simp only [List.length_cons, List.length_nil] at lq ⊢; omega)), fun a7 ha7 => ?_⟩
        refine cont _ _ ⟨a7, _, js' ++ [js'.getLastD 0], rfl, f5.trans (f6.trans (K1.Same.upd ha7)), upd_same, by rw [List.length_append]; simp only [List.length_cons, List.length_nil] at lq ⊢; omega, fun G hG => ?_, fun nd => ?_, fun x hx => ?_⟩
        · rw [ejs] at hG
          cases hG with
          | cons b0 r0 =>
            refine paired_snoc r0 ?_
            rcases List.eq_nil_or_concat js' with h | ⟨pj', jl, h⟩
            · rw [h] at r0; cases r0
            · rw [List.concat_eq_append] at h
              have e1 : js'.getLastD 0 = jl := by rw [h]; simp
              rw [e1]
              have lsame : hl1.length = pj'.length := by
                have := r0.length
                rw [h, hl2] at this
                simpa using this
              obtain ⟨x, ex, rx⟩ := paired_get r0 (i := pj'.length) (by rw [h]; simp)
              have ex2 : x = .ref tl := by
                rw [hl2, List.map_append, List.getElem?_append_right (by rw [List.length_map]; omega), List.length_map, lsame, Nat.sub_self] at ex
                exact (Option.some.inj ex).symm
              have ej : js'[pj'.length]'(by rw [h]; simp) = jl := by simp [h]
              rw [ej, ex2] at rx
              exact rx
        · have hn := (List.nodup_append.mp nd).2.2
          have hm : js'.getLastD 0 ∈ js' := by
            rcases List.eq_nil_or_concat js' with h | ⟨pj', jl, h⟩
            · rw [ejs, h] at ljs
              simp at ljs
            · rw [h, List.concat_eq_append]; simp
          exact hn _ hm _ (List.mem_singleton.mpr rfl) rfl
        · rcases List.mem_append.mp hx with hx | hx
          · exact List.mem_cons_of_mem _ hx
          · rw [List.mem_singleton.mp hx, hl2]
            simp
end
end K1
end
-- ERef
section
set_option Elab.async false
set_option linter.all false
set_option maxRecDepth 100000
set_option maxHeartbeats 4000000
namespace K1
open PySem PySem.Spec PyProof.Rows L2 W0
abbrev sRef : Stmt := top 67
theorem scRef : FnScope ["spring", "made", "valley", "closing", "one", "odd", "found", "held", "known"] ["spring", "made", "valley", "closing"] (defScope sRef) := ⟨rfl, rfl, rfl, by decide +kernel, rfl, by decide +kernel, by decide +kernel⟩
def qRef : Str := "_law_refused_right.<locals>." ++ "<lambda>"
section
variable {P : Program} {w : World} {K : PySem.W.Frag} {mg : Str → Option Value} {base : Heap} {C CC CN CS CM : Addr}
/-- the body has a reading -/
theorem has_ref {f c TP fm fS fP fJ fO fQ : Addr} {fdm sd pd jd od_ qd : FuncData} {A : Around} {outer : List Env} {s : Shared} {H : Hp} {E : XK} (B : Bl mg)
    (MG : MetH K mg CC CN CS CM) (Fm : Fun K "_law_met" "_law_met" sMt fm fdm) (bm : Binds K fdm ["ask"] []) (mm : mg "_law_met" = some (.ref fm)) (TB : LamX.TabB base mg c TP) {TT : List (Addr × Str)} (hT : (TP, qRef) ∈ TT) (hU : ∀ p ∈ TT, p.1 = TP → p.2 = qRef)
    (GS : FnOk P w K mg base CX0 7 fS sd ["found", "due"] (spSm (RF 7))) (bS : Binds K sd ["found", "due"] []) (kS : PySem.W.keepIn K (.ref fS) = true) (mS : mg "_law_same" = some (.ref fS))
    (GP : FnOk P w K mg base (L2.CX P w) 8 fP pd ["valley", "closing", "one", "other"] (spPb K C CC CN CS)) (bP : Binds K pd ["valley", "closing", "one", "other"] []) (kP : PySem.W.keepIn K (.ref fP) = true) (mP : mg "parted_by" = some (.ref fP))
    (GJ : FnOk P w K mg base (L2.CX P w) 8 fJ jd ["valley", "closing", "house", "many"] (spSj K C CC CN CM)) (bJ : Binds K jd ["valley", "closing", "house", "many"] []) (kJ : PySem.W.keepIn K (.ref fJ) = true) (mJ : mg "still_joined" = some (.ref fJ))
    (GO : FnOk P w K mg base CX0 2 fO od_ ["spring", "valley", "evening"] (spOe K)) (bO : Binds K od_ ["spring", "valley", "evening"] []) (kO : PySem.W.keepIn K (.ref fO) = true) (mO : mg "_law_v_odd_evenings" = some (.ref fO))
    (GQ : FnOk P w K mg base CX0 1 fQ qd ["names"] spOdd) (bQ : Binds K qd ["names"] []) (kQ : PySem.W.keepIn K (.ref fQ) = true) (mQ : mg "_law_v_odd_houses" = some (.ref fQ))
    (hrL : Room 11 (cxOf CX0 P w K mg base ["spring", "made", "valley", "closing", "one", "odd", "found", "held", "known"] "_law_refused_right" (defScope sRef) f (.ref c) A outer s H E).nox.A) :
    ∃ t0, PSs (cxOf CX0 P w K mg base ["spring", "made", "valley", "closing", "one", "odd", "found", "held", "known"] "_law_refused_right" (defScope sRef) f (.ref c) A outer s H E).nox (defBody sRef) t0 := by
  obtain ⟨ocm, odm, kVm, docm, pmm, anm, cdvm, ctm, oslm, rfl, lkm, hcm⟩ := Fm.ex
  have km := Fm.kp
  have nd := scRef.nd
  have hu := hu_of hrL
  have hr6 : Room 7 _ := hrL.mono (by decide)
  have hr2 : Room 2 _ := hrL.mono (by decide)
  have hr1 : Room 1 _ := hrL.mono (by decide)
  refine ⟨_, (pss_cons (by exact (ps_set (i := 4) nd rfl (.inr rfl) (pe_ix ix_list (pe_ix ix_tup (pv 2) pe_int (fun _ _ => rfl)) pe_int (fun _ _ => rfl))))
  (pss_cons (by exact (ps_for PassesOwn.never rfl (by exact pi_list (pe_call GO hr2 rfl mO kO bO .nil pass0 (pa_cons (pv 0) (pa_cons (pv 2) (pa_cons (pv 3) pa_nil))))) (pg_name (i := 5) nd rfl (.inr rfl)) (pss_cons (by exact (ps_set (i := 6) nd rfl (.inl rfl) (pe_lst (pa_cons (LamX.pe_lamcall (k := 9) (t := fun E => tCall (spPb K C CC CN CS) [] E (tCons (tVar 1) (tCons (tVar 5) (tCons (tC .non) (tCons (tC .non) tNil))))) rfl mm km lkm hcm bm scMt rfl (.inl rfl) (mt_gives MG) TB rfl hT hU (by exact hrL) (LamX.lamS_by (by with_unfolding_all rfl)) rfl (fun _ _ _ _ _ => rfl) (fun A outer s H E f c' hz => by exact (pe_call GP (hz.mono (by decide)) rfl mP kP bP .nil (passes_call (takes_of rfl rfl rfl rfl) (fun _ _ _ _ h => h)) (pa_cons (pv 1) (pa_cons (pv 5) (pa_cons pe_non (pa_cons pe_non pa_nil))))))) pa_nil))))
  (pss_cons (by exact (ps_expr (pe_bm PySem.F.plainAttrs_list PySem.F.slot_list_append PySem.F.type_list_append mt_append (pv 6) (pa_cons (LamX.pe_lamcall (k := 9) (t := fun E => tCall (spSj K C CC CN CM) [] E (tCons (tVar 1) (tCons (tVar 5) (tCons (tC .non) (tCons (tC .non) tNil))))) rfl mm km lkm hcm bm scMt rfl (.inl rfl) (mt_gives MG) TB rfl hT hU (by exact hrL) (LamX.lamS_by (by with_unfolding_all rfl)) rfl (fun _ _ _ _ _ => rfl) (fun A outer s H E f c' hz => by exact (pe_call GJ (hz.mono (by decide)) rfl mJ kJ bJ .nil (passes_call (takes_of rfl rfl rfl rfl) (fun _ _ _ _ h => h)) (pa_cons (pv 1) (pa_cons (pv 5) (pa_cons pe_non (pa_cons pe_non pa_nil))))))) pa_nil))))
  (pss_one (by exact (ps_if (pt_not (pt_val (pe_call GS hr6 rfl mS kS bS .nil pass0 (pa_cons (pv 6) (pa_cons (pe_op op_rep (pe_lst (pa_cons (pe_tup (pa_cons pe_str (pa_cons (pv 5) pa_nil))) pa_nil)) pe_int) pa_nil))))) (pss_one (by exact (ps_ret pe_bl))) pss_nil)))))))
  (pss_cons (by exact (ps_for PassesOwn.never rfl (by exact pi_list (pe_call GQ hr1 rfl mQ kQ bQ .nil pass0 (pa_cons (pe_ix ix_tup (pv 2) pe_int (fun _ _ => rfl)) pa_nil))) (pg_name (i := 5) nd rfl (.inr rfl)) (pss_cons (by exact (ps_set (i := 6) nd rfl (.inl rfl) (pe_lst (pa_cons (LamX.pe_lamcall (k := 9) (t := fun E => tCall (spPb K C CC CN CS) [] E (tCons (tVar 1) (tCons (tVar 3) (tCons (tVar 5) (tCons (tC .non) tNil))))) rfl mm km lkm hcm bm scMt rfl (.inl rfl) (mt_gives MG) TB rfl hT hU (by exact hrL) (LamX.lamS_by (by with_unfolding_all rfl)) rfl (fun _ _ _ _ _ => rfl) (fun A outer s H E f c' hz => by exact (pe_call GP (hz.mono (by decide)) rfl mP kP bP .nil (passes_call (takes_of rfl rfl rfl rfl) (fun _ _ _ _ h => h)) (pa_cons (pv 1) (pa_cons (pv 3) (pa_cons (pv 5) (pa_cons pe_non pa_nil))))))) pa_nil))))
  (pss_cons (by exact (ps_expr (pe_bm PySem.F.plainAttrs_list PySem.F.slot_list_append PySem.F.type_list_append mt_append (pv 6) (pa_cons (LamX.pe_lamcall (k := 9) (t := fun E => tCall (spPb K C CC CN CS) [] E (tCons (tVar 1) (tCons (tVar 3) (tCons (tVar 4) (tCons (tVar 5) tNil))))) rfl mm km lkm hcm bm scMt rfl (.inl rfl) (mt_gives MG) TB rfl hT hU (by exact hrL) (LamX.lamS_by (by with_unfolding_all rfl)) rfl (fun _ _ _ _ _ => rfl) (fun A outer s H E f c' hz => by exact (pe_call GP (hz.mono (by decide)) rfl mP kP bP .nil (passes_call (takes_of rfl rfl rfl rfl) (fun _ _ _ _ h => h)) (pa_cons (pv 1) (pa_cons (pv 3) (pa_cons (pv 4) (pa_cons (pv 5) pa_nil))))))) pa_nil))))
  (pss_cons (by exact (ps_expr (pe_bm PySem.F.plainAttrs_list PySem.F.slot_list_append PySem.F.type_list_append mt_append (pv 6) (pa_cons (LamX.pe_lamcall (k := 9) (t := fun E => tCall (spSj K C CC CN CM) [] E (tCons (tVar 1) (tCons (tVar 3) (tCons (tVar 5) (tCons (tC .non) tNil))))) rfl mm km lkm hcm bm scMt rfl (.inl rfl) (mt_gives MG) TB rfl hT hU (by exact hrL) (LamX.lamS_by (by with_unfolding_all rfl)) rfl (fun _ _ _ _ _ => rfl) (fun A outer s H E f c' hz => by exact (pe_call GJ (hz.mono (by decide)) rfl mJ kJ bJ .nil (passes_call (takes_of rfl rfl rfl rfl) (fun _ _ _ _ h => h)) (pa_cons (pv 1) (pa_cons (pv 3) (pa_cons (pv 5) (pa_cons pe_non pa_nil))))))) pa_nil))))
  (pss_one (by exact (ps_if (pt_not (pt_val (pe_call GS hr6 rfl mS kS bS .nil pass0 (pa_cons (pv 6) (pa_cons (pe_op op_rep (pe_lst (pa_cons (pe_tup (pa_cons pe_str (pa_cons (pv 5) pa_nil))) pa_nil)) pe_int) pa_nil))))) (pss_one (by exact (ps_ret pe_bl))) pss_nil))))))))
  (pss_cons (by exact (ps_if (pt_not (pt_val (pe_call GS hr6 rfl mS kS bS .nil pass0 (pa_cons (LamX.pe_lamcall (k := 9) (t := fun E => tCall (spPb K C CC CN CS) [] E (tCons (tVar 1) (tCons (tVar 3) (tCons (tVar 4) (tCons (tVar 4) tNil))))) rfl mm km lkm hcm bm scMt rfl (.inl rfl) (mt_gives MG) TB rfl hT hU (by exact hrL) (LamX.lamS_by (by with_unfolding_all rfl)) rfl (fun _ _ _ _ _ => rfl) (fun A outer s H E f c' hz => by exact (pe_call GP (hz.mono (by decide)) rfl mP kP bP .nil (passes_call (takes_of rfl rfl rfl rfl) (fun _ _ _ _ h => h)) (pa_cons (pv 1) (pa_cons (pv 3) (pa_cons (pv 4) (pa_cons (pv 4) pa_nil))))))) (pa_cons (pe_tup (pa_cons pe_str (pa_cons (pv 4) pa_nil))) pa_nil))))) (pss_one (by exact (ps_ret pe_bl))) pss_nil))
  (pss_cons (by exact (ps_for PassesOwn.never rfl (by exact pi_tup (pe_tup (pa_cons pe_non (pa_cons (pe_un un_neg pe_int) (pa_cons pe_bl (pa_cons pe_str (pa_cons (pe_lst (pa_cons pe_int pa_nil)) (pa_cons (pe_tup pa_nil) (pa_cons pe_dnewK (pa_cons (pe_op op_add (pe_callB call_len_seq rfl B.len PySem.boot_len (pa_cons (pv 3) pa_nil)) pe_int) pa_nil)))))))))) (pg_name (i := 5) nd rfl (.inr rfl)) (pss_one (by exact (ps_if (pt_not (pt_val (pe_call GS hr6 rfl mS kS bS .nil pass0 (pa_cons (LamX.pe_lamcall (k := 9) (t := fun E => tCall (spSj K C CC CN CM) [] E (tCons (tVar 1) (tCons (tVar 3) (tCons (tVar 4) (tCons (tVar 5) tNil))))) rfl mm km lkm hcm bm scMt rfl (.inl rfl) (mt_gives MG) TB rfl hT hU (by exact hrL) (LamX.lamS_by (by with_unfolding_all rfl)) rfl (fun _ _ _ _ _ => rfl) (fun A outer s H E f c' hz => by exact (pe_call GJ (hz.mono (by decide)) rfl mJ kJ bJ .nil (passes_call (takes_of rfl rfl rfl rfl) (fun _ _ _ _ h => h)) (pa_cons (pv 1) (pa_cons (pv 3) (pa_cons (pv 4) (pa_cons (pv 5) pa_nil))))))) (pa_cons (pe_tup (pa_cons pe_str (pa_cons (pv 5) pa_nil))) pa_nil))))) (pss_one (by exact (ps_ret pe_bl))) pss_nil)))))
  (pss_cons (by exact (ps_asg (pe_tup (pa_cons (pe_lst (pa_cons pe_int pa_nil)) (pa_cons (pe_callTy (call_dictP rfl) rfl B.dict PyProof.Rows.boot_dict (pa_cons (pe_lst (pa_cons (pe_tup (pa_cons pe_str (pa_cons pe_int pa_nil))) pa_nil)) pa_nil)) pa_nil))) (pg_tup rfl (pgs_cons (pg_name (i := 7) nd rfl (.inr rfl)) (pgs_cons (pg_name (i := 8) nd rfl (.inr rfl)) pgs_nil)))))
  (pss_cons (by exact (ps_set (i := 6) nd rfl (.inl rfl) (pe_lst (pa_cons (LamX.pe_lamcall (k := 9) (t := fun E => tCall (spSj K C CC CN CM) [] E (tCons (tVar 1) (tCons (tVar 3) (tCons (tVar 4) (tCons (tVar 7) tNil))))) rfl mm km lkm hcm bm scMt rfl (.inl rfl) (mt_gives MG) TB rfl hT hU (by exact hrL) (LamX.lamS_by (by with_unfolding_all rfl)) rfl (fun _ _ _ _ _ => rfl) (fun A outer s H E f c' hz => by exact (pe_call GJ (hz.mono (by decide)) rfl mJ kJ bJ .nil (passes_call (takes_of rfl rfl rfl rfl) (fun _ _ _ _ h => h)) (pa_cons (pv 1) (pa_cons (pv 3) (pa_cons (pv 4) (pa_cons (pv 7) pa_nil))))))) pa_nil))))
  (pss_cons (by exact (ps_expr (pe_bm PySem.F.plainAttrs_list PySem.F.slot_list_append PySem.F.type_list_append mt_append (pv 6) (pa_cons (LamX.pe_lamcall (k := 9) (t := fun E => tCall (spPb K C CC CN CS) [] E (tCons (tVar 1) (tCons (tVar 3) (tCons (tVar 8) (tCons (tVar 4) tNil))))) rfl mm km lkm hcm bm scMt rfl (.inl rfl) (mt_gives MG) TB rfl hT hU (by exact hrL) (LamX.lamS_by (by with_unfolding_all rfl)) rfl (fun _ _ _ _ _ => rfl) (fun A outer s H E f c' hz => by exact (pe_call GP (hz.mono (by decide)) rfl mP kP bP .nil (passes_call (takes_of rfl rfl rfl rfl) (fun _ _ _ _ h => h)) (pa_cons (pv 1) (pa_cons (pv 3) (pa_cons (pv 8) (pa_cons (pv 4) pa_nil))))))) pa_nil))))
  (pss_cons (by exact (ps_expr (pe_bm PySem.F.plainAttrs_list PySem.F.slot_list_append PySem.F.type_list_append mt_append (pv 7) (pa_cons pe_str pa_nil))))
  (pss_cons (by exact (ps_dput hu (pv 8) pe_str pe_int rfl))
  (pss_one (by exact (ps_ret (pe_call GS hr6 rfl mS kS bS .nil pass0 (pa_cons (pv 6) (pa_cons (pe_lst (pa_cons (pe_tup (pa_cons pe_str (pa_cons (pe_lst (pa_cons pe_int (pa_cons pe_str pa_nil))) pa_nil))) (pa_cons (pe_tup (pa_cons pe_str (pa_cons (pe_callTy (call_dictP rfl) rfl B.dict PyProof.Rows.boot_dict (pa_cons (pe_lst (pa_cons (pe_tup (pa_cons pe_str (pa_cons pe_int pa_nil))) (pa_cons (pe_tup (pa_cons pe_str (pa_cons pe_int pa_nil))) pa_nil))) pa_nil)) pa_nil))) pa_nil))) pa_nil))))))))))))))))⟩
end
end K1
end
-- EFnd
section
set_option Elab.async false
set_option linter.all false
set_option maxRecDepth 100000
set_option maxHeartbeats 1000000
namespace K1
open PySem PySem.Spec PyProof.Rows L2 W0
theorem tabs_same {T : List (Addr × Str)} {H H' : Hp} (t : LamX.Tabs T H) (e : Same H H') : LamX.Tabs T H' := t.ext e
theorem tabs_kept {T : List (Addr × Str)} {H H' : Hp} {D : Addr} {xs : List V} (t : LamX.Tabs T H) (hD : H D = some (.lst xs)) (k : Kept D H H') : LamX.Tabs T H' := fun p hp => by
  obtain ⟨ps, h1, h2, h3⟩ := t p hp
  refine ⟨ps, k _ _ (fun z => by rw [z, hD] at h1; cases h1) h1, h2, fun pos cv hc => ?_⟩
  obtain ⟨c, e1, e2⟩ := h3 pos cv hc
  refine ⟨c, e1, k _ _ (fun z => ?_) e2⟩
  rw [z, hD] at e2
  have : HO.lst xs = LamX.CodeO D p.2 := Option.some.inj e2
  unfold LamX.CodeO at this
  cases this
/-- a refusal's word, its field, its class -/
def MetBy (CC CN CS CM : Addr) (tg fld : Str) (C : Addr) : Prop := (tg = "closing" ∧ fld = "closing" ∧ C = CC) ∨ (tg = "house" ∧ fld = "house" ∧ C = CN) ∨ (tg = "same" ∧ fld = "house" ∧ C = CS) ∨ (tg = "many" ∧ fld = "many" ∧ C = CM)
theorem met_by {TT : List (Addr × Str)} {CC CN CS CM CR : Addr} {tg fld : Str} {t : XK → TE} {σ : L2.St} {H : Hp} {Q : VK} {v : V} (mb : MetBy CC CN CS CM tg fld CR) (tb : LamX.Tabs TT H) (hg : ∀ H1, LamX.ExtN H H1 → ∀ (E : XK) (Q' : VK), GoesF CR [(fld, v)] H1 E → t E σ H1 Q')
    (hq : ∀ p H', LamX.ExtN H H' → LamX.Tabs TT H' → (∀ o, H p = some o → ∃ ps, o = .tbl ps) → H' p = some (.tup [.str tg, v]) → Q (.ref p) H') : LamX.tLam TT (TMt CC CN CS CM) t σ H Q := by
  refine ⟨tb, fun H1 eN T1 => hg H1 eN _ _ fun d H2 e nd hx => ?_⟩
  have fin : ∀ p, H2 p = none → Q (.ref p) (upd H2 p (.tup [.str tg, v])) := fun p hp => by
    refine hq p _ ?_ ?_ (fun o ho => ?_) upd_same
    · exact eN.trans (LamX.ExtN.of (e.trans (K1.Same.upd hp)))
    · exact T1.ext (e.trans (K1.Same.upd hp))
    · cases o with
      | tbl ps => exact ⟨ps, rfl⟩
      | _ =>
        have h2 := e _ _ (eN p _ ho fun ps z => by cases z)
        rw [hp] at h2
        cases h2
  rcases mb with ⟨rfl, rfl, rfl⟩ | ⟨rfl, rfl, rfl⟩ | ⟨rfl, rfl, rfl⟩ | ⟨rfl, rfl, rfl⟩
  · exact .inl ⟨rfl, d, v, rfl, hx, fin⟩
  · exact .inr (.inl ⟨rfl, d, v, rfl, hx, fin⟩)
  · exact .inr (.inr (.inl ⟨rfl, d, v, rfl, hx, fin⟩))
  · exact .inr (.inr (.inr ⟨rfl, d, v, rfl, hx, fin⟩))
/-- how one was refused: a pair, with what was refused -/
def TagP (tg : Str) (H : Hp) (z v : V) : Prop := ∃ p, z = .ref p ∧ H p = some (.tup [.str tg, v])
/-- a list of what was refused, in a heap that has grown since H0 -/
structure Fnd (tg : Str) (TT : List (Addr × Str)) (H0 H : Hp) (Fd : Addr) (zs vs : List V) : Prop where
  ext : LamX.ExtN H0 H
  tb : LamX.Tabs TT H
  lst : H Fd = some (.lst zs)
  new : ∀ o, H0 Fd = some o → ∃ ps, o = .tbl ps
  prs : Paired (TagP tg H) zs vs
theorem extN_upd2 {H0 H : Hp} {Fd : Addr} {o : HO} (e : LamX.ExtN H0 H) (n : ∀ o, H0 Fd = some o → ∃ ps, o = .tbl ps) : LamX.ExtN H0 (L2.upd H Fd o) := fun b u h nt => by
  have bF : b ≠ Fd := fun z => by
    obtain ⟨ps, e2⟩ := n u (by rw [← z]; exact h)
    exact nt ps e2
  rw [upd_ne bF]
  exact e b u h nt
theorem TagP.upd {H : Hp} {Fd : Addr} {xs zs : List V} {tg : Str} {z v : V} (g : H Fd = some (.lst xs)) (h : TagP tg H z v) : TagP tg (L2.upd H Fd (.lst zs)) z v := by
  obtain ⟨p, rfl, hp⟩ := h
  exact ⟨p, rfl, by rw [upd_ne (fun e => by rw [e, g] at hp; cases hp)]; exact hp⟩
theorem TagP.updD {H : Hp} {Fd : Addr} {xs zs : List (Key × V)} {tg : Str} {z v : V} (g : H Fd = some (.dK xs)) (h : TagP tg H z v) : TagP tg (L2.upd H Fd (.dK zs)) z v := by
  obtain ⟨p, rfl, hp⟩ := h
  exact ⟨p, rfl, by rw [upd_ne (fun e => by rw [e, g] at hp; cases hp)]; exact hp⟩
theorem tabs_keptD {T : List (Addr × Str)} {H H' : Hp} {D : Addr} {xs : List (Key × V)} (t : LamX.Tabs T H) (hD : H D = some (.dK xs)) (k : Kept D H H') : LamX.Tabs T H' := fun p hp => by
  obtain ⟨ps, h1, h2, h3⟩ := t p hp
  refine ⟨ps, k _ _ (fun z => by rw [z, hD] at h1; cases h1) h1, h2, fun pos cv hc => ?_⟩
  obtain ⟨c, e1, e2⟩ := h3 pos cv hc
  refine ⟨c, e1, k _ _ (fun z => ?_) e2⟩
  rw [z, hD] at e2
  have : HO.dK xs = LamX.CodeO D p.2 := Option.some.inj e2
  unfold LamX.CodeO at this
  cases this
theorem TagP.ext {H H' : Hp} {tg : Str} {z v : V} (h : TagP tg H z v) (e : LamX.ExtN H H') : TagP tg H' z v := by
  obtain ⟨p, rfl, hp⟩ := h
  exact ⟨p, rfl, e _ _ hp (fun _ z => by cases z)⟩
section
variable {TT : List (Addr × Str)} {CC CN CS CM CR : Addr} {tg fld : Str} {t : XK → TE} {σ : L2.St} {H0 H : Hp} {Q : VK} {v : V} {K : PySem.W.Frag}
theorem fnd_first (mb : MetBy CC CN CS CM tg fld CR) (tb : LamX.Tabs TT H) (hg : ∀ H1, LamX.ExtN H H1 → ∀ (E : XK) (Q' : VK), GoesF CR [(fld, v)] H1 E → t E σ H1 Q')
    (q : ∀ Fd z H', Fnd tg TT H H' Fd [z] [v] → Q (.ref Fd) H') : tLst (tCons (LamX.tLam TT (TMt CC CN CS CM) t) tNil) σ H Q := by
  refine met_by mb tb hg fun p H' e T fr gp => ⟨(by show 1 ≤ sizeLine; decide), fun Fd hFd => ?_⟩
  have s := K1.Same.upd (H := H') (p := Fd) (o := .lst [.ref p]) hFd
  refine q Fd (.ref p) _ ⟨e.trans (LamX.ExtN.of s), tabs_same T s, upd_same, fun o ho => ?_, .cons ⟨p, rfl, s _ _ gp⟩ .nil⟩
  cases o with
  | tbl ps => exact ⟨ps, rfl⟩
  | _ =>
    have h2 := e _ _ ho fun ps z => by cases z
    rw [hFd] at h2
    cases h2
theorem fnd_app {Fd : Addr} {zs vs : List V} {i : Nat} (mb : MetBy CC CN CS CM tg fld CR) (f : Fnd tg TT H0 H Fd zs vs) (l : vs.length ≤ 100) (hσ : σ[i]? = some (some (.ref Fd)))
    (hg : ∀ H1, LamX.ExtN H0 H1 → ∀ (E : XK) (Q' : VK), GoesF CR [(fld, v)] H1 E → t E σ H1 Q')
    (q : ∀ z H', Fnd tg TT H0 H' Fd (zs ++ [z]) (vs ++ [v]) → Q .non H') : tBM K "list" rAppend (tVar i) (tCons (LamX.tLam TT (TMt CC CN CS CM) t) tNil) σ H Q := by
  refine ⟨_, hσ, .inl ⟨rfl, _, SqL.of f.lst⟩, met_by mb f.tb (fun H1 e1 => hg H1 (f.ext.trans e1)) fun p H' e T fr gp => ?_⟩
  have gF := e _ _ f.lst (fun _ z => by cases z)
  have Fp : p ≠ Fd := fun z => by rw [z, gF] at gp; cases gp
  have ll := f.prs.length
  refine ⟨Fd, _, _, rfl, rfl, gF, small1000 (by omega), q (.ref p) _ ⟨extN_upd2 (f.ext.trans e) f.new, tabs_kept T gF Kept.upd, upd_same, f.new, ?_⟩⟩
  exact paired_snoc (paired_imp (fun _ _ h => (h.ext e).upd gF) f.prs) ⟨p, rfl, by rw [upd_ne Fp]; exact gp⟩
end
theorem fnd_other {TT : List (Addr × Str)} {CC CN CS CM CR : Addr} {tg tg2 fld : Str} {t : XK → TE} {σ : L2.St} {H0 H : Hp} {Q : VK} {v : V} {K : PySem.W.Frag} {Fd : Addr} {zs vs : List V} {i : Nat} (mb : MetBy CC CN CS CM tg2 fld CR) (f : Fnd tg TT H0 H Fd zs vs) (l : vs.length ≤ 100) (hσ : σ[i]? = some (some (.ref Fd)))
    (hg : ∀ H1, LamX.ExtN H0 H1 → ∀ (E : XK) (Q' : VK), GoesF CR [(fld, v)] H1 E → t E σ H1 Q')
    (q : ∀ p H', LamX.ExtN H0 H' → LamX.Tabs TT H' → H' Fd = some (.lst (zs ++ [.ref p])) → Paired (TagP tg H') zs vs → H' p = some (.tup [.str tg2, v]) → Q .non H') : tBM K "list" rAppend (tVar i) (tCons (LamX.tLam TT (TMt CC CN CS CM) t) tNil) σ H Q := by
  refine ⟨_, hσ, .inl ⟨rfl, _, SqL.of f.lst⟩, met_by mb f.tb (fun H1 e1 => hg H1 (f.ext.trans e1)) fun p H' e T fr gp => ?_⟩
  have gF := e _ _ f.lst (fun _ z => by cases z)
  have Fp : p ≠ Fd := fun z => by rw [z, gF] at gp; cases gp
  have ll := f.prs.length
  exact ⟨Fd, _, _, rfl, rfl, gF, small1000 (by omega), q p _ (extN_upd2 (f.ext.trans e) f.new) (tabs_kept T gF Kept.upd) upd_same (paired_imp (fun _ _ h => (h.ext e).upd gF) f.prs) (by rw [upd_ne Fp]; exact gp)⟩
theorem same_reps {H : Hp} {tg : Str} {y : V} {W : Addr} (hW : H W = some (.tup [.str tg, y])) (r : (RF 5) H y y) : ∀ (n : Nat) {zs : List V}, Paired (TagP tg H) zs (List.replicate n y) → Paired (RF 6 H) zs (List.replicate n (.ref W))
  | 0, _, .nil => .nil
  | n + 1, _, .cons ⟨p, e, hp⟩ t => .cons (by subst e; exact r_tups hp hW (by show 2 ≤ 100; decide) (.cons (r_str _) (.cons r .nil))) (same_reps hW r n t)
theorem flat_rep {α : Type} {x : α} : ∀ n : Nat, (List.replicate n [x]).flatten = List.replicate n x
  | 0 => rfl
  | n + 1 => by
    rw [List.replicate_succ, List.flatten_cons, List.replicate_succ, flat_rep n]
    rfl
/-- what was refused is what is due, so many times the same pair -/
theorem chk_rep {K : PySem.W.Frag} {D : Ends} {σ : L2.St} {H : Hp} {Fd : Addr} {tg : Str} {y : V} {zs : List V} {i j : Nat} (n : Nat) (hn : n ≤ 10) (h1 : σ[i]? = some (some (.ref Fd))) (h0 : σ[j]? = some (some y)) (gF : H Fd = some (.lst zs)) (p : Paired (TagP tg H) zs (List.replicate n y)) (r : ∀ Hx, Same H Hx → (RF 5) Hx y y)
    (q : ∀ H', Same H H' → D.nx σ H') :
    tIfS (tNot (tB (tCall (spSm (RF 7)) [] E0 (tCons (tVar i) (tCons (tOp rRep (tLst (tCons (tTup (tCons (tC (.str tg)) (tCons (tVar j) tNil))) tNil)) (tC (.int (n : Int)))) tNil))))) (tRet (tC (V.bl false))) tNext D σ H := by
  refine ⟨_, h1, _, h0, (by show 2 ≤ sizeLine; decide), fun W hW => ⟨(by show 1 ≤ sizeLine; decide), fun L hL => ⟨L, (n : Int), _, rfl, rfl, upd_same, by omega, by omega, ?_, fun M hM => ?_⟩⟩⟩
  · show 1 * (n : Int).toNat ≤ 2 ^ 24
    omega
  have s1 := K1.Same.upd (H := H) (p := W) (o := .tup [.str tg, y]) hW
  have gW := upd_same' H W (.tup [.str tg, y])
  generalize L2.upd H W (.tup [.str tg, y]) = H7 at s1 gW hL hM ⊢
  have s2 := K1.Same.upd (H := H7) (p := L) (o := .lst [.ref W]) hL
  generalize L2.upd H7 L (.lst [.ref W]) = H8 at s2 hM ⊢
  have s3 := K1.Same.upd (H := H8) (p := M) (o := .lst (List.replicate (n : Int).toNat [V.ref W]).flatten) hM
  have gM : L2.upd H8 M (.lst (List.replicate (n : Int).toNat [V.ref W]).flatten) M = some (.lst (List.replicate n (V.ref W))) := by
    rw [upd_same, Int.toNat_natCast]
    rw [flat_rep]
  generalize L2.upd H8 M (.lst (List.replicate (n : Int).toNat [V.ref W]).flatten) = H9 at s3 gM ⊢
  have s69 : Same H H9 := s1.trans (s2.trans s3)
  have lz : zs.length = n := by rw [p.length, List.length_replicate]
  have pp : Paired (RF 6 H9) zs (List.replicate n (.ref W)) := same_reps (s3 _ _ (s2 _ _ gW)) (r _ s69) n (paired_imp (fun a b ⟨x, e, hx⟩ => ⟨x, e, s69 _ _ hx⟩) p)
  refine ⟨_, _, rfl, show NextF (RF 6) H9 (.ref Fd) (.ref M) from r_lists (s69 _ _ gF) gM (by omega) pp, fun H10 e10 => ⟨_, rfl, ?_⟩⟩
  exact iteF (q H10 (s69.trans e10))

theorem ValS.nt {C : Addr} {H : Hp} {x l1 l2 l3 d1 d2 d3 : Addr} {qs : List Addr} {bs : Str → Addr} {ss : List Str} {rs : List (Str × Str)} {ns : List Int} (v : ValS C H x l1 l2 l3 d1 d2 d3 qs bs ss rs ns) : ValS C (nt H) x l1 l2 l3 d1 d2 d3 qs bs ss rs ns := by
  obtain ⟨dx, fs, a, r⟩ := v.ins
  obtain ⟨k2, a2, b2⟩ := v.p2
  obtain ⟨k3, a3, b3⟩ := v.p3
  exact ⟨⟨dx, fs, nt_some.mpr ⟨a, fun _ z => by cases z⟩, r⟩, nt_l v.h1, nt_l v.h2, paired_imp (fun _ _ h => nt_t h) v.pr, nt_l v.h3, nt_d v.p1, ⟨k2, nt_some.mpr ⟨a2, fun _ z => by cases z⟩, b2⟩, ⟨k3, nt_d a3, b3⟩, fun s hs => nt_l (v.nb s hs)⟩
theorem IsV.nt {C : Addr} {H : Hp} {x : Addr} {ss : List Str} {rs : List (Str × Str)} {ns : List Int} (v : IsV C H x ss rs ns) : IsV C (nt H) x ss rs ns := by
  obtain ⟨l, l1, l2, l3, d1, d2, d3, qs, bs, h⟩ := v
  exact ⟨l, l1, l2, l3, d1, d2, d3, qs, bs, h.nt⟩
theorem ClAt.nt {a : Addr} {H : Hp} {c : Addr} {cq : List Addr} {rs es : List (Str × Str)} (v : ClAt a H c cq rs es) : ClAt a (nt H) c cq rs es := ⟨nt_l v.h, v.n, paired_imp (fun _ _ h => nt_t h) v.pr, v.perm⟩
end K1
end
-- ERefR
section
set_option Elab.async false
set_option linter.all false
set_option maxRecDepth 100000
set_option maxHeartbeats 4000000
namespace K1
open PySem PySem.Spec PyProof.Rows L2 W0
def FlatKV (R : RelE) (e : Key × V) : Prop := ∀ H, R H (kV e.1) (kV e.1) ∧ R H e.2 e.2
theorem r_items {R : RelE} {H : Hp} : ∀ {as bs : List Addr} {kvs : List (Key × V)}, (∀ e ∈ kvs, FlatKV R e) → Paired (fun (t : Addr) (e : Key × V) => H t = some (.tup [kV e.1, e.2])) as kvs → Paired (fun (t : Addr) (e : Key × V) => H t = some (.tup [kV e.1, e.2])) bs kvs → Paired (NextF R H) (as.map V.ref) (bs.map V.ref)
  | _, _, _, _, .nil, .nil => .nil
  | _, _, _, h, .cons f1 g1, .cons f2 g2 => .cons (r_tups f1 f2 (by show 2 ≤ 100; decide) (.cons (h _ (List.mem_cons_self ..) H).1 (.cons (h _ (List.mem_cons_self ..) H).2 .nil))) (r_items (fun e he => h e (List.mem_cons_of_mem _ he)) g1 g2)
theorem r_dct {R : RelE} {H : Hp} {p q : Addr} {kvs : List (Key × V)} (h1 : H p = some (.dK kvs)) (h2 : H q = some (.dK kvs)) (l : kvs.length ≤ 100) (fl : ∀ e ∈ kvs, FlatKV R e) : NextF (NextF (NextF R)) H (.ref p) (.ref q) :=
  .inr (.inr ⟨p, q, kvs, rfl, rfl, h1, h2, fun H' a b as bs e ha hb pa pb => r_lists ha hb (by rw [List.length_map, pa.length]; exact l) (r_items fl pa pb)⟩)
theorem r_dct0 {R : RelE} {H : Hp} {p q : Addr} (h1 : H p = some (.dK [])) (h2 : H q = some (.dK [])) : NextF (NextF R) H (.ref p) (.ref q) :=
  .inr (.inr ⟨p, q, [], rfl, rfl, h1, h2, fun H' a b as bs e ha hb pa pb => by
    cases pa
    cases pb
    exact r_lists ha hb (by show 0 ≤ 100; decide) .nil⟩)
theorem flat_si {R : RelE} (s : Str) (i : Int) : FlatKV (NextF R) ((.inr s, .int i) : Key × V) := fun H => ⟨r_str s, r_int i⟩
theorem oddP_ok {K : PySem.W.Frag} {ss : List Str} {s : Str} {H : Hp} (nob : ("nobody" : Str) ∉ ss) (no0 : ("" : Str) ∉ ss) {v : V} {P : PV} (hP : P ∈ oddPs s) (h : P H v) : NoHo K (nt H) ss v ∧ RF 5 (nt H) v v := by
  unfold oddPs at hP
  simp only [List.mem_cons, List.not_mem_nil, or_false] at hP
  rcases hP with rfl | rfl | rfl | rfl | rfl | rfl | rfl | rfl | rfl
  · cases h
    exact ⟨.inr ⟨_, .base .non, by decide, by decide⟩, r_non⟩
  · cases h
    exact ⟨.inr ⟨_, .base (.int 5), by decide, by decide⟩, r_int 5⟩
  · cases h
    exact ⟨.inl ⟨_, rfl, nob⟩, r_str _⟩
  · cases h
    exact ⟨.inl ⟨_, rfl, no0⟩, r_str _⟩
  · cases h
    exact ⟨.inr ⟨_, .base (.bl true), by decide, by decide⟩, r_bl _⟩
  · obtain ⟨p, xs, rfl, hp, pr⟩ := h
    cases pr with | cons q pr => cases pr; cases q; exact ⟨.inr ⟨_, .base (.lst (nt_l hp)), by decide, by decide⟩, r_lists (nt_l hp) (nt_l hp) (by show 1 ≤ 100; decide) (.cons (r_str _) .nil)⟩
  · obtain ⟨p, xs, rfl, hp, pr⟩ := h
    cases pr with | cons q pr => cases pr; cases q; exact ⟨.inr ⟨_, .base (.tup (nt_t hp)), by decide, by decide⟩, r_tups (nt_t hp) (nt_t hp) (by show 1 ≤ 100; decide) (.cons (r_str _) .nil)⟩
  · obtain ⟨p, rfl, hp⟩ := h
    exact ⟨.inr ⟨_, .base (.dK (nt_d hp)), by decide, by decide⟩, r_dct0 (nt_d hp) (nt_d hp)⟩
  · cases h
    exact ⟨.inr ⟨_, .base (.int 0), by decide, by decide⟩, r_int 0⟩
theorem paired_memL {α β : Type} {R : α → β → Prop} : ∀ {xs : List α} {ys : List β}, Paired R xs ys → ∀ x ∈ xs, ∃ y ∈ ys, R x y
  | _, _, .nil, x, h => by cases h
  | _, _, .cons a r, x, h => by
    rcases List.mem_cons.mp h with rfl | h
    · exact ⟨_, List.mem_cons_self .., a⟩
    · obtain ⟨y, hy, e⟩ := paired_memL r x h
      exact ⟨y, List.mem_cons_of_mem _ hy, e⟩
/-- what is no number of a closing, and the same as itself -/
theorem many_no {K : PySem.W.Frag} {H : Hp} {l t d : Addr} {n : Nat} (hl : H l = some (.lst [.int 0])) (ht : H t = some (.tup [])) (hd : H d = some (.dK [])) : ∀ y ∈ [V.non, .int (-1), .bl true, .str "0", .ref l, .ref t, .ref d, .int ((n : Int) + 1)], NoMany K (nt H) n y ∧ RF 5 (nt H) y y := by
  intro y hy
  simp only [List.mem_cons, List.not_mem_nil, or_false] at hy
  rcases hy with rfl | rfl | rfl | rfl | rfl | rfl | rfl | rfl
  · exact ⟨.inr ⟨_, .base .non, by decide, by decide⟩, r_non⟩
  · exact ⟨.inl ⟨-1, rfl, .inl (by decide)⟩, r_int (-1)⟩
  · exact ⟨.inr ⟨_, .base (.bl true), by decide, by decide⟩, r_bl _⟩
  · exact ⟨.inr ⟨_, .base (.str "0"), by decide, by decide⟩, r_str _⟩
  · exact ⟨.inr ⟨_, .base (.lst (nt_l hl)), by decide, by decide⟩, r_lists (nt_l hl) (nt_l hl) (by show 1 ≤ 100; decide) (.cons (r_int 0) .nil)⟩
  · exact ⟨.inr ⟨_, .base (.tup (nt_t ht)), by decide, by decide⟩, r_tups (nt_t ht) (nt_t ht) (by show 0 ≤ 100; decide) .nil⟩
  · exact ⟨.inr ⟨_, .base (.dK (nt_d hd)), by decide, by decide⟩, r_dct0 (nt_d hd) (nt_d hd)⟩
  · exact ⟨.inl ⟨_, rfl, .inr (by omega)⟩, r_int _⟩
/-- all that is no table, and not at a, is as it was -/
def ExtA (a : Addr) (H H' : Hp) : Prop := ∀ b o, b ≠ a → H b = some o → (∀ ps, o ≠ .tbl ps) → H' b = some o
theorem Spr.nn {H H' : Hp} {a : Addr} {n : Nat} (s : Spr H a n) (e : LamX.ExtN H H') : Spr H' a n := by
  obtain ⟨x, y, z, h, r⟩ := s
  exact ⟨x, y, z, e _ _ h (fun _ z => by cases z), r⟩
def spRef (C : Addr) (TT : List (Addr × Str)) : Sp := fun vs H Q _ => ∃ (a x t p1 p2 p3 z : Addr) (qs cq : List Addr) (ss : List Str) (rs es : List (Str × Str)) (ns : List Int) (n : Nat), vs = [.ref a, .ref x, .ref t, .ref z] ∧ Spr H a n ∧ n + 200 ≤ 1000000 ∧ IsVO C a H x ss rs ns ∧ VAt a H t p1 p2 p3 qs ss rs ns ∧ VOk ss rs ns ∧ ClAt a H z cq rs es ∧ LamX.Tabs TT H ∧
  ∀ H', ExtA a H H' → Spr H' a (n + 1) → LamX.Tabs TT H' → Q (.bl true) H'
/-- one refusal, and what is due -/
theorem chk_one {TT : List (Addr × Str)} {CC CN CS CM CR : Addr} {D : Ends} {t : XK → TE} {σ : L2.St} {H : Hp} {tg fld : Str} {v : V} {j : Nat} (mb : MetBy CC CN CS CM tg fld CR) (tb : LamX.Tabs TT H) (hj : σ[j]? = some (some v)) (hg : ∀ H1, LamX.ExtN H H1 → ∀ (E : XK) (Q' : VK), GoesF CR [(fld, v)] H1 E → t E σ H1 Q') (r : ∀ Hx, LamX.ExtN H Hx → RF 6 Hx v v)
    (q : ∀ H', LamX.ExtN H H' → LamX.Tabs TT H' → D.nx σ H') :
    tIfS (tNot (tB (tCall (spSm (RF 7)) [] E0 (tCons (LamX.tLam TT (TMt CC CN CS CM) t) (tCons (tTup (tCons (tC (.str tg)) (tCons (tVar j) tNil))) tNil))))) (tRet (tC (V.bl false))) tNext D σ H := by
  show LamX.tLam TT (TMt CC CN CS CM) t σ H _
  refine met_by mb tb hg fun p H1 e T fr gp => ⟨_, hj, (by show 2 ≤ sizeLine; decide), fun W hW => ?_⟩
  have s := K1.Same.upd (H := H1) (p := W) (o := .tup [.str tg, v]) hW
  have gW := upd_same' H1 W (.tup [.str tg, v])
  generalize L2.upd H1 W (.tup [.str tg, v]) = H2 at s gW ⊢
  refine ⟨_, _, rfl, show NextF (RF 6) H2 (.ref p) (.ref W) from r_tups (s _ _ gp) gW (by show 2 ≤ 100; decide) (.cons (r_str _) (.cons (r _ (e.trans (LamX.ExtN.of s))) .nil)), fun H' e' => ⟨_, rfl, ?_⟩⟩
  exact iteF (q H' (e.trans (LamX.ExtN.of (s.trans e'))) (tabs_same T (s.trans e')))
section
variable {P : Program} {w : World} {K : PySem.W.Frag} {mg : Str → Option Value} {base : Heap} {C CC CN CS CM : Addr}
theorem ok_ref {f c TP fm fS fP fJ fO fQ : Addr} {fdm sd pd jd od_ qd : FuncData} {oc kVx doc pm ct : Value} {od an : Option Addr} {osl : Array (Option Value)} (B : Bl mg) (lk : K.lookup f = some ⟨oc, od, .func (PySem.W.fnOf "_law_refused_right" "_law_refused_right" (defArgs sRef) (defBody sRef) (defScope sRef) .none kVx doc pm an (.ref c) ct), osl⟩) (hcd : PySem.W.codeIn K (.ref c) "_law_refused_right" = true)
    (MG : MetH K mg CC CN CS CM) (Fm : Fun K "_law_met" "_law_met" sMt fm fdm) (bm : Binds K fdm ["ask"] []) (mm : mg "_law_met" = some (.ref fm)) (TB : LamX.TabB base mg c TP) {TT : List (Addr × Str)} (hT : (TP, qRef) ∈ TT) (hU : ∀ p ∈ TT, p.1 = TP → p.2 = qRef)
    (GS : FnOk P w K mg base CX0 7 fS sd ["found", "due"] (spSm (RF 7))) (bS : Binds K sd ["found", "due"] []) (kS : PySem.W.keepIn K (.ref fS) = true) (mS : mg "_law_same" = some (.ref fS))
    (GP : FnOk P w K mg base (L2.CX P w) 8 fP pd ["valley", "closing", "one", "other"] (spPb K C CC CN CS)) (bP : Binds K pd ["valley", "closing", "one", "other"] []) (kP : PySem.W.keepIn K (.ref fP) = true) (mP : mg "parted_by" = some (.ref fP))
    (GJ : FnOk P w K mg base (L2.CX P w) 8 fJ jd ["valley", "closing", "house", "many"] (spSj K C CC CN CM)) (bJ : Binds K jd ["valley", "closing", "house", "many"] []) (kJ : PySem.W.keepIn K (.ref fJ) = true) (mJ : mg "still_joined" = some (.ref fJ))
    (GO : FnOk P w K mg base CX0 2 fO od_ ["spring", "valley", "evening"] (spOe K)) (bO : Binds K od_ ["spring", "valley", "evening"] []) (kO : PySem.W.keepIn K (.ref fO) = true) (mO : mg "_law_v_odd_evenings" = some (.ref fO))
    (GQ : FnOk P w K mg base CX0 1 fQ qd ["names"] spOdd) (bQ : Binds K qd ["names"] []) (kQ : PySem.W.keepIn K (.ref fQ) = true) (mQ : mg "_law_v_odd_houses" = some (.ref fQ)) :
    FnOk P w K mg base CX0 12 f (PySem.W.fnOf "_law_refused_right" "_law_refused_right" (defArgs sRef) (defBody sRef) (defScope sRef) .none kVx doc pm an (.ref c) ct) ["spring", "made", "valley", "closing"] (spRef C TT) := by
  obtain ⟨ocm, odm, kVm, docm, pmm, anm, cdvm, ctm, oslm, rfl, lkm, hcm⟩ := Fm.ex
  have km := Fm.kp
  refine fn_of lk hcd scRef (fun vs H Q E h => ?_) (fun A outer s0 H vs Q E hrL h => ?_)
  · obtain ⟨a, x, t, p1, p2, p3, z, qs, cq, ss, rs, es, ns, n, rfl, _⟩ := h
    rfl
  obtain ⟨a, x, t, p1, p2, p3, z, qs, cq, ss, rs, es, ns, n, rfl, hs, hn, iv, va, ok, cl, tb, q⟩ := h
  suffices hh : ∃ t0, PSs (cxOf CX0 P w K mg base ["spring", "made", "valley", "closing", "one", "odd", "found", "held", "known"] "_law_refused_right" (defScope sRef) f (.ref c) A outer s0 H E).nox (defBody sRef) t0 ∧ t0 { nx := fun _ H' => Q .non H', rt := Q } (L2.start ["spring", "made", "valley", "closing", "one", "odd", "found", "held", "known"] [.ref a, .ref x, .ref t, .ref z]) H by
    obtain ⟨t0, h1, h2⟩ := hh
    exact ⟨t0, h1.nox, h2⟩
  have nd := scRef.nd
  have hu := hu_of hrL
  have hr6 : Room 7 _ := hrL.mono (by decide)
  have hr2 : Room 2 _ := hrL.mono (by decide)
  have hr1 : Room 1 _ := hrL.mono (by decide)
  refine ⟨_, (pss_cons (by exact (ps_set (i := 4) nd rfl (.inr rfl) (pe_ix ix_list (pe_ix ix_tup (pv 2) pe_int (fun _ _ => rfl)) pe_int (fun _ _ => rfl))))
  (pss_cons (by exact (ps_for PassesOwn.never rfl (by exact pi_list (pe_call GO hr2 rfl mO kO bO .nil pass0 (pa_cons (pv 0) (pa_cons (pv 2) (pa_cons (pv 3) pa_nil))))) (pg_name (i := 5) nd rfl (.inr rfl)) (pss_cons (by exact (ps_set (i := 6) nd rfl (.inl rfl) (pe_lst (pa_cons (LamX.pe_lamcall (k := 9) (t := fun E => tCall (spPb K C CC CN CS) [] E (tCons (tVar 1) (tCons (tVar 5) (tCons (tC .non) (tCons (tC .non) tNil))))) rfl mm km lkm hcm bm scMt rfl (.inl rfl) (mt_gives MG) TB rfl hT hU (by exact hrL) (LamX.lamS_by (by with_unfolding_all rfl)) rfl (fun _ _ _ _ _ => rfl) (fun A outer s H E f c' hz => by exact (pe_call GP (hz.mono (by decide)) rfl mP kP bP .nil (passes_call (takes_of rfl rfl rfl rfl) (fun _ _ _ _ h => h)) (pa_cons (pv 1) (pa_cons (pv 5) (pa_cons pe_non (pa_cons pe_non pa_nil))))))) pa_nil))))
  (pss_cons (by exact (ps_expr (pe_bm PySem.F.plainAttrs_list PySem.F.slot_list_append PySem.F.type_list_append mt_append (pv 6) (pa_cons (LamX.pe_lamcall (k := 9) (t := fun E => tCall (spSj K C CC CN CM) [] E (tCons (tVar 1) (tCons (tVar 5) (tCons (tC .non) (tCons (tC .non) tNil))))) rfl mm km lkm hcm bm scMt rfl (.inl rfl) (mt_gives MG) TB rfl hT hU (by exact hrL) (LamX.lamS_by (by with_unfolding_all rfl)) rfl (fun _ _ _ _ _ => rfl) (fun A outer s H E f c' hz => by exact (pe_call GJ (hz.mono (by decide)) rfl mJ kJ bJ .nil (passes_call (takes_of rfl rfl rfl rfl) (fun _ _ _ _ h => h)) (pa_cons (pv 1) (pa_cons (pv 5) (pa_cons pe_non (pa_cons pe_non pa_nil))))))) pa_nil))))
  (pss_one (by exact (ps_if (pt_not (pt_val (pe_call GS hr6 rfl mS kS bS .nil pass0 (pa_cons (pv 6) (pa_cons (pe_op op_rep (pe_lst (pa_cons (pe_tup (pa_cons pe_str (pa_cons (pv 5) pa_nil))) pa_nil)) pe_int) pa_nil))))) (pss_one (by exact (ps_ret pe_bl))) pss_nil)))))))
  (pss_cons (by exact (ps_for PassesOwn.never rfl (by exact pi_list (pe_call GQ hr1 rfl mQ kQ bQ .nil pass0 (pa_cons (pe_ix ix_tup (pv 2) pe_int (fun _ _ => rfl)) pa_nil))) (pg_name (i := 5) nd rfl (.inr rfl)) (pss_cons (by exact (ps_set (i := 6) nd rfl (.inl rfl) (pe_lst (pa_cons (LamX.pe_lamcall (k := 9) (t := fun E => tCall (spPb K C CC CN CS) [] E (tCons (tVar 1) (tCons (tVar 3) (tCons (tVar 5) (tCons (tC .non) tNil))))) rfl mm km lkm hcm bm scMt rfl (.inl rfl) (mt_gives MG) TB rfl hT hU (by exact hrL) (LamX.lamS_by (by with_unfolding_all rfl)) rfl (fun _ _ _ _ _ => rfl) (fun A outer s H E f c' hz => by exact (pe_call GP (hz.mono (by decide)) rfl mP kP bP .nil (passes_call (takes_of rfl rfl rfl rfl) (fun _ _ _ _ h => h)) (pa_cons (pv 1) (pa_cons (pv 3) (pa_cons (pv 5) (pa_cons pe_non pa_nil))))))) pa_nil))))
  (pss_cons (by exact (ps_expr (pe_bm PySem.F.plainAttrs_list PySem.F.slot_list_append PySem.F.type_list_append mt_append (pv 6) (pa_cons (LamX.pe_lamcall (k := 9) (t := fun E => tCall (spPb K C CC CN CS) [] E (tCons (tVar 1) (tCons (tVar 3) (tCons (tVar 4) (tCons (tVar 5) tNil))))) rfl mm km lkm hcm bm scMt rfl (.inl rfl) (mt_gives MG) TB rfl hT hU (by exact hrL) (LamX.lamS_by (by with_unfolding_all rfl)) rfl (fun _ _ _ _ _ => rfl) (fun A outer s H E f c' hz => by exact (pe_call GP (hz.mono (by decide)) rfl mP kP bP .nil (passes_call (takes_of rfl rfl rfl rfl) (fun _ _ _ _ h => h)) (pa_cons (pv 1) (pa_cons (pv 3) (pa_cons (pv 4) (pa_cons (pv 5) pa_nil))))))) pa_nil))))
  (pss_cons (by exact (ps_expr (pe_bm PySem.F.plainAttrs_list PySem.F.slot_list_append PySem.F.type_list_append mt_append (pv 6) (pa_cons (LamX.pe_lamcall (k := 9) (t := fun E => tCall (spSj K C CC CN CM) [] E (tCons (tVar 1) (tCons (tVar 3) (tCons (tVar 5) (tCons (tC .non) tNil))))) rfl mm km lkm hcm bm scMt rfl (.inl rfl) (mt_gives MG) TB rfl hT hU (by exact hrL) (LamX.lamS_by (by with_unfolding_all rfl)) rfl (fun _ _ _ _ _ => rfl) (fun A outer s H E f c' hz => by exact (pe_call GJ (hz.mono (by decide)) rfl mJ kJ bJ .nil (passes_call (takes_of rfl rfl rfl rfl) (fun _ _ _ _ h => h)) (pa_cons (pv 1) (pa_cons (pv 3) (pa_cons (pv 5) (pa_cons pe_non pa_nil))))))) pa_nil))))
  (pss_one (by exact (ps_if (pt_not (pt_val (pe_call GS hr6 rfl mS kS bS .nil pass0 (pa_cons (pv 6) (pa_cons (pe_op op_rep (pe_lst (pa_cons (pe_tup (pa_cons pe_str (pa_cons (pv 5) pa_nil))) pa_nil)) pe_int) pa_nil))))) (pss_one (by exact (ps_ret pe_bl))) pss_nil))))))))
  (pss_cons (by exact (ps_if (pt_not (pt_val (pe_call GS hr6 rfl mS kS bS .nil pass0 (pa_cons (LamX.pe_lamcall (k := 9) (t := fun E => tCall (spPb K C CC CN CS) [] E (tCons (tVar 1) (tCons (tVar 3) (tCons (tVar 4) (tCons (tVar 4) tNil))))) rfl mm km lkm hcm bm scMt rfl (.inl rfl) (mt_gives MG) TB rfl hT hU (by exact hrL) (LamX.lamS_by (by with_unfolding_all rfl)) rfl (fun _ _ _ _ _ => rfl) (fun A outer s H E f c' hz => by exact (pe_call GP (hz.mono (by decide)) rfl mP kP bP .nil (passes_call (takes_of rfl rfl rfl rfl) (fun _ _ _ _ h => h)) (pa_cons (pv 1) (pa_cons (pv 3) (pa_cons (pv 4) (pa_cons (pv 4) pa_nil))))))) (pa_cons (pe_tup (pa_cons pe_str (pa_cons (pv 4) pa_nil))) pa_nil))))) (pss_one (by exact (ps_ret pe_bl))) pss_nil))
  (pss_cons (by exact (ps_for PassesOwn.never rfl (by exact pi_tup (pe_tup (pa_cons pe_non (pa_cons (pe_un un_neg pe_int) (pa_cons pe_bl (pa_cons pe_str (pa_cons (pe_lst (pa_cons pe_int pa_nil)) (pa_cons (pe_tup pa_nil) (pa_cons pe_dnewK (pa_cons (pe_op op_add (pe_callB call_len_seq rfl B.len PySem.boot_len (pa_cons (pv 3) pa_nil)) pe_int) pa_nil)))))))))) (pg_name (i := 5) nd rfl (.inr rfl)) (pss_one (by exact (ps_if (pt_not (pt_val (pe_call GS hr6 rfl mS kS bS .nil pass0 (pa_cons (LamX.pe_lamcall (k := 9) (t := fun E => tCall (spSj K C CC CN CM) [] E (tCons (tVar 1) (tCons (tVar 3) (tCons (tVar 4) (tCons (tVar 5) tNil))))) rfl mm km lkm hcm bm scMt rfl (.inl rfl) (mt_gives MG) TB rfl hT hU (by exact hrL) (LamX.lamS_by (by with_unfolding_all rfl)) rfl (fun _ _ _ _ _ => rfl) (fun A outer s H E f c' hz => by exact (pe_call GJ (hz.mono (by decide)) rfl mJ kJ bJ .nil (passes_call (takes_of rfl rfl rfl rfl) (fun _ _ _ _ h => h)) (pa_cons (pv 1) (pa_cons (pv 3) (pa_cons (pv 4) (pa_cons (pv 5) pa_nil))))))) (pa_cons (pe_tup (pa_cons pe_str (pa_cons (pv 5) pa_nil))) pa_nil))))) (pss_one (by exact (ps_ret pe_bl))) pss_nil)))))
  (pss_cons (by exact (ps_asg (pe_tup (pa_cons (pe_lst (pa_cons pe_int pa_nil)) (pa_cons (pe_callTy (call_dictP rfl) rfl B.dict PyProof.Rows.boot_dict (pa_cons (pe_lst (pa_cons (pe_tup (pa_cons pe_str (pa_cons pe_int pa_nil))) pa_nil)) pa_nil)) pa_nil))) (pg_tup rfl (pgs_cons (pg_name (i := 7) nd rfl (.inr rfl)) (pgs_cons (pg_name (i := 8) nd rfl (.inr rfl)) pgs_nil)))))
  (pss_cons (by exact (ps_set (i := 6) nd rfl (.inl rfl) (pe_lst (pa_cons (LamX.pe_lamcall (k := 9) (t := fun E => tCall (spSj K C CC CN CM) [] E (tCons (tVar 1) (tCons (tVar 3) (tCons (tVar 4) (tCons (tVar 7) tNil))))) rfl mm km lkm hcm bm scMt rfl (.inl rfl) (mt_gives MG) TB rfl hT hU (by exact hrL) (LamX.lamS_by (by with_unfolding_all rfl)) rfl (fun _ _ _ _ _ => rfl) (fun A outer s H E f c' hz => by exact (pe_call GJ (hz.mono (by decide)) rfl mJ kJ bJ .nil (passes_call (takes_of rfl rfl rfl rfl) (fun _ _ _ _ h => h)) (pa_cons (pv 1) (pa_cons (pv 3) (pa_cons (pv 4) (pa_cons (pv 7) pa_nil))))))) pa_nil))))
  (pss_cons (by exact (ps_expr (pe_bm PySem.F.plainAttrs_list PySem.F.slot_list_append PySem.F.type_list_append mt_append (pv 6) (pa_cons (LamX.pe_lamcall (k := 9) (t := fun E => tCall (spPb K C CC CN CS) [] E (tCons (tVar 1) (tCons (tVar 3) (tCons (tVar 8) (tCons (tVar 4) tNil))))) rfl mm km lkm hcm bm scMt rfl (.inl rfl) (mt_gives MG) TB rfl hT hU (by exact hrL) (LamX.lamS_by (by with_unfolding_all rfl)) rfl (fun _ _ _ _ _ => rfl) (fun A outer s H E f c' hz => by exact (pe_call GP (hz.mono (by decide)) rfl mP kP bP .nil (passes_call (takes_of rfl rfl rfl rfl) (fun _ _ _ _ h => h)) (pa_cons (pv 1) (pa_cons (pv 3) (pa_cons (pv 8) (pa_cons (pv 4) pa_nil))))))) pa_nil))))
  (pss_cons (by exact (ps_expr (pe_bm PySem.F.plainAttrs_list PySem.F.slot_list_append PySem.F.type_list_append mt_append (pv 7) (pa_cons pe_str pa_nil))))
  (pss_cons (by exact (ps_dput hu (pv 8) pe_str pe_int rfl))
  (pss_one (by exact (ps_ret (pe_call GS hr6 rfl mS kS bS .nil pass0 (pa_cons (pv 6) (pa_cons (pe_lst (pa_cons (pe_tup (pa_cons pe_str (pa_cons (pe_lst (pa_cons pe_int (pa_cons pe_str pa_nil))) pa_nil))) (pa_cons (pe_tup (pa_cons pe_str (pa_cons (pe_callTy (call_dictP rfl) rfl B.dict PyProof.Rows.boot_dict (pa_cons (pe_lst (pa_cons (pe_tup (pa_cons pe_str (pa_cons pe_int pa_nil))) (pa_cons (pe_tup (pa_cons pe_str (pa_cons pe_int pa_nil))) pa_nil))) pa_nil)) pa_nil))) pa_nil))) pa_nil)))))))))))))))), ?_⟩
  have tr := ok.tree
  have ss5 : ss.length ≤ 500 := by have := ok.le; omega
  have lrs : rs.length ≤ 59 := by have := ok.rl; have := ok.le; omega
  have frs := ok.cut.forest
  have nob : ("nobody" : Str) ∉ ss := fun h => ok.nob _ h rfl
  have mbC : MetBy CC CN CS CM "closing" "closing" CC := .inl ⟨rfl, rfl, rfl⟩
  have mbN : MetBy CC CN CS CM "house" "house" CN := .inr (.inl ⟨rfl, rfl, rfl⟩)
  have mbS : MetBy CC CN CS CM "same" "house" CS := .inr (.inr (.inl ⟨rfl, rfl, rfl⟩))
  have mbM : MetBy CC CN CS CM "many" "many" CM := .inr (.inr (.inr ⟨rfl, rfl, rfl⟩))
  obtain ⟨s1, ss', ess⟩ : ∃ s1 ss', ss = s1 :: ss' := by
    cases hss : ss with
    | nil => have := ok.pos; rw [hss] at this; simp at this
    | cons s1 ss' => exact ⟨s1, ss', rfl⟩
  have a0 : atI (ss.map V.str) 0 = some (.str s1) := by rw [ess]; exact atI_nat (j := 0) rfl
  refine ⟨_, rfl, t, _, 0, .ref p1, rfl, rfl, SqT.of va.t0, rfl, p1, _, 0, .str s1, rfl, rfl, SqL.of va.h1, a0, ?_⟩
  refine K1.gN ?_
  with_reducible refine sQ ?_
  refine ⟨_, rfl, _, rfl, _, rfl, a, t, z, cq, ss, rs, es, n, rfl, hs, by omega, cl, frs, ok.ends, lrs, fun s h => (ok.good.2 s h).1, nob, fun r ys H1 k1 sp1 nr gr lys oky => ?_⟩
  have hin : s1 ∈ ss := by rw [ess]; exact List.mem_cons_self ..
  have va1 := va.kept hs k1
  have cl1 := (cl.kept hs k1).nt
  have iv1 := ((iv.kept hs k1).is).nt
  have tb1 : LamX.Tabs TT H1 := by
    obtain ⟨u1, u2, u3, e, _⟩ := hs
    exact tabs_kept tb e k1
  refine ⟨r, rfl, ⟨_, SqL.of gr⟩, ?_⟩
  refine for_it walk_list (fun k σ Hc => (∃ y5 y6, σ = [some (.ref a), some (.ref x), some (.ref t), some (.ref z), some (.str s1), y5, y6, none, none]) ∧ LamX.ExtN H1 Hc ∧ LamX.Tabs TT Hc) ⟨⟨_, _, rfl⟩, LamX.ExtN.refl H1, tb1⟩ (fun k σ Hc _ h => SqL.of (h.2.1 _ _ gr (fun _ z => by cases z))) ?_ ?_
  · rintro k y σ Hc H' hk ⟨⟨y5, y6, rfl⟩, g1, g2⟩ ⟨rfl, hy⟩
    have oy := oky y (List.mem_of_getElem? hy)
    refine K1.gN ?_
    with_reducible refine sQ ?_
    refine fnd_first mbC g2 (fun Ha ea E' Q' g => ⟨_, rfl, _, rfl, x, y, .non, .non, ss, rs, ns, rfl, iv1.same (nt_to (g1.trans ea)), tr, ss5, .inl ⟨oy.1.ext (nt_to (g1.trans ea)), g⟩⟩) fun Fd z1 H4 f1 => ?_
    refine K1.gN ?_
    with_reducible refine sQ ?_
    refine fnd_app mbC f1 (by simp) rfl (fun Ha ea E' Q' g => ⟨_, rfl, _, rfl, x, y, .non, .non, ss, rs, ns, rfl, iv1.same (nt_to (g1.trans ea)), tr, ss5, .inl ⟨oy.1.ext (nt_to (g1.trans ea)), g⟩⟩) fun z2 H5 f2 => ?_
    refine chk_rep (K := K) (tg := "closing") (y := y) (i := 6) (j := 5) 2 (by decide) rfl rfl f2.lst f2.prs (fun Hx ex => ?_) fun H' e' => ?_
    · exact RF.mon 5 _ _ _ _ (nt_to (g1.trans (f2.ext.trans (LamX.ExtN.of ex)))) oy.2
    · exact ⟨⟨_, _, rfl⟩, g1.trans (f2.ext.trans (LamX.ExtN.of e')), tabs_same f2.tb e'⟩
  rintro σ Hc ⟨⟨y5, y6, rfl⟩, g1, g2⟩
  -- the odd houses
  have va2 : ∀ {Hx : Hp}, LamX.ExtN Hc Hx → Hx t = some (.tup [.ref p1, .ref p2, .ref p3]) ∧ Hx p1 = some (.lst (ss.map V.str)) := fun e => ⟨(g1.trans e) _ _ va1.t0 (fun _ z => by cases z), (g1.trans e) _ _ va1.h1 (fun _ z => by cases z)⟩
  have vaC := va2 (LamX.ExtN.refl Hc)
  refine ⟨_, rfl, t, _, 0, .ref p1, rfl, rfl, SqT.of vaC.1, rfl, p1, s1, ss', rfl, by rw [← ess]; exact vaC.2, fun v2 H2 e2 hv2 => ?_⟩
  obtain ⟨L2_, ys2, rfl, gL2, pys2⟩ := hv2
  have n2 := LamX.ExtN.of e2
  have g12 := g1.trans n2
  have tb2 := tabs_same g2 e2
  have iv2 := iv1.same (nt_same g12)
  have ev2 : EvV (nt H2) rs (.ref z) (jsOf rs es) := (cl1.ev frs (by omega)).ext (nt_same g12)
  have okH : ∀ y ∈ ys2, NoHo K (nt H2) ss y ∧ RF 5 (nt H2) y y := fun y hy => by
    obtain ⟨P, hP, hv⟩ := paired_memL pys2 y hy
    exact oddP_ok nob (fun h => absurd ((ok.good.2 _ h).1) (by decide)) hP hv
  refine ⟨L2_, rfl, ⟨_, SqL.of gL2⟩, ?_⟩
  refine for_it walk_list (fun k σ Hd => (∃ y5 y6, σ = [some (.ref a), some (.ref x), some (.ref t), some (.ref z), some (.str s1), y5, y6, none, none]) ∧ LamX.ExtN H2 Hd ∧ LamX.Tabs TT Hd) ⟨⟨_, _, rfl⟩, LamX.ExtN.refl H2, tb2⟩ (fun k σ Hd _ h => SqL.of (h.2.1 _ _ gL2 (fun _ z => by cases z))) ?_ ?_
  · rintro k y σ Hd H' hk ⟨⟨y5, y6, rfl⟩, h1, h2⟩ ⟨rfl, hy⟩
    have oy := okH y (List.mem_of_getElem? hy)
    refine K1.gN ?_
    with_reducible refine sQ ?_
    refine fnd_first mbN h2 (fun Ha ea E' Q' g => ⟨_, rfl, _, rfl, _, rfl, x, .ref z, y, .non, ss, rs, ns, rfl, iv2.same (nt_to (h1.trans ea)), tr, ss5, .inr ⟨_, ev2.ext (nt_to (h1.trans ea)), .inl ⟨oy.1.ext (nt_to (h1.trans ea)), g⟩⟩⟩) fun Fd z1 H4 f1 => ?_
    refine K1.gN ?_
    with_reducible refine sQ ?_
    refine fnd_app mbN f1 (by simp) rfl (fun Ha ea E' Q' g => ⟨_, rfl, _, rfl, _, rfl, _, rfl, x, .ref z, .str s1, y, ss, rs, ns, rfl, iv2.same (nt_to (h1.trans ea)), tr, ss5, .inr ⟨_, ev2.ext (nt_to (h1.trans ea)), .inr ⟨s1, rfl, hin, .inl ⟨oy.1.ext (nt_to (h1.trans ea)), g⟩⟩⟩⟩) fun z2 H5 f2 => ?_
    with_reducible refine sQ ?_
    refine fnd_app mbN f2 (by simp) rfl (fun Ha ea E' Q' g => ⟨_, rfl, _, rfl, _, rfl, x, .ref z, y, .non, ss, rs, ns, rfl, iv2.same (nt_to (h1.trans ea)), tr, ss5, .inr ⟨_, ev2.ext (nt_to (h1.trans ea)), .inl ⟨oy.1.ext (nt_to (h1.trans ea)), g⟩⟩⟩) fun z3 H6 f3 => ?_
    refine chk_rep (K := K) (tg := "house") (y := y) (i := 6) (j := 5) 3 (by decide) rfl rfl f3.lst f3.prs (fun Hx ex => ?_) fun H' e' => ?_
    · exact RF.mon 5 _ _ _ _ (nt_to (h1.trans (f3.ext.trans (LamX.ExtN.of ex)))) oy.2
    · exact ⟨⟨_, _, rfl⟩, h1.trans (f3.ext.trans (LamX.ExtN.of e')), tabs_same f3.tb e'⟩
  rintro σ Hd ⟨⟨y5, y6, rfl⟩, h1, h2⟩
  have lcq : cq.length = rs.length := by rw [cl.pr.length, cl.perm.length_eq]
  have gz : Hd z = some (.lst (cq.map V.ref)) := by
    have hz := nt_out _ _ cl1.h
    exact h1 _ _ (g12 _ _ hz (fun _ z => by cases z)) (fun _ z => by cases z)
  with_reducible refine sQ ?_
  have e1d := g12.trans h1
  have iv3 : ∀ {Hx : Hp}, LamX.ExtN Hd Hx → IsV C Hx x ss rs ns := fun e => iv1.same (nt_to (e1d.trans e))
  have ev3 : ∀ {Hx : Hp}, LamX.ExtN Hd Hx → EvV Hx rs (.ref z) (jsOf rs es) := fun e => ((cl1.ev frs (by omega)).ext (nt_to (e1d.trans e)))
  refine chk_one mbS h2 rfl (fun Ha ea E' Q' g => ⟨_, rfl, _, rfl, _, rfl, _, rfl, x, .ref z, .str s1, .str s1, ss, rs, ns, rfl, iv3 ea, tr, ss5, .inr ⟨_, ev3 ea, .inr ⟨s1, rfl, hin, .inr ⟨s1, rfl, hin, .inl ⟨rfl, g⟩⟩⟩⟩⟩) (fun Hx _ => r_str _) fun He e3 tbe => ?_
  with_reducible refine sQ ?_
  refine ⟨_, rfl, (by show 1 ≤ sizeLine; decide), fun l hl => ?_⟩
  have t1 := K1.Same.upd (H := He) (p := l) (o := .lst [.int 0]) hl
  have gl := upd_same' He l (.lst [.int 0])
  generalize L2.upd He l (.lst [.int 0]) = I1 at t1 gl ⊢
  refine ⟨Nat.zero_le _, fun u hu2 => ?_⟩
  have t2 := K1.Same.upd (H := I1) (p := u) (o := .tup []) hu2
  have gu := upd_same' I1 u (.tup [])
  generalize L2.upd I1 u (.tup []) = I2 at t2 gu ⊢
  refine fun d hd => ?_
  have t3 := K1.Same.upd (H := I2) (p := d) (o := .dK []) hd
  have gd := upd_same' I2 d (.dK [])
  generalize L2.upd I2 d (.dK []) = I3 at t3 gd ⊢
  have t13 : Same He I3 := t1.trans (t2.trans t3)
  have gz3 : I3 z = some (.lst (cq.map V.ref)) := t13 _ _ (e3 _ _ gz (fun _ z => by cases z))
  refine ⟨_, rfl, z, _, rfl, .inl (SqL.of gz3), _, _, rfl, rfl, ?_⟩
  have lz : (cq.map V.ref).length = rs.length := by rw [List.length_map]; exact lcq
  rw [lz]
  refine ⟨(by show 8 ≤ sizeLine; decide), fun T hT2 => ?_⟩
  have t4 := K1.Same.upd (H := I3) (p := T) (o := .tup [.non, .int (-1), .bl true, .str "0", .ref l, .ref u, .ref d, .int ((rs.length : Int) + 1)]) hT2
  have gT := upd_same' I3 T (.tup [.non, .int (-1), .bl true, .str "0", .ref l, .ref u, .ref d, .int ((rs.length : Int) + 1)])
  generalize L2.upd I3 T (.tup [.non, .int (-1), .bl true, .str "0", .ref l, .ref u, .ref d, .int ((rs.length : Int) + 1)]) = I4 at t4 gT ⊢
  have t14 : Same He I4 := t13.trans t4
  have odd3 := many_no (K := K) (n := rs.length) (t4 _ _ (t3 _ _ (t2 _ _ gl))) (t4 _ _ (t3 _ _ gu)) (t4 _ _ gd)
  have e4 : LamX.ExtN Hd I4 := e3.trans (LamX.ExtN.of t14)
  refine ⟨T, rfl, ⟨_, SqT.of gT⟩, ?_⟩
  refine for_it walk_tup (fun k σ Hc => (∃ y5 y6, σ = [some (.ref a), some (.ref x), some (.ref t), some (.ref z), some (.str s1), y5, y6, none, none]) ∧ LamX.ExtN I4 Hc ∧ LamX.Tabs TT Hc) ⟨⟨_, _, rfl⟩, LamX.ExtN.refl I4, tabs_same tbe t14⟩ (fun k σ Hc _ h => SqT.of (h.2.1 _ _ gT (fun _ z => by cases z))) ?_ ?_
  · rintro k y σ Hf H' hk ⟨⟨y5, y6, rfl⟩, f1, f2⟩ ⟨rfl, hy⟩
    have oy := odd3 y (List.mem_of_getElem? hy)
    refine K1.gN ?_
    exact chk_one mbM f2 rfl (fun Ha ea E' Q' g => ⟨_, rfl, _, rfl, _, rfl, _, rfl, x, .ref z, .str s1, y, ss, rs, ns, rfl, iv3 (e4.trans (f1.trans ea)), tr, ss5, .inr ⟨_, ev3 (e4.trans (f1.trans ea)), .inr ⟨s1, rfl, hin, .inl ⟨oy.1.imp id fun ⟨t, a, b⟩ => ⟨t, TyX.ext a (nt_to (f1.trans ea)), b⟩, g⟩⟩⟩⟩) (fun Hx ex => RF.up (RF.mon 5 _ _ _ _ (nt_to (f1.trans ex)) oy.2)) fun Hg e' T' => ⟨⟨_, _, rfl⟩, f1.trans e', T'⟩
  rintro σ Hf ⟨⟨y5, y6, rfl⟩, f1, f2⟩
  have e5 : LamX.ExtN Hd Hf := e4.trans f1
  with_reducible refine sQ ?_
  refine ⟨(by show 1 ≤ sizeLine; decide), fun A1 hA1 => ?_⟩
  have u1 := K1.Same.upd (H := Hf) (p := A1) (o := .lst [.int 0]) hA1
  have gA1 := upd_same' Hf A1 (.lst [.int 0])
  generalize L2.upd Hf A1 (.lst [.int 0]) = J1 at u1 gA1 ⊢
  refine ⟨(by show 2 ≤ sizeLine; decide), fun X1 hX1 => ?_⟩
  have u2 := K1.Same.upd (H := J1) (p := X1) (o := .tup [.str "x", .int 1]) hX1
  have gX1 := upd_same' J1 X1 (.tup [.str "x", .int 1])
  generalize L2.upd J1 X1 (.tup [.str "x", .int 1]) = J2 at u2 gX1 ⊢
  refine ⟨(by show 1 ≤ sizeLine; decide), fun X2 hX2 => ?_⟩
  have u3 := K1.Same.upd (H := J2) (p := X2) (o := .lst [.ref X1]) hX2
  have gX2 := upd_same' J2 X2 (.lst [.ref X1])
  generalize L2.upd J2 X2 (.lst [.ref X1]) = J3 at u3 gX2 ⊢
  refine ⟨X2, [X1], [(.inr "x", .int 1)], rfl, SqL.of gX2, .cons (SqT.of (u3 _ _ gX1)) .nil, fun B1 hB1 => ?_⟩
  have u4 := K1.Same.upd (H := J3) (p := B1) (o := .dK (mergeK [] [((.inr "x" : Key), V.int 1)])) hB1
  have gB1 : L2.upd J3 B1 (.dK (mergeK [] [((.inr "x" : Key), V.int 1)])) B1 = some (.dK [(.inr "x", .int 1)]) := by
    rw [upd_same]
    rfl
  generalize L2.upd J3 B1 (.dK (mergeK [] [((.inr "x" : Key), V.int 1)])) = J4 at u4 gB1 ⊢
  refine ⟨(by show 2 ≤ sizeLine; decide), fun X3 hX3 => ?_⟩
  have u5 := K1.Same.upd (H := J4) (p := X3) (o := .tup [.ref A1, .ref B1]) hX3
  have gX3 := upd_same' J4 X3 (.tup [.ref A1, .ref B1])
  generalize L2.upd J4 X3 (.tup [.ref A1, .ref B1]) = J5 at u5 gX3 ⊢
  have uf5 : Same Hf J5 := u1.trans (u2.trans (u3.trans (u4.trans u5)))
  have e6 : LamX.ExtN Hd J5 := e5.trans (LamX.ExtN.of uf5)
  have tb6 := tabs_same f2 uf5
  refine ⟨X3, _, rfl, SqT.of gX3, rfl, ?_⟩
  refine ⟨_, _, rfl, K1.gN ⟨_, _, rfl, K1.gN ⟨rfl, ?_⟩⟩⟩
  with_reducible refine sQ ?_
  refine fnd_first mbM tb6 (fun Ha ea E' Q' g => ⟨_, rfl, _, rfl, _, rfl, _, rfl, x, .ref z, .str s1, .ref A1, ss, rs, ns, rfl, iv3 (e6.trans ea), tr, ss5, .inr ⟨_, ev3 (e6.trans ea), .inr ⟨s1, rfl, hin, .inl ⟨.inr ⟨_, .base (.lst ((((LamX.ExtN.of (u2.trans (u3.trans (u4.trans u5)))).trans ea) _ _ gA1 (fun _ z => by cases z)))), by decide, by decide⟩, g⟩⟩⟩⟩) fun Fd z1 H6 f1' => ?_
  refine K1.gN ?_
  with_reducible refine sQ ?_
  have gA6 := f1'.ext _ _ ((u2.trans (u3.trans (u4.trans u5))) _ _ gA1) (fun _ z => by cases z)
  have gB6 := f1'.ext _ _ (u5 _ _ gB1) (fun _ z => by cases z)
  refine fnd_other (v := .ref B1) mbN f1' (by simp) rfl (fun Ha ea E' Q' g => ⟨_, rfl, _, rfl, _, rfl, _, rfl, x, .ref z, .ref B1, .str s1, ss, rs, ns, rfl, iv3 (e6.trans ea), tr, ss5, .inr ⟨_, ev3 (e6.trans ea), .inl ⟨.inr ⟨_, .base (.dK (ea _ _ (u5 _ _ gB1) (fun _ z => by cases z))), by decide, by decide⟩, g⟩⟩⟩) fun p Hh eh Th gFh prh gph => ?_
  have x1f : LamX.ExtN H1 Hf := e1d.trans e5
  have x1h : LamX.ExtN H1 Hh := (e1d.trans e6).trans eh
  have u25 : Same J1 J5 := u2.trans (u3.trans (u4.trans u5))
  have gAh := eh _ _ (u25 _ _ gA1) (fun _ z => by cases z)
  have gBh := eh _ _ (u5 _ _ gB1) (fun _ z => by cases z)
  have AB : A1 ≠ B1 := fun z => by rw [z, gBh] at gAh; cases gAh
  have noA : ∀ o, H1 A1 = some o → ∃ ps, o = .tbl ps := fun o h => by
    cases o with
    | tbl ps => exact ⟨ps, rfl⟩
    | _ =>
      have h2 := x1f _ _ h fun ps z => by cases z
      rw [hA1] at h2
      cases h2
  have noB : ∀ o, H1 B1 = some o → ∃ ps, o = .tbl ps := fun o h => by
    cases o with
    | tbl ps => exact ⟨ps, rfl⟩
    | _ =>
      have h2 := u3 _ _ (u2 _ _ (u1 _ _ (x1f _ _ h fun ps z => by cases z)))
      rw [hB1] at h2
      cases h2
  have FA : Fd ≠ A1 := fun z => by rw [z, gAh] at gFh; cases (Option.some.inj gFh)
  have FB : Fd ≠ B1 := fun z => by rw [z, gBh] at gFh; cases gFh
  have pA : p ≠ A1 := fun z => by rw [z, gAh] at gph; cases gph
  have pB : p ≠ B1 := fun z => by rw [z, gBh] at gph; cases gph
  obtain ⟨p1', rfl, hp1⟩ : TagP "many" Hh z1 (.ref A1) := by
    cases prh with
    | cons a r => exact a
  have qA : p1' ≠ A1 := fun z => by rw [z, gAh] at hp1; cases hp1
  have qB : p1' ≠ B1 := fun z => by rw [z, gBh] at hp1; cases hp1
  with_reducible refine sQ ?_
  refine ⟨_, rfl, .inl ⟨rfl, _, SqL.of gAh⟩, A1, _, _, rfl, rfl, gAh, small1000 (by show 1 ≤ 1000; decide), ?_⟩
  have m1 : ∀ b, b ≠ A1 → L2.upd Hh A1 (.lst ([.int 0] ++ [.str "late"])) b = Hh b := fun b n => upd_ne n
  have m2 : L2.upd Hh A1 (.lst ([.int 0] ++ [.str "late"])) A1 = some (.lst [.int 0, .str "late"]) := upd_same
  have xA := extN_upd2 (o := .lst ([.int 0] ++ [.str "late"])) x1h noA
  have tA := tabs_kept Th gAh (Kept.upd (o := .lst ([.int 0] ++ [.str "late"])))
  generalize L2.upd Hh A1 (.lst ([.int 0] ++ [.str "late"])) = Hi at m1 m2 xA tA ⊢
  have gBi : Hi B1 = some (.dK [(.inr "x", .int 1)]) := by rw [m1 _ AB.symm]; exact gBh
  with_reducible refine sQ ?_
  refine ⟨_, rfl, B1, _, rfl, DPut.k (k := .inr "late") gBi (by show 1 < 2 ^ 24; decide), ?_⟩
  have m3 : ∀ b, b ≠ B1 → L2.upd Hi B1 (.dK (putK [((.inr "x" : Key), V.int 1)] (.inr "late") (.int 1))) b = Hi b := fun b n => upd_ne n
  have m4 : L2.upd Hi B1 (.dK (putK [((.inr "x" : Key), V.int 1)] (.inr "late") (.int 1))) B1 = some (.dK [(.inr "x", .int 1), (.inr "late", .int 1)]) := by
    rw [upd_same]
    rfl
  have xB := extN_upd2 (o := .dK (putK [((.inr "x" : Key), V.int 1)] (.inr "late") (.int 1))) xA noB
  have tB' := tabs_keptD tA gBi (Kept.upd (o := .dK (putK [((.inr "x" : Key), V.int 1)] (.inr "late") (.int 1))))
  generalize L2.upd Hi B1 (.dK (putK [((.inr "x" : Key), V.int 1)] (.inr "late") (.int 1))) = Hj at m3 m4 xB tB' ⊢
  have gAj : Hj A1 = some (.lst [.int 0, .str "late"]) := by rw [m3 _ AB]; exact m2
  have gFj : Hj Fd = some (.lst [.ref p1', .ref p]) := by rw [m3 _ FB, m1 _ FA]; exact gFh
  have gpj : Hj p = some (.tup [.str "house", .ref B1]) := by rw [m3 _ pB, m1 _ pA]; exact gph
  have gqj : Hj p1' = some (.tup [.str "many", .ref A1]) := by rw [m3 _ qB, m1 _ qA]; exact hp1
  -- what is due
  refine ⟨_, rfl, ?_⟩
  refine ⟨(by show 2 ≤ sizeLine; decide), fun L1 hL1 => ?_⟩
  have z1' := K1.Same.upd (H := Hj) (p := L1) (o := .lst [.int 0, .str "late"]) hL1
  have gL1 := upd_same' Hj L1 (.lst [.int 0, .str "late"])
  generalize L2.upd Hj L1 (.lst [.int 0, .str "late"]) = I1' at z1' gL1 ⊢
  refine ⟨(by show 2 ≤ sizeLine; decide), fun V1 hV1 => ?_⟩
  have z2 := K1.Same.upd (H := I1') (p := V1) (o := .tup [.str "many", .ref L1]) hV1
  have gV1 := upd_same' I1' V1 (.tup [.str "many", .ref L1])
  generalize L2.upd I1' V1 (.tup [.str "many", .ref L1]) = I2' at z2 gV1 ⊢
  refine ⟨(by show 2 ≤ sizeLine; decide), fun Y1 hY1 => ?_⟩
  have z3 := K1.Same.upd (H := I2') (p := Y1) (o := .tup [.str "x", .int 1]) hY1
  have gY1 := upd_same' I2' Y1 (.tup [.str "x", .int 1])
  generalize L2.upd I2' Y1 (.tup [.str "x", .int 1]) = I3' at z3 gY1 ⊢
  refine ⟨(by show 2 ≤ sizeLine; decide), fun Y2 hY2 => ?_⟩
  have z4 := K1.Same.upd (H := I3') (p := Y2) (o := .tup [.str "late", .int 1]) hY2
  have gY2 := upd_same' I3' Y2 (.tup [.str "late", .int 1])
  generalize L2.upd I3' Y2 (.tup [.str "late", .int 1]) = I4' at z4 gY2 ⊢
  refine ⟨(by show 2 ≤ sizeLine; decide), fun Y3 hY3 => ?_⟩
  have z5 := K1.Same.upd (H := I4') (p := Y3) (o := .lst [.ref Y1, .ref Y2]) hY3
  have gY3 := upd_same' I4' Y3 (.lst [.ref Y1, .ref Y2])
  generalize L2.upd I4' Y3 (.lst [.ref Y1, .ref Y2]) = I5' at z5 gY3 ⊢
  refine ⟨Y3, [Y1, Y2], [(.inr "x", .int 1), (.inr "late", .int 1)], rfl, SqL.of gY3, .cons (SqT.of (z5 _ _ (z4 _ _ gY1))) (.cons (SqT.of (z5 _ _ gY2)) .nil), fun D1 hD1 => ?_⟩
  have z6 := K1.Same.upd (H := I5') (p := D1) (o := .dK (mergeK [] [((.inr "x" : Key), V.int 1), ((.inr "late" : Key), V.int 1)])) hD1
  have gD1 : L2.upd I5' D1 (.dK (mergeK [] [((.inr "x" : Key), V.int 1), ((.inr "late" : Key), V.int 1)])) D1 = some (.dK [(.inr "x", .int 1), (.inr "late", .int 1)]) := by
    rw [upd_same]
    rfl
  generalize L2.upd I5' D1 (.dK (mergeK [] [((.inr "x" : Key), V.int 1), ((.inr "late" : Key), V.int 1)])) = I6' at z6 gD1 ⊢
  refine ⟨(by show 2 ≤ sizeLine; decide), fun V2 hV2 => ?_⟩
  have z7 := K1.Same.upd (H := I6') (p := V2) (o := .tup [.str "house", .ref D1]) hV2
  have gV2 := upd_same' I6' V2 (.tup [.str "house", .ref D1])
  generalize L2.upd I6' V2 (.tup [.str "house", .ref D1]) = I7' at z7 gV2 ⊢
  refine ⟨(by show 2 ≤ sizeLine; decide), fun L3 hL3 => ?_⟩
  have z8 := K1.Same.upd (H := I7') (p := L3) (o := .lst [.ref V1, .ref V2]) hL3
  have gL3 := upd_same' I7' L3 (.lst [.ref V1, .ref V2])
  generalize L2.upd I7' L3 (.lst [.ref V1, .ref V2]) = I8' at z8 gL3 ⊢
  have z38 : Same I2' I8' := z3.trans (z4.trans (z5.trans (z6.trans (z7.trans z8))))
  have zj8 : Same Hj I8' := z1'.trans (z2.trans z38)
  have r1 : RF 6 I8' (.ref p1') (.ref V1) := r_tups (zj8 _ _ gqj) (z38 _ _ gV1) (by show 2 ≤ 100; decide)
    (.cons (r_str _) (.cons (r_lists (zj8 _ _ gAj) (z38 _ _ (z2 _ _ gL1)) (by show 2 ≤ 100; decide) (.cons (r_int _) (.cons (r_str _) .nil))) .nil))
  have r2 : RF 6 I8' (.ref p) (.ref V2) := r_tups (zj8 _ _ gpj) (z8 _ _ gV2) (by show 2 ≤ 100; decide)
    (.cons (r_str _) (.cons (r_dct (zj8 _ _ m4) (z8 _ _ (z7 _ _ gD1)) (by show 2 ≤ 100; decide) fun e he => by
      simp only [List.mem_cons, List.not_mem_nil, or_false] at he
      rcases he with rfl | rfl
      · exact flat_si _ _
      · exact flat_si _ _) .nil))
  exact ⟨_, _, rfl, show NextF (RF 6) I8' (.ref Fd) (.ref L3) from r_lists (zj8 _ _ gFj) gL3 (by show 2 ≤ 100; decide) (.cons r1 (.cons r2 .nil)), fun H' e' => q H' (fun b o na ho nt => xB.trans (LamX.ExtN.of (zj8.trans e')) _ _ (k1 _ _ na ho) nt) (sp1.nn (xB.trans (LamX.ExtN.of (zj8.trans e')))) (tabs_same tB' (zj8.trans e'))⟩
end
end K1
end
-- WLr
section
set_option Elab.async false
set_option linter.all false
set_option maxRecDepth 100000
set_option maxHeartbeats 1000000
/-! a word: list(range(n)) -/
namespace Wlr
open PySem PySem.Calls PySem.Spec PyProof.Rows L2
theorem ints_vals : ∀ (us : List Value) (a : Nat), (∀ (j : Nat) (v : Value), us[j]? = some v → ∃ t, v = .int ((a + j : Nat) : Int) t) → Vals ((List.range' a us.length).map fun i : Nat => V.int (i : Int)) us
  | [], _, _ => .nil
  | u :: us, a, h => by
    obtain ⟨t, rfl⟩ := h 0 u rfl
    refine .cons ⟨t, rfl⟩ (ints_vals us (a + 1) fun j v hj => ?_)
    obtain ⟨t', e⟩ := h (j + 1) v hj
    refine ⟨t', e.trans ?_⟩
    congr 2
    omega
def tListRng (t : TA) : TE := fun σ H Q => t σ H fun vs H1 => ∃ n : Nat, vs = [.int (n : Int)] ∧ n ≤ 1000 ∧ ∀ p, H1 p = none → Q (.ref p) (upd H1 p (.lst ((List.range n).map fun i : Nat => V.int (i : Int))))
section
variable {X : Cx} {e : Expr} {t : TA} {p q pos pos2 : Pos}
theorem pe_listRng (hc : X.calm = true) (hg : Gl X "list") (hm : X.mg "list" = none) (hg2 : Gl X "range") (hm2 : X.mg "range" = none) (ha : PA X [e] t)
    (hs2 : starEach [e] X.env = [(false, eval e X.env)] := by rfl)
    (hs : starEach [.Call (.Name "range" q) [e] [] pos2] X.env = (false, eval (.Call (.Name "range" q) [e] [] pos2) X.env) :: starEach [] X.env := by rfl) :
    PE X (.Call (.Name "list" p) [.Call (.Name "range" q) [e] [] pos2] [] pos) (tListRng t) := by
  refine ⟨fun pins s σ H Q I hq => ?_⟩
  refine wpAny_Call_Name_kw (ld_blt I hg hm PyProof.Rows.boot_list ?_)
  refine PyProof.Rows.callWith_type1 ?_ hs rfl
  rw [hs]
  show wpAny _ _ (spliced ((false, eval (.Call (.Name "range" q) [e] [] pos2) X.env) :: backTo pos (starEach [] X.env))) _ _ s
  refine Calls.spliced_cons ?_
  refine wpAny_Call_Name_kw (ld_blt I hg2 hm2 PyProof.Rows.boot_range ?_)
  refine PyProof.Rows.callWith_type1 (thn (ha.run pos2 pins s σ H _ I hq) fun us s1 ⟨vs, H1, I1, r1, q1⟩ => ?_) hs2 rfl
  obtain ⟨n, ex, hn, w⟩ := q1
  subst ex
  cases r1 with
  | cons r rr =>
    cases rr
    obtain ⟨tk, rfl⟩ := r
    refine call_range_1 ?_
    refine Calls.spliced_nil ?_
    have sm : Builtin.Range.small 0 (n : Int) 1 = true := small_one (by omega) (by omega) (by omega) (by omega)
    have rs : Builtin.Range.rangeSize 0 (n : Int) 1 = (n : Int) := by
      rw [rangeSize_one]
      split <;> omega
    have I2 : Inv X pins σ H1 { s1 with heap := s1.heap.push { cls := .type "range", data := .fields #[.int 0 s1.toks, .int (n : Int) tk, .int 1 (s1.toks + 1)] }, toks := s1.toks + 1 + 1 } := I1.kept fun b o e => Heap.get?_push_of_some _ e
    refine call_list_range (I1.ok.hd hc) (IsRange.new ..) sm rs (by omega) fun h' tk' acc c' hk hS hI => ?_
    have la : acc.toList.length = n := by rw [Array.length_toList]; exact hI.1
    have vl : Vals ((List.range n).map fun i : Nat => V.int (i : Int)) acc.toList := by
      rw [List.range_eq_range', ← la]
      refine ints_vals _ 0 fun j v hj => ?_
      obtain ⟨t', e'⟩ := hI.2 j v (by rw [← hj, Array.getElem?_toList])
      exact ⟨t', e'.trans (congrArg (fun z => Value.int z t') (by omega : (0 : Int) + (j : Int) * 1 = ((0 + j : Nat) : Int)))⟩
    refine ⟨.ref _, _, I2.laid (t' := tk') hk (Nat.le_refl _) (show ObjOk X.prog X.w _ h' _ (.lst _) from ⟨?_, acc.toList, c', vl, ?_⟩), rfl, w _ (I2.hok.fresh (Nat.le_refl _))⟩
    · rw [List.length_map, List.length_range]
      exact Nat.le_trans hn (by decide)
    · rw [Array.toArray_toList]
      exact hS
end
end Wlr
end
-- ELawA
section
set_option Elab.async false
set_option linter.all false
set_option maxRecDepth 100000
set_option maxHeartbeats 4000000
namespace K1
open PySem PySem.Spec PyProof.Rows L2 W0
theorem Spr.tabs {T : List (Addr × Str)} {H H' : Hp} {a : Addr} {n : Nat} (s : Spr H a n) (t : LamX.Tabs T H) (k : Kept a H H') : LamX.Tabs T H' := by
  obtain ⟨x, y, z, e, _⟩ := s
  exact tabs_kept t e k
theorem ExtA.of {a : Addr} {H H' : Hp} (k : Kept a H H') : ExtA a H H' := fun b o n h _ => k b o n h
theorem ExtA.trans {a : Addr} {H H1 H2 : Hp} (p : ExtA a H H1) (q : ExtA a H1 H2) : ExtA a H H2 := fun b o n h t => q b o n (p b o n h t) t
theorem ExtA.refl {a : Addr} {H : Hp} : ExtA a H H := fun _ _ _ h _ => h
/-- either way, what is told is of this kind -/
theorem if_cut {c : Bool} {A B : VK → Prop} {Q : VK} (R : V → Hp → Prop) (h1 : c = true → ∀ Q' : VK, (∀ v H', R v H' → Q' v H') → A Q') (h2 : c = false → ∀ Q' : VK, (∀ v H', R v H' → Q' v H') → B Q') (h : ∀ v H', R v H' → Q v H') : if c = true then A Q else B Q := by
  cases c with
  | true => exact iteT (h1 rfl Q h)
  | false => exact iteF (h2 rfl Q h)
theorem asg_run {te : TE} {g : TG} {D : Ends} {σ : L2.St} {H : Hp} (h : te σ H fun x H1 => g x σ H1 D.nx) : tAsg te g D σ H := h
theorem for_run {wi : TI} {g : TG} {tb : TS} {D : Ends} {σ : L2.St} {H : Hp} (h : wi σ H fun J H1 => tFor (fun _ H2 R => R J H2) g tb D σ H1) : tFor wi g tb D σ H := h
theorem itup_run {K : PySem.W.Frag} {tl : TE} {σ : L2.St} {H : Hp} {R : It → Hp → Prop} (h : tl σ H fun x H1 => ∃ a, x = .ref a ∧ (∃ xs, SqT K H1 a xs) ∧ R (Itt K a) H1) : iTup K tl σ H R := h
/-- a turn of the law: the valley, its Valley, two closings -/
structure LawS (C a : Addr) (T : List (Addr × Str)) (t p1 p2 p3 x c1 c2 : Addr) (qs cq1 cq2 : List Addr) (ss : List Str) (rs es1 es2 : List (Str × Str)) (ns : List Int) (H : Hp) (n : Nat) : Prop where
  s : Spr H a n
  tb : LamX.Tabs T H
  va : VAt a H t p1 p2 p3 qs ss rs ns
  iv : IsVO C a H x ss rs ns
  k1 : ClAt a H c1 cq1 rs es1
  k2 : ClAt a H c2 cq2 rs es2
theorem LawS.kept {C a : Addr} {T : List (Addr × Str)} {t p1 p2 p3 x c1 c2 : Addr} {qs cq1 cq2 : List Addr} {ss : List Str} {rs es1 es2 : List (Str × Str)} {ns : List Int} {H H' : Hp} {n n' : Nat} (l : LawS C a T t p1 p2 p3 x c1 c2 qs cq1 cq2 ss rs es1 es2 ns H n) (k : Kept a H H') (s : Spr H' a n') : LawS C a T t p1 p2 p3 x c1 c2 qs cq1 cq2 ss rs es1 es2 ns H' n' :=
  ⟨s, l.s.tabs l.tb k, l.va.kept l.s k, l.iv.kept l.s k, l.k1.kept l.s k, l.k2.kept l.s k⟩
theorem LawS.same {C a : Addr} {T : List (Addr × Str)} {t p1 p2 p3 x c1 c2 : Addr} {qs cq1 cq2 : List Addr} {ss : List Str} {rs es1 es2 : List (Str × Str)} {ns : List Int} {H H' : Hp} {n : Nat} (l : LawS C a T t p1 p2 p3 x c1 c2 qs cq1 cq2 ss rs es1 es2 ns H n) (e : Same H H') : LawS C a T t p1 p2 p3 x c1 c2 qs cq1 cq2 ss rs es1 es2 ns H' n := l.kept (.same e) (l.s.same e)
theorem take_two {xs : List V} (h : 2 ≤ xs.length) : ∃ u v r, xs = u :: v :: r ∧ xs.take 2 = [u, v] := by
  match xs, h with
  | u :: v :: r, _ => exact ⟨u, v, r, rfl, rfl⟩
theorem tup2' {H : Hp} {v : V} {P1 P2 : PV} (h : tupP [P1, P2] H v) : ∃ p x y, v = .ref p ∧ H p = some (.tup [x, y]) ∧ P1 H x ∧ P2 H y := by
  obtain ⟨p, xs, rfl, hp, q⟩ := h
  cases q with
  | cons a r => cases r with
  | cons b r => cases r with
  | nil => exact ⟨p, _, _, rfl, hp, a, b⟩
theorem ne_of_none' {H : Hp} {a b : Addr} {o : HO} (h : H b = some o) (n : H a = none) : b ≠ a := fun z => by
  rw [z, n] at h
  cases h
end K1
end
-- ELawB
section
set_option Elab.async false
set_option linter.all false
set_option maxRecDepth 100000
set_option maxHeartbeats 4000000
namespace K1
open PySem PySem.Spec PyProof.Rows L2 W0
theorem opc_run {K : PySem.W.Frag} {ta : TE} {σ : L2.St} {H : Hp} {Q : VK} (h : ta σ H fun v H1 => rIxL K v (.int 0) H1 Q) : tOp (rIxL K) ta (tC (.int 0)) σ H Q := h
/-- the lot of the house, behind m roads, by the law's own reckoning -/
theorem lot_of {K : PySem.W.Frag} {t p c : Addr} {x2 x3 : V} {ss : List Str} {cq : List Addr} {es : List (Str × Str)} {m : Nat} {s : Str} {y0 y1 y2 y3 y4 y6 y7 y8 y9 y11 y12 y13 y14 y16 y19 : Option V} {H : Hp} {Q : VK}
    (gt : H t = some (.tup [.ref p, x2, x3])) (gp : H p = some (.lst (ss.map V.str))) (gc : H c = some (.lst (cq.map V.ref))) (pr : Paired (TupP H) cq es) (nd : ss.Nodup) (l60 : ss.length ≤ 60) (ei : EndsIn ss es) (fo : Forest (es.drop m)) (le : es.length ≤ 60) (hs' : s ∈ ss)
    (q : ∀ l H', Same H H' → H l = none → H' l = some (.lst ((comp ss (es.drop m) s).map V.str)) → Q (.ref l) H') :
    tOp (rIxL K) (tLc (iList K (tCall spNc [] E0 (tCons (tVar 5) (tCons (tVar 18) (tCons (tVar 10) tNil))))) (gName 17) (tTest (tOp (rIn K false) (tVar 15) (tVar 17))) (tVar 17) [17]) (tC (.int 0))
      [y0, y1, y2, y3, y4, some (.ref t), y6, y7, y8, y9, some (.int (m : Int)), y11, y12, y13, y14, some (.str s), y16, none, some (.ref c), y19] H Q := by
  refine ⟨_, rfl, _, rfl, _, rfl, t, p, c, _, _, ss, cq, es, m, rfl, gt, gp, gc, pr, nd, l60, ei, fo, le, fun r ls H2 e2 nr gr pls => ?_⟩
  have pl4 : Paired (fun (l : Addr) (xs : List Str) => H l = none ∧ H2 l = some (.lst (xs.map V.str))) ls (lotsOf ss (es.drop m)) := pls
  have lls : ls.length ≤ 60 := by
    have := pl4.length
    unfold lotsOf at this
    rw [List.length_map] at this
    have h2 := List.length_filter_le (fun s => decide ((comp ss (es.drop m) s).head? = some s)) ss
    omega
  refine ⟨r, rfl, ⟨_, SqL.of gr⟩, fun D hD => ?_⟩
  have lmr : (ls.map V.ref).length = ls.length := List.length_map ..
  refine lc_it (Qd := _) walk_list (fun i Hd => Same H2 Hd ∧ ∃ us : List Addr, Hd D = some (.lst (us.map V.ref)) ∧ us.length ≤ i ∧ (∀ u ∈ us, H u = none ∧ H2 u = some (.lst ((comp ss (es.drop m) s).map V.str))) ∧ ((∃ (k : Nat) (xs : List Str), k < i ∧ (lotsOf ss (es.drop m))[k]? = some xs ∧ s ∈ xs) → us ≠ [])) ⟨K1.Same.upd hD, [], upd_same, Nat.le_refl _, fun u hu' => absurd hu' (by simp), fun ⟨k, _, hk, _⟩ => absurd hk (by omega)⟩ (fun i Hd _ h => SqL.of (h.1 _ _ gr)) ?_ ?_
  · rintro j v Hd H'' hj ⟨f1, us, f2, f3, f4, f5⟩ ⟨rfl, hv3⟩
    rw [lmr] at hj
    have hjl : j < (lotsOf ss (es.drop m)).length := by rw [← pl4.length]; exact hj
    obtain ⟨l', el, gl⟩ := paired_get pl4 hjl
    have ev2 : v = .ref l' := by
      rw [List.getElem?_map, el] at hv3
      exact (Option.some.inj hv3).symm
    subst ev2
    refine ⟨rfl, ?_⟩
    refine ⟨_, rfl, _, rfl, l', _, rfl, .inl (SqL.of (f1 _ _ gl.2)), rfl, flat_strs, _, rfl, ?_⟩
    show if inV (V.str s) (((lotsOf ss (es.drop m))[j]).map V.str) = true then _ else _
    rw [inV_str]
    by_cases hin : s ∈ (lotsOf ss (es.drop m))[j]
    · rw [decide_eq_true hin]
      have ex := lots_has (List.getElem_mem hjl) hin
      refine iteT ⟨_, rfl, _, f2, by rw [List.length_map]; exact small1000 (by omega), ps_same_upd f1 hD, us ++ [l'], by rw [upd_same, List.map_append]; rfl, by rw [List.length_append]; exact Nat.succ_le_succ f3, fun u hu' => ?_, fun _ => by simp⟩
      rcases List.mem_append.mp hu' with hu' | hu'
      · exact f4 u hu'
      · rw [List.mem_singleton.mp hu', ← ex]
        exact gl
    · rw [decide_eq_false hin]
      refine iteF ⟨f1, us, f2, by omega, f4, fun ⟨k, xs, hk, ek, hx⟩ => f5 ⟨k, xs, ?_, ek, hx⟩⟩
      by_cases z : k = j
      · subst z
        rw [List.getElem?_eq_getElem hjl] at ek
        rw [Option.some.inj ek] at hin
        exact absurd hx hin
      · omega
  rintro Hd ⟨f1, us, f2, f3, f4, f5⟩
  have hne : us ≠ [] := by
    obtain ⟨k, hk, ek⟩ := List.mem_iff_getElem.mp (lots_in (es := es.drop m) hs')
    refine f5 ⟨k, _, by rw [lmr, pl4.length]; exact hk, List.getElem?_eq_getElem hk, ?_⟩
    rw [ek]
    exact mem_comp.mpr ⟨hs', rfl⟩
  obtain ⟨u0, us', rfl⟩ := List.exists_cons_of_ne_nil hne
  have gu := f4 u0 (List.mem_cons_self ..)
  exact ⟨D, _, 0, .ref u0, rfl, rfl, SqL.of f2, atI_nat (xs := (u0 :: us').map V.ref) (j := 0) (v := .ref u0) rfl, q u0 Hd (e2.trans f1) gu.1 (f1 _ _ gu.2)⟩
end K1
end
-- ELaw
section
set_option Elab.async false
set_option linter.all false
set_option maxRecDepth 100000
set_option maxHeartbeats 4000000
namespace K1
open PySem PySem.Spec PyProof.Rows L2 W0
abbrev sLaw : Stmt := top 68
def spLaw (K : PySem.W.Frag) (T : List (Addr × Str)) : Sp := fun vs H Q _ => ∃ (p : Addr) (ns : List Int), vs = [.ref p] ∧ SqL K H p (ns.map V.int) ∧ ns.length ≤ 1000 ∧ LamX.Tabs T H ∧ ∀ H', Q (.bl true) H'
theorem scLaw : FnScope ["script", "turn", "spring", "least", "most", "valley", "made", "one", "other", "closing", "many", "k", "here", "there", "held", "house", "found", "lot", "row", "due"] ["script"] (defScope sLaw) := ⟨rfl, rfl, rfl, by decide +kernel, rfl, by decide +kernel, by decide +kernel⟩
theorem seq_extN {K : PySem.W.Frag} {H H' : Hp} {a : Addr} {xs : List V} (e : LamX.ExtN H H') (h : SqL K H a xs) : SqL K H' a xs := by
  rcases h with (h | ⟨o, h⟩) | h
  · exact .inl (.inl (e _ _ h (fun _ z => by cases z)))
  · exact .inl (.inr ⟨o, e _ _ h (fun _ z => by cases z)⟩)
  · exact .inr h
section
variable {P : Program} {w : World} {K : PySem.W.Frag} {mg : Str → Option Value} {base : Heap} {C CC CN CS CM : Addr} {T : List (Addr × Str)}
theorem ok_law {f f1 f2 f3 f4 f6 f7 f8 f9 fa fb fc fe f5 : Addr} {fd d1 d2 d3 d4 d6 d7 d8 d9 da db dc de d5 : FuncData} (F : Fun K "law" "law" sLaw f fd) (B : Bl mg) (mr : mg "range" = none) (mn : mg "min" = none) (mx : mg "max" = none)
    (GSp : FnOk P w K mg base CX0 1 f1 d1 ["script", "turn"] (spSpring K)) (bSp : Binds K d1 ["script", "turn"] []) (kSp : PySem.W.keepIn K (.ref f1) = true) (mSp : mg "_law_spring" = some (.ref f1))
    (GV : FnOk P w K mg base CX0 4 f2 d2 ["spring", "least", "most"] (spVV)) (bV : Binds K d2 ["spring", "least", "most"] []) (kV : PySem.W.keepIn K (.ref f2) = true) (mV : mg "_law_v_valley" = some (.ref f2))
    (GMd : FnOk P w K mg base CX0 7 f3 d3 ["spring", "valley"] (spMd C)) (bMd : Binds K d3 ["spring", "valley"] []) (kMd : PySem.W.keepIn K (.ref f3) = true) (mMd : mg "_law_v_made" = some (.ref f3))
    (GM : FnOk P w K mg base CX0 2 f4 d4 ["spring", "some"] (spMixed)) (bM : Binds K d4 ["spring", "some"] []) (kM : PySem.W.keepIn K (.ref f4) = true) (mM : mg "_law_mixed" = some (.ref f4))
    (GTr : FnOk P w K mg base CX0 9 f6 d6 ["spring", "made", "valley", "closing", "one", "other"] (spTr C)) (bTr : Binds K d6 ["spring", "made", "valley", "closing", "one", "other"] []) (kTr : PySem.W.keepIn K (.ref f6) = true) (mTr : mg "_law_two_right" = some (.ref f6))
    (GP : FnOk P w K mg base CX0 2 f7 d7 ["spring", "some"] (spPick)) (bP : Binds K d7 ["spring", "some"] []) (kP : PySem.W.keepIn K (.ref f7) = true) (mP : mg "_law_pick" = some (.ref f7))
    (GD : FnOk P w K mg base CX0 1 f8 d8 ["spring", "many"] (spDraw)) (bD : Binds K d8 ["spring", "many"] []) (kD : PySem.W.keepIn K (.ref f8) = true) (mD : mg "_law_draw" = some (.ref f8))
    (GSj : FnOk P w K mg base (L2.CX P w) 8 f9 d9 ["valley", "closing", "house", "many"] (spSj K C CC CN CM)) (bSj : Binds K d9 ["valley", "closing", "house", "many"] []) (kSj : PySem.W.keepIn K (.ref f9) = true) (mSj : mg "still_joined" = some (.ref f9))
    (GPu : FnOk P w K mg base CX0 1 fa da ["held", "other"] (spPu)) (bPu : Binds K da ["held", "other"] []) (kPu : PySem.W.keepIn K (.ref fa) = true) (mPu : mg "_law_v_put" = some (.ref fa))
    (GN : FnOk P w K mg base CX0 1 fb db ["valley", "closing", "many"] (spNc)) (bN : Binds K db ["valley", "closing", "many"] []) (kN : PySem.W.keepIn K (.ref fb) = true) (mN : mg "_law_n_closed" = some (.ref fb))
    (GS : FnOk P w K mg base CX0 3 fc dc ["found", "due"] (spSm (RF 3))) (bS : Binds K dc ["found", "due"] []) (kS : PySem.W.keepIn K (.ref fc) = true) (mS : mg "_law_same" = some (.ref fc))
    (GR : FnOk P w K mg base CX0 12 fe de ["spring", "made", "valley", "closing"] (spRef C T)) (bR : Binds K de ["spring", "made", "valley", "closing"] []) (kR : PySem.W.keepIn K (.ref fe) = true) (mR : mg "_law_refused_right" = some (.ref fe))
    (GJr : Wr.FnG P w K mg base CX0 9 f5 d5 ["spring", "made", "valley", "closing", "many"] (spJr C)) (bJr : Binds K d5 ["spring", "made", "valley", "closing", "many"] []) (kJr : PySem.W.keepIn K (.ref f5) = true) (mJr : mg "_law_joined_right" = some (.ref f5)) :
    Wr.FnG P w K mg base CX0 13 f fd ["script"] (spLaw K T) := by
  refine Wr.okG F scLaw (fun vs H Q E h => ?_) (fun cdv A outer s0 H vs Q E hA hr h => ?_)
  · obtain ⟨p, ns, rfl, _⟩ := h
    rfl
  obtain ⟨p, ns, rfl, hp, hl, tb, q⟩ := h
  have nd := scLaw.nd
  have hr1 : Room 1 _ := hr.mono (by decide)
  have hr2 : Room 2 _ := hr.mono (by decide)
  have hr4 : Room 4 _ := hr.mono (by decide)
  have hr7 : Room 7 _ := hr.mono (by decide)
  refine ⟨_, (pss_cons (by exact (ps_for PassesOwn.never rfl (by exact (pi_range1 rfl mr (pa_cons (pe_callB (call_min2 rfl) rfl mn (by decide +kernel) (pa_cons pe_int (pa_cons (pe_callB (call_max2 rfl) rfl mx (by decide +kernel) (pa_cons pe_int (pa_cons (pe_callB call_len_seq rfl B.len PySem.boot_len (pa_cons (pv 0) pa_nil)) pa_nil))) pa_nil))) pa_nil))) (pg_name (i := 1) nd rfl (.inl rfl)) (pss_cons (by exact (ps_set (i := 2) nd rfl (.inl rfl) (pe_call GSp hr1 rfl mSp kSp bSp .nil pass0 (pa_cons (pv 0) (pa_cons (pv 1) pa_nil)))))
  (pss_one (by exact (ps_for PassesOwn.never rfl (by exact pi_tup (pe_tup (pa_cons (pe_tup (pa_cons pe_int (pa_cons pe_int pa_nil))) (pa_cons (pe_tup (pa_cons pe_int (pa_cons pe_int pa_nil))) (pa_cons (pe_tup (pa_cons pe_int (pa_cons pe_int pa_nil))) (pa_cons (pe_tup (pa_cons pe_int (pa_cons pe_int pa_nil))) pa_nil)))))) (pg_tup rfl (pgs_cons (pg_name (i := 3) nd rfl (.inl rfl)) (pgs_cons (pg_name (i := 4) nd rfl (.inl rfl)) pgs_nil))) (pss_cons (by exact (ps_set (i := 5) nd rfl (.inr rfl) (pe_call GV hr4 rfl mV kV bV .nil pass0 (pa_cons (pv 2) (pa_cons (pv 3) (pa_cons (pv 4) pa_nil))))))
  (pss_cons (by exact (ps_par (i := 6) (j := 7) rfl nd rfl rfl (by decide) rfl rfl (pa_cons (pe_call GMd hr7 rfl mMd kMd bMd .nil pass0 (pa_cons (pv 2) (pa_cons (pv 5) pa_nil))) (pa_cons (pe_call GM hr2 rfl mM kM bM .nil pass0 (pa_cons (pv 2) (pa_cons (pe_ix ix_tup (pv 5) pe_int (fun _ _ => rfl)) pa_nil))) pa_nil)) (by rfl)))
  (pss_cons (by exact (ps_set (i := 8) nd rfl (.inl rfl) (pe_call GM hr2 rfl mM kM bM .nil pass0 (pa_cons (pv 2) (pa_cons (pe_ix ix_tup (pv 5) pe_int (fun _ _ => rfl)) pa_nil)))))
  (pss_cons (by exact (ps_for PassesOwn.never rfl (by exact pi_tup (pe_tup (pa_cons (pv 7) (pa_cons (pv 8) (pa_cons (pv 7) pa_nil))))) (pg_name (i := 9) nd rfl (.inl rfl)) (pss_cons (by exact (ps_for PassesOwn.never rfl (by exact pi_list (pe_slice sl_list (pe_call GM hr2 rfl mM kM bM .nil pass0 (pa_cons (pv 2) (pa_cons (Wlr.pe_listRng rfl rfl B.list rfl mr (pa_cons (pe_op op_add (pe_callB call_len_seq rfl B.len PySem.boot_len (pa_cons (pv 7) pa_nil)) pe_int) pa_nil)) pa_nil))) po_none (po_some pe_int))) (pg_name (i := 10) nd rfl (.inr rfl)) (pss_one (by exact (ps_if (pt_not (pt_val (Wr.pe_callG hA GJr (hr.mono (by decide)) rfl mJr kJr bJr .nil pass0 (pa_cons (pv 2) (pa_cons (pv 6) (pa_cons (pv 5) (pa_cons (pv 9) (pa_cons (pv 10) pa_nil)))))))) (pss_one (by exact (ps_ret pe_bl))) pss_nil)))))
  (pss_one (by exact (ps_for PassesOwn.never rfl (by exact pi_range1 rfl mr (pa_cons (pe_ifExp (pt_cmpR op_gt (pe_callB call_len_seq rfl B.len PySem.boot_len (pa_cons (pe_ix ix_tup (pv 5) pe_int (fun _ _ => rfl)) pa_nil)) pe_int (nomark _)) pe_int pe_int) pa_nil)) (pg_name (i := 11) nd rfl (.inl rfl)) (pss_cons (by exact (ps_asg (pe_slice sl_list (pe_call GM hr2 rfl mM kM bM .nil pass0 (pa_cons (pv 2) (pa_cons (pe_ix ix_tup (pv 5) pe_int (fun _ _ => rfl)) pa_nil))) po_none (po_some pe_int)) (pg_lst rfl (pgs_cons (pg_name (i := 12) nd rfl (.inl rfl)) (pgs_cons (pg_name (i := 13) nd rfl (.inl rfl)) pgs_nil)))))
  (pss_one (by exact (ps_if (pt_not (pt_val (pe_call GTr (hr.mono (by decide)) rfl mTr kTr bTr .nil pass0 (pa_cons (pv 2) (pa_cons (pv 6) (pa_cons (pv 5) (pa_cons (pv 9) (pa_cons (pv 12) (pa_cons (pv 13) pa_nil))))))))) (pss_one (by exact (ps_ret pe_bl))) pss_nil))))))))))
  (pss_cons (by exact (ps_asg (pe_tup (pa_cons (pe_callTy call_list_of rfl B.list PyProof.Rows.boot_list (pa_cons (pv 7) pa_nil)) (pa_cons (pe_call GP hr2 rfl mP kP bP .nil pass0 (pa_cons (pv 2) (pa_cons (pe_ix ix_tup (pv 5) pe_int (fun _ _ => rfl)) pa_nil))) (pa_cons (pe_call GD hr1 rfl mD kD bD .nil pass0 (pa_cons (pv 2) (pa_cons (pe_op op_add (pe_callB call_len_seq rfl B.len PySem.boot_len (pa_cons (pv 7) pa_nil)) pe_int) pa_nil))) pa_nil)))) (pg_tup rfl (pgs_cons (pg_name (i := 14) nd rfl (.inl rfl)) (pgs_cons (pg_name (i := 15) nd rfl (.inr rfl)) (pgs_cons (pg_name (i := 10) nd rfl (.inr rfl)) pgs_nil))))))
  (pss_cons (by exact (ps_set (i := 16) nd rfl (.inl rfl) (pe_lst (pa_cons (pe_call GSj (hr.mono (by decide)) rfl mSj kSj bSj .nil passL (pa_cons (pv 6) (pa_cons (pv 14) (pa_cons (pv 15) (pa_cons (pv 10) pa_nil))))) pa_nil))))
  (pss_cons (by exact (ps_expr (pe_bm PySem.F.plainAttrs_list PySem.F.slot_list_append PySem.F.type_list_append mt_append (pv 16) (pa_cons (pe_call GSj (hr.mono (by decide)) rfl mSj kSj bSj .nil passL (pa_cons (pv 6) (pa_cons (pe_call GPu hr1 rfl mPu kPu bPu .nil pass0 (pa_cons (pv 14) (pa_cons (pv 8) pa_nil))) (pa_cons (pv 15) (pa_cons (pv 10) pa_nil))))) pa_nil))))
  (pss_cons (by exact (ps_setLc (i := 19) (own := [("row", 18)]) (g := gName 18) (tt := tYes) (te := tOp (rIxL K) (tLc (iList K (tCall spNc [] E0 (tCons (tVar 5) (tCons (tVar 18) (tCons (tVar 10) tNil))))) (gName 17) (tTest (tOp (rIn K false) (tVar 15) (tVar 17))) (tVar 17) [17]) (tC (.int 0))) rfl nd rfl rfl (sw_true rfl rfl rfl (by decide +kernel)) (by exact pi_tup (pe_tup (pa_cons (pv 7) (pa_cons (pv 8) pa_nil)))) (by exact blkOk_by (N := ["script", "turn", "spring", "least", "most", "valley", "made", "one", "other", "closing", "many", "k", "here", "there", "held", "house", "found", "lot", "row", "due"]) (sc := defScope sLaw) (by decide +kernel)) (fun _ _ _ _ _ => by exact (pg_name (i := 18) nd rfl (.inl rfl))) (fun _ _ _ _ _ => by exact pts_nil) (fun _ _ _ _ _ => by exact (pe_ix ix_list (pe_lc (own := [("lot", 17)]) (g := gName 17) (tt := tTest (tOp (rIn K false) (tVar 15) (tVar 17))) (te := tVar 17) rfl nd (by exact pi_list (pe_call GN hr1 rfl mN kN bN .nil pass0 (pa_cons (pv 5) (pa_cons (pv 18) (pa_cons (pv 10) pa_nil))))) (by exact blkOk_by (N := ["script", "turn", "spring", "least", "most", "valley", "made", "one", "other", "closing", "many", "k", "here", "there", "held", "house", "found", "lot", "row", "due"]) (sc := _) (by with_unfolding_all rfl)) (fun _ _ _ _ _ => by exact (pg_name (i := 17) nd rfl (.inl rfl))) (fun _ _ _ _ _ => by exact (pts_one (pt_cmpR op_in_seq (pv 15) (pv 17) (by with_unfolding_all rfl)))) (fun _ _ _ _ _ => by exact (pv 17))) pe_int (fun _ _ => rfl)))))
  (pss_cons (by exact (ps_if (pt_not (pt_val (pe_call GS (hr.mono (by decide)) rfl mS kS bS .nil pass0 (pa_cons (pv 16) (pa_cons (pv 19) pa_nil))))) (pss_one (by exact (ps_ret pe_bl))) pss_nil))
  (pss_one (by exact (ps_if (PW.pt (pw_and (pt_cmpR op_lt (pv 3) pe_int (nomark _)) (pw_and1 (pt_not (pt_val (pe_call GR (hr.mono (by decide)) rfl mR kR bR .nil pass0 (pa_cons (pv 2) (pa_cons (pv 6) (pa_cons (pv 5) (pa_cons (pv 7) pa_nil)))))))))) (pss_one (by exact (ps_ret pe_bl))) pss_nil))))))))))))))))))
  (pss_one (by exact (ps_ret pe_bl)))), ?_⟩
  refine ⟨_, rfl, p, _, rfl, .inl hp, _, _, rfl, _, _, rfl, _, rfl, ?_, ?_, ?_⟩
  · have := List.length_map (f := V.int) (as := ns)
    repeat' split
    all_goals omega
  · have := List.length_map (f := V.int) (as := ns)
    repeat' split
    all_goals omega
  refine for_range (lo := 0) (fun i σ Hc => (∃ x1 x2 x3 x4 x5 x6 x7 x8 x9 x10 x11 x12 x13 x14 x15 x16 x19, σ = [some (.ref p), x1, x2, x3, x4, x5, x6, x7, x8, x9, x10, x11, x12, x13, x14, x15, x16, none, none, x19]) ∧ LamX.ExtN H Hc ∧ LamX.Tabs T Hc) ⟨⟨_, _, _, _, _, _, _, _, _, _, _, _, _, _, _, _, _, rfl⟩, LamX.ExtN.refl H, tb⟩ ?_ ?_
  · rintro i σ Hc hi ⟨⟨x1, x2, x3, x4, x5, x6, x7, x8, x9, x10, x11, x12, x13, x14, x15, x16, x19, rfl⟩, g1, g2⟩
    have hi3 : i < 100 := by
      have hll := List.length_map (f := V.int) (as := ns)
      revert hi
      repeat' split
      all_goals omega
    refine ⟨_, rfl, _, rfl, p, _, ns, rfl, seq_extN g1 hp, by omega, by omega, hl, fun a H1 e1 na s1 => ?_⟩
    have tb1 := tabs_same g2 e1
    refine K1.gN ?_
    refine for_run (itup_run ((mr_tup (mr_cons (mr_tup (mr_cons (mr_c (.int 1)) (mr_cons (mr_c (.int 2)) mr_nil))) (mr_cons (mr_tup (mr_cons (mr_c (.int 2)) (mr_cons (mr_c (.int 5)) mr_nil))) (mr_cons (mr_tup (mr_cons (mr_c (.int 3)) (mr_cons (mr_c (.int 12)) mr_nil))) (mr_cons (mr_tup (mr_cons (mr_c (.int 13)) (mr_cons (mr_c (.int 60)) mr_nil))) mr_nil))))).run H1 (Same.refl _) _ fun v H2 e2 pv => ?_))
    obtain ⟨X, ys, rfl, gX, py⟩ := pv
    refine ⟨X, rfl, ⟨_, SqT.of gX⟩, ?_⟩
    have two : ∀ y ∈ ys, ∃ (qq : Addr) (l m : Int), y = .ref qq ∧ H2 qq = some (.tup [.int l, .int m]) ∧ 1 ≤ l ∧ l ≤ m ∧ m ≤ 60 := fun y hy => by
      obtain ⟨P, hP, hx⟩ := paired_memL py y hy
      simp only [List.mem_cons, List.not_mem_nil, or_false] at hP
      rcases hP with rfl | rfl | rfl | rfl
      · obtain ⟨p, u1, u2, rfl, hp, rfl, rfl⟩ := tup2' hx
        exact ⟨p, 1, 2, rfl, hp, by decide, by decide, by decide⟩
      · obtain ⟨p, u1, u2, rfl, hp, rfl, rfl⟩ := tup2' hx
        exact ⟨p, 2, 5, rfl, hp, by decide, by decide, by decide⟩
      · obtain ⟨p, u1, u2, rfl, hp, rfl, rfl⟩ := tup2' hx
        exact ⟨p, 3, 12, rfl, hp, by decide, by decide, by decide⟩
      · obtain ⟨p, u1, u2, rfl, hp, rfl, rfl⟩ := tup2' hx
        exact ⟨p, 13, 60, rfl, hp, by decide, by decide, by decide⟩
    have lys : ys.length = 4 := py.length
    have s2 := s1.same e2
    have tb2 := tabs_same tb1 e2
    have Xa := s2.tup gX
    refine for_it walk_tup (fun k σ Hd => (∃ x3 x4 x5 x6 x7 x8 x9 x10 x11 x12 x13 x14 x15 x16 x19, σ = [some (.ref p), some (.int (0 + (i : Int))), some (.ref a), x3, x4, x5, x6, x7, x8, x9, x10, x11, x12, x13, x14, x15, x16, none, none, x19]) ∧ ExtA a H2 Hd ∧ Spr Hd a (0 + 20000 * k) ∧ LamX.Tabs T Hd) ⟨⟨_, _, _, _, _, _, _, _, _, _, _, _, _, _, _, rfl⟩, ExtA.refl, s2, tb2⟩ (fun k σ Hd _ h => SqT.of (h.2.1 _ _ Xa gX (fun _ z => by cases z))) ?_ ?_
    · rintro k y σ Hd H' hk ⟨⟨y3, y4, y5, y6, y7, y8, y9, y10, y11, y12, y13, y14, y15, y16, y19, rfl⟩, f1, f2, f3⟩ ⟨rfl, hy⟩
      rw [lys] at hk
      obtain ⟨qq, l, m, rfl, hq, l1, l2, l3⟩ := two y (List.mem_of_getElem? hy)
      refine ⟨qq, _, rfl, SqT.of (f1 _ _ (s2.tup hq) hq (fun _ z => by cases z)), rfl, _, _, rfl, _, _, rfl, rfl, ?_⟩
      refine ⟨_, rfl, _, rfl, _, rfl, a, l, m, _, rfl, f2, by omega, l1, l2, l3, fun t p1 p2 p3 qs ss rs nss HA kA sA vA okA hlo hhi => ?_⟩
      refine K1.gN ?_
      with_reducible refine sQ ?_
      refine ⟨_, rfl, _, rfl, a, t, p1, p2, p3, qs, ss, rs, nss, _, rfl, sA, by omega, vA, okA, fun x w1 w2 w3 d1 d2 d3 qs' bs HB kB sB vB ovB => ?_⟩
      have vB' := vA.kept sA kB
      have le60 := okA.le
      have rl := okA.rl
      have lqs : (qs.map V.ref).length = rs.length := by rw [List.length_map, vA.pr.length]
      refine ⟨_, rfl, _, rfl, t, _, _, _, rfl, rfl, SqT.of vB'.t0, (rfl : atI [V.ref p1, V.ref p2, V.ref p3] 1 = some (.ref p2)), a, p2, qs.map V.ref, _, rfl, sB, by omega, vB'.h2, vB'.n2, by omega, fun c1 yc1 H3 pm1 nc1 c1a gc1 k3 s3 => ⟨_, _, rfl, ?_⟩⟩
      have v3 := vB'.kept sB k3
      obtain ⟨cq1, es1, rfl, hcq1, hes1, hpr1⟩ := paired_perm v3.pr pm1
      have iv3 : IsVO C a H3 x ss rs nss := IsVO.kept ⟨okA.nl.symm, _, _, _, _, _, _, _, _, vB, ovB⟩ sB k3
      have cl3 : ClAt a H3 c1 cq1 rs es1 := ⟨gc1, c1a, hpr1, hes1⟩
      with_reducible refine sQ ?_
      refine ⟨_, rfl, _, rfl, t, _, _, _, rfl, rfl, SqT.of v3.t0, (rfl : atI [V.ref p1, V.ref p2, V.ref p3] 1 = some (.ref p2)), a, p2, qs.map V.ref, _, rfl, s3, by omega, v3.h2, v3.n2, by omega, fun c2 yc2 H4 pm2 nc2 c2a gc2 k4 s4 => ?_⟩
      have v4 := v3.kept s3 k4
      obtain ⟨cq2, es2, rfl, hcq2, hes2, hpr2⟩ := paired_perm v4.pr pm2
      have cc : c1 ≠ c2 := fun z => by rw [z, nc2] at gc1; cases gc1
      refine K1.gN ?_
      with_reducible refine sQ ?_
      have L4 : LawS C a T t p1 p2 p3 x c1 c2 qs cq1 cq2 ss rs es1 es2 nss H4 (0 + 20000 * k + 1400) := ⟨s4.mono (by omega), s3.tabs (sB.tabs (sA.tabs (f2.tabs f3 kA) kB) k3) k4, v4, iv3.kept s3 k4, cl3.kept s3 k4, ⟨gc2, c2a, hpr2, hes2⟩⟩
      have x4 : ExtA a H2 H4 := f1.trans ((ExtA.of kA).trans ((ExtA.of kB).trans ((ExtA.of k3).trans (ExtA.of k4))))
      generalize hn0 : 0 + 20000 * k + 1400 = n0 at L4
      clear s4 s3 sB sA v4 v3 vB' vA cl3 iv3 vB ovB kA kB k3 k4 f1 f2 f3
      have lcq1 : cq1.length = rs.length := by rw [L4.k1.pr.length, hes1.length_eq]
      have lcq2 : cq2.length = rs.length := by rw [L4.k2.pr.length, hes2.length_eq]
      refine ⟨_, rfl, _, rfl, _, rfl, (by show 3 ≤ sizeLine; decide), fun U hU => ?_⟩
      have e5 := K1.Same.upd (H := H4) (p := U) (o := .tup [.ref c1, .ref c2, .ref c1]) hU
      have gU := upd_same' H4 U (.tup [.ref c1, .ref c2, .ref c1])
      generalize L2.upd H4 U (.tup [.ref c1, .ref c2, .ref c1]) = H5 at e5 gU ⊢
      have L5 := L4.same e5
      have Ua := L5.s.tup gU
      refine ⟨U, rfl, ⟨_, SqT.of gU⟩, ?_⟩
      refine for_it walk_tup (fun k σ Hc => (∃ x9 x10 x11 x12 x13 x14 x15 x16 x19, σ = [some (.ref p), some (.int (0 + (i : Int))), some (.ref a), some (.int l), some (.int m), some (.ref t), some (.ref x), some (.ref c1), some (.ref c2), x9, x10, x11, x12, x13, x14, x15, x16, none, none, x19]) ∧ Kept a H5 Hc ∧ Spr Hc a (n0 + 3300 * k)) ⟨⟨_, _, _, _, _, _, _, _, _, rfl⟩, Kept.refl, L5.s⟩ (fun k σ Hd _ h => SqT.of (h.2.1 _ _ Ua gU)) ?_ ?_
      · rintro kc y σ He H'' hkc ⟨⟨z9, z10, z11, z12, z13, z14, z15, z16, z19, rfl⟩, b1, b2⟩ ⟨rfl, hy5⟩
        have hkc3 : kc < 3 := hkc
        have LE := L5.kept b1 b2
        obtain ⟨c, cq, es, rfl, clE⟩ : ∃ c cq es, y = .ref c ∧ ClAt a H'' c cq rs es := by
          have h1 := List.mem_of_getElem? hy5
          simp only [List.mem_cons, List.not_mem_nil, or_false] at h1
          rcases h1 with rfl | rfl | rfl
          · exact ⟨_, _, _, rfl, LE.k1⟩
          · exact ⟨_, _, _, rfl, LE.k2⟩
          · exact ⟨_, _, _, rfl, LE.k1⟩
        refine K1.gN ?_
        with_reducible refine sQ ?_
        refine for_run ?_
        refine ⟨_, rfl, _, rfl, c1, _, rfl, .inl (SqL.of LE.k1.h), _, _, rfl, rfl, rs.length + 1, by rw [List.length_map, lcq1]; rfl, by omega, fun q hq => ?_⟩
        have e6 := K1.Same.upd (H := H'') (p := q) (o := .lst ((List.range (rs.length + 1)).map fun i : Nat => V.int (i : Int))) hq
        have gq := upd_same' H'' q (.lst ((List.range (rs.length + 1)).map fun i : Nat => V.int (i : Int)))
        have qa := LE.s.ne hq
        generalize L2.upd H'' q (.lst ((List.range (rs.length + 1)).map fun i : Nat => V.int (i : Int))) = H6 at e6 gq ⊢
        have L6 := LE.same e6
        have lrg : ((List.range (rs.length + 1)).map fun i : Nat => V.int (i : Int)).length = rs.length + 1 := by rw [List.length_map, List.length_range]
        refine ⟨a, q, _, _, rfl, L6.s, by omega, gq, qa, by omega, fun r1 ym H7 pm7 nr7 r7a gr7 k7 s7 => ?_⟩
        refine ⟨3, rfl, r1, _, rfl, SqL.of gr7, fun c3 hc3 => ?_⟩
        have ce : cutV ym none (some 3) = ym.take 3 := cut_to ym 3
        rw [ce]
        have e8 := K1.Same.upd (H := H7) (p := c3) (o := .lst (ym.take 3)) hc3
        have g8 := upd_same' H7 c3 (.lst (ym.take 3))
        have c3a := s7.ne hc3
        generalize L2.upd H7 c3 (.lst (ym.take 3)) = H8 at e8 g8 ⊢
        have L8 := (L6.kept k7 s7).same e8
        have k58 : Kept a H5 H8 := b1.trans ((Kept.same e6).trans (k7.trans (Kept.same e8)))
        have clE8 : ClAt a H8 c cq rs es := ((clE.kept LE.s (Kept.same e6)).kept L6.s k7).kept s7 (Kept.same e8)
        have lym : (ym.take 3).length ≤ 3 := by rw [List.length_take]; omega
        generalize hn1 : n0 + 3300 * kc + ((List.range (rs.length + 1)).map fun i : Nat => V.int (i : Int)).length = n1 at L8
        have hn1' : n1 = n0 + 3300 * kc + rs.length + 1 := by omega
        refine ⟨c3, rfl, ⟨_, SqL.of g8⟩, ?_⟩
        refine for_it walk_list (fun j σ Hc => (∃ x10 x11 x12 x13 x14 x15 x16 x19, σ = [some (.ref p), some (.int (0 + (i : Int))), some (.ref a), some (.int l), some (.int m), some (.ref t), some (.ref x), some (.ref c1), some (.ref c2), some (.ref c), x10, x11, x12, x13, x14, x15, x16, none, none, x19]) ∧ Kept a H8 Hc ∧ Spr Hc a (n1 + 500 * j)) ⟨⟨_, _, _, _, _, _, _, _, rfl⟩, Kept.refl, L8.s⟩ (fun j σ Hd _ h => SqL.of (h.2.1 _ _ c3a g8)) ?_ ?_
        · rintro j y σ Hf H9 hj ⟨⟨z10, z11, z12, z13, z14, z15, z16, z19, rfl⟩, d1, d2⟩ ⟨rfl, hy9⟩
          obtain ⟨mm, hmm, rfl⟩ : ∃ mm : Nat, mm ≤ rs.length ∧ y = .int (mm : Int) := by
            have h1 := pm7.mem_iff.mp (List.mem_of_mem_take (List.mem_of_getElem? hy9))
            obtain ⟨mm, h2, rfl⟩ := List.mem_map.mp h1
            exact ⟨mm, by have := List.mem_range.mp h2; omega, rfl⟩
          have L9 := L8.kept d1 d2
          refine K1.gN ?_
          refine ⟨_, rfl, _, rfl, _, rfl, _, rfl, _, rfl, a, x, t, p1, p2, p3, c, qs, cq, ss, rs, es, nss, mm, _, rfl, L9.s, by omega, L9.iv, L9.va, okA, clE8.kept L8.s d1, hmm, fun H10 k10 s10 => ⟨_, rfl, iteF ⟨⟨_, _, _, _, _, _, _, _, rfl⟩, d1.trans k10, s10.mono (by omega)⟩⟩⟩
        rintro σ Hf ⟨⟨z10, z11, z12, z13, z14, z15, z16, z19, rfl⟩, d1, d2⟩
        have L9 := (L8.kept d1 d2)
        have L10 : LawS C a T t p1 p2 p3 x c1 c2 qs cq1 cq2 ss rs es1 es2 nss Hf (n1 + 1500) := ⟨L9.s.mono (by omega), L9.tb, L9.va, L9.iv, L9.k1, L9.k2⟩
        have clE9 := clE8.kept L8.s d1
        have k59 := k58.trans d1
        clear d1 d2 clE8 L8 L9 k58 s7 k7 LE L6 clE b1 b2
        with_reducible refine for_run ?_
        refine ⟨_, rfl, t, _, _, _, rfl, rfl, SqT.of L10.va.t0, (rfl : atI [V.ref p1, V.ref p2, V.ref p3] 0 = some (.ref p1)), p1, _, rfl, .inl (SqL.of L10.va.h1), _, _, rfl, rfl, _, rfl, ?_⟩
        refine if_cut (A := tC (.int 3) _ _) (B := tC (.int 0) _ _) (fun v H' => H' = Hf ∧ ∃ j : Nat, v = .int (j : Int) ∧ j ≤ 3 ∧ (0 < j → 1 < ss.length)) (fun cd Q' q' => ?_) (fun cd Q' q' => ?_) fun v HL hL => ?_
        · exact q' _ _ ⟨rfl, 3, rfl, by decide, fun _ => by
            have h1 := of_decide_eq_true cd
            rw [List.length_map] at h1
            omega⟩
        · exact q' _ _ ⟨rfl, 0, rfl, by decide, fun h => absurd h (by decide)⟩
        obtain ⟨rfl, jj, rfl, hj3, hj1⟩ := hL
        refine ⟨(jj : Int), rfl, by omega, by omega, ?_⟩
        refine for_range (lo := 0) (fun j σ Hc => (∃ x10 x11 x12 x13 x14 x15 x16 x19, σ = [some (.ref p), some (.int (0 + (i : Int))), some (.ref a), some (.int l), some (.int m), some (.ref t), some (.ref x), some (.ref c1), some (.ref c2), some (.ref c), x10, x11, x12, x13, x14, x15, x16, none, none, x19]) ∧ Kept a HL Hc ∧ Spr Hc a (n1 + 1500 + 560 * j)) ⟨⟨_, _, _, _, _, _, _, _, rfl⟩, Kept.refl, L10.s⟩ ?_ ?_
        · rintro j σ Hf hj ⟨⟨z10, z11, z12, z13, z14, z15, z16, z19, rfl⟩, d1, d2⟩
          have hj' : j < jj := by omega
          have two2 := hj1 (by omega)
          have L11 := L10.kept d1 d2
          refine K1.gN ?_
          with_reducible refine sQ ?_
          refine asg_run ?_
          have lms : (ss.map V.str).length = ss.length := List.length_map ..
          refine ⟨_, rfl, _, rfl, t, _, _, _, rfl, rfl, SqT.of L11.va.t0, (rfl : atI [V.ref p1, V.ref p2, V.ref p3] 0 = some (.ref p1)), a, p1, ss.map V.str, _, rfl, L11.s, by omega, L11.va.h1, L11.va.n1, by omega, fun r3 yh H12 pm nr3 n3 gr3 k12 s12 => ?_⟩
          refine ⟨2, rfl, r3, _, rfl, SqL.of gr3, fun c4 hc4 => ?_⟩
          have ce : cutV yh none (some 2) = yh.take 2 := cut_to yh 2
          rw [ce]
          have ndy : yh.Nodup := pm.nodup_iff.mpr (List.Pairwise.map _ (fun {a b} (h : a ≠ b) => fun z => h (V.str.inj z)) okA.good.1)
          obtain ⟨u1, u2, ur, eu, et⟩ := take_two (xs := yh) (by rw [pm.length_eq]; omega)
          rw [et]
          have e13 := K1.Same.upd (H := H12) (p := c4) (o := .lst [u1, u2]) hc4
          have g13 := upd_same' H12 c4 (.lst [u1, u2])
          generalize L2.upd H12 c4 (.lst [u1, u2]) = H13 at e13 g13 ⊢
          have L13 := (L11.kept k12 s12).same e13
          have k13 := d1.trans (k12.trans (Kept.same e13))
          obtain ⟨s, hs, rfl⟩ : ∃ s, s ∈ ss ∧ V.str s = u1 := List.mem_map.mp (pm.mem_iff.mp (by rw [eu]; simp))
          obtain ⟨u, hu, rfl⟩ : ∃ s, s ∈ ss ∧ V.str s = u2 := List.mem_map.mp (pm.mem_iff.mp (by rw [eu]; simp))
          have su : s ≠ u := fun z => by
            rw [eu, z] at ndy
            simp at ndy
          refine ⟨c4, _, rfl, SqL.of g13, rfl, _, _, rfl, K1.gN ⟨_, _, rfl, K1.gN ⟨rfl, ?_⟩⟩⟩
          refine ⟨_, rfl, _, rfl, _, rfl, _, rfl, _, rfl, _, rfl, a, x, t, p1, p2, p3, c, qs, cq, ss, rs, es, nss, s, u, _, rfl, L13.s, by omega, L13.iv, L13.va, okA, clE9.kept L10.s k13, hs, hu, su, fun H14 k14 s14 => ⟨_, rfl, iteF ⟨⟨_, _, _, _, _, _, _, _, rfl⟩, k13.trans k14, s14.mono (by omega)⟩⟩⟩
        rintro σ Hf ⟨⟨z10, z11, z12, z13, z14, z15, z16, z19, rfl⟩, d1, d2⟩
        exact ⟨⟨_, _, _, _, _, _, _, _, _, rfl⟩, k59.trans d1, d2.mono (by omega)⟩
      rintro σ He ⟨⟨z9, z10, z11, z12, z13, z14, z15, z16, z19, rfl⟩, b1, b2⟩
      have LE := L5.kept b1 b2
      with_reducible refine sQ ?_
      have sE : Spr He a (n0 + 9900) := b2.mono (Nat.le_refl _)
      have LE := L5.kept b1 sE
      have tr := okA.tree
      have ss5 : ss.length ≤ 500 := by omega
      have frs := okA.cut.forest
      refine asg_run ?_
      refine ⟨_, rfl, c1, _, rfl, .inl (SqL.of LE.k1.h), fun hd hhd => ?_⟩
      have e6 := K1.Same.upd (H := He) (p := hd) (o := .lst (cq1.map V.ref)) hhd
      have ghd := upd_same' He hd (.lst (cq1.map V.ref))
      have hda := sE.ne hhd
      generalize L2.upd He hd (.lst (cq1.map V.ref)) = H6 at e6 ghd ⊢
      have L6 := LE.same e6
      have lms : (ss.map V.str).length = ss.length := List.length_map ..
      refine ⟨_, rfl, _, rfl, t, _, _, _, rfl, rfl, SqT.of L6.va.t0, (rfl : atI [V.ref p1, V.ref p2, V.ref p3] 0 = some (.ref p1)), a, p1, ss.map V.str, _, rfl, L6.s, by omega, L6.va.h1, L6.va.n1, (fun z => by rw [z] at lms; have := okA.pos; simp at lms; omega), by omega, fun hv H7 hmem k7 s7 => ?_⟩
      obtain ⟨s, hs, rfl⟩ := List.mem_map.mp hmem
      have L7 := L6.kept k7 s7
      refine ⟨_, rfl, _, rfl, c1, _, rfl, .inl (SqL.of L7.k1.h), _, _, rfl, rfl, a, _, _, rfl, s7, by omega, by omega, by rw [List.length_map]; exact Nat.lt_of_lt_of_le (show ((cq1.length : Int) + 1).natAbs < 1000 by omega) (by decide), fun dm H8 dm0 dm1 k8 s8 => ?_⟩
      obtain ⟨m', rfl⟩ : ∃ m' : Nat, dm = (m' : Int) := ⟨dm.toNat, by omega⟩
      have hm' : m' ≤ rs.length := by rw [List.length_map] at dm1; omega
      have L8 := L7.kept k8 s8
      refine ⟨(by show 3 ≤ sizeLine; decide), fun T3 hT3 => ?_⟩
      have e9 := K1.Same.upd (H := H8) (p := T3) (o := .tup [.ref hd, .str s, .int (m' : Int)]) hT3
      have g9 := upd_same' H8 T3 (.tup [.ref hd, .str s, .int (m' : Int)])
      generalize L2.upd H8 T3 (.tup [.ref hd, .str s, .int (m' : Int)]) = H9 at e9 g9 ⊢
      have L9 := L8.same e9
      have ghd9 : H9 hd = some (.lst (cq1.map V.ref)) := e9 _ _ (k8 _ _ hda (k7 _ _ hda ghd))
      have clh : ClAt a H9 hd cq1 rs es1 := ⟨ghd9, hda, L9.k1.pr, L9.k1.perm⟩
      have k59 : Kept a H5 H9 := b1.trans ((Kept.same e6).trans (k7.trans (k8.trans (Kept.same e9))))
      refine ⟨T3, _, rfl, SqT.of g9, rfl, _, _, rfl, K1.gN ⟨_, _, rfl, K1.gN ⟨_, _, rfl, K1.gN ⟨rfl, ?_⟩⟩⟩⟩
      with_reducible refine sQ ?_
      have eo1 : esOf rs ((jsOf rs es1).drop m') = es1.drop m' := esOf_at (paired_drop m' (L9.k1.at_ frs).1)
      have eo2 : esOf rs ((jsOf rs es2).drop m') = es2.drop m' := esOf_at (paired_drop m' (L9.k2.at_ frs).1)
      refine ⟨_, rfl, _, rfl, _, rfl, _, rfl, x, .ref hd, .str s, .int (m' : Int), ss, rs, nss, rfl, L9.iv.is, tr, ss5, .inr ⟨jsOf rs es1, clh.ev frs (by omega), .inr ⟨s, rfl, hs, .inr ⟨m', rfl, hm', fun r5 H10 e10 nr5 gr5 => ?_⟩⟩⟩⟩
      rw [eo1] at gr5
      refine ⟨(by show 1 ≤ sizeLine; decide), fun Fd hFd => ?_⟩
      have e11 := K1.Same.upd (H := H10) (p := Fd) (o := .lst [.ref r5]) hFd
      have gF := upd_same' H10 Fd (.lst [.ref r5])
      generalize L2.upd H10 Fd (.lst [.ref r5]) = H11 at e11 gF ⊢
      have e911 := e10.trans e11
      have L11 := L9.same e911
      have ghd11 := e911 _ _ ghd9
      have gr11 := e11 _ _ gr5
      refine K1.gN ?_
      with_reducible refine sQ ?_
      have c2h : c2 ≠ hd := ne_of_none' LE.k2.h hhd
      refine ⟨_, rfl, .inl ⟨rfl, _, SqL.of gF⟩, ?_⟩
      refine ⟨_, rfl, _, rfl, _, rfl, hd, c2, _, cq2.map V.ref, rfl, ghd11, L11.k2.h, c2h.symm, by rw [List.length_map]; omega, fun H12 kp12 g12 => ?_⟩
      have bh : ∀ {b : Addr} {o : HO}, b ≠ a → H5 b = some o → b ≠ hd := fun nb h => ne_of_none' (b1 _ _ nb h) hhd
      have k512 : Kept a H5 H12 := fun b o nb h => kp12 b o (bh nb h) (e911 _ _ (k59 b o nb h))
      have s12 := L11.s.keptx hda.symm kp12
      have L12 := L5.kept k512 s12
      have clh2 : ClAt a H12 hd cq2 rs es2 := ⟨g12, hda, L12.k2.pr, L12.k2.perm⟩
      refine ⟨_, rfl, _, rfl, x, .ref hd, .str s, .int (m' : Int), ss, rs, nss, rfl, L12.iv.is, tr, ss5, .inr ⟨jsOf rs es2, clh2.ev frs (by omega), .inr ⟨s, rfl, hs, .inr ⟨m', rfl, hm', fun r6 H13 e13 nr6 gr6 => ?_⟩⟩⟩⟩
      rw [eo2] at gr6
      have Fhd : Fd ≠ hd := (ne_of_none' (e10 _ _ ghd9) hFd).symm
      have r5hd : r5 ≠ hd := (ne_of_none' ghd9 nr5).symm
      have r5F : r5 ≠ Fd := ne_of_none' gr5 hFd
      have Fa : Fd ≠ a := (L9.same e10).s.ne hFd
      have gF12 := kp12 _ _ Fhd gF
      have gF13 := e13 _ _ gF12
      have r6F : r6 ≠ Fd := (ne_of_none' gF12 nr6).symm
      have gr5' := e13 _ _ (kp12 _ _ r5hd gr11)
      refine ⟨Fd, _, _, rfl, rfl, gF13, small1000 (by show 1 ≤ 1000; decide), ?_⟩
      have g14 : L2.upd H13 Fd (.lst ([.ref r5] ++ [.ref r6])) Fd = some (.lst [.ref r5, .ref r6]) := upd_same
      have m14 : ∀ b, b ≠ Fd → L2.upd H13 Fd (.lst ([.ref r5] ++ [.ref r6])) b = H13 b := fun b n => upd_ne n
      have s14 := (s12.same e13).upd (o := .lst ([.ref r5] ++ [.ref r6])) Fa
      generalize L2.upd H13 Fd (.lst ([.ref r5] ++ [.ref r6])) = H14 at g14 m14 s14 ⊢
      have k514 : Kept a H5 H14 := fun b o nb h => by
        have bF : b ≠ Fd := ne_of_none' (e10 _ _ (k59 b o nb h)) hFd
        rw [m14 b bF]
        exact e13 _ _ (k512 b o nb h)
      have L14 := L5.kept k514 s14
      have q5 : H14 r5 = some (.lst ((comp ss (es1.drop m') s).map V.str)) := by rw [m14 _ r5F]; exact gr5'
      have q6 : H14 r6 = some (.lst ((comp ss (es2.drop m') s).map V.str)) := by rw [m14 _ r6F]; exact gr6
      with_reducible refine sQ ?_
      refine asg_run ?_
      refine ⟨_, rfl, _, rfl, (by show 2 ≤ sizeLine; decide), fun T4 hT4 => ?_⟩
      have e15 := K1.Same.upd (H := H14) (p := T4) (o := .tup [.ref c1, .ref c2]) hT4
      have g15 := upd_same' H14 T4 (.tup [.ref c1, .ref c2])
      generalize L2.upd H14 T4 (.tup [.ref c1, .ref c2]) = H15 at e15 g15 ⊢
      have L15 := L14.same e15
      refine ⟨T4, rfl, ⟨_, SqT.of g15⟩, fun D hD => ?_⟩
      refine lc_it (Qd := _) walk_tup (fun j Hd => Same H15 Hd ∧ ∃ us : List Addr, Hd D = some (.lst (us.map V.ref)) ∧ Paired (fun (u : Addr) (es : List (Str × Str)) => u ≠ D ∧ Hd u = some (.lst ((comp ss (es.drop m') s).map V.str))) us ([es1, es2].take j)) ⟨K1.Same.upd hD, [], upd_same, .nil⟩ (fun j Hd _ h => SqT.of (h.1 _ _ g15)) ?_ ?_
      · rintro j v Hg H'' hj ⟨h1, us, h2, h3⟩ ⟨rfl, hv5⟩
        have L16 := L15.same h1
        refine ⟨rfl, ?_⟩
        unfold tYes
        refine iteT ?_
        obtain rfl | rfl : j = 0 ∨ j = 1 := by
          have : j < 2 := hj
          omega
        · cases hv5
          refine lot_of L16.va.t0 L16.va.h1 L16.k1.h L16.k1.pr okA.good.1 le60 (L16.k1.ends okA.ends) ((okA.cut.perm L16.k1.perm).drop m').forest (by rw [L16.k1.perm.length_eq]; omega) hs fun l1' H16 e16 nl gl => ?_
          have lD : l1' ≠ D := (ne_of_none' h2 nl).symm
          refine ⟨_, e16 _ _ h2, by rw [List.length_map, h3.length]; exact small1000 (by simp), ps_same_upd (h1.trans e16) hD, us ++ [l1'], by rw [upd_same, List.map_append]; rfl, ?_⟩
          exact paired_snoc (paired_imp (fun u es h => ⟨h.1, by rw [upd_ne h.1]; exact e16 _ _ h.2⟩) h3) ⟨lD, by rw [upd_ne lD]; exact gl⟩
        · cases hv5
          refine lot_of L16.va.t0 L16.va.h1 L16.k2.h L16.k2.pr okA.good.1 le60 (L16.k2.ends okA.ends) ((okA.cut.perm L16.k2.perm).drop m').forest (by rw [L16.k2.perm.length_eq]; omega) hs fun l1' H16 e16 nl gl => ?_
          have lD : l1' ≠ D := (ne_of_none' h2 nl).symm
          refine ⟨_, e16 _ _ h2, by rw [List.length_map, h3.length]; exact small1000 (by simp), ps_same_upd (h1.trans e16) hD, us ++ [l1'], by rw [upd_same, List.map_append]; rfl, ?_⟩
          exact paired_snoc (paired_imp (fun u es h => ⟨h.1, by rw [upd_ne h.1]; exact e16 _ _ h.2⟩) h3) ⟨lD, by rw [upd_ne lD]; exact gl⟩
      rintro Hg ⟨h1, us, h2, h3⟩
      obtain ⟨u1, u2, rfl, gu1, gu2⟩ : ∃ u1 u2, us = [u1, u2] ∧ Hg u1 = some (.lst ((comp ss (es1.drop m') s).map V.str)) ∧ Hg u2 = some (.lst ((comp ss (es2.drop m') s).map V.str)) := by
        have h4 : Paired (fun (u : Addr) (es : List (Str × Str)) => u ≠ D ∧ Hg u = some (.lst ((comp ss (es.drop m') s).map V.str))) us [es1, es2] := h3
        cases h4 with
        | cons a1 r => cases r with
        | cons a2 r => cases r with
        | nil => exact ⟨_, _, rfl, a1.2, a2.2⟩
      have e14g : Same H14 Hg := e15.trans h1
      refine K1.gN ?_
      with_reducible refine sQ ?_
      have lcm : ∀ es : List (Str × Str), ((comp ss es s).map V.str).length ≤ 100 := fun es => by rw [List.length_map]; exact Nat.le_trans comp_len (by omega)
      refine ⟨_, rfl, _, rfl, _, _, rfl, show RF 3 Hg (.ref Fd) (.ref D) from r_lists (R := RF 2) (e14g _ _ g14) h2 (by show 2 ≤ 100; decide) (.cons (r_lists (R := RF 1) (e14g _ _ q5) gu1 (lcm _) (r_strs (R := RF 0) _)) (.cons (r_lists (R := RF 1) (e14g _ _ q6) gu2 (lcm _) (r_strs (R := RF 0) _)) .nil)), fun H17 e17 => ⟨_, rfl, iteF ?_⟩⟩
      refine nQ ?_
      have L17 := L14.same (e14g.trans e17)
      have x17 : ExtA a H2 H17 := x4.trans ((ExtA.of (Kept.same e5)).trans (ExtA.of (k514.trans (Kept.same (e14g.trans e17)))))
      refine ⟨_, rfl, _, _, rfl, rfl, _, rfl, ?_⟩
      by_cases hl13 : l < 13
      · refine ite2 (fun _ => ?_) (fun hn => absurd (decide_eq_true hl13) hn)
        refine ⟨_, rfl, _, rfl, _, rfl, _, rfl, a, x, t, p1, p2, p3, c1, qs, cq1, ss, rs, es1, nss, _, rfl, L17.s, by omega, L17.iv, L17.va, okA, L17.k1, L17.tb, fun HZ gZ sZ tZ => ⟨_, rfl, iteF ⟨⟨_, _, _, _, _, _, _, _, _, _, _, _, _, _, _, rfl⟩, x17.trans gZ, sZ.mono (by omega), tZ⟩⟩⟩
      · refine ite2 (fun hy => absurd (of_decide_eq_true hy) hl13) (fun _ => ?_)
        exact iteF ⟨⟨_, _, _, _, _, _, _, _, _, _, _, _, _, _, _, rfl⟩, x17, L17.s.mono (by omega), L17.tb⟩
    · rintro σ Hd ⟨⟨y3, y4, y5, y6, y7, y8, y9, y10, y11, y12, y13, y14, y15, y16, y19, rfl⟩, f1, f2, f3⟩
      exact ⟨⟨_, _, _, _, _, _, _, _, _, _, _, _, _, _, _, _, _, rfl⟩, fun b o h nt => f1 b o (ne_of_none' (g1 b o h nt) na) (e2 _ _ (e1 _ _ (g1 b o h nt))) nt, f3⟩
  · rintro σ Hc ⟨⟨x1, x2, x3, x4, x5, x6, x7, x8, x9, x10, x11, x12, x13, x14, x15, x16, x19, rfl⟩, g1, g2⟩
    exact q Hc
end
end K1
end
-- WEndG
section
set_option Elab.async false
set_option linter.all false
set_option maxRecDepth 100000
set_option maxHeartbeats 2000000
/-! the end of a law that shows (promise Wr.FnG), with one table of lambdas -/
namespace Wr
open PySem PySem.Spec PyProof.Rows L2 LamX
/-- at the law's own call: the table is empty, the script is a list of the head (fixed) or the call's own (tracked, frozen) -/
noncomputable def H1 (K : PySem.W.Frag) (T a : Addr) (us : List Value) (zs : List Int) : Hp := fun b =>
  if b = T then some (.tbl #[]) else if b = a ∧ K.lookup a = none then some (.frz { cls := .type "list", data := .seq us.toArray } (.lst (zs.map V.int))) else none
section
variable {K : PySem.W.Frag} {T a : Addr} {us : List Value} {zs : List Int}
theorem H1_T : H1 K T a us zs T = some (.tbl #[]) := if_pos rfl
theorem H1_a (n : a ≠ T) (l : K.lookup a = none) : H1 K T a us zs a = some (.frz { cls := .type "list", data := .seq us.toArray } (.lst (zs.map V.int))) := (if_neg n).trans (if_pos ⟨rfl, l⟩)
theorem H1_any {b : Addr} {o : HO} (h : H1 K T a us zs b = some o) : (b = T ∧ o = .tbl #[]) ∨ (b = a ∧ b ≠ T ∧ K.lookup a = none ∧ o = .frz { cls := .type "list", data := .seq us.toArray } (.lst (zs.map V.int))) := by
  unfold H1 at h
  by_cases c : b = T
  · rw [if_pos c] at h
    exact .inl ⟨c, (Option.some.inj h).symm⟩
  · rw [if_neg c] at h
    by_cases d : b = a ∧ K.lookup a = none
    · rw [if_pos d] at h
      exact .inr ⟨d.1, c, d.2, (Option.some.inj h).symm⟩
    · rw [if_neg d] at h
      cases h
end
theorem end_call {P : Program} {w : World} {K : PySem.W.Frag} {mg mb : Str → Option Value} {CX : CXT} {k : Nat} {fa a c T : Addr} {fd : FuncData} {x : Str} {sp : Sp} {s : Shared} {us : List Value} {zs : List Int}
    (kin : K.In s.heap) (nsG : s.heap.Ns mainGlobals mg) (nsB : s.heap.Ns builtinsNs mb) (mbB : ∀ x : Str, x ≠ "__name__" → mb x = bootBuiltins x) (lim : s.heap.NoLimit) (gens : s.gens = #[])
    (gT : s.heap.get? T = some { cls := .none, data := .fields #[] }) (lT : K.lookup T = none) (cT : PySem.W.CodeHd s.heap c T)
    (mod : ∃ (bm : Addr) (ob : Obj), mg "__builtins__" = some (.ref bm) ∧ bm ≠ builtinsNs ∧ s.heap.get? bm = some ob ∧ ob.cls = .type "module" ∧ ob.dict = some builtinsNs ∧ ob.data = .plain)
    (gA : s.heap.get? a = some { cls := .type "list", data := .seq us.toArray }) (isI : IntsAre us zs) (lz : zs.length ≤ sizeLine) (room : Room k callerA)
    (F : ∀ base : Heap, K.In base → base.Ns mainGlobals mg → TabB base mg c T → FnG P w K mg base CX k fa fd [x] sp) (bnd : ∀ (s : Shared) (u : Value), BindsTo s fd ⟨[u], []⟩ [(x, u)])
    (pre : ∀ H : Hp, H T = some (.tbl #[]) → SqL K H a (zs.map V.int) → sp [.ref a] H (fun v _ => v = .bl true) fun _ _ _ => False) (noX : ∀ H e s', CX [] H s (fun _ _ _ => False) e s' → False) :
    codeAny (model P w) callerA (.call (.ref fa) ⟨[.ref a], []⟩) (fun r t => r = .ok (.ret (.bool true)) ∧ OldK s.heap t.heap ∧ t.os = s.os ∧ AllBare t.gens) s := by
  have cT0 := cT
  have aT : a ≠ T := fun z => by
    rw [z, gT] at gA
    cases (congrArg Obj.data (Option.some.inj gA) : Data.fields #[] = Data.seq us.toArray 0)
  have vals := vals_ints isI
  have lu := isI.length
  generalize hH : H1 K T a us zs = H
  have HT : H T = some (.tbl #[]) := by rw [← hH]; exact H1_T
  have any : ∀ {b : Addr} {o : HO}, H b = some o → (b = T ∧ o = .tbl #[]) ∨ (b = a ∧ b ≠ T ∧ K.lookup a = none ∧ o = .frz { cls := .type "list", data := .seq us.toArray } (.lst (zs.map V.int))) := fun h => by
    rw [← hH] at h
    exact H1_any h
  have script : SqL K H a (zs.map V.int) := by
    cases hk : K.lookup a with
    | none => exact .inl (.inr ⟨_, by rw [← hH]; exact H1_a aT hk⟩)
    | some o =>
      have e := (kin a o hk).symm.trans gA
      cases e
      exact .inr ⟨_, us.toArray, _, hk, rfl, rfl, rfl, by rw [List.size_toArray, lu]; exact lz, by simpa using vals⟩
  have good : HOk P w H s.heap := fun b u h => by
    rcases any h with ⟨rfl, rfl⟩ | ⟨rfl, _, _, rfl⟩
    · exact gT
    · exact ⟨gA, by rw [List.length_map]; exact lz, us, _, vals, gA⟩
  -- what is neither the table nor a list is untracked
  have off : ∀ {b : Addr} {o : Obj}, s.heap.get? b = some o → o.data ≠ .fields #[] → (∀ vs n, o.data ≠ .seq vs n) → H b = none := fun {b o} e n1 n2 => by
    cases q : H b with
    | none => rfl
    | some u =>
      rcases any q with ⟨rfl, _⟩ | ⟨rfl, _, _, _⟩
      · exact absurd (congrArg Obj.data (Option.some.inj (e.symm.trans gT))) n1
      · exact absurd (congrArg Obj.data (Option.some.inj (e.symm.trans gA))) (n2 _ _)
  have keepD : ∀ {b : Addr} {m : Str → Option Value}, s.heap.Ns b m → (hidT s.heap H).Ns b m := fun {b m} ⟨o, es, ep, e, d, r⟩ =>
    ⟨o, es, ep, hidT_get e (off e (fun z => by rw [d] at z; cases z) fun _ _ z => by rw [d] at z; cases z), d, r⟩
  have kinB : K.In (hidT s.heap H) := fun b o e => hidT_get (kin b o e) (by
    cases q : H b with
    | none => rfl
    | some u =>
      rcases any q with ⟨rfl, _⟩ | ⟨rfl, _, l, _⟩
      · rw [lT] at e
        cases e
      · rw [l] at e
        cases e)
  have modl : L2.Mod K mg (hidT s.heap H) := by
    obtain ⟨mc, k1, k2⟩ := lim
    exact ⟨kinB, keepD nsG, ⟨mb, keepD nsB, mbB⟩, mc, keepD k1, k2⟩
  have tab : TabB (hidT s.heap H) mg c T := by
    obtain ⟨og, eg, ep, geg, dg, _⟩ := nsG
    obtain ⟨o, vs, fi, tf, fl, tg, iF, tx, tt, w1, w2, w3, w4, w5, w6, w7, w8, w9, w10⟩ := cT
    obtain ⟨bm, ob, v1, v2, v3, v4, v5, v6⟩ := mod
    refine ⟨⟨o, vs, fi, tf, fl, tg, iF, tx, tt, hidT_get w1 (off w1 (fun z => ?_) fun _ _ z => ?_), w2, w3, w4, w5, w6, w7, w8, w9, w10⟩, ⟨bm, ob, v1, v2, fun z => ?_, fun z => ?_, hidT_get v3 (off v3 (fun z => ?_) fun _ _ z => ?_), v4, v5, v6⟩, fun z => ?_⟩
    · obtain rfl := Data.fields.inj (w3.symm.trans z)
      simp at w4
    · cases w3.symm.trans z
    · rw [z] at v3
      obtain rfl := Option.some.inj (v3.symm.trans geg)
      rw [v6] at dg
      cases dg
    · rw [z] at v3
      obtain rfl := Option.some.inj (v3.symm.trans gT)
      cases v6
    · rw [v6] at z
      cases z
    · rw [v6] at z
      cases z
    · rw [z] at geg
      obtain rfl := Option.some.inj (geg.symm.trans gT)
      cases dg
  have env : Env0 P w K mg (hidT s.heap H) callerA [] s H := ⟨rfl, modl, fun b o e => of_hidT e, Nat.le_of_eq (hidT_size _ _), trivial, fun b hb => (nomatch (show b ∈ ([] : List Addr) from hb)), good, .of_eq gens⟩
  have run := (F _ kinB (keepD nsG) tab).go callerA [] s H ⟨[.ref a], []⟩ [.ref a] [.ref a] _ _ rfl room env (bnd s (.ref a)) (.cons rfl .nil) (pre H HT script)
  refine codeAny_mono run fun r t h => ?_
  match r, h with
  | .error e, h => exact (noX H e t h).elim
  | .ok .next, h => exact h.elim
  | .ok .brk, h => exact h.elim
  | .ok .cont, h => exact h.elim
  | .ok (.ret u), ⟨v, H2, os, bare, un, good2, rel, tr⟩ =>
    obtain rfl : v = .bl true := tr
    obtain rfl : u = Value.bool true := rel
    obtain ⟨more, mT⟩ := un.tbls T #[] HT
    have gT2 : t.heap.get? T = some { cls := .none, data := .fields (#[] ++ more) } := good2 T _ mT
    have same : ∀ b o, b ≠ T → s.heap.get? b = some o → t.heap.get? b = some o := fun b o bT e => by
      cases q : H b with
      | none => exact un.keep b o e q (fun z => nomatch (show b ∈ ([] : List Addr) from z)) (by simp)
      | some u =>
        rcases any q with ⟨z, _⟩ | ⟨rfl, _, _, rfl⟩
        · exact absurd z bT
        · obtain ⟨e2, _⟩ := good2 b _ (un.frzs b _ _ q)
          rw [gA] at e
          rw [← e]
          exact e2
    refine ⟨rfl, ⟨fun d u e => ?_, fun d u e => ?_⟩, os, bare⟩
    · by_cases bT : d = T
      · subst bT
        obtain rfl := Option.some.inj (e.symm.trans gT)
        exact .inr (.inl ⟨(cT0.tab gT).isCodeTable, rfl, #[], more, rfl, gT2⟩)
      · exact .inl (same d u bT e)
    · by_cases bT : d = T
      · subst bT
        exact ⟨_, gT2⟩
      · exact ⟨u, same d u bT e⟩
/-- what is to be shown of a law with one table of lambdas, at the head's heap -/
def LawG (l : PySem.W.OpenLaw) (w : World) (K : PySem.W.Frag) (CX : CXT) (k n : Nat) (x : Str) (mg : Str → Option Value) (fa : Addr) (h : Heap) : Prop :=
  ∃ (fd : FuncData) (c T : Addr) (sp : Sp), h.get? T = some { cls := .none, data := .fields #[] } ∧ K.lookup T = none ∧ PySem.W.CodeHd h c T ∧ (∀ (s : Shared) (u : Value), BindsTo s fd ⟨[u], []⟩ [(x, u)]) ∧
    (∀ (H : Hp) (a : Addr) (zs : List Int), zs.length ≤ n → H T = some (.tbl #[]) → SqL K H a (zs.map V.int) → sp [.ref a] H (fun v _ => v = .bl true) fun _ _ _ => False) ∧
    ∀ base : Heap, K.In base → base.Ns mainGlobals mg → TabB base mg c T → FnG l.prog w K mg base CX k fa fd [x] sp
theorem walk_G {l : PySem.W.OpenLaw} {n k : Nat} {q : Program} {loose : List Str} {XP : (Str → Option Value) → Heap → Prop} {YP : World → Heap → Prop} {d : DefRec} {K : Params → PySem.W.Frag} {CX : World → CXT} {x : Str}
    (mo : l.most = some n) (n1 : n ≤ sizeLine) (df : d.params.defaults = []) (room : Room k callerA) (yk : ∀ (w : World) (h : Heap), YP w h → (K w.params).In h)
    (at_ : ∀ (w : World) (mg : Str → Option Value) (fa : Addr) (h : Heap), YP w h → (K w.params).In h → h.Ns mainGlobals mg → mg d.name = some (.ref fa) → LawG l w (K w.params) (CX w) k n x mg fa h)
    (noX : ∀ (w : World) (H : Hp) (s : Shared) (e : Value) (t : Shared), CX w [] H s (fun _ _ _ => False) e t → False) : PySem.W.WalkO q loose XP YP l.row.toRowW d [] (fun f vs => PySem.call f vs) := by
  refine Att.attach_callB mo df fun w s₀ s mg mb fa o pm cd doc a us zs G Y ho hd hcd main obj isI len bits gens => ?_
  have kin := yk w _ Y
  obtain ⟨fd, c, T, sp, t1, t2, t3, bnd, pre, F⟩ := at_ w mg fa _ Y kin G.T.g main
  exact end_call kin G.T.g G.T.b G.T.builtins G.T.nolimit gens t1 t2 t3 G.T.bmain obj isI (Nat.le_trans len n1) room F bnd (fun H => pre H a zs len) fun H e t => noX w H s e t
end Wr
end
-- EEnd
section
set_option Elab.async false
set_option linter.all false
set_option maxRecDepth 100000
set_option maxHeartbeats 4000000
namespace K1
open PySem PySem.Spec PyProof.Rows L2 W0
theorem all_of_kit {K : PySem.W.Frag} {C : Addr} (h : ((kinds ++ ["function"]).all fun t => PySem.W.kitOne K (.type t) (.ref C) == some false) = true) : ∀ t ∈ kinds ++ ["function"], PySem.W.kitOne K (.type t) (.ref C) = some false := fun t ht => beq_iff_eq.mp (List.all_eq_true.mp h t ht)

theorem all_mk {l : PySem.W.OpenLaw} {w : World} {K : PySem.W.Frag} {h : Heap} {mg : Str → Option Value} {fa : Addr}
    {cd_isInt : Value}
    {f_isInt : Addr} {od_isInt an_isInt : Option Addr} {sl_isInt : Array (Option Value)} {oc_isInt kV_isInt dc_isInt pm_isInt ct_isInt : Value}
    {cd_num : Value}
    {f_num : Addr} {od_num an_num : Option Addr} {sl_num : Array (Option Value)} {oc_num kV_num dc_num pm_num ct_num : Value}
    {cd_fromOne : Value}
    {f_fromOne : Addr} {od_fromOne an_fromOne : Option Addr} {sl_fromOne : Array (Option Value)} {oc_fromOne kV_fromOne dc_fromOne pm_fromOne ct_fromOne : Value}
    {cd_isList : Value}
    {f_isList : Addr} {od_isList an_isList : Option Addr} {sl_isList : Array (Option Value)} {oc_isList kV_isList dc_isList pm_isList ct_isList : Value}
    {cd_isPair : Value}
    {f_isPair : Addr} {od_isPair an_isPair : Option Addr} {sl_isPair : Array (Option Value)} {oc_isPair kV_isPair dc_isPair pm_isPair ct_isPair : Value}
    {cd_isName : Value}
    {f_isName : Addr} {od_isName an_isName : Option Addr} {sl_isName : Array (Option Value)} {oc_isName kV_isName dc_isName pm_isName ct_isName : Value}
    {cd_draw : Value}
    {f_draw : Addr} {od_draw an_draw : Option Addr} {sl_draw : Array (Option Value)} {oc_draw kV_draw dc_draw pm_draw ct_draw : Value}
    {cd_pick : Value}
    {f_pick : Addr} {od_pick an_pick : Option Addr} {sl_pick : Array (Option Value)} {oc_pick kV_pick dc_pick pm_pick ct_pick : Value}
    {cd_mixed : Value}
    {f_mixed : Addr} {od_mixed an_mixed : Option Addr} {sl_mixed : Array (Option Value)} {oc_mixed kV_mixed dc_mixed pm_mixed ct_mixed : Value}
    {cd_ND : Value}
    {f_ND : Addr} {od_ND an_ND : Option Addr} {sl_ND : Array (Option Value)} {oc_ND kV_ND dc_ND pm_ND ct_ND : Value}
    {cd_NH : Value}
    {f_NH : Addr} {od_NH an_NH : Option Addr} {sl_NH : Array (Option Value)} {oc_NH kV_NH dc_NH pm_NH ct_NH : Value}
    {cd_NR : Value}
    {f_NR : Addr} {od_NR an_NR : Option Addr} {sl_NR : Array (Option Value)} {oc_NR kV_NR dc_NR pm_NR ct_NR : Value}
    {cd_keys : Value}
    {f_keys : Addr} {od_keys an_keys : Option Addr} {sl_keys : Array (Option Value)} {oc_keys kV_keys dc_keys pm_keys ct_keys : Value}
    {cd_lead : Value}
    {f_lead : Addr} {od_lead an_lead : Option Addr} {sl_lead : Array (Option Value)} {oc_lead kV_lead dc_lead pm_lead ct_lead : Value}
    {cd_BW : Value}
    {f_BW : Addr} {od_BW an_BW : Option Addr} {sl_BW : Array (Option Value)} {oc_BW kV_BW dc_BW pm_BW ct_BW : Value}
    {cd_NB : Value}
    {f_NB : Addr} {od_NB an_NB : Option Addr} {sl_NB : Array (Option Value)} {oc_NB kV_NB dc_NB pm_NB ct_NB : Value}
    {cd_Nv : Value}
    {f_Nv : Addr} {od_Nv an_Nv : Option Addr} {sl_Nv : Array (Option Value)} {oc_Nv kV_Nv dc_Nv pm_Nv ct_Nv : Value}
    {cd_Nm : Value}
    {f_Nm : Addr} {od_Nm an_Nm : Option Addr} {sl_Nm : Array (Option Value)} {oc_Nm kV_Nm dc_Nm pm_Nm ct_Nm : Value}
    {cd_Bg : Value}
    {f_Bg : Addr} {od_Bg an_Bg : Option Addr} {sl_Bg : Array (Option Value)} {oc_Bg kV_Bg dc_Bg pm_Bg ct_Bg : Value}
    {cd_Ep : Value}
    {f_Ep : Addr} {od_Ep an_Ep : Option Addr} {sl_Ep : Array (Option Value)} {oc_Ep kV_Ep dc_Ep pm_Ep ct_Ep : Value}
    {cd_Cg : Value}
    {f_Cg : Addr} {od_Cg an_Cg : Option Addr} {sl_Cg : Array (Option Value)} {oc_Cg kV_Cg dc_Cg pm_Cg ct_Cg : Value}
    {cd_Io : Value}
    {f_Io : Addr} {od_Io an_Io : Option Addr} {sl_Io : Array (Option Value)} {oc_Io kV_Io dc_Io pm_Io ct_Io : Value}
    {cd_Ju : Value}
    {f_Ju : Addr} {od_Ju an_Ju : Option Addr} {sl_Ju : Array (Option Value)} {oc_Ju kV_Ju dc_Ju pm_Ju ct_Ju : Value}
    {cd_Bt : Value}
    {f_Bt : Addr} {od_Bt an_Bt : Option Addr} {sl_Bt : Array (Option Value)} {oc_Bt kV_Bt dc_Bt pm_Bt ct_Bt : Value}
    {cd_Pb : Value}
    {f_Pb : Addr} {od_Pb an_Pb : Option Addr} {sl_Pb : Array (Option Value)} {oc_Pb kV_Pb dc_Pb pm_Pb ct_Pb : Value}
    {cd_Sj : Value}
    {f_Sj : Addr} {od_Sj an_Sj : Option Addr} {sl_Sj : Array (Option Value)} {oc_Sj kV_Sj dc_Sj pm_Sj ct_Sj : Value}
    {cd_spring : Value}
    {f_spring : Addr} {od_spring an_spring : Option Addr} {sl_spring : Array (Option Value)} {oc_spring kV_spring dc_spring pm_spring ct_spring : Value}
    {cd_VN : Value}
    {f_VN : Addr} {od_VN an_VN : Option Addr} {sl_VN : Array (Option Value)} {oc_VN kV_VN dc_VN pm_VN ct_VN : Value}
    {cd_VRo : Value}
    {f_VRo : Addr} {od_VRo an_VRo : Option Addr} {sl_VRo : Array (Option Value)} {oc_VRo kV_VRo dc_VRo pm_VRo ct_VRo : Value}
    {cd_VV : Value}
    {f_VV : Addr} {od_VV an_VV : Option Addr} {sl_VV : Array (Option Value)} {oc_VV kV_VV dc_VV pm_VV ct_VV : Value}
    {cd_lo : Value}
    {f_lo : Addr} {od_lo an_lo : Option Addr} {sl_lo : Array (Option Value)} {oc_lo kV_lo dc_lo pm_lo ct_lo : Value}
    {cd_VM : Value}
    {f_VM : Addr} {od_VM an_VM : Option Addr} {sl_VM : Array (Option Value)} {oc_VM kV_VM dc_VM pm_VM ct_VM : Value}
    {cd_sm : Value}
    {f_sm : Addr} {od_sm an_sm : Option Addr} {sl_sm : Array (Option Value)} {oc_sm kV_sm dc_sm pm_sm ct_sm : Value}
    {cd_met : Value}
    {f_met : Addr} {od_met an_met : Option Addr} {sl_met : Array (Option Value)} {oc_met kV_met dc_met pm_met ct_met : Value}
    {cd_Vn : Value}
    {f_Vn : Addr} {od_Vn an_Vn : Option Addr} {sl_Vn : Array (Option Value)} {oc_Vn kV_Vn dc_Vn pm_Vn ct_Vn : Value}
    {cd_Hd : Value}
    {f_Hd : Addr} {od_Hd an_Hd : Option Addr} {sl_Hd : Array (Option Value)} {oc_Hd kV_Hd dc_Hd pm_Hd ct_Hd : Value}
    {cd_Oe : Value}
    {f_Oe : Addr} {od_Oe an_Oe : Option Addr} {sl_Oe : Array (Option Value)} {oc_Oe kV_Oe dc_Oe pm_Oe ct_Oe : Value}
    {cd_Odd : Value}
    {f_Odd : Addr} {od_Odd an_Odd : Option Addr} {sl_Odd : Array (Option Value)} {oc_Odd kV_Odd dc_Odd pm_Odd ct_Odd : Value}
    {cd_Vw : Value}
    {f_Vw : Addr} {od_Vw an_Vw : Option Addr} {sl_Vw : Array (Option Value)} {oc_Vw kV_Vw dc_Vw pm_Vw ct_Vw : Value}
    {cd_Nc : Value}
    {f_Nc : Addr} {od_Nc an_Nc : Option Addr} {sl_Nc : Array (Option Value)} {oc_Nc kV_Nc dc_Nc pm_Nc ct_Nc : Value}
    {cd_Pu : Value}
    {f_Pu : Addr} {od_Pu an_Pu : Option Addr} {sl_Pu : Array (Option Value)} {oc_Pu kV_Pu dc_Pu pm_Pu ct_Pu : Value}
    {cd_Tr : Value}
    {f_Tr : Addr} {od_Tr an_Tr : Option Addr} {sl_Tr : Array (Option Value)} {oc_Tr kV_Tr dc_Tr pm_Tr ct_Tr : Value}
    {cd_Jr : Value}
    {f_Jr : Addr} {od_Jr an_Jr : Option Addr} {sl_Jr : Array (Option Value)} {oc_Jr kV_Jr dc_Jr pm_Jr ct_Jr : Value}
    {f_Ref : Addr} {od_Ref an_Ref : Option Addr} {sl_Ref : Array (Option Value)} {oc_Ref kV_Ref dc_Ref pm_Ref ct_Ref : Value}
    {cd_law : Value}
    {f_law : Addr} {od_law an_law : Option Addr} {sl_law : Array (Option Value)} {oc_law kV_law dc_law pm_law ct_law : Value}
    {C CF cRf TPR CH CR CD CN CO CC CS CM : Addr}
    {cd_VI : Value} {f_VI : Addr} {od_VI an_VI : Option Addr} {sl_VI : Array (Option Value)} {oc_VI kV_VI dc_VI pm_VI ct_VI : Value}
    {cd_Ho : Value} {f_Ho : Addr} {od_Ho an_Ho : Option Addr} {sl_Ho : Array (Option Value)} {oc_Ho kV_Ho dc_Ho pm_Ho ct_Ho : Value}
    {cd_Ro : Value} {f_Ro : Addr} {od_Ro an_Ro : Option Addr} {sl_Ro : Array (Option Value)} {oc_Ro kV_Ro dc_Ro pm_Ro ct_Ro : Value}
    {cd_Is : Value} {f_Is : Addr} {od_Is an_Is : Option Addr} {sl_Is : Array (Option Value)} {oc_Is kV_Is dc_Is pm_Is ct_Is : Value}
    {cd_Ne : Value} {f_Ne : Addr} {od_Ne an_Ne : Option Addr} {sl_Ne : Array (Option Value)} {oc_Ne kV_Ne dc_Ne pm_Ne ct_Ne : Value}
    {cd_Pl : Value} {f_Pl : Addr} {od_Pl an_Pl : Option Addr} {sl_Pl : Array (Option Value)} {oc_Pl kV_Pl dc_Pl pm_Pl ct_Pl : Value}
    {cd_Rd : Value} {f_Rd : Addr} {od_Rd an_Rd : Option Addr} {sl_Rd : Array (Option Value)} {oc_Rd kV_Rd dc_Rd pm_Rd ct_Rd : Value}
    {cd_Wa : Value} {f_Wa : Addr} {od_Wa an_Wa : Option Addr} {sl_Wa : Array (Option Value)} {oc_Wa kV_Wa dc_Wa pm_Wa ct_Wa : Value}
    {cd_Nr : Value} {f_Nr : Addr} {od_Nr an_Nr : Option Addr} {sl_Nr : Array (Option Value)} {oc_Nr kV_Nr dc_Nr pm_Nr ct_Nr : Value}
    {cd_iH : Value} {f_iH : Addr} {od_iH an_iH : Option Addr} {sl_iH : Array (Option Value)} {oc_iH kV_iH dc_iH pm_iH ct_iH : Value}
    {cd_iR : Value} {f_iR : Addr} {od_iR an_iR : Option Addr} {sl_iR : Array (Option Value)} {oc_iR kV_iR dc_iR pm_iR ct_iR : Value}
    {cd_iD : Value} {f_iD : Addr} {od_iD an_iD : Option Addr} {sl_iD : Array (Option Value)} {oc_iD kV_iD dc_iD pm_iD ct_iD : Value}
    {cd_iN : Value} {f_iN : Addr} {od_iN an_iN : Option Addr} {sl_iN : Array (Option Value)} {oc_iN kV_iN dc_iN pm_iN ct_iN : Value}
    {cd_iO : Value} {f_iO : Addr} {od_iO an_iO : Option Addr} {sl_iO : Array (Option Value)} {oc_iO kV_iO dc_iO pm_iO ct_iO : Value}
    {cd_iC : Value} {f_iC : Addr} {od_iC an_iC : Option Addr} {sl_iC : Array (Option Value)} {oc_iC kV_iC dc_iC pm_iC ct_iC : Value}
    {cd_iS : Value} {f_iS : Addr} {od_iS an_iS : Option Addr} {sl_iS : Array (Option Value)} {oc_iS kV_iS dc_iS pm_iS ct_iS : Value}
    {cd_iM : Value} {f_iM : Addr} {od_iM an_iM : Option Addr} {sl_iM : Array (Option Value)} {oc_iM kV_iM dc_iM pm_iM ct_iM : Value}
    {nmCH qCH : Str} {NCH : Addr} {bsCH bmCH : List Value} {snCH : List Str} {subCH : List Value} {abCH : Bool} {colCH : Option Bool} {ddCH : Option Addr} {m0CH m1CH m2CH m3CH m5CH : Option Value}
    {nmCR qCR : Str} {NCR : Addr} {bsCR bmCR : List Value} {snCR : List Str} {subCR : List Value} {abCR : Bool} {colCR : Option Bool} {ddCR : Option Addr} {m0CR m1CR m2CR m3CR m5CR : Option Value}
    {nmCD qCD : Str} {NCD : Addr} {bsCD bmCD : List Value} {snCD : List Str} {subCD : List Value} {abCD : Bool} {colCD : Option Bool} {ddCD : Option Addr} {m0CD m1CD m2CD m3CD m5CD : Option Value}
    {nmCN qCN : Str} {NCN : Addr} {bsCN bmCN : List Value} {snCN : List Str} {subCN : List Value} {abCN : Bool} {colCN : Option Bool} {ddCN : Option Addr} {m0CN m1CN m2CN m3CN m5CN : Option Value}
    {nmCO qCO : Str} {NCO : Addr} {bsCO bmCO : List Value} {snCO : List Str} {subCO : List Value} {abCO : Bool} {colCO : Option Bool} {ddCO : Option Addr} {m0CO m1CO m2CO m3CO m5CO : Option Value}
    {nmCC qCC : Str} {NCC : Addr} {bsCC bmCC : List Value} {snCC : List Str} {subCC : List Value} {abCC : Bool} {colCC : Option Bool} {ddCC : Option Addr} {m0CC m1CC m2CC m3CC m5CC : Option Value}
    {nmCS qCS : Str} {NCS : Addr} {bsCS bmCS : List Value} {snCS : List Str} {subCS : List Value} {abCS : Bool} {colCS : Option Bool} {ddCS : Option Addr} {m0CS m1CS m2CS m3CS m5CS : Option Value}
    {nmCM qCM : Str} {NCM : Addr} {bsCM bmCM : List Value} {snCM : List Str} {subCM : List Value} {abCM : Bool} {colCM : Option Bool} {ddCM : Option Addr} {m0CM m1CM m2CM m3CM m5CM : Option Value}
    {tL tF tN : Tok}
    (X : K.In h) (G : h.Ns mainGlobals mg) (hfa : mg "law" = some (.ref fa)) (hTR : h.get? TPR = some { cls := .none, data := .fields #[] })
    (a_isInt : PySem.W.nsIn K mainGlobals "is_integer" = some (some (.ref f_isInt)))
    (l_isInt : K.lookup f_isInt = some ⟨oc_isInt, od_isInt, .func (PySem.W.fnOf "is_integer" "is_integer" (defArgs sIsInt) (defBody sIsInt) (defScope sIsInt) .none kV_isInt dc_isInt pm_isInt an_isInt cd_isInt ct_isInt), sl_isInt⟩)
    (c_isInt : PySem.W.codeIn K cd_isInt "is_integer" = true)
    (k_isInt : PySem.W.keepIn K (.ref f_isInt) = true)
    (a_num : PySem.W.nsIn K mainGlobals "is_number" = some (some (.ref f_num)))
    (l_num : K.lookup f_num = some ⟨oc_num, od_num, .func (PySem.W.fnOf "is_number" "is_number" (defArgs sNum) (defBody sNum) (defScope sNum) .none kV_num dc_num pm_num an_num cd_num ct_num), sl_num⟩)
    (c_num : PySem.W.codeIn K cd_num "is_number" = true)
    (k_num : PySem.W.keepIn K (.ref f_num) = true)
    (a_fromOne : PySem.W.nsIn K mainGlobals "is_from_one" = some (some (.ref f_fromOne)))
    (l_fromOne : K.lookup f_fromOne = some ⟨oc_fromOne, od_fromOne, .func (PySem.W.fnOf "is_from_one" "is_from_one" (defArgs sFromOne) (defBody sFromOne) (defScope sFromOne) .none kV_fromOne dc_fromOne pm_fromOne an_fromOne cd_fromOne ct_fromOne), sl_fromOne⟩)
    (c_fromOne : PySem.W.codeIn K cd_fromOne "is_from_one" = true)
    (k_fromOne : PySem.W.keepIn K (.ref f_fromOne) = true)
    (a_isList : PySem.W.nsIn K mainGlobals "is_list" = some (some (.ref f_isList)))
    (l_isList : K.lookup f_isList = some ⟨oc_isList, od_isList, .func (PySem.W.fnOf "is_list" "is_list" (defArgs sIsList) (defBody sIsList) (defScope sIsList) .none kV_isList dc_isList pm_isList an_isList cd_isList ct_isList), sl_isList⟩)
    (c_isList : PySem.W.codeIn K cd_isList "is_list" = true)
    (k_isList : PySem.W.keepIn K (.ref f_isList) = true)
    (a_isPair : PySem.W.nsIn K mainGlobals "is_pair" = some (some (.ref f_isPair)))
    (l_isPair : K.lookup f_isPair = some ⟨oc_isPair, od_isPair, .func (PySem.W.fnOf "is_pair" "is_pair" (defArgs sIsPair) (defBody sIsPair) (defScope sIsPair) .none kV_isPair dc_isPair pm_isPair an_isPair cd_isPair ct_isPair), sl_isPair⟩)
    (c_isPair : PySem.W.codeIn K cd_isPair "is_pair" = true)
    (k_isPair : PySem.W.keepIn K (.ref f_isPair) = true)
    (a_isName : PySem.W.nsIn K mainGlobals "is_name" = some (some (.ref f_isName)))
    (l_isName : K.lookup f_isName = some ⟨oc_isName, od_isName, .func (PySem.W.fnOf "is_name" "is_name" (defArgs sIsName) (defBody sIsName) (defScope sIsName) .none kV_isName dc_isName pm_isName an_isName cd_isName ct_isName), sl_isName⟩)
    (c_isName : PySem.W.codeIn K cd_isName "is_name" = true)
    (k_isName : PySem.W.keepIn K (.ref f_isName) = true)
    (a_draw : PySem.W.nsIn K mainGlobals "_law_draw" = some (some (.ref f_draw)))
    (l_draw : K.lookup f_draw = some ⟨oc_draw, od_draw, .func (PySem.W.fnOf "_law_draw" "_law_draw" (defArgs sDraw) (defBody sDraw) (defScope sDraw) .none kV_draw dc_draw pm_draw an_draw cd_draw ct_draw), sl_draw⟩)
    (c_draw : PySem.W.codeIn K cd_draw "_law_draw" = true)
    (k_draw : PySem.W.keepIn K (.ref f_draw) = true)
    (a_pick : PySem.W.nsIn K mainGlobals "_law_pick" = some (some (.ref f_pick)))
    (l_pick : K.lookup f_pick = some ⟨oc_pick, od_pick, .func (PySem.W.fnOf "_law_pick" "_law_pick" (defArgs sPick) (defBody sPick) (defScope sPick) .none kV_pick dc_pick pm_pick an_pick cd_pick ct_pick), sl_pick⟩)
    (c_pick : PySem.W.codeIn K cd_pick "_law_pick" = true)
    (k_pick : PySem.W.keepIn K (.ref f_pick) = true)
    (a_mixed : PySem.W.nsIn K mainGlobals "_law_mixed" = some (some (.ref f_mixed)))
    (l_mixed : K.lookup f_mixed = some ⟨oc_mixed, od_mixed, .func (PySem.W.fnOf "_law_mixed" "_law_mixed" (defArgs sMixed) (defBody sMixed) (defScope sMixed) .none kV_mixed dc_mixed pm_mixed an_mixed cd_mixed ct_mixed), sl_mixed⟩)
    (c_mixed : PySem.W.codeIn K cd_mixed "_law_mixed" = true)
    (k_mixed : PySem.W.keepIn K (.ref f_mixed) = true)
    (a_ND : PySem.W.nsIn K mainGlobals "_need_heads" = some (some (.ref f_ND)))
    (l_ND : K.lookup f_ND = some ⟨oc_ND, od_ND, .func (PySem.W.fnOf "_need_heads" "_need_heads" (defArgs sND) (defBody sND) (defScope sND) .none kV_ND dc_ND pm_ND an_ND cd_ND ct_ND), sl_ND⟩)
    (c_ND : PySem.W.codeIn K cd_ND "_need_heads" = true)
    (k_ND : PySem.W.keepIn K (.ref f_ND) = true)
    (a_NH : PySem.W.nsIn K mainGlobals "_need_houses" = some (some (.ref f_NH)))
    (l_NH : K.lookup f_NH = some ⟨oc_NH, od_NH, .func (PySem.W.fnOf "_need_houses" "_need_houses" (defArgs sNH) (defBody sNH) (defScope sNH) .none kV_NH dc_NH pm_NH an_NH cd_NH ct_NH), sl_NH⟩)
    (c_NH : PySem.W.codeIn K cd_NH "_need_houses" = true)
    (k_NH : PySem.W.keepIn K (.ref f_NH) = true)
    (a_NR : PySem.W.nsIn K mainGlobals "_need_roads" = some (some (.ref f_NR)))
    (l_NR : K.lookup f_NR = some ⟨oc_NR, od_NR, .func (PySem.W.fnOf "_need_roads" "_need_roads" (defArgs sNR) (defBody sNR) (defScope sNR) .none kV_NR dc_NR pm_NR an_NR cd_NR ct_NR), sl_NR⟩)
    (c_NR : PySem.W.codeIn K cd_NR "_need_roads" = true)
    (k_NR : PySem.W.keepIn K (.ref f_NR) = true)
    (a_keys : PySem.W.nsIn K mainGlobals "_are_keys" = some (some (.ref f_keys)))
    (l_keys : K.lookup f_keys = some ⟨oc_keys, od_keys, .func (PySem.W.fnOf "_are_keys" "_are_keys" (defArgs sKeys) (defBody sKeys) (defScope sKeys) .none kV_keys dc_keys pm_keys an_keys cd_keys ct_keys), sl_keys⟩)
    (c_keys : PySem.W.codeIn K cd_keys "_are_keys" = true)
    (k_keys : PySem.W.keepIn K (.ref f_keys) = true)
    (a_lead : PySem.W.nsIn K mainGlobals "_leader" = some (some (.ref f_lead)))
    (l_lead : K.lookup f_lead = some ⟨oc_lead, od_lead, .func (PySem.W.fnOf "_leader" "_leader" (defArgs sLead) (defBody sLead) (defScope sLead) .none kV_lead dc_lead pm_lead an_lead cd_lead ct_lead), sl_lead⟩)
    (c_lead : PySem.W.codeIn K cd_lead "_leader" = true)
    (k_lead : PySem.W.keepIn K (.ref f_lead) = true)
    (a_BW : PySem.W.nsIn K mainGlobals "_both_ways" = some (some (.ref f_BW)))
    (l_BW : K.lookup f_BW = some ⟨oc_BW, od_BW, .func (PySem.W.fnOf "_both_ways" "_both_ways" (defArgs sBW) (defBody sBW) (defScope sBW) .none kV_BW dc_BW pm_BW an_BW cd_BW ct_BW), sl_BW⟩)
    (c_BW : PySem.W.codeIn K cd_BW "_both_ways" = true)
    (k_BW : PySem.W.keepIn K (.ref f_BW) = true)
    (a_NB : PySem.W.nsIn K mainGlobals "_neighbours" = some (some (.ref f_NB)))
    (l_NB : K.lookup f_NB = some ⟨oc_NB, od_NB, .func (PySem.W.fnOf "_neighbours" "_neighbours" (defArgs sNB) (defBody sNB) (defScope sNB) .none kV_NB dc_NB pm_NB an_NB cd_NB ct_NB), sl_NB⟩)
    (c_NB : PySem.W.codeIn K cd_NB "_neighbours" = true)
    (k_NB : PySem.W.keepIn K (.ref f_NB) = true)
    (a_Nv : PySem.W.nsIn K mainGlobals "need_valley" = some (some (.ref f_Nv)))
    (l_Nv : K.lookup f_Nv = some ⟨oc_Nv, od_Nv, .func (PySem.W.fnOf "need_valley" "need_valley" (defArgs sNv) (defBody sNv) (defScope sNv) .none kV_Nv dc_Nv pm_Nv an_Nv cd_Nv ct_Nv), sl_Nv⟩)
    (c_Nv : PySem.W.codeIn K cd_Nv "need_valley" = true)
    (k_Nv : PySem.W.keepIn K (.ref f_Nv) = true)
    (a_Nm : PySem.W.nsIn K mainGlobals "need_many" = some (some (.ref f_Nm)))
    (l_Nm : K.lookup f_Nm = some ⟨oc_Nm, od_Nm, .func (PySem.W.fnOf "need_many" "need_many" (defArgs sNm) (defBody sNm) (defScope sNm) .none kV_Nm dc_Nm pm_Nm an_Nm cd_Nm ct_Nm), sl_Nm⟩)
    (c_Nm : PySem.W.codeIn K cd_Nm "need_many" = true)
    (k_Nm : PySem.W.keepIn K (.ref f_Nm) = true)
    (a_Bg : PySem.W.nsIn K mainGlobals "begun_places" = some (some (.ref f_Bg)))
    (l_Bg : K.lookup f_Bg = some ⟨oc_Bg, od_Bg, .func (PySem.W.fnOf "begun_places" "begun_places" (defArgs sBg) (defBody sBg) (defScope sBg) .none kV_Bg dc_Bg pm_Bg an_Bg cd_Bg ct_Bg), sl_Bg⟩)
    (c_Bg : PySem.W.codeIn K cd_Bg "begun_places" = true)
    (k_Bg : PySem.W.keepIn K (.ref f_Bg) = true)
    (a_Ep : PySem.W.nsIn K mainGlobals "evening_places" = some (some (.ref f_Ep)))
    (l_Ep : K.lookup f_Ep = some ⟨oc_Ep, od_Ep, .func (PySem.W.fnOf "evening_places" "evening_places" (defArgs sEp) (defBody sEp) (defScope sEp) .none kV_Ep dc_Ep pm_Ep an_Ep cd_Ep ct_Ep), sl_Ep⟩)
    (c_Ep : PySem.W.codeIn K cd_Ep "evening_places" = true)
    (k_Ep : PySem.W.keepIn K (.ref f_Ep) = true)
    (a_Cg : PySem.W.nsIn K mainGlobals "need_closing" = some (some (.ref f_Cg)))
    (l_Cg : K.lookup f_Cg = some ⟨oc_Cg, od_Cg, .func (PySem.W.fnOf "need_closing" "need_closing" (defArgs sCg) (defBody sCg) (defScope sCg) .none kV_Cg dc_Cg pm_Cg an_Cg cd_Cg ct_Cg), sl_Cg⟩)
    (c_Cg : PySem.W.codeIn K cd_Cg "need_closing" = true)
    (k_Cg : PySem.W.keepIn K (.ref f_Cg) = true)
    (a_Io : PySem.W.nsIn K mainGlobals "in_order" = some (some (.ref f_Io)))
    (l_Io : K.lookup f_Io = some ⟨oc_Io, od_Io, .func (PySem.W.fnOf "in_order" "in_order" (defArgs sIo) (defBody sIo) (defScope sIo) .none kV_Io dc_Io pm_Io an_Io cd_Io ct_Io), sl_Io⟩)
    (c_Io : PySem.W.codeIn K cd_Io "in_order" = true)
    (k_Io : PySem.W.keepIn K (.ref f_Io) = true)
    (a_Ju : PySem.W.nsIn K mainGlobals "join_up" = some (some (.ref f_Ju)))
    (l_Ju : K.lookup f_Ju = some ⟨oc_Ju, od_Ju, .func (PySem.W.fnOf "join_up" "join_up" (defArgs sJu) (defBody sJu) (defScope sJu) .none kV_Ju dc_Ju pm_Ju an_Ju cd_Ju ct_Ju), sl_Ju⟩)
    (c_Ju : PySem.W.codeIn K cd_Ju "join_up" = true)
    (k_Ju : PySem.W.keepIn K (.ref f_Ju) = true)
    (a_Bt : PySem.W.nsIn K mainGlobals "places_between" = some (some (.ref f_Bt)))
    (l_Bt : K.lookup f_Bt = some ⟨oc_Bt, od_Bt, .func (PySem.W.fnOf "places_between" "places_between" (defArgs sBt) (defBody sBt) (defScope sBt) .none kV_Bt dc_Bt pm_Bt an_Bt cd_Bt ct_Bt), sl_Bt⟩)
    (c_Bt : PySem.W.codeIn K cd_Bt "places_between" = true)
    (k_Bt : PySem.W.keepIn K (.ref f_Bt) = true)
    (a_Pb : PySem.W.nsIn K mainGlobals "parted_by" = some (some (.ref f_Pb)))
    (l_Pb : K.lookup f_Pb = some ⟨oc_Pb, od_Pb, .func (PySem.W.fnOf "parted_by" "parted_by" (defArgs sPb) (defBody sPb) (defScope sPb) .none kV_Pb dc_Pb pm_Pb an_Pb cd_Pb ct_Pb), sl_Pb⟩)
    (c_Pb : PySem.W.codeIn K cd_Pb "parted_by" = true)
    (k_Pb : PySem.W.keepIn K (.ref f_Pb) = true)
    (a_Sj : PySem.W.nsIn K mainGlobals "still_joined" = some (some (.ref f_Sj)))
    (l_Sj : K.lookup f_Sj = some ⟨oc_Sj, od_Sj, .func (PySem.W.fnOf "still_joined" "still_joined" (defArgs sSj) (defBody sSj) (defScope sSj) .none kV_Sj dc_Sj pm_Sj an_Sj cd_Sj ct_Sj), sl_Sj⟩)
    (c_Sj : PySem.W.codeIn K cd_Sj "still_joined" = true)
    (k_Sj : PySem.W.keepIn K (.ref f_Sj) = true)
    (a_spring : PySem.W.nsIn K mainGlobals "_law_spring" = some (some (.ref f_spring)))
    (l_spring : K.lookup f_spring = some ⟨oc_spring, od_spring, .func (PySem.W.fnOf "_law_spring" "_law_spring" (defArgs sSpring) (defBody sSpring) (defScope sSpring) .none kV_spring dc_spring pm_spring an_spring cd_spring ct_spring), sl_spring⟩)
    (c_spring : PySem.W.codeIn K cd_spring "_law_spring" = true)
    (k_spring : PySem.W.keepIn K (.ref f_spring) = true)
    (a_VN : PySem.W.nsIn K mainGlobals "_law_v_names" = some (some (.ref f_VN)))
    (l_VN : K.lookup f_VN = some ⟨oc_VN, od_VN, .func (PySem.W.fnOf "_law_v_names" "_law_v_names" (defArgs sVN) (defBody sVN) (defScope sVN) .none kV_VN dc_VN pm_VN an_VN cd_VN ct_VN), sl_VN⟩)
    (c_VN : PySem.W.codeIn K cd_VN "_law_v_names" = true)
    (k_VN : PySem.W.keepIn K (.ref f_VN) = true)
    (a_VRo : PySem.W.nsIn K mainGlobals "_law_v_roads" = some (some (.ref f_VRo)))
    (l_VRo : K.lookup f_VRo = some ⟨oc_VRo, od_VRo, .func (PySem.W.fnOf "_law_v_roads" "_law_v_roads" (defArgs sVRo) (defBody sVRo) (defScope sVRo) .none kV_VRo dc_VRo pm_VRo an_VRo cd_VRo ct_VRo), sl_VRo⟩)
    (c_VRo : PySem.W.codeIn K cd_VRo "_law_v_roads" = true)
    (k_VRo : PySem.W.keepIn K (.ref f_VRo) = true)
    (a_VV : PySem.W.nsIn K mainGlobals "_law_v_valley" = some (some (.ref f_VV)))
    (l_VV : K.lookup f_VV = some ⟨oc_VV, od_VV, .func (PySem.W.fnOf "_law_v_valley" "_law_v_valley" (defArgs sVV) (defBody sVV) (defScope sVV) .none kV_VV dc_VV pm_VV an_VV cd_VV ct_VV), sl_VV⟩)
    (c_VV : PySem.W.codeIn K cd_VV "_law_v_valley" = true)
    (k_VV : PySem.W.keepIn K (.ref f_VV) = true)
    (a_lo : PySem.W.nsIn K mainGlobals "_law_loose" = some (some (.ref f_lo)))
    (l_lo : K.lookup f_lo = some ⟨oc_lo, od_lo, .func (PySem.W.fnOf "_law_loose" "_law_loose" (defArgs sLo) (defBody sLo) (defScope sLo) .none kV_lo dc_lo pm_lo an_lo cd_lo ct_lo), sl_lo⟩)
    (c_lo : PySem.W.codeIn K cd_lo "_law_loose" = true)
    (k_lo : PySem.W.keepIn K (.ref f_lo) = true)
    (a_VM : PySem.W.nsIn K mainGlobals "_law_v_made" = some (some (.ref f_VM)))
    (l_VM : K.lookup f_VM = some ⟨oc_VM, od_VM, .func (PySem.W.fnOf "_law_v_made" "_law_v_made" (defArgs sVM) (defBody sVM) (defScope sVM) .none kV_VM dc_VM pm_VM an_VM cd_VM ct_VM), sl_VM⟩)
    (c_VM : PySem.W.codeIn K cd_VM "_law_v_made" = true)
    (k_VM : PySem.W.keepIn K (.ref f_VM) = true)
    (a_sm : PySem.W.nsIn K mainGlobals "_law_same" = some (some (.ref f_sm)))
    (l_sm : K.lookup f_sm = some ⟨oc_sm, od_sm, .func (PySem.W.fnOf "_law_same" "_law_same" (defArgs sSm) (defBody sSm) (defScope sSm) .none kV_sm dc_sm pm_sm an_sm cd_sm ct_sm), sl_sm⟩)
    (c_sm : PySem.W.codeIn K cd_sm "_law_same" = true)
    (k_sm : PySem.W.keepIn K (.ref f_sm) = true)
    (a_met : PySem.W.nsIn K mainGlobals "_law_met" = some (some (.ref f_met)))
    (l_met : K.lookup f_met = some ⟨oc_met, od_met, .func (PySem.W.fnOf "_law_met" "_law_met" (defArgs sMt) (defBody sMt) (defScope sMt) .none kV_met dc_met pm_met an_met cd_met ct_met), sl_met⟩)
    (c_met : PySem.W.codeIn K cd_met "_law_met" = true)
    (k_met : PySem.W.keepIn K (.ref f_met) = true)
    (a_Vn : PySem.W.nsIn K mainGlobals "_law_v_near" = some (some (.ref f_Vn)))
    (l_Vn : K.lookup f_Vn = some ⟨oc_Vn, od_Vn, .func (PySem.W.fnOf "_law_v_near" "_law_v_near" (defArgs sVn) (defBody sVn) (defScope sVn) .none kV_Vn dc_Vn pm_Vn an_Vn cd_Vn ct_Vn), sl_Vn⟩)
    (c_Vn : PySem.W.codeIn K cd_Vn "_law_v_near" = true)
    (k_Vn : PySem.W.keepIn K (.ref f_Vn) = true)
    (a_Hd : PySem.W.nsIn K mainGlobals "_law_v_handed" = some (some (.ref f_Hd)))
    (l_Hd : K.lookup f_Hd = some ⟨oc_Hd, od_Hd, .func (PySem.W.fnOf "_law_v_handed" "_law_v_handed" (defArgs sHd) (defBody sHd) (defScope sHd) .none kV_Hd dc_Hd pm_Hd an_Hd cd_Hd ct_Hd), sl_Hd⟩)
    (c_Hd : PySem.W.codeIn K cd_Hd "_law_v_handed" = true)
    (k_Hd : PySem.W.keepIn K (.ref f_Hd) = true)
    (a_Oe : PySem.W.nsIn K mainGlobals "_law_v_odd_evenings" = some (some (.ref f_Oe)))
    (l_Oe : K.lookup f_Oe = some ⟨oc_Oe, od_Oe, .func (PySem.W.fnOf "_law_v_odd_evenings" "_law_v_odd_evenings" (defArgs sOe) (defBody sOe) (defScope sOe) .none kV_Oe dc_Oe pm_Oe an_Oe cd_Oe ct_Oe), sl_Oe⟩)
    (c_Oe : PySem.W.codeIn K cd_Oe "_law_v_odd_evenings" = true)
    (k_Oe : PySem.W.keepIn K (.ref f_Oe) = true)
    (a_Odd : PySem.W.nsIn K mainGlobals "_law_v_odd_houses" = some (some (.ref f_Odd)))
    (l_Odd : K.lookup f_Odd = some ⟨oc_Odd, od_Odd, .func (PySem.W.fnOf "_law_v_odd_houses" "_law_v_odd_houses" (defArgs sOdd) (defBody sOdd) (defScope sOdd) .none kV_Odd dc_Odd pm_Odd an_Odd cd_Odd ct_Odd), sl_Odd⟩)
    (c_Odd : PySem.W.codeIn K cd_Odd "_law_v_odd_houses" = true)
    (k_Odd : PySem.W.keepIn K (.ref f_Odd) = true)
    (a_Vw : PySem.W.nsIn K mainGlobals "_law_v_way" = some (some (.ref f_Vw)))
    (l_Vw : K.lookup f_Vw = some ⟨oc_Vw, od_Vw, .func (PySem.W.fnOf "_law_v_way" "_law_v_way" (defArgs sVw) (defBody sVw) (defScope sVw) .none kV_Vw dc_Vw pm_Vw an_Vw cd_Vw ct_Vw), sl_Vw⟩)
    (c_Vw : PySem.W.codeIn K cd_Vw "_law_v_way" = true)
    (k_Vw : PySem.W.keepIn K (.ref f_Vw) = true)
    (a_Nc : PySem.W.nsIn K mainGlobals "_law_n_closed" = some (some (.ref f_Nc)))
    (l_Nc : K.lookup f_Nc = some ⟨oc_Nc, od_Nc, .func (PySem.W.fnOf "_law_n_closed" "_law_n_closed" (defArgs sNc) (defBody sNc) (defScope sNc) .none kV_Nc dc_Nc pm_Nc an_Nc cd_Nc ct_Nc), sl_Nc⟩)
    (c_Nc : PySem.W.codeIn K cd_Nc "_law_n_closed" = true)
    (k_Nc : PySem.W.keepIn K (.ref f_Nc) = true)
    (a_Pu : PySem.W.nsIn K mainGlobals "_law_v_put" = some (some (.ref f_Pu)))
    (l_Pu : K.lookup f_Pu = some ⟨oc_Pu, od_Pu, .func (PySem.W.fnOf "_law_v_put" "_law_v_put" (defArgs sPu) (defBody sPu) (defScope sPu) .none kV_Pu dc_Pu pm_Pu an_Pu cd_Pu ct_Pu), sl_Pu⟩)
    (c_Pu : PySem.W.codeIn K cd_Pu "_law_v_put" = true)
    (k_Pu : PySem.W.keepIn K (.ref f_Pu) = true)
    (a_Tr : PySem.W.nsIn K mainGlobals "_law_two_right" = some (some (.ref f_Tr)))
    (l_Tr : K.lookup f_Tr = some ⟨oc_Tr, od_Tr, .func (PySem.W.fnOf "_law_two_right" "_law_two_right" (defArgs sTr) (defBody sTr) (defScope sTr) .none kV_Tr dc_Tr pm_Tr an_Tr cd_Tr ct_Tr), sl_Tr⟩)
    (c_Tr : PySem.W.codeIn K cd_Tr "_law_two_right" = true)
    (k_Tr : PySem.W.keepIn K (.ref f_Tr) = true)
    (a_Jr : PySem.W.nsIn K mainGlobals "_law_joined_right" = some (some (.ref f_Jr)))
    (l_Jr : K.lookup f_Jr = some ⟨oc_Jr, od_Jr, .func (PySem.W.fnOf "_law_joined_right" "_law_joined_right" (defArgs sJr) (defBody sJr) (defScope sJr) .none kV_Jr dc_Jr pm_Jr an_Jr cd_Jr ct_Jr), sl_Jr⟩)
    (c_Jr : PySem.W.codeIn K cd_Jr "_law_joined_right" = true)
    (k_Jr : PySem.W.keepIn K (.ref f_Jr) = true)
    (a_Ref : PySem.W.nsIn K mainGlobals "_law_refused_right" = some (some (.ref f_Ref)))
    (l_Ref : K.lookup f_Ref = some ⟨oc_Ref, od_Ref, .func (PySem.W.fnOf "_law_refused_right" "_law_refused_right" (defArgs sRef) (defBody sRef) (defScope sRef) .none kV_Ref dc_Ref pm_Ref an_Ref (.ref cRf) ct_Ref), sl_Ref⟩)
    (c_Ref : PySem.W.codeIn K (.ref cRf) "_law_refused_right" = true)
    (k_Ref : PySem.W.keepIn K (.ref f_Ref) = true)
    (a_law : PySem.W.nsIn K mainGlobals "law" = some (some (.ref f_law)))
    (l_law : K.lookup f_law = some ⟨oc_law, od_law, .func (PySem.W.fnOf "law" "law" (defArgs sLaw) (defBody sLaw) (defScope sLaw) .none kV_law dc_law pm_law an_law cd_law ct_law), sl_law⟩)
    (c_law : PySem.W.codeIn K cd_law "law" = true)
    (k_law : PySem.W.keepIn K (.ref f_law) = true)
    (aC : PySem.W.nsIn K mainGlobals "Valley" = some (some (.ref C)))
    (aCF : PySem.W.nsIn K mainGlobals "FeastError" = some (some (.ref CF)))
    (aCH : PySem.W.nsIn K mainGlobals "BadHouses" = some (some (.ref CH)))
    (aCR : PySem.W.nsIn K mainGlobals "BadRoads" = some (some (.ref CR)))
    (aCD : PySem.W.nsIn K mainGlobals "BadHeads" = some (some (.ref CD)))
    (aCN : PySem.W.nsIn K mainGlobals "NoHouse" = some (some (.ref CN)))
    (aCO : PySem.W.nsIn K mainGlobals "NoRoad" = some (some (.ref CO)))
    (aCC : PySem.W.nsIn K mainGlobals "BadClosing" = some (some (.ref CC)))
    (aCS : PySem.W.nsIn K mainGlobals "SameHouse" = some (some (.ref CS)))
    (aCM : PySem.W.nsIn K mainGlobals "BadMany" = some (some (.ref CM)))
    (a_VI : PySem.W.findIn K (.ref C) "__init__" = some (some (.ref f_VI)))
    (i_VI : PySem.W.isFn K (.ref f_VI) = true)
    (l_VI : K.lookup f_VI = some ⟨oc_VI, od_VI, .func (PySem.W.fnOf "__init__" "Valley.__init__" (defArgs sVI) (defBody sVI) (defScope sVI) .none kV_VI dc_VI pm_VI an_VI cd_VI ct_VI), sl_VI⟩)
    (c_VI : PySem.W.codeIn K cd_VI "Valley.__init__" = true)
    (k_VI : PySem.W.keepIn K (.ref f_VI) = true)
    (a_Ho : PySem.W.findIn K (.ref C) "houses" = some (some (.ref f_Ho)))
    (i_Ho : PySem.W.isFn K (.ref f_Ho) = true)
    (l_Ho : K.lookup f_Ho = some ⟨oc_Ho, od_Ho, .func (PySem.W.fnOf "houses" "Valley.houses" (defArgs sVH) (defBody sVH) (defScope sVH) .none kV_Ho dc_Ho pm_Ho an_Ho cd_Ho ct_Ho), sl_Ho⟩)
    (c_Ho : PySem.W.codeIn K cd_Ho "Valley.houses" = true)
    (k_Ho : PySem.W.keepIn K (.ref f_Ho) = true)
    (a_Ro : PySem.W.findIn K (.ref C) "roads" = some (some (.ref f_Ro)))
    (i_Ro : PySem.W.isFn K (.ref f_Ro) = true)
    (l_Ro : K.lookup f_Ro = some ⟨oc_Ro, od_Ro, .func (PySem.W.fnOf "roads" "Valley.roads" (defArgs sVR) (defBody sVR) (defScope sVR) .none kV_Ro dc_Ro pm_Ro an_Ro cd_Ro ct_Ro), sl_Ro⟩)
    (c_Ro : PySem.W.codeIn K cd_Ro "Valley.roads" = true)
    (k_Ro : PySem.W.keepIn K (.ref f_Ro) = true)
    (a_Is : PySem.W.findIn K (.ref C) "is_house" = some (some (.ref f_Is)))
    (i_Is : PySem.W.isFn K (.ref f_Is) = true)
    (l_Is : K.lookup f_Is = some ⟨oc_Is, od_Is, .func (PySem.W.fnOf "is_house" "Valley.is_house" (defArgs sIs) (defBody sIs) (defScope sIs) .none kV_Is dc_Is pm_Is an_Is cd_Is ct_Is), sl_Is⟩)
    (c_Is : PySem.W.codeIn K cd_Is "Valley.is_house" = true)
    (k_Is : PySem.W.keepIn K (.ref f_Is) = true)
    (a_Ne : PySem.W.findIn K (.ref C) "need_house" = some (some (.ref f_Ne)))
    (i_Ne : PySem.W.isFn K (.ref f_Ne) = true)
    (l_Ne : K.lookup f_Ne = some ⟨oc_Ne, od_Ne, .func (PySem.W.fnOf "need_house" "Valley.need_house" (defArgs sNe) (defBody sNe) (defScope sNe) .none kV_Ne dc_Ne pm_Ne an_Ne cd_Ne ct_Ne), sl_Ne⟩)
    (c_Ne : PySem.W.codeIn K cd_Ne "Valley.need_house" = true)
    (k_Ne : PySem.W.keepIn K (.ref f_Ne) = true)
    (a_Pl : PySem.W.findIn K (.ref C) "place" = some (some (.ref f_Pl)))
    (i_Pl : PySem.W.isFn K (.ref f_Pl) = true)
    (l_Pl : K.lookup f_Pl = some ⟨oc_Pl, od_Pl, .func (PySem.W.fnOf "place" "Valley.place" (defArgs sPl) (defBody sPl) (defScope sPl) .none kV_Pl dc_Pl pm_Pl an_Pl cd_Pl ct_Pl), sl_Pl⟩)
    (c_Pl : PySem.W.codeIn K cd_Pl "Valley.place" = true)
    (k_Pl : PySem.W.keepIn K (.ref f_Pl) = true)
    (a_Rd : PySem.W.findIn K (.ref C) "is_road" = some (some (.ref f_Rd)))
    (i_Rd : PySem.W.isFn K (.ref f_Rd) = true)
    (l_Rd : K.lookup f_Rd = some ⟨oc_Rd, od_Rd, .func (PySem.W.fnOf "is_road" "Valley.is_road" (defArgs sRd) (defBody sRd) (defScope sRd) .none kV_Rd dc_Rd pm_Rd an_Rd cd_Rd ct_Rd), sl_Rd⟩)
    (c_Rd : PySem.W.codeIn K cd_Rd "Valley.is_road" = true)
    (k_Rd : PySem.W.keepIn K (.ref f_Rd) = true)
    (a_Wa : PySem.W.findIn K (.ref C) "way" = some (some (.ref f_Wa)))
    (i_Wa : PySem.W.isFn K (.ref f_Wa) = true)
    (l_Wa : K.lookup f_Wa = some ⟨oc_Wa, od_Wa, .func (PySem.W.fnOf "way" "Valley.way" (defArgs sWa) (defBody sWa) (defScope sWa) .none kV_Wa dc_Wa pm_Wa an_Wa cd_Wa ct_Wa), sl_Wa⟩)
    (c_Wa : PySem.W.codeIn K cd_Wa "Valley.way" = true)
    (k_Wa : PySem.W.keepIn K (.ref f_Wa) = true)
    (a_Nr : PySem.W.findIn K (.ref C) "nearer" = some (some (.ref f_Nr)))
    (i_Nr : PySem.W.isFn K (.ref f_Nr) = true)
    (l_Nr : K.lookup f_Nr = some ⟨oc_Nr, od_Nr, .func (PySem.W.fnOf "nearer" "Valley.nearer" (defArgs sNr) (defBody sNr) (defScope sNr) .none kV_Nr dc_Nr pm_Nr an_Nr cd_Nr ct_Nr), sl_Nr⟩)
    (c_Nr : PySem.W.codeIn K cd_Nr "Valley.nearer" = true)
    (k_Nr : PySem.W.keepIn K (.ref f_Nr) = true)
    (a_iH : PySem.W.findIn K (.ref CH) "__init__" = some (some (.ref f_iH)))
    (i_iH : PySem.W.isFn K (.ref f_iH) = true)
    (l_iH : K.lookup f_iH = some ⟨oc_iH, od_iH, .func (PySem.W.fnOf "__init__" "BadHouses.__init__" (defArgs sIH) (defBody sIH) (defScope sIH) .none kV_iH dc_iH pm_iH an_iH cd_iH ct_iH), sl_iH⟩)
    (c_iH : PySem.W.codeIn K cd_iH "BadHouses.__init__" = true)
    (k_iH : PySem.W.keepIn K (.ref f_iH) = true)
    (a_iR : PySem.W.findIn K (.ref CR) "__init__" = some (some (.ref f_iR)))
    (i_iR : PySem.W.isFn K (.ref f_iR) = true)
    (l_iR : K.lookup f_iR = some ⟨oc_iR, od_iR, .func (PySem.W.fnOf "__init__" "BadRoads.__init__" (defArgs sIR) (defBody sIR) (defScope sIR) .none kV_iR dc_iR pm_iR an_iR cd_iR ct_iR), sl_iR⟩)
    (c_iR : PySem.W.codeIn K cd_iR "BadRoads.__init__" = true)
    (k_iR : PySem.W.keepIn K (.ref f_iR) = true)
    (a_iD : PySem.W.findIn K (.ref CD) "__init__" = some (some (.ref f_iD)))
    (i_iD : PySem.W.isFn K (.ref f_iD) = true)
    (l_iD : K.lookup f_iD = some ⟨oc_iD, od_iD, .func (PySem.W.fnOf "__init__" "BadHeads.__init__" (defArgs sID) (defBody sID) (defScope sID) .none kV_iD dc_iD pm_iD an_iD cd_iD ct_iD), sl_iD⟩)
    (c_iD : PySem.W.codeIn K cd_iD "BadHeads.__init__" = true)
    (k_iD : PySem.W.keepIn K (.ref f_iD) = true)
    (a_iN : PySem.W.findIn K (.ref CN) "__init__" = some (some (.ref f_iN)))
    (i_iN : PySem.W.isFn K (.ref f_iN) = true)
    (l_iN : K.lookup f_iN = some ⟨oc_iN, od_iN, .func (PySem.W.fnOf "__init__" "NoHouse.__init__" (defArgs sIN) (defBody sIN) (defScope sIN) .none kV_iN dc_iN pm_iN an_iN cd_iN ct_iN), sl_iN⟩)
    (c_iN : PySem.W.codeIn K cd_iN "NoHouse.__init__" = true)
    (k_iN : PySem.W.keepIn K (.ref f_iN) = true)
    (a_iO : PySem.W.findIn K (.ref CO) "__init__" = some (some (.ref f_iO)))
    (i_iO : PySem.W.isFn K (.ref f_iO) = true)
    (l_iO : K.lookup f_iO = some ⟨oc_iO, od_iO, .func (PySem.W.fnOf "__init__" "NoRoad.__init__" (defArgs sIO) (defBody sIO) (defScope sIO) .none kV_iO dc_iO pm_iO an_iO cd_iO ct_iO), sl_iO⟩)
    (c_iO : PySem.W.codeIn K cd_iO "NoRoad.__init__" = true)
    (k_iO : PySem.W.keepIn K (.ref f_iO) = true)
    (a_iC : PySem.W.findIn K (.ref CC) "__init__" = some (some (.ref f_iC)))
    (i_iC : PySem.W.isFn K (.ref f_iC) = true)
    (l_iC : K.lookup f_iC = some ⟨oc_iC, od_iC, .func (PySem.W.fnOf "__init__" "BadClosing.__init__" (defArgs sCl) (defBody sCl) (defScope sCl) .none kV_iC dc_iC pm_iC an_iC cd_iC ct_iC), sl_iC⟩)
    (c_iC : PySem.W.codeIn K cd_iC "BadClosing.__init__" = true)
    (k_iC : PySem.W.keepIn K (.ref f_iC) = true)
    (a_iS : PySem.W.findIn K (.ref CS) "__init__" = some (some (.ref f_iS)))
    (i_iS : PySem.W.isFn K (.ref f_iS) = true)
    (l_iS : K.lookup f_iS = some ⟨oc_iS, od_iS, .func (PySem.W.fnOf "__init__" "SameHouse.__init__" (defArgs sIS) (defBody sIS) (defScope sIS) .none kV_iS dc_iS pm_iS an_iS cd_iS ct_iS), sl_iS⟩)
    (c_iS : PySem.W.codeIn K cd_iS "SameHouse.__init__" = true)
    (k_iS : PySem.W.keepIn K (.ref f_iS) = true)
    (a_iM : PySem.W.findIn K (.ref CM) "__init__" = some (some (.ref f_iM)))
    (i_iM : PySem.W.isFn K (.ref f_iM) = true)
    (l_iM : K.lookup f_iM = some ⟨oc_iM, od_iM, .func (PySem.W.fnOf "__init__" "BadMany.__init__" (defArgs sIM) (defBody sIM) (defScope sIM) .none kV_iM dc_iM pm_iM an_iM cd_iM ct_iM), sl_iM⟩)
    (c_iM : PySem.W.codeIn K cd_iM "BadMany.__init__" = true)
    (k_iM : PySem.W.keepIn K (.ref f_iM) = true)
    (pg : PySem.W.plainGet K C Str.empty = true)
    (hd : PySem.W.hasDictIn K C = true)
    (po : PySem.W.plainOver K C = true)
    (sa : PySem.W.findIn K (.ref C) "__setattr__" = some (some (.builtin "object.__setattr__")))
    (mk : PySem.W.makesIn K C = true)
    (kc : PySem.W.keepIn K (.ref C) = true)
    (n1 : PySem.W.findIn K (.ref C) "_houses" = some none)
    (n2 : PySem.W.findIn K (.ref C) "_roads" = some none)
    (n3 : PySem.W.findIn K (.ref C) "_heads" = some none)
    (n4 : PySem.W.findIn K (.ref C) "_people" = some none)
    (n5 : PySem.W.findIn K (.ref C) "_places" = some none)
    (n6 : PySem.W.findIn K (.ref C) "_beside" = some none)
    (ha : PySem.W.findIn K (.ref C) "__class__" = some (some (.builtin "object.__class__")))
    (hn : PySem.W.specialIn K (.builtin "object.__class__") "__get__" = some (some (.builtin "getset_descriptor.__get__")))
    (htk : PySem.W.takesIn K (.builtin "object.__class__") = some true)
    (hm : PySem.W.mroIn K C (.type "object") = some true)
    (own : PySem.W.kitOne K (.ref C) (.ref C) = some true)
    (kno : ((kinds ++ ["function"]).all fun t => PySem.W.kitOne K (.type t) (.ref C) == some false) = true)
    (fsp : PySem.W.specialIn K (.ref CF) "__getattribute__" = some (some (.builtin "type.__getattribute__")))
    (frd : PySem.W.readsIn K CF (.type "type") = true)
    (fin : PySem.W.findCls K (.ref CF) (.type "type") "__init__" = some (.val (.builtin "ValueError.__init__")))
    (xCH : K.lookup CH = some (excClassObj nmCH qCH CH NCH bsCH bmCH true snCH subCH abCH colCH ddCH m0CH m1CH m2CH m3CH m5CH "ValueError.__new__"))
    (rCH : PySem.HandSPX.refsVE bmCH = true)
    (saCH : PySem.W.findIn K (.ref CH) "__setattr__" = some (some (.builtin "object.__setattr__")))
    (exCH : PySem.W.subIn K (.ref CH) (.type "BaseException") = some true)
    (tyCH : PySem.W.typeIn K (.ref CH) = some (.type "type"))
    (kpCH : PySem.W.keepIn K (.ref CH) = true)
    (inCH_index : PySem.W.findIn K (.ref CH) "index" = some none)
    (ty_iH : PySem.W.typeIn K (.ref f_iH) = some (.type "function"))
    (xCR : K.lookup CR = some (excClassObj nmCR qCR CR NCR bsCR bmCR true snCR subCR abCR colCR ddCR m0CR m1CR m2CR m3CR m5CR "ValueError.__new__"))
    (rCR : PySem.HandSPX.refsVE bmCR = true)
    (saCR : PySem.W.findIn K (.ref CR) "__setattr__" = some (some (.builtin "object.__setattr__")))
    (exCR : PySem.W.subIn K (.ref CR) (.type "BaseException") = some true)
    (tyCR : PySem.W.typeIn K (.ref CR) = some (.type "type"))
    (kpCR : PySem.W.keepIn K (.ref CR) = true)
    (inCR_index : PySem.W.findIn K (.ref CR) "index" = some none)
    (ty_iR : PySem.W.typeIn K (.ref f_iR) = some (.type "function"))
    (xCD : K.lookup CD = some (excClassObj nmCD qCD CD NCD bsCD bmCD true snCD subCD abCD colCD ddCD m0CD m1CD m2CD m3CD m5CD "ValueError.__new__"))
    (rCD : PySem.HandSPX.refsVE bmCD = true)
    (saCD : PySem.W.findIn K (.ref CD) "__setattr__" = some (some (.builtin "object.__setattr__")))
    (exCD : PySem.W.subIn K (.ref CD) (.type "BaseException") = some true)
    (tyCD : PySem.W.typeIn K (.ref CD) = some (.type "type"))
    (kpCD : PySem.W.keepIn K (.ref CD) = true)
    (inCD_index : PySem.W.findIn K (.ref CD) "index" = some none)
    (ty_iD : PySem.W.typeIn K (.ref f_iD) = some (.type "function"))
    (xCN : K.lookup CN = some (excClassObj nmCN qCN CN NCN bsCN bmCN true snCN subCN abCN colCN ddCN m0CN m1CN m2CN m3CN m5CN "ValueError.__new__"))
    (rCN : PySem.HandSPX.refsVE bmCN = true)
    (saCN : PySem.W.findIn K (.ref CN) "__setattr__" = some (some (.builtin "object.__setattr__")))
    (exCN : PySem.W.subIn K (.ref CN) (.type "BaseException") = some true)
    (tyCN : PySem.W.typeIn K (.ref CN) = some (.type "type"))
    (kpCN : PySem.W.keepIn K (.ref CN) = true)
    (inCN_house : PySem.W.findIn K (.ref CN) "house" = some none)
    (ty_iN : PySem.W.typeIn K (.ref f_iN) = some (.type "function"))
    (xCO : K.lookup CO = some (excClassObj nmCO qCO CO NCO bsCO bmCO true snCO subCO abCO colCO ddCO m0CO m1CO m2CO m3CO m5CO "ValueError.__new__"))
    (rCO : PySem.HandSPX.refsVE bmCO = true)
    (saCO : PySem.W.findIn K (.ref CO) "__setattr__" = some (some (.builtin "object.__setattr__")))
    (exCO : PySem.W.subIn K (.ref CO) (.type "BaseException") = some true)
    (tyCO : PySem.W.typeIn K (.ref CO) = some (.type "type"))
    (kpCO : PySem.W.keepIn K (.ref CO) = true)
    (inCO_one : PySem.W.findIn K (.ref CO) "one" = some none)
    (inCO_other : PySem.W.findIn K (.ref CO) "other" = some none)
    (ty_iO : PySem.W.typeIn K (.ref f_iO) = some (.type "function"))
    (xCC : K.lookup CC = some (excClassObj nmCC qCC CC NCC bsCC bmCC true snCC subCC abCC colCC ddCC m0CC m1CC m2CC m3CC m5CC "ValueError.__new__"))
    (rCC : PySem.HandSPX.refsVE bmCC = true)
    (saCC : PySem.W.findIn K (.ref CC) "__setattr__" = some (some (.builtin "object.__setattr__")))
    (exCC : PySem.W.subIn K (.ref CC) (.type "BaseException") = some true)
    (tyCC : PySem.W.typeIn K (.ref CC) = some (.type "type"))
    (kpCC : PySem.W.keepIn K (.ref CC) = true)
    (inCC_closing : PySem.W.findIn K (.ref CC) "closing" = some none)
    (ty_iC : PySem.W.typeIn K (.ref f_iC) = some (.type "function"))
    (xCS : K.lookup CS = some (excClassObj nmCS qCS CS NCS bsCS bmCS true snCS subCS abCS colCS ddCS m0CS m1CS m2CS m3CS m5CS "ValueError.__new__"))
    (rCS : PySem.HandSPX.refsVE bmCS = true)
    (saCS : PySem.W.findIn K (.ref CS) "__setattr__" = some (some (.builtin "object.__setattr__")))
    (exCS : PySem.W.subIn K (.ref CS) (.type "BaseException") = some true)
    (tyCS : PySem.W.typeIn K (.ref CS) = some (.type "type"))
    (kpCS : PySem.W.keepIn K (.ref CS) = true)
    (inCS_house : PySem.W.findIn K (.ref CS) "house" = some none)
    (ty_iS : PySem.W.typeIn K (.ref f_iS) = some (.type "function"))
    (xCM : K.lookup CM = some (excClassObj nmCM qCM CM NCM bsCM bmCM true snCM subCM abCM colCM ddCM m0CM m1CM m2CM m3CM m5CM "ValueError.__new__"))
    (rCM : PySem.HandSPX.refsVE bmCM = true)
    (saCM : PySem.W.findIn K (.ref CM) "__setattr__" = some (some (.builtin "object.__setattr__")))
    (exCM : PySem.W.subIn K (.ref CM) (.type "BaseException") = some true)
    (tyCM : PySem.W.typeIn K (.ref CM) = some (.type "type"))
    (kpCM : PySem.W.keepIn K (.ref CM) = true)
    (inCM_many : PySem.W.findIn K (.ref CM) "many" = some none)
    (ty_iM : PySem.W.typeIn K (.ref f_iM) = some (.type "function"))
    (gaCC : PySem.W.findIn K (.ref CC) "__getattribute__" = some (some (.builtin "BaseException.__getattribute__")))
    (ggCC : PySem.W.findIn K (.ref CC) "__getattr__" = some none)
    (hdCC : PySem.W.hasDictIn K CC = true)
    (gaCN : PySem.W.findIn K (.ref CN) "__getattribute__" = some (some (.builtin "BaseException.__getattribute__")))
    (ggCN : PySem.W.findIn K (.ref CN) "__getattr__" = some none)
    (hdCN : PySem.W.hasDictIn K CN = true)
    (gaCS : PySem.W.findIn K (.ref CS) "__getattribute__" = some (some (.builtin "BaseException.__getattribute__")))
    (ggCS : PySem.W.findIn K (.ref CS) "__getattr__" = some none)
    (hdCS : PySem.W.hasDictIn K CS = true)
    (gaCM : PySem.W.findIn K (.ref CM) "__getattribute__" = some (some (.builtin "BaseException.__getattribute__")))
    (ggCM : PySem.W.findIn K (.ref CM) "__getattr__" = some none)
    (hdCM : PySem.W.hasDictIn K CM = true)
    (em_cc : PySem.W.exmOne K (.ref CC) (.ref CC) = some true)
    (em_nc : PySem.W.exmOne K (.ref CN) (.ref CC) = some false)
    (em_nn : PySem.W.exmOne K (.ref CN) (.ref CN) = some true)
    (em_sc : PySem.W.exmOne K (.ref CS) (.ref CC) = some false)
    (em_sn : PySem.W.exmOne K (.ref CS) (.ref CN) = some false)
    (em_ss : PySem.W.exmOne K (.ref CS) (.ref CS) = some true)
    (em_mc : PySem.W.exmOne K (.ref CM) (.ref CC) = some false)
    (em_mn : PySem.W.exmOne K (.ref CM) (.ref CN) = some false)
    (em_ms : PySem.W.exmOne K (.ref CM) (.ref CS) = some false)
    (em_mm : PySem.W.exmOne K (.ref CM) (.ref CM) = some true)
    (sgL : PySem.W.nsIn K mainGlobals "LETTERS" = some (some (.str letters tL)))
    (sgF : PySem.W.nsIn K mainGlobals "FIGURES" = some (some (.str figures tF)))
    (sgN : PySem.W.nsIn K mainGlobals "LONGEST_NAME" = some (some (.int 8 tN)))
    (z_isinstance : PySem.W.nsIn K mainGlobals "isinstance" = some none)
    (z_int : PySem.W.nsIn K mainGlobals "int" = some none)
    (z_bool : PySem.W.nsIn K mainGlobals "bool" = some none)
    (z_str : PySem.W.nsIn K mainGlobals "str" = some none)
    (z_list : PySem.W.nsIn K mainGlobals "list" = some none)
    (z_tuple : PySem.W.nsIn K mainGlobals "tuple" = some none)
    (z_dict : PySem.W.nsIn K mainGlobals "dict" = some none)
    (z_len : PySem.W.nsIn K mainGlobals "len" = some none)
    (z_all : PySem.W.nsIn K mainGlobals "all" = some none)
    (z_any : PySem.W.nsIn K mainGlobals "any" = some none)
    (z_range : PySem.W.nsIn K mainGlobals "range" = some none)
    (z_enumerate : PySem.W.nsIn K mainGlobals "enumerate" = some none)
    (z_set : PySem.W.nsIn K mainGlobals "set" = some none)
    (z_min : PySem.W.nsIn K mainGlobals "min" = some none)
    (z_max : PySem.W.nsIn K mainGlobals "max" = some none)
    (z_zip : PySem.W.nsIn K mainGlobals "zip" = some none)
    (z_sorted : PySem.W.nsIn K mainGlobals "sorted" = some none)
    (z_sum : PySem.W.nsIn K mainGlobals "sum" = some none)
    (z_repr : PySem.W.nsIn K mainGlobals "repr" = some none)
    (tpNR : K.lookup TPR = none)
    (tpCR : PySem.W.codeHdIn K cRf TPR = true) :
    Wr.LawG l w K CX0 13 63 "script" mg fa h := by
  have e := hfa.symm.trans (PySem.W.mg_of X G a_law)
  cases e
  have m_isInt := PySem.W.mg_of X G a_isInt
  have F_isInt := fun_mk (st := sIsInt) l_isInt c_isInt k_isInt
  have b_isInt := F_isInt.binds (ps := ["thing"]) fun _ _ _ _ _ _ us hl => match us, hl with | [_], _ => rfl
  have m_num := PySem.W.mg_of X G a_num
  have F_num := fun_mk (st := sNum) l_num c_num k_num
  have b_num := F_num.binds (ps := ["thing"]) fun _ _ _ _ _ _ us hl => match us, hl with | [_], _ => rfl
  have m_fromOne := PySem.W.mg_of X G a_fromOne
  have F_fromOne := fun_mk (st := sFromOne) l_fromOne c_fromOne k_fromOne
  have b_fromOne := F_fromOne.binds (ps := ["thing"]) fun _ _ _ _ _ _ us hl => match us, hl with | [_], _ => rfl
  have m_isList := PySem.W.mg_of X G a_isList
  have F_isList := fun_mk (st := sIsList) l_isList c_isList k_isList
  have b_isList := F_isList.binds (ps := ["thing"]) fun _ _ _ _ _ _ us hl => match us, hl with | [_], _ => rfl
  have m_isPair := PySem.W.mg_of X G a_isPair
  have F_isPair := fun_mk (st := sIsPair) l_isPair c_isPair k_isPair
  have b_isPair := F_isPair.binds (ps := ["thing"]) fun _ _ _ _ _ _ us hl => match us, hl with | [_], _ => rfl
  have m_isName := PySem.W.mg_of X G a_isName
  have F_isName := fun_mk (st := sIsName) l_isName c_isName k_isName
  have b_isName := F_isName.binds (ps := ["thing"]) fun _ _ _ _ _ _ us hl => match us, hl with | [_], _ => rfl
  have m_draw := PySem.W.mg_of X G a_draw
  have F_draw := fun_mk (st := sDraw) l_draw c_draw k_draw
  have b_draw := F_draw.binds (ps := ["spring", "many"]) fun _ _ _ _ _ _ us hl => match us, hl with | [_, _], _ => rfl
  have m_pick := PySem.W.mg_of X G a_pick
  have F_pick := fun_mk (st := sPick) l_pick c_pick k_pick
  have b_pick := F_pick.binds (ps := ["spring", "some"]) fun _ _ _ _ _ _ us hl => match us, hl with | [_, _], _ => rfl
  have m_mixed := PySem.W.mg_of X G a_mixed
  have F_mixed := fun_mk (st := sMixed) l_mixed c_mixed k_mixed
  have b_mixed := F_mixed.binds (ps := ["spring", "some"]) fun _ _ _ _ _ _ us hl => match us, hl with | [_, _], _ => rfl
  have m_ND := PySem.W.mg_of X G a_ND
  have F_ND := fun_mk (st := sND) l_ND c_ND k_ND
  have b_ND := F_ND.binds (ps := ["houses", "heads"]) fun _ _ _ _ _ _ us hl => match us, hl with | [_, _], _ => rfl
  have m_NH := PySem.W.mg_of X G a_NH
  have F_NH := fun_mk (st := sNH) l_NH c_NH k_NH
  have b_NH := F_NH.binds (ps := ["houses"]) fun _ _ _ _ _ _ us hl => match us, hl with | [_], _ => rfl
  have m_NR := PySem.W.mg_of X G a_NR
  have F_NR := fun_mk (st := sNR) l_NR c_NR k_NR
  have b_NR := F_NR.binds (ps := ["houses", "roads"]) fun _ _ _ _ _ _ us hl => match us, hl with | [_, _], _ => rfl
  have m_keys := PySem.W.mg_of X G a_keys
  have F_keys := fun_mk (st := sKeys) l_keys c_keys k_keys
  have b_keys := F_keys.binds (ps := ["things", "table"]) fun _ _ _ _ _ _ us hl => match us, hl with | [_, _], _ => rfl
  have m_lead := PySem.W.mg_of X G a_lead
  have F_lead := fun_mk (st := sLead) l_lead c_lead k_lead
  have b_lead := F_lead.binds (ps := ["leads", "house"]) fun _ _ _ _ _ _ us hl => match us, hl with | [_, _], _ => rfl
  have m_BW := PySem.W.mg_of X G a_BW
  have F_BW := fun_mk (st := sBW) l_BW c_BW k_BW
  have b_BW := F_BW.binds (ps := ["roads"]) fun _ _ _ _ _ _ us hl => match us, hl with | [_], _ => rfl
  have m_NB := PySem.W.mg_of X G a_NB
  have F_NB := fun_mk (st := sNB) l_NB c_NB k_NB
  have b_NB := F_NB.binds (ps := ["houses", "roads"]) fun _ _ _ _ _ _ us hl => match us, hl with | [_, _], _ => rfl
  have m_Nv := PySem.W.mg_of X G a_Nv
  have F_Nv := fun_mk (st := sNv) l_Nv c_Nv k_Nv
  have b_Nv := F_Nv.binds (ps := ["valley"]) fun _ _ _ _ _ _ us hl => match us, hl with | [_], _ => rfl
  have m_Nm := PySem.W.mg_of X G a_Nm
  have F_Nm := fun_mk (st := sNm) l_Nm c_Nm k_Nm
  have b_Nm := F_Nm.binds (ps := ["valley", "many"]) fun _ _ _ _ _ _ us hl => match us, hl with | [_, _], _ => rfl
  have m_Bg := PySem.W.mg_of X G a_Bg
  have F_Bg := fun_mk (st := sBg) l_Bg c_Bg k_Bg
  have b_Bg := F_Bg.binds (ps := ["valley", "thing"]) fun _ _ _ _ _ _ us hl => match us, hl with | [_, _], _ => rfl
  have m_Ep := PySem.W.mg_of X G a_Ep
  have F_Ep := fun_mk (st := sEp) l_Ep c_Ep k_Ep
  have b_Ep := F_Ep.binds (ps := ["valley", "thing"]) fun _ _ _ _ _ _ us hl => match us, hl with | [_, _], _ => rfl
  have m_Cg := PySem.W.mg_of X G a_Cg
  have F_Cg := fun_mk (st := sCg) l_Cg c_Cg k_Cg
  have b_Cg := F_Cg.binds (ps := ["valley", "closing"]) fun _ _ _ _ _ _ us hl => match us, hl with | [_, _], _ => rfl
  have m_Io := PySem.W.mg_of X G a_Io
  have F_Io := fun_mk (st := sIo) l_Io c_Io k_Io
  have b_Io := F_Io.binds (ps := ["valley", "some"]) fun _ _ _ _ _ _ us hl => match us, hl with | [_, _], _ => rfl
  have m_Ju := PySem.W.mg_of X G a_Ju
  have F_Ju := fun_mk (st := sJu) l_Ju c_Ju k_Ju
  have b_Ju := F_Ju.binds (ps := ["valley", "places"]) fun _ _ _ _ _ _ us hl => match us, hl with | [_, _], _ => rfl
  have m_Bt := PySem.W.mg_of X G a_Bt
  have F_Bt := fun_mk (st := sBt) l_Bt c_Bt k_Bt
  have b_Bt := F_Bt.binds (ps := ["valley", "one", "other"]) fun _ _ _ _ _ _ us hl => match us, hl with | [_, _, _], _ => rfl
  have m_Pb := PySem.W.mg_of X G a_Pb
  have F_Pb := fun_mk (st := sPb) l_Pb c_Pb k_Pb
  have b_Pb := F_Pb.binds (ps := ["valley", "closing", "one", "other"]) fun _ _ _ _ _ _ us hl => match us, hl with | [_, _, _, _], _ => rfl
  have m_Sj := PySem.W.mg_of X G a_Sj
  have F_Sj := fun_mk (st := sSj) l_Sj c_Sj k_Sj
  have b_Sj := F_Sj.binds (ps := ["valley", "closing", "house", "many"]) fun _ _ _ _ _ _ us hl => match us, hl with | [_, _, _, _], _ => rfl
  have m_spring := PySem.W.mg_of X G a_spring
  have F_spring := fun_mk (st := sSpring) l_spring c_spring k_spring
  have b_spring := F_spring.binds (ps := ["script", "turn"]) fun _ _ _ _ _ _ us hl => match us, hl with | [_, _], _ => rfl
  have m_VN := PySem.W.mg_of X G a_VN
  have F_VN := fun_mk (st := sVN) l_VN c_VN k_VN
  have b_VN := F_VN.binds (ps := ["spring", "least", "most"]) fun _ _ _ _ _ _ us hl => match us, hl with | [_, _, _], _ => rfl
  have m_VRo := PySem.W.mg_of X G a_VRo
  have F_VRo := fun_mk (st := sVRo) l_VRo c_VRo k_VRo
  have b_VRo := F_VRo.binds (ps := ["spring", "names"]) fun _ _ _ _ _ _ us hl => match us, hl with | [_, _], _ => rfl
  have m_VV := PySem.W.mg_of X G a_VV
  have F_VV := fun_mk (st := sVV) l_VV c_VV k_VV
  have b_VV := F_VV.binds (ps := ["spring", "least", "most"]) fun _ _ _ _ _ _ us hl => match us, hl with | [_, _, _], _ => rfl
  have m_lo := PySem.W.mg_of X G a_lo
  have F_lo := fun_mk (st := sLo) l_lo c_lo k_lo
  have b_lo := F_lo.binds (ps := ["spring", "thing"]) fun _ _ _ _ _ _ us hl => match us, hl with | [_, _], _ => rfl
  have m_VM := PySem.W.mg_of X G a_VM
  have F_VM := fun_mk (st := sVM) l_VM c_VM k_VM
  have b_VM := F_VM.binds (ps := ["spring", "valley"]) fun _ _ _ _ _ _ us hl => match us, hl with | [_, _], _ => rfl
  have m_sm := PySem.W.mg_of X G a_sm
  have F_sm := fun_mk (st := sSm) l_sm c_sm k_sm
  have b_sm := F_sm.binds (ps := ["found", "due"]) fun _ _ _ _ _ _ us hl => match us, hl with | [_, _], _ => rfl
  have m_met := PySem.W.mg_of X G a_met
  have F_met := fun_mk (st := sMt) l_met c_met k_met
  have b_met := F_met.binds (ps := ["ask"]) fun _ _ _ _ _ _ us hl => match us, hl with | [_], _ => rfl
  have m_Vn := PySem.W.mg_of X G a_Vn
  have F_Vn := fun_mk (st := sVn) l_Vn c_Vn k_Vn
  have b_Vn := F_Vn.binds (ps := ["valley", "house"]) fun _ _ _ _ _ _ us hl => match us, hl with | [_, _], _ => rfl
  have m_Hd := PySem.W.mg_of X G a_Hd
  have F_Hd := fun_mk (st := sHd) l_Hd c_Hd k_Hd
  have b_Hd := F_Hd.binds (ps := ["spring", "evening"]) fun _ _ _ _ _ _ us hl => match us, hl with | [_, _], _ => rfl
  have m_Oe := PySem.W.mg_of X G a_Oe
  have F_Oe := fun_mk (st := sOe) l_Oe c_Oe k_Oe
  have b_Oe := F_Oe.binds (ps := ["spring", "valley", "evening"]) fun _ _ _ _ _ _ us hl => match us, hl with | [_, _, _], _ => rfl
  have m_Odd := PySem.W.mg_of X G a_Odd
  have F_Odd := fun_mk (st := sOdd) l_Odd c_Odd k_Odd
  have b_Odd := F_Odd.binds (ps := ["names"]) fun _ _ _ _ _ _ us hl => match us, hl with | [_], _ => rfl
  have m_Vw := PySem.W.mg_of X G a_Vw
  have F_Vw := fun_mk (st := sVw) l_Vw c_Vw k_Vw
  have b_Vw := F_Vw.binds (ps := ["valley", "one", "other"]) fun _ _ _ _ _ _ us hl => match us, hl with | [_, _, _], _ => rfl
  have m_Nc := PySem.W.mg_of X G a_Nc
  have F_Nc := fun_mk (st := sNc) l_Nc c_Nc k_Nc
  have b_Nc := F_Nc.binds (ps := ["valley", "closing", "many"]) fun _ _ _ _ _ _ us hl => match us, hl with | [_, _, _], _ => rfl
  have m_Pu := PySem.W.mg_of X G a_Pu
  have F_Pu := fun_mk (st := sPu) l_Pu c_Pu k_Pu
  have b_Pu := F_Pu.binds (ps := ["held", "other"]) fun _ _ _ _ _ _ us hl => match us, hl with | [_, _], _ => rfl
  have m_Tr := PySem.W.mg_of X G a_Tr
  have F_Tr := fun_mk (st := sTr) l_Tr c_Tr k_Tr
  have b_Tr := F_Tr.binds (ps := ["spring", "made", "valley", "closing", "one", "other"]) fun _ _ _ _ _ _ us hl => match us, hl with | [_, _, _, _, _, _], _ => rfl
  have m_Jr := PySem.W.mg_of X G a_Jr
  have F_Jr := fun_mk (st := sJr) l_Jr c_Jr k_Jr
  have b_Jr := F_Jr.binds (ps := ["spring", "made", "valley", "closing", "many"]) fun _ _ _ _ _ _ us hl => match us, hl with | [_, _, _, _, _], _ => rfl
  have m_Ref := PySem.W.mg_of X G a_Ref
  have m_law := PySem.W.mg_of X G a_law
  have F_law := fun_mk (st := sLaw) l_law c_law k_law
  have b_law := F_law.binds (ps := ["script"]) fun _ _ _ _ _ _ us hl => match us, hl with | [_], _ => rfl
  have F_VI := fun_mk (st := sVI) l_VI c_VI k_VI
  have b_VI := F_VI.binds (ps := ["self", "houses", "roads", "heads"]) fun _ _ _ _ _ _ us hl => match us, hl with | [_, _, _, _], _ => rfl
  have F_Ho := fun_mk (st := sVH) l_Ho c_Ho k_Ho
  have b_Ho := F_Ho.binds (ps := ["self"]) fun _ _ _ _ _ _ us hl => match us, hl with | [_], _ => rfl
  have F_Ro := fun_mk (st := sVR) l_Ro c_Ro k_Ro
  have b_Ro := F_Ro.binds (ps := ["self"]) fun _ _ _ _ _ _ us hl => match us, hl with | [_], _ => rfl
  have F_Is := fun_mk (st := sIs) l_Is c_Is k_Is
  have b_Is := F_Is.binds (ps := ["self", "thing"]) fun _ _ _ _ _ _ us hl => match us, hl with | [_, _], _ => rfl
  have F_Ne := fun_mk (st := sNe) l_Ne c_Ne k_Ne
  have b_Ne := F_Ne.binds (ps := ["self", "house"]) fun _ _ _ _ _ _ us hl => match us, hl with | [_, _], _ => rfl
  have F_Pl := fun_mk (st := sPl) l_Pl c_Pl k_Pl
  have b_Pl := F_Pl.binds (ps := ["self", "one", "other"]) fun _ _ _ _ _ _ us hl => match us, hl with | [_, _, _], _ => rfl
  have F_Rd := fun_mk (st := sRd) l_Rd c_Rd k_Rd
  have b_Rd := F_Rd.binds (ps := ["self", "thing"]) fun _ _ _ _ _ _ us hl => match us, hl with | [_, _], _ => rfl
  have F_Wa := fun_mk (st := sWa) l_Wa c_Wa k_Wa
  have b_Wa := F_Wa.binds (ps := ["self", "one", "other"]) fun _ _ _ _ _ _ us hl => match us, hl with | [_, _, _], _ => rfl
  have F_Nr := fun_mk (st := sNr) l_Nr c_Nr k_Nr
  have b_Nr := F_Nr.binds (ps := ["self", "start"]) fun _ _ _ _ _ _ us hl => match us, hl with | [_, _], _ => rfl
  have F_iH := fun_mk (st := sIH) l_iH c_iH k_iH
  have b_iH := F_iH.binds (ps := ["self", "index"]) fun _ _ _ _ _ _ us hl => match us, hl with | [_, _], _ => rfl
  have F_iR := fun_mk (st := sIR) l_iR c_iR k_iR
  have b_iR := F_iR.binds (ps := ["self", "index"]) fun _ _ _ _ _ _ us hl => match us, hl with | [_, _], _ => rfl
  have F_iD := fun_mk (st := sID) l_iD c_iD k_iD
  have b_iD := F_iD.binds (ps := ["self", "index"]) fun _ _ _ _ _ _ us hl => match us, hl with | [_, _], _ => rfl
  have F_iN := fun_mk (st := sIN) l_iN c_iN k_iN
  have b_iN := F_iN.binds (ps := ["self", "house"]) fun _ _ _ _ _ _ us hl => match us, hl with | [_, _], _ => rfl
  have F_iO := fun_mk (st := sIO) l_iO c_iO k_iO
  have b_iO := F_iO.binds (ps := ["self", "one", "other"]) fun _ _ _ _ _ _ us hl => match us, hl with | [_, _, _], _ => rfl
  have F_iC := fun_mk (st := sCl) l_iC c_iC k_iC
  have b_iC := F_iC.binds (ps := ["self", "closing"]) fun _ _ _ _ _ _ us hl => match us, hl with | [_, _], _ => rfl
  have F_iS := fun_mk (st := sIS) l_iS c_iS k_iS
  have b_iS := F_iS.binds (ps := ["self", "house"]) fun _ _ _ _ _ _ us hl => match us, hl with | [_, _], _ => rfl
  have F_iM := fun_mk (st := sIM) l_iM c_iM k_iM
  have b_iM := F_iM.binds (ps := ["self", "many"]) fun _ _ _ _ _ _ us hl => match us, hl with | [_, _], _ => rfl
  have mC := PySem.W.mg_of X G aC
  have mCF := PySem.W.mg_of X G aCF
  have mCH := PySem.W.mg_of X G aCH
  have mCR := PySem.W.mg_of X G aCR
  have mCD := PySem.W.mg_of X G aCD
  have mCN := PySem.W.mg_of X G aCN
  have mCO := PySem.W.mg_of X G aCO
  have mCC := PySem.W.mg_of X G aCC
  have mCS := PySem.W.mg_of X G aCS
  have mCM := PySem.W.mg_of X G aCM
  have y_isinstance := PySem.W.mg_none_of X G z_isinstance
  have y_int := PySem.W.mg_none_of X G z_int
  have y_bool := PySem.W.mg_none_of X G z_bool
  have y_str := PySem.W.mg_none_of X G z_str
  have y_list := PySem.W.mg_none_of X G z_list
  have y_tuple := PySem.W.mg_none_of X G z_tuple
  have y_dict := PySem.W.mg_none_of X G z_dict
  have y_len := PySem.W.mg_none_of X G z_len
  have y_all := PySem.W.mg_none_of X G z_all
  have y_any := PySem.W.mg_none_of X G z_any
  have y_range := PySem.W.mg_none_of X G z_range
  have y_enumerate := PySem.W.mg_none_of X G z_enumerate
  have y_set := PySem.W.mg_none_of X G z_set
  have y_min := PySem.W.mg_none_of X G z_min
  have y_max := PySem.W.mg_none_of X G z_max
  have y_zip := PySem.W.mg_none_of X G z_zip
  have y_sorted := PySem.W.mg_none_of X G z_sorted
  have y_sum := PySem.W.mg_none_of X G z_sum
  have y_repr := PySem.W.mg_none_of X G z_repr
  have B : Bl mg := ⟨y_isinstance, y_int, y_bool, y_str, y_list, y_tuple, y_dict, y_len, y_all⟩
  have S : Signs mg := ⟨⟨_, PySem.W.mg_of X G sgL⟩, ⟨_, PySem.W.mg_of X G sgF⟩, ⟨_, PySem.W.mg_of X G sgN⟩⟩
  have TF : FeC K mg CF := ⟨mCF, fsp, frd, fin⟩
  have OCH : OexC K CH := ⟨⟨_, _, _, _, _, _, _, _, _, _, _, _, _, _, _, xCH, rCH⟩, saCH, exCH, tyCH, kpCH⟩
  have ECH : ErC K mg "BadHouses" CH f_iH := ⟨mCH, OCH, inCH_index, a_iH, ty_iH⟩
  have OCR : OexC K CR := ⟨⟨_, _, _, _, _, _, _, _, _, _, _, _, _, _, _, xCR, rCR⟩, saCR, exCR, tyCR, kpCR⟩
  have ECR : ErC K mg "BadRoads" CR f_iR := ⟨mCR, OCR, inCR_index, a_iR, ty_iR⟩
  have OCD : OexC K CD := ⟨⟨_, _, _, _, _, _, _, _, _, _, _, _, _, _, _, xCD, rCD⟩, saCD, exCD, tyCD, kpCD⟩
  have ECD : ErC K mg "BadHeads" CD f_iD := ⟨mCD, OCD, inCD_index, a_iD, ty_iD⟩
  have OCN : OexC K CN := ⟨⟨_, _, _, _, _, _, _, _, _, _, _, _, _, _, _, xCN, rCN⟩, saCN, exCN, tyCN, kpCN⟩
  have ECN : ErF K mg "NoHouse" CN f_iN ["house"] := ⟨mCN, OCN, fun n hn => by rw [List.mem_singleton.mp hn]; exact inCN_house, a_iN, ty_iN⟩
  have OCO : OexC K CO := ⟨⟨_, _, _, _, _, _, _, _, _, _, _, _, _, _, _, xCO, rCO⟩, saCO, exCO, tyCO, kpCO⟩
  have OCC : OexC K CC := ⟨⟨_, _, _, _, _, _, _, _, _, _, _, _, _, _, _, xCC, rCC⟩, saCC, exCC, tyCC, kpCC⟩
  have ECC : ErF K mg "BadClosing" CC f_iC ["closing"] := ⟨mCC, OCC, fun n hn => by rw [List.mem_singleton.mp hn]; exact inCC_closing, a_iC, ty_iC⟩
  have OCS : OexC K CS := ⟨⟨_, _, _, _, _, _, _, _, _, _, _, _, _, _, _, xCS, rCS⟩, saCS, exCS, tyCS, kpCS⟩
  have ECS : ErF K mg "SameHouse" CS f_iS ["house"] := ⟨mCS, OCS, fun n hn => by rw [List.mem_singleton.mp hn]; exact inCS_house, a_iS, ty_iS⟩
  have OCM : OexC K CM := ⟨⟨_, _, _, _, _, _, _, _, _, _, _, _, _, _, _, xCM, rCM⟩, saCM, exCM, tyCM, kpCM⟩
  have ECM : ErF K mg "BadMany" CM f_iM ["many"] := ⟨mCM, OCM, fun n hn => by rw [List.mem_singleton.mp hn]; exact inCM_many, a_iM, ty_iM⟩
  have noO : ∀ n ∈ (["one", "other"] : List Str), PySem.W.findIn K (.ref CO) n = some none := fun n hn => by
    rcases List.mem_cons.mp hn with e | hn
    · rw [e]; exact inCO_one
    · rw [List.mem_singleton.mp hn]; exact inCO_other
  have ECO : ErF K mg "NoRoad" CO f_iO ["one", "other"] := ⟨mCO, OCO, noO, a_iO, ty_iO⟩
  have XfCC : XfC K CC := ⟨gaCC, ggCC, exCC, hdCC⟩
  have XfCN : XfC K CN := ⟨gaCN, ggCN, exCN, hdCN⟩
  have XfCS : XfC K CS := ⟨gaCS, ggCS, exCS, hdCS⟩
  have XfCM : XfC K CM := ⟨gaCM, ggCM, exCM, hdCM⟩
  have VT0 : VcT K C := ⟨⟨pg, hd, po, sa⟩, n1, n2, n3, n4, n5, n6⟩
  have VE0 : VcE K C := ⟨VT0, ha, hn, htk, hm, own, all_of_kit kno⟩
  have MH : MetH K mg CC CN CS CM := ⟨mCC, mCN, mCS, mCM, em_cc, em_nc, em_nn, em_sc, em_sn, em_ss, em_mc, em_mn, em_ms, em_mm, XfCC, XfCN, XfCS, XfCM, inCC_closing, inCN_house, inCS_house, inCM_many⟩
  have MK : Mk K C f_VI := ⟨mk, a_VI, i_VI, kc⟩
  refine ⟨PySem.W.fnOf "law" "law" (defArgs sLaw) (defBody sLaw) (defScope sLaw) .none kV_law dc_law pm_law an_law cd_law ct_law, cRf, TPR, spLaw K [(TPR, qRef)], hTR, tpNR, PySem.W.codeHd_of_K X tpCR, fun s v => .of_eq rfl, fun H a ns hl hT hS => ⟨a, ns, rfl, hS, by omega, fun p hp => ?_, fun _ => rfl⟩, fun base KB NB TBR => ?_⟩
  · rw [List.mem_singleton.mp hp]; exact LamX.TabS.nil hT
  have uR : ∀ p ∈ [(TPR, qRef)], p.1 = TPR → p.2 = qRef := fun p hp _ => by rw [List.mem_singleton.mp hp]
  have g_draw : FnOk l.prog w K mg base CX0 1 f_draw _ ["spring", "many"] (spDraw) := ok_draw F_draw y_int
  have g_pick : FnOk l.prog w K mg base CX0 2 f_pick _ ["spring", "some"] (spPick) := ok_pick F_pick g_draw b_draw k_draw m_draw y_len
  have g_mixed : FnOk l.prog w K mg base CX0 2 f_mixed _ ["spring", "some"] (spMixed) := ok_mixed F_mixed g_draw b_draw k_draw m_draw y_len y_list y_range
  have g_VN : FnOk l.prog w K mg base CX0 3 f_VN _ ["spring", "least", "most"] (spVN) := ok_VN F_VN B y_range g_draw b_draw k_draw m_draw g_mixed b_mixed k_mixed m_mixed
  have g_VRo : FnOk l.prog w K mg base CX0 3 f_VRo _ ["spring", "names"] (spVRo) := ok_VRo F_VRo B y_range y_max g_draw b_draw k_draw m_draw g_mixed b_mixed k_mixed m_mixed
  have g_VV : FnOk l.prog w K mg base CX0 4 f_VV _ ["spring", "least", "most"] (spVV) := ok_VV F_VV B g_draw b_draw k_draw m_draw g_mixed b_mixed k_mixed m_mixed g_pick b_pick k_pick m_pick g_VN b_VN k_VN m_VN g_VRo b_VRo k_VRo m_VRo
  have g_lo0 : FnOk l.prog w K mg base CX0 1 f_lo _ ["spring", "thing"] (spLo (Flat0 K) 0) := ok_lo0 F_lo B
  have g_lo1 : FnOk l.prog w K mg base CX0 2 f_lo _ ["spring", "thing"] (spLo (SeqR (Flat0 K)) 1) := ok_lo mon_flat0 F_lo B m_lo b_lo g_draw b_draw k_draw m_draw (Nat.le_refl 1) g_lo0
  have g_lo2 : FnOk l.prog w K mg base CX0 3 f_lo _ ["spring", "thing"] (spLo (SeqR (SeqR (Flat0 K))) 61) := ok_lo (mon_seq mon_flat0) F_lo B m_lo b_lo g_draw b_draw k_draw m_draw (by decide) g_lo1
  have g_sm1 : FnOk l.prog w K mg base CX0 1 f_sm _ ["found", "due"] (spSm (RF 1)) := ok_smF (RF.mon 0) F_sm B y_zip m_sm b_sm ok_sm_none
  have g_sm2 : FnOk l.prog w K mg base CX0 2 f_sm _ ["found", "due"] (spSm (RF 2)) := ok_smF (RF.mon 1) F_sm B y_zip m_sm b_sm g_sm1
  have g_sm3 : FnOk l.prog w K mg base CX0 3 f_sm _ ["found", "due"] (spSm (RF 3)) := ok_smF (RF.mon 2) F_sm B y_zip m_sm b_sm g_sm2
  have g_sm4 : FnOk l.prog w K mg base CX0 4 f_sm _ ["found", "due"] (spSm (RF 4)) := ok_smF (RF.mon 3) F_sm B y_zip m_sm b_sm g_sm3
  have g_sm5 : FnOk l.prog w K mg base CX0 5 f_sm _ ["found", "due"] (spSm (RF 5)) := ok_smF (RF.mon 4) F_sm B y_zip m_sm b_sm g_sm4
  have g_sm6 : FnOk l.prog w K mg base CX0 6 f_sm _ ["found", "due"] (spSm (RF 6)) := ok_smF (RF.mon 5) F_sm B y_zip m_sm b_sm g_sm5
  have g_sm7 : FnOk l.prog w K mg base CX0 7 f_sm _ ["found", "due"] (spSm (RF 7)) := ok_smF (RF.mon 6) F_sm B y_zip m_sm b_sm g_sm6
  have g_NH : FnOk l.prog w K mg base (L2.CX l.prog w) 4 f_NH _ ["houses"] (spNH K CH) := ok_NH F_NH B S y_enumerate y_set F_isList b_isList m_isList F_isName b_isName m_isName TF ECH F_iH b_iH
  have g_NR : FnOk l.prog w K mg base (L2.CX l.prog w) 4 f_NR _ ["houses", "roads"] (spNR K CR) := ok_NR F_NR B y_enumerate F_isList b_isList m_isList F_isPair b_isPair m_isPair F_keys b_keys m_keys F_lead b_lead m_lead TF ECR F_iR b_iR
  have g_ND : FnOk l.prog w K mg base (L2.CX l.prog w) 4 f_ND _ ["houses", "heads"] (spND K CD) := ok_ND F_ND B y_enumerate F_isList b_isList m_isList F_fromOne b_fromOne m_fromOne F_isInt b_isInt m_isInt TF ECD F_iD b_iD
  have g_VS : FnOk l.prog w K mg base (L2.CX l.prog w) 5 f_VI _ ["self", "houses", "roads", "heads"] (spVS K C) := ok_VS F_VI B y_enumerate VT0 g_NH k_NH b_NH m_NH g_NR k_NR b_NR m_NR g_ND k_ND b_ND m_ND F_BW b_BW m_BW F_NB b_NB m_NB
  have g_VM : FnOk l.prog w K mg base CX0 7 f_VM _ ["spring", "valley"] (spMd C) := ok_Md F_VM mC MK g_VS b_VI g_lo1 g_lo2 b_lo k_lo m_lo
  have g_Is : FnOk l.prog w K mg base CX0 1 f_Is _ ["self", "thing"] (spIs K C) := ok_Is F_Is B VT0
  have g_Ne : FnOk l.prog w K mg base (L2.CX l.prog w) 3 f_Ne _ ["self", "house"] (spNe K C CN) := ok_Ne F_Ne B VT0 F_Is ⟨a_Is, i_Is, k_Is⟩ b_Is TF ECN F_iN b_iN
  have g_Pl : FnOk l.prog w K mg base (L2.CX l.prog w) 4 f_Pl _ ["self", "one", "other"] (spPl K C CN CO) := ok_Pl F_Pl B VT0 g_Ne ⟨a_Ne, i_Ne, k_Ne⟩ b_Ne TF ECO F_iO b_iO
  have g_Ho : FnOk l.prog w K mg base CX0 1 f_Ho _ ["self"] (spHo C) := ok_Ho F_Ho B VT0
  have g_Ro : FnOk l.prog w K mg base CX0 1 f_Ro _ ["self"] (spRo C) := ok_Ro F_Ro B VT0
  have g_Nv : FnOk l.prog w K mg base CX0 1 f_Nv _ ["valley"] (spNvG C) := ok_NvG F_Nv B VE0 mC
  have g_isList : FnOk l.prog w K mg base CX0 1 f_isList _ ["thing"] (spIsList K) := ok_isList F_isList B
  have g_isPair : FnOk l.prog w K mg base CX0 2 f_isPair _ ["thing"] (spIsPair K) := ok_isPair F_isPair F_isList b_isList m_isList B
  have g_num : FnOk l.prog w K mg base CX0 2 f_num _ ["thing"] (spNum K) := ok_number F_num F_isInt b_isInt m_isInt B
  have g_Nm : FnOk l.prog w K mg base (L2.CX l.prog w) 3 f_Nm _ ["valley", "many"] (spNm K C CM) := ok_Nm F_Nm B VT0 g_num b_num k_num m_num g_Ro ⟨a_Ro, i_Ro, k_Ro⟩ b_Ro TF ECM F_iM b_iM
  have g_Rd : FnOk l.prog w K mg base CX0 3 f_Rd _ ["self", "thing"] (spRd K C) := ok_Rd F_Rd B VT0 g_isPair b_isPair k_isPair m_isPair g_Is ⟨a_Is, i_Is, k_Is⟩ b_Is
  have g_Bg : FnOk l.prog w K mg base CX0 5 f_Bg _ ["valley", "thing"] (spBg K C) := ok_Bg F_Bg B VT0 y_set g_isList b_isList k_isList m_isList g_Rd ⟨a_Rd, i_Rd, k_Rd⟩ b_Rd g_Pl ⟨a_Pl, i_Pl, k_Pl⟩ b_Pl
  have g_Ep : FnOk l.prog w K mg base CX0 6 f_Ep _ ["valley", "thing"] (spEp K C) := ok_Ep F_Ep B VT0 g_Bg b_Bg k_Bg m_Bg g_Ro ⟨a_Ro, i_Ro, k_Ro⟩ b_Ro
  have g_Cg : FnOk l.prog w K mg base (L2.CX l.prog w) 7 f_Cg _ ["valley", "closing"] (spCg K C CC) := ok_Cg F_Cg g_Ep b_Ep k_Ep m_Ep TF ECC F_iC b_iC
  have g_Io : FnOk l.prog w K mg base CX0 2 f_Io _ ["valley", "some"] (spIo C) := ok_Io F_Io VT0 y_set g_Ho ⟨a_Ho, i_Ho, k_Ho⟩ b_Ho
  have g_Ju : FnOk l.prog w K mg base CX0 3 f_Ju _ ["valley", "places"] (spJu C) := ok_Ju F_Ju VT0 g_Ho ⟨a_Ho, i_Ho, k_Ho⟩ b_Ho g_Ro ⟨a_Ro, i_Ro, k_Ro⟩ b_Ro g_Io b_Io k_Io m_Io
  have g_Nr : FnOk l.prog w K mg base CX0 1 f_Nr _ ["self", "start"] (spNr C) := ok_Nr F_Nr VT0
  have g_Wa : FnOk l.prog w K mg base (L2.CX l.prog w) 4 f_Wa _ ["self", "one", "other"] (spWa K C CN) := ok_Wa F_Wa VT0 g_Ne ⟨a_Ne, i_Ne, k_Ne⟩ b_Ne g_Nr ⟨a_Nr, i_Nr, k_Nr⟩ b_Nr
  have g_Bt : FnOk l.prog w K mg base (L2.CX l.prog w) 5 f_Bt _ ["valley", "one", "other"] (spBt K C CN) := ok_Bt F_Bt VT0 y_zip g_Wa ⟨a_Wa, i_Wa, k_Wa⟩ b_Wa g_Pl ⟨a_Pl, i_Pl, k_Pl⟩ b_Pl
  have g_Sj : FnOk l.prog w K mg base (L2.CX l.prog w) 8 f_Sj _ ["valley", "closing", "house", "many"] (spSj K C CC CN CM) := ok_Sj F_Sj VT0 g_Nv b_Nv k_Nv m_Nv g_Cg b_Cg k_Cg m_Cg g_Ne ⟨a_Ne, i_Ne, k_Ne⟩ b_Ne g_Nm b_Nm k_Nm m_Nm g_Ju b_Ju k_Ju m_Ju
  have g_Pb : FnOk l.prog w K mg base (L2.CX l.prog w) 8 f_Pb _ ["valley", "closing", "one", "other"] (spPb K C CC CN CS) := ok_Pb F_Pb VT0 y_min g_Nv b_Nv k_Nv m_Nv g_Cg b_Cg k_Cg m_Cg g_Bt b_Bt k_Bt m_Bt g_Ro ⟨a_Ro, i_Ro, k_Ro⟩ b_Ro TF ECS F_iS b_iS
  have g_spring : FnOk l.prog w K mg base CX0 1 f_spring _ ["script", "turn"] (spSpring K) := ok_spring F_spring B y_enumerate
  have g_Hd : FnOk l.prog w K mg base CX0 4 f_Hd _ ["spring", "evening"] (spHd K) := ok_Hd F_Hd g_draw b_draw k_draw m_draw g_lo2 b_lo k_lo m_lo
  have g_Vn : FnOk l.prog w K mg base CX0 1 f_Vn _ ["valley", "house"] (spVn) := ok_Vn F_Vn
  have g_Vw : FnOk l.prog w K mg base CX0 2 f_Vw _ ["valley", "one", "other"] (spVw) := ok_Vw F_Vw B g_Vn b_Vn k_Vn m_Vn
  have g_Nc : FnOk l.prog w K mg base CX0 1 f_Nc _ ["valley", "closing", "many"] (spNc) := ok_Nc F_Nc B
  have g_Pu : FnOk l.prog w K mg base CX0 1 f_Pu _ ["held", "other"] (spPu) := ok_Pu F_Pu B
  have g_Oe : FnOk l.prog w K mg base CX0 2 f_Oe _ ["spring", "valley", "evening"] (spOe K) := ok_Oe F_Oe B g_draw b_draw k_draw m_draw
  have g_Odd : FnOk l.prog w K mg base CX0 1 f_Odd _ ["names"] (spOdd) := ok_Odd F_Odd
  have g_Jr : Wr.FnG l.prog w K mg base CX0 9 f_Jr _ ["spring", "made", "valley", "closing", "many"] (spJr C) := ok_Jr F_Jr y_repr g_Hd b_Hd k_Hd m_Hd g_Nc b_Nc k_Nc m_Nc g_mixed b_mixed k_mixed m_mixed g_sm2 b_sm k_sm m_sm g_Sj b_Sj (kb_Sj F_Sj) k_Sj m_Sj
  have g_Tr : FnOk l.prog w K mg base CX0 9 f_Tr _ ["spring", "made", "valley", "closing", "one", "other"] (spTr C) := ok_Tr F_Tr y_min y_any g_Vw b_Vw k_Vw m_Vw g_Hd b_Hd k_Hd m_Hd g_Nc b_Nc k_Nc m_Nc g_sm4 b_sm k_sm m_sm g_Pb b_Pb (kb_Pb F_Pb) k_Pb m_Pb
  have g_Ref : FnOk l.prog w K mg base CX0 12 f_Ref _ ["spring", "made", "valley", "closing"] (spRef C [(TPR, qRef)]) := ok_ref B l_Ref c_Ref MH F_met b_met m_met TBR (List.mem_singleton.mpr rfl) uR g_sm7 b_sm k_sm m_sm g_Pb b_Pb k_Pb m_Pb g_Sj b_Sj k_Sj m_Sj g_Oe b_Oe k_Oe m_Oe g_Odd b_Odd k_Odd m_Odd
  have b_Ref : Binds K (PySem.W.fnOf "_law_refused_right" "_law_refused_right" (defArgs sRef) (defBody sRef) (defScope sRef) .none kV_Ref dc_Ref pm_Ref an_Ref (.ref cRf) ct_Ref) ["spring", "made", "valley", "closing"] [] := Binds.all fun us hl => match us, hl with | [_, _, _, _], _ => rfl
  exact ok_law F_law B y_range y_min y_max g_spring b_spring k_spring m_spring g_VV b_VV k_VV m_VV g_VM b_VM k_VM m_VM g_mixed b_mixed k_mixed m_mixed g_Tr b_Tr k_Tr m_Tr g_pick b_pick k_pick m_pick g_draw b_draw k_draw m_draw g_Sj b_Sj k_Sj m_Sj g_Pu b_Pu k_Pu m_Pu g_Nc b_Nc k_Nc m_Nc g_sm3 b_sm k_sm m_sm g_Ref b_Ref k_Ref m_Ref g_Jr b_Jr k_Jr m_Jr
end K1
end
-- EHead
open PySem PySem.W PyProof.Rows
set_option Elab.async false
set_option maxRecDepth 100000 in
set_option maxHeartbeats 0 in
theorem PySem.Challenge.cw_feasted_k84_whole_parted_holds : PySem.Challenge.rw_feasted_k84_whole_parted.Holds := by
  w_on; o_law; k_head; (case hw => w_witness2)
  k_fill
  refine Wr.walk_G (l := PySem.Challenge.rw_feasted_k84_whole_parted) (n := 63) (k := 13) (x := "script") (CX := fun _ => C8.CX0) rfl (by decide) rfl ⟨rfl, by decide, by decide⟩ (fun w h Y => PySem.W.km_in_of Y) ?F (fun _ _ _ _ _ z => z)
  case F =>
    intro w mg fa h Y KX G hmg
    refine' K1.all_mk KX G hmg (PySem.W.km_tabs_of Y _ (List.mem_singleton.mpr rfl)) ?a_isInt ?l_isInt ?c_isInt ?k_isInt ?a_num ?l_num ?c_num ?k_num ?a_fromOne ?l_fromOne ?c_fromOne ?k_fromOne ?a_isList ?l_isList ?c_isList ?k_isList ?a_isPair ?l_isPair ?c_isPair ?k_isPair ?a_isName ?l_isName ?c_isName ?k_isName ?a_draw ?l_draw ?c_draw ?k_draw ?a_pick ?l_pick ?c_pick ?k_pick ?a_mixed ?l_mixed ?c_mixed ?k_mixed ?a_ND ?l_ND ?c_ND ?k_ND ?a_NH ?l_NH ?c_NH ?k_NH ?a_NR ?l_NR ?c_NR ?k_NR ?a_keys ?l_keys ?c_keys ?k_keys ?a_lead ?l_lead ?c_lead ?k_lead ?a_BW ?l_BW ?c_BW ?k_BW ?a_NB ?l_NB ?c_NB ?k_NB ?a_Nv ?l_Nv ?c_Nv ?k_Nv ?a_Nm ?l_Nm ?c_Nm ?k_Nm ?a_Bg ?l_Bg ?c_Bg ?k_Bg ?a_Ep ?l_Ep ?c_Ep ?k_Ep ?a_Cg ?l_Cg ?c_Cg ?k_Cg ?a_Io ?l_Io ?c_Io ?k_Io ?a_Ju ?l_Ju ?c_Ju ?k_Ju ?a_Bt ?l_Bt ?c_Bt ?k_Bt ?a_Pb ?l_Pb ?c_Pb ?k_Pb ?a_Sj ?l_Sj ?c_Sj ?k_Sj ?a_spring ?l_spring ?c_spring ?k_spring ?a_VN ?l_VN ?c_VN ?k_VN ?a_VRo ?l_VRo ?c_VRo ?k_VRo ?a_VV ?l_VV ?c_VV ?k_VV ?a_lo ?l_lo ?c_lo ?k_lo ?a_VM ?l_VM ?c_VM ?k_VM ?a_sm ?l_sm ?c_sm ?k_sm ?a_met ?l_met ?c_met ?k_met ?a_Vn ?l_Vn ?c_Vn ?k_Vn ?a_Hd ?l_Hd ?c_Hd ?k_Hd ?a_Oe ?l_Oe ?c_Oe ?k_Oe ?a_Odd ?l_Odd ?c_Odd ?k_Odd ?a_Vw ?l_Vw ?c_Vw ?k_Vw ?a_Nc ?l_Nc ?c_Nc ?k_Nc ?a_Pu ?l_Pu ?c_Pu ?k_Pu ?a_Tr ?l_Tr ?c_Tr ?k_Tr ?a_Jr ?l_Jr ?c_Jr ?k_Jr ?a_Ref ?l_Ref ?c_Ref ?k_Ref ?a_law ?l_law ?c_law ?k_law ?aC ?aCF ?aCH ?aCR ?aCD ?aCN ?aCO ?aCC ?aCS ?aCM ?a_VI ?i_VI ?l_VI ?c_VI ?k_VI ?a_Ho ?i_Ho ?l_Ho ?c_Ho ?k_Ho ?a_Ro ?i_Ro ?l_Ro ?c_Ro ?k_Ro ?a_Is ?i_Is ?l_Is ?c_Is ?k_Is ?a_Ne ?i_Ne ?l_Ne ?c_Ne ?k_Ne ?a_Pl ?i_Pl ?l_Pl ?c_Pl ?k_Pl ?a_Rd ?i_Rd ?l_Rd ?c_Rd ?k_Rd ?a_Wa ?i_Wa ?l_Wa ?c_Wa ?k_Wa ?a_Nr ?i_Nr ?l_Nr ?c_Nr ?k_Nr ?a_iH ?i_iH ?l_iH ?c_iH ?k_iH ?a_iR ?i_iR ?l_iR ?c_iR ?k_iR ?a_iD ?i_iD ?l_iD ?c_iD ?k_iD ?a_iN ?i_iN ?l_iN ?c_iN ?k_iN ?a_iO ?i_iO ?l_iO ?c_iO ?k_iO ?a_iC ?i_iC ?l_iC ?c_iC ?k_iC ?a_iS ?i_iS ?l_iS ?c_iS ?k_iS ?a_iM ?i_iM ?l_iM ?c_iM ?k_iM ?pg ?hd ?po ?sa ?mk ?kc ?n1 ?n2 ?n3 ?n4 ?n5 ?n6 ?ha ?hn ?htk ?hm ?own ?kno ?fsp ?frd ?fin ?xCH ?rCH ?saCH ?exCH ?tyCH ?kpCH ?inCH_index ?ty_iH ?xCR ?rCR ?saCR ?exCR ?tyCR ?kpCR ?inCR_index ?ty_iR ?xCD ?rCD ?saCD ?exCD ?tyCD ?kpCD ?inCD_index ?ty_iD ?xCN ?rCN ?saCN ?exCN ?tyCN ?kpCN ?inCN_house ?ty_iN ?xCO ?rCO ?saCO ?exCO ?tyCO ?kpCO ?inCO_one ?inCO_other ?ty_iO ?xCC ?rCC ?saCC ?exCC ?tyCC ?kpCC ?inCC_closing ?ty_iC ?xCS ?rCS ?saCS ?exCS ?tyCS ?kpCS ?inCS_house ?ty_iS ?xCM ?rCM ?saCM ?exCM ?tyCM ?kpCM ?inCM_many ?ty_iM ?gaCC ?ggCC ?hdCC ?gaCN ?ggCN ?hdCN ?gaCS ?ggCS ?hdCS ?gaCM ?ggCM ?hdCM ?em_cc ?em_nc ?em_nn ?em_sc ?em_sn ?em_ss ?em_mc ?em_mn ?em_ms ?em_mm ?sgL ?sgF ?sgN ?z_isinstance ?z_int ?z_bool ?z_str ?z_list ?z_tuple ?z_dict ?z_len ?z_all ?z_any ?z_range ?z_enumerate ?z_set ?z_min ?z_max ?z_zip ?z_sorted ?z_sum ?z_repr ?tpNR ?tpCR
    (case a_isInt => (k_is))
    (case l_isInt => (k_is))
    (case c_isInt => (k_is))
    (case k_isInt => (k_is))
    (case a_num => (k_is))
    (case l_num => (k_is))
    (case c_num => (k_is))
    (case k_num => (k_is))
    (case a_fromOne => (k_is))
    (case l_fromOne => (k_is))
    (case c_fromOne => (k_is))
    (case k_fromOne => (k_is))
    (case a_isList => (k_is))
    (case l_isList => (k_is))
    (case c_isList => (k_is))
    (case k_isList => (k_is))
    (case a_isPair => (k_is))
    (case l_isPair => (k_is))
    (case c_isPair => (k_is))
    (case k_isPair => (k_is))
    (case a_isName => (k_is))
    (case l_isName => (k_is))
    (case c_isName => (k_is))
    (case k_isName => (k_is))
    (case a_draw => (k_is))
    (case l_draw => (k_is))
    (case c_draw => (k_is))
    (case k_draw => (k_is))
    (case a_pick => (k_is))
    (case l_pick => (k_is))
    (case c_pick => (k_is))
    (case k_pick => (k_is))
    (case a_mixed => (k_is))
    (case l_mixed => (k_is))
    (case c_mixed => (k_is))
    (case k_mixed => (k_is))
    (case a_ND => (k_is))
    (case l_ND => (k_is))
    (case c_ND => (k_is))
    (case k_ND => (k_is))
    (case a_NH => (k_is))
    (case l_NH => (k_is))
    (case c_NH => (k_is))
    (case k_NH => (k_is))
    (case a_NR => (k_is))
    (case l_NR => (k_is))
    (case c_NR => (k_is))
    (case k_NR => (k_is))
    (case a_keys => (k_is))
    (case l_keys => (k_is))
    (case c_keys => (k_is))
    (case k_keys => (k_is))
    (case a_lead => (k_is))
    (case l_lead => (k_is))
    (case c_lead => (k_is))
    (case k_lead => (k_is))
    (case a_BW => (k_is))
    (case l_BW => (k_is))
    (case c_BW => (k_is))
    (case k_BW => (k_is))
    (case a_NB => (k_is))
    (case l_NB => (k_is))
    (case c_NB => (k_is))
    (case k_NB => (k_is))
    (case a_Nv => (k_is))
    (case l_Nv => (k_is))
    (case c_Nv => (k_is))
    (case k_Nv => (k_is))
    (case a_Nm => (k_is))
    (case l_Nm => (k_is))
    (case c_Nm => (k_is))
    (case k_Nm => (k_is))
    (case a_Bg => (k_is))
    (case l_Bg => (k_is))
    (case c_Bg => (k_is))
    (case k_Bg => (k_is))
    (case a_Ep => (k_is))
    (case l_Ep => (k_is))
    (case c_Ep => (k_is))
    (case k_Ep => (k_is))
    (case a_Cg => (k_is))
    (case l_Cg => (k_is))
    (case c_Cg => (k_is))
    (case k_Cg => (k_is))
    (case a_Io => (k_is))
    (case l_Io => (k_is))
    (case c_Io => (k_is))
    (case k_Io => (k_is))
    (case a_Ju => (k_is))
    (case l_Ju => (k_is))
    (case c_Ju => (k_is))
    (case k_Ju => (k_is))
    (case a_Bt => (k_is))
    (case l_Bt => (k_is))
    (case c_Bt => (k_is))
    (case k_Bt => (k_is))
    (case a_Pb => (k_is))
    (case l_Pb => (k_is))
    (case c_Pb => (k_is))
    (case k_Pb => (k_is))
    (case a_Sj => (k_is))
    (case l_Sj => (k_is))
    (case c_Sj => (k_is))
    (case k_Sj => (k_is))
    (case a_spring => (k_is))
    (case l_spring => (k_is))
    (case c_spring => (k_is))
    (case k_spring => (k_is))
    (case a_VN => (k_is))
    (case l_VN => (k_is))
    (case c_VN => (k_is))
    (case k_VN => (k_is))
    (case a_VRo => (k_is))
    (case l_VRo => (k_is))
    (case c_VRo => (k_is))
    (case k_VRo => (k_is))
    (case a_VV => (k_is))
    (case l_VV => (k_is))
    (case c_VV => (k_is))
    (case k_VV => (k_is))
    (case a_lo => (k_is))
    (case l_lo => (k_is))
    (case c_lo => (k_is))
    (case k_lo => (k_is))
    (case a_VM => (k_is))
    (case l_VM => (k_is))
    (case c_VM => (k_is))
    (case k_VM => (k_is))
    (case a_sm => (k_is))
    (case l_sm => (k_is))
    (case c_sm => (k_is))
    (case k_sm => (k_is))
    (case a_met => (k_is))
    (case l_met => (k_is))
    (case c_met => (k_is))
    (case k_met => (k_is))
    (case a_Vn => (k_is))
    (case l_Vn => (k_is))
    (case c_Vn => (k_is))
    (case k_Vn => (k_is))
    (case a_Hd => (k_is))
    (case l_Hd => (k_is))
    (case c_Hd => (k_is))
    (case k_Hd => (k_is))
    (case a_Oe => (k_is))
    (case l_Oe => (k_is))
    (case c_Oe => (k_is))
    (case k_Oe => (k_is))
    (case a_Odd => (k_is))
    (case l_Odd => (k_is))
    (case c_Odd => (k_is))
    (case k_Odd => (k_is))
    (case a_Vw => (k_is))
    (case l_Vw => (k_is))
    (case c_Vw => (k_is))
    (case k_Vw => (k_is))
    (case a_Nc => (k_is))
    (case l_Nc => (k_is))
    (case c_Nc => (k_is))
    (case k_Nc => (k_is))
    (case a_Pu => (k_is))
    (case l_Pu => (k_is))
    (case c_Pu => (k_is))
    (case k_Pu => (k_is))
    (case a_Tr => (k_is))
    (case l_Tr => (k_is))
    (case c_Tr => (k_is))
    (case k_Tr => (k_is))
    (case a_Jr => (k_is))
    (case l_Jr => (k_is))
    (case c_Jr => (k_is))
    (case k_Jr => (k_is))
    (case a_Ref => (k_is))
    (case l_Ref => (k_is))
    (case c_Ref => (k_is))
    (case k_Ref => (k_is))
    (case a_law => (k_is))
    (case l_law => (k_is))
    (case c_law => (k_is))
    (case k_law => (k_is))
    (case aC => (k_is))
    (case aCF => (k_is))
    (case aCH => (k_is))
    (case aCR => (k_is))
    (case aCD => (k_is))
    (case aCN => (k_is))
    (case aCO => (k_is))
    (case aCC => (k_is))
    (case aCS => (k_is))
    (case aCM => (k_is))
    (case a_VI => (k_is))
    (case i_VI => (k_is))
    (case l_VI => (k_is))
    (case c_VI => (k_is))
    (case k_VI => (k_is))
    (case a_Ho => (k_is))
    (case i_Ho => (k_is))
    (case l_Ho => (k_is))
    (case c_Ho => (k_is))
    (case k_Ho => (k_is))
    (case a_Ro => (k_is))
    (case i_Ro => (k_is))
    (case l_Ro => (k_is))
    (case c_Ro => (k_is))
    (case k_Ro => (k_is))
    (case a_Is => (k_is))
    (case i_Is => (k_is))
    (case l_Is => (k_is))
    (case c_Is => (k_is))
    (case k_Is => (k_is))
    (case a_Ne => (k_is))
    (case i_Ne => (k_is))
    (case l_Ne => (k_is))
    (case c_Ne => (k_is))
    (case k_Ne => (k_is))
    (case a_Pl => (k_is))
    (case i_Pl => (k_is))
    (case l_Pl => (k_is))
    (case c_Pl => (k_is))
    (case k_Pl => (k_is))
    (case a_Rd => (k_is))
    (case i_Rd => (k_is))
    (case l_Rd => (k_is))
    (case c_Rd => (k_is))
    (case k_Rd => (k_is))
    (case a_Wa => (k_is))
    (case i_Wa => (k_is))
    (case l_Wa => (k_is))
    (case c_Wa => (k_is))
    (case k_Wa => (k_is))
    (case a_Nr => (k_is))
    (case i_Nr => (k_is))
    (case l_Nr => (k_is))
    (case c_Nr => (k_is))
    (case k_Nr => (k_is))
    (case a_iH => (k_is))
    (case i_iH => (k_is))
    (case l_iH => (k_is))
    (case c_iH => (k_is))
    (case k_iH => (k_is))
    (case a_iR => (k_is))
    (case i_iR => (k_is))
    (case l_iR => (k_is))
    (case c_iR => (k_is))
    (case k_iR => (k_is))
    (case a_iD => (k_is))
    (case i_iD => (k_is))
    (case l_iD => (k_is))
    (case c_iD => (k_is))
    (case k_iD => (k_is))
    (case a_iN => (k_is))
    (case i_iN => (k_is))
    (case l_iN => (k_is))
    (case c_iN => (k_is))
    (case k_iN => (k_is))
    (case a_iO => (k_is))
    (case i_iO => (k_is))
    (case l_iO => (k_is))
    (case c_iO => (k_is))
    (case k_iO => (k_is))
    (case a_iC => (k_is))
    (case i_iC => (k_is))
    (case l_iC => (k_is))
    (case c_iC => (k_is))
    (case k_iC => (k_is))
    (case a_iS => (k_is))
    (case i_iS => (k_is))
    (case l_iS => (k_is))
    (case c_iS => (k_is))
    (case k_iS => (k_is))
    (case a_iM => (k_is))
    (case i_iM => (k_is))
    (case l_iM => (k_is))
    (case c_iM => (k_is))
    (case k_iM => (k_is))
    (case pg => (k_is))
    (case hd => (k_is))
    (case po => (k_is))
    (case sa => (k_is))
    (case mk => (k_is))
    (case kc => (k_is))
    (case n1 => (k_is))
    (case n2 => (k_is))
    (case n3 => (k_is))
    (case n4 => (k_is))
    (case n5 => (k_is))
    (case n6 => (k_is))
    (case ha => (k_is))
    (case hn => (k_is))
    (case htk => (k_is))
    (case hm => (k_is))
    (case own => (kernel_rfl))
    (case kno => (kernel_rfl))
    (case fsp => (k_is))
    (case frd => (k_is))
    (case fin => (k_is))
    (case xCH => (k_is))
    (case rCH => (first | kernel_rfl | decide +kernel))
    (case saCH => (k_is))
    (case exCH => (k_is))
    (case tyCH => (k_is))
    (case kpCH => (k_is))
    (case inCH_index => (k_is))
    (case ty_iH => (k_is))
    (case xCR => (k_is))
    (case rCR => (first | kernel_rfl | decide +kernel))
    (case saCR => (k_is))
    (case exCR => (k_is))
    (case tyCR => (k_is))
    (case kpCR => (k_is))
    (case inCR_index => (k_is))
    (case ty_iR => (k_is))
    (case xCD => (k_is))
    (case rCD => (first | kernel_rfl | decide +kernel))
    (case saCD => (k_is))
    (case exCD => (k_is))
    (case tyCD => (k_is))
    (case kpCD => (k_is))
    (case inCD_index => (k_is))
    (case ty_iD => (k_is))
    (case xCN => (k_is))
    (case rCN => (first | kernel_rfl | decide +kernel))
    (case saCN => (k_is))
    (case exCN => (k_is))
    (case tyCN => (k_is))
    (case kpCN => (k_is))
    (case inCN_house => (k_is))
    (case ty_iN => (k_is))
    (case xCO => (k_is))
    (case rCO => (first | kernel_rfl | decide +kernel))
    (case saCO => (k_is))
    (case exCO => (k_is))
    (case tyCO => (k_is))
    (case kpCO => (k_is))
    (case inCO_one => (k_is))
    (case inCO_other => (k_is))
    (case ty_iO => (k_is))
    (case xCC => (k_is))
    (case rCC => (first | kernel_rfl | decide +kernel))
    (case saCC => (k_is))
    (case exCC => (k_is))
    (case tyCC => (k_is))
    (case kpCC => (k_is))
    (case inCC_closing => (k_is))
    (case ty_iC => (k_is))
    (case xCS => (k_is))
    (case rCS => (first | kernel_rfl | decide +kernel))
    (case saCS => (k_is))
    (case exCS => (k_is))
    (case tyCS => (k_is))
    (case kpCS => (k_is))
    (case inCS_house => (k_is))
    (case ty_iS => (k_is))
    (case xCM => (k_is))
    (case rCM => (first | kernel_rfl | decide +kernel))
    (case saCM => (k_is))
    (case exCM => (k_is))
    (case tyCM => (k_is))
    (case kpCM => (k_is))
    (case inCM_many => (k_is))
    (case ty_iM => (k_is))
    (case gaCC => (k_is))
    (case ggCC => (k_is))
    (case hdCC => (k_is))
    (case gaCN => (k_is))
    (case ggCN => (k_is))
    (case hdCN => (k_is))
    (case gaCS => (k_is))
    (case ggCS => (k_is))
    (case hdCS => (k_is))
    (case gaCM => (k_is))
    (case ggCM => (k_is))
    (case hdCM => (k_is))
    (case em_cc => (kernel_rfl))
    (case em_nc => (kernel_rfl))
    (case em_nn => (kernel_rfl))
    (case em_sc => (kernel_rfl))
    (case em_sn => (kernel_rfl))
    (case em_ss => (kernel_rfl))
    (case em_mc => (kernel_rfl))
    (case em_mn => (kernel_rfl))
    (case em_ms => (kernel_rfl))
    (case em_mm => (kernel_rfl))
    (case sgL => (k_is))
    (case sgF => (k_is))
    (case sgN => (k_is))
    (case z_isinstance => (k_is))
    (case z_int => (k_is))
    (case z_bool => (k_is))
    (case z_str => (k_is))
    (case z_list => (k_is))
    (case z_tuple => (k_is))
    (case z_dict => (k_is))
    (case z_len => (k_is))
    (case z_all => (k_is))
    (case z_any => (k_is))
    (case z_range => (k_is))
    (case z_enumerate => (k_is))
    (case z_set => (k_is))
    (case z_min => (k_is))
    (case z_max => (k_is))
    (case z_zip => (k_is))
    (case z_sorted => (k_is))
    (case z_sum => (k_is))
    (case z_repr => (k_is))
    (case tpNR => (kernel_rfl))
    (case tpCR => (kernel_rfl))
