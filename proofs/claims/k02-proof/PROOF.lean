import PyProof.Rows.All
import Wide.All
import OpenK.AllK
import Wide.FinOn
import HandS.ForExc
import HandS.ForMost
import HandS.Wide
import HandS.IsInst
import PySem.Challenge.RW_feasted_k02_whole_sides
import HandS.ExcInit
import HandS.Walk
import KE.GoesEnum
import KE.GoesMore
import HandS.Iter
import HandS.SetKeys
import HandS.DictComp
import PyProof.IsiBase
import PyProof.IsiH_set
import HandS.OwnEq
import HandS.NamedTupSort
import HandS.Style
import HandS.TryMany
import HandS.ExcField
import HandS.Lambda
import HandS.MakeKwOnly
import HandS.Zip
import HandS.ListItems
import HandS.EndTab
import KE.KNestM
-- KBase
section
set_option Elab.async false
set_option linter.all false
set_option maxRecDepth 100000
set_option maxHeartbeats 4000000
namespace K1
open PySem PySem.Spec PyProof.Rows L2
def top (i : Nat) : Stmt := PySem.Challenge.pw_feasted_k02_whole_sides.main.body.getD i (.Pass ⟨0, 0, 0, 0⟩)
abbrev sIsInt : Stmt := top 12
abbrev sFromOne : Stmt := top 13
abbrev sIsList : Stmt := top 14
abbrev sIsPair : Stmt := top 15
abbrev sIsName : Stmt := top 16
abbrev sDraw : Stmt := top 28
abbrev sPick : Stmt := top 29
abbrev sMixed : Stmt := top 30
/-- a statement that is never reached -/
theorem ps_dead {X : Cx} {st : Stmt} : PS X st (fun _ _ _ => False) := ⟨fun _ _ _ _ _ _ h => h.elim⟩
theorem pe_dead {X : Cx} {e : Expr} : PE X e (fun _ _ _ => False) := ⟨fun _ _ _ _ _ _ h => h.elim⟩
/-- a power whose bits are below the model's line -/
def CPowX (i j : Int) : Prop := 0 ≤ j ∧ (Builtin.Int.intBits i : Int) * j ≤ 2 ^ 27
theorem op_powX {X : Cx} : OpR X (binaryOp .Pow) (rI CPowX fun i j => .int (i ^ j.toNat)) := opI fun _ _ _ _ _ _ _ hc q => pow_int hc.1 hc.2 q
theorem Same.upd {H : Hp} {p : Addr} {o : HO} (h : H p = none) : Same H (upd H p o) := fun b u e => by rw [upd_ne (ne_of_none e h)]; exact e
end K1
end
-- KKinds
section
set_option Elab.async false
set_option linter.all false
set_option maxRecDepth 100000
set_option maxHeartbeats 4000000
namespace K1
open PySem PySem.Spec PyProof.Rows L2
def letters : Str := "abcdefghijklmnopqrstuvwxyz"
def figures : Str := "0123456789"
def okSign (c : Nat) : Bool := decide (c ∈ letters.cps.toList) || decide (c ∈ figures.cps.toList)
def nameOk (s : Str) : Bool := decide (1 ≤ s.length) && (decide (s.length ≤ 8) && ((s.cps.toList.head?.any fun c => decide (c ∈ letters.cps.toList)) && s.cps.toList.all okSign))
/-- the types of the values that are asked of -/
def kinds : List String := ["int", "bool", "str", "NoneType", "list", "tuple", "dict"]
theorem TyX.ext {K : PySem.W.Frag} {H H' : Hp} {x : V} {t : Value} (h : TyX K H x t) (e : Same H H') : TyX K H' x t := by
  cases h with
  | base b =>
    refine .base ?_
    cases b with
    | non => exact .non
    | bl y => exact .bl y
    | int i => exact .int i
    | str y => exact .str y
    | flt y => exact .flt y
    | lst ea => exact .lst (e _ _ ea)
    | frz ea => exact .frz (e _ _ ea)
    | tup ea => exact .tup (e _ _ ea)
    | dK ea => exact .dK (e _ _ ea)
    | dT ea => exact .dT (e _ _ ea)
    | ins ea cl ha hn htk hm => exact .ins (e _ _ ea) cl ha hn htk hm
  | byt y => exact .byt y
  | set ea => exact .set (e _ _ ea)
  | kList a b => exact .kList a b
  | kTuple a b => exact .kTuple a b
  | kDict a b => exact .kDict a b
  | fTuple ea => exact .fTuple (e _ _ ea)
  | fDict ea => exact .fDict (e _ _ ea)
theorem kit_int {K : PySem.W.Frag} {t : String} (h : t ∈ kinds) : PySem.W.kitOne K (.type t) (.type "int") = some (decide (t = "int" ∨ t = "bool")) := by
  simp only [kinds, List.mem_cons, List.not_mem_nil, or_false] at h
  rcases h with rfl | rfl | rfl | rfl | rfl | rfl | rfl <;> exact kit_ty (by decide +kernel)
theorem kit_bool {K : PySem.W.Frag} {t : String} (h : t ∈ kinds) : PySem.W.kitOne K (.type t) (.type "bool") = some (decide (t = "bool")) := by
  simp only [kinds, List.mem_cons, List.not_mem_nil, or_false] at h
  rcases h with rfl | rfl | rfl | rfl | rfl | rfl | rfl <;> exact kit_ty (by decide +kernel)
theorem kit_str {K : PySem.W.Frag} {t : String} (h : t ∈ kinds) : PySem.W.kitOne K (.type t) (.type "str") = some (decide (t = "str")) := by
  simp only [kinds, List.mem_cons, List.not_mem_nil, or_false] at h
  rcases h with rfl | rfl | rfl | rfl | rfl | rfl | rfl <;> exact kit_ty (by decide +kernel)
theorem kit_list {K : PySem.W.Frag} {t : String} (h : t ∈ kinds) : PySem.W.kitOne K (.type t) (.type "list") = some (decide (t = "list")) := by
  simp only [kinds, List.mem_cons, List.not_mem_nil, or_false] at h
  rcases h with rfl | rfl | rfl | rfl | rfl | rfl | rfl <;> exact kit_ty (by decide +kernel)
theorem kit_tuple {K : PySem.W.Frag} {t : String} (h : t ∈ kinds) : PySem.W.kitOne K (.type t) (.type "tuple") = some (decide (t = "tuple")) := by
  simp only [kinds, List.mem_cons, List.not_mem_nil, or_false] at h
  rcases h with rfl | rfl | rfl | rfl | rfl | rfl | rfl <;> exact kit_ty (by decide +kernel)
theorem kit_dict {K : PySem.W.Frag} {t : String} (h : t ∈ kinds) : PySem.W.kitOne K (.type t) (.type "dict") = some (decide (t = "dict")) := by
  simp only [kinds, List.mem_cons, List.not_mem_nil, or_false] at h
  rcases h with rfl | rfl | rfl | rfl | rfl | rfl | rfl <;> exact kit_ty (by decide +kernel)
def isSeqT (t : String) : Bool := decide (t = "list") || decide (t = "tuple")
theorem kit_seq {K : PySem.W.Frag} {t : String} (h : t ∈ kinds) : PySem.W.kitAny K (.type t) [.type "list", .type "tuple"] = some (isSeqT t) := by
  unfold PySem.W.kitAny
  rw [kit_list h]
  unfold isSeqT
  by_cases e : t = "list"
  · rw [decide_eq_true e]; rfl
  · rw [decide_eq_false e]
    show PySem.W.kitAny K (.type t) [.type "tuple"] = _
    unfold PySem.W.kitAny
    rw [kit_tuple h]
    by_cases e2 : t = "tuple"
    · rw [decide_eq_true e2]; rfl
    · rw [decide_eq_false e2]; rfl
/-- a tracked list or tuple of just these -/
def SeqV (H : Hp) (v : V) (xs : List V) : Prop := ∃ p, v = .ref p ∧ (H p = some (.lst xs) ∨ H p = some (.tup xs))
theorem SeqV.ext {H H' : Hp} {v : V} {xs : List V} (h : SeqV H v xs) (e : Same H H') : SeqV H' v xs := by
  obtain ⟨p, rfl, h⟩ := h
  exact ⟨p, rfl, h.imp (e _ _) (e _ _)⟩
theorem SeqV.ty {K : PySem.W.Frag} {H : Hp} {v : V} {xs : List V} (h : SeqV H v xs) : ∃ t, TyX K H v (.type t) ∧ t ∈ kinds ∧ isSeqT t = true := by
  obtain ⟨p, rfl, h | h⟩ := h
  · exact ⟨"list", .base (.lst h), by decide, by decide⟩
  · exact ⟨"tuple", .base (.tup h), by decide, by decide⟩
theorem SeqV.sq {K : PySem.W.Frag} {H : Hp} {v : V} {xs : List V} (h : SeqV H v xs) : ∃ p, v = .ref p ∧ (SqL K H p xs ∨ SqT K H p xs) := by
  obtain ⟨p, rfl, h | h⟩ := h
  · exact ⟨p, rfl, .inl (SqL.of h)⟩
  · exact ⟨p, rfl, .inr (SqT.of h)⟩
/-- a value that is neither list nor tuple -/
def NoSeq (K : PySem.W.Frag) (H : Hp) (v : V) : Prop := ∃ t, TyX K H v (.type t) ∧ t ∈ kinds ∧ isSeqT t = false
theorem NoSeq.ext {K : PySem.W.Frag} {H H' : Hp} {v : V} (h : NoSeq K H v) (e : Same H H') : NoSeq K H' v := by
  obtain ⟨t, a, b⟩ := h
  exact ⟨t, TyX.ext a e, b⟩
abbrev V.isIntV : V → Bool | .int _ => true | _ => false
/-- an int, or a value of another type -/
def KnownV (K : PySem.W.Frag) (H : Hp) (v : V) : Prop := ∃ t, TyX K H v (.type t) ∧ t ∈ kinds
theorem KnownV.ext {K : PySem.W.Frag} {H H' : Hp} {v : V} (h : KnownV K H v) (e : Same H H') : KnownV K H' v := by
  obtain ⟨t, a, b⟩ := h
  exact ⟨t, TyX.ext a e, b⟩
/-! promises -/
def spIsInt (K : PySem.W.Frag) : Sp := fun vs H Q _ => ∃ (v : V) (t : String), vs = [v] ∧ TyX K H v (.type t) ∧ t ∈ kinds ∧ Q (.bl (decide (t = "int"))) H
/-- an int from 1 on: told of ints; of all other types no -/
def spFromOne (K : PySem.W.Frag) : Sp := fun vs H Q _ => ∃ (v : V), vs = [v] ∧ ((∃ i, v = .int i ∧ Q (.bl (decide (1 ≤ i))) H) ∨ (∃ t, TyX K H v (.type t) ∧ t ∈ kinds ∧ t ≠ "int" ∧ Q (.bl false) H))
def spIsList (K : PySem.W.Frag) : Sp := fun vs H Q _ => ∃ (v : V) (t : String), vs = [v] ∧ TyX K H v (.type t) ∧ t ∈ kinds ∧ ∀ H', Same H H' → Q (.bl (isSeqT t)) H'
def spIsPair (K : PySem.W.Frag) : Sp := fun vs H Q _ => ∃ (v : V), vs = [v] ∧ ((∃ xs, SeqV H v xs ∧ ∀ H', Same H H' → Q (.bl (decide (xs.length = 2))) H') ∨ (NoSeq K H v ∧ ∀ H', Same H H' → Q (.bl false) H'))
def spIsName (K : PySem.W.Frag) : Sp := fun vs H Q _ => ∃ (v : V), vs = [v] ∧ ((∃ s, v = .str s ∧ s.length ≤ 1000 ∧ ∀ H', Same H H' → Q (.bl (nameOk s)) H') ∨ (∃ t, TyX K H v (.type t) ∧ t ∈ kinds ∧ t ≠ "str" ∧ Q (.bl false) H))
theorem scIsInt : FnScope ["thing"] ["thing"] (defScope sIsInt) := ⟨rfl, rfl, rfl, by decide +kernel, rfl, by decide +kernel, by decide +kernel⟩
theorem scFromOne : FnScope ["thing"] ["thing"] (defScope sFromOne) := ⟨rfl, rfl, rfl, by decide +kernel, rfl, by decide +kernel, by decide +kernel⟩
theorem scIsList : FnScope ["thing"] ["thing"] (defScope sIsList) := ⟨rfl, rfl, rfl, by decide +kernel, rfl, by decide +kernel, by decide +kernel⟩
theorem scIsPair : FnScope ["thing"] ["thing"] (defScope sIsPair) := ⟨rfl, rfl, rfl, by decide +kernel, rfl, by decide +kernel, by decide +kernel⟩
theorem scIsName : FnScope ["thing", "sign"] ["thing"] (defScope sIsName) := ⟨rfl, rfl, rfl, by decide +kernel, rfl, by decide +kernel, by decide +kernel⟩
/-- the built-ins that the text names are still built-in -/
structure Bl (mg : Str → Option Value) : Prop where
  isi : mg "isinstance" = none
  int : mg "int" = none
  bool : mg "bool" = none
  str : mg "str" = none
  list : mg "list" = none
  tuple : mg "tuple" = none
  dict : mg "dict" = none
  len : mg "len" = none
  all : mg "all" = none
section
variable {P : Program} {w : World} {K : PySem.W.Frag} {mg : Str → Option Value} {base : Heap}
theorem ok_isInt {f : Addr} {fd : FuncData} (F : Fun K "is_integer" "is_integer" sIsInt f fd) (B : Bl mg) : FnOk P w K mg base CX0 1 f fd ["thing"] (spIsInt K) := by
  refine F.ok scIsInt (fun vs H Q E h => ?_) (fun cdv A outer s H vs Q E hr h => ?_)
  · obtain ⟨v, t, rfl, _⟩ := h
    rfl
  obtain ⟨v, t, rfl, ty, kt, q⟩ := h
  refine ⟨_, pss_one (by exact ps_ret (pe_and (pe_callB call_isi rfl B.isi PyProof.Rows.boot_isinstance (pa_cons (pv 0) (pa_cons (pe_bltn (v := .ty "int") rfl B.int PyProof.Rows.boot_int rfl) pa_nil)))
    (pe_one (pe_not (pe_callB call_isi rfl B.isi PyProof.Rows.boot_isinstance (pa_cons (pv 0) (pa_cons (pe_bltn (v := .ty "bool") rfl B.bool PyProof.Rows.boot_bool rfl) pa_nil))))))), ?_⟩
  refine ⟨_, rfl, v, _, _, _, _, rfl, .ty "int", ty, kit_int kt, _, rfl, ?_⟩
  refine ite2 (fun c => ?_) (fun c => ?_)
  · refine ⟨_, rfl, v, _, _, _, _, rfl, .ty "bool", ty, kit_bool kt, _, rfl, ?_⟩
    have c' := of_decide_eq_true c
    have e : (!decide (t = "bool")) = decide (t = "int") := by
      rcases c' with rfl | rfl <;> decide
    rw [e]
    exact q
  · have c' := of_decide_eq_false (Bool.eq_false_iff.mpr c)
    have e : decide (t = "int") = false := decide_eq_false fun z => c' (.inl z)
    rw [e] at q
    exact q
theorem ok_fromOne {f g : Addr} {fd gd : FuncData} (F : Fun K "is_from_one" "is_from_one" sFromOne f fd) (FI : Fun K "is_integer" "is_integer" sIsInt g gd) (b : Binds K gd ["thing"] []) (m : mg "is_integer" = some (.ref g)) (B : Bl mg) :
    FnOk P w K mg base CX0 2 f fd ["thing"] (spFromOne K) := by
  have G := ok_isInt (P := P) (w := w) (base := base) FI B
  refine F.ok scFromOne (fun vs H Q E h => ?_) (fun cdv A outer s H vs Q E hr h => ?_)
  · obtain ⟨v, rfl, _⟩ := h
    rfl
  obtain ⟨v, rfl, h⟩ := h
  refine ⟨_, pss_one (by exact ps_ret (pe_and (pe_call G hr rfl m FI.kp b .nil pass0 (pa_cons (pv 0) pa_nil)) (pe_one (pe_cmpR op_ge (pv 0) pe_int (nomark _))))), ?_⟩
  rcases h with ⟨i, rfl, q⟩ | ⟨t, ty, kt, nt, q⟩
  · exact ⟨_, rfl, .int i, "int", rfl, .base (.int i), by decide, _, rfl, iteT ⟨_, rfl, i, 1, rfl, rfl, q⟩⟩
  · refine ⟨_, rfl, v, t, rfl, ty, kt, _, rfl, ?_⟩
    rw [decide_eq_false nt]
    exact iteF q
theorem ok_isList {f : Addr} {fd : FuncData} (F : Fun K "is_list" "is_list" sIsList f fd) (B : Bl mg) : FnOk P w K mg base CX0 1 f fd ["thing"] (spIsList K) := by
  refine F.ok scIsList (fun vs H Q E h => ?_) (fun cdv A outer s H vs Q E hr h => ?_)
  · obtain ⟨v, t, rfl, _⟩ := h
    rfl
  obtain ⟨v, t, rfl, ty, kt, q⟩ := h
  refine ⟨_, pss_one (by exact ps_ret (pe_callB call_isiT rfl B.isi PyProof.Rows.boot_isinstance (pa_cons (pv 0) (pa_cons (pe_tup (pa_cons (pe_bltn (v := .ty "list") rfl B.list PyProof.Rows.boot_list rfl)
    (pa_cons (pe_bltn (v := .ty "tuple") rfl B.tuple PyProof.Rows.boot_tuple rfl) pa_nil))) pa_nil)))), ?_⟩
  refine ⟨_, rfl, (by show 2 ≤ sizeLine; decide), fun p hp => ?_⟩
  have e := K1.Same.upd (H := H) (p := p) (o := .tup [.ty "list", .ty "tuple"]) hp
  exact ⟨v, p, _, _, _, _, rfl, upd_same, .cons (.ty "list") (.cons (.ty "tuple") .nil), TyX.ext ty e, kit_seq kt, q _ e⟩
theorem ok_isPair {f g : Addr} {fd gd : FuncData} (F : Fun K "is_pair" "is_pair" sIsPair f fd) (FI : Fun K "is_list" "is_list" sIsList g gd) (b : Binds K gd ["thing"] []) (m : mg "is_list" = some (.ref g)) (B : Bl mg) :
    FnOk P w K mg base CX0 2 f fd ["thing"] (spIsPair K) := by
  have G := ok_isList (P := P) (w := w) (base := base) FI B
  refine F.ok scIsPair (fun vs H Q E h => ?_) (fun cdv A outer s H vs Q E hr h => ?_)
  · obtain ⟨v, rfl, _⟩ := h
    rfl
  obtain ⟨v, rfl, h⟩ := h
  refine ⟨_, pss_one (by exact ps_ret (pe_and (pe_call G hr rfl m FI.kp b .nil pass0 (pa_cons (pv 0) pa_nil)) (pe_one (pe_cmpR op_eq (pe_callB call_len_seq rfl B.len PySem.boot_len (pa_cons (pv 0) pa_nil)) pe_int (nomark _))))), ?_⟩
  rcases h with ⟨xs, sv, q⟩ | ⟨⟨t, ty, kt, nt⟩, q⟩
  · obtain ⟨t, ty, kt, st⟩ := sv.ty (K := K)
    refine ⟨_, rfl, v, t, rfl, ty, kt, fun H' e => ⟨_, rfl, ?_⟩⟩
    rw [st]
    refine iteT ?_
    obtain ⟨p, rfl, sq⟩ := (sv.ext e).sq (K := K)
    refine ⟨_, rfl, p, xs, rfl, sq, rfl, ?_⟩
    have z : decide (V.int (xs.length : Int) = V.int 2) = decide (xs.length = 2) := by
      apply decide_eq_decide.mpr
      constructor
      · intro h; have := V.int.inj h; omega
      · intro h; rw [h]; rfl
    rw [z]
    exact q H' e
  · refine ⟨_, rfl, v, t, rfl, ty, kt, fun H' e => ⟨_, rfl, ?_⟩⟩
    rw [nt]
    exact iteF (q H' e)
end
end K1
end
-- KErr
section
set_option Elab.async false
set_option linter.all false
set_option maxRecDepth 100000
set_option maxHeartbeats 4000000
namespace K1
open PySem PySem.Spec PyProof.Rows L2
abbrev sIH : Stmt := inClass (top 3) 0
abbrev sIR : Stmt := inClass (top 4) 0
abbrev sID : Stmt := inClass (top 5) 0
/-- what the written part says of FeastError, at CF -/
structure FeC (K : PySem.W.Frag) (mg : Str → Option Value) (CF : Addr) : Prop where
  m : mg "FeastError" = some (.ref CF)
  sp : PySem.W.specialIn K (.ref CF) "__getattribute__" = some (some (.builtin "type.__getattribute__"))
  rd : PySem.W.readsIn K CF (.type "type") = true
  ini : PySem.W.findCls K (.ref CF) (.type "type") "__init__" = some (.val (.builtin "ValueError.__init__"))
section
variable {X : Cx} {e : Expr} {es : List Expr} {ta : TA} {p1 p2 pos : Pos}
theorem pe_feinit {pl : Sem Bool} {CF : Addr} (hg : Gl X "FeastError") (T : FeC X.K X.mg CF) (ha : PA X (e :: es) ta)
    (hc : eval (.Call (.Attribute (.Name "FeastError" p1) "__init__" p2) (e :: es) [] pos) X.env = (do
      let ov ← eval (.Name "FeastError" p1) X.env
      standAt p2.atName
      let (f, first) ← holding [ov] (getMethod ov "__init__" pl)
      callWith pos f first (backTo pos (starEach (e :: es) X.env)) (backToKw pos (keywordEach [] X.env))) := by rfl)
    (he : starEach (e :: es) X.env = (false, eval e X.env) :: starEach es X.env := by rfl) (hpl : (backTo pos (starEach es X.env)).any (·.1) = false := by rfl) :
    PE X (.Call (.Attribute (.Name "FeastError" p1) "__init__" p2) (e :: es) [] pos) (tVeI X.K ta) := by
  refine ⟨fun pins s σ H Q I h => ?_⟩
  refine PySem.W.methodCall_KW (ld_glob I hg T.m ?_ (by decide)) hc
  refine PySem.W.method_cls I.kIn T.sp (PySem.W.cls_value I.kIn T.rd T.ini (by decide +kernel) ?_)
  show wpAny _ _ (callWith pos (Value.builtin "ValueError.__init__") [] (backTo pos (starEach (e :: es) X.env)) []) _ _ _
  refine PyProof.Rows.callWith_method1 (thn (ha.run pos pins _ σ H _ (I.tok _) h) fun us s1 ⟨vs, H1, I1, r1, a, C, ws, ev, hl, T, ea, q⟩ => ?_) he hpl
  subst ev
  cases r1 with
  | @cons _ u0 _ ur ra rw' =>
    obtain rfl : u0 = Value.ref a := ra
    have hlen : ur.length ≤ sizeLine := by
      rw [← Paired.length rw', sizeLine_eq]
      omega
    exact oinit_ok T I1 ea hlen fun s' J => ⟨.non, H1, J, rfl, q⟩
end
/-- what the written part says of an error's class with one field -/
structure ErC (K : PySem.W.Frag) (mg : Str → Option Value) (x : Str) (C f : Addr) : Prop where
  m : mg x = some (.ref C)
  ox : OexC K C
  no : PySem.W.findIn K (.ref C) "index" = some none
  ini : PySem.W.findIn K (.ref C) "__init__" = some (some (.ref f))
  ty : PySem.W.typeIn K (.ref f) = some (.type "function")
def spErI (C : Addr) : Sp := fun vs H Q _ => ∃ (a : Addr) (v : V), vs = [.ref a, v] ∧ H a = some (exo a C none) ∧ ∀ d, H d = none → d ≠ a → Q .non (upd (upd H d (exd d [("index", v)])) a (exo a C (some d)))
theorem scIH : FnScope ["self", "index"] ["self", "index"] (defScope sIH) := ⟨rfl, rfl, rfl, by decide +kernel, rfl, by decide +kernel, by decide +kernel⟩
theorem scIR : FnScope ["self", "index"] ["self", "index"] (defScope sIR) := ⟨rfl, rfl, rfl, by decide +kernel, rfl, by decide +kernel, by decide +kernel⟩
theorem scID : FnScope ["self", "index"] ["self", "index"] (defScope sID) := ⟨rfl, rfl, rfl, by decide +kernel, rfl, by decide +kernel, by decide +kernel⟩
section
variable {P : Program} {w : World} {K : PySem.W.Frag} {mg : Str → Option Value} {base : Heap} {CF : Addr}
theorem ok_iH {f C : Addr} {fd : FuncData} (F : Fun K "__init__" "BadHouses.__init__" sIH f fd) (T : FeC K mg CF) (TC : ErC K mg "BadHouses" C f) : FnOk P w K mg base CX0 1 f fd ["self", "index"] (spErI C) := by
  refine F.ok scIH (fun vs H Q E h => ?_) (fun cdv A outer s H vs Q E hr h => ?_)
  · obtain ⟨a, v, rfl, _⟩ := h
    rfl
  obtain ⟨a, v, rfl, ha, q⟩ := h
  refine ⟨_, pss_cons (by exact ps_expr (pe_feinit rfl T (pa_cons (pv 0) (pa_cons pe_str pa_nil)))) (pss_one (by exact ps_ost (pv 0) (pv 1))), ?_⟩
  refine ⟨_, rfl, a, C, [.str _], rfl, (by decide), TC.ox, ha, _, rfl, _, rfl, a, C, rfl, TC.ox, TC.no, .inl ⟨ha, fun d hd n => q d hd n⟩⟩
theorem ok_iR {f C : Addr} {fd : FuncData} (F : Fun K "__init__" "BadRoads.__init__" sIR f fd) (T : FeC K mg CF) (TC : ErC K mg "BadRoads" C f) : FnOk P w K mg base CX0 1 f fd ["self", "index"] (spErI C) := by
  refine F.ok scIR (fun vs H Q E h => ?_) (fun cdv A outer s H vs Q E hr h => ?_)
  · obtain ⟨a, v, rfl, _⟩ := h
    rfl
  obtain ⟨a, v, rfl, ha, q⟩ := h
  refine ⟨_, pss_cons (by exact ps_expr (pe_feinit rfl T (pa_cons (pv 0) (pa_cons pe_str pa_nil)))) (pss_one (by exact ps_ost (pv 0) (pv 1))), ?_⟩
  refine ⟨_, rfl, a, C, [.str _], rfl, (by decide), TC.ox, ha, _, rfl, _, rfl, a, C, rfl, TC.ox, TC.no, .inl ⟨ha, fun d hd n => q d hd n⟩⟩
theorem ok_iD {f C : Addr} {fd : FuncData} (F : Fun K "__init__" "BadHeads.__init__" sID f fd) (T : FeC K mg CF) (TC : ErC K mg "BadHeads" C f) : FnOk P w K mg base CX0 1 f fd ["self", "index"] (spErI C) := by
  refine F.ok scID (fun vs H Q E h => ?_) (fun cdv A outer s H vs Q E hr h => ?_)
  · obtain ⟨a, v, rfl, _⟩ := h
    rfl
  obtain ⟨a, v, rfl, ha, q⟩ := h
  refine ⟨_, pss_cons (by exact ps_expr (pe_feinit rfl T (pa_cons (pv 0) (pa_cons pe_str pa_nil)))) (pss_one (by exact ps_ost (pv 0) (pv 1))), ?_⟩
  refine ⟨_, rfl, a, C, [.str _], rfl, (by decide), TC.ox, ha, _, rfl, _, rfl, a, C, rfl, TC.ox, TC.no, .inl ⟨ha, fun d hd n => q d hd n⟩⟩
end
end K1
end
-- KName
section
set_option Elab.async false
set_option linter.all false
set_option maxRecDepth 100000
set_option maxHeartbeats 4000000
namespace K1
open PySem PySem.Spec PyProof.Rows L2
structure Signs (mg : Str → Option Value) : Prop where
  let_ : ∃ t, mg "LETTERS" = some (.str letters t)
  fig : ∃ t, mg "FIGURES" = some (.str figures t)
  lon : ∃ t, mg "LONGEST_NAME" = some (.int 8 t)
theorem map_take_succ {α β : Type} {l : List α} {f : α → β} {i : Nat} {c : α} (h : l[i]? = some c) : (l.take (i + 1)).map f = (l.take i).map f ++ [f c] := by
  rw [List.take_add_one, h]
  simp
section
variable {P : Program} {w : World} {K : PySem.W.Frag} {mg : Str → Option Value} {base : Heap}
theorem ok_isName {f : Addr} {fd : FuncData} (F : Fun K "is_name" "is_name" sIsName f fd) (B : Bl mg) (S : Signs mg) : FnOk P w K mg base CX0 1 f fd ["thing"] (spIsName K) := by
  refine F.ok scIsName (fun vs H Q E h => ?_) (fun cdv A outer s H vs Q E hr h => ?_)
  · obtain ⟨v, rfl, _⟩ := h
    rfl
  obtain ⟨v, rfl, h⟩ := h
  obtain ⟨t1, mL⟩ := S.let_
  obtain ⟨t2, mF⟩ := S.fig
  obtain ⟨t3, mN⟩ := S.lon
  have nd := scIsName.nd
  refine ⟨_, pss_cons (by exact ps_if (PW.pt (pw_or (pt_not (pt_val (pe_callB call_isi rfl B.isi PyProof.Rows.boot_isinstance (pa_cons (pv 0) (pa_cons (pe_bltn (v := .ty "str") rfl B.str PyProof.Rows.boot_str rfl) pa_nil)))))
      (pw_or1 (pt_not (pt_chain op_le op_le pe_int (pe_callB call_len_str rfl B.len PySem.boot_len (pa_cons (pv 0) pa_nil)) (pe_glob (v := .int 8) rfl mN ⟨_, rfl⟩)))))) (pss_one (ps_ret pe_bl)) pss_nil)
    (pss_one (by exact ps_ret (pe_and (pe_cmpR op_in_sign (pe_ix ix_str (pv 0) pe_int (fun _ _ => rfl)) (pe_glob (v := .str letters) rfl mL ⟨_, rfl⟩) (by with_unfolding_all rfl))
      (pe_one (pe_callB (cr_all rfl) rfl B.all PyProof.Rows.boot_all (pa_cons (pe_lc (own := [("sign", 1)]) (g := gName 1) (tt := tYes) rfl nd (by exact pi_str (pv 0))
        (by exact blkOk_by (N := ["thing", "sign"]) (sc := defScope sIsName) (by decide +kernel)) (fun _ _ _ _ _ => by exact pg_name (i := 1) nd rfl (Or.inl rfl)) (fun _ _ _ _ _ => pts_nil)
        (fun _ _ _ _ _ => by exact pe_or (pe_cmpR op_in_sign (pv 1) (pe_glob (v := .str letters) rfl mL ⟨_, rfl⟩) (by with_unfolding_all rfl)) (pe_one (pe_cmpR op_in_sign (pv 1) (pe_glob (v := .str figures) rfl mF ⟨_, rfl⟩) (by with_unfolding_all rfl))))) pa_nil)))))), ?_⟩
  rcases h with ⟨z, rfl, hz, q⟩ | ⟨t, ty, kt, nt, q⟩
  · have zl : z.length ≤ sizeLine := Nat.le_of_lt (small1000 hz)
    refine ⟨_, rfl, .str z, _, _, _, _, rfl, .ty "str", .base (.str z), kit_str (t := "str") (by decide), _, rfl, ?_⟩
    refine iteF ?_
    refine ⟨_, rfl, z, rfl, zl, ?_⟩
    refine ⟨_, _, rfl, rfl, _, rfl, ?_⟩
    have q0 : ∀ H', Same H H' → nameOk z = false → Q (.bl false) H' := fun H' e n => by rw [← n]; exact q H' e
    refine ite2 (fun c1 => ?_) (fun c1 => ?_)
    · refine ⟨_, _, rfl, rfl, _, rfl, ?_⟩
      by_cases c2 : (z.length : Int) ≤ 8
      · rw [decide_eq_true c2]
        refine iteF ?_
        have c1' : (1 : Int) ≤ (z.length : Int) := of_decide_eq_true c1
        have hlen : z.cps.toList.length = z.length := rfl
        obtain ⟨c, r, hcr⟩ : ∃ c r, z.cps.toList = c :: r := by
          cases e : z.cps.toList with
          | nil => rw [e] at hlen; simp at hlen; omega
          | cons c r => exact ⟨c, r, rfl⟩
        have ec : z.cps.toList[0]? = some c := by rw [hcr]; rfl
        have hnm : nameOk z = (decide (c ∈ letters.cps.toList) && z.cps.toList.all okSign) := by
          unfold nameOk
          have d1 : decide (1 ≤ z.length) = true := decide_eq_true (by omega)
          have d2 : decide (z.length ≤ 8) = true := decide_eq_true (by omega)
          rw [d1, d2, Bool.true_and, Bool.true_and]
          rw [hcr]
          rfl
        refine ⟨_, rfl, z, 0, c, rfl, rfl, zl, atI_nat (j := 0) ec, c, letters, rfl, rfl, _, rfl, ?_⟩
        by_cases cl : c ∈ letters.cps.toList
        · rw [decide_eq_true cl]
          refine iteT ?_
          refine ⟨_, rfl, z, rfl, fun D hD => ?_⟩
          refine lc_it walk_str (fun i Hc => Same H Hc ∧ Hc D = some (.lst (((z.cps.toList.take i).map okSign).map V.bl))) ⟨K1.Same.upd hD, upd_same⟩ (fun _ _ _ _ => True.intro) ?_ ?_
          · rintro i x Hc H' hi ⟨e1, e2⟩ ⟨rfl, d, hd, rfl⟩
            have hd' : z.cps.toList[i]? = some d := by rw [Array.getElem?_toList]; exact hd
            refine ⟨rfl, ?_⟩
            unfold tYes
            refine iteT ?_
            refine ⟨_, rfl, d, letters, rfl, rfl, _, rfl, ?_⟩
            have fin : ∀ b, b = okSign d → ∃ acc, H' D = some (.lst acc) ∧ acc.length < sizeLine ∧ Same H (upd H' D (.lst (acc ++ [.bl b]))) ∧ upd H' D (.lst (acc ++ [.bl b])) D = some (.lst (((z.cps.toList.take (i + 1)).map okSign).map V.bl)) := fun b hb => by
              refine ⟨_, e2, ?_, fun a o n => ?_, ?_⟩
              · rw [List.length_map, List.length_map]
                exact small1000 (Nat.le_trans (List.length_take_le _ _) (by have : i < z.cps.toList.length := hi; omega))
              · rw [upd_ne (ne_of_none n hD)]
                exact e1 a o n
              · rw [upd_same, map_take_succ hd', List.map_append, hb]
                rfl
            by_cases cd : d ∈ letters.cps.toList
            · rw [decide_eq_true cd]
              refine iteT (fin true ?_)
              unfold okSign
              rw [decide_eq_true cd, Bool.true_or]
            · rw [decide_eq_false cd]
              refine iteF ⟨_, rfl, d, figures, rfl, rfl, fin _ ?_⟩
              unfold okSign
              rw [decide_eq_false cd, Bool.false_or]
          · rintro Hc ⟨e1, e2⟩
            refine ⟨D, _, rfl, SqL.of e2, ?_⟩
            have ht : z.cps.toList.take z.cps.size = z.cps.toList := List.take_of_length_le (Nat.le_of_eq hlen)
            have : ((z.cps.toList.take z.cps.size).map okSign).all id = nameOk z := by
              rw [ht, hnm, decide_eq_true cl, Bool.true_and, List.all_map]
              rfl
            rw [this]
            exact q Hc e1
        · rw [decide_eq_false cl]
          refine iteF (q0 H (Same.refl H) ?_)
          rw [hnm, decide_eq_false cl, Bool.false_and]
      · rw [decide_eq_false c2]
        refine iteT (q0 H (Same.refl H) ?_)
        unfold nameOk
        have d2 : decide (z.length ≤ 8) = false := decide_eq_false (by omega)
        rw [d2, Bool.false_and, Bool.and_false]
    · have c1' : ¬ (1 : Int) ≤ (z.length : Int) := of_decide_eq_false (Bool.eq_false_iff.mpr c1)
      refine ⟨_, rfl, iteT (q0 H (Same.refl H) ?_)⟩
      unfold nameOk
      have d2 : decide (1 ≤ z.length) = false := decide_eq_false (by omega)
      rw [d2, Bool.false_and]
  · refine ⟨_, rfl, v, _, _, _, _, rfl, .ty "str", ty, kit_str kt, _, rfl, ?_⟩
    rw [decide_eq_false nt]
    exact iteT (iteT q)
end
end K1
end
-- KEnumT
section
set_option Elab.async false
set_option linter.all false
set_option maxRecDepth 100000
set_option maxHeartbeats 4000000
/-! enumerate over a tuple -/
namespace K1E
open PySem
open AutoSeq1 (wpAny_loadPart')
theorem meets_new (l : Addr) (items : Array Value) (n : Nat) (dct : Option Addr) (sl : Array (Option Value)) :
    Meets (Builtin.«enumerate.__new__» ⟨[.type "enumerate", .ref l], []⟩) (fun _ R s => s.heap.get? l = some { cls := .type "tuple", dict := dct, data := .seq items n, slots := sl } ∧
      R (.ok (.ret (.ref (s.heap.push { cls := .type "tuple_iterator", data := .fields #[.ref l, .int 0 0] }).objs.size)))
        { s with heap := (s.heap.push { cls := .type "tuple_iterator", data := .fields #[.ref l, .int 0 0] }).push { cls := .type "enumerate", data := .fields #[.none, .bool false, .ref s.heap.objs.size, rawInt 0, .none, .none] } }) :=
  .of_wp fun prog w A R s h => by
    obtain ⟨hp, g, d, tk, os⟩ := s; obtain ⟨hl, h⟩ := h
    have hsub := sub_enumerate
    have hT : Heap.IsTuple (Shared.heap ⟨hp, g, d, tk, os⟩) l items := ⟨_, hl, rfl, n, rfl⟩
    wp_walk using wpAny_loadPart' hl
    refine wpAny_stack_any fun st => wpAny_pure ?_
    split
    · rename_i c _ _ _ _ _
      cases (c == Value.type "enumerate")
      · wp_walk using wpAny_loadPart' hl, wpAny_pyIter_tuple hT
        exact ⟨_, rfl, h⟩
      · wp_walk using wpAny_loadPart' hl, wpAny_pyIter_tuple hT
        exact ⟨_, rfl, h⟩
    · wp_walk using wpAny_loadPart' hl, wpAny_pyIter_tuple hT
      exact ⟨_, rfl, h⟩
section
variable {prog : Program} {w : World} {A : Around} {E : Value → Shared → Prop} {s : Shared}
theorem call_enum_tuple {l : Addr} {items : Array Value} {Q : Value → Shared → Prop} (hL : s.heap.IsTuple l items)
    (h : ∀ h', IsEnum h' (s.heap.objs.size + 1) s.heap.objs.size 0 .none → h'.IsTupleIter s.heap.objs.size l 0 → h'.objs.size = s.heap.objs.size + 2 →
      (∀ b o, s.heap.get? b = some o → h'.get? b = some o) → Q (.ref (s.heap.objs.size + 1)) { s with heap := h' }) :
    wpAny (model prog w) A (call (.type "enumerate") [.ref l]) Q E s := by
  obtain ⟨⟨c, dct, dt, sl⟩, hl, hc, n, hd⟩ := hL
  replace hc : c = .type "tuple" := hc
  replace hd : dt = .seq items n := hd
  subst hc hd
  refine callType_new F.called_enumerate (by decide) (F.typeCall_enumerate_1 _) (F.newCall_enumerate_1 _) (fun obj => F.args_object_init_2 obj _) F.entry_enumerate_new (meets_new l items n dct sl) ⟨hl, ?_⟩
  have hz : (s.heap.push { cls := .type "tuple_iterator", data := .fields #[.ref l, .int 0 0] }).objs.size = s.heap.objs.size + 1 := Heap.size_push ..
  show _ ∧ _
  rw [hz]
  have he : IsEnum ((s.heap.push { cls := .type "tuple_iterator", data := .fields #[.ref l, .int 0 0] }).push
      { cls := .type "enumerate", data := .fields #[.none, .bool false, .ref s.heap.objs.size, rawInt 0, .none, .none] }) (s.heap.objs.size + 1) s.heap.objs.size 0 .none := by
    have q := Heap.get?_push_size (s.heap.push { cls := .type "tuple_iterator", data := .fields #[.ref l, .int 0 0] })
      (o := { cls := .type "enumerate", data := .fields #[.none, .bool false, .ref s.heap.objs.size, rawInt 0, .none, .none] }) rfl
    rw [hz] at q
    exact q
  exact ⟨⟨_, he, rfl⟩, h _ he ⟨_, Heap.get?_push_of_some _ (Heap.get?_push_size _ rfl), rfl, rfl⟩ (by rw [Heap.size_push, hz]) fun b o y => Heap.get?_push_of_some _ (Heap.get?_push_of_some _ y)⟩
end
end K1E
namespace K1
open PySem PySem.Spec PyProof.Rows L2
/-- the tuple at a, each item in a new pair -/
def IteT (K : PySem.W.Frag) (a : Addr) : It :=
  ⟨fun i H => ∃ (xs : List V) (x : V), SqT K H a xs ∧ xs[i]? = some x, fun i H v H' => ∃ T x, v = .ref T ∧ H T = none ∧ H' = upd H T (.tup [.int (i : Nat), x]) ∧ ∀ xs, SqT K H a xs → xs[i]? = some x, fun i H => ∃ xs : List V, SqT K H a xs ∧ xs.length ≤ i⟩
theorem turn_enumT {P : Program} {w : World} {K : PySem.W.Frag} {elts : List Expr} {kk : Nat} {tpos : Pos} (a e it : Addr) :
    Turn P w K (.Tuple elts kk tpos) (IteT K a) [e, it] e (fun i h => (∃ old, IsEnum h e it ((i : Nat) : Int) old) ∧ h.IsTupleIter it a i ∧ e ≠ it) where
  mem := by simp
  obj := fun i h st b hb => by
    obtain ⟨⟨old, he⟩, ⟨o, ho, hc, hd⟩, _⟩ := st
    have e' : b = e ∨ b = it := by simpa using hb
    rcases e' with z | z
    · rw [z]; exact ⟨_, he, fun v q => nomatch q⟩
    · rw [z]; exact ⟨o, ho, fun v q => by rw [hd] at q; cases q⟩
  keep := fun i h h' st k => let ⟨⟨old, he⟩, hi, hne⟩ := st; ⟨⟨old, k e (by simp) _ he⟩, hi.at fun o q => k it (by simp) o q, hne⟩
  item := by
    intro X hP hw hK hc i pins s σ H E I hf st hg
    subst hP hw hK
    obtain ⟨⟨old, he⟩, hit, hne⟩ := st
    obtain ⟨xs, x, hq, hx⟩ := hg
    obtain ⟨its, rv, p, hz⟩ := I.tuple hq
    obtain ⟨u, hu, ru⟩ := rv.get hx
    have hel : e < s.heap.objs.size := Heap.lt_size he
    have hil : it < s.heap.objs.size := by obtain ⟨_, q, _⟩ := hit; exact Heap.lt_size q
    have p' : s.heap.IsTuple a its.toArray := p
    have hlt : i < its.toArray.size := by
      have hh : i < its.length := by
        rcases Nat.lt_or_ge i its.length with q | q
        · exact q
        · rw [List.getElem?_eq_none q] at hu; cases hu
      simpa using hh
    have hia : it ≠ a := fun z => by
      obtain ⟨o, q1, q2, _⟩ := hit
      obtain ⟨o2, q3, q4, _⟩ := p'
      rw [z, q3] at q1
      have q5 := Option.some.inj q1
      rw [← q5, q4] at q2
      exact absurd q2 (by decide)
    have hea : e ≠ a := fun z => by
      obtain ⟨o2, q3, q4, _⟩ := p'
      have he' : s.heap.get? e = _ := he
      rw [z, q3] at he'
      have q5 := Option.some.inj he'
      rw [q5] at q4
      exact absurd (show Value.type "enumerate" = Value.type "tuple" from q4) (by decide)
    refine wpAny_pyNext_enum_itemD (Draws.tuple (A := X.A.in1) (show X.A.in1.handled = Option.none from I.ok.hd hc) it a hia.symm its.toArray) he ⟨hit, p'⟩ hlt hne (fun z => ?_) fun y h' tk hy ho hst hT hsz hk => ?_
    · rcases List.mem_cons.mp z with z | z
      · exact hne z
      · exact hea (List.mem_singleton.mp z)
    have hyu : y = u := by
      have h1 : its.toArray[i]? = some u := by simpa using hu
      rw [h1] at hy
      exact (Option.some.inj hy).symm
    subst hyu
    refine ⟨_, rfl, wpAny_letOwnedTupleGo_enum (s := { s with heap := h', toks := tk + 1 }) ho fun h'' he' sb => ?_⟩
    have hT2 : h''.get? s.heap.objs.size = some { cls := .type "tuple", data := .seq #[.int i tk, y] } := (sb.2 _ (Nat.ne_of_gt hel)).trans hT
    have new : ObjOk X.prog X.w (upd H s.heap.objs.size (.tup [.int (i : Nat), x])) h'' s.heap.objs.size (.tup [.int (i : Nat), x]) :=
      ⟨by show 2 ≤ sizeLine; decide, [.int i tk, y], .cons ⟨_, rfl⟩ (.cons ru .nil), ⟨_, hT2, rfl, _, rfl⟩⟩
    have I1 : Inv X pins σ (upd H s.heap.objs.size (.tup [.int (i : Nat), x])) { s with heap := h'', toks := tk + 1 } :=
      I.turnedNew (ch := [e, it]) (fun b ob hb q => (sb.2 b (fun z => hb (by simp [z]))).trans (hk b ob (fun z => hb (by simp [z])) (fun z => hb (by simp [z])) q)) hf (Nat.le_refl _) new
    refine ⟨.ref s.heap.objs.size, _, I1, rfl, ⟨_, x, rfl, I.hok.fresh (Nat.le_refl _), rfl, fun ys hy => by rw [I.tuple_inj hy hq]; exact hx⟩, ⟨⟨y, ?_⟩, hst.1.at fun o q => (sb.2 it (Ne.symm hne)).trans q, hne⟩, fun b hb => ?_⟩
    · have e1 : ((i + 1 : Nat) : Int) = (i : Int) + 1 := by omega
      rw [e1]; exact he'
    · have hb' : b < s.heap.objs.size := by
        have e' : b = e ∨ b = it := by simpa using hb
        rcases e' with z | z
        · rw [z]; exact hel
        · rw [z]; exact hil
      rw [upd_ne (Nat.ne_of_lt hb')]
      exact (hf b hb).1
  done := by
    intro X hP hw hK hc i pins s σ H E I hf st hg
    subst hP hw hK
    obtain ⟨⟨old, he⟩, hit, hne⟩ := st
    obtain ⟨xs, hq, hx⟩ := hg
    obtain ⟨its, rv, p, hz⟩ := I.tuple hq
    obtain ⟨f0, f1, f2, f3, f4, f5⟩ := hf it (by simp)
    have hl := rv.length
    have p' : s.heap.IsTuple a its.toArray := p
    have hT : s.TypeIs (.ref e) "enumerate" := ⟨_, he, rfl⟩
    unfold pyNext
    refine wpAny_bind (wpAny_attempt (wpAny_callSpecial?_slot (name := Str.ofString "__next__") hT F.slot_enumerate_next (wpAny_call_entry F.slot_enumerate_next hT F.entry_enumerate_next ?_ (F.args_enumerate_next_1 _))))
    show wpAny _ _ (field (.ref e) 2 >>= _) _ _ _
    refine wpAny_bind (wpAny_field he rfl (x := .ref it) rfl ?_)
    refine wpAny_bind (wpAny_nextOf_tuple_end (I.ok.hd hc) hit p' (by simp; omega) fun h' x he' hx' => ?_)
    obtain ⟨o, ho, hc2⟩ := hx'
    refine wpAny_bind (wpAny_isInstance (T := "StopIteration") (b := true) ⟨o, ho, hc2⟩ isSubtype_stop ?_)
    exact wpAny_pure ⟨rfl, I.turned (t' := s.toks) (fun b o hb q => he' b o hb q) f0 f1 f3 f4 f5⟩
  self := fun A i s Q E st h => let ⟨⟨_, he⟩, _⟩ := st; wpAny_pyIter_enum he h
def iEnumA (K : PySem.W.Frag) (ta : TA) : TI := fun σ H R => ta σ H fun vs H1 => ∃ a xs, vs = [.ref a] ∧ ((SqL K H1 a xs ∧ R (Ite K a) H1) ∨ (SqT K H1 a xs ∧ R (IteT K a) H1))
theorem pi_enumA {X : Cx} {e : Expr} {ta : TA} {p pos tpos : Pos} {elts : List Expr} {kk : Nat} (hg : Gl X "enumerate") (hm : X.mg "enumerate" = none) (ha : PA X [e] ta) (hs : starEach [e] X.env = [(false, eval e X.env)] := by rfl) :
    PI X (.Tuple elts kk tpos) (.Call (.Name "enumerate" p) [e] [] pos) (iEnumA X.K ta) := by
  refine ⟨fun pins s σ H R I h => ?_⟩
  refine Call_ (ld_blt I hg hm boot_enumerate (PyProof.Rows.callWith_type1 (thn (ha.run pos pins s σ H _ I h) fun us s1 ⟨vs, H1, I1, r1, q1⟩ => ?_) hs rfl))
  obtain ⟨a, xs, ex, hq⟩ := q1
  subst ex
  cases r1 with
  | cons r rr =>
    cases rr
    cases r
    rcases hq with ⟨hq, q⟩ | ⟨hq, q⟩
    · obtain ⟨its, rv, p', hz⟩ := I1.list hq
      refine call_enumerate_list p'.isList fun h' he hit hsz hk => wpAny_pyIter_enum he ?_
      have I2 : Inv X pins σ H1 { s1 with heap := h' } := I1.kept (t' := s1.toks) hk
      refine ⟨s1.heap.objs.size + 1, [s1.heap.objs.size + 1, s1.heap.objs.size], _, _, H1, rfl, I2, turn_enum a (s1.heap.objs.size + 1) s1.heap.objs.size, ⟨⟨.none, he⟩, hit, Nat.succ_ne_self _⟩, fun b hb => ?_, q⟩
      have e' : b = s1.heap.objs.size + 1 ∨ b = s1.heap.objs.size := by simpa using hb
      have hle : s1.heap.objs.size ≤ b := by
        rcases e' with z | z
        · rw [z]; exact Nat.le_add_right _ _
        · rw [z]; exact Nat.le_refl _
      exact I1.fpOk hle (I1.hok.fresh hle)
    · obtain ⟨its, rv, p', hz⟩ := I1.tuple hq
      refine K1E.call_enum_tuple (show s1.heap.IsTuple a its.toArray from p') fun h' he hit hsz hk => wpAny_pyIter_enum he ?_
      have I2 : Inv X pins σ H1 { s1 with heap := h' } := I1.kept (t' := s1.toks) hk
      refine ⟨s1.heap.objs.size + 1, [s1.heap.objs.size + 1, s1.heap.objs.size], _, _, H1, rfl, I2, turn_enumT a (s1.heap.objs.size + 1) s1.heap.objs.size, ⟨⟨.none, he⟩, hit, Nat.succ_ne_self _⟩, fun b hb => ?_, q⟩
      have e' : b = s1.heap.objs.size + 1 ∨ b = s1.heap.objs.size := by simpa using hb
      have hle : s1.heap.objs.size ≤ b := by
        rcases e' with z | z
        · rw [z]; exact Nat.le_add_right _ _
        · rw [z]; exact Nat.le_refl _
      exact I1.fpOk hle (I1.hok.fresh hle)
theorem walk_enumT {K : PySem.W.Frag} {a : Addr} {xs : List V} : Walk (IteT K a) xs.length (fun H => SqT K H a xs) (YPair (fun i => some (.int (i : Nat))) (fun i => xs[i]?)) := by
  refine ⟨fun i _ hi q => ⟨xs, xs[i], q, by simp [hi]⟩, fun _ q => ⟨xs, q, Nat.le_refl _⟩, fun i H v H' _ q y => ?_⟩
  obtain ⟨T, x, h1, h2, h3, h4⟩ := y
  exact ⟨T, .int (i : Nat), x, h1, h2, h3, rfl, h4 xs q⟩
end K1
end
-- KSeq
section
set_option Elab.async false
set_option linter.all false
set_option maxRecDepth 100000
set_option maxHeartbeats 4000000
namespace K1
open PySem PySem.Spec PyProof.Rows L2
/-- a list or a tuple at a, of xs -/
def SqA (K : PySem.W.Frag) (H : Hp) (a : Addr) (xs : List V) : Prop := SqL K H a xs ∨ SqT K H a xs
theorem SqT.same {K : PySem.W.Frag} {H H' : Hp} {a : Addr} {xs : List V} (e : Same H H') (h : SqT K H a xs) : SqT K H' a xs := by
  rcases h with (h | ⟨o, h⟩) | h
  · exact .inl (.inl (e _ _ h))
  · exact .inl (.inr ⟨o, e _ _ h⟩)
  · exact .inr h
theorem SqA.same {K : PySem.W.Frag} {H H' : Hp} {a : Addr} {xs : List V} (h : SqA K H a xs) (e : Same H H') : SqA K H' a xs := h.imp e.seq (SqT.same e)
/-- what stands at a still stands there -/
def At1 (a : Addr) (H H' : Hp) : Prop := ∀ o, H a = some o → H' a = some o
theorem At1.l {K : PySem.W.Frag} {H H' : Hp} {a : Addr} {xs : List V} (e : At1 a H H') (h : SqL K H a xs) : SqL K H' a xs := by
  rcases h with (h | ⟨o, h⟩) | h
  · exact .inl (.inl (e _ h))
  · exact .inl (.inr ⟨o, e _ h⟩)
  · exact .inr h
theorem At1.t {K : PySem.W.Frag} {H H' : Hp} {a : Addr} {xs : List V} (e : At1 a H H') (h : SqT K H a xs) : SqT K H' a xs := by
  rcases h with (h | ⟨o, h⟩) | h
  · exact .inl (.inl (e _ h))
  · exact .inl (.inr ⟨o, e _ h⟩)
  · exact .inr h
/-- enumerate of the list or tuple in slot i: by any walk over new pairs -/
def iEnumV (K : PySem.W.Frag) (i : Nat) : TI := fun σ H R => ∃ a xs, σ[i]? = some (some (.ref a)) ∧ SqA K H a xs ∧
  ∀ J G, Walk J xs.length G (YPair (fun i => some (.int (i : Nat))) (fun i => xs[i]?)) → (∀ H', At1 a H H' → G H') → R J H
/-- the items of the list or tuple in slot i -/
def iSeqV (K : PySem.W.Frag) (i : Nat) : TI := fun σ H R => ∃ a xs, σ[i]? = some (some (.ref a)) ∧ SqA K H a xs ∧ ∀ J G, Walk J xs.length G (YAt xs) → (∀ H', At1 a H H' → G H') → R J H
/-- a reading of arguments may be taken weaker -/
theorem PI.imp {X : Cx} {tg iter : Expr} {wi wi' : TI} (h : PI X tg iter wi) (hw : ∀ σ H R, wi' σ H R → wi σ H R) : PI X tg iter wi' := ⟨fun pins s σ H R I q => h.run pins s σ H R I (hw σ H R q)⟩
theorem PG.imp {X : Cx} {tg : Expr} {g g' : TG} (h : PG X tg g) (hw : ∀ v σ H Q, g' v σ H Q → g v σ H Q) : PG X tg g' := ⟨fun pins s σ H v u Q I r q => h.run pins s σ H v u Q I r (hw v σ H Q q)⟩
theorem pi_enumV {X : Cx} (i : Nat) {x : Str} {p px pos tpos : Pos} {elts : List Expr} {kk : Nat} (hg : Gl X "enumerate") (hm : X.mg "enumerate" = none) (hv : PE X (.Name x px) (tVar i)) (hs : starEach [.Name x px] X.env = [(false, eval (.Name x px) X.env)] := by rfl) :
    PI X (.Tuple elts kk tpos) (.Call (.Name "enumerate" p) [.Name x px] [] pos) (iEnumV X.K i) := by
  refine PI.imp (pi_enumA hg hm (pa_cons hv pa_nil) hs) fun σ H R q => ?_
  obtain ⟨a, xs, hσ, hq, q⟩ := q
  rcases hq with hq | hq
  · exact ⟨_, hσ, a, xs, rfl, .inl ⟨hq, q _ _ walk_enum fun H' h' => At1.l h' hq⟩⟩
  · exact ⟨_, hσ, a, xs, rfl, .inr ⟨hq, q _ _ walk_enumT fun H' h' => At1.t h' hq⟩⟩
theorem pi_seqV {X : Cx} {tg : Expr} (i : Nat) {x : Str} {px : Pos} (hv : PE X (.Name x px) (tVar i)) : PI X tg (.Name x px) (iSeqV X.K i) := by
  refine ⟨fun pins s σ H R I q => ?_⟩
  obtain ⟨a, xs, hσ, hq, q⟩ := q
  rcases hq with hq | hq
  · exact (pi_list hv).run pins s σ H R I ⟨_, hσ, a, rfl, ⟨xs, hq⟩, q _ _ walk_list fun H' h' => At1.l h' hq⟩
  · exact (pi_tup hv).run pins s σ H R I ⟨_, hσ, a, rfl, ⟨xs, hq⟩, q _ _ walk_tup fun H' h' => At1.t h' hq⟩
end K1
end
-- KNeed
section
set_option Elab.async false
set_option linter.all false
set_option maxRecDepth 100000
set_option maxHeartbeats 4000000
namespace K1
open PySem PySem.Spec PyProof.Rows L2
abbrev sNH : Stmt := top 19
/-- an error of the class at C with this index goes out; all that was tracked is as it was -/
def Goes (C : Addr) (i : Int) (H : Hp) (E : XK) : Prop := ∀ (d : Addr) (H' : Hp), Same H H' → H d = none → H' d = some (.xd [("index", .int i)]) → E (.ref C) (some d) H'
theorem Goes.ext {C : Addr} {i : Int} {H H1 : Hp} {E : XK} (g : Goes C i H E) (e : Same H H1) : Goes C i H1 E := fun d H' e2 n h => g d H' (e.trans e2) (e.free n) h
/-- good names -/
def Good (ss : List Str) : Prop := ss.Nodup ∧ ∀ s ∈ ss, nameOk s = true ∧ s.length ≤ 1000
theorem mem_take_succ {α : Type} {l : List α} {i : Nat} {u : α} (h : i < l.length) : u ∈ l.take (i + 1) ↔ u ∈ l.take i ∨ u = l[i] := by
  rw [List.take_add_one, List.getElem?_eq_getElem h, Option.toList, List.mem_append, List.mem_singleton]
/-- no name behind these -/
def BadName (K : PySem.W.Frag) (H : Hp) (ss : List Str) (x : V) : Prop := (∃ t, TyX K H x (.type t) ∧ t ∈ kinds ∧ t ≠ "str") ∨ ∃ s, x = .str s ∧ s.length ≤ 1000 ∧ (nameOk s = false ∨ s ∈ ss)
theorem BadName.ext {K : PySem.W.Frag} {H H' : Hp} {ss : List Str} {x : V} (h : BadName K H ss x) (e : Same H H') : BadName K H' ss x := h.imp (fun ⟨t, a, b⟩ => ⟨t, TyX.ext a e, b⟩) id
def spNH (K : PySem.W.Frag) (C : Addr) : Sp := fun vs H Q E => ∃ v, vs = [v] ∧
  ((NoSeq K H v ∧ Goes C 0 H E) ∨ (SeqV H v [] ∧ Goes C 0 H E) ∨
   (∃ ss, SeqV H v (ss.map V.str) ∧ ss ≠ [] ∧ ss.length ≤ 1000 ∧ Good ss ∧ ∀ H', Same H H' → Q .non H') ∨
   (∃ ss x rest, SeqV H v (ss.map V.str ++ x :: rest) ∧ ss.length ≤ 1000 ∧ Good ss ∧ BadName K H ss x ∧ Goes C (ss.length : Nat) H E))
theorem scNH : FnScope ["houses", "seen", "index", "name"] ["houses"] (defScope sNH) := ⟨rfl, rfl, rfl, by decide +kernel, rfl, by decide +kernel, by decide +kernel⟩
/-- what stands behind an error that was made: its dict -/
theorem made_err {C d a : Addr} {v : V} {H : Hp} : upd (del (upd (upd H d (exd d [("index", v)])) a (exo a C (some d))) a) d (.xd [("index", v)]) d = some (.xd [("index", v)]) := upd_same
section
variable {P : Program} {w : World} {K : PySem.W.Frag} {mg : Str → Option Value} {base : Heap} {CF : Addr}
/-- the reading of X(index), as a raise asks it -/
theorem raise_idx {C : Addr} {E : XK} {H0 H : Hp} {i : Int} (g : Goes C i H0 E) (e : Same H0 H) :
    ∀ a, H a = none → spErI C [V.ref a, V.int i] (upd H a (exo a C none)) (fun v H2 => v = .non ∧ ∃ (d : Addr) (fs : List (Str × V)), H2 a = some (exo a C (some d)) ∧ H2 d = some (exd d fs) ∧ H d = none ∧ E (.ref C) (some d) (upd (del H2 a) d (.xd fs))) (fun _ _ _ => False) := by
  intro a ha
  refine ⟨a, .int i, rfl, upd_same, fun d hd hda => ⟨rfl, d, [("index", .int i)], upd_same, ?_, ?_, ?_⟩⟩
  · rw [upd_ne hda, upd_same]
  · rw [upd_ne hda] at hd
    exact hd
  · rw [upd_ne hda] at hd
    refine g d _ (fun b o n => ?_) (e.free hd) upd_same
    have n1 := e b o n
    have b1 : b ≠ a := ne_of_none n1 ha
    have b2 : b ≠ d := ne_of_none n1 hd
    rw [upd_ne b2, del_ne b1, upd_ne b1, upd_ne b2, upd_ne b1]
    exact n1
theorem ok_NH {f g fN fE C : Addr} {fd gd nd ed : FuncData} (F : Fun K "_need_houses" "_need_houses" sNH f fd) (B : Bl mg) (S : Signs mg) (me : mg "enumerate" = none) (ms : mg "set" = none)
    (FI : Fun K "is_list" "is_list" sIsList g gd) (b : Binds K gd ["thing"] []) (m : mg "is_list" = some (.ref g))
    (FN : Fun K "is_name" "is_name" sIsName fN nd) (bN : Binds K nd ["thing"] []) (mN : mg "is_name" = some (.ref fN))
    (T : FeC K mg CF) (TC : ErC K mg "BadHouses" C fE) (FE : Fun K "__init__" "BadHouses.__init__" sIH fE ed) (bE : Binds K ed ["self", "index"] []) :
    FnOk P w K mg base (L2.CX P w) 4 f fd ["houses"] (spNH K C) := by
  have G := ok_isList (P := P) (w := w) (base := base) FI B
  have GN := ok_isName (P := P) (w := w) (base := base) FN B S
  have GE := ok_iH (P := P) (w := w) (base := base) FE T TC
  refine F.okX scNH (fun vs H Q E h => ?_) (fun cdv A outer s H vs Q E hr h => ?_)
  · obtain ⟨v, rfl, _⟩ := h
    rfl
  obtain ⟨v, rfl, h⟩ := h
  have nd := scNH.nd
  have hu := hu_of hr
  have hr1 : Room 1 _ := hr.mono (by decide)
  have hr2 : Room 2 _ := hr.mono (by decide)
  refine ⟨_, pss_cons (by exact (ps_if (PW.pt (pw_or (pt_not (pt_val (pe_call G hr1 rfl m FI.kp b .nil pass0 (pa_cons (pv 0) pa_nil)))) (pw_or1 (pt_cmpR op_eq (pe_callB call_len_seq rfl B.len PySem.boot_len (pa_cons (pv 0) pa_nil)) pe_int (nomark _)))))
      (pss_one (by exact (ps_raise rfl (takes_of rfl rfl rfl rfl) (pmk_oex TC.ox TC.ini TC.ty GE hr2 bE .nil pass0 rfl TC.m (pa_cons pe_int pa_nil))))) pss_nil))
    (pss_cons (by exact (ps_set (i := 1) nd rfl (.inl rfl) (pe_callTy0 cr_set0K rfl ms PyProof.Rows.boot_set)))
    (pss_one (by exact (ps_for (passes_of rfl) rfl (by exact pi_enumV 0 rfl me (pv 0)) (pg_tup rfl (pgs_cons (pg_name (i := 2) nd rfl (.inl rfl)) (pgs_cons (pg_name (i := 3) nd rfl (.inl rfl)) pgs_nil)))
      (pss_cons (by exact (ps_if (PW.pt (pw_or (pt_not (pt_val (pe_call GN hr1 rfl mN FN.kp bN .nil pass0 (pa_cons (pv 3) pa_nil)))) (pw_or1 (pt_cmpR or_sinK (pv 3) (pv 1) (by with_unfolding_all rfl)))))
          (pss_one (by exact (ps_raise rfl (takes_of rfl rfl rfl rfl) (pmk_oex TC.ox TC.ini TC.ty GE hr2 bE .nil pass0 rfl TC.m (pa_cons (pv 2) pa_nil))))) pss_nil))
        (pss_one (by exact (ps_expr (pe_saddK (pv 1) (pa_cons (pv 3) pa_nil)))))))))), ?_⟩
  have two : ∀ xs, SeqV H v xs → ∃ t, TyX K H v (.type t) ∧ t ∈ kinds ∧ isSeqT t = true := fun xs sv => sv.ty
  rcases h with ⟨⟨t, ty, kt, nt⟩, g⟩ | ⟨sv, g⟩ | h
  · refine ⟨_, rfl, v, t, rfl, ty, kt, fun H' e => ⟨_, rfl, ?_⟩⟩
    rw [nt]
    exact iteT (iteT ⟨by decide, raise_idx g e⟩)
  · obtain ⟨t, ty, kt, st⟩ := sv.ty (K := K)
    refine ⟨_, rfl, v, t, rfl, ty, kt, fun H' e => ⟨_, rfl, ?_⟩⟩
    rw [st]
    obtain ⟨p, rfl, sq⟩ := (sv.ext e).sq (K := K)
    exact iteF ⟨_, rfl, p, [], rfl, sq, rfl, _, rfl, iteT ⟨by decide, raise_idx g e⟩⟩
  · -- names: the good ones ss, then perhaps a bad one
    obtain ⟨ss, xs, sv, hne, hl, good, rest⟩ : ∃ (ss : List Str) (xs : List V), SeqV H v xs ∧ xs ≠ [] ∧ ss.length ≤ 1000 ∧ Good ss ∧
        ((xs = ss.map V.str ∧ ∀ H', Same H H' → Q .non H') ∨ (∃ x r, xs = ss.map V.str ++ x :: r ∧ BadName K H ss x ∧ Goes C (ss.length : Nat) H E)) := by
      rcases h with ⟨ss, sv, hne, hl, good, q⟩ | ⟨ss, x, r, sv, hl, good, bad, g⟩
      · exact ⟨ss, _, sv, by simpa using hne, hl, good, .inl ⟨rfl, q⟩⟩
      · exact ⟨ss, _, sv, by simp, hl, good, .inr ⟨x, r, rfl, bad, g⟩⟩
    obtain ⟨t, ty, kt, st⟩ := sv.ty (K := K)
    refine ⟨_, rfl, v, t, rfl, ty, kt, fun H1 e1 => ⟨_, rfl, ?_⟩⟩
    rw [st]
    refine iteF ?_
    obtain ⟨p, rfl, hp⟩ := sv.ext e1
    have sq : SqA K H1 p xs := hp.imp (fun h => SqL.of h) (fun h => SqT.of h)
    have z0 : decide (V.int (xs.length : Int) = V.int 0) = false := decide_eq_false fun z => hne (List.length_eq_zero_iff.mp (by have := V.int.inj z; omega))
    refine ⟨_, rfl, p, xs, rfl, sq, rfl, _, rfl, ?_⟩
    rw [z0]
    refine iteF ?_
    refine ⟨rfl, fun sA hsA => ?_⟩
    have e2 : Same H (upd H1 sA (SetK P w sA (fun _ => false) 0)) := e1.trans (K1.Same.upd hsA)
    have hsA0 : H sA = none := e1.free hsA
    have sq2 : SqA K (upd H1 sA (SetK P w sA (fun _ => false) 0)) p xs := SqA.same (H := H1) sq (K1.Same.upd hsA)
    refine ⟨p, xs, rfl, sq2, fun J G wk hG => ?_⟩
    have xat : ∀ i (hi : i < ss.length), xs[i]? = some (.str ss[i]) := fun i hi => by
      rcases rest with ⟨rfl, _⟩ | ⟨x, r, rfl, _⟩
      · rw [List.getElem?_map, List.getElem?_eq_getElem hi]; rfl
      · rw [List.getElem?_append_left (by rw [List.length_map]; exact hi), List.getElem?_map, List.getElem?_eq_getElem hi]; rfl
    have lng : ss.length ≤ xs.length := by
      rcases rest with ⟨rfl, _⟩ | ⟨x, r, rfl, _⟩
      · simp
      · simp
    refine for_it wk (fun i σ Hc => i ≤ ss.length ∧ (∃ a b, σ = [some (.ref p), some (.ref sA), a, b]) ∧ Same H Hc ∧ (∀ c o, c ≠ sA → upd H1 sA (SetK P w sA (fun _ => false) 0) c = some o → Hc c = some o) ∧
      ∃ (S : Key → Bool) (k : Nat), Hc sA = some (SetK P w sA S k) ∧ k ≤ i ∧ ∀ u : Str, S (.inr u) = decide (u ∈ ss.take i)) ?_ ?_ ?_ ?_
    · exact ⟨Nat.zero_le _, ⟨_, _, rfl⟩, e2, fun c o _ h => h, _, 0, upd_same, Nat.le_refl _, fun u => by simp⟩
    · rintro i σ Hc hi ⟨h1, h2, h3, h4, h5⟩
      have pn : p ≠ sA := hp.elim (fun h => ne_of_none h hsA) (fun h => ne_of_none h hsA)
      exact hG Hc fun o ho => h4 p o pn ho
    · rintro i x σ Hc H' hi ⟨h1, ⟨sa, sb, rfl⟩, h3, h4, S, k, h5, h6, h7⟩ ⟨T, x1, x2, rfl, hT, rfl, e1', e2'⟩
      obtain rfl : x1 = .int (i : Nat) := (Option.some.inj e1').symm
      have e2' : xs[i]? = some x2 := e2'
      have hT2 := K1.Same.upd (H := Hc) (p := T) (o := .tup [.int (i : Nat), x2]) hT
      have eT : Same H (upd Hc T (.tup [.int (i : Nat), x2])) := h3.trans hT2
      refine ⟨T, _, rfl, SqT.of upd_same, rfl, _, _, rfl, _, _, rfl, rfl, ?_⟩
      by_cases hlt : i < ss.length
      · have ex2 : x2 = .str ss[i] := by
          have := xat i hlt
          rw [this] at e2'
          exact (Option.some.inj e2').symm
        subst ex2
        have gi := good.2 ss[i] (List.getElem_mem hlt)
        refine ⟨_, rfl, .str ss[i], rfl, .inl ⟨ss[i], rfl, gi.2, fun H2 f2 => ⟨_, rfl, ?_⟩⟩⟩
        rw [gi.1]
        refine iteF ?_
        have sA2 := f2 _ _ (hT2 _ _ h5)
        have nin : ¬ ss[i] ∈ ss.take i := fun hm => by
          obtain ⟨j, hj, ej⟩ := List.getElem_of_mem hm
          rw [List.length_take] at hj
          rw [List.getElem_take] at ej
          have := (List.getElem_inj good.1).mp ej
          omega
        refine ⟨_, rfl, _, rfl, .inr ss[i], sA, S, k, rfl, rfl, sA2, _, rfl, ?_⟩
        rw [h7, decide_eq_false nin]
        refine iteF ?_
        refine ⟨_, rfl, ⟨sA, S, k, rfl, sA2⟩, _, rfl, sA, .inr ss[i], S, k, rfl, rfl, sA2, (by show k + 1 < 4096; omega), ?_⟩
        refine ⟨hlt, ⟨_, _, rfl⟩, fun c o n => ?_, fun c o n1 n2 => ?_, _, _, upd_same, ?_, fun u => ?_⟩
        · rw [upd_ne (ne_of_none n hsA0)]
          exact f2 _ _ (eT _ _ n)
        · rw [upd_ne n1]
          exact f2 _ _ (hT2 _ _ (h4 c o n1 n2))
        · split <;> omega
        · show (S (.inr u) || decide ((Sum.inr u : Key) = Sum.inr ss[i])) = decide (u ∈ ss.take (i + 1))
          rw [h7, key_rr, ← Bool.decide_or]
          exact decide_eq_decide.mpr (mem_take_succ hlt).symm
      · rcases rest with ⟨rfl, _⟩ | ⟨x, r, hxs, bad, g⟩
        · rw [List.length_map] at hi
          exact absurd hi hlt
        · have ei : i = ss.length := by omega
          subst ei
          have ex2 : x2 = x := by
            rw [hxs, List.getElem?_append_right (by rw [List.length_map]; exact Nat.le_refl _), List.length_map, Nat.sub_self] at e2'
            exact (Option.some.inj e2').symm
          subst ex2
          rcases bad.ext eT with ⟨t, ty, kt, nt⟩ | ⟨u, rfl, hu1, hu2⟩
          · exact ⟨_, rfl, x2, rfl, .inr ⟨t, ty, kt, nt, _, rfl, iteT (iteT ⟨_, rfl, (by show 1 ≤ 1000; decide), raise_idx g eT⟩)⟩⟩
          · refine ⟨_, rfl, .str u, rfl, .inl ⟨u, rfl, hu1, fun H2 f2 => ⟨_, rfl, ?_⟩⟩⟩
            rcases hu2 with hu2 | hu2
            · rw [hu2]
              exact iteT (iteT ⟨_, rfl, (by show 1 ≤ 1000; decide), raise_idx g (eT.trans f2)⟩)
            · cases hn : nameOk u with
              | false => exact iteT (iteT ⟨_, rfl, (by show 1 ≤ 1000; decide), raise_idx g (eT.trans f2)⟩)
              | true =>
                refine iteF ?_
                refine ⟨_, rfl, _, rfl, .inr u, sA, S, k, rfl, rfl, f2 _ _ (hT2 _ _ h5), _, rfl, ?_⟩
                rw [h7, List.take_of_length_le (Nat.le_refl _), decide_eq_true hu2]
                exact iteT ⟨_, rfl, (by show 1 ≤ 1000; decide), raise_idx g (eT.trans f2)⟩
    · rintro σ Hc ⟨h1, h2, h3, h4, h5⟩
      rcases rest with ⟨rfl, q⟩ | ⟨x, r, rfl, bad, g⟩
      · exact q Hc h3
      · rw [List.length_append, List.length_map, List.length_cons] at h1
        omega
end
end K1
end
-- KUF
section
set_option Elab.async false
set_option linter.all false
set_option maxRecDepth 100000
set_option maxHeartbeats 4000000
namespace K1
open PySem PySem.Spec PyProof.Rows L2
/-- the dict of leaders: rt tells whom one comes to at last, rk falls on the way -/
structure UF (hs : List Str) (kvs : List (Key × V)) (rt : Str → Str) (rk : Str → Nat) : Prop where
  len : kvs.length ≤ hs.length
  ex : ∃ ld : Str → Str, (∀ s, valV kvs (.inr s) = if s ∈ hs then some (.str (ld s)) else none) ∧
    ∀ s ∈ hs, ld s ∈ hs ∧ rt (ld s) = rt s ∧ rt s ∈ hs ∧ (ld s = s → rt s = s) ∧ (ld s ≠ s → rk (ld s) < rk s) ∧ ld (rt s) = rt s
theorem putK_len {kvs : List (Key × V)} {k : Key} {v : V} (h : (valV kvs k).isSome = true) : (putK kvs k v).length = kvs.length := by
  unfold putK
  rw [← valV_any] at h
  rw [if_pos h, List.length_map]
theorem ite_rr {α : Type} (s x : Str) (p q : α) : (if (Sum.inr s : Key) = Sum.inr x then p else q) = if s = x then p else q := by
  by_cases e : s = x
  · rw [if_pos e, if_pos (by rw [e])]
  · rw [if_neg e, if_neg (fun z => e (Sum.inr.inj z))]
/-- the way is made shorter -/
theorem UF.halve {hs : List Str} {kvs : List (Key × V)} {rt : Str → Str} {rk : Str → Nat} {x : Str} (u : UF hs kvs rt rk) (hx : x ∈ hs) :
    ∃ y, valV kvs (.inr x) = some (.str y) ∧ y ∈ hs ∧ (y = x → rt x = x) ∧ (y ≠ x → ∃ z, valV kvs (.inr y) = some (.str z) ∧ z ∈ hs ∧ rk z < rk x ∧ rt z = rt x ∧ UF hs (putK kvs (.inr x) (.str z)) rt rk) := by
  obtain ⟨hl, ld, h1, h2⟩ := u
  have a := h2 x hx
  have b := h2 (ld x) a.1
  refine ⟨ld x, by rw [h1, if_pos hx], a.1, a.2.2.2.1, fun ne => ⟨ld (ld x), by rw [h1, if_pos a.1], b.1, ?_, by rw [b.2.1, a.2.1], ?_⟩⟩
  · have r1 := a.2.2.2.2.1 ne
    by_cases e : ld (ld x) = ld x
    · rw [e]; exact r1
    · exact Nat.lt_trans (b.2.2.2.2.1 e) r1
  · refine ⟨?_, fun s => if s = x then ld (ld x) else ld s, fun s => ?_, fun s hs' => ?_⟩
    · rw [putK_len (by rw [h1, if_pos hx]; rfl)]
      exact hl
    · rw [valV_put, ite_rr]
      show _ = if s ∈ hs then some (V.str (if s = x then ld (ld x) else ld s)) else none
      by_cases e : s = x
      · rw [if_pos e, if_pos e, e, if_pos hx]
      · rw [if_neg e, if_neg e, h1]
    · have c := h2 s hs'
      have rx : rt s ≠ x := fun e => by
        have q := c.2.2.2.2.2
        rw [e] at q
        exact ne q
      by_cases e : s = x
      · subst e
        simp only [if_true]
        refine ⟨b.1, by rw [b.2.1, a.2.1], c.2.2.1, fun e2 => ?_, fun e2 => ?_, by rw [if_neg rx]; exact c.2.2.2.2.2⟩
        · exfalso
          have r1 := a.2.2.2.2.1 ne
          by_cases e3 : ld (ld s) = ld s
          · rw [e3] at e2; exact ne e2
          · have r2 := b.2.2.2.2.1 e3
            rw [e2] at r2
            omega
        · have r1 := a.2.2.2.2.1 ne
          by_cases e3 : ld (ld s) = ld s
          · rw [e3]; exact r1
          · exact Nat.lt_trans (b.2.2.2.2.1 e3) r1
      · simp only [if_neg e, if_neg rx]
        exact c
theorem UF.start {hs : List Str} (nd : hs.Nodup) : UF hs (hs.map fun s => ((.inr s : Key), V.str s)) (fun s => s) (fun _ => 0) := by
  refine ⟨by rw [List.length_map]; exact Nat.le_refl _, fun s => s, fun s => ?_, fun s h => ⟨h, rfl, h, fun _ => rfl, fun e => absurd rfl e, rfl⟩⟩
  induction hs with
  | nil => rfl
  | cons a r ih =>
    have n := List.nodup_cons.mp nd
    by_cases e : a = s
    · subst e
      rw [List.map_cons, valV_pos rfl, if_pos (List.mem_cons_self ..)]
    · rw [List.map_cons, valV_neg (fun q => e (Sum.inr.inj q)), ih n.2]
      by_cases m : s ∈ r
      · rw [if_pos m, if_pos (List.mem_cons_of_mem _ m)]
      · rw [if_neg m, if_neg (fun q => (List.mem_cons.mp q).elim (fun z => e z.symm) m)]
/-- two that lead are joined -/
def joinRt (rt : Str → Str) (a b : Str) : Str → Str := fun s => if rt s = rt a then rt b else rt s
theorem UF.join {hs : List Str} {kvs : List (Key × V)} {rt : Str → Str} {rk : Str → Nat} {a b : Str} (u : UF hs kvs rt rk) (ha : a ∈ hs) (hb : b ∈ hs) (ne : rt a ≠ rt b) :
    ∃ rk', UF hs (putK kvs (.inr (rt a)) (.str (rt b))) (joinRt rt a b) rk' := by
  obtain ⟨hl, ld, h1, h2⟩ := u
  have ca := h2 a ha
  have cb := h2 b hb
  have rra : rt (rt a) = rt a := (h2 _ ca.2.2.1).2.2.2.1 ca.2.2.2.2.2
  have rrb : rt (rt b) = rt b := (h2 _ cb.2.2.1).2.2.2.1 cb.2.2.2.2.2
  refine ⟨fun s => if rt s = rt a then rk s + rk (rt b) + 1 else rk s, ?_, fun s => if s = rt a then rt b else ld s, fun s => ?_, fun s hs' => ?_⟩
  · rw [putK_len (by rw [h1, if_pos ca.2.2.1]; rfl)]
    exact hl
  · rw [valV_put, ite_rr]
    show _ = if s ∈ hs then some (V.str (if s = rt a then rt b else ld s)) else none
    by_cases e : s = rt a
    · rw [if_pos e, if_pos e, e, if_pos ca.2.2.1]
    · rw [if_neg e, if_neg e, h1]
  · have c := h2 s hs'
    unfold joinRt
    by_cases e : s = rt a
    · subst e
      simp only [if_true, rra, rrb, if_neg ne.symm]
      refine ⟨cb.2.2.1, trivial, cb.2.2.1, fun z => z, fun _ => by omega, cb.2.2.2.2.2⟩
    · simp only [if_neg e]
      rw [c.2.1]
      by_cases q : rt s = rt a
      · simp only [if_pos q, if_neg ne.symm, rrb]
        refine ⟨c.1, trivial, cb.2.2.1, fun z => ?_, fun z => ?_, cb.2.2.2.2.2⟩
        · exact absurd ((c.2.2.2.1 z).symm.trans q) e
        · have := c.2.2.2.2.1 z
          omega
      · simp only [if_neg q]
        refine ⟨c.1, trivial, c.2.2.1, c.2.2.2.1, c.2.2.2.2.1, ?_⟩
        exact c.2.2.2.2.2
end K1
end
-- KLead
section
set_option Elab.async false
set_option linter.all false
set_option maxRecDepth 100000
set_option maxHeartbeats 4000000
namespace K1
open PySem PySem.Spec PyProof.Rows L2
abbrev sLead : Stmt := top 22
abbrev sKeys : Stmt := top 21
def spLead : Sp := fun vs H Q _ => ∃ (a : Addr) (h : Str) (kvs : List (Key × V)) (hs : List Str) (rt : Str → Str) (rk : Str → Nat), vs = [.ref a, .str h] ∧ H a = some (.dK kvs) ∧ UF hs kvs rt rk ∧ h ∈ hs ∧ hs.length ≤ 1000 ∧
  ∀ kvs', UF hs kvs' rt rk → Q (.str (rt h)) (upd H a (.dK kvs'))
theorem scLead : FnScope ["leads", "house"] ["leads", "house"] (defScope sLead) := ⟨rfl, rfl, rfl, by decide +kernel, rfl, by decide +kernel, by decide +kernel⟩
def muLead (rk : Str → Nat) (σ : L2.St) : Nat := match σ with
  | [_, some (.str x)] => rk x
  | _ => 0
section
variable {P : Program} {w : World} {K : PySem.W.Frag} {mg : Str → Option Value} {base : Heap}
theorem ok_lead {f : Addr} {fd : FuncData} (F : Fun K "_leader" "_leader" sLead f fd) : FnOk P w K mg base CX0 1 f fd ["leads", "house"] spLead := by
  refine F.ok scLead (fun vs H Q E h => ?_) (fun cdv A outer s H vs Q E hr h => ?_)
  · obtain ⟨a, h, kvs, hs, rt, rk, rfl, _⟩ := h
    rfl
  obtain ⟨a, h, kvs, hs, rt, rk, rfl, ha, u, hh, hl, q⟩ := h
  have nd := scLead.nd
  have hu := hu_of hr
  refine ⟨_, pss_cons (by exact (ps_while PassesOwn.never (pt_cmpR op_ne (pe_dget hu (pv 0) (pv 1) (fun _ _ => rfl)) (pv 1) (nomark _))
      (pss_cons (by exact (ps_dput hu (pv 0) (pv 1) (pe_dget hu (pv 0) (pe_dget hu (pv 0) (pv 1) (fun _ _ => rfl)) (fun _ _ => rfl)) rfl))
      (pss_one (by exact (ps_set (i := 1) nd rfl (.inl rfl) (pe_dget hu (pv 0) (pv 1) (fun _ _ => rfl))))))))
    (pss_one (by exact (ps_ret (pv 1)))), ?_⟩
  refine while_by (fun σ Hc => ∃ kvs' x, σ = [some (.ref a), some (.str x)] ∧ Hc = upd H a (.dK kvs') ∧ UF hs kvs' rt rk ∧ x ∈ hs ∧ rt x = rt h) (fun σ _ => muLead rk σ) ⟨kvs, h, rfl, ?_, u, hh, rfl⟩ ?_ ?_
  · funext b
    by_cases e : b = a
    · rw [e, upd_same, ha]
    · rw [upd_ne e]
  · rintro σ Hc ⟨kvs', x, rfl, rfl, u', hx, er⟩
    obtain ⟨y, g1, hy, e1, e2⟩ := u'.halve hx
    have hd : upd H a (.dK kvs') a = some (.dK kvs') := upd_same
    have dg : ∀ {s z}, valV kvs' (.inr s) = some z → DGet (upd H a (.dK kvs')) a (.str s) (some z) := fun {s z} g => by
      have q := DGet.k (k := .inr s) hd
      rw [g] at q
      exact q
    refine ⟨_, rfl, _, rfl, a, .str y, rfl, dg g1, _, rfl, rfl, _, rfl, ?_⟩
    by_cases e : y = x
    · subst e
      rw [decide_eq_true rfl]
      refine iteF ⟨_, rfl, ?_⟩
      have := q kvs' u'
      rw [← er, e1 rfl] at this
      exact this
    · have ne : (!decide (V.str y = V.str x)) = true := by rw [decide_eq_false (fun z => e (V.str.inj z))]; rfl
      rw [ne]
      refine iteT ?_
      obtain ⟨z, g2, hz, lt, er2, u2⟩ := e2 e
      have dp : DPut (upd H a (.dK kvs')) a (.str x) (.str z) (upd (upd H a (.dK kvs')) a (.dK (putK kvs' (.inr x) (.str z)))) := DPut.k (k := .inr x) hd (Nat.lt_of_le_of_lt u'.len (small1000 hl))
      rw [upd_upd] at dp
      refine ⟨_, rfl, _, rfl, _, rfl, a, .str y, rfl, dg g1, a, .str z, rfl, dg g2, _, rfl, _, rfl, a, _, rfl, dp, ?_⟩
      have g3 : valV (putK kvs' (.inr x) (.str z)) (.inr x) = some (.str z) := by rw [valV_put, if_pos rfl]
      have dg3 : DGet (upd H a (.dK (putK kvs' (.inr x) (.str z)))) a (.str x) (some (.str z)) := by
        have q := DGet.k (k := .inr x) (show upd H a (.dK (putK kvs' (.inr x) (.str z))) a = some (.dK (putK kvs' (.inr x) (.str z))) from upd_same)
        rw [g3] at q
        exact q
      exact ⟨_, rfl, _, rfl, a, .str z, rfl, dg3, ⟨_, z, rfl, rfl, u2, hz, er2.trans er⟩, lt⟩
  · rintro σ Hc Q1 Q2 hQ ⟨v1, h1, v2, h2, a', v3, h3, h4, v5, h5, h6, k, h7, h8⟩
    exact ⟨v1, h1, v2, h2, a', v3, h3, h4, v5, h5, h6, k, h7, hQ _ _ h8⟩
end
end K1
end
-- KKeys
section
set_option Elab.async false
set_option linter.all false
set_option maxRecDepth 100000
set_option maxHeartbeats 4000000
namespace K1
open PySem PySem.Spec PyProof.Rows L2
def isKey (hs : List Str) : V → Bool
  | .str s => decide (s ∈ hs)
  | _ => false
/-- a text, or a value of another known type -/
def TextOr (K : PySem.W.Frag) (H : Hp) (x : V) : Prop := (∃ s, x = .str s) ∨ ∃ t, TyX K H x (.type t) ∧ t ∈ kinds ∧ t ≠ "str"
theorem TextOr.ext {K : PySem.W.Frag} {H H' : Hp} {x : V} (h : TextOr K H x) (e : Same H H') : TextOr K H' x := h.imp id fun ⟨t, a, b⟩ => ⟨t, TyX.ext a e, b⟩
theorem isKey_no {K : PySem.W.Frag} {H : Hp} {hs : List Str} {x : V} {t : String} (h : TyX K H x (.type t)) (n : t ≠ "str") : isKey hs x = false := by
  cases x with
  | str s =>
    exfalso
    cases h with
    | base b =>
      cases b with
      | str y => exact n rfl
  | _ => rfl
theorem dc_it {J : It} {n : Nat} {G : Hp → Prop} {Y : Nat → Hp → V → Hp → Prop} (w : Walk J n G Y) {g : TG} {tt : TT} {tk tv : TE} {vs : List Nat} {σ : L2.St} {H1 : Hp} {D : Addr} {Qd : Hp → Prop} (Pv : Nat → Hp → Prop) (h0 : Pv 0 (upd H1 D (.dK []))) (hG : ∀ i H, i ≤ n → Pv i H → G H)
    (hs : ∀ i x H H', i < n → Pv i H → Y i H x H' → g x (wipe σ vs) H' fun σ2 H2 => wipe σ2 vs = wipe σ vs ∧ tt σ2 H2 fun b H3 =>
      if b = true then tk σ2 H3 fun y H4 => tv σ2 H4 fun z H5 => ∃ kvs k, y = kV k ∧ H5 D = some (.dK kvs) ∧ kvs.length < sizeLine ∧ Pv (i + 1) (upd H5 D (.dK (putK kvs k z))) else Pv (i + 1) H3) (hd : ∀ H, Pv n H → Qd H) :
    ∃ W : Nat → Nat → Hp → Prop, (∃ m, W 0 m (upd H1 D (.dK []))) ∧ ∀ i m H, W i m H →
      (J.stop i H ∧ Qd H) ∨ (J.go i H ∧ ∃ Nx : Hp → Prop, (∀ H', Nx H' → ∃ m', m' < m ∧ W (i + 1) m' H') ∧ ∀ x H', J.yld i H x H' → g x (wipe σ vs) H' fun σ2 H2 => wipe σ2 vs = wipe σ vs ∧ tt σ2 H2 fun b H3 =>
        if b = true then tk σ2 H3 fun y H4 => tv σ2 H4 fun z H5 => ∃ kvs k, y = kV k ∧ H5 D = some (.dK kvs) ∧ kvs.length < sizeLine ∧ Nx (upd H5 D (.dK (putK kvs k z))) else Nx H3) := by
  refine ⟨fun i m H => m = n - i ∧ i ≤ n ∧ Pv i H, ⟨n, by simp, Nat.zero_le _, h0⟩, ?_⟩
  rintro i m H ⟨rfl, hi, p⟩
  have q := hG i H hi p
  by_cases hlt : i < n
  · exact .inr ⟨w.goes i H hlt q, Pv (i + 1), fun H' p' => ⟨n - (i + 1), by omega, rfl, hlt, p'⟩, fun x H' y => hs i x H H' hlt p (w.yields i H x H' hlt q y)⟩
  · have e : i = n := by omega
    subst e
    exact .inl ⟨w.stops H q, hd H p⟩
def spKeys (K : PySem.W.Frag) : Sp := fun vs H Q _ => ∃ (v : V) (d : Addr) (xs : List V) (kvs : List (Key × V)) (hs : List Str), vs = [v, .ref d] ∧ SeqV H v xs ∧ xs.length ≤ 1000 ∧ (∀ x ∈ xs, TextOr K H x) ∧ H d = some (.dK kvs) ∧ (∀ s, (valV kvs (.inr s)).isSome = decide (s ∈ hs)) ∧
  ∀ H', Same H H' → Q (.bl (xs.all (isKey hs))) H'
theorem scKeys : FnScope ["things", "table", "thing"] ["things", "table"] (defScope sKeys) := ⟨rfl, rfl, rfl, by decide +kernel, rfl, by decide +kernel, by decide +kernel⟩
section
variable {P : Program} {w : World} {K : PySem.W.Frag} {mg : Str → Option Value} {base : Heap}
theorem ok_keys {f : Addr} {fd : FuncData} (F : Fun K "_are_keys" "_are_keys" sKeys f fd) (B : Bl mg) : FnOk P w K mg base CX0 1 f fd ["things", "table"] (spKeys K) := by
  refine F.ok scKeys (fun vs H Q E h => ?_) (fun cdv A outer s H vs Q E hr h => ?_)
  · obtain ⟨v, d, xs, kvs, hs, rfl, _⟩ := h
    rfl
  obtain ⟨v, d, xs, kvs, hs, rfl, sv, hl, ht, hd, hk, q⟩ := h
  have nd := scKeys.nd
  have hu := hu_of hr
  refine ⟨_, pss_one (by exact ps_ret (pe_callB (cr_all rfl) rfl B.all PyProof.Rows.boot_all (pa_cons (pe_lc (own := [("thing", 2)]) (g := gName 2) (tt := tYes)
      (te := tAndV (tCB (rIsi K) (tCons (tVar 2) (tCons (tC (.ty "str")) tNil))) (tDIn (tVar 2) (tVar 1))) rfl nd (by exact pi_seqV 0 (pv 0))
        (by exact blkOk_by (N := ["things", "table", "thing"]) (sc := defScope sKeys) (by decide +kernel)) (fun _ _ _ _ _ => by exact pg_name (i := 2) nd rfl (Or.inl rfl)) (fun _ _ _ _ _ => pts_nil)
        (fun _ _ _ _ _ => by exact pe_and (pe_callB call_isi rfl B.isi PyProof.Rows.boot_isinstance (pa_cons (pv 2) (pa_cons (pe_bltn (v := .ty "str") rfl B.str PyProof.Rows.boot_str rfl) pa_nil))) (pe_one (pe_cmp (pc_din hu (pv 2) (pv 1)) (by with_unfolding_all rfl))))) pa_nil))), ?_⟩
  obtain ⟨p, rfl, hp⟩ := sv
  have sq : SqA K H p xs := hp.imp (fun h => SqL.of h) (fun h => SqT.of h)
  refine ⟨p, xs, rfl, sq, fun J G wk hG D hD => ?_⟩
  refine lc_it wk (fun i Hc => Same H Hc ∧ Hc D = some (.lst (((xs.take i).map (isKey hs)).map V.bl))) ⟨K1.Same.upd hD, upd_same⟩ (fun i Hc _ h => hG Hc fun o ho => h.1 _ _ ho) ?_ ?_
  · rintro i x Hc H' hi ⟨e1, e2⟩ ⟨rfl, hx⟩
    refine ⟨rfl, ?_⟩
    unfold tYes
    refine iteT ?_
    have fin : ∀ b, b = isKey hs x → ∃ acc, H' D = some (.lst acc) ∧ acc.length < sizeLine ∧ Same H (upd H' D (.lst (acc ++ [.bl b]))) ∧ upd H' D (.lst (acc ++ [.bl b])) D = some (.lst (((xs.take (i + 1)).map (isKey hs)).map V.bl)) := fun b hb => by
      refine ⟨_, e2, ?_, fun a o n => ?_, ?_⟩
      · rw [List.length_map, List.length_map]
        exact small1000 (Nat.le_trans (List.length_take_le _ _) (by omega))
      · rw [upd_ne (ne_of_none n hD)]
        exact e1 a o n
      · rw [upd_same, map_take_succ hx, List.map_append, hb]
        rfl
    rcases (ht x (List.mem_of_getElem? hx)).ext e1 with ⟨s, rfl⟩ | ⟨t, ty, kt, nt⟩
    · refine ⟨_, rfl, .str s, _, _, _, _, rfl, .ty "str", .base (.str s), kit_str (t := "str") (by decide), _, rfl, ?_⟩
      refine iteT ⟨_, rfl, _, rfl, d, _, rfl, DGet.k (k := .inr s) (e1 _ _ hd), fin _ ?_⟩
      rw [hk]
      rfl
    · refine ⟨_, rfl, x, _, _, _, _, rfl, .ty "str", ty, kit_str kt, _, rfl, ?_⟩
      rw [decide_eq_false nt]
      exact iteF (fin _ (isKey_no ty nt).symm)
  · rintro Hc ⟨e1, e2⟩
    refine ⟨D, _, rfl, SqL.of e2, ?_⟩
    have : ((xs.take xs.length).map (isKey hs)).all id = xs.all (isKey hs) := by
      rw [List.take_length, List.all_map]
      rfl
    rw [this]
    exact q Hc e1
end
end K1
end
-- KRoads
section
set_option Elab.async false
set_option linter.all false
set_option maxRecDepth 100000
set_option maxHeartbeats 4000000
namespace K1
open PySem PySem.Spec PyProof.Rows L2
abbrev sNR : Stmt := top 20
/-- whom one comes to, these roads joined one after another -/
def rtOf (rs : List (Str × Str)) : Str → Str := rs.foldl (fun rt e => joinRt rt e.1 e.2) fun s => s
theorem rtOf_snoc {rs : List (Str × Str)} {e : Str × Str} : rtOf (rs ++ [e]) = joinRt (rtOf rs) e.1 e.2 := by
  unfold rtOf
  rw [List.foldl_append]
  rfl
theorem rtOf_succ {rs : List (Str × Str)} {i : Nat} (h : i < rs.length) : rtOf (rs.take (i + 1)) = joinRt (rtOf (rs.take i)) rs[i].1 rs[i].2 := by
  rw [List.take_add_one, List.getElem?_eq_getElem h]
  exact rtOf_snoc
def EndsIn (ss : List Str) (rs : List (Str × Str)) : Prop := ∀ r ∈ rs, r.1 ∈ ss ∧ r.2 ∈ ss
def Forest (rs : List (Str × Str)) : Prop := ∀ i (h : i < rs.length), rtOf (rs.take i) rs[i].1 ≠ rtOf (rs.take i) rs[i].2
def PairV (H : Hp) (x : V) (r : Str × Str) : Prop := SeqV H x [.str r.1, .str r.2]
def BadRoad (K : PySem.W.Frag) (H : Hp) (ss : List Str) (rs : List (Str × Str)) (x : V) : Prop :=
  NoSeq K H x ∨ (∃ ys, SeqV H x ys ∧ ys.length ≠ 2) ∨ (∃ y z, SeqV H x [y, z] ∧ TextOr K H y ∧ TextOr K H z ∧ (isKey ss y && isKey ss z) = false) ∨
  (∃ a b, SeqV H x [.str a, .str b] ∧ a ∈ ss ∧ b ∈ ss ∧ rtOf rs a = rtOf rs b)
theorem BadRoad.ext {K : PySem.W.Frag} {H H' : Hp} {ss : List Str} {rs : List (Str × Str)} {x : V} (h : BadRoad K H ss rs x) (e : Same H H') : BadRoad K H' ss rs x := by
  rcases h with h | ⟨ys, h, n⟩ | ⟨y, z, h, a, b, c⟩ | ⟨a, b, h, q⟩
  · exact .inl (h.ext e)
  · exact .inr (.inl ⟨ys, h.ext e, n⟩)
  · exact .inr (.inr (.inl ⟨y, z, h.ext e, a.ext e, b.ext e, c⟩))
  · exact .inr (.inr (.inr ⟨a, b, h.ext e, q⟩))
theorem paired_get {α β : Type} {F : α → β → Prop} : ∀ {xs : List α} {ys : List β}, Paired F xs ys → ∀ {i : Nat} (h : i < ys.length), ∃ x, xs[i]? = some x ∧ F x ys[i]
  | _, _, .cons f r, 0, _ => ⟨_, rfl, f⟩
  | _, _, .cons f r, i + 1, h => by
    obtain ⟨x, e, q⟩ := paired_get r (i := i) (by simpa using h)
    exact ⟨x, by simpa using e, q⟩
theorem paired_imp {α β : Type} {F G : α → β → Prop} (h : ∀ a b, F a b → G a b) : ∀ {xs : List α} {ys : List β}, Paired F xs ys → Paired G xs ys
  | _, _, .nil => .nil
  | _, _, .cons f r => .cons (h _ _ f) (paired_imp h r)
theorem ixA {K : PySem.W.Frag} {H : Hp} {v y : V} {xs : List V} {i : Int} {Q : VK} (s : SeqV H v xs) (e : atI xs i = some y) (q : Q y H) : rIx K v (.int i) H Q := by
  obtain ⟨p, rfl, h | h⟩ := s
  · exact .inl ⟨p, xs, i, y, rfl, rfl, SqL.of h, e, q⟩
  · exact .inr (.inl ⟨p, xs, i, y, rfl, rfl, SqT.of h, e, q⟩)
section
variable {X : Cx}
/-- name = {..} on one line, the name a local -/
theorem ps_setDc {i : Nat} {y : Str} {py : Pos} {kx vx tg iter : Expr} {ifs : List Expr} {scope : Scope} {own : List (Str × Nat)} {pos spos : Pos} {wi : TI} {g : TG} {tt : TT} {tk tv : TE} (hc : X.calm = true) (hN : X.N.Nodup) (hy : X.N[i]? = some y) (hyl : X.env.scope.names.lookup y = some .local)
    (hsw : swapsWith (.DictComp kx vx [⟨tg, iter, ifs, 0⟩] scope pos) (some (.Name y py)) spos.line X.env = pure true) (hi : PI X tg iter wi) (ok : BlkOk X.N X.env.scope scope own)
    (hg : ∀ (s : Shared) (H : Hp) (C : Addr) (cl : List (Str × Addr)) (fp : List Addr), PG (X.blk s H scope (compEnvC scope cl C X.env) fp) tg g) (ht : ∀ (s : Shared) (H : Hp) (C : Addr) (cl : List (Str × Addr)) (fp : List Addr), PTs (X.blk s H scope (compEnvC scope cl C X.env) fp) ifs tt)
    (hk : ∀ (s : Shared) (H : Hp) (C : Addr) (cl : List (Str × Addr)) (fp : List Addr), PE (X.blk s H scope (compEnvC scope cl C X.env) fp) kx tk)
    (he : ∀ (s : Shared) (H : Hp) (C : Addr) (cl : List (Str × Addr)) (fp : List Addr), PE (X.blk s H scope (compEnvC scope cl C X.env) fp) vx tv) (hs : ∀ x, foldedSetIterable iter X.env x = pure x := by intro _; rfl) :
    PS X (.Assign [.Name y py] (.DictComp kx vx [⟨tg, iter, ifs, 0⟩] scope pos) spos) (tAsg (tDc wi g tt tk tv (own.map (·.2))) (gName i)) := by
  refine ⟨fun pins s σ H D I h => ?_⟩
  rw [exec_Assign_Name_used _ _ _ _ hsw]
  refine wpAny_bind (wpAny_standAt (wpAny_bind ?_))
  show wpAny _ X.A (do let _ ← comprehension (.DictComp kx vx [⟨tg, iter, ifs, 0⟩] scope pos) scope X.env (firstIterPos [⟨tg, iter, ifs, 0⟩] pos) newDict false (eval iter X.env) (some (assign (.Name y py) X.env))) _ _ s
  have h : tDc wi g tt tk tv (own.map (·.2)) σ H (fun x H1 => gName i x σ H1 D.nx) := h
  refine wpAny_bind (thn (dc_core (Qf := fun _ s' => SP X pins D .next s') hc hN I hi ok hg ht hk he hs h fun L C s' m H' I' q hn f => ?_) fun _ s' hq => wpAny_pure (wpAny_pure hq))
  show wpAny _ _ (assign (.Name y py) X.env (.ref L)) _ _ _
  refine wpAny_assign_Name (store_ok2 (v := V.ref L) I' hN hy (.inl hyl) rfl (fun s2 I2 ⟨a, sb, ha⟩ => ?_) (.inr hyl))
  obtain ⟨f0, f1, f2, f3, f4, f5⟩ := f
  have haC : C ≠ a := by
    rcases ha with z | z
    · rw [z]; exact f1
    · exact fun e => f4 y a z e.symm
  refine ⟨m, hn.sameBut sb haC, fun h3 sb3 => ?_⟩
  exact ⟨_, H', I2.turned (t' := s2.toks) (fun b o hb e => (sb3.2 b hb).trans e) f0 f1 f3 f4 f5, q⟩
theorem sw_trueD {kx vx : Expr} {gs : List Comprehension} {scope : Scope} {pos py : Pos} {y : Str} {l : Nat} {env : Env} (hk : env.scope.kind = .function) (hy : env.scope.names.lookup y = some .local) (hl : (py.line == pos.line) = true)
    (ha : (scope.names.any fun (n, k) => n == y && (k == .local || k == .cell)) = false) : swapsWith (.DictComp kx vx gs scope pos) (some (.Name y py)) l env = pure true := by
  have ky : env.kindOf y = some .local := hy
  have hb : env.blockKind = .function := by unfold Env.blockKind; rw [hk]; rfl
  unfold swapsWith
  simp only [hb, ky, ha, Expr.pos, hl]
  rfl
end
def spNR (K : PySem.W.Frag) (C : Addr) : Sp := fun vs H Q E => ∃ u v ss, vs = [u, v] ∧ SeqV H u (ss.map V.str) ∧ Good ss ∧ ss.length ≤ 1000 ∧
  ((NoSeq K H v ∧ Goes C 0 H E) ∨
   ∃ (vs : List V) (rs : List (Str × Str)) (tail : List V), SeqV H v (vs ++ tail) ∧ Paired (PairV H) vs rs ∧ EndsIn ss rs ∧ Forest rs ∧
    ((tail = [] ∧ rs.length + 1 = ss.length ∧ ∀ H', Same H H' → Q .non H') ∨ (tail = [] ∧ rs.length + 1 ≠ ss.length ∧ Goes C (rs.length : Nat) H E) ∨
     (∃ x rest, tail = x :: rest ∧ BadRoad K H ss rs x ∧ Goes C (rs.length : Nat) H E)))
theorem scNR : FnScope ["houses", "roads", "leads", "index", "road", "one", "other", "house"] ["houses", "roads"] (defScope sNR) := ⟨rfl, rfl, rfl, by decide +kernel, rfl, by decide +kernel, by decide +kernel⟩
section
variable {P : Program} {w : World} {K : PySem.W.Frag} {mg : Str → Option Value} {base : Heap} {CF : Addr}
theorem UF.some {hs : List Str} {kvs : List (Key × V)} {rt : Str → Str} {rk : Str → Nat} (u : UF hs kvs rt rk) (s : Str) : (valV kvs (.inr s)).isSome = decide (s ∈ hs) := by
  obtain ⟨_, ld, h1, _⟩ := u
  rw [h1]
  by_cases e : s ∈ hs
  · rw [if_pos e, decide_eq_true e]; rfl
  · rw [if_neg e, decide_eq_false e]; rfl
theorem nodup_take_not {ss : List Str} (h : ss.Nodup) {i : Nat} (hi : i < ss.length) : ¬ ss[i] ∈ ss.take i := fun hm => by
  obtain ⟨j, hj, ej⟩ := List.getElem_of_mem hm
  rw [List.length_take] at hj
  rw [List.getElem_take] at ej
  have := (List.getElem_inj h).mp ej
  omega
theorem ok_NR {f g fP fK fL fE C : Addr} {fd gd pd kd ld ed : FuncData} (F : Fun K "_need_roads" "_need_roads" sNR f fd) (B : Bl mg) (me : mg "enumerate" = none)
    (FI : Fun K "is_list" "is_list" sIsList g gd) (b : Binds K gd ["thing"] []) (m : mg "is_list" = some (.ref g))
    (FP : Fun K "is_pair" "is_pair" sIsPair fP pd) (bP : Binds K pd ["thing"] []) (mP : mg "is_pair" = some (.ref fP))
    (FK : Fun K "_are_keys" "_are_keys" sKeys fK kd) (bK : Binds K kd ["things", "table"] []) (mK : mg "_are_keys" = some (.ref fK))
    (FL : Fun K "_leader" "_leader" sLead fL ld) (bL : Binds K ld ["leads", "house"] []) (mL : mg "_leader" = some (.ref fL))
    (T : FeC K mg CF) (TC : ErC K mg "BadRoads" C fE) (FE : Fun K "__init__" "BadRoads.__init__" sIR fE ed) (bE : Binds K ed ["self", "index"] []) :
    FnOk P w K mg base (L2.CX P w) 4 f fd ["houses", "roads"] (spNR K C) := by
  have G := ok_isList (P := P) (w := w) (base := base) FI B
  have GP := ok_isPair (P := P) (w := w) (base := base) FP FI b m B
  have GK := ok_keys (P := P) (w := w) (base := base) FK B
  have GL := ok_lead (P := P) (w := w) (mg := mg) (base := base) FL
  have GE := ok_iR (P := P) (w := w) (base := base) FE T TC
  refine F.okX scNR (fun vs H Q E h => ?_) (fun cdv A outer s H vs Q E hr h => ?_)
  · obtain ⟨u, v, ss, rfl, _⟩ := h
    rfl
  obtain ⟨u, v, ss, rfl, su, good, hl, h⟩ := h
  have nd := scNR.nd
  have hu := hu_of hr
  have hr1 : Room 1 _ := hr.mono (by decide)
  have hr2 : Room 2 _ := hr.mono (by decide)
  refine ⟨_, pss_cons (by exact (ps_if (pt_not (pt_val (pe_call G hr1 rfl m FI.kp b .nil pass0 (pa_cons (pv 1) pa_nil))))
      (pss_one (by exact (ps_raise rfl (takes_of rfl rfl rfl rfl) (pmk_oex TC.ox TC.ini TC.ty GE hr2 bE .nil pass0 rfl TC.m (pa_cons pe_int pa_nil))))) pss_nil))
    (pss_cons (by exact (ps_setDc (i := 2) (own := [("house", 7)]) (g := gName 7) (tt := tYes) rfl nd rfl rfl (sw_trueD rfl rfl rfl (by decide +kernel)) (by exact pi_seqV 0 (pv 0))
        (by exact blkOk_by (N := ["houses", "roads", "leads", "index", "road", "one", "other", "house"]) (sc := defScope sNR) (by decide +kernel)) (fun _ _ _ _ _ => by exact pg_name (i := 7) nd rfl (Or.inl rfl)) (fun _ _ _ _ _ => pts_nil) (fun _ _ _ _ _ => pv 7) (fun _ _ _ _ _ => pv 7)))
    (pss_cons (by exact (ps_for (passes_of rfl) rfl (by exact pi_enumV 1 rfl me (pv 1)) (pg_tup rfl (pgs_cons (pg_name (i := 3) nd rfl (.inl rfl)) (pgs_cons (pg_name (i := 4) nd rfl (.inl rfl)) pgs_nil)))
      (pss_cons (by exact (ps_if (PW.pt (pw_or (pt_not (pt_val (pe_call GP hr2 rfl mP FP.kp bP .nil pass0 (pa_cons (pv 4) pa_nil)))) (pw_or1 (pt_not (pt_val (pe_call GK hr1 rfl mK FK.kp bK .nil pass0 (pa_cons (pv 4) (pa_cons (pv 2) pa_nil))))))))
          (pss_one (by exact (ps_raise rfl (takes_of rfl rfl rfl rfl) (pmk_oex TC.ox TC.ini TC.ty GE hr2 bE .nil pass0 rfl TC.m (pa_cons (pv 3) pa_nil))))) pss_nil))
      (pss_cons (by exact (ps_set (i := 5) nd rfl (.inl rfl) (pe_call GL hr1 rfl mL FL.kp bL .nil pass0 (pa_cons (pv 2) (pa_cons (pe_ix ix_seq (pv 4) pe_int (fun _ _ => rfl)) pa_nil)))))
      (pss_cons (by exact (ps_set (i := 6) nd rfl (.inl rfl) (pe_call GL hr1 rfl mL FL.kp bL .nil pass0 (pa_cons (pv 2) (pa_cons (pe_ix ix_seq (pv 4) pe_int (fun _ _ => rfl)) pa_nil)))))
      (pss_cons (by exact (ps_if (pt_cmpR op_eq (pv 5) (pv 6) (nomark _))
          (pss_one (by exact (ps_raise rfl (takes_of rfl rfl rfl rfl) (pmk_oex TC.ox TC.ini TC.ty GE hr2 bE .nil pass0 rfl TC.m (pa_cons (pv 3) pa_nil))))) pss_nil))
      (pss_one (by exact (ps_dput hu (pv 2) (pv 5) (pv 6) rfl)))))))))
    (pss_one (by exact (ps_if (pt_cmpR op_ne (pe_callB call_len_seq rfl B.len PySem.boot_len (pa_cons (pv 1) pa_nil)) (pe_op op_sub (pe_callB call_len_seq rfl B.len PySem.boot_len (pa_cons (pv 0) pa_nil)) pe_int) (nomark _))
          (pss_one (by exact (ps_raise rfl (takes_of rfl rfl rfl rfl) (pmk_oex TC.ox TC.ini TC.ty GE hr2 bE .nil pass0 rfl TC.m (pa_cons (pe_callB call_len_seq rfl B.len PySem.boot_len (pa_cons (pv 1) pa_nil)) pa_nil))))) pss_nil))))), ?_⟩
  rcases h with ⟨⟨t, ty, kt, nt⟩, g⟩ | ⟨vs, rs, tail, sv, prs, ends, forest, rest⟩
  · refine ⟨_, rfl, v, t, rfl, ty, kt, fun H' e => ⟨_, rfl, ?_⟩⟩
    rw [nt]
    exact iteT ⟨(by show 1 ≤ 1000; decide), raise_idx g e⟩
  obtain ⟨t, ty, kt, st⟩ := sv.ty (K := K)
  refine ⟨_, rfl, v, t, rfl, ty, kt, fun H1 e1 => ⟨_, rfl, ?_⟩⟩
  rw [st]
  refine iteF ?_
  obtain ⟨p, rfl, hp⟩ := sv.ext e1
  have sq : SqA K H1 p (vs ++ tail) := hp.imp (fun h => SqL.of h) (fun h => SqT.of h)
  obtain ⟨p2, rfl, hp2⟩ := su.ext e1
  have sq2 : SqA K H1 p2 (ss.map V.str) := hp2.imp (fun h => SqL.of h) (fun h => SqT.of h)
  have lvs : vs.length = rs.length := prs.length
  have prs1 : Paired (PairV H1) vs rs := paired_imp (fun _ _ q => SeqV.ext q e1) prs
  -- the dict of leaders
  refine ⟨p2, _, rfl, sq2, fun J G wk hG L hL => ?_⟩
  refine dc_it wk (fun i Hc => Same H1 Hc ∧ Hc L = some (.dK ((ss.take i).map fun s => ((.inr s : Key), V.str s)))) ⟨K1.Same.upd hL, upd_same⟩ (fun i Hc _ h => hG Hc fun o ho => h.1 _ _ ho) ?_ ?_
  · rintro i x Hc H' hi ⟨f1, f2⟩ ⟨rfl, hx⟩
    rw [List.length_map] at hi
    have ex : x = .str ss[i] := by
      have q : (ss.map V.str)[i]? = some x := hx
      rw [List.getElem?_map, List.getElem?_eq_getElem hi] at q
      exact (Option.some.inj q).symm
    subst ex
    refine ⟨rfl, ?_⟩
    unfold tYes
    refine iteT ?_
    refine ⟨_, rfl, _, rfl, _, .inr ss[i], rfl, f2, ?_, fun a o n => ?_, ?_⟩
    · rw [List.length_map]
      exact small1000 (Nat.le_trans (List.length_take_le _ _) (by omega))
    · rw [upd_ne (ne_of_none n hL)]
      exact f1 a o n
    · have nw : valV ((ss.take i).map fun s => ((.inr s : Key), V.str s)) (.inr ss[i]) = none := by
        have u := (UF.start (hs := ss.take i) (good.1.sublist (List.take_sublist _ _)))
        have := u.some ss[i]
        rw [decide_eq_false (nodup_take_not good.1 hi)] at this
        exact Option.not_isSome_iff_eq_none.mp (by rw [this]; exact Bool.false_ne_true)
      rw [upd_same, putK_new _ nw, map_take_succ (List.getElem?_eq_getElem hi)]
  rintro H2 ⟨f1, f2⟩
  rw [List.length_map, List.take_length] at f2
  have e2 : Same H H2 := e1.trans f1
  have hL0 : H L = none := e1.free hL
  refine ⟨p, _, rfl, SqA.same sq f1, fun J G wk hG => ?_⟩
  have xat : ∀ i (hi : i < rs.length), ∃ x, (vs ++ tail)[i]? = some x ∧ PairV H1 x rs[i] := fun i hi => by
    obtain ⟨x, a, b⟩ := paired_get prs1 hi
    exact ⟨x, by rw [List.getElem?_append_left (by omega)]; exact a, b⟩
  have lng : rs.length ≤ (vs ++ tail).length := by rw [List.length_append]; omega
  refine for_it wk (fun i σ Hc => i ≤ rs.length ∧ (∃ a b c d, σ = [some (.ref p2), some (.ref p), some (.ref L), a, b, c, d, none]) ∧ Same H1 Hc ∧ ∃ kvs rk, Hc L = some (.dK kvs) ∧ UF ss kvs (rtOf (rs.take i)) rk) ?_ ?_ ?_ ?_
  · exact ⟨Nat.zero_le _, ⟨_, _, _, _, rfl⟩, f1, _, _, f2, UF.start good.1⟩
  · rintro i σ Hc hi ⟨h1, h2, h3, h4⟩
    refine hG Hc fun o ho => ?_
    have : ∀ o', H1 p = some o' → Hc p = some o := fun o' q => by
      have q2 := f1 _ _ q
      rw [ho] at q2
      rw [Option.some.inj q2]
      exact h3 _ _ q
    exact hp.elim (this _) (this _)
  · rintro i x σ Hc H' hi ⟨h1, ⟨sa, sb, sc, sd, rfl⟩, h3, kvs, rk, h4, uf⟩ ⟨T, x1, x2, rfl, hT, rfl, e1', e2'⟩
    obtain rfl : x1 = .int (i : Nat) := (Option.some.inj e1').symm
    have e2' : (vs ++ tail)[i]? = some x2 := e2'
    have hT2 := K1.Same.upd (H := Hc) (p := T) (o := .tup [.int (i : Nat), x2]) hT
    have eT : Same H1 (upd Hc T (.tup [.int (i : Nat), x2])) := h3.trans hT2
    refine ⟨T, _, rfl, SqT.of upd_same, rfl, _, _, rfl, _, _, rfl, rfl, ?_⟩
    by_cases hlt : i < rs.length
    · obtain ⟨y, ey, py⟩ := xat i hlt
      have ex2 : x2 = y := Option.some.inj (e2'.symm.trans ey)
      subst ex2
      have ee := ends _ (List.getElem_mem hlt)
      have sx : SeqV (upd Hc T (.tup [.int (i : Nat), x2])) x2 [.str rs[i].1, .str rs[i].2] := SeqV.ext py eT
      refine ⟨_, rfl, x2, rfl, .inl ⟨_, sx, fun H3 g3 => ⟨_, rfl, ?_⟩⟩⟩
      refine iteF ⟨_, rfl, _, rfl, x2, L, _, kvs, ss, rfl, sx.ext g3, (by show 2 ≤ 1000; decide), fun z hz => ?_, g3 _ _ (hT2 _ _ h4), uf.some, fun H4 g4 => ⟨_, rfl, ?_⟩⟩
      · rcases List.mem_cons.mp hz with rfl | hz
        · exact .inl ⟨_, rfl⟩
        · rcases List.mem_cons.mp hz with rfl | hz
          · exact .inl ⟨_, rfl⟩
          · cases hz
      have z1 : ([V.str rs[i].1, V.str rs[i].2].all (isKey ss)) = true := by
        show (decide (rs[i].1 ∈ ss) && (decide (rs[i].2 ∈ ss) && true)) = true
        rw [decide_eq_true ee.1, decide_eq_true ee.2]
        rfl
      rw [z1]
      refine iteF ?_
      have s4 := (sx.ext g3).ext g4
      have L4 : H4 L = some (.dK kvs) := g4 _ _ (g3 _ _ (hT2 _ _ h4))
      have e4 : Same H1 H4 := eT.trans (g3.trans g4)
      refine ⟨_, rfl, _, rfl, ixA s4 rfl ⟨L, _, kvs, ss, _, rk, rfl, L4, uf, ee.1, hl, fun k1 u1 => ?_⟩⟩
      have xL : ∀ {o}, H1 L = some o → False := fun q => by rw [hL] at q; cases q
      have up : ∀ {Hx : Hp} {o : HO}, Same H1 Hx → Same H1 (upd Hx L o) := fun e b o n => by
        rw [upd_ne (ne_of_none n hL)]
        exact e b o n
      have s5 : SeqV (upd H4 L (.dK k1)) x2 [.str rs[i].1, .str rs[i].2] := SeqV.ext py (up e4)
      refine ⟨_, rfl, _, rfl, ixA s5 rfl ⟨L, _, k1, ss, _, rk, rfl, upd_same, u1, ee.2, hl, fun k2 u2 => ?_⟩⟩
      rw [upd_upd]
      refine ⟨_, rfl, _, rfl, rfl, _, rfl, ?_⟩
      have ne := forest i hlt
      rw [decide_eq_false (fun q => ne (V.str.inj q))]
      obtain ⟨rk', u3⟩ := u2.join ee.1 ee.2 ne
      have dp : DPut (upd H4 L (.dK k2)) L (.str (rtOf (rs.take i) rs[i].1)) (.str (rtOf (rs.take i) rs[i].2)) (upd (upd H4 L (.dK k2)) L (.dK (putK k2 (.inr (rtOf (rs.take i) rs[i].1)) (.str (rtOf (rs.take i) rs[i].2))))) := DPut.k (k := .inr _) upd_same (Nat.lt_of_le_of_lt u2.len (small1000 hl))
      rw [upd_upd] at dp
      refine iteF ⟨_, rfl, _, rfl, _, rfl, L, _, rfl, dp, hlt, ⟨_, _, _, _, rfl⟩, up e4, _, rk', upd_same, ?_⟩
      rw [rtOf_succ hlt]
      exact u3
    · have ei : i = rs.length := by omega
      subst ei
      rcases rest with ⟨rfl, _⟩ | ⟨rfl, _⟩ | ⟨x, rst, rfl, bad, g⟩
      · rw [List.append_nil] at hi
        omega
      · rw [List.append_nil] at hi
        omega
      have ex2 : x2 = x := by
        rw [List.getElem?_append_right (by omega), ← lvs, Nat.sub_self] at e2'
        exact (Option.some.inj e2').symm
      subst ex2
      have eT0 := e1.trans eT
      rcases bad.ext eT0 with bad | ⟨ys, sy, ny⟩ | ⟨y, z, sy, ty1, ty2, nk⟩ | ⟨a, b, sy, ha, hb, eq⟩
      · exact ⟨_, rfl, x2, rfl, .inr ⟨bad, fun H3 g3 => ⟨_, rfl, iteT (iteT ⟨_, rfl, (by show 1 ≤ 1000; decide), raise_idx g (eT0.trans g3)⟩)⟩⟩⟩
      · refine ⟨_, rfl, x2, rfl, .inl ⟨ys, sy, fun H3 g3 => ⟨_, rfl, ?_⟩⟩⟩
        rw [decide_eq_false ny]
        exact iteT (iteT ⟨_, rfl, (by show 1 ≤ 1000; decide), raise_idx g (eT0.trans g3)⟩)
      · refine ⟨_, rfl, x2, rfl, .inl ⟨_, sy, fun H3 g3 => ⟨_, rfl, ?_⟩⟩⟩
        refine iteF ⟨_, rfl, _, rfl, x2, L, _, kvs, ss, rfl, sy.ext g3, (by show 2 ≤ 1000; decide), fun q hq => ?_, g3 _ _ (hT2 _ _ h4), uf.some, fun H4 g4 => ⟨_, rfl, ?_⟩⟩
        · rcases List.mem_cons.mp hq with rfl | hq
          · exact ty1.ext g3
          · rcases List.mem_cons.mp hq with rfl | hq
            · exact ty2.ext g3
            · cases hq
        have z1 : ([y, z].all (isKey ss)) = false := by
          show (isKey ss y && (isKey ss z && true)) = false
          rw [Bool.and_true]
          exact nk
        rw [z1]
        exact iteT ⟨_, rfl, (by show 1 ≤ 1000; decide), raise_idx g (eT0.trans (g3.trans g4))⟩
      · refine ⟨_, rfl, x2, rfl, .inl ⟨_, sy, fun H3 g3 => ⟨_, rfl, ?_⟩⟩⟩
        refine iteF ⟨_, rfl, _, rfl, x2, L, _, kvs, ss, rfl, sy.ext g3, (by show 2 ≤ 1000; decide), fun q hq => ?_, g3 _ _ (hT2 _ _ h4), uf.some, fun H4 g4 => ⟨_, rfl, ?_⟩⟩
        · rcases List.mem_cons.mp hq with rfl | hq
          · exact .inl ⟨_, rfl⟩
          · rcases List.mem_cons.mp hq with rfl | hq
            · exact .inl ⟨_, rfl⟩
            · cases hq
        have z1 : ([V.str a, V.str b].all (isKey ss)) = true := by
          show (decide (a ∈ ss) && (decide (b ∈ ss) && true)) = true
          rw [decide_eq_true ha, decide_eq_true hb]
          rfl
        rw [z1]
        refine iteF ?_
        have s4 := (sy.ext g3).ext g4
        have L4 : H4 L = some (.dK kvs) := g4 _ _ (g3 _ _ (hT2 _ _ h4))
        have e4 : Same H H4 := eT0.trans (g3.trans g4)
        have up : ∀ {Hx : Hp} {o : HO}, Same H Hx → Same H (upd Hx L o) := fun e b o n => by
          rw [upd_ne (ne_of_none n hL0)]
          exact e b o n
        have pL : ∀ o, SeqV (upd H4 L o) x2 [.str a, .str b] := fun o => by
          obtain ⟨px, rfl, hx⟩ := s4
          have nx : px ≠ L := fun q => by
            rw [q, L4] at hx
            rcases hx with hx | hx <;> cases hx
          exact ⟨px, rfl, by rw [upd_ne nx]; exact hx⟩
        refine ⟨_, rfl, _, rfl, ixA s4 rfl ⟨L, _, kvs, ss, _, rk, rfl, L4, uf, ha, hl, fun k1 u1 => ?_⟩⟩
        refine ⟨_, rfl, _, rfl, ixA (pL _) rfl ⟨L, _, k1, ss, _, rk, rfl, upd_same, u1, hb, hl, fun k2 u2 => ?_⟩⟩
        rw [upd_upd]
        refine ⟨_, rfl, _, rfl, rfl, _, rfl, ?_⟩
        rw [List.take_length, eq, decide_eq_true rfl]
        exact iteT ⟨_, rfl, (by show 1 ≤ 1000; decide), raise_idx g (up e4)⟩
  · rintro σ Hc ⟨h1, ⟨sa, sb, sc, sd, rfl⟩, h3, kvs, rk, h4, uf⟩
    have g1 := SqA.same sq h3
    have g2 := SqA.same sq2 h3
    have e3 : Same H Hc := e1.trans h3
    refine ⟨_, rfl, p, _, rfl, g1, _, rfl, p2, _, rfl, g2, _, _, rfl, rfl, rfl, _, rfl, ?_⟩
    rcases rest with ⟨rfl, hl2, q⟩ | ⟨rfl, hl2, g⟩ | ⟨x, r, rfl, _⟩
    · have z : decide (V.int (((vs ++ []).length : Nat) : Int) = V.int ((((ss.map V.str).length : Nat) : Int) - 1)) = true := by
        rw [List.append_nil, List.length_map, lvs]
        exact decide_eq_true (by rw [← hl2]; congr 1; omega)
      rw [z]
      exact iteF (q Hc e3)
    · have z : decide (V.int (((vs ++ []).length : Nat) : Int) = V.int ((((ss.map V.str).length : Nat) : Int) - 1)) = false := by
        rw [List.append_nil, List.length_map, lvs]
        exact decide_eq_false (fun q => hl2 (by have := V.int.inj q; omega))
      rw [z]
      have ll : (vs ++ []).length = rs.length := by rw [List.append_nil, lvs]
      refine iteT ⟨_, rfl, p, _, rfl, g1, (by show 1 ≤ 1000; decide), ?_⟩
      rw [ll]
      exact raise_idx g e3
    · rw [List.length_append, List.length_cons] at h1
      omega
end
end K1
end
-- KVal
section
set_option Elab.async false
set_option linter.all false
set_option maxRecDepth 100000
set_option maxHeartbeats 4000000
namespace K1
open PySem PySem.Spec PyProof.Rows L2
abbrev sBW : Stmt := top 24
abbrev sNB : Stmt := top 25
def TupP (H : Hp) (q : Addr) (r : Str × Str) : Prop := H q = some (.tup [.str r.1, .str r.2])
theorem TupP.ext {H H' : Hp} {qs : List Addr} {rs : List (Str × Str)} (h : Paired (TupP H) qs rs) (e : Same H H') : Paired (TupP H') qs rs := paired_imp (fun _ _ q => e _ _ q) h
def spBW : Sp := fun vs H Q _ => ∃ (p : Addr) (qs : List Addr) (rs : List (Str × Str)), vs = [.ref p] ∧ H p = some (.lst (qs.map V.ref)) ∧ Paired (TupP H) qs rs ∧ rs.length ≤ 1000 ∧ ∀ r H', Same H H' → Q (.ref r) H'
theorem scBW : FnScope ["roads", "places", "place", "one", "other"] ["roads"] (defScope sBW) := ⟨rfl, rfl, rfl, by decide +kernel, rfl, by decide +kernel, by decide +kernel⟩
theorem putK_le {κ : Type} [DecidableEq κ] {kvs : List (κ × V)} {k : κ} {v : V} : (putK kvs k v).length ≤ kvs.length + 1 := by
  unfold putK
  split
  · rw [List.length_map]; exact Nat.le_succ _
  · rw [List.length_append]; exact Nat.le_refl _
section
variable {P : Program} {w : World} {K : PySem.W.Frag} {mg : Str → Option Value} {base : Heap}
theorem paired_ref {H : Hp} {qs : List Addr} {rs : List (Str × Str)} (h : Paired (TupP H) qs rs) {i : Nat} (hi : i < rs.length) {x : V} (e : (qs.map V.ref)[i]? = some x) : ∃ q, x = .ref q ∧ H q = some (.tup [.str rs[i].1, .str rs[i].2]) := by
  obtain ⟨q, eq, pq⟩ := paired_get h hi
  rw [List.getElem?_map, eq] at e
  exact ⟨q, (Option.some.inj e).symm, pq⟩
theorem ok_BW {f : Addr} {fd : FuncData} (F : Fun K "_both_ways" "_both_ways" sBW f fd) (me : mg "enumerate" = none) : FnOk P w K mg base CX0 1 f fd ["roads"] spBW := by
  refine F.ok scBW (fun vs H Q E h => ?_) (fun cdv A outer s H vs Q E hr h => ?_)
  · obtain ⟨p, qs, rs, rfl, _⟩ := h
    rfl
  obtain ⟨p, qs, rs, rfl, hp, pr, hl, q⟩ := h
  have nd := scBW.nd
  have hu := hu_of hr
  refine ⟨_, pss_cons (by exact (ps_set (i := 1) nd rfl (.inl rfl) pe_dnewT))
    (pss_cons (by exact (ps_for PassesOwn.never rfl (by exact pi_enumV 0 rfl me (pv 0)) (pg_tup rfl (pgs_cons (pg_name (i := 2) nd rfl (.inl rfl)) (pgs_cons (pg_tup rfl (pgs_cons (pg_name (i := 3) nd rfl (.inl rfl)) (pgs_cons (pg_name (i := 4) nd rfl (.inl rfl)) pgs_nil))) pgs_nil)))
      (pss_cons (by exact (ps_dput hu (pv 1) (pe_tup (pa_cons (pv 3) (pa_cons (pv 4) pa_nil))) (pv 2) rfl))
      (pss_one (by exact (ps_dput hu (pv 1) (pe_tup (pa_cons (pv 4) (pa_cons (pv 3) pa_nil))) (pv 2) rfl))))))
    (pss_one (by exact (ps_ret (pv 1))))), ?_⟩
  intro L hL
  have ep : L ≠ p := fun z => by rw [z, hp] at hL; cases hL
  have lqs : qs.length = rs.length := pr.length
  refine ⟨p, _, rfl, .inl (SqL.of (by rw [upd_ne ep.symm]; exact hp)), fun J G wk hG => ?_⟩
  refine for_it wk (fun i σ Hc => (∃ a b c, σ = [some (.ref p), some (.ref L), a, b, c]) ∧ Same H Hc ∧ ∃ kvs, Hc L = some (.dT kvs) ∧ kvs.length ≤ 2 * i) ⟨⟨_, _, _, rfl⟩, K1.Same.upd hL, _, upd_same, Nat.le_refl _⟩ (fun i σ Hc _ h => hG Hc fun o ho => ?_) ?_ ?_
  · rw [upd_ne ep.symm, hp] at ho
    rw [← Option.some.inj ho]
    exact h.2.1 _ _ hp
  · rintro i x σ Hc H' hi ⟨⟨sa, sb, sc, rfl⟩, h1, kvs, h2, h3⟩ ⟨T, x1, x2, rfl, hT, rfl, e1', e2'⟩
    rw [List.length_map, lqs] at hi
    obtain rfl : x1 = .int (i : Nat) := (Option.some.inj e1').symm
    obtain ⟨t, rfl, ht⟩ := paired_ref pr hi e2'
    have hT2 := K1.Same.upd (H := Hc) (p := T) (o := .tup [.int (i : Nat), .ref t]) hT
    have e1 : Same H (upd Hc T (.tup [.int (i : Nat), .ref t])) := h1.trans hT2
    refine ⟨T, _, rfl, SqT.of upd_same, rfl, _, _, rfl, _, _, rfl, t, _, rfl, SqT.of (e1 _ _ ht), rfl, _, _, rfl, _, _, rfl, rfl, rfl, ?_⟩
    have step : ∀ (H1 : Hp) (kv : List (List Key × V)) (a b : Str), Same H H1 → H1 L = some (.dT kv) → kv.length ≤ 2 * i + 1 → ∀ (R : Hp → Prop), (∀ H2, Same H H2 → (∃ kv', H2 L = some (.dT kv') ∧ kv'.length ≤ kv.length + 1) → R H2) →
        2 ≤ sizeLine ∧ ∀ b', H1 b' = none → ∃ a' H3, V.ref L = .ref a' ∧ DPut (upd H1 b' (.tup [.str a, .str b])) a' (.ref b') (.int (i : Nat)) H3 ∧ R H3 := by
      intro H1 kv a b f1 f2 f3 R hR
      refine ⟨by decide, fun b' hb => ⟨L, _, rfl, DPut.t (k := [.inr a, .inr b]) (by rw [upd_ne (ne_of_none f2 hb)]; exact f2) upd_same (Nat.lt_of_le_of_lt f3 (by show 2 * i + 1 < 2 ^ 24; omega)), hR _ (fun c o n => ?_) ⟨_, upd_same, putK_le⟩⟩⟩
      rw [upd_ne (ne_of_none n hL), upd_ne (ne_of_none (f1 _ _ n) hb)]
      exact f1 _ _ n
    refine ⟨_, rfl, _, rfl, _, rfl, _, rfl, ?_⟩
    refine step _ kvs rs[i].1 rs[i].2 e1 (hT2 _ _ h2) (by omega) _ ?_
    rintro H2 g1 ⟨kv1, g2, g3⟩
    refine ⟨_, rfl, _, rfl, _, rfl, _, rfl, ?_⟩
    refine step H2 kv1 rs[i].2 rs[i].1 g1 g2 (by omega) _ ?_
    rintro H3 k1 ⟨kv2, k2, k3⟩
    exact ⟨⟨_, _, _, rfl⟩, k1, kv2, k2, by omega⟩
  · rintro σ Hc ⟨⟨sa, sb, sc, rfl⟩, h1, _⟩
    exact ⟨_, rfl, q L Hc h1⟩
end
end K1
end
-- KNb
section
set_option Elab.async false
set_option linter.all false
set_option maxRecDepth 100000
set_option maxHeartbeats 4000000
namespace K1
open PySem PySem.Spec PyProof.Rows L2
def spNB : Sp := fun vs H Q _ => ∃ (p1 p2 : Addr) (ss : List Str) (qs : List Addr) (rs : List (Str × Str)), vs = [.ref p1, .ref p2] ∧ H p1 = some (.lst (ss.map V.str)) ∧ ss.length ≤ 1000 ∧ ss.Nodup ∧ H p2 = some (.lst (qs.map V.ref)) ∧ Paired (TupP H) qs rs ∧ EndsIn ss rs ∧ rs.length ≤ 1000 ∧ ∀ r H', Same H H' → Q (.ref r) H'
theorem scNB : FnScope ["houses", "roads", "found", "one", "other", "house", "far"] ["houses", "roads"] (defScope sNB) := ⟨rfl, rfl, rfl, by decide +kernel, rfl, by decide +kernel, by decide +kernel⟩
def dcScope (sc : Scope) : Stmt → Scope
  | .Return (some (.DictComp _ _ _ s _)) _ => s
  | _ => sc
/-- the dicts of the neighbours: each house has its own, found by it -/
def NbAt (H0 Hc : Hp) (D : Addr) (hs : List Str) (n : Nat) : Prop := ∃ kvs : List (Key × V), Hc D = some (.dK kvs) ∧ kvs.length ≤ hs.length ∧ ∀ s ∈ hs, ∃ d m, valV kvs (.inr s) = some (.ref d) ∧ H0 d = none ∧ d ≠ D ∧ Hc d = some (.dK m) ∧ m.length ≤ n
section
variable {P : Program} {w : World} {K : PySem.W.Frag} {mg : Str → Option Value} {base : Heap}
theorem NbAt.put {H0 Hc : Hp} {D : Addr} {hs : List Str} {n : Nat} {s : Str} {d : Addr} {m : List (Key × V)} {k : Key} {v : V} (h : NbAt H0 Hc D hs n) (hd : d ≠ D) (hm : Hc d = some (.dK m)) (hl : m.length ≤ n) : NbAt H0 (upd Hc d (.dK (putK m k v))) D hs (n + 1) := by
  obtain ⟨kvs, h1, h2, h3⟩ := h
  refine ⟨kvs, by rw [upd_ne hd.symm]; exact h1, h2, fun s hs => ?_⟩
  obtain ⟨d', m', a1, a2, a3, a4, a5⟩ := h3 s hs
  by_cases e : d' = d
  · refine ⟨d', _, a1, a2, a3, by rw [e]; exact upd_same, Nat.le_trans putK_le (by omega)⟩
  · exact ⟨d', m', a1, a2, a3, by rw [upd_ne e]; exact a4, by omega⟩
theorem NbAt.keep {H0 Hc H2 : Hp} {D : Addr} {hs : List Str} {n : Nat} (h : NbAt H0 Hc D hs n) (e : Same Hc H2) : NbAt H0 H2 D hs n := by
  obtain ⟨kvs, h1, h2, h3⟩ := h
  refine ⟨kvs, e _ _ h1, h2, fun s hs => ?_⟩
  obtain ⟨d', m', a1, a2, a3, a4, a5⟩ := h3 s hs
  exact ⟨d', m', a1, a2, a3, e _ _ a4, a5⟩
theorem ok_NB {f : Addr} {fd : FuncData} (F : Fun K "_neighbours" "_neighbours" sNB f fd) : FnOk P w K mg base CX0 1 f fd ["houses", "roads"] spNB := by
  refine F.ok scNB (fun vs H Q E h => ?_) (fun cdv A outer s H vs Q E hr h => ?_)
  · obtain ⟨p1, p2, ss, qs, rs, rfl, _⟩ := h
    rfl
  obtain ⟨p1, p2, ss, qs, rs, rfl, h1, hl, hN, h2, pr, ends, hlr, q⟩ := h
  have nd := scNB.nd
  have hu := hu_of hr
  refine ⟨_, pss_cons (by exact (ps_set (i := 2) nd rfl (.inr rfl) (pe_dc (own := [("house", 5)]) (g := gName 5) (tt := tYes) rfl nd (by exact pi_seqV 0 (pv 0))
        (by exact blkOk_by (N := ["houses", "roads", "found", "one", "other", "house", "far"]) (sc := defScope sNB) (by decide +kernel)) (fun _ _ _ _ _ => by exact pg_name (i := 5) nd rfl (Or.inl rfl)) (fun _ _ _ _ _ => pts_nil) (fun _ _ _ _ _ => pv 5) (fun _ _ _ _ _ => pe_dnewK))))
    (pss_cons (by exact (ps_for PassesOwn.never rfl (by exact pi_seqV 1 (pv 1)) (pg_tup rfl (pgs_cons (pg_name (i := 3) nd rfl (.inl rfl)) (pgs_cons (pg_name (i := 4) nd rfl (.inl rfl)) pgs_nil)))
      (pss_cons (by exact (ps_dput hu (pe_dget hu (pv 2) (pv 3) (fun _ _ => rfl)) (pv 4) pe_bl rfl))
      (pss_one (by exact (ps_dput hu (pe_dget hu (pv 2) (pv 4) (fun _ _ => rfl)) (pv 3) pe_bl rfl))))))
    (pss_one (by exact (ps_ret (pe_dc (own := [("house", 5)]) (g := gName 5) (tt := tYes) (tk := tVar 5) (tv := tLc (iSeqV K 0) (gName 6) (tB (tDIn (tVar 6) (tDGet (tVar 2) (tVar 5)))) (tVar 6) [6]) rfl nd (by exact pi_seqV 0 (pv 0))
        (by exact blkOk_by (N := ["houses", "roads", "found", "one", "other", "house", "far"]) (sc := defScope sNB) (by decide +kernel)) (fun _ _ _ _ _ => by exact pg_name (i := 5) nd rfl (Or.inr rfl)) (fun _ _ _ _ _ => pts_nil) (fun _ _ _ _ _ => by exact pv 5)
        (fun _ _ _ _ _ => by
          refine pe_lc (own := [("far", 6)]) ?_ ?_ ?_ ?_ ?_ ?_ ?_ ?_
          · rfl
          · exact nd
          · exact pi_seqV 0 (pv 0)
          · exact blkOk_by (by with_unfolding_all rfl)
          · intro _ _ _ _ _
            exact pg_name (i := 6) nd rfl (Or.inl rfl)
          · intro _ _ _ _ _
            exact pts_one (pt_cmp (pc_din hu (pv 6) (pe_dget hu (pv 2) (pv 5) (fun _ _ => rfl))) (by with_unfolding_all rfl))
          · intro _ _ _ _ _
            exact pv 6
          · intro _
            rfl)))))), ?_⟩
  have lqs : qs.length = rs.length := pr.length
  -- the dict of dicts
  refine ⟨p1, _, rfl, .inl (SqL.of h1), fun J G wk hG D hD => ?_⟩
  have up : ∀ {Hx : Hp} {d : Addr} {o : HO}, H d = none → Same H Hx → Same H (upd Hx d o) := fun n e b o nn => by
    rw [upd_ne (ne_of_none nn n)]
    exact e b o nn
  have at_ : ∀ i x, (ss.map V.str)[i]? = some x → ∃ h : i < ss.length, x = .str ss[i] := fun i x e => by
    rw [List.getElem?_map] at e
    rcases Nat.lt_or_ge i ss.length with hi | hi
    · rw [List.getElem?_eq_getElem hi] at e
      exact ⟨hi, (Option.some.inj e).symm⟩
    · rw [List.getElem?_eq_none hi] at e
      cases e
  refine dc_it wk (fun i Hc => Same H Hc ∧ NbAt H Hc D (ss.take i) 0) ⟨K1.Same.upd hD, [], upd_same, Nat.zero_le _, fun s hs => absurd hs (by simp)⟩ (fun i Hc _ h => hG Hc fun o ho => h.1 _ _ ho) ?_ ?_
  · rintro i x Hc H' hi ⟨f1, kvs, f2, f3, f4⟩ ⟨rfl, hx⟩
    obtain ⟨hi', rfl⟩ := at_ i x hx
    refine ⟨rfl, ?_⟩
    unfold tYes
    refine iteT ?_
    refine ⟨_, rfl, fun d hd => ?_⟩
    have dD : d ≠ D := fun z => by rw [z, f2] at hd; cases hd
    have d0 : H d = none := f1.free hd
    refine ⟨kvs, .inr ss[i], rfl, by rw [upd_ne dD.symm]; exact f2, Nat.lt_of_le_of_lt f3 (small1000 (Nat.le_trans (List.length_take_le _ _) (by omega))), up hD (up d0 f1), putK kvs (.inr ss[i]) (.ref d), upd_same, ?_, fun s hs => ?_⟩
    · refine Nat.le_trans putK_le ?_
      rw [List.length_take] at f3 ⊢
      omega
    · rcases (mem_take_succ hi').mp hs with hs | rfl
      · obtain ⟨d', m, a1, a2, a3, a4, a5⟩ := f4 s hs
        have ne : ¬ (Sum.inr s : Key) = .inr ss[i] := fun z => nodup_take_not hN hi' (by rw [← Sum.inr.inj z]; exact hs)
        have ne2 : d' ≠ d := fun z => by rw [z, hd] at a4; cases a4
        exact ⟨d', m, by rw [valV_put, if_neg ne]; exact a1, a2, a3, by rw [upd_ne a3, upd_ne ne2]; exact a4, a5⟩
      · exact ⟨d, [], by rw [valV_put, if_pos rfl], d0, dD, by rw [upd_ne dD, upd_same], Nat.le_refl _⟩
  rintro H1 ⟨e1, nb⟩
  have nb : NbAt H H1 D ss 0 := by
    rw [List.length_map, List.take_length] at nb
    exact nb
  -- the roads
  refine ⟨p2, _, rfl, .inl (SqL.of (e1 _ _ h2)), fun J G wk hG => ?_⟩
  refine for_it wk (fun i σ Hc => (∃ a b, σ = [some (.ref p1), some (.ref p2), some (.ref D), a, b, none, none]) ∧ Same H Hc ∧ NbAt H Hc D ss (2 * i)) ⟨⟨_, _, rfl⟩, e1, nb⟩ (fun i σ Hc _ h => hG Hc fun o ho => by
    rw [e1 _ _ h2] at ho
    rw [← Option.some.inj ho]
    exact h.2.1 _ _ h2) ?_ ?_
  · rintro i x σ Hc H' hi ⟨⟨sa, sb, rfl⟩, g1, g2⟩ ⟨rfl, hx⟩
    rw [List.length_map, lqs] at hi
    obtain ⟨t, rfl, ht⟩ := paired_ref pr hi hx
    refine ⟨t, _, rfl, SqT.of (g1 _ _ ht), rfl, _, _, rfl, _, _, rfl, rfl, ?_⟩
    have ee := ends _ (List.getElem_mem hi)
    obtain ⟨kvs, b1, b2, b3⟩ := id g2
    obtain ⟨d, m, a1, a2, a3, a4, a5⟩ := b3 rs[i].1 ee.1
    have dg1 := DGet.k (k := .inr rs[i].1) b1
    rw [a1] at dg1
    have g3 := NbAt.put (s := rs[i].1) (k := .inr rs[i].2) (v := .bl true) g2 a3 a4 a5
    have g4 : Same H (upd H' d (.dK (putK m (.inr rs[i].2) (.bl true)))) := up a2 g1
    refine ⟨_, rfl, _, rfl, D, _, rfl, dg1, _, rfl, d, _, rfl, DPut.k (k := .inr rs[i].2) a4 (by show m.length < 2 ^ 24; omega), ?_⟩
    obtain ⟨kvs', c1, c2, c3⟩ := id g3
    obtain ⟨d', m', x1, x2, x3, x4, x5⟩ := c3 rs[i].2 ee.2
    have dg2 := DGet.k (k := .inr rs[i].2) c1
    rw [x1] at dg2
    refine ⟨_, rfl, _, rfl, D, _, rfl, dg2, _, rfl, d', _, rfl, DPut.k (k := .inr rs[i].1) x4 (by show m'.length < 2 ^ 24; omega), ⟨_, _, rfl⟩, up x2 g4, ?_⟩
    exact NbAt.put (s := rs[i].2) g3 x3 x4 x5
  rintro σ H2 ⟨⟨sa, sb, rfl⟩, g1, g2⟩
  -- the dict of lists
  obtain ⟨kvs, b1, b2, b3⟩ := id g2
  refine ⟨p1, _, rfl, .inl (SqL.of (g1 _ _ h1)), fun J G wk hG D2 hD2 => ?_⟩
  have hD20 : H D2 = none := g1.free hD2
  refine dc_it wk (fun i Hc => Same H2 Hc ∧ ∃ kv, Hc D2 = some (.dK kv) ∧ kv.length ≤ i) ⟨K1.Same.upd hD2, [], upd_same, Nat.zero_le _⟩ (fun i Hc _ h => hG Hc fun o ho => h.1 _ _ ho) ?_ ?_
  · rintro i x Hc H' hi ⟨f1, kv, f2, f3⟩ ⟨rfl, hx⟩
    obtain ⟨hi', rfl⟩ := at_ i x hx
    refine ⟨rfl, ?_⟩
    unfold tYes
    refine iteT ?_
    refine ⟨_, rfl, ?_⟩
    refine ⟨p1, _, rfl, .inl (SqL.of (f1 _ _ (g1 _ _ h1))), fun J2 G2 wk2 hG2 L hL => ?_⟩
    refine lc_it wk2 (fun j Hd => Same H' Hd ∧ ∃ acc, Hd L = some (.lst acc) ∧ acc.length ≤ j) ⟨K1.Same.upd hL, [], upd_same, Nat.zero_le _⟩ (fun j Hd _ h => hG2 Hd fun o ho => h.1 _ _ ho) ?_ ?_
    · rintro j y Hd H'' hj ⟨k1, acc, k2, k3⟩ ⟨rfl, hy⟩
      rw [List.length_map] at hj
      obtain ⟨hj', rfl⟩ := at_ j y hy
      refine ⟨rfl, ?_⟩
      obtain ⟨d, m, a1, a2, a3, a4, a5⟩ := b3 ss[i] (List.getElem_mem hi')
      have dg := DGet.k (k := .inr ss[i]) (k1 _ _ (f1 _ _ b1))
      rw [a1] at dg
      refine ⟨_, rfl, _, rfl, _, rfl, D, _, rfl, dg, d, _, rfl, DGet.k (k := .inr ss[j]) (k1 _ _ (f1 _ _ a4)), _, rfl, ?_⟩
      refine ite2 (fun c => ?_) (fun c => ?_)
      · refine ⟨_, rfl, acc, k2, by show acc.length < 2 ^ 24; omega, fun b o n => ?_, _, upd_same, by rw [List.length_append]; simp; omega⟩
        rw [upd_ne (ne_of_none n hL)]
        exact k1 b o n
      · exact ⟨k1, acc, k2, by omega⟩
    · rintro Hd ⟨k1, acc, k2, k3⟩
      have LD : L ≠ D2 := fun z => by rw [z, f2] at hL; cases hL
      refine ⟨kv, .inr ss[i], rfl, k1 _ _ f2, by show kv.length < 2 ^ 24; rw [List.length_map] at hi; omega, fun b o n => ?_, _, upd_same, Nat.le_trans putK_le (by omega)⟩
      rw [upd_ne (ne_of_none n hD2)]
      exact k1 b o (f1 b o n)
  · rintro Hc ⟨f1, _⟩
    exact q D2 Hc (g1.trans f1)
end
end K1
end
-- NVal
section
set_option Elab.async false
set_option linter.all false
set_option maxRecDepth 100000
set_option maxHeartbeats 4000000
namespace K1
open PySem PySem.Spec PyProof.Rows L2
/-- the place of a road, either way round -/
def plOf (rs : List (Str × Str)) (a b : Str) : Option Nat := rs.findIdx? fun r => decide (r = (a, b) ∨ r = (b, a))
theorem joinRt_one {rt : Str → Str} {a b : Str} : joinRt rt a b a = joinRt rt a b b := by
  unfold joinRt
  by_cases e : rt a = rt b
  · simp [e]
  · simp [e]
theorem joinRt_keep {rt : Str → Str} {a b u v : Str} (h : rt u = rt v) : joinRt rt a b u = joinRt rt a b v := by
  unfold joinRt
  rw [h]
theorem rt_joined {rs : List (Str × Str)} {j : Nat} (hj : j < rs.length) : ∀ i, j < i → i ≤ rs.length → rtOf (rs.take i) rs[j].1 = rtOf (rs.take i) rs[j].2
  | 0, h, _ => absurd h (Nat.not_lt_zero j)
  | i + 1, h, hi => by
    rw [rtOf_succ hi]
    by_cases e : j = i
    · subst e
      exact joinRt_one
    · exact joinRt_keep (rt_joined hj i (by omega) (by omega))
theorem Forest.ne {rs : List (Str × Str)} (f : Forest rs) {i : Nat} (hi : i < rs.length) : rs[i].1 ≠ rs[i].2 := fun e => f i hi (by rw [e])
theorem Forest.fresh {rs : List (Str × Str)} (f : Forest rs) {i : Nat} (hi : i < rs.length) : plOf (rs.take i) rs[i].1 rs[i].2 = none := by
  unfold plOf
  rw [List.findIdx?_eq_none_iff]
  intro r hr
  obtain ⟨j, hj, rfl⟩ := List.getElem_of_mem hr
  have hj2 : j < i := by rw [List.length_take] at hj; omega
  have e := rt_joined (rs := rs) (j := j) (by omega) i hj2 (by omega)
  rw [List.getElem_take]
  refine decide_eq_false fun h => ?_
  rcases h with h | h
  · rw [h] at e; exact f i hi e
  · rw [h] at e; exact f i hi e.symm
theorem plOf_swap {rs : List (Str × Str)} {a b : Str} : plOf rs a b = plOf rs b a := by
  unfold plOf
  congr 1
  funext r
  exact decide_eq_decide.mpr ⟨Or.symm, Or.symm⟩
theorem plOf_succ {rs : List (Str × Str)} {i : Nat} (hi : i < rs.length) (a b : Str) : plOf (rs.take (i + 1)) a b = match plOf (rs.take i) a b with | some j => some j | none => if rs[i] = (a, b) ∨ rs[i] = (b, a) then some i else none := by
  unfold plOf
  rw [List.take_succ, List.getElem?_eq_getElem hi, List.findIdx?_append]
  have hl : (rs.take i).length = i := by rw [List.length_take]; omega
  cases e : (rs.take i).findIdx? fun r => decide (r = (a, b) ∨ r = (b, a)) with
  | some j => simp
  | none =>
    by_cases h : rs[i] = (a, b) ∨ rs[i] = (b, a)
    · rw [if_pos h]
      simp [List.findIdx?_cons, h, hl]
    · rw [if_neg h]
      simp [List.findIdx?_cons, h]
/-- what the dict of places tells -/
def PlacesAt (rs : List (Str × Str)) (kvs : List (List Key × V)) : Prop := ∀ a b : Str, valV kvs [.inr a, .inr b] = (plOf rs a b).map fun i => V.int (i : Nat)
theorem key2 {a b x y : Str} : ([.inr a, .inr b] : List Key) = [.inr x, .inr y] ↔ a = x ∧ b = y := by
  constructor
  · intro h
    injection h with h1 h2
    injection h2 with h3 _
    exact ⟨Sum.inr.inj h1, Sum.inr.inj h3⟩
  · rintro ⟨rfl, rfl⟩
    rfl
theorem PlacesAt.step {rs : List (Str × Str)} (f : Forest rs) {i : Nat} (hi : i < rs.length) {kvs : List (List Key × V)} (h : PlacesAt (rs.take i) kvs) :
    PlacesAt (rs.take (i + 1)) (putK (putK kvs [.inr rs[i].1, .inr rs[i].2] (.int (i : Nat))) [.inr rs[i].2, .inr rs[i].1] (.int (i : Nat))) := by
  intro a b
  rw [valV_put, valV_put, plOf_succ hi, h a b]
  have fr := f.fresh hi
  by_cases e1 : a = rs[i].2 ∧ b = rs[i].1
  · obtain ⟨rfl, rfl⟩ := e1
    rw [if_pos rfl, plOf_swap, fr]
    simp
  · rw [if_neg fun z => e1 (key2.mp z)]
    by_cases e2 : a = rs[i].1 ∧ b = rs[i].2
    · obtain ⟨rfl, rfl⟩ := e2
      rw [if_pos rfl, fr]
      simp
    · rw [if_neg fun z => e2 (key2.mp z)]
      have n : ¬ (rs[i] = (a, b) ∨ rs[i] = (b, a)) := by
        rintro (h | h)
        · exact e2 ⟨by rw [h], by rw [h]⟩
        · exact e1 ⟨by rw [h], by rw [h]⟩
      rw [if_neg n]
      cases plOf (rs.take i) a b <;> rfl
def spBW2 : Sp := fun vs H Q _ => ∃ (p : Addr) (qs : List Addr) (rs : List (Str × Str)), vs = [.ref p] ∧ H p = some (.lst (qs.map V.ref)) ∧ Paired (TupP H) qs rs ∧ Forest rs ∧ rs.length ≤ 1000 ∧
  ∀ r kvs H', Same H H' → H r = none → H' r = some (.dT kvs) → PlacesAt rs kvs → kvs.length ≤ 2 * rs.length → Q (.ref r) H'
section
variable {P : Program} {w : World} {K : PySem.W.Frag} {mg : Str → Option Value} {base : Heap}
theorem ok_BW2 {f : Addr} {fd : FuncData} (F : Fun K "_both_ways" "_both_ways" sBW f fd) (me : mg "enumerate" = none) : FnOk P w K mg base CX0 1 f fd ["roads"] spBW2 := by
  refine F.ok scBW (fun vs H Q E h => ?_) (fun cdv A outer s H vs Q E hr h => ?_)
  · obtain ⟨p, qs, rs, rfl, _⟩ := h
    rfl
  obtain ⟨p, qs, rs, rfl, hp, pr, fo, hl, q⟩ := h
  have nd := scBW.nd
  have hu := hu_of hr
  refine ⟨_, pss_cons (by exact (ps_set (i := 1) nd rfl (.inl rfl) pe_dnewT))
    (pss_cons (by exact (ps_for PassesOwn.never rfl (by exact pi_enumV 0 rfl me (pv 0)) (pg_tup rfl (pgs_cons (pg_name (i := 2) nd rfl (.inl rfl)) (pgs_cons (pg_tup rfl (pgs_cons (pg_name (i := 3) nd rfl (.inl rfl)) (pgs_cons (pg_name (i := 4) nd rfl (.inl rfl)) pgs_nil))) pgs_nil)))
      (pss_cons (by exact (ps_dput hu (pv 1) (pe_tup (pa_cons (pv 3) (pa_cons (pv 4) pa_nil))) (pv 2) rfl))
      (pss_one (by exact (ps_dput hu (pv 1) (pe_tup (pa_cons (pv 4) (pa_cons (pv 3) pa_nil))) (pv 2) rfl))))))
    (pss_one (by exact (ps_ret (pv 1))))), ?_⟩
  intro L hL
  have ep : L ≠ p := fun z => by rw [z, hp] at hL; cases hL
  have lqs : qs.length = rs.length := pr.length
  refine ⟨p, _, rfl, .inl (SqL.of (by rw [upd_ne ep.symm]; exact hp)), fun J G wk hG => ?_⟩
  refine for_it wk (fun i σ Hc => (∃ a b c, σ = [some (.ref p), some (.ref L), a, b, c]) ∧ Same H Hc ∧ ∃ kvs, Hc L = some (.dT kvs) ∧ kvs.length ≤ 2 * i ∧ PlacesAt (rs.take i) kvs) ⟨⟨_, _, _, rfl⟩, K1.Same.upd hL, _, upd_same, Nat.le_refl _, fun a b => rfl⟩ (fun i σ Hc _ h => hG Hc fun o ho => ?_) ?_ ?_
  · rw [upd_ne ep.symm, hp] at ho
    rw [← Option.some.inj ho]
    exact h.2.1 _ _ hp
  · rintro i x σ Hc H' hi ⟨⟨sa, sb, sc, rfl⟩, h1, kvs, h2, h3, h4⟩ ⟨T, x1, x2, rfl, hT, rfl, e1', e2'⟩
    rw [List.length_map, lqs] at hi
    obtain rfl : x1 = .int (i : Nat) := (Option.some.inj e1').symm
    obtain ⟨t, rfl, ht⟩ := paired_ref pr hi e2'
    have hT2 := K1.Same.upd (H := Hc) (p := T) (o := .tup [.int (i : Nat), .ref t]) hT
    have e1 : Same H (upd Hc T (.tup [.int (i : Nat), .ref t])) := h1.trans hT2
    refine ⟨T, _, rfl, SqT.of upd_same, rfl, _, _, rfl, _, _, rfl, t, _, rfl, SqT.of (e1 _ _ ht), rfl, _, _, rfl, _, _, rfl, rfl, rfl, ?_⟩
    have step : ∀ (H1 : Hp) (kv : List (List Key × V)) (a b : Str), Same H H1 → H1 L = some (.dT kv) → kv.length ≤ 2 * i + 1 → ∀ (R : Hp → Prop), (∀ H2, Same H H2 → H2 L = some (.dT (putK kv [.inr a, .inr b] (.int (i : Nat)))) → R H2) →
        2 ≤ sizeLine ∧ ∀ b', H1 b' = none → ∃ a' H3, V.ref L = .ref a' ∧ DPut (upd H1 b' (.tup [.str a, .str b])) a' (.ref b') (.int (i : Nat)) H3 ∧ R H3 := by
      intro H1 kv a b f1 f2 f3 R hR
      refine ⟨by decide, fun b' hb => ⟨L, _, rfl, DPut.t (k := [.inr a, .inr b]) (by rw [upd_ne (ne_of_none f2 hb)]; exact f2) upd_same (Nat.lt_of_le_of_lt f3 (by show 2 * i + 1 < 2 ^ 24; omega)), hR _ (fun c o n => ?_) upd_same⟩⟩
      rw [upd_ne (ne_of_none n hL), upd_ne (ne_of_none (f1 _ _ n) hb)]
      exact f1 _ _ n
    refine ⟨_, rfl, _, rfl, _, rfl, _, rfl, ?_⟩
    refine step _ kvs rs[i].1 rs[i].2 e1 (hT2 _ _ h2) (by omega) _ ?_
    rintro H2 g1 g2
    refine ⟨_, rfl, _, rfl, _, rfl, _, rfl, ?_⟩
    have l1 : (putK kvs [.inr rs[i].1, .inr rs[i].2] (V.int (i : Nat))).length ≤ kvs.length + 1 := putK_le
    refine step H2 _ rs[i].2 rs[i].1 g1 g2 (by omega) _ ?_
    rintro H3 k1 k2
    exact ⟨⟨_, _, _, rfl⟩, k1, _, k2, by have := putK_le (kvs := putK kvs [.inr rs[i].1, .inr rs[i].2] (V.int (i : Nat))) (k := [.inr rs[i].2, .inr rs[i].1]) (v := V.int (i : Nat)); omega, h4.step fo hi⟩
  · rintro σ Hc ⟨⟨sa, sb, sc, rfl⟩, h1, kvs, h2, h3, h4⟩
    rw [List.length_map, lqs] at h3 h4
    rw [List.take_length] at h4
    exact ⟨_, rfl, q L kvs Hc h1 hL h2 h4 h3⟩
end
end K1
end
-- NNb
section
set_option Elab.async false
set_option linter.all false
set_option maxRecDepth 100000
set_option maxHeartbeats 4000000
namespace K1
open PySem PySem.Spec PyProof.Rows L2
/-- whether a road joins two houses -/
def nbB (rs : List (Str × Str)) (s t : Str) : Bool := rs.any fun r => decide (r = (s, t) ∨ r = (t, s))
/-- the houses beside one, in the valley's order -/
def nbs (ss : List Str) (rs : List (Str × Str)) (s : Str) : List Str := ss.filter fun t => nbB rs s t
def addNb (nb : Str → Str → Bool) (s t : Str) : Str → Str → Bool := fun a b => nb a b || (decide (a = s) && decide (b = t))
theorem nbB_succ {rs : List (Str × Str)} {i : Nat} (hi : i < rs.length) : addNb (addNb (nbB (rs.take i)) rs[i].1 rs[i].2) rs[i].2 rs[i].1 = nbB (rs.take (i + 1)) := by
  funext a b
  unfold addNb nbB
  rw [List.take_succ, List.getElem?_eq_getElem hi, List.any_append]
  simp only [Option.toList, List.any_cons, List.any_nil, Bool.or_false, Bool.or_assoc]
  congr 1
  rw [Bool.eq_iff_iff]
  simp only [Bool.or_eq_true, Bool.and_eq_true, decide_eq_true_eq]
  constructor
  · rintro (⟨rfl, rfl⟩ | ⟨rfl, rfl⟩)
    · exact .inl rfl
    · exact .inr rfl
  · rintro (h | h)
    · exact .inl ⟨by rw [h], by rw [h]⟩
    · exact .inr ⟨by rw [h], by rw [h]⟩
/-- the dicts of the neighbours: each house has its own, with these -/
def NbS (H0 Hc : Hp) (D : Addr) (hs : List Str) (n : Nat) (nb : Str → Str → Bool) : Prop := ∃ (kvs : List (Key × V)) (own : Str → Addr), Hc D = some (.dK kvs) ∧ kvs.length ≤ hs.length ∧
  (∀ s ∈ hs, valV kvs (.inr s) = some (.ref (own s)) ∧ H0 (own s) = none ∧ own s ≠ D ∧ ∃ m, Hc (own s) = some (.dK m) ∧ m.length ≤ n ∧ ∀ t : Str, (valV m (.inr t)).isSome = nb s t) ∧ ∀ s ∈ hs, ∀ t ∈ hs, own s = own t → s = t
theorem NbS.keep {H0 Hc H2 : Hp} {D : Addr} {hs : List Str} {n : Nat} {nb : Str → Str → Bool} (h : NbS H0 Hc D hs n nb) (e : Same Hc H2) : NbS H0 H2 D hs n nb := by
  obtain ⟨kvs, own, h1, h2, h3, h4⟩ := h
  refine ⟨kvs, own, e _ _ h1, h2, fun s hs => ?_, h4⟩
  obtain ⟨a1, a2, a3, m, a4, a5⟩ := h3 s hs
  exact ⟨a1, a2, a3, m, e _ _ a4, a5⟩
/-- one neighbour more -/
theorem NbS.put {H0 Hc : Hp} {D : Addr} {hs : List Str} {n : Nat} {nb : Str → Str → Bool} (h : NbS H0 Hc D hs n nb) {s t : Str} (hs' : s ∈ hs) :
    ∃ d m kvs, Hc D = some (.dK kvs) ∧ valV kvs (.inr s) = some (.ref d) ∧ H0 d = none ∧ d ≠ D ∧ Hc d = some (.dK m) ∧ m.length ≤ n ∧ NbS H0 (upd Hc d (.dK (putK m (.inr t) (.bl true)))) D hs (n + 1) (addNb nb s t) := by
  obtain ⟨kvs, own, h1, h2, h3, h4⟩ := h
  obtain ⟨a1, a2, a3, m, a4, a5, a6⟩ := h3 s hs'
  refine ⟨own s, m, kvs, h1, a1, a2, a3, a4, a5, kvs, own, by rw [upd_ne a3.symm]; exact h1, h2, fun u hu => ?_, h4⟩
  obtain ⟨b1, b2, b3, m', b4, b5, b6⟩ := h3 u hu
  refine ⟨b1, b2, b3, ?_⟩
  by_cases e : u = s
  · subst e
    refine ⟨_, upd_same, Nat.le_trans putK_le (by omega), fun v => ?_⟩
    rw [valV_put]
    unfold addNb
    by_cases ev : v = t
    · subst ev
      rw [if_pos rfl]
      simp
    · rw [if_neg fun z => ev (Sum.inr.inj z), a6 v]
      simp [ev]
  · refine ⟨m', by rw [upd_ne fun z => e (h4 _ hu _ hs' z)]; exact b4, by omega, fun v => ?_⟩
    rw [b6 v]
    unfold addNb
    simp [e]
def spNB2 : Sp := fun vs H Q _ => ∃ (p1 p2 : Addr) (ss : List Str) (qs : List Addr) (rs : List (Str × Str)), vs = [.ref p1, .ref p2] ∧ H p1 = some (.lst (ss.map V.str)) ∧ ss.length ≤ 1000 ∧ ss.Nodup ∧ H p2 = some (.lst (qs.map V.ref)) ∧ Paired (TupP H) qs rs ∧ EndsIn ss rs ∧ rs.length ≤ 1000 ∧
  ∀ r kv H', Same H H' → H r = none → H' r = some (.dK kv) → kv.length ≤ ss.length → (∀ s ∈ ss, ∃ d, valV kv (.inr s) = some (.ref d) ∧ H d = none ∧ H' d = some (.lst ((nbs ss rs s).map V.str))) → Q (.ref r) H'
section
variable {P : Program} {w : World} {K : PySem.W.Frag} {mg : Str → Option Value} {base : Heap}
theorem ok_NB2 {f : Addr} {fd : FuncData} (F : Fun K "_neighbours" "_neighbours" sNB f fd) : FnOk P w K mg base CX0 1 f fd ["houses", "roads"] spNB2 := by
  refine F.ok scNB (fun vs H Q E h => ?_) (fun cdv A outer s H vs Q E hr h => ?_)
  · obtain ⟨p1, p2, ss, qs, rs, rfl, _⟩ := h
    rfl
  obtain ⟨p1, p2, ss, qs, rs, rfl, h1, hl, hN, h2, pr, ends, hlr, q⟩ := h
  have nd := scNB.nd
  have hu := hu_of hr
  refine ⟨_, pss_cons (by exact (ps_set (i := 2) nd rfl (.inr rfl) (pe_dc (own := [("house", 5)]) (g := gName 5) (tt := tYes) rfl nd (by exact pi_seqV 0 (pv 0))
        (by exact blkOk_by (N := ["houses", "roads", "found", "one", "other", "house", "far"]) (sc := defScope sNB) (by decide +kernel)) (fun _ _ _ _ _ => by exact pg_name (i := 5) nd rfl (Or.inl rfl)) (fun _ _ _ _ _ => pts_nil) (fun _ _ _ _ _ => pv 5) (fun _ _ _ _ _ => pe_dnewK))))
    (pss_cons (by exact (ps_for PassesOwn.never rfl (by exact pi_seqV 1 (pv 1)) (pg_tup rfl (pgs_cons (pg_name (i := 3) nd rfl (.inl rfl)) (pgs_cons (pg_name (i := 4) nd rfl (.inl rfl)) pgs_nil)))
      (pss_cons (by exact (ps_dput hu (pe_dget hu (pv 2) (pv 3) (fun _ _ => rfl)) (pv 4) pe_bl rfl))
      (pss_one (by exact (ps_dput hu (pe_dget hu (pv 2) (pv 4) (fun _ _ => rfl)) (pv 3) pe_bl rfl))))))
    (pss_one (by exact (ps_ret (pe_dc (own := [("house", 5)]) (g := gName 5) (tt := tYes) (tk := tVar 5) (tv := tLc (iSeqV K 0) (gName 6) (tB (tDIn (tVar 6) (tDGet (tVar 2) (tVar 5)))) (tVar 6) [6]) rfl nd (by exact pi_seqV 0 (pv 0))
        (by exact blkOk_by (N := ["houses", "roads", "found", "one", "other", "house", "far"]) (sc := defScope sNB) (by decide +kernel)) (fun _ _ _ _ _ => by exact pg_name (i := 5) nd rfl (Or.inr rfl)) (fun _ _ _ _ _ => pts_nil) (fun _ _ _ _ _ => by exact pv 5)
        (fun _ _ _ _ _ => by
          refine pe_lc (own := [("far", 6)]) ?_ ?_ ?_ ?_ ?_ ?_ ?_ ?_
          · rfl
          · exact nd
          · exact pi_seqV 0 (pv 0)
          · exact blkOk_by (by with_unfolding_all rfl)
          · intro _ _ _ _ _
            exact pg_name (i := 6) nd rfl (Or.inl rfl)
          · intro _ _ _ _ _
            exact pts_one (pt_cmp (pc_din hu (pv 6) (pe_dget hu (pv 2) (pv 5) (fun _ _ => rfl))) (by with_unfolding_all rfl))
          · intro _ _ _ _ _
            exact pv 6
          · intro _
            rfl)))))), ?_⟩
  have lqs : qs.length = rs.length := pr.length
  -- the dict of dicts
  refine ⟨p1, _, rfl, .inl (SqL.of h1), fun J G wk hG D hD => ?_⟩
  have up : ∀ {Hx : Hp} {d : Addr} {o : HO}, H d = none → Same H Hx → Same H (upd Hx d o) := fun n e b o nn => by
    rw [upd_ne (ne_of_none nn n)]
    exact e b o nn
  have at_ : ∀ i x, (ss.map V.str)[i]? = some x → ∃ h : i < ss.length, x = .str ss[i] := fun i x e => by
    rw [List.getElem?_map] at e
    rcases Nat.lt_or_ge i ss.length with hi | hi
    · rw [List.getElem?_eq_getElem hi] at e
      exact ⟨hi, (Option.some.inj e).symm⟩
    · rw [List.getElem?_eq_none hi] at e
      cases e
  refine dc_it wk (fun i Hc => Same H Hc ∧ NbS H Hc D (ss.take i) 0 (nbB [])) ⟨K1.Same.upd hD, [], fun _ => 0, upd_same, Nat.zero_le _, fun s hs => absurd hs (by simp), fun s hs => absurd hs (by simp)⟩ (fun i Hc _ h => hG Hc fun o ho => h.1 _ _ ho) ?_ ?_
  · rintro i x Hc H' hi ⟨f1, kvs, own, f2, f3, f4, f5⟩ ⟨rfl, hx⟩
    obtain ⟨hi', rfl⟩ := at_ i x hx
    refine ⟨rfl, ?_⟩
    unfold tYes
    refine iteT ?_
    refine ⟨_, rfl, fun d hd => ?_⟩
    have dD : d ≠ D := fun z => by rw [z, f2] at hd; cases hd
    have d0 : H d = none := f1.free hd
    have nw : ∀ s ∈ ss.take i, s ≠ ss[i] := fun s hs z => nodup_take_not hN hi' (by rw [← z]; exact hs)
    have dn : ∀ s ∈ ss.take i, own s ≠ d := fun s hs z => by
      obtain ⟨_, _, _, m, a4, _⟩ := f4 s hs
      rw [z, hd] at a4
      cases a4
    refine ⟨kvs, .inr ss[i], rfl, by rw [upd_ne dD.symm]; exact f2, Nat.lt_of_le_of_lt f3 (small1000 (Nat.le_trans (List.length_take_le _ _) (by omega))), up hD (up d0 f1), putK kvs (.inr ss[i]) (.ref d), fun s => if s = ss[i] then d else own s, upd_same, ?_, fun s hs => ?_, fun s hs t ht e => ?_⟩
    · refine Nat.le_trans putK_le ?_
      rw [List.length_take] at f3 ⊢
      omega
    · rcases (mem_take_succ hi').mp hs with hs | rfl
      · obtain ⟨a1, a2, a3, m, a4, a5, a6⟩ := f4 s hs
        have ne : ¬ (Sum.inr s : Key) = .inr ss[i] := fun z => nw s hs (Sum.inr.inj z)
        simp only [if_neg (nw s hs)]
        exact ⟨by rw [valV_put, if_neg ne]; exact a1, a2, a3, m, by rw [upd_ne a3, upd_ne (dn s hs)]; exact a4, a5, a6⟩
      · simp only [if_true]
        exact ⟨by rw [valV_put, if_pos rfl], d0, dD, [], by rw [upd_ne dD, upd_same], Nat.le_refl _, fun t => rfl⟩
    · rcases (mem_take_succ hi').mp hs with hs | rfl <;> rcases (mem_take_succ hi').mp ht with ht | rfl
      · simp only [if_neg (nw s hs), if_neg (nw t ht)] at e
        exact f5 s hs t ht e
      · simp only [if_neg (nw s hs), if_true] at e
        exact absurd e (dn s hs)
      · simp only [if_neg (nw t ht), if_true] at e
        exact absurd e.symm (dn t ht)
      · rfl
  rintro H1 ⟨e1, nb⟩
  have nb : NbS H H1 D ss 0 (nbB []) := by
    rw [List.length_map, List.take_length] at nb
    exact nb
  -- the roads
  refine ⟨p2, _, rfl, .inl (SqL.of (e1 _ _ h2)), fun J G wk hG => ?_⟩
  refine for_it wk (fun i σ Hc => (∃ a b, σ = [some (.ref p1), some (.ref p2), some (.ref D), a, b, none, none]) ∧ Same H Hc ∧ NbS H Hc D ss (2 * i) (nbB (rs.take i))) ⟨⟨_, _, rfl⟩, e1, nb⟩ (fun i σ Hc _ h => hG Hc fun o ho => by
    rw [e1 _ _ h2] at ho
    rw [← Option.some.inj ho]
    exact h.2.1 _ _ h2) ?_ ?_
  · rintro i x σ Hc H' hi ⟨⟨sa, sb, rfl⟩, g1, g2⟩ ⟨rfl, hx⟩
    rw [List.length_map, lqs] at hi
    obtain ⟨t, rfl, ht⟩ := paired_ref pr hi hx
    refine ⟨t, _, rfl, SqT.of (g1 _ _ ht), rfl, _, _, rfl, _, _, rfl, rfl, ?_⟩
    have ee := ends _ (List.getElem_mem hi)
    obtain ⟨d, m, kvs, b1, a1, a2, a3, a4, a5, g3⟩ := g2.put (t := rs[i].2) ee.1
    have dg1 := DGet.k (k := .inr rs[i].1) b1
    rw [a1] at dg1
    have g4 : Same H (upd H' d (.dK (putK m (.inr rs[i].2) (.bl true)))) := up a2 g1
    refine ⟨_, rfl, _, rfl, D, _, rfl, dg1, _, rfl, d, _, rfl, DPut.k (k := .inr rs[i].2) a4 (by show m.length < 2 ^ 24; omega), ?_⟩
    obtain ⟨d', m', kvs', c1, x1, x2, x3, x4, x5, g5⟩ := g3.put (t := rs[i].1) ee.2
    have dg2 := DGet.k (k := .inr rs[i].2) c1
    rw [x1] at dg2
    refine ⟨_, rfl, _, rfl, D, _, rfl, dg2, _, rfl, d', _, rfl, DPut.k (k := .inr rs[i].1) x4 (by show m'.length < 2 ^ 24; omega), ⟨_, _, rfl⟩, up x2 g4, ?_⟩
    rw [nbB_succ hi] at g5
    exact g5
  rintro σ H2 ⟨⟨sa, sb, rfl⟩, g1, g2⟩
  have g2 : NbS H H2 D ss (2 * rs.length) (nbB rs) := by
    rw [List.length_map, lqs, List.take_length] at g2
    exact g2
  -- the dict of lists
  obtain ⟨kvs, own, b1, b2, b3, _⟩ := id g2
  refine ⟨p1, _, rfl, .inl (SqL.of (g1 _ _ h1)), fun J G wk hG D2 hD2 => ?_⟩
  have hD20 : H D2 = none := g1.free hD2
  refine dc_it wk (fun i Hc => Same H2 Hc ∧ ∃ kv, Hc D2 = some (.dK kv) ∧ kv.length ≤ i ∧ ∀ s ∈ ss.take i, ∃ d, valV kv (.inr s) = some (.ref d) ∧ H2 d = none ∧ d ≠ D2 ∧ Hc d = some (.lst ((nbs ss rs s).map V.str))) ⟨K1.Same.upd hD2, [], upd_same, Nat.zero_le _, fun s hs => absurd hs (by simp)⟩ (fun i Hc _ h => hG Hc fun o ho => h.1 _ _ ho) ?_ ?_
  · rintro i x Hc H' hi ⟨f1, kv, f2, f3, f4⟩ ⟨rfl, hx⟩
    obtain ⟨hi', rfl⟩ := at_ i x hx
    refine ⟨rfl, ?_⟩
    unfold tYes
    refine iteT ?_
    refine ⟨_, rfl, ?_⟩
    refine ⟨p1, _, rfl, .inl (SqL.of (f1 _ _ (g1 _ _ h1))), fun J2 G2 wk2 hG2 L hL => ?_⟩
    refine lc_it wk2 (fun j Hd => Same H' Hd ∧ Hd L = some (.lst ((((ss.take j).filter fun t => nbB rs ss[i] t)).map V.str))) ⟨K1.Same.upd hL, upd_same⟩ (fun j Hd _ h => hG2 Hd fun o ho => h.1 _ _ ho) ?_ ?_
    · rintro j y Hd H'' hj ⟨k1, k2⟩ ⟨rfl, hy⟩
      rw [List.length_map] at hj
      obtain ⟨hj', rfl⟩ := at_ j y hy
      refine ⟨rfl, ?_⟩
      obtain ⟨a1, a2, a3, m, a4, a5, a6⟩ := b3 ss[i] (List.getElem_mem hi')
      have dg := DGet.k (k := .inr ss[i]) (k1 _ _ (f1 _ _ b1))
      rw [a1] at dg
      refine ⟨_, rfl, _, rfl, _, rfl, D, _, rfl, dg, own ss[i], _, rfl, DGet.k (k := .inr ss[j]) (k1 _ _ (f1 _ _ a4)), _, rfl, ?_⟩
      have tk : (ss.take (j + 1)).filter (fun t => nbB rs ss[i] t) = (ss.take j).filter (fun t => nbB rs ss[i] t) ++ if nbB rs ss[i] ss[j] = true then [ss[j]] else [] := by
        rw [List.take_succ, List.getElem?_eq_getElem hj', List.filter_append]
        congr 1
        by_cases c : nbB rs ss[i] ss[j] = true
        · simp [c]
        · simp [c]
      have ll : ((ss.take j).filter fun t => nbB rs ss[i] t).length ≤ 1000 := Nat.le_trans (List.length_filter_le _ _) (Nat.le_trans (List.length_take_le _ _) (by omega))
      refine ite2 (fun c => ?_) (fun c => ?_)
      · rw [a6] at c
        refine ⟨_, rfl, _, k2, by rw [List.length_map]; show _ < 2 ^ 24; omega, fun b o n => ?_, ?_⟩
        · rw [upd_ne (ne_of_none n hL)]
          exact k1 b o n
        · rw [upd_same, tk, if_pos c, List.map_append]
          rfl
      · rw [a6] at c
        exact ⟨k1, by rw [tk, if_neg c, List.append_nil]; exact k2⟩
    · rintro Hd ⟨k1, k2⟩
      rw [List.length_map, List.take_length] at k2
      have LD : L ≠ D2 := fun z => by rw [z, f2] at hL; cases hL
      have hL2 : H2 L = none := f1.free hL
      refine ⟨kv, .inr ss[i], rfl, k1 _ _ f2, by show kv.length < 2 ^ 24; rw [List.length_map] at hi; omega, fun b o n => ?_, _, upd_same, Nat.le_trans putK_le (by omega), fun s hs => ?_⟩
      · rw [upd_ne (ne_of_none n hD2)]
        exact k1 b o (f1 b o n)
      · rcases (mem_take_succ hi').mp hs with hs | rfl
        · obtain ⟨d, c1, c2, c3, c4⟩ := f4 s hs
          have ne : ¬ (Sum.inr s : Key) = .inr ss[i] := fun z => nodup_take_not hN hi' (by rw [← Sum.inr.inj z]; exact hs)
          exact ⟨d, by rw [valV_put, if_neg ne]; exact c1, c2, c3, by rw [upd_ne c3]; exact k1 _ _ c4⟩
        · exact ⟨L, by rw [valV_put, if_pos rfl], hL2, LD, by rw [upd_ne LD]; exact k2⟩
  · rintro Hc ⟨f1, kv, f2, f3, f4⟩
    rw [List.length_map] at f3 f4
    rw [List.take_length] at f4
    refine q D2 kv Hc (g1.trans f1) hD20 f2 f3 fun s hs => ?_
    obtain ⟨d, c1, c2, _, c4⟩ := f4 s hs
    exact ⟨d, c1, g1.free c2, c4⟩
end
end K1
end
-- KHeads
section
set_option Elab.async false
set_option linter.all false
set_option maxRecDepth 100000
set_option maxHeartbeats 4000000
namespace K1
open PySem PySem.Spec PyProof.Rows L2
abbrev sND : Stmt := top 23
/-- no head -/
def BadHead (K : PySem.W.Frag) (H : Hp) (x : V) : Prop := (∃ t, TyX K H x (.type t) ∧ t ∈ kinds ∧ t ≠ "int") ∨ ∃ i, x = .int i ∧ i < 1
theorem BadHead.ext {K : PySem.W.Frag} {H H' : Hp} {x : V} (h : BadHead K H x) (e : Same H H') : BadHead K H' x := h.imp (fun ⟨t, a, b⟩ => ⟨t, TyX.ext a e, b⟩) id
def spND (K : PySem.W.Frag) (C : Addr) : Sp := fun vs H Q E => ∃ u v hs, vs = [u, v] ∧ SeqV H u hs ∧
  ((NoSeq K H v ∧ Goes C 0 H E) ∨
   (∃ ns : List Int, SeqV H v (ns.map V.int) ∧ (∀ n ∈ ns, 1 ≤ n) ∧ ns.length = hs.length ∧ ∀ H', Same H H' → Q .non H') ∨
   (∃ ns : List Int, SeqV H v (ns.map V.int) ∧ (∀ n ∈ ns, 1 ≤ n) ∧ ns.length < hs.length ∧ Goes C (ns.length : Nat) H E) ∨
   (∃ (ns : List Int) (x : V) (rest : List V), SeqV H v (ns.map V.int ++ x :: rest) ∧ (∀ n ∈ ns, 1 ≤ n) ∧ ns.length ≤ hs.length ∧ (ns.length = hs.length ∨ BadHead K H x) ∧ Goes C (ns.length : Nat) H E))
theorem scND : FnScope ["houses", "heads", "index", "many"] ["houses", "heads"] (defScope sND) := ⟨rfl, rfl, rfl, by decide +kernel, rfl, by decide +kernel, by decide +kernel⟩
section
variable {P : Program} {w : World} {K : PySem.W.Frag} {mg : Str → Option Value} {base : Heap} {CF : Addr}
theorem ok_ND {f g fN fI fE C : Addr} {fd gd nd id' ed : FuncData} (F : Fun K "_need_heads" "_need_heads" sND f fd) (B : Bl mg) (me : mg "enumerate" = none)
    (FI : Fun K "is_list" "is_list" sIsList g gd) (b : Binds K gd ["thing"] []) (m : mg "is_list" = some (.ref g))
    (FN : Fun K "is_from_one" "is_from_one" sFromOne fN nd) (bN : Binds K nd ["thing"] []) (mN : mg "is_from_one" = some (.ref fN))
    (FJ : Fun K "is_integer" "is_integer" sIsInt fI id') (bJ : Binds K id' ["thing"] []) (mJ : mg "is_integer" = some (.ref fI))
    (T : FeC K mg CF) (TC : ErC K mg "BadHeads" C fE) (FE : Fun K "__init__" "BadHeads.__init__" sID fE ed) (bE : Binds K ed ["self", "index"] []) :
    FnOk P w K mg base (L2.CX P w) 4 f fd ["houses", "heads"] (spND K C) := by
  have G := ok_isList (P := P) (w := w) (base := base) FI B
  have GN := ok_fromOne (P := P) (w := w) (base := base) FN FJ bJ mJ B
  have GE := ok_iD (P := P) (w := w) (base := base) FE T TC
  refine F.okX scND (fun vs H Q E h => ?_) (fun cdv A outer s H vs Q E hr h => ?_)
  · obtain ⟨u, v, hs, rfl, _⟩ := h
    rfl
  obtain ⟨u, v, hs, rfl, su, h⟩ := h
  have nd := scND.nd
  have hr1 : Room 1 _ := hr.mono (by decide)
  have hr2 : Room 2 _ := hr.mono (by decide)
  refine ⟨_, pss_cons (by exact (ps_if (pt_not (pt_val (pe_call G hr1 rfl m FI.kp b .nil pass0 (pa_cons (pv 1) pa_nil))))
      (pss_one (by exact (ps_raise rfl (takes_of rfl rfl rfl rfl) (pmk_oex TC.ox TC.ini TC.ty GE hr2 bE .nil pass0 rfl TC.m (pa_cons pe_int pa_nil))))) pss_nil))
    (pss_cons (by exact (ps_for (passes_of rfl) rfl (by exact pi_enumV 1 rfl me (pv 1)) (pg_tup rfl (pgs_cons (pg_name (i := 2) nd rfl (.inl rfl)) (pgs_cons (pg_name (i := 3) nd rfl (.inl rfl)) pgs_nil)))
      (pss_one (by exact (ps_if (PW.pt (pw_or (pt_cmpR op_ge (pv 2) (pe_callB call_len_seq rfl B.len PySem.boot_len (pa_cons (pv 0) pa_nil)) (nomark _)) (pw_or1 (pt_not (pt_val (pe_call GN hr2 rfl mN FN.kp bN .nil pass0 (pa_cons (pv 3) pa_nil)))))))
          (pss_one (by exact (ps_raise rfl (takes_of rfl rfl rfl rfl) (pmk_oex TC.ox TC.ini TC.ty GE hr2 bE .nil pass0 rfl TC.m (pa_cons (pv 2) pa_nil))))) pss_nil)))))
    (pss_one (by exact (ps_if (pt_cmpR op_lt (pe_callB call_len_seq rfl B.len PySem.boot_len (pa_cons (pv 1) pa_nil)) (pe_callB call_len_seq rfl B.len PySem.boot_len (pa_cons (pv 0) pa_nil)) (nomark _))
          (pss_one (by exact (ps_raise rfl (takes_of rfl rfl rfl rfl) (pmk_oex TC.ox TC.ini TC.ty GE hr2 bE .nil pass0 rfl TC.m (pa_cons (pe_callB call_len_seq rfl B.len PySem.boot_len (pa_cons (pv 1) pa_nil)) pa_nil))))) pss_nil)))), ?_⟩
  rcases h with ⟨⟨t, ty, kt, nt⟩, g⟩ | h
  · refine ⟨_, rfl, v, t, rfl, ty, kt, fun H' e => ⟨_, rfl, ?_⟩⟩
    rw [nt]
    exact iteT ⟨(by show 1 ≤ 1000; decide), raise_idx g e⟩
  obtain ⟨ns, xs, sv, good, hle, rest⟩ : ∃ (ns : List Int) (xs : List V), SeqV H v xs ∧ (∀ n ∈ ns, 1 ≤ n) ∧ ns.length ≤ hs.length ∧
      ((xs = ns.map V.int ∧ ns.length = hs.length ∧ ∀ H', Same H H' → Q .non H') ∨ (xs = ns.map V.int ∧ ns.length < hs.length ∧ Goes C (ns.length : Nat) H E) ∨
        (∃ x r, xs = ns.map V.int ++ x :: r ∧ (ns.length = hs.length ∨ BadHead K H x) ∧ Goes C (ns.length : Nat) H E)) := by
    rcases h with ⟨ns, sv, a, b, q⟩ | ⟨ns, sv, a, b, q⟩ | ⟨ns, x, r, sv, a, b, c, q⟩
    · exact ⟨ns, _, sv, a, Nat.le_of_eq b, .inl ⟨rfl, b, q⟩⟩
    · exact ⟨ns, _, sv, a, Nat.le_of_lt b, .inr (.inl ⟨rfl, b, q⟩)⟩
    · exact ⟨ns, _, sv, a, b, .inr (.inr ⟨x, r, rfl, c, q⟩)⟩
  obtain ⟨t, ty, kt, st⟩ := sv.ty (K := K)
  refine ⟨_, rfl, v, t, rfl, ty, kt, fun H1 e1 => ⟨_, rfl, ?_⟩⟩
  rw [st]
  refine iteF ?_
  obtain ⟨p, rfl, hp⟩ := sv.ext e1
  have sq : SqA K H1 p xs := hp.imp (fun h => SqL.of h) (fun h => SqT.of h)
  obtain ⟨p2, rfl, sq2⟩ := (su.ext e1).sq (K := K)
  have sq2' : SqA K H1 p2 hs := sq2
  have xat : ∀ i (hi : i < ns.length), xs[i]? = some (.int ns[i]) := fun i hi => by
    rcases rest with ⟨rfl, _⟩ | ⟨rfl, _⟩ | ⟨x, r, rfl, _⟩
    · rw [List.getElem?_map, List.getElem?_eq_getElem hi]; rfl
    · rw [List.getElem?_map, List.getElem?_eq_getElem hi]; rfl
    · rw [List.getElem?_append_left (by rw [List.length_map]; exact hi), List.getElem?_map, List.getElem?_eq_getElem hi]; rfl
  refine ⟨p, xs, rfl, sq, fun J G wk hG => ?_⟩
  refine for_it wk (fun i σ Hc => i ≤ ns.length ∧ (∃ a b, σ = [some (.ref p2), some (.ref p), a, b]) ∧ Same H1 Hc) ⟨Nat.zero_le _, ⟨_, _, rfl⟩, Same.refl _⟩ (fun i σ Hc hi h => hG Hc fun o ho => h.2.2 _ _ ho) ?_ ?_
  · rintro i x σ Hc H' hi ⟨h1, ⟨sa, sb, rfl⟩, h3⟩ ⟨T, x1, x2, rfl, hT, rfl, e1', e2'⟩
    obtain rfl : x1 = .int (i : Nat) := (Option.some.inj e1').symm
    have e2' : xs[i]? = some x2 := e2'
    have eT : Same H1 (upd Hc T (.tup [.int (i : Nat), x2])) := h3.trans (K1.Same.upd hT)
    refine ⟨T, _, rfl, SqT.of upd_same, rfl, _, _, rfl, _, _, rfl, rfl, ?_⟩
    refine ⟨_, rfl, _, rfl, p2, hs, rfl, SqA.same sq2' eT, _, _, rfl, rfl, _, rfl, ?_⟩
    by_cases hlt : i < ns.length
    · have ex2 : x2 = .int ns[i] := by
        have q := xat i hlt
        rw [q] at e2'
        exact (Option.some.inj e2').symm
      subst ex2
      rw [decide_eq_false (show ¬ ((hs.length : Nat) : Int) ≤ ((i : Nat) : Int) by omega)]
      refine iteF ⟨_, rfl, .int ns[i], rfl, .inl ⟨ns[i], rfl, _, rfl, ?_⟩⟩
      rw [decide_eq_true (good _ (List.getElem_mem hlt))]
      exact iteF ⟨hlt, ⟨_, _, rfl⟩, eT⟩
    · obtain ⟨x, r, hxs, bad, g⟩ : ∃ x r, xs = ns.map V.int ++ x :: r ∧ (ns.length = hs.length ∨ BadHead K H x) ∧ Goes C (ns.length : Nat) H E := by
        rcases rest with ⟨rfl, _⟩ | ⟨rfl, _⟩ | q
        · rw [List.length_map] at hi
          exact absurd hi hlt
        · rw [List.length_map] at hi
          exact absurd hi hlt
        · exact q
      have ei : i = ns.length := by omega
      subst ei
      have ex2 : x2 = x := by
        rw [hxs, List.getElem?_append_right (by rw [List.length_map]; exact Nat.le_refl _), List.length_map, Nat.sub_self] at e2'
        exact (Option.some.inj e2').symm
      subst ex2
      by_cases hh : ns.length = hs.length
      · rw [decide_eq_true (show ((hs.length : Nat) : Int) ≤ ((ns.length : Nat) : Int) by omega)]
        exact iteT (iteT ⟨_, rfl, (by show 1 ≤ 1000; decide), raise_idx g (e1.trans eT)⟩)
      · rw [decide_eq_false (show ¬ ((hs.length : Nat) : Int) ≤ ((ns.length : Nat) : Int) by omega)]
        rcases bad with q | bad
        · exact absurd q hh
        rcases bad.ext (e1.trans eT) with ⟨t, ty, kt, nt⟩ | ⟨j, rfl, hj⟩
        · exact iteF ⟨_, rfl, x2, rfl, .inr ⟨t, ty, kt, nt, _, rfl, iteT ⟨_, rfl, (by show 1 ≤ 1000; decide), raise_idx g (e1.trans eT)⟩⟩⟩
        · refine iteF ⟨_, rfl, .int j, rfl, .inl ⟨j, rfl, _, rfl, ?_⟩⟩
          rw [decide_eq_false (by omega)]
          exact iteT ⟨_, rfl, (by show 1 ≤ 1000; decide), raise_idx g (e1.trans eT)⟩
  · rintro σ Hc ⟨h1, ⟨sa, sb, rfl⟩, h3⟩
    have f1 := SqA.same sq h3
    have f2 := SqA.same sq2' h3
    refine ⟨_, rfl, p, xs, rfl, f1, _, rfl, p2, hs, rfl, f2, _, _, rfl, rfl, _, rfl, ?_⟩
    rcases rest with ⟨rfl, hl, q⟩ | ⟨rfl, hl, g⟩ | ⟨x, r, rfl, _⟩
    · rw [List.length_map, hl, decide_eq_false (by omega)]
      exact iteF (q Hc (e1.trans h3))
    · rw [List.length_map, decide_eq_true (by omega)]
      refine iteT ⟨_, rfl, p, _, rfl, f1, (by show 1 ≤ 1000; decide), ?_⟩
      rw [List.length_map]
      exact raise_idx g (e1.trans h3)
    · rw [List.length_append, List.length_map, List.length_cons] at h1
      omega
end
end K1
end
-- KDraw
section
set_option Elab.async false
set_option linter.all false
set_option maxRecDepth 100000
set_option maxHeartbeats 4000000
namespace K1
open PySem PySem.Spec PyProof.Rows L2
/-- the spring at a, with at most n draws by mixed numbers -/
def Spr (H : Hp) (a : Addr) (n : Nat) : Prop := ∃ x y z : Int, H a = some (.lst [.int x, .int y, .int z]) ∧ 0 ≤ x ∧ 0 ≤ y ∧ y < 2147483543 ∧ 0 ≤ z ∧ z ≤ (n : Int)
/-- all but what stands at a is as it was -/
def Kept (a : Addr) (H H' : Hp) : Prop := ∀ b o, b ≠ a → H b = some o → H' b = some o
theorem Kept.refl {a : Addr} {H : Hp} : Kept a H H := fun _ _ _ h => h
theorem Kept.trans {a : Addr} {H H1 H2 : Hp} (p : Kept a H H1) (q : Kept a H1 H2) : Kept a H H2 := fun b o n h => q b o n (p b o n h)
theorem Kept.upd {a : Addr} {H : Hp} {o : HO} : Kept a H (L2.upd H a o) := fun b u n h => by rw [upd_ne n]; exact h
theorem Kept.new {a p : Addr} {H : Hp} {o : HO} (h : H p = none) : Kept a H (L2.upd H p o) := fun b u n e => by rw [upd_ne (ne_of_none e h)]; exact e
theorem Kept.same {a : Addr} {H H1 : Hp} (e : Same H H1) : Kept a H H1 := fun b o _ h => e b o h
def spDraw : Sp := fun vs H Q _ => ∃ (a : Addr) (many : Int) (n : Nat), vs = [.ref a, .int many] ∧ Spr H a n ∧ n ≤ 1000000 ∧ 0 < many ∧ many.natAbs < 2 ^ 100 ∧
  ∀ (d : Int) (H' : Hp), 0 ≤ d → d < many → Kept a H H' → Spr H' a (n + 1) → Q (.int d) H'
theorem scDraw : FnScope ["spring", "many", "digit", "mixed"] ["spring", "many"] (defScope sDraw) := ⟨rfl, rfl, rfl, by decide +kernel, rfl, by decide +kernel, by decide +kernel⟩
section
variable {P : Program} {w : World} {K : PySem.W.Frag} {mg : Str → Option Value} {base : Heap}
theorem ok_draw {f : Addr} {fd : FuncData} (F : Fun K "_law_draw" "_law_draw" sDraw f fd) (mI : mg "int" = none) : FnOk P w K mg base CX0 1 f fd ["spring", "many"] spDraw := by
  refine F.ok scDraw (fun vs H Q E h => ?_) (fun cdv A outer s H vs Q E hr h => ?_)
  · obtain ⟨a, many, n, rfl, _⟩ := h
    rfl
  obtain ⟨a, many, n, rfl, ⟨x, y, z, ha, hx, hy, hy2, hz, hz2⟩, hn, hm, hm2, q⟩ := h
  have nd := scDraw.nd
  refine ⟨_, pss_cons (ps_if (pt_cmpR op_gt (pe_ix ix_list (pv 0) pe_int (fun _ _ => rfl)) pe_int (nomark _))
      (pss_cons (ps_set (i := 2) nd rfl (.inl rfl) (pe_op op_mod (pe_callTy call_int1 rfl mI PyProof.Rows.boot_int (pa_cons (pe_ix ix_list (pv 0) pe_int (fun _ _ => rfl)) pa_nil)) (pv 1)))
      (pss_cons (ps_asg (by exact pe_op op_fdivW (pe_ix ix_list (pv 0) pe_int (fun _ _ => rfl)) (pv 1)) (by exact pg_sub (pv 0) pe_int set_list))
      (pss_one (ps_ret (pv 2))))) pss_nil)
    (pss_cons (by exact ps_asg (by exact pe_op op_add (pe_ix ix_list (pv 0) pe_int (fun _ _ => rfl)) pe_int) (by exact pg_sub (pv 0) pe_int set_list))
    (pss_cons (by exact ps_set (i := 3) nd rfl (.inl rfl) (pe_op op_mod (pe_op op_pow (pe_callTy call_int1 rfl mI PyProof.Rows.boot_int (pa_cons
        (pe_op op_add (pe_op op_add (pe_ix ix_list (pv 0) pe_int (fun _ _ => rfl)) (pe_op op_mul pe_int (pe_ix ix_list (pv 0) pe_int (fun _ _ => rfl)))) pe_int) pa_nil)) pe_int) pe_int))
    (pss_one (by exact ps_ret (pe_op op_mod (pe_op op_fdiv (pe_op op_mod (pe_op op_pow (pe_callTy call_int1 rfl mI PyProof.Rows.boot_int (pa_cons
        (pe_op op_add (pe_op op_add (pe_op op_mul (pv 3) pe_int) (pe_op op_mul pe_int (pe_ix ix_list (pv 0) pe_int (fun _ _ => rfl)))) pe_int) pa_nil)) pe_int) pe_int) pe_int) (pv 1)))))), ?_⟩
  have at0 : atI ([.int x, .int y, .int z] : List V) 0 = some (.int x) := rfl
  have at1 : atI ([.int x, .int y, .int z] : List V) 1 = some (.int y) := rfl
  have at2 : atI ([.int x, .int y, .int z] : List V) 2 = some (.int z) := rfl
  refine ⟨_, rfl, a, _, _, _, rfl, rfl, SqL.of ha, at0, _, _, rfl, rfl, _, rfl, ?_⟩
  refine ite2 (fun c => ?_) (fun c => ?_)
  · have c' : x > 0 := of_decide_eq_true c
    refine ⟨_, rfl, a, _, _, _, rfl, rfl, SqL.of ha, at0, .inl ⟨_, rfl, _, rfl, _, _, rfl, rfl, hm, ?_⟩⟩
    refine ⟨_, rfl, a, _, _, _, rfl, rfl, SqL.of ha, at0, _, rfl, _, _, rfl, rfl, wide_div hm hm2 (by decide) (by decide), _, rfl, a, _, _, _, rfl, rfl, ha, rfl, ?_⟩
    refine ⟨_, rfl, q _ _ (Int.emod_nonneg _ (by omega)) (Int.emod_lt_of_pos _ hm) Kept.upd ?_⟩
    exact ⟨x / many, y, z, upd_same, Int.ediv_nonneg hx (by omega), hy, hy2, hz, by omega⟩
  · have ha1 : upd H a (.lst [.int x, .int y, .int (z + 1)]) a = some (.lst [.int x, .int y, .int (z + 1)]) := upd_same
    have e0 : atI ([.int x, .int y, .int (z + 1)] : List V) 1 = some (.int y) := rfl
    have e2 : atI ([.int x, .int y, .int (z + 1)] : List V) 2 = some (.int (z + 1)) := rfl
    refine ⟨_, rfl, a, _, _, _, rfl, rfl, SqL.of ha, at2, _, _, rfl, rfl, _, rfl, a, _, _, _, rfl, rfl, ha, rfl, ?_⟩
    refine ⟨_, rfl, a, _, _, _, rfl, rfl, SqL.of ha1, e0, _, rfl, a, _, _, _, rfl, rfl, SqL.of ha1, e2, _, _, rfl, rfl, .inl (by constructor <;> decide), _, _, rfl, rfl, _, _, rfl, rfl,
      .inl ⟨_, rfl, _, _, rfl, rfl, ⟨by decide, by decide, ?_⟩, _, _, rfl, rfl, (by show (0 : Int) < 2147483587; decide), ?_⟩⟩
    · omega
    refine ⟨_, rfl, _, _, rfl, rfl, .inr (by constructor <;> decide), _, rfl, a, _, _, _, rfl, rfl, SqL.of ha1, e2, _, _, rfl, rfl, .inl (by constructor <;> decide), _, _, rfl, rfl, _, _, rfl, rfl,
      .inl ⟨_, rfl, _, _, rfl, rfl, ⟨by decide, by decide, ?_⟩, _, _, rfl, rfl, (by show (0 : Int) < 2147483549; decide), _, _, rfl, rfl, (by constructor <;> decide), _, rfl, _, _, rfl, rfl, hm, ?_⟩⟩
    · generalize hg : (y + 7368787 * (z + 1) + 271828) ^ ((3 : Int).toNat) = g
      have g1 := Int.emod_nonneg g (show (2147483587 : Int) ≠ 0 by decide)
      have g2 := Int.emod_lt_of_pos g (show (0 : Int) < 2147483587 by decide)
      omega
    · exact q _ _ (Int.emod_nonneg _ (by omega)) (Int.emod_lt_of_pos _ hm) Kept.upd ⟨x, y, z + 1, upd_same, hx, hy, hy2, by omega, by omega⟩
end
end K1
end
-- KDraw2
section
set_option Elab.async false
set_option linter.all false
set_option maxRecDepth 100000
set_option maxHeartbeats 4000000
namespace K1
open PySem PySem.Spec PyProof.Rows L2
def spPick : Sp := fun vs H Q _ => ∃ (a p : Addr) (xs : List V) (n : Nat), vs = [.ref a, .ref p] ∧ Spr H a n ∧ n ≤ 1000000 ∧ H p = some (.lst xs) ∧ p ≠ a ∧ xs ≠ [] ∧ xs.length ≤ 1000 ∧
  ∀ (x : V) (H' : Hp), x ∈ xs → Kept a H H' → Spr H' a (n + 1) → Q x H'
def spMixed : Sp := fun vs H Q _ => ∃ (a p : Addr) (xs : List V) (n : Nat), vs = [.ref a, .ref p] ∧ Spr H a n ∧ n + 1000 ≤ 1000000 ∧ H p = some (.lst xs) ∧ p ≠ a ∧ xs.length ≤ 1000 ∧
  ∀ (r : Addr) (ys : List V) (H' : Hp), ys.Perm xs → H r = none → r ≠ a → H' r = some (.lst ys) → Kept a H H' → Spr H' a (n + xs.length) → Q (.ref r) H'
theorem scPick : FnScope ["spring", "some"] ["spring", "some"] (defScope sPick) := ⟨rfl, rfl, rfl, by decide +kernel, rfl, by decide +kernel, by decide +kernel⟩
theorem scMixed : FnScope ["spring", "some", "left", "k"] ["spring", "some"] (defScope sMixed) := ⟨rfl, rfl, rfl, by decide +kernel, rfl, by decide +kernel, by decide +kernel⟩
theorem Spr.kept {H : Hp} {a : Addr} {n : Nat} (h : Spr H a n) : H a ≠ none := by
  obtain ⟨x, y, z, e, _⟩ := h
  rw [e]
  exact Option.some_ne_none _
theorem Spr.upd {H : Hp} {a p : Addr} {n : Nat} {o : HO} (h : Spr H a n) (hp : p ≠ a) : Spr (L2.upd H p o) a n := by
  obtain ⟨x, y, z, e, q⟩ := h
  exact ⟨x, y, z, by rw [upd_ne hp.symm]; exact e, q⟩
theorem Spr.ne {H : Hp} {a p : Addr} {n : Nat} (h : Spr H a n) (hp : H p = none) : p ≠ a := fun e => by
  rw [e] at hp
  exact h.kept hp
theorem Spr.mono {H : Hp} {a : Addr} {n m : Nat} (h : Spr H a n) (l : n ≤ m) : Spr H a m := by
  obtain ⟨x, y, z, e, h1, h2, h3, h4, h5⟩ := h
  exact ⟨x, y, z, e, h1, h2, h3, h4, by omega⟩
theorem at_mem {xs : List V} {d : Int} (h0 : 0 ≤ d) (h1 : d < (xs.length : Int)) : ∃ x, atI xs d = some x ∧ x ∈ xs ∧ xs[d.toNat]? = some x := by
  have hk : d.toNat < xs.length := by omega
  have ek : d = ((d.toNat : Nat) : Int) := by omega
  refine ⟨xs[d.toNat], ?_, List.getElem_mem _, List.getElem?_eq_getElem hk⟩
  have q := atI_nat (xs := xs) (j := d.toNat) (v := xs[d.toNat]) (List.getElem?_eq_getElem hk)
  rwa [← ek] at q
section
variable {P : Program} {w : World} {K : PySem.W.Frag} {mg : Str → Option Value} {base : Heap} {fD : Addr} {fdD : FuncData}
theorem ok_pick {f : Addr} {fd : FuncData} (F : Fun K "_law_pick" "_law_pick" sPick f fd) (G : FnOk P w K mg base CX0 1 fD fdD ["spring", "many"] spDraw) (b : Binds K fdD ["spring", "many"] []) (k : PySem.W.keepIn K (.ref fD) = true) (m : mg "_law_draw" = some (.ref fD)) (ml : mg "len" = none) :
    FnOk P w K mg base CX0 2 f fd ["spring", "some"] spPick := by
  refine F.ok scPick (fun vs H Q E h => ?_) (fun cdv A outer s H vs Q E hr h => ?_)
  · obtain ⟨a, p, xs, n, rfl, _⟩ := h
    rfl
  obtain ⟨a, p, xs, n, rfl, hs, hn, hp, hpa, hne, hlen, q⟩ := h
  refine ⟨_, pss_one (by exact ps_ret (pe_ix ix_list (pv 1) (pe_call G hr rfl m k b .nil pass0 (pa_cons (pv 0) (pa_cons (pe_callB call_len_seq rfl ml PySem.boot_len (pa_cons (pv 1) pa_nil)) pa_nil))) (fun _ _ => rfl))), ?_⟩
  have hpos : 0 < xs.length := List.length_pos_iff.mpr hne
  refine ⟨_, rfl, _, rfl, _, rfl, p, _, rfl, .inl (SqL.of hp), a, _, n, rfl, hs, hn, by omega, ?_, fun d H' h0 h1 kp s' => ?_⟩
  · show ((xs.length : Nat) : Int).natAbs < 2 ^ 100
    rw [Int.natAbs_natCast]
    exact Nat.lt_of_le_of_lt hlen (by decide)
  obtain ⟨x, e1, e2, _⟩ := at_mem h0 h1
  exact ⟨p, xs, d, x, rfl, rfl, SqL.of (kp p _ hpa hp), e1, q x H' e2 kp s'⟩
theorem perm_pop {acc ls xs : List V} {i : Nat} {x : V} (h : (acc ++ ls).Perm xs) (e : ls[i]? = some x) : (acc ++ [x] ++ ls.eraseIdx i).Perm xs := by
  refine List.Perm.trans ?_ h
  rw [List.append_assoc]
  refine List.Perm.append_left acc ?_
  obtain ⟨hi, rfl⟩ := List.getElem?_eq_some_iff.mp e
  have e : ls = ls.take i ++ ls[i] :: ls.drop (i + 1) := by
    rw [← List.drop_eq_getElem_cons hi, List.take_append_drop]
  rw [List.eraseIdx_eq_take_drop_succ]
  conv => rhs; rw [e]
  exact (List.perm_middle (l₁ := ls.take i) (a := ls[i]) (l₂ := ls.drop (i + 1))).symm
def rLen (K : PySem.W.Frag) : List V → Hp → VK → Prop := fun xs H Q => ∃ p ys, xs = [.ref p] ∧ (SqL K H p ys ∨ SqT K H p ys) ∧ Q (.int (ys.length : Int)) H
theorem call_len' {X : Cx} : CallR X (.builtin "len") (rLen X.K) := call_len_seq
theorem ok_mixed {f : Addr} {fd : FuncData} (F : Fun K "_law_mixed" "_law_mixed" sMixed f fd) (G : FnOk P w K mg base CX0 1 fD fdD ["spring", "many"] spDraw) (b : Binds K fdD ["spring", "many"] []) (k : PySem.W.keepIn K (.ref fD) = true) (m : mg "_law_draw" = some (.ref fD)) (ml : mg "len" = none) (mL : mg "list" = none) (mr : mg "range" = none) :
    FnOk P w K mg base CX0 2 f fd ["spring", "some"] spMixed := by
  refine F.ok scMixed (fun vs H Q E h => ?_) (fun cdv A outer s H vs Q E hr h => ?_)
  · obtain ⟨a, p, xs, n, rfl, _⟩ := h
    rfl
  obtain ⟨a, p, xs, n, rfl, hs, hn, hp, hpa, hlen, q⟩ := h
  have nd := scMixed.nd
  refine ⟨_, pss_cons (by exact ps_set (i := 2) nd rfl (Or.inr rfl) (pe_callTy call_list_of rfl mL PyProof.Rows.boot_list (pa_cons (pv 1) pa_nil)))
    (pss_one (by exact ps_ret (pe_lc (own := [("k", 3)]) (g := gName 3) (tt := tYes) (te := tBM K "list" rPopAt (tVar 2) (tCons (tCall spDraw [] E0 (tCons (tVar 0) (tCons (tCB (rLen K) (tCons (tVar 2) tNil)) tNil))) tNil)) rfl nd (by exact pi_range1 rfl mr (pa_cons (pe_callB call_len_seq rfl ml PySem.boot_len (pa_cons (pv 2) pa_nil)) pa_nil))
      (by exact blkOk_by (N := ["spring", "some", "left", "k"]) (sc := defScope sMixed) (by decide +kernel)) (fun _ _ _ _ _ => by exact pg_name (i := 3) nd rfl (Or.inl rfl)) (fun _ _ _ _ _ => pts_nil)
      (fun _ _ _ _ _ => by exact pe_bm PySem.F.plainAttrs_list PySem.F.slot_list_pop PySem.F.type_list_pop mt_popAt (pv 2) (by exact pa_cons (pe_call G hr rfl m k b .nil pass0 (pa_cons (pv 0) (pa_cons (pe_callB call_len' rfl ml PySem.boot_len (pa_cons (pv 2) pa_nil)) pa_nil))) pa_nil))))), ?_⟩
  refine ⟨_, rfl, p, xs, rfl, .inl (SqL.of hp), fun l hl => ?_⟩
  have hla := hs.ne hl
  have hl1 : L2.upd H l (.lst xs) l = some (.lst xs) := upd_same
  refine ⟨_, rfl, l, xs, rfl, .inl (SqL.of hl1), _, rfl, by omega, by omega, fun D hD => ?_⟩
  have hDl : D ≠ l := fun e => by rw [e, upd_same] at hD; cases hD
  have hDH : H D = none := by rw [upd_ne hDl] at hD; exact hD
  have hDa := hs.ne hDH
  rw [Int.toNat_natCast]
  refine lc_range (fun i Hc => ∃ ls acc : List V, Hc l = some (.lst ls) ∧ Hc D = some (.lst acc) ∧ (acc ++ ls).Perm xs ∧ acc.length = i ∧ Kept a H Hc ∧ Spr Hc a (n + i)) ?_ ?_ ?_
  · exact ⟨xs, [], by rw [upd_ne hDl.symm]; exact hl1, upd_same, List.Perm.refl _, rfl, (Kept.new hl).trans (Kept.new hD), (hs.upd hla).upd hDa⟩
  · rintro i Hc hi ⟨ls, acc, h1, h2, h3, h4, h5, h6⟩
    have hlen2 : acc.length + ls.length = xs.length := by rw [← List.length_append]; exact h3.length_eq
    refine ⟨rfl, ?_⟩
    unfold tYes
    refine iteT ?_
    refine ⟨_, rfl, .inl ⟨rfl, _, SqL.of h1⟩, _, rfl, _, rfl, l, _, rfl, .inl (SqL.of h1), a, _, n + i, rfl, h6, by omega, by omega, ?_, fun d H' g0 g1 kp s' => ?_⟩
    · show ((ls.length : Nat) : Int).natAbs < 2 ^ 100
      rw [Int.natAbs_natCast]
      exact Nat.lt_of_le_of_lt (show ls.length ≤ 1000 by omega) (by decide)
    obtain ⟨x, e1, e2, e3⟩ := at_mem g0 g1
    have hl2 : H' l = some (.lst ls) := kp l _ hla h1
    have hD2 : H' D = some (.lst acc) := kp D _ hDa h2
    refine ⟨l, ls, d, d.toNat, x, rfl, rfl, hl2, by omega, by omega, ?_, e3, acc, by rw [upd_ne hDl]; exact hD2, small1000 (by omega), ?_⟩
    · have hneg : ¬ d < 0 := by omega
      unfold seqIndex?
      simp [hneg, g0, g1]
    · refine ⟨ls.eraseIdx d.toNat, acc ++ [x], by rw [upd_ne hDl.symm, upd_same], upd_same, perm_pop h3 e3, by rw [List.length_append, h4]; rfl, fun c o n1 n2 => ?_, ?_⟩
      · have c1 : c ≠ l := fun z => by rw [z, hl] at n2; cases n2
        have c2 : c ≠ D := fun z => by rw [z, hDH] at n2; cases n2
        rw [upd_ne c2, upd_ne c1]
        exact kp c o n1 (h5 c o n1 n2)
      · exact (s'.upd hla).upd hDa
  · rintro Hc ⟨ls, acc, h1, h2, h3, h4, h5, h6⟩
    have hlen2 : acc.length + ls.length = xs.length := by rw [← List.length_append]; exact h3.length_eq
    have e : ls = [] := List.length_eq_zero_iff.mp (by omega)
    subst e
    rw [List.append_nil] at h3
    exact q D acc Hc h3 hDH hDa h2 h5 h6
end
end K1
end
-- KInit
section
set_option Elab.async false
set_option linter.all false
set_option maxRecDepth 100000
set_option maxHeartbeats 4000000
namespace K1
open PySem PySem.Spec PyProof.Rows L2
abbrev sVI : Stmt := inClass (top 18) 0
def HousesBad (K : PySem.W.Frag) (H : Hp) (h : V) (i : Nat) : Prop := (NoSeq K H h ∧ i = 0) ∨ (SeqV H h [] ∧ i = 0) ∨ ∃ ss x rest, SeqV H h (ss.map V.str ++ x :: rest) ∧ ss.length ≤ 1000 ∧ Good ss ∧ BadName K H ss x ∧ i = ss.length
def HousesOk (H : Hp) (h : V) (ss : List Str) : Prop := SeqV H h (ss.map V.str) ∧ ss ≠ [] ∧ ss.length ≤ 1000 ∧ Good ss
def RoadsOk (H : Hp) (ss : List Str) (r : V) (rs : List (Str × Str)) : Prop := ∃ vs, SeqV H r vs ∧ Paired (PairV H) vs rs ∧ EndsIn ss rs ∧ Forest rs ∧ rs.length + 1 = ss.length
def RoadsBad (K : PySem.W.Frag) (H : Hp) (ss : List Str) (r : V) (i : Nat) : Prop := (NoSeq K H r ∧ i = 0) ∨ ∃ (vs : List V) (rs : List (Str × Str)) (tail : List V), SeqV H r (vs ++ tail) ∧ Paired (PairV H) vs rs ∧ EndsIn ss rs ∧ Forest rs ∧ i = rs.length ∧
  ((tail = [] ∧ rs.length + 1 ≠ ss.length) ∨ ∃ x rest, tail = x :: rest ∧ BadRoad K H ss rs x)
def HeadsOk (H : Hp) (ss : List Str) (g : V) (ns : List Int) : Prop := SeqV H g (ns.map V.int) ∧ (∀ n ∈ ns, 1 ≤ n) ∧ ns.length = ss.length
def HeadsBad (K : PySem.W.Frag) (H : Hp) (ss : List Str) (g : V) (i : Nat) : Prop := (NoSeq K H g ∧ i = 0) ∨ (∃ ns : List Int, SeqV H g (ns.map V.int) ∧ (∀ n ∈ ns, 1 ≤ n) ∧ ns.length < ss.length ∧ i = ns.length) ∨
  ∃ (ns : List Int) (x : V) (rest : List V), SeqV H g (ns.map V.int ++ x :: rest) ∧ (∀ n ∈ ns, 1 ≤ n) ∧ ns.length ≤ ss.length ∧ (ns.length = ss.length ∨ BadHead K H x) ∧ i = ns.length
/-- a Valley at x, which keeps these three lists -/
structure ValI (C : Addr) (H : Hp) (x l1 l2 l3 : Addr) (qs : List Addr) (ss : List Str) (rs : List (Str × Str)) (ns : List Int) : Prop where
  ins : ∃ dx fs, H x = some (.ins C dx fs) ∧ fs.lookup ("_houses" : Str) = some (V.ref l1) ∧ fs.lookup ("_roads" : Str) = some (V.ref l2) ∧ fs.lookup ("_heads" : Str) = some (V.ref l3) ∧ ∀ m : Str, m ≠ "_houses" → m ≠ "_roads" → m ≠ "_heads" → m ≠ "_people" → m ≠ "_places" → m ≠ "_beside" → fs.lookup m = none
  h1 : H l1 = some (.lst (ss.map V.str))
  h2 : H l2 = some (.lst (qs.map V.ref))
  pr : Paired (TupP H) qs rs
  h3 : H l3 = some (.lst (ns.map V.int))
structure VcT (K : PySem.W.Frag) (C : Addr) : Prop where
  cl : Cls K C
  n1 : NoAttr K C "_houses"
  n2 : NoAttr K C "_roads"
  n3 : NoAttr K C "_heads"
  n4 : NoAttr K C "_people"
  n5 : NoAttr K C "_places"
  n6 : NoAttr K C "_beside"
def spVI (K : PySem.W.Frag) (C CH CR CD : Addr) : Sp := fun vs H Q E => ∃ x h r g dx, vs = [.ref x, h, r, g] ∧ H x = some (.ins C dx []) ∧
  ((∃ i : Nat, HousesBad K H h i ∧ Goes CH i H E) ∨ (∃ ss, ∃ i : Nat, HousesOk H h ss ∧ RoadsBad K H ss r i ∧ Goes CR i H E) ∨ (∃ ss rs, ∃ i : Nat, HousesOk H h ss ∧ RoadsOk H ss r rs ∧ HeadsBad K H ss g i ∧ Goes CD i H E) ∨
   (∃ ss rs ns, HousesOk H h ss ∧ RoadsOk H ss r rs ∧ HeadsOk H ss g ns ∧ ∀ H' l1 l2 l3 qs, Kept x H H' → ValI C H' x l1 l2 l3 qs ss rs ns → H l1 = none → H l2 = none → H l3 = none → (∀ q ∈ qs, H q = none) → Q .non H'))
theorem scVI : FnScope ["self", "houses", "roads", "heads", "one", "other", "house", "index"] ["self", "houses", "roads", "heads"] (defScope sVI) := ⟨rfl, rfl, rfl, by decide +kernel, rfl, by decide +kernel, by decide +kernel⟩
/-- a written tuple of targets, a list or a tuple handed in -/
def gSeq (K : PySem.W.Frag) (n : Nat) (t : TGs) : TG := fun v σ H Q => ∃ a xs, v = .ref a ∧ SqA K H a xs ∧ xs.length = n ∧ t xs σ H Q
theorem pg_seq {X : Cx} {pos : Pos} {es : List Expr} {k : Nat} {t : TGs} {n : Nat} (hc : X.calm = true) (h : PGs X es t) (hn : (assignEach es X.env).length = n := by rfl) (hst : (assignEach es X.env).findIdx? (·.1) = none := by rfl) : PG X (.Tuple es k pos) (gSeq X.K n t) := by
  refine ⟨fun pins s σ H v u Q I r q => ?_⟩
  obtain ⟨a, xs, rfl, hq | hq, l, q⟩ := q
  · exact (pg_lst hc h hn hst).run pins s σ H _ u Q I r ⟨a, xs, rfl, hq, l, q⟩
  · exact (pg_tup hc h hn hst).run pins s σ H _ u Q I r ⟨a, xs, rfl, hq, l, q⟩
theorem SeqV.kept {H H' : Hp} {v : V} {xs : List V} {x C dx : Addr} {fs : List (Str × V)} (h : SeqV H v xs) (hx : H x = some (.ins C dx fs)) (k : Kept x H H') : SeqV H' v xs := by
  obtain ⟨p, rfl, h⟩ := h
  have ne : p ≠ x := fun z => by
    rw [z, hx] at h
    rcases h with h | h <;> cases h
  exact ⟨p, rfl, h.imp (k _ _ ne) (k _ _ ne)⟩
theorem PairV.kept {H H' : Hp} {vs : List V} {rs : List (Str × Str)} {x C dx : Addr} {fs : List (Str × V)} (h : Paired (PairV H) vs rs) (hx : H x = some (.ins C dx fs)) (k : Kept x H H') : Paired (PairV H') vs rs := paired_imp (fun _ _ q => SeqV.kept q hx k) h
section
variable {P : Program} {w : World} {K : PySem.W.Frag} {mg : Str → Option Value} {base : Heap} {CF C CH CR CD : Addr}
theorem ok_VI {f fN fR fD fB fG : Addr} {fd nd_ rd_ dd_ bd gd : FuncData} (F : Fun K "__init__" "Valley.__init__" sVI f fd) (B : Bl mg) (me : mg "enumerate" = none) (T : VcT K C)
    (GN : FnOk P w K mg base (L2.CX P w) 4 fN nd_ ["houses"] (spNH K CH)) (kN : PySem.W.keepIn K (.ref fN) = true) (bN : Binds K nd_ ["houses"] []) (mN : mg "_need_houses" = some (.ref fN))
    (GR : FnOk P w K mg base (L2.CX P w) 4 fR rd_ ["houses", "roads"] (spNR K CR)) (kR : PySem.W.keepIn K (.ref fR) = true) (bR : Binds K rd_ ["houses", "roads"] []) (mR : mg "_need_roads" = some (.ref fR))
    (GD : FnOk P w K mg base (L2.CX P w) 4 fD dd_ ["houses", "heads"] (spND K CD)) (kD : PySem.W.keepIn K (.ref fD) = true) (bD : Binds K dd_ ["houses", "heads"] []) (mD : mg "_need_heads" = some (.ref fD))
    (FB : Fun K "_both_ways" "_both_ways" sBW fB bd) (bB : Binds K bd ["roads"] []) (mB : mg "_both_ways" = some (.ref fB))
    (FG : Fun K "_neighbours" "_neighbours" sNB fG gd) (bG : Binds K gd ["houses", "roads"] []) (mG : mg "_neighbours" = some (.ref fG)) :
    FnOk P w K mg base (L2.CX P w) 5 f fd ["self", "houses", "roads", "heads"] (spVI K C CH CR CD) := by
  have GB := ok_BW (P := P) (w := w) (base := base) FB me
  have GG := ok_NB (P := P) (w := w) (mg := mg) (base := base) FG
  refine F.okX scVI (fun vs H Q E h => ?_) (fun cdv A outer s H vs Q E hr h => ?_)
  · obtain ⟨x, hh, r, g, dx, rfl, _⟩ := h
    rfl
  obtain ⟨x, hh, r, g, dx, rfl, hx, h⟩ := h
  have nd := scVI.nd
  have hu := hu_of hr
  have hr1 : Room 1 _ := hr.mono (by decide)
  refine ⟨_, pss_cons (by exact (ps_expr (pe_call GN hr rfl mN kN bN .nil (passes_call (takes_of rfl rfl rfl rfl) (fun _ _ _ _ h => h)) (pa_cons (pv 1) pa_nil))))
    (pss_cons (by exact (ps_expr (pe_call GR hr rfl mR kR bR .nil (passes_call (takes_of rfl rfl rfl rfl) (fun _ _ _ _ h => h)) (pa_cons (pv 1) (pa_cons (pv 2) pa_nil)))))
    (pss_cons (by exact (ps_expr (pe_call GD hr rfl mD kD bD .nil (passes_call (takes_of rfl rfl rfl rfl) (fun _ _ _ _ h => h)) (pa_cons (pv 1) (pa_cons (pv 3) pa_nil)))))
    (pss_cons (by exact (ps_fld (pv 0) (pe_callTy call_list_of rfl B.list PyProof.Rows.boot_list (pa_cons (pv 1) pa_nil)) rfl))
    (pss_cons (by exact (ps_fld (pv 0) (pe_lc (own := [("one", 4), ("other", 5)]) (g := gSeq K 2 (gCons (gName 4) (gCons (gName 5) gNil))) (tt := tYes) (te := tTup (tCons (tVar 4) (tCons (tVar 5) tNil))) rfl nd (by exact pi_seqV 2 (pv 2))
        (by exact blkOk_by (N := ["self", "houses", "roads", "heads", "one", "other", "house", "index"]) (sc := defScope sVI) (by decide +kernel)) (fun _ _ _ _ _ => by exact pg_seq rfl (pgs_cons (pg_name (i := 4) nd rfl (.inl rfl)) (pgs_cons (pg_name (i := 5) nd rfl (.inl rfl)) pgs_nil)))
        (fun _ _ _ _ _ => pts_nil) (fun _ _ _ _ _ => by exact pe_tup (pa_cons (pv 4) (pa_cons (pv 5) pa_nil)))) rfl))
    (pss_cons (by exact (ps_fld (pv 0) (pe_callTy call_list_of rfl B.list PyProof.Rows.boot_list (pa_cons (pv 3) pa_nil)) rfl))
    (pss_cons (by exact (ps_fld (pv 0) (pe_dc (own := [("house", 6), ("index", 7)]) (g := gTup K 2 (gCons (gName 7) (gCons (gName 6) gNil))) (tt := tYes) (tk := tVar 6) (tv := tOp (rIx K) (tVar 3) (tVar 7)) rfl nd (by exact pi_enumV 1 rfl me (pv 1))
        (by exact blkOk_by (N := ["self", "houses", "roads", "heads", "one", "other", "house", "index"]) (sc := defScope sVI) (by decide +kernel)) (fun _ _ _ _ _ => by exact pg_tup rfl (pgs_cons (pg_name (i := 7) nd rfl (.inl rfl)) (pgs_cons (pg_name (i := 6) nd rfl (.inl rfl)) pgs_nil)))
        (fun _ _ _ _ _ => pts_nil) (fun _ _ _ _ _ => by exact pv 6) (fun _ _ _ _ _ => by exact pe_ix ix_seq (pv 3) (pv 7) (fun _ _ => rfl))) rfl))
    (pss_cons (by exact (ps_fld (pv 0) (pe_call GB hr1 rfl mB FB.kp bB .nil pass0 (pa_cons (pe_fld (pv 0) rfl) pa_nil)) rfl))
    (pss_one (by exact (ps_fld (pv 0) (pe_call GG hr1 rfl mG FG.kp bG .nil pass0 (pa_cons (pe_fld (pv 0) rfl) (pa_cons (pe_fld (pv 0) rfl) pa_nil))) rfl)))))))))), ?_⟩
  rcases h with ⟨i, bad, go⟩ | h
  · refine ⟨_, rfl, hh, rfl, ?_⟩
    rcases bad with ⟨n, rfl⟩ | ⟨n, rfl⟩ | ⟨ss, y, rest, a1, a2, a3, a4, rfl⟩
    · exact .inl ⟨n, go⟩
    · exact .inr (.inl ⟨n, go⟩)
    · exact .inr (.inr (.inr ⟨ss, y, rest, a1, a2, a3, a4, go⟩))
  obtain ⟨ss, ⟨sh, hne, hl, good⟩, h⟩ : ∃ ss, HousesOk H hh ss ∧ ((∃ i : Nat, RoadsBad K H ss r i ∧ Goes CR i H E) ∨ (∃ rs, ∃ i : Nat, RoadsOk H ss r rs ∧ HeadsBad K H ss g i ∧ Goes CD i H E) ∨
      (∃ rs ns, RoadsOk H ss r rs ∧ HeadsOk H ss g ns ∧ ∀ H' l1 l2 l3 qs, Kept x H H' → ValI C H' x l1 l2 l3 qs ss rs ns → H l1 = none → H l2 = none → H l3 = none → (∀ q ∈ qs, H q = none) → Q .non H')) := by
    rcases h with ⟨ss, i, a, b, c⟩ | ⟨ss, rs, i, a, b, c, d⟩ | ⟨ss, rs, ns, a, b, c, d⟩
    · exact ⟨ss, a, .inl ⟨i, b, c⟩⟩
    · exact ⟨ss, a, .inr (.inl ⟨rs, i, b, c, d⟩)⟩
    · exact ⟨ss, a, .inr (.inr ⟨rs, ns, b, c, d⟩)⟩
  refine ⟨_, rfl, hh, rfl, .inr (.inr (.inl ⟨ss, sh, hne, hl, good, fun H1 e1 => ?_⟩))⟩
  rcases h with ⟨i, bad, go⟩ | h
  · refine ⟨_, rfl, _, rfl, hh, r, ss, rfl, sh.ext e1, good, hl, ?_⟩
    rcases bad with ⟨n, rfl⟩ | ⟨vs, rs, tail, a1, a2, a3, a4, rfl, a5⟩
    · exact .inl ⟨n.ext e1, go.ext e1⟩
    · refine .inr ⟨vs, rs, tail, a1.ext e1, paired_imp (fun _ _ q => SeqV.ext q e1) a2, a3, a4, ?_⟩
      rcases a5 with ⟨rfl, n⟩ | ⟨y, rest, rfl, b⟩
      · exact .inr (.inl ⟨rfl, n, go.ext e1⟩)
      · exact .inr (.inr ⟨y, rest, rfl, b.ext e1, go.ext e1⟩)
  obtain ⟨rs, ⟨vs, sr, pr, ends, forest, hrl⟩, h⟩ : ∃ rs, RoadsOk H ss r rs ∧ ((∃ i : Nat, HeadsBad K H ss g i ∧ Goes CD i H E) ∨
      (∃ ns, HeadsOk H ss g ns ∧ ∀ H' l1 l2 l3 qs, Kept x H H' → ValI C H' x l1 l2 l3 qs ss rs ns → H l1 = none → H l2 = none → H l3 = none → (∀ q ∈ qs, H q = none) → Q .non H')) := by
    rcases h with ⟨rs, i, b, c, d⟩ | ⟨rs, ns, b, c, d⟩
    · exact ⟨rs, b, .inl ⟨i, c, d⟩⟩
    · exact ⟨rs, b, .inr ⟨ns, c, d⟩⟩
  refine ⟨_, rfl, _, rfl, hh, r, ss, rfl, sh.ext e1, good, hl, .inr ⟨vs, rs, [], by rw [List.append_nil]; exact sr.ext e1, paired_imp (fun _ _ q => SeqV.ext q e1) pr, ends, forest, .inl ⟨rfl, hrl, fun H2 e2' => ?_⟩⟩⟩
  have e2 := e1.trans e2'
  rcases h with ⟨i, bad, go⟩ | ⟨ns, ⟨sg, hn1, hnl⟩, q⟩
  · refine ⟨_, rfl, _, rfl, hh, g, ss.map V.str, rfl, sh.ext e2, ?_⟩
    rcases bad with ⟨n, rfl⟩ | ⟨ns, a1, a2, a3, rfl⟩ | ⟨ns, y, rest, a1, a2, a3, a4, rfl⟩
    · exact .inl ⟨n.ext e2, go.ext e2⟩
    · exact .inr (.inr (.inl ⟨ns, a1.ext e2, a2, by rw [List.length_map]; exact a3, go.ext e2⟩))
    · exact .inr (.inr (.inr ⟨ns, y, rest, a1.ext e2, a2, by rw [List.length_map]; exact a3, by rw [List.length_map]; exact a4.imp id fun b => b.ext e2, go.ext e2⟩))
  refine ⟨_, rfl, _, rfl, hh, g, ss.map V.str, rfl, sh.ext e2, .inr (.inl ⟨ns, sg.ext e2, hn1, by rw [List.length_map]; exact hnl, fun H3 e3' => ?_⟩)⟩
  have e3 := e2.trans e3'
  have x3 := e3 _ _ hx
  have k3 : Kept x H H3 := Kept.same e3
  -- list(houses)
  obtain ⟨p1, rfl, q1⟩ := (sh.ext e3).sq (K := K)
  refine ⟨_, rfl, p1, _, rfl, q1, fun l1 hl1 => ?_⟩
  have n1 : l1 ≠ x := fun z => by rw [z, x3] at hl1; cases hl1
  have l1H : H l1 = none := e3.free hl1
  refine ⟨_, rfl, x, C, dx, [], rfl, (by rw [upd_ne n1.symm]; exact x3), T.cl, T.n1, (by decide), ?_⟩
  have k4 : Kept x H3 (upd (upd H3 l1 (.lst (ss.map V.str))) x (.ins C dx (putF "_houses" (.ref l1) []))) := (Kept.new hl1).trans Kept.upd
  have f1 : upd (upd H3 l1 (.lst (ss.map V.str))) x (.ins C dx (putF "_houses" (.ref l1) [])) l1 = some (.lst (ss.map V.str)) := by rw [upd_ne n1, upd_same]
  have x4 : upd (upd H3 l1 (.lst (ss.map V.str))) x (.ins C dx (putF "_houses" (.ref l1) [])) x = some (.ins C dx (putF "_houses" (.ref l1) [])) := upd_same
  generalize upd (upd H3 l1 (.lst (ss.map V.str))) x (.ins C dx (putF "_houses" (.ref l1) [])) = H4 at k4 f1 x4 ⊢
  have k04 := k3.trans k4
  have fr : ∀ {Hz : Hp} {l : Addr}, Kept x H Hz → Hz l = none → l ≠ x → H l = none := fun {Hz l} k n ne => by
    cases e : H l with
    | none => rfl
    | some o => rw [k _ _ ne e] at n; cases n
  -- the roads' pairs
  obtain ⟨p2, rfl, q2⟩ := sr.kept hx k04
  have sq2 : SqA K H4 p2 vs := q2.imp (fun h => SqL.of h) (fun h => SqT.of h)
  refine ⟨p2, _, rfl, sq2, fun J G wk hG l2 hl2 => ?_⟩
  have n2 : l2 ≠ x := fun z => by rw [z, x4] at hl2; cases hl2
  have lvs : vs.length = rs.length := pr.length
  refine lc_it wk (fun i Hc => Same H4 Hc ∧ ∃ qs, Hc l2 = some (.lst (qs.map V.ref)) ∧ Paired (TupP Hc) qs (rs.take i) ∧ (∀ z ∈ qs, H4 z = none ∧ z ≠ l2)) ⟨K1.Same.upd hl2, [], upd_same, .nil, fun z hz => absurd hz (by simp)⟩ (fun i Hc _ h => hG Hc fun o ho => h.1 _ _ ho) ?_ ?_
  · rintro i y Hc H' hi ⟨a1, qs, a2, a3, a4⟩ ⟨rfl, hy⟩
    rw [lvs] at hi
    obtain ⟨y', ey, py⟩ := paired_get (PairV.kept pr hx k04) hi
    have : y = y' := Option.some.inj (hy.symm.trans ey)
    subst this
    obtain ⟨py1, rfl, py2⟩ := SeqV.ext py a1
    refine ⟨py1, _, rfl, py2.imp (fun h => SqL.of h) (fun h => SqT.of h), rfl, _, _, rfl, _, _, rfl, rfl, rfl, ?_⟩
    unfold tYes
    refine iteT ?_
    refine ⟨_, rfl, _, rfl, (by show 2 ≤ sizeLine; decide), fun b hb => ?_⟩
    have bl : b ≠ l2 := fun z => by rw [z, a2] at hb; cases hb
    have lq : qs.length ≤ rs.length := by rw [a3.length, List.length_take]; omega
    have sb := K1.Same.upd (H := H') (p := b) (o := .tup [.str rs[i].1, .str rs[i].2]) hb
    refine ⟨qs.map V.ref, by rw [upd_ne bl.symm]; exact a2, by rw [List.length_map]; exact small1000 (by omega), ?_, qs ++ [b], by rw [upd_same, List.map_append]; rfl, ?_, fun z hz => ?_⟩
    · intro c o n
      rw [upd_ne (ne_of_none n hl2)]
      exact sb _ _ (a1 _ _ n)
    · have up2 : ∀ z o, z ≠ l2 → upd H' b (.tup [.str rs[i].1, .str rs[i].2]) z = some o → upd (upd H' b (.tup [.str rs[i].1, .str rs[i].2])) l2 (.lst (qs.map V.ref ++ [.ref b])) z = some o := fun z o n e => by rw [upd_ne n]; exact e
      rw [List.take_add_one, List.getElem?_eq_getElem hi]
      have pz : ∀ {as : List Addr} {bs : List (Str × Str)}, Paired (TupP H') as bs → (∀ z ∈ as, z ≠ l2) → Paired (TupP (upd (upd H' b (.tup [.str rs[i].1, .str rs[i].2])) l2 (.lst (qs.map V.ref ++ [.ref b])))) (as ++ [b]) (bs ++ [rs[i]]) := by
        intro as bs h
        induction h with
        | nil => intro _; exact .cons (up2 _ _ bl upd_same) .nil
        | cons f1 f2 ih =>
          intro nz
          exact .cons (up2 _ _ (nz _ (List.mem_cons_self ..)) (sb _ _ f1)) (ih fun z hz => nz z (List.mem_cons_of_mem _ hz))
      exact pz a3 fun z hz => (a4 z hz).2
    · rcases List.mem_append.mp hz with hz | hz
      · exact a4 z hz
      · rw [List.mem_singleton.mp hz]
        exact ⟨a1.free hb, bl⟩
  rintro H5 ⟨e5, qs, a2, a3, a4⟩
  rw [lvs, List.take_length] at a3
  have x5 := e5 _ _ x4
  refine ⟨_, rfl, x, C, dx, _, rfl, x5, T.cl, T.n2, (Nat.lt_of_le_of_lt (length_putF _ _ _) (by decide)), ?_⟩
  have k5 : Kept x H (upd H5 x (.ins C dx (putF "_roads" (.ref l2) (putF "_houses" (.ref l1) [])))) := (k04.trans (Kept.same e5)).trans Kept.upd
  have up5 : ∀ z o, z ≠ x → H5 z = some o → upd H5 x (.ins C dx (putF "_roads" (.ref l2) (putF "_houses" (.ref l1) []))) z = some o := fun z o n e => by rw [upd_ne n]; exact e
  have g1 := up5 _ _ n1 (e5 _ _ f1)
  have g2 := up5 _ _ n2 a2
  have nq : ∀ z ∈ qs, z ≠ x := fun z hz e => by rw [e] at hz; rw [(a4 x hz).1] at x4; cases x4
  have pq : ∀ {Hz : Hp}, Kept x H5 Hz → Paired (TupP Hz) qs rs := fun {Hz} k => by
    have : ∀ {as : List Addr} {bs : List (Str × Str)}, Paired (TupP H5) as bs → (∀ z ∈ as, z ≠ x) → Paired (TupP Hz) as bs := by
      intro as bs h
      induction h with
      | nil => intro _; exact .nil
      | cons f1 f2 ih => intro nz; exact .cons (k _ _ (nz _ (List.mem_cons_self ..)) f1) (ih fun z hz => nz z (List.mem_cons_of_mem _ hz))
    exact this a3 nq
  have k56 : Kept x H5 (upd H5 x (.ins C dx (putF "_roads" (.ref l2) (putF "_houses" (.ref l1) [])))) := Kept.upd
  have x6 : upd H5 x (.ins C dx (putF "_roads" (.ref l2) (putF "_houses" (.ref l1) []))) x = some (.ins C dx (putF "_roads" (.ref l2) (putF "_houses" (.ref l1) []))) := upd_same
  generalize upd H5 x (.ins C dx (putF "_roads" (.ref l2) (putF "_houses" (.ref l1) []))) = H6 at k5 g1 g2 k56 x6 ⊢
  clear up5
  -- list(heads)
  obtain ⟨p3, rfl, q3⟩ := (sg.kept hx k5).sq (K := K)
  refine ⟨_, rfl, p3, _, rfl, q3, fun l3 hl3 => ?_⟩
  have n3 : l3 ≠ x := fun z => by rw [z, x6] at hl3; cases hl3
  refine ⟨_, rfl, x, C, dx, _, rfl, (by rw [upd_ne n3.symm]; exact x6), T.cl, T.n3, (Nat.lt_of_le_of_lt (Nat.le_trans (length_putF _ _ _) (Nat.succ_le_succ (length_putF _ _ _))) (by decide)), ?_⟩
  have k67 : Kept x H6 (upd (upd H6 l3 (.lst (ns.map V.int))) x (.ins C dx (putF "_heads" (.ref l3) (putF "_roads" (.ref l2) (putF "_houses" (.ref l1) []))))) := (Kept.new hl3).trans Kept.upd
  have g3 : upd (upd H6 l3 (.lst (ns.map V.int))) x (.ins C dx (putF "_heads" (.ref l3) (putF "_roads" (.ref l2) (putF "_houses" (.ref l1) [])))) l3 = some (.lst (ns.map V.int)) := by rw [upd_ne n3, upd_same]
  have x7 : upd (upd H6 l3 (.lst (ns.map V.int))) x (.ins C dx (putF "_heads" (.ref l3) (putF "_roads" (.ref l2) (putF "_houses" (.ref l1) [])))) x = some (.ins C dx (putF "_heads" (.ref l3) (putF "_roads" (.ref l2) (putF "_houses" (.ref l1) [])))) := upd_same
  have l3H : H l3 = none := fr k5 hl3 n3
  generalize upd (upd H6 l3 (.lst (ns.map V.int))) x (.ins C dx (putF "_heads" (.ref l3) (putF "_roads" (.ref l2) (putF "_houses" (.ref l1) [])))) = H7 at k67 g3 x7 ⊢
  have k07 := k5.trans k67
  -- the people
  obtain ⟨p1', e1', q1'⟩ := sh.kept hx k07
  cases e1'
  obtain ⟨p3', e3'', q3'⟩ := sg.kept hx k07
  cases e3''
  have sq7 : SqA K H7 p1 (ss.map V.str) := q1'.imp (fun h => SqL.of h) (fun h => SqT.of h)
  refine ⟨p1, _, rfl, sq7, fun J G wk hG D hD => ?_⟩
  have nD : D ≠ x := fun z => by rw [z, x7] at hD; cases hD
  refine dc_it wk (fun i Hc => Same H7 Hc ∧ ∃ kv, Hc D = some (.dK kv) ∧ kv.length ≤ i) ⟨K1.Same.upd hD, [], upd_same, Nat.zero_le _⟩ (fun i Hc _ h => hG Hc fun o ho => h.1 _ _ ho) ?_ ?_
  · rintro i y Hc H' hi ⟨b1, kv, b2, b3⟩ ⟨Tp, x1, x2, rfl, hT, rfl, ex1, ex2⟩
    rw [List.length_map] at hi
    obtain rfl : x1 = .int (i : Nat) := (Option.some.inj ex1).symm
    have ex2 : (ss.map V.str)[i]? = some x2 := ex2
    rw [List.getElem?_map, List.getElem?_eq_getElem hi] at ex2
    obtain rfl : x2 = .str ss[i] := (Option.some.inj ex2).symm
    have hT2 := K1.Same.upd (H := Hc) (p := Tp) (o := .tup [.int (i : Nat), .str ss[i]]) hT
    refine ⟨Tp, _, rfl, SqT.of upd_same, rfl, _, _, rfl, _, _, rfl, rfl, rfl, ?_⟩
    unfold tYes
    refine iteT ?_
    have hi2 : i < ns.length := by omega
    have sv : SeqV (upd Hc Tp (.tup [.int (i : Nat), .str ss[i]])) (.ref p3) (ns.map V.int) := SeqV.ext (SeqV.ext ⟨p3, rfl, q3'⟩ b1) hT2
    refine ⟨_, rfl, _, rfl, _, rfl, ixA sv (atI_nat (j := i) (v := .int ns[i]) (by rw [List.getElem?_map, List.getElem?_eq_getElem hi2]; rfl)) ?_⟩
    refine ⟨kv, .inr ss[i], rfl, hT2 _ _ b2, small1000 (by omega), fun c o n => ?_, _, upd_same, Nat.le_trans putK_le (by omega)⟩
    rw [upd_ne (ne_of_none n hD)]
    exact hT2 _ _ (b1 _ _ n)
  rintro H8 ⟨e8, _⟩
  have x8 := e8 _ _ x7
  refine ⟨_, rfl, x, C, dx, _, rfl, x8, T.cl, T.n4, (Nat.lt_of_le_of_lt (Nat.le_trans (length_putF _ _ _) (Nat.succ_le_succ (Nat.le_trans (length_putF _ _ _) (Nat.succ_le_succ (length_putF _ _ _))))) (by decide)), ?_⟩
  have k79 : Kept x H7 (upd H8 x (.ins C dx (putF "_people" (.ref D) (putF "_heads" (.ref l3) (putF "_roads" (.ref l2) (putF "_houses" (.ref l1) [])))))) := (Kept.same e8).trans Kept.upd
  have x9 : upd H8 x (.ins C dx (putF "_people" (.ref D) (putF "_heads" (.ref l3) (putF "_roads" (.ref l2) (putF "_houses" (.ref l1) []))))) x = some (.ins C dx (putF "_people" (.ref D) (putF "_heads" (.ref l3) (putF "_roads" (.ref l2) (putF "_houses" (.ref l1) []))))) := upd_same
  generalize upd H8 x (.ins C dx (putF "_people" (.ref D) (putF "_heads" (.ref l3) (putF "_roads" (.ref l2) (putF "_houses" (.ref l1) []))))) = H9 at k79 x9 ⊢
  have k69 := k67.trans k79
  have k59 := k56.trans k69
  have o2 := k69 _ _ n2 g2
  have p9 := pq k59
  have lk2 : (putF "_people" (V.ref D) (putF "_heads" (.ref l3) (putF "_roads" (.ref l2) (putF "_houses" (.ref l1) [])))).lookup ("_roads" : Str) = some (.ref l2) := by
    rw [lookup_putF, if_neg (by decide +kernel), lookup_putF, if_neg (by decide +kernel), lookup_putF, if_pos rfl]
  refine ⟨_, rfl, x, C, dx, _, _, rfl, x9, T.cl, T.n2, lk2, l2, qs, rs, rfl, o2, p9, by omega, fun r1 H10 e10 => ?_⟩
  have x10 := e10 _ _ x9
  refine ⟨_, rfl, x, C, dx, _, rfl, x10, T.cl, T.n5, (Nat.lt_of_le_of_lt (Nat.le_trans (length_putF _ _ _) (Nat.succ_le_succ (Nat.le_trans (length_putF _ _ _) (Nat.succ_le_succ (Nat.le_trans (length_putF _ _ _) (Nat.succ_le_succ (length_putF _ _ _))))))) (by decide)), ?_⟩
  have k911 : Kept x H9 (upd H10 x (.ins C dx (putF "_places" (.ref r1) (putF "_people" (.ref D) (putF "_heads" (.ref l3) (putF "_roads" (.ref l2) (putF "_houses" (.ref l1) []))))))) := (Kept.same e10).trans Kept.upd
  have x11 : upd H10 x (.ins C dx (putF "_places" (.ref r1) (putF "_people" (.ref D) (putF "_heads" (.ref l3) (putF "_roads" (.ref l2) (putF "_houses" (.ref l1) [])))))) x = some (.ins C dx (putF "_places" (.ref r1) (putF "_people" (.ref D) (putF "_heads" (.ref l3) (putF "_roads" (.ref l2) (putF "_houses" (.ref l1) [])))))) := upd_same
  generalize upd H10 x (.ins C dx (putF "_places" (.ref r1) (putF "_people" (.ref D) (putF "_heads" (.ref l3) (putF "_roads" (.ref l2) (putF "_houses" (.ref l1) [])))))) = H11 at k911 x11 ⊢
  have k6_11 := k69.trans k911
  have k5_11 := k56.trans k6_11
  have lk1 : (putF "_places" (V.ref r1) (putF "_people" (V.ref D) (putF "_heads" (.ref l3) (putF "_roads" (.ref l2) (putF "_houses" (.ref l1) []))))).lookup ("_houses" : Str) = some (.ref l1) := by
    rw [lookup_putF, if_neg (by decide +kernel), lookup_putF, if_neg (by decide +kernel), lookup_putF, if_neg (by decide +kernel), lookup_putF, if_neg (by decide +kernel), lookup_putF, if_pos rfl]
  have lk2' : (putF "_places" (V.ref r1) (putF "_people" (V.ref D) (putF "_heads" (.ref l3) (putF "_roads" (.ref l2) (putF "_houses" (.ref l1) []))))).lookup ("_roads" : Str) = some (.ref l2) := by
    rw [lookup_putF, if_neg (by decide +kernel)]
    exact lk2
  refine ⟨_, rfl, x, C, dx, _, _, rfl, x11, T.cl, T.n1, lk1, _, rfl, x, C, dx, _, _, rfl, x11, T.cl, T.n2, lk2', l1, l2, ss, qs, rs, rfl, k6_11 _ _ n1 g1, hl, good.1, k6_11 _ _ n2 g2, pq k5_11, ends, by omega, fun r2 H12 e12 => ?_⟩
  have x12 := e12 _ _ x11
  refine ⟨_, rfl, x, C, dx, _, rfl, x12, T.cl, T.n6, (Nat.lt_of_le_of_lt (Nat.le_trans (length_putF _ _ _) (Nat.succ_le_succ (Nat.le_trans (length_putF _ _ _) (Nat.succ_le_succ (Nat.le_trans (length_putF _ _ _) (Nat.succ_le_succ (Nat.le_trans (length_putF _ _ _) (Nat.succ_le_succ (length_putF _ _ _))))))))) (by decide)), ?_⟩
  have k11_13 : Kept x H11 (upd H12 x (.ins C dx (putF "_beside" (.ref r2) (putF "_places" (.ref r1) (putF "_people" (.ref D) (putF "_heads" (.ref l3) (putF "_roads" (.ref l2) (putF "_houses" (.ref l1) [])))))))) := (Kept.same e12).trans Kept.upd
  have k6_13 := k6_11.trans k11_13
  refine q _ l1 l2 l3 qs (k5.trans k6_13) ⟨⟨dx, _, upd_same, ?_, ?_, ?_, fun m m1 m2 m3 m4 m5 m6 => ?_⟩, k6_13 _ _ n1 g1, k6_13 _ _ n2 g2, pq (k56.trans k6_13), (k79.trans (k911.trans k11_13)) _ _ n3 g3⟩ l1H (fr k04 hl2 n2) l3H (fun z hz => fr k04 (a4 z hz).1 (nq z hz))
  · rw [lookup_putF, if_neg (by decide +kernel)]
    exact lk1
  · rw [lookup_putF, if_neg (by decide +kernel)]
    exact lk2'
  · rw [lookup_putF, if_neg (by decide +kernel), lookup_putF, if_neg (by decide +kernel), lookup_putF, if_neg (by decide +kernel), lookup_putF, if_pos rfl]
  · rw [lookup_putF, if_neg m6, lookup_putF, if_neg m5, lookup_putF, if_neg m4, lookup_putF, if_neg m3, lookup_putF, if_neg m2, lookup_putF, if_neg m1]
    rfl
end
end K1
end
-- NInit
section
set_option Elab.async false
set_option linter.all false
set_option maxRecDepth 100000
set_option maxHeartbeats 4000000
namespace K1
open PySem PySem.Spec PyProof.Rows L2
/-- the dict of people, item by item -/
def peo (ss : List Str) (ns : List Int) : List (Key × V) := (ss.zip ns).map fun p => (Sum.inr p.1, V.int p.2)
theorem peo_none {s : Str} : ∀ {ss : List Str} {ns : List Int}, s ∉ ss → valV (peo ss ns) (.inr s) = none
  | [], _, _ => rfl
  | _ :: _, [], _ => rfl
  | a :: as, b :: bs, h => by
    have e : ¬ (Sum.inr a : Key) = .inr s := fun z => h (by rw [Sum.inr.inj z]; exact List.mem_cons_self ..)
    show valV ((Sum.inr a, V.int b) :: peo as bs) _ = none
    rw [valV_neg e]
    exact peo_none fun z => h (List.mem_cons_of_mem _ z)
theorem peo_some {s : Str} : ∀ {ss : List Str} {ns : List Int}, ss.length = ns.length → s ∈ ss → ∃ n, valV (peo ss ns) (.inr s) = some (.int n)
  | [], _, _, h => absurd h (by simp)
  | _ :: _, [], l, _ => by cases l
  | a :: as, b :: bs, l, h => by
    by_cases e : (Sum.inr a : Key) = .inr s
    · exact ⟨b, valV_pos (p := (Sum.inr a, V.int b)) e⟩
    · obtain ⟨n, h'⟩ := peo_some (s := s) (ss := as) (ns := bs) (Nat.succ.inj l) ((List.mem_cons.mp h).resolve_left fun z => e (by rw [z]))
      exact ⟨n, (valV_neg (p := (Sum.inr a, V.int b)) e).trans h'⟩
theorem peo_in {s : Str} {ss : List Str} {ns : List Int} (l : ss.length = ns.length) : (valV (peo ss ns) (.inr s)).isSome = decide (s ∈ ss) := by
  by_cases h : s ∈ ss
  · obtain ⟨n, e⟩ := peo_some l h
    rw [e, decide_eq_true h]
    rfl
  · rw [peo_none h, decide_eq_false h]
    rfl
theorem peo_succ {ss : List Str} {ns : List Int} {i : Nat} (hi : i < ss.length) (hj : i < ns.length) : peo (ss.take (i + 1)) ns = peo (ss.take i) ns ++ [(Sum.inr ss[i], V.int ns[i])] := by
  unfold peo
  have e : (ss.take (i + 1)).zip ns = (ss.take i).zip ns ++ [(ss[i], ns[i])] := by
    have a : ∀ (m : Nat) (ss : List Str) (ns : List Int), (ss.take m).zip ns = (ss.zip ns).take m := by
      intro m
      induction m with
      | zero => intro ss ns; simp
      | succ m ih =>
        intro ss ns
        cases ss with
        | nil => simp
        | cons a as => cases ns with
          | nil => simp
          | cons b bs => simp [ih as bs]
    rw [a, a, List.take_succ, List.getElem?_eq_getElem (by rw [List.length_zip]; omega)]
    simp
  rw [e, List.map_append]
  rfl
/-- a Valley: its lists and its dicts -/
structure ValS (C : Addr) (H : Hp) (x l1 l2 l3 d1 d2 d3 : Addr) (qs : List Addr) (bs : Str → Addr) (ss : List Str) (rs : List (Str × Str)) (ns : List Int) : Prop where
  ins : ∃ dx fs, H x = some (.ins C dx fs) ∧ fs.lookup ("_houses" : Str) = some (V.ref l1) ∧ fs.lookup ("_roads" : Str) = some (V.ref l2) ∧ fs.lookup ("_heads" : Str) = some (V.ref l3) ∧ fs.lookup ("_people" : Str) = some (V.ref d1) ∧ fs.lookup ("_places" : Str) = some (V.ref d2) ∧ fs.lookup ("_beside" : Str) = some (V.ref d3) ∧
    ∀ m : Str, m ≠ "_houses" → m ≠ "_roads" → m ≠ "_heads" → m ≠ "_people" → m ≠ "_places" → m ≠ "_beside" → fs.lookup m = none
  h1 : H l1 = some (.lst (ss.map V.str))
  h2 : H l2 = some (.lst (qs.map V.ref))
  pr : Paired (TupP H) qs rs
  h3 : H l3 = some (.lst (ns.map V.int))
  p1 : H d1 = some (.dK (peo ss ns))
  p2 : ∃ kv, H d2 = some (.dT kv) ∧ PlacesAt rs kv ∧ kv.length ≤ 2 * rs.length
  p3 : ∃ kv, H d3 = some (.dK kv) ∧ kv.length ≤ ss.length ∧ ∀ s ∈ ss, valV kv (.inr s) = some (.ref (bs s))
  nb : ∀ s ∈ ss, H (bs s) = some (.lst ((nbs ss rs s).map V.str))
theorem ValS.toI {C : Addr} {H : Hp} {x l1 l2 l3 d1 d2 d3 : Addr} {qs : List Addr} {bs : Str → Addr} {ss : List Str} {rs : List (Str × Str)} {ns : List Int} (v : ValS C H x l1 l2 l3 d1 d2 d3 qs bs ss rs ns) : ValI C H x l1 l2 l3 qs ss rs ns := by
  obtain ⟨dx, fs, a, b1, b2, b3, _, _, _, c⟩ := v.ins
  exact ⟨⟨dx, fs, a, b1, b2, b3, c⟩, v.h1, v.h2, v.pr, v.h3⟩
/-- all its objects are new -/
def NewV (H : Hp) (l1 l2 l3 d1 d2 d3 : Addr) (qs : List Addr) (bs : Str → Addr) (ss : List Str) : Prop := H l1 = none ∧ H l2 = none ∧ H l3 = none ∧ H d1 = none ∧ H d2 = none ∧ H d3 = none ∧ (∀ q ∈ qs, H q = none) ∧ ∀ s ∈ ss, H (bs s) = none
/-- a Valley's __init__, when all is as it should be -/
def spVS (K : PySem.W.Frag) (C : Addr) : Sp := fun vs H Q E => ∃ x h r g dx ss rs ns, vs = [.ref x, h, r, g] ∧ H x = some (.ins C dx []) ∧ HousesOk H h ss ∧ RoadsOk H ss r rs ∧ HeadsOk H ss g ns ∧
  ∀ H' l1 l2 l3 d1 d2 d3 qs bs, Kept x H H' → ValS C H' x l1 l2 l3 d1 d2 d3 qs bs ss rs ns → NewV H l1 l2 l3 d1 d2 d3 qs bs ss → Q .non H'
theorem choose_at {ss : List Str} {R : Str → Addr → Prop} (h : ∀ s ∈ ss, ∃ d, R s d) : ∃ f : Str → Addr, ∀ s ∈ ss, R s (f s) := by
  classical
  refine ⟨fun s => if h' : s ∈ ss then (h s h').choose else 0, fun s hs => ?_⟩
  simp only [dif_pos hs]
  exact (h s hs).choose_spec
section
variable {P : Program} {w : World} {K : PySem.W.Frag} {mg : Str → Option Value} {base : Heap} {CF C CH CR CD : Addr}
theorem ok_VS {f fN fR fD fB fG : Addr} {fd nd_ rd_ dd_ bd gd : FuncData} (F : Fun K "__init__" "Valley.__init__" sVI f fd) (B : Bl mg) (me : mg "enumerate" = none) (T : VcT K C)
    (GN : FnOk P w K mg base (L2.CX P w) 4 fN nd_ ["houses"] (spNH K CH)) (kN : PySem.W.keepIn K (.ref fN) = true) (bN : Binds K nd_ ["houses"] []) (mN : mg "_need_houses" = some (.ref fN))
    (GR : FnOk P w K mg base (L2.CX P w) 4 fR rd_ ["houses", "roads"] (spNR K CR)) (kR : PySem.W.keepIn K (.ref fR) = true) (bR : Binds K rd_ ["houses", "roads"] []) (mR : mg "_need_roads" = some (.ref fR))
    (GD : FnOk P w K mg base (L2.CX P w) 4 fD dd_ ["houses", "heads"] (spND K CD)) (kD : PySem.W.keepIn K (.ref fD) = true) (bD : Binds K dd_ ["houses", "heads"] []) (mD : mg "_need_heads" = some (.ref fD))
    (FB : Fun K "_both_ways" "_both_ways" sBW fB bd) (bB : Binds K bd ["roads"] []) (mB : mg "_both_ways" = some (.ref fB))
    (FG : Fun K "_neighbours" "_neighbours" sNB fG gd) (bG : Binds K gd ["houses", "roads"] []) (mG : mg "_neighbours" = some (.ref fG)) :
    FnOk P w K mg base (L2.CX P w) 5 f fd ["self", "houses", "roads", "heads"] (spVS K C) := by
  have GB := ok_BW2 (P := P) (w := w) (base := base) FB me
  have GG := ok_NB2 (P := P) (w := w) (mg := mg) (base := base) FG
  refine F.okX scVI (fun vs H Q E h => ?_) (fun cdv A outer s H vs Q E hr h => ?_)
  · obtain ⟨x, hh, r, g, dx, ss, rs, ns, rfl, _⟩ := h
    rfl
  obtain ⟨x, hh, r, g, dx, ss, rs, ns, rfl, hx, ⟨sh, hne, hl, good⟩, ⟨vs, sr, pr, ends, forest, hrl⟩, ⟨sg, hn1, hnl⟩, q⟩ := h
  have nd := scVI.nd
  have hu := hu_of hr
  have hr1 : Room 1 _ := hr.mono (by decide)
  refine ⟨_, pss_cons (by exact (ps_expr (pe_call GN hr rfl mN kN bN .nil (passes_call (takes_of rfl rfl rfl rfl) (fun _ _ _ _ h => h)) (pa_cons (pv 1) pa_nil))))
    (pss_cons (by exact (ps_expr (pe_call GR hr rfl mR kR bR .nil (passes_call (takes_of rfl rfl rfl rfl) (fun _ _ _ _ h => h)) (pa_cons (pv 1) (pa_cons (pv 2) pa_nil)))))
    (pss_cons (by exact (ps_expr (pe_call GD hr rfl mD kD bD .nil (passes_call (takes_of rfl rfl rfl rfl) (fun _ _ _ _ h => h)) (pa_cons (pv 1) (pa_cons (pv 3) pa_nil)))))
    (pss_cons (by exact (ps_fld (pv 0) (pe_callTy call_list_of rfl B.list PyProof.Rows.boot_list (pa_cons (pv 1) pa_nil)) rfl))
    (pss_cons (by exact (ps_fld (pv 0) (pe_lc (own := [("one", 4), ("other", 5)]) (g := gSeq K 2 (gCons (gName 4) (gCons (gName 5) gNil))) (tt := tYes) (te := tTup (tCons (tVar 4) (tCons (tVar 5) tNil))) rfl nd (by exact pi_seqV 2 (pv 2))
        (by exact blkOk_by (N := ["self", "houses", "roads", "heads", "one", "other", "house", "index"]) (sc := defScope sVI) (by decide +kernel)) (fun _ _ _ _ _ => by exact pg_seq rfl (pgs_cons (pg_name (i := 4) nd rfl (.inl rfl)) (pgs_cons (pg_name (i := 5) nd rfl (.inl rfl)) pgs_nil)))
        (fun _ _ _ _ _ => pts_nil) (fun _ _ _ _ _ => by exact pe_tup (pa_cons (pv 4) (pa_cons (pv 5) pa_nil)))) rfl))
    (pss_cons (by exact (ps_fld (pv 0) (pe_callTy call_list_of rfl B.list PyProof.Rows.boot_list (pa_cons (pv 3) pa_nil)) rfl))
    (pss_cons (by exact (ps_fld (pv 0) (pe_dc (own := [("house", 6), ("index", 7)]) (g := gTup K 2 (gCons (gName 7) (gCons (gName 6) gNil))) (tt := tYes) (tk := tVar 6) (tv := tOp (rIx K) (tVar 3) (tVar 7)) rfl nd (by exact pi_enumV 1 rfl me (pv 1))
        (by exact blkOk_by (N := ["self", "houses", "roads", "heads", "one", "other", "house", "index"]) (sc := defScope sVI) (by decide +kernel)) (fun _ _ _ _ _ => by exact pg_tup rfl (pgs_cons (pg_name (i := 7) nd rfl (.inl rfl)) (pgs_cons (pg_name (i := 6) nd rfl (.inl rfl)) pgs_nil)))
        (fun _ _ _ _ _ => pts_nil) (fun _ _ _ _ _ => by exact pv 6) (fun _ _ _ _ _ => by exact pe_ix ix_seq (pv 3) (pv 7) (fun _ _ => rfl))) rfl))
    (pss_cons (by exact (ps_fld (pv 0) (pe_call GB hr1 rfl mB FB.kp bB .nil pass0 (pa_cons (pe_fld (pv 0) rfl) pa_nil)) rfl))
    (pss_one (by exact (ps_fld (pv 0) (pe_call GG hr1 rfl mG FG.kp bG .nil pass0 (pa_cons (pe_fld (pv 0) rfl) (pa_cons (pe_fld (pv 0) rfl) pa_nil))) rfl)))))))))), ?_⟩
  refine ⟨_, rfl, hh, rfl, .inr (.inr (.inl ⟨ss, sh, hne, hl, good, fun H1 e1 => ?_⟩))⟩
  refine ⟨_, rfl, _, rfl, hh, r, ss, rfl, sh.ext e1, good, hl, .inr ⟨vs, rs, [], by rw [List.append_nil]; exact sr.ext e1, paired_imp (fun _ _ q => SeqV.ext q e1) pr, ends, forest, .inl ⟨rfl, hrl, fun H2 e2' => ?_⟩⟩⟩
  have e2 := e1.trans e2'
  refine ⟨_, rfl, _, rfl, hh, g, ss.map V.str, rfl, sh.ext e2, .inr (.inl ⟨ns, sg.ext e2, hn1, by rw [List.length_map]; exact hnl, fun H3 e3' => ?_⟩)⟩
  have e3 := e2.trans e3'
  have x3 := e3 _ _ hx
  have k3 : Kept x H H3 := Kept.same e3
  -- list(houses)
  obtain ⟨p1, rfl, q1⟩ := (sh.ext e3).sq (K := K)
  refine ⟨_, rfl, p1, _, rfl, q1, fun l1 hl1 => ?_⟩
  have n1 : l1 ≠ x := fun z => by rw [z, x3] at hl1; cases hl1
  have l1H : H l1 = none := e3.free hl1
  refine ⟨_, rfl, x, C, dx, [], rfl, (by rw [upd_ne n1.symm]; exact x3), T.cl, T.n1, (by decide), ?_⟩
  have k4 : Kept x H3 (upd (upd H3 l1 (.lst (ss.map V.str))) x (.ins C dx (putF "_houses" (.ref l1) []))) := (Kept.new hl1).trans Kept.upd
  have f1 : upd (upd H3 l1 (.lst (ss.map V.str))) x (.ins C dx (putF "_houses" (.ref l1) [])) l1 = some (.lst (ss.map V.str)) := by rw [upd_ne n1, upd_same]
  have x4 : upd (upd H3 l1 (.lst (ss.map V.str))) x (.ins C dx (putF "_houses" (.ref l1) [])) x = some (.ins C dx (putF "_houses" (.ref l1) [])) := upd_same
  generalize upd (upd H3 l1 (.lst (ss.map V.str))) x (.ins C dx (putF "_houses" (.ref l1) [])) = H4 at k4 f1 x4 ⊢
  have k04 := k3.trans k4
  have fr : ∀ {Hz : Hp} {l : Addr}, Kept x H Hz → Hz l = none → l ≠ x → H l = none := fun {Hz l} k n ne => by
    cases e : H l with
    | none => rfl
    | some o => rw [k _ _ ne e] at n; cases n
  -- the roads' pairs
  obtain ⟨p2, rfl, q2⟩ := sr.kept hx k04
  have sq2 : SqA K H4 p2 vs := q2.imp (fun h => SqL.of h) (fun h => SqT.of h)
  refine ⟨p2, _, rfl, sq2, fun J G wk hG l2 hl2 => ?_⟩
  have n2 : l2 ≠ x := fun z => by rw [z, x4] at hl2; cases hl2
  have lvs : vs.length = rs.length := pr.length
  refine lc_it wk (fun i Hc => Same H4 Hc ∧ ∃ qs, Hc l2 = some (.lst (qs.map V.ref)) ∧ Paired (TupP Hc) qs (rs.take i) ∧ (∀ z ∈ qs, H4 z = none ∧ z ≠ l2)) ⟨K1.Same.upd hl2, [], upd_same, .nil, fun z hz => absurd hz (by simp)⟩ (fun i Hc _ h => hG Hc fun o ho => h.1 _ _ ho) ?_ ?_
  · rintro i y Hc H' hi ⟨a1, qs, a2, a3, a4⟩ ⟨rfl, hy⟩
    rw [lvs] at hi
    obtain ⟨y', ey, py⟩ := paired_get (PairV.kept pr hx k04) hi
    have : y = y' := Option.some.inj (hy.symm.trans ey)
    subst this
    obtain ⟨py1, rfl, py2⟩ := SeqV.ext py a1
    refine ⟨py1, _, rfl, py2.imp (fun h => SqL.of h) (fun h => SqT.of h), rfl, _, _, rfl, _, _, rfl, rfl, rfl, ?_⟩
    unfold tYes
    refine iteT ?_
    refine ⟨_, rfl, _, rfl, (by show 2 ≤ sizeLine; decide), fun b hb => ?_⟩
    have bl : b ≠ l2 := fun z => by rw [z, a2] at hb; cases hb
    have lq : qs.length ≤ rs.length := by rw [a3.length, List.length_take]; omega
    have sb := K1.Same.upd (H := H') (p := b) (o := .tup [.str rs[i].1, .str rs[i].2]) hb
    refine ⟨qs.map V.ref, by rw [upd_ne bl.symm]; exact a2, by rw [List.length_map]; exact small1000 (by omega), ?_, qs ++ [b], by rw [upd_same, List.map_append]; rfl, ?_, fun z hz => ?_⟩
    · intro c o n
      rw [upd_ne (ne_of_none n hl2)]
      exact sb _ _ (a1 _ _ n)
    · have up2 : ∀ z o, z ≠ l2 → upd H' b (.tup [.str rs[i].1, .str rs[i].2]) z = some o → upd (upd H' b (.tup [.str rs[i].1, .str rs[i].2])) l2 (.lst (qs.map V.ref ++ [.ref b])) z = some o := fun z o n e => by rw [upd_ne n]; exact e
      rw [List.take_add_one, List.getElem?_eq_getElem hi]
      have pz : ∀ {as : List Addr} {bs : List (Str × Str)}, Paired (TupP H') as bs → (∀ z ∈ as, z ≠ l2) → Paired (TupP (upd (upd H' b (.tup [.str rs[i].1, .str rs[i].2])) l2 (.lst (qs.map V.ref ++ [.ref b])))) (as ++ [b]) (bs ++ [rs[i]]) := by
        intro as bs h
        induction h with
        | nil => intro _; exact .cons (up2 _ _ bl upd_same) .nil
        | cons f1 f2 ih =>
          intro nz
          exact .cons (up2 _ _ (nz _ (List.mem_cons_self ..)) (sb _ _ f1)) (ih fun z hz => nz z (List.mem_cons_of_mem _ hz))
      exact pz a3 fun z hz => (a4 z hz).2
    · rcases List.mem_append.mp hz with hz | hz
      · exact a4 z hz
      · rw [List.mem_singleton.mp hz]
        exact ⟨a1.free hb, bl⟩
  rintro H5 ⟨e5, qs, a2, a3, a4⟩
  rw [lvs, List.take_length] at a3
  have x5 := e5 _ _ x4
  refine ⟨_, rfl, x, C, dx, _, rfl, x5, T.cl, T.n2, (Nat.lt_of_le_of_lt (length_putF _ _ _) (by decide)), ?_⟩
  have k5 : Kept x H (upd H5 x (.ins C dx (putF "_roads" (.ref l2) (putF "_houses" (.ref l1) [])))) := (k04.trans (Kept.same e5)).trans Kept.upd
  have up5 : ∀ z o, z ≠ x → H5 z = some o → upd H5 x (.ins C dx (putF "_roads" (.ref l2) (putF "_houses" (.ref l1) []))) z = some o := fun z o n e => by rw [upd_ne n]; exact e
  have g1 := up5 _ _ n1 (e5 _ _ f1)
  have g2 := up5 _ _ n2 a2
  have nq : ∀ z ∈ qs, z ≠ x := fun z hz e => by rw [e] at hz; rw [(a4 x hz).1] at x4; cases x4
  have pq : ∀ {Hz : Hp}, Kept x H5 Hz → Paired (TupP Hz) qs rs := fun {Hz} k => by
    have : ∀ {as : List Addr} {bs : List (Str × Str)}, Paired (TupP H5) as bs → (∀ z ∈ as, z ≠ x) → Paired (TupP Hz) as bs := by
      intro as bs h
      induction h with
      | nil => intro _; exact .nil
      | cons f1 f2 ih => intro nz; exact .cons (k _ _ (nz _ (List.mem_cons_self ..)) f1) (ih fun z hz => nz z (List.mem_cons_of_mem _ hz))
    exact this a3 nq
  have k56 : Kept x H5 (upd H5 x (.ins C dx (putF "_roads" (.ref l2) (putF "_houses" (.ref l1) [])))) := Kept.upd
  have x6 : upd H5 x (.ins C dx (putF "_roads" (.ref l2) (putF "_houses" (.ref l1) []))) x = some (.ins C dx (putF "_roads" (.ref l2) (putF "_houses" (.ref l1) []))) := upd_same
  generalize upd H5 x (.ins C dx (putF "_roads" (.ref l2) (putF "_houses" (.ref l1) []))) = H6 at k5 g1 g2 k56 x6 ⊢
  clear up5
  -- list(heads)
  obtain ⟨p3, rfl, q3⟩ := (sg.kept hx k5).sq (K := K)
  refine ⟨_, rfl, p3, _, rfl, q3, fun l3 hl3 => ?_⟩
  have n3 : l3 ≠ x := fun z => by rw [z, x6] at hl3; cases hl3
  refine ⟨_, rfl, x, C, dx, _, rfl, (by rw [upd_ne n3.symm]; exact x6), T.cl, T.n3, (Nat.lt_of_le_of_lt (Nat.le_trans (length_putF _ _ _) (Nat.succ_le_succ (length_putF _ _ _))) (by decide)), ?_⟩
  have k67 : Kept x H6 (upd (upd H6 l3 (.lst (ns.map V.int))) x (.ins C dx (putF "_heads" (.ref l3) (putF "_roads" (.ref l2) (putF "_houses" (.ref l1) []))))) := (Kept.new hl3).trans Kept.upd
  have g3 : upd (upd H6 l3 (.lst (ns.map V.int))) x (.ins C dx (putF "_heads" (.ref l3) (putF "_roads" (.ref l2) (putF "_houses" (.ref l1) [])))) l3 = some (.lst (ns.map V.int)) := by rw [upd_ne n3, upd_same]
  have x7 : upd (upd H6 l3 (.lst (ns.map V.int))) x (.ins C dx (putF "_heads" (.ref l3) (putF "_roads" (.ref l2) (putF "_houses" (.ref l1) [])))) x = some (.ins C dx (putF "_heads" (.ref l3) (putF "_roads" (.ref l2) (putF "_houses" (.ref l1) [])))) := upd_same
  have l3H : H l3 = none := fr k5 hl3 n3
  generalize upd (upd H6 l3 (.lst (ns.map V.int))) x (.ins C dx (putF "_heads" (.ref l3) (putF "_roads" (.ref l2) (putF "_houses" (.ref l1) [])))) = H7 at k67 g3 x7 ⊢
  have k07 := k5.trans k67
  -- the people
  obtain ⟨p1', e1', q1'⟩ := sh.kept hx k07
  cases e1'
  obtain ⟨p3', e3'', q3'⟩ := sg.kept hx k07
  cases e3''
  have sq7 : SqA K H7 p1 (ss.map V.str) := q1'.imp (fun h => SqL.of h) (fun h => SqT.of h)
  refine ⟨p1, _, rfl, sq7, fun J G wk hG D hD => ?_⟩
  have nD : D ≠ x := fun z => by rw [z, x7] at hD; cases hD
  refine dc_it wk (fun i Hc => Same H7 Hc ∧ Hc D = some (.dK (peo (ss.take i) ns))) ⟨K1.Same.upd hD, upd_same⟩ (fun i Hc _ h => hG Hc fun o ho => h.1 _ _ ho) ?_ ?_
  · rintro i y Hc H' hi ⟨b1, b2⟩ ⟨Tp, x1, x2, rfl, hT, rfl, ex1, ex2⟩
    rw [List.length_map] at hi
    obtain rfl : x1 = .int (i : Nat) := (Option.some.inj ex1).symm
    have ex2 : (ss.map V.str)[i]? = some x2 := ex2
    rw [List.getElem?_map, List.getElem?_eq_getElem hi] at ex2
    obtain rfl : x2 = .str ss[i] := (Option.some.inj ex2).symm
    have hT2 := K1.Same.upd (H := Hc) (p := Tp) (o := .tup [.int (i : Nat), .str ss[i]]) hT
    refine ⟨Tp, _, rfl, SqT.of upd_same, rfl, _, _, rfl, _, _, rfl, rfl, rfl, ?_⟩
    unfold tYes
    refine iteT ?_
    have hi2 : i < ns.length := by omega
    have sv : SeqV (upd Hc Tp (.tup [.int (i : Nat), .str ss[i]])) (.ref p3) (ns.map V.int) := SeqV.ext (SeqV.ext ⟨p3, rfl, q3'⟩ b1) hT2
    refine ⟨_, rfl, _, rfl, _, rfl, ixA sv (atI_nat (j := i) (v := .int ns[i]) (by rw [List.getElem?_map, List.getElem?_eq_getElem hi2]; rfl)) ?_⟩
    have pl : (peo (ss.take i) ns).length ≤ 1000 := by
      unfold peo
      rw [List.length_map, List.length_zip, List.length_take]
      omega
    refine ⟨_, .inr ss[i], rfl, hT2 _ _ b2, small1000 pl, fun c o n => ?_, ?_⟩
    · rw [upd_ne (ne_of_none n hD)]
      exact hT2 _ _ (b1 _ _ n)
    · rw [upd_same, putK_new _ (peo_none fun z => nodup_take_not good.1 hi z), peo_succ hi hi2]
  rintro H8 ⟨e8, pe8⟩
  rw [List.length_map, List.take_length] at pe8
  have x8 := e8 _ _ x7
  refine ⟨_, rfl, x, C, dx, _, rfl, x8, T.cl, T.n4, (Nat.lt_of_le_of_lt (Nat.le_trans (length_putF _ _ _) (Nat.succ_le_succ (Nat.le_trans (length_putF _ _ _) (Nat.succ_le_succ (length_putF _ _ _))))) (by decide)), ?_⟩
  have k79 : Kept x H7 (upd H8 x (.ins C dx (putF "_people" (.ref D) (putF "_heads" (.ref l3) (putF "_roads" (.ref l2) (putF "_houses" (.ref l1) [])))))) := (Kept.same e8).trans Kept.upd
  have x9 : upd H8 x (.ins C dx (putF "_people" (.ref D) (putF "_heads" (.ref l3) (putF "_roads" (.ref l2) (putF "_houses" (.ref l1) []))))) x = some (.ins C dx (putF "_people" (.ref D) (putF "_heads" (.ref l3) (putF "_roads" (.ref l2) (putF "_houses" (.ref l1) []))))) := upd_same
  have pe9 : upd H8 x (.ins C dx (putF "_people" (.ref D) (putF "_heads" (.ref l3) (putF "_roads" (.ref l2) (putF "_houses" (.ref l1) []))))) D = some (.dK (peo ss ns)) := by rw [upd_ne nD]; exact pe8
  generalize upd H8 x (.ins C dx (putF "_people" (.ref D) (putF "_heads" (.ref l3) (putF "_roads" (.ref l2) (putF "_houses" (.ref l1) []))))) = H9 at k79 x9 pe9 ⊢
  have k69 := k67.trans k79
  have k59 := k56.trans k69
  have o2 := k69 _ _ n2 g2
  have p9 := pq k59
  have lk2 : (putF "_people" (V.ref D) (putF "_heads" (.ref l3) (putF "_roads" (.ref l2) (putF "_houses" (.ref l1) [])))).lookup ("_roads" : Str) = some (.ref l2) := by
    rw [lookup_putF, if_neg (by decide +kernel), lookup_putF, if_neg (by decide +kernel), lookup_putF, if_pos rfl]
  refine ⟨_, rfl, x, C, dx, _, _, rfl, x9, T.cl, T.n2, lk2, l2, qs, rs, rfl, o2, p9, forest, by omega, fun r1 kv1 H10 e10 nr1 hr1' pl1 ll1 => ?_⟩
  have x10 := e10 _ _ x9
  refine ⟨_, rfl, x, C, dx, _, rfl, x10, T.cl, T.n5, (Nat.lt_of_le_of_lt (Nat.le_trans (length_putF _ _ _) (Nat.succ_le_succ (Nat.le_trans (length_putF _ _ _) (Nat.succ_le_succ (Nat.le_trans (length_putF _ _ _) (Nat.succ_le_succ (length_putF _ _ _))))))) (by decide)), ?_⟩
  have k911 : Kept x H9 (upd H10 x (.ins C dx (putF "_places" (.ref r1) (putF "_people" (.ref D) (putF "_heads" (.ref l3) (putF "_roads" (.ref l2) (putF "_houses" (.ref l1) []))))))) := (Kept.same e10).trans Kept.upd
  have x11 : upd H10 x (.ins C dx (putF "_places" (.ref r1) (putF "_people" (.ref D) (putF "_heads" (.ref l3) (putF "_roads" (.ref l2) (putF "_houses" (.ref l1) [])))))) x = some (.ins C dx (putF "_places" (.ref r1) (putF "_people" (.ref D) (putF "_heads" (.ref l3) (putF "_roads" (.ref l2) (putF "_houses" (.ref l1) [])))))) := upd_same
  have pl11 : upd H10 x (.ins C dx (putF "_places" (.ref r1) (putF "_people" (.ref D) (putF "_heads" (.ref l3) (putF "_roads" (.ref l2) (putF "_houses" (.ref l1) [])))))) r1 = some (.dT kv1) := by rw [upd_ne fun z => by rw [z, x9] at nr1; cases nr1]; exact hr1'
  generalize upd H10 x (.ins C dx (putF "_places" (.ref r1) (putF "_people" (.ref D) (putF "_heads" (.ref l3) (putF "_roads" (.ref l2) (putF "_houses" (.ref l1) [])))))) = H11 at k911 x11 pl11 ⊢
  have k6_11 := k69.trans k911
  have k5_11 := k56.trans k6_11
  have lk1 : (putF "_places" (V.ref r1) (putF "_people" (V.ref D) (putF "_heads" (.ref l3) (putF "_roads" (.ref l2) (putF "_houses" (.ref l1) []))))).lookup ("_houses" : Str) = some (.ref l1) := by
    rw [lookup_putF, if_neg (by decide +kernel), lookup_putF, if_neg (by decide +kernel), lookup_putF, if_neg (by decide +kernel), lookup_putF, if_neg (by decide +kernel), lookup_putF, if_pos rfl]
  have lk2' : (putF "_places" (V.ref r1) (putF "_people" (V.ref D) (putF "_heads" (.ref l3) (putF "_roads" (.ref l2) (putF "_houses" (.ref l1) []))))).lookup ("_roads" : Str) = some (.ref l2) := by
    rw [lookup_putF, if_neg (by decide +kernel)]
    exact lk2
  refine ⟨_, rfl, x, C, dx, _, _, rfl, x11, T.cl, T.n1, lk1, _, rfl, x, C, dx, _, _, rfl, x11, T.cl, T.n2, lk2', l1, l2, ss, qs, rs, rfl, k6_11 _ _ n1 g1, hl, good.1, k6_11 _ _ n2 g2, pq k5_11, ends, by omega, fun r2 kv2 H12 e12 nr2 hr2' ll2 nb2 => ?_⟩
  have x12 := e12 _ _ x11
  refine ⟨_, rfl, x, C, dx, _, rfl, x12, T.cl, T.n6, (Nat.lt_of_le_of_lt (Nat.le_trans (length_putF _ _ _) (Nat.succ_le_succ (Nat.le_trans (length_putF _ _ _) (Nat.succ_le_succ (Nat.le_trans (length_putF _ _ _) (Nat.succ_le_succ (Nat.le_trans (length_putF _ _ _) (Nat.succ_le_succ (length_putF _ _ _))))))))) (by decide)), ?_⟩
  have k11_13 : Kept x H11 (upd H12 x (.ins C dx (putF "_beside" (.ref r2) (putF "_places" (.ref r1) (putF "_people" (.ref D) (putF "_heads" (.ref l3) (putF "_roads" (.ref l2) (putF "_houses" (.ref l1) [])))))))) := (Kept.same e12).trans Kept.upd
  have k6_13 := k6_11.trans k11_13
  obtain ⟨bs, hbs⟩ := choose_at nb2
  have d1x : D ≠ x := nD
  have d2x : r1 ≠ x := fun z => by rw [z, x9] at nr1; cases nr1
  have d3x : r2 ≠ x := fun z => by rw [z, x11] at nr2; cases nr2
  have bsx : ∀ s ∈ ss, bs s ≠ x := fun s hs z => by
    have := (hbs s hs).2.1
    rw [z, x11] at this
    cases this
  have k0_11 : Kept x H H11 := k5.trans k6_11
  refine q _ l1 l2 l3 D r1 r2 qs bs (k5.trans k6_13) ⟨⟨dx, _, upd_same, ?_, ?_, ?_, ?_, ?_, ?_, fun m m1 m2 m3 m4 m5 m6 => ?_⟩, k6_13 _ _ n1 g1, k6_13 _ _ n2 g2, pq (k56.trans k6_13), (k79.trans (k911.trans k11_13)) _ _ n3 g3, ?_, ⟨kv1, ?_, pl1, ll1⟩, ⟨kv2, ?_, ll2, fun s hs => (hbs s hs).1⟩, fun s hs => ?_⟩
    ⟨l1H, fr k04 hl2 n2, l3H, fr k07 hD nD, fr (k5.trans k69) nr1 d2x, fr k0_11 nr2 d3x, fun z hz => fr k04 (a4 z hz).1 (nq z hz), fun s hs => fr k0_11 (hbs s hs).2.1 (bsx s hs)⟩
  · rw [lookup_putF, if_neg (by decide +kernel)]
    exact lk1
  · rw [lookup_putF, if_neg (by decide +kernel)]
    exact lk2'
  · rw [lookup_putF, if_neg (by decide +kernel), lookup_putF, if_neg (by decide +kernel), lookup_putF, if_neg (by decide +kernel), lookup_putF, if_pos rfl]
  · rw [lookup_putF, if_neg (by decide +kernel), lookup_putF, if_neg (by decide +kernel), lookup_putF, if_pos rfl]
  · rw [lookup_putF, if_neg (by decide +kernel), lookup_putF, if_pos rfl]
  · rw [lookup_putF, if_pos rfl]
  · rw [lookup_putF, if_neg m6, lookup_putF, if_neg m5, lookup_putF, if_neg m4, lookup_putF, if_neg m3, lookup_putF, if_neg m2, lookup_putF, if_neg m1]
    rfl
  · exact (k911.trans k11_13) _ _ d1x pe9
  · exact k11_13 _ _ d2x pl11
  · rw [upd_ne d3x]
    exact hr2'
  · rw [upd_ne (bsx s hs)]
    exact (hbs s hs).2.2
end
end K1
end
-- KFun
section
set_option Elab.async false
set_option linter.all false
set_option maxRecDepth 100000
set_option maxHeartbeats 4000000
/-! isinstance of a def -/
namespace K1F
open PySem
theorem slotGa : Slot "function" "__getattribute__" "object.__getattribute__" :=
  .of (owner := "object") (n := "__getattribute__") (by rw [typeLookup_type, builtinLookup_eq_fast]; kernel_rfl) (by decide +kernel) (by decide +kernel) (by decide +kernel)
    (by first | exact .inl (by decide +kernel) | exact .inr (by decide +kernel)) (by rw [isSubtype_type]; kernel_rfl)
theorem entryGa : entryFor table "object.__getattribute__" = some Builtin.«object.__getattribute__» := entryFor_of_tree (by kernel_rfl)
theorem lkClass : typeLookup (.type "function") "__class__" = pure (some (.builtin "object.__class__")) := by rw [typeLookup_type, builtinLookup_eq_fast]; kernel_rfl
theorem ownClass : isSubtype (.type "function") (.type (".".intercalate ("object.__class__".cutAt '.').dropLast)) = pure true := by
  rw [F.owner_object_class, isSubtype_type]; kernel_rfl
theorem argsGa (a b : Value) : argsOk "object.__getattribute__" ⟨[a, b], []⟩ := by
  unfold argsOk; kernel_rfl
section
variable {prog : Program} {w : World} {A : Around} {E : Value → Shared → Prop} {h : Heap} {g : Array GenState} {d : Drawn} {t : Nat} {os : OsState} {a : Addr} {o : Obj}
theorem fnGet {R : Result → Shared → Prop} (hx : h.get? a = some o) (hc : o.cls = .type "function") (hq : R (.ok (.ret (.type "function"))) ⟨h, g, d, t, os⟩) :
    codeAny (model prog w) A (.call (.builtin "getset_descriptor.__get__") ⟨[.builtin "object.__class__", .ref a, .type "function"], []⟩) R ⟨h, g, d, t, os⟩ := by
  have z1 : (⟨h, g, d, t, os⟩ : Shared).TypeIs (.ref a) "function" := ⟨_, hx, hc⟩
  have z2 : (⟨h, g, d, t, os⟩ : Shared).TypeIs (.builtin "object.__class__") "getset_descriptor" := F.typeOf_object_class
  have z3 := ownClass
  refine codeAny_call_builtin F.slot_gs_get.plain F.entry_gs_get (F.slot_gs_get.check _ _ _ _ _ _ _ _ z2 (F.args_gs_get _ _ _) ?_)
  repeat (any_goals (first | assumption | wp_step))
  refine ⟨Code.quiet_builtin _ (by decide +kernel), codeAny_builtin F.entry_object_class ?_⟩
  repeat (any_goals (first | assumption | wp_step))
theorem fnEntry {tk : Tok} {Q : Fin → Shared → Prop} (hx : h.get? a = some o) (hc : o.cls = .type "function") (hq : Q (.done (.ret (.type "function"))) ⟨h, g, d, t, os⟩) :
    wpAny (model prog w) A (Builtin.«object.__getattribute__» ⟨[.ref a, .str "__class__" tk], []⟩) Q E ⟨h, g, d, t, os⟩ := by
  have z1 : (⟨h, g, d, t, os⟩ : Shared).TypeIs (.ref a) "function" := ⟨_, hx, hc⟩
  have z2 : (⟨h, g, d, t, os⟩ : Shared).TypeIs (.builtin "object.__class__") "getset_descriptor" := F.typeOf_object_class
  have z3 := lkClass
  have z4 := F.typeOf_object_class
  have z5 := F.slot_gs_get.lookup
  have z6 := F.slot_gs_set.lookup
  repeat (any_goals (first | assumption | wp_step))
  refine fnGet hx hc ?_
  repeat (any_goals (first | assumption | wp_step))
theorem fnCall {tk : Tok} {R : Result → Shared → Prop} (hx : h.get? a = some o) (hc : o.cls = .type "function") (hq : R (.ok (.ret (.type "function"))) ⟨h, g, d, t, os⟩) :
    codeAny (model prog w) A (.call (.builtin "object.__getattribute__") ⟨[.ref a, .str "__class__" tk], []⟩) R ⟨h, g, d, t, os⟩ :=
  codeAny_call_builtin slotGa.plain entryGa (slotGa.check _ _ _ _ _ _ _ _ (show (⟨h, g, d, t, os⟩ : Shared).TypeIs (.ref a) "function" from ⟨_, hx, hc⟩) (argsGa _ _) (fnEntry hx hc hq))
theorem fnBy {tk : Tok} {Q : Value → Shared → Prop} (hx : h.get? a = some o) (hc : o.cls = .type "function") (hq : Q (.type "function") ⟨h, g, d, t, os⟩) : wpAny (model prog w) A (getAttrBy (.ref a) (.str "__class__" tk) false) Q E ⟨h, g, d, t, os⟩ := by
  have z1 : (⟨h, g, d, t, os⟩ : Shared).TypeIs (.ref a) "function" := ⟨_, hx, hc⟩
  have z2 := slotGa.lookup
  have z3 := slotGa.bind (.ref a)
  repeat (any_goals (first | assumption | wp_step))
  refine fnCall hx hc ?_
  repeat (any_goals (first | assumption | wp_step))
theorem fnAttr {Q : Option Value → Shared → Prop} (hx : h.get? a = some o) (hc : o.cls = .type "function") (hq : Q (some (.type "function")) ⟨h, g, d, t + 1, os⟩) : wpAny (model prog w) A (getAttr? (.ref a) "__class__") Q E ⟨h, g, d, t, os⟩ := by
  unfold getAttr? getAttrBy?
  repeat (any_goals (first | assumption | with_reducible apply fnBy hx hc | wp_step))
end
theorem kitFn {K : PySem.W.Frag} {a : Addr} : PySem.W.KitX K (.ref a) (.type "function") (PySem.W.KitAt a "function") :=
  PySem.W.kitx_of PySem.W.kitAt_ty (fun {_ _ _ _ _ s} p k => by obtain ⟨h, g, d, t, os⟩ := s; obtain ⟨o, h1, h2⟩ := p; exact fnAttr h1 h2 k)
end K1F
end
-- KOwn
section
set_option Elab.async false
set_option linter.all false
set_option maxRecDepth 100000
set_option maxHeartbeats 4000000
/-! == and != by an own __eq__, whatever it says and whatever stands on the right; isinstance of a def -/
namespace K1
open PySem PySem.Spec PyProof.Rows L2
/-- as TyX, defs too -/
def TyF (K : PySem.W.Frag) (H : Hp) (x : V) (t : Value) : Prop := TyX K H x t ∨ ∃ f o, x = .ref f ∧ K.lookup f = some o ∧ o.cls = .type "function" ∧ t = .type "function"
section
variable {X : Cx} {pins : List (Addr × Obj)} {σ : L2.St} {H : Hp} {s : Shared}
theorem kit_ofF {x : V} {u t : Value} (I : Inv X pins σ H s) (rx : RelV x u) (ty : TyF X.K H x t) : ∃ P : Heap → Prop, PySem.W.KitX X.K u t P ∧ P s.heap ∧ u ≠ .builtin "__main__.__loader__#opaque" := by
  rcases ty with ty | ⟨f, o, rfl, hl, hc, rfl⟩
  · exact kit_of I rx ty
  · cases (show u = Value.ref f from rx)
    exact ⟨_, K1F.kitFn, ⟨o, I.kIn _ _ hl, hc⟩, fun z => nomatch z⟩
def rIsiF (K : PySem.W.Frag) : List V → Hp → VK → Prop := fun xs H Q => ∃ (x c : V) (t u : Value) (b : Bool), xs = [x, c] ∧ ClsV c u ∧ TyF K H x t ∧ PySem.W.kitOne K t u = some b ∧ Q (.bl b) H
theorem call_isiF : CallR X (.builtin "isinstance") (rIsiF X.K) := by
  intro pins s σ H xs us Q I r h
  obtain ⟨x, c, t, u, b, rfl, k, ty, e, q⟩ := h
  obtain ⟨u1, u2, rfl, r1, r2⟩ := vals2 r
  obtain rfl := ClsV.eq k r2
  obtain ⟨P, Z, p, hx⟩ := kit_ofF I r1 ty
  exact PySem.W.kia_one Z I.kIn p e hx fun tk => ⟨.bl b, H, I.tok tk, rfl, q⟩
/-- the own __eq__, called -/
theorem callOwn {CX : CXT} {f a : Addr} {fd : FuncData} {ps : List Str} {sp : Sp} {E : XK} {n : Nat} {A : Around} {y : V} {u : Value} {R : Bool → Hp → Prop} (F : FnOk X.prog X.w X.K X.mg X.base CX n f fd ps sp) (hb : L2.Binds X.K fd ps []) (hx : Passes CX X E)
    (hr : Room n A) (hfr : A.frames = X.A.frames) (I : Inv X pins σ H s) (ry : RelV y u) (hsp : sp [.ref a, y] H (fun v H' => ∃ b, v = .bl b ∧ R b H') E) :
    wpAny (model X.prog X.w) A (call (.ref f) [.ref a, u]) (fun r s' => ∃ b H', r = .bool b ∧ Inv X pins σ H' s' ∧ R b H') X.xe s := by
  have e0 : Env0 X.prog X.w X.K X.mg X.base A X.stack s H := by
    have e := I.env0
    exact ⟨by rw [hfr]; exact e.frames, e.mod, e.bs, e.bsz, e.funs, e.frf, e.hok, e.bare⟩
  have hl := F.len _ _ _ _ hsp
  have r2 : Vals [V.ref a, y] [Value.ref a, u] := .cons rfl (.cons ry .nil)
  refine wpAny_call (codeAny_mono (F.run A X.stack s H ⟨[.ref a, u], []⟩ [.ref a, u] [.ref a, y] _ E hr e0 (by
    have := hb s [.ref a, u] I.kIn (by simpa using hl)
    simpa using this) r2 hsp) fun r s' hq => ?_)
  cases r with
  | error e => exact hx pins σ H s e s' I hq
  | ok fl =>
    cases fl with
    | ret w =>
      obtain ⟨z, H', I', rz, b, ez, q⟩ := I.after hq
      subst ez
      cases rz
      exact ⟨b, H', rfl, I', q⟩
    | next => exact False.elim hq
    | brk => exact False.elim hq
    | cont => exact False.elim hq
def rOwn (K : PySem.W.Frag) (C : Addr) (sp : Sp) (E : XK) (g : Bool → Bool) : R2 := fun x y H Q => ∃ a dx fs t, x = .ref a ∧ H a = some (.ins C dx fs) ∧ TyF K H y t ∧ PySem.W.notFirst K C t = true ∧ sp [x, y] H (fun v H' => ∃ b, v = .bl b ∧ Q (.bl (g b)) H') E
theorem op_eqOwn {CX : CXT} {C f : Addr} {fd : FuncData} {ps : List Str} {sp : Sp} {E : XK} {n : Nat} (F : FnOk X.prog X.w X.K X.mg X.base CX n f fd ps sp)
    (hs : PySem.W.findIn X.K (.ref C) "__eq__" = some (some (.ref f))) (hf : PySem.W.isFn X.K (.ref f) = true) (hb : L2.Binds X.K fd ps []) (hx : Passes CX X E) (hr : Room n X.A) : OpR X (compareOp .Eq) (rOwn X.K C sp E id) := by
  intro pins s σ H x y v u Q I rx ry hq
  obtain ⟨a, dx, fs, t, rfl, ha, ty, nf, hsp⟩ := hq
  cases rx
  obtain ⟨mA, J, _⟩ := ins_get I.hok ha
  obtain ⟨od, J, _⟩ := J.look
  obtain ⟨P, Z, p, _⟩ := kit_ofF I ry ty
  obtain ⟨m, hF⟩ := I.fr
  show wpAny (model X.prog X.w) X.A (richCompare .Eq (.ref a) u) (EP X pins σ Q) X.xe s
  refine PySem.W.cmp_K (op := .Eq) (tb := t) hr.units0 hF I.ok.mod.kin J (Z.ty _ _ I.kIn p) nf hs hf ?_
  refine wpAny_mono (callOwn (R := fun b H' => Q (.bl b) H') F hb hx hr rfl I ry hsp) (fun r s' q => ?_) fun _ _ z => z
  obtain ⟨b, H', rfl, I', q⟩ := q
  exact ⟨.bl b, H', I', rfl, q⟩
theorem op_neOwn {CX : CXT} {C f : Addr} {fd : FuncData} {ps : List Str} {sp : Sp} {E : XK} {n : Nat} (F : FnOk X.prog X.w X.K X.mg X.base CX n f fd ps sp)
    (hs : PySem.W.findIn X.K (.ref C) "__eq__" = some (some (.ref f))) (hn : PySem.W.findIn X.K (.ref C) "__ne__" = some (some (.builtin "object.__ne__"))) (hob : PySem.W.mroIn X.K C (.type "object") = some true)
    (hf : PySem.W.isFn X.K (.ref f) = true) (hb : L2.Binds X.K fd ps []) (hx : Passes CX X E) (hr : Room (n + 1) X.A) : OpR X (compareOp .NotEq) (rOwn X.K C sp E not) := by
  intro pins s σ H x y v u Q I rx ry hq
  obtain ⟨a, dx, fs, t, rfl, ha, ty, nf, hsp⟩ := hq
  cases rx
  obtain ⟨mA, J, _⟩ := ins_get I.hok ha
  obtain ⟨od, J, _⟩ := J.look
  obtain ⟨P, Z, p, _⟩ := kit_ofF I ry ty
  have hy := Z.ty (model X.prog X.w) _ I.kIn p
  have sp1 : PySem.W.Looks (model X.prog X.w) s.heap (specialOf (.ref a) "__ne__") (some (.builtin "object.__ne__")) := J.type.andThen (PySem.W.looks_findIn I.kIn hn)
  have inst : PySem.W.Looks (model X.prog X.w) s.heap (isInstance (.ref a) (.type "object")) true := J.type.andThen (PySem.W.looks_mroIn I.kIn hob)
  have one : wpAny (model X.prog X.w) X.A (tryCompare (.ref a) "__ne__" u) (fun r s' => ∃ b H', r = some (.bool (!b)) ∧ Inv X pins σ H' s' ∧ Q (.bl (!b)) H') X.xe s := by
    unfold tryCompare
    refine wpAny_bind (NtL.csib sp1 (PySem.F.cmp_object.ne.bind _) ?_)
    refine wpAny_call (codeAny_call_builtin PySem.F.cmp_object.ne.plain PySem.F.cmpEntry_ne (@PySem.W.check_slot (model X.prog X.w) _ _ _ "object.__ne__" "object" "__ne__" (.ref a) [u] [] _ PySem.F.cmpKind_ne PySem.F.cmpSplit_ne inst (PySem.F.cmpArgs_ne _ _) ?_))
    unfold Builtin.«object.__ne__»
    have hr1 : Room n X.A.in1 := hr.in1
    show wpAny (model X.prog X.w) X.A.in1 (do
      cRoomFor "comparison" [.ref a, u]
      match ← callSpecialIfBound? (.ref a) "__eq__" [u] with
      | some .notImplemented | none => ret .notImplemented
      | some r => ret (.bool (!(← truthy r)))) _ _ s
    refine wpAny_bind (wpAny_cRoomFor hr1.units0 ?_)
    refine wpAny_bind (PySem.W.ifBound_K I.kIn J hs hf (wpAny_mono (callOwn (R := fun b H' => Q (.bl (!b)) H') F hb hx hr1 rfl I ry hsp) (fun r s' q => ?_) fun _ _ z => z))
    obtain ⟨b, H', rfl, I', q⟩ := q
    cases b
    · exact wpAny_pure (wpAny_pure ⟨false, H', rfl, I', q⟩)
    · exact wpAny_pure (wpAny_pure ⟨true, H', rfl, I', q⟩)
  show wpAny (model X.prog X.w) X.A (richCompare .NotEq (.ref a) u) (EP X pins σ Q) X.xe s
  unfold richCompare
  simp only [oneThing_ref]
  refine wpAny_holding (wpAny_bind (wpAny_cRoomFor hr.units0 ?_))
  refine wpAny_bind (J.type.here (wpAny_bind (hy.here ?_)))
  split
  · rename_i q
    have e : PySem.W.subIn X.K t (.ref C) = some false := by
      rcases Bool.or_eq_true_iff.mp nf with e | e
      · rw [beq_iff_eq.mp e] at q; simp at q
      · exact beq_iff_eq.mp e
    refine wpAny_bind ((PySem.W.looks_subIn I.kIn e).here ?_)
    simp only [Bool.false_eq_true, if_false]
    refine wpAny_bind (wpAny_mono one (fun r s' z => ?_) fun _ _ e => e)
    obtain ⟨b, H', rfl, I', hq⟩ := z
    exact wpAny_pure ⟨.bl _, H', I', rfl, hq⟩
  · refine wpAny_bind (wpAny_pure ?_)
    simp only [Bool.false_eq_true, if_false]
    refine wpAny_bind (wpAny_mono one (fun r s' z => ?_) fun _ _ e => e)
    obtain ⟨b, H', rfl, I', hq⟩ := z
    exact wpAny_pure ⟨.bl _, H', I', rfl, hq⟩
end
end K1
end
-- KEq
section
set_option Elab.async false
set_option linter.all false
set_option maxRecDepth 100000
set_option maxHeartbeats 4000000
namespace K1
open PySem PySem.Spec PyProof.Rows L2
abbrev sVE : Stmt := inClass (top 18) 1
abbrev sVH : Stmt := inClass (top 18) 2
abbrev sVR : Stmt := inClass (top 18) 3
abbrev sVD : Stmt := inClass (top 18) 4
def dN (ss : List Str) : PyData := .list (ss.map PyData.str)
def dR (rs : List (Str × Str)) : PyData := .list (rs.map fun r => .tuple [.str r.1, .str r.2])
def dI (ns : List Int) : PyData := .list (ns.map PyData.int)
theorem eqvAll_map {α : Type} [DecidableEq α] {f : α → PyData} (h : ∀ a b, PyData.eqv (f a) (f b) = decide (a = b)) : ∀ xs ys : List α, PyData.eqvAll (xs.map f) (ys.map f) = decide (xs = ys)
  | [], [] => rfl
  | [], _ :: _ => rfl
  | _ :: _, [] => rfl
  | x :: xs, y :: ys => by
    show (PyData.eqv (f x) (f y) && PyData.eqvAll (xs.map f) (ys.map f)) = _
    rw [h, eqvAll_map h xs ys, ← Bool.decide_and]
    exact decide_eq_decide.mpr (by rw [List.cons.injEq])
theorem eqv_str (a b : Str) : PyData.eqv (.str a) (.str b) = decide (a = b) := by
  show (a == b) = _
  by_cases e : a = b
  · rw [decide_eq_true e, e]; exact beq_self_eq_true b
  · rw [decide_eq_false e]; exact beq_eq_false_iff_ne.mpr e
theorem eqv_int (a b : Int) : PyData.eqv (.int a) (.int b) = decide (a = b) := by
  show (a == b) = _
  by_cases e : a = b
  · rw [decide_eq_true e, e]; exact beq_self_eq_true b
  · rw [decide_eq_false e]; exact beq_eq_false_iff_ne.mpr e
theorem eqv_pair (a b : Str × Str) : PyData.eqv (.tuple [.str a.1, .str a.2]) (.tuple [.str b.1, .str b.2]) = decide (a = b) := by
  show (PyData.eqv (.str a.1) (.str b.1) && (PyData.eqv (.str a.2) (.str b.2) && true)) = _
  rw [eqv_str, eqv_str, Bool.and_true, ← Bool.decide_and]
  exact decide_eq_decide.mpr (by rw [Prod.ext_iff])
theorem eqv_dN (a b : List Str) : PyData.eqv (dN a) (dN b) = decide (a = b) := eqvAll_map eqv_str a b
theorem eqv_dR (a b : List (Str × Str)) : PyData.eqv (dR a) (dR b) = decide (a = b) := eqvAll_map eqv_pair a b
theorem eqv_dI (a b : List Int) : PyData.eqv (dI a) (dI b) = decide (a = b) := eqvAll_map eqv_int a b
theorem strOk_of {s : Str} (h : nameOk s = true) : PyData.strOk s = true := by
  unfold nameOk at h
  have h2 := (Bool.and_eq_true_iff.mp (Bool.and_eq_true_iff.mp (Bool.and_eq_true_iff.mp h).2).2).2
  unfold PyData.strOk
  rw [← Array.all_toList]
  rw [List.all_eq_true] at h2 ⊢
  intro c hc
  have q := h2 c hc
  unfold okSign at q
  have l1 : ∀ c ∈ letters.cps.toList, c < 0x110000 := by decide +kernel
  have l2 : ∀ c ∈ figures.cps.toList, c < 0x110000 := by decide +kernel
  rcases Bool.or_eq_true_iff.mp q with q | q
  · exact decide_eq_true (l1 c (of_decide_eq_true q))
  · exact decide_eq_true (l2 c (of_decide_eq_true q))
theorem lay_map {α : Type} {f : α → PyData} : ∀ {xs : List α}, (∀ x ∈ xs, (f x).canLay0 = true) → PyData.canLayAll0 (xs.map f) = true
  | [], _ => rfl
  | x :: xs, h => by
    show ((f x).canLay0 && PyData.canLayAll0 (xs.map f)) = true
    rw [h x (List.mem_cons_self ..), lay_map fun y hy => h y (List.mem_cons_of_mem _ hy)]
    rfl
theorem dep_map {α : Type} {f : α → PyData} {n : Nat} : ∀ {xs : List α}, (∀ x ∈ xs, (f x).depth ≤ n) → PyData.depthAll (xs.map f) ≤ n
  | [], _ => Nat.zero_le _
  | x :: xs, h => by
    show max (f x).depth (PyData.depthAll (xs.map f)) ≤ n
    exact Nat.max_le.mpr ⟨h x (List.mem_cons_self ..), dep_map fun y hy => h y (List.mem_cons_of_mem _ hy)⟩
theorem shaped_list {α : Type} {f : α → PyData} {xs : List α} (h1 : ∀ x ∈ xs, (f x).canLay0 = true) (h2 : ∀ x ∈ xs, (f x).depth ≤ 5) : SeqAt.shaped (.list (xs.map f)) = true := by
  show (PyData.canLayAll0 (xs.map f) && decide (PyData.depthAll (xs.map f) + 1 ≤ 64)) = true
  have := dep_map h2
  rw [lay_map h1, decide_eq_true (by omega)]
  rfl
theorem shaped_dN {ss : List Str} (h : ∀ s ∈ ss, nameOk s = true) : SeqAt.shaped (dN ss) = true := shaped_list (fun s hs => strOk_of (h s hs)) (fun _ _ => by show 0 ≤ 5; decide)
theorem shaped_dI (ns : List Int) : SeqAt.shaped (dI ns) = true := shaped_list (fun _ _ => rfl) (fun _ _ => by show 0 ≤ 5; decide)
theorem shaped_dR {rs : List (Str × Str)} (h : ∀ r ∈ rs, nameOk r.1 = true ∧ nameOk r.2 = true) : SeqAt.shaped (dR rs) = true := shaped_list (fun r hr => by
  show (PyData.strOk r.1 && (PyData.strOk r.2 && true)) = true
  rw [strOk_of (h r hr).1, strOk_of (h r hr).2]
  rfl) (fun _ _ => by show max 0 (max 0 0) + 1 ≤ 5; decide)
theorem dpAll {α : Type} {K : PySem.W.Frag} {H : Hp} {f : α → V} {g : α → PyData} (h : ∀ x, Dp K H (f x) (g x)) : ∀ xs : List α, DpAll K H (xs.map f) (xs.map g)
  | [] => .nil
  | x :: xs => .cons (h x) (dpAll h xs)
theorem dp_dN {K : PySem.W.Frag} {H : Hp} {l : Addr} {ss : List Str} (h : H l = some (.lst (ss.map V.str))) : Dp K H (.ref l) (dN ss) := .lst (SqL.of h) (dpAll (fun s => .str s) ss)
theorem dp_dI {K : PySem.W.Frag} {H : Hp} {l : Addr} {ns : List Int} (h : H l = some (.lst (ns.map V.int))) : Dp K H (.ref l) (dI ns) := .lst (SqL.of h) (dpAll (fun s => .int s) ns)
theorem dp_dR {K : PySem.W.Frag} {H : Hp} {l : Addr} {qs : List Addr} {rs : List (Str × Str)} (h : H l = some (.lst (qs.map V.ref))) (p : Paired (TupP H) qs rs) : Dp K H (.ref l) (dR rs) := by
  refine .lst (SqL.of h) ?_
  clear h
  induction p with
  | nil => exact .nil
  | cons f1 f2 ih => exact .cons (.tup (SqT.of f1) (.cons (.str _) (.cons (.str _) .nil))) ih
/-- what the text says of Valley beyond its fields -/
structure VcE (K : PySem.W.Frag) (C : Addr) : Prop extends VcT K C where
  ha : PySem.W.findIn K (.ref C) "__class__" = some (some (.builtin "object.__class__"))
  hn : PySem.W.specialIn K (.builtin "object.__class__") "__get__" = some (some (.builtin "getset_descriptor.__get__"))
  htk : PySem.W.takesIn K (.builtin "object.__class__") = some true
  hm : PySem.W.mroIn K C (.type "object") = some true
  own : PySem.W.kitOne K (.ref C) (.ref C) = some true
  no : ∀ t ∈ kinds ++ ["function"], PySem.W.kitOne K (.type t) (.ref C) = some false
def GoodV (ss : List Str) (rs : List (Str × Str)) : Prop := (∀ s ∈ ss, nameOk s = true) ∧ EndsIn ss rs
theorem GoodV.roads {ss : List Str} {rs : List (Str × Str)} (g : GoodV ss rs) : ∀ r ∈ rs, nameOk r.1 = true ∧ nameOk r.2 = true := fun r hr => ⟨g.1 _ (g.2 r hr).1, g.1 _ (g.2 r hr).2⟩
def spVE (K : PySem.W.Frag) (C : Addr) : Sp := fun vs H Q _ => ∃ x l1 l2 l3 qs ss rs ns y, vs = [.ref x, y] ∧ ValI C H x l1 l2 l3 qs ss rs ns ∧ GoodV ss rs ∧
  ((∃ t, TyF K H y (.type t) ∧ t ∈ kinds ++ ["function"] ∧ Q (.bl false) H) ∨ (∃ z m1 m2 m3 qs' ss' rs' ns', y = .ref z ∧ ValI C H z m1 m2 m3 qs' ss' rs' ns' ∧ GoodV ss' rs' ∧ Q (.bl (decide (ss = ss' ∧ rs = rs' ∧ ns = ns'))) H))
theorem scVE : FnScope ["self", "other"] ["self", "other"] (defScope sVE) := ⟨rfl, rfl, rfl, by decide +kernel, rfl, by decide +kernel, by decide +kernel⟩
theorem scVH : FnScope ["self"] ["self"] (defScope sVH) := ⟨rfl, rfl, rfl, by decide +kernel, rfl, by decide +kernel, by decide +kernel⟩
theorem scVR : FnScope ["self"] ["self"] (defScope sVR) := ⟨rfl, rfl, rfl, by decide +kernel, rfl, by decide +kernel, by decide +kernel⟩
theorem scVD : FnScope ["self"] ["self"] (defScope sVD) := ⟨rfl, rfl, rfl, by decide +kernel, rfl, by decide +kernel, by decide +kernel⟩
def spVH (C : Addr) : Sp := fun vs H Q _ => ∃ x l1 l2 l3 qs ss rs ns, vs = [.ref x] ∧ ValI C H x l1 l2 l3 qs ss rs ns ∧ ∀ l, H l = none → Q (.ref l) (upd H l (.lst (ss.map V.str)))
def spVR (C : Addr) : Sp := fun vs H Q _ => ∃ x l1 l2 l3 qs ss rs ns, vs = [.ref x] ∧ ValI C H x l1 l2 l3 qs ss rs ns ∧ ∀ l, H l = none → Q (.ref l) (upd H l (.lst (qs.map V.ref)))
def spVD (C : Addr) : Sp := fun vs H Q _ => ∃ x l1 l2 l3 qs ss rs ns, vs = [.ref x] ∧ ValI C H x l1 l2 l3 qs ss rs ns ∧ ∀ l, H l = none → Q (.ref l) (upd H l (.lst (ns.map V.int)))
section
variable {P : Program} {w : World} {K : PySem.W.Frag} {mg : Str → Option Value} {base : Heap} {C : Addr}
theorem ok_VE {f : Addr} {fd : FuncData} (F : Fun K "__eq__" "Valley.__eq__" sVE f fd) (B : Bl mg) (T : VcE K C) (mV : mg "Valley" = some (.ref C)) : FnOk P w K mg base CX0 1 f fd ["self", "other"] (spVE K C) := by
  refine F.ok scVE (fun vs H Q E h => ?_) (fun cdv A outer s H vs Q E hr h => ?_)
  · obtain ⟨x, l1, l2, l3, qs, ss, rs, ns, y, rfl, _⟩ := h
    rfl
  obtain ⟨x, l1, l2, l3, qs, ss, rs, ns, y, rfl, vx, gx, h⟩ := h
  have hu := hr.units
  refine ⟨_, pss_cons (by exact (ps_if (pt_not (pt_val (pe_callB call_isiF rfl B.isi PyProof.Rows.boot_isinstance (pa_cons (pv 1) (pa_cons (pe_glob (v := .ref C) rfl mV rfl) pa_nil)))))
      (pss_one (ps_ret pe_bl)) pss_nil))
    (pss_one (by exact (ps_ret (pe_and (pe_cmpR (op_eqD hu) (pe_fld (pv 0) rfl) (pe_fld (pv 1) rfl) (nomark _)) (pe_and (pe_cmpR (op_eqD hu) (pe_fld (pv 0) rfl) (pe_fld (pv 1) rfl) (nomark _)) (pe_one (pe_cmpR (op_eqD hu) (pe_fld (pv 0) rfl) (pe_fld (pv 1) rfl) (nomark _)))))))), ?_⟩
  rcases h with ⟨t, ty, kt, q⟩ | ⟨z, m1, m2, m3, qs', ss', rs', ns', rfl, vz, gz, q⟩
  · exact ⟨_, rfl, y, _, _, _, _, rfl, .own C, ty, T.no t kt, _, rfl, iteT q⟩
  · obtain ⟨dz, fz, iz, z1, z2, z3, _⟩ := vz.ins
    obtain ⟨dx, fx, ix, x1, x2, x3, _⟩ := vx.ins
    refine ⟨_, rfl, .ref z, _, _, _, _, rfl, .own C, .inl (.base (.ins iz T.cl T.ha T.hn T.htk T.hm)), T.own, _, rfl, iteF ?_⟩
    refine ⟨_, rfl, x, C, dx, fx, _, rfl, ix, T.cl, T.n1, x1, _, rfl, z, C, dz, fz, _, rfl, iz, T.cl, T.n1, z1, dN ss, dN ss', dp_dN vx.h1, dp_dN vz.h1, shaped_dN gx.1, shaped_dN gz.1, _, rfl, ?_⟩
    rw [eqv_dN]
    by_cases e1 : ss = ss'
    · rw [decide_eq_true e1]
      refine iteT ⟨_, rfl, x, C, dx, fx, _, rfl, ix, T.cl, T.n2, x2, _, rfl, z, C, dz, fz, _, rfl, iz, T.cl, T.n2, z2, dR rs, dR rs', dp_dR vx.h2 vx.pr, dp_dR vz.h2 vz.pr, shaped_dR gx.roads, shaped_dR gz.roads, _, rfl, ?_⟩
      rw [eqv_dR]
      by_cases e2 : rs = rs'
      · rw [decide_eq_true e2]
        refine iteT ⟨_, rfl, x, C, dx, fx, _, rfl, ix, T.cl, T.n3, x3, _, rfl, z, C, dz, fz, _, rfl, iz, T.cl, T.n3, z3, dI ns, dI ns', dp_dI vx.h3, dp_dI vz.h3, shaped_dI ns, shaped_dI ns', ?_⟩
        rw [eqv_dI]
        have e : decide (ss = ss' ∧ rs = rs' ∧ ns = ns') = decide (ns = ns') := decide_eq_decide.mpr ⟨fun h => h.2.2, fun h => ⟨e1, e2, h⟩⟩
        rw [e] at q
        exact q
      · rw [decide_eq_false e2]
        rw [decide_eq_false (fun h => e2 h.2.1)] at q
        exact iteF q
    · rw [decide_eq_false e1]
      rw [decide_eq_false (fun h => e1 h.1)] at q
      exact iteF q
theorem ok_VH {f : Addr} {fd : FuncData} (F : Fun K "houses" "Valley.houses" sVH f fd) (B : Bl mg) (T : VcE K C) : FnOk P w K mg base CX0 1 f fd ["self"] (spVH C) := by
  refine F.ok scVH (fun vs H Q E h => ?_) (fun cdv A outer s H vs Q E hr h => ?_)
  · obtain ⟨x, l1, l2, l3, qs, ss, rs, ns, rfl, _⟩ := h
    rfl
  obtain ⟨x, l1, l2, l3, qs, ss, rs, ns, rfl, vx, q⟩ := h
  obtain ⟨dx, fx, ix, x1, x2, x3, _⟩ := vx.ins
  refine ⟨_, pss_one (by exact (ps_ret (pe_callTy call_list_of rfl B.list PyProof.Rows.boot_list (pa_cons (pe_fld (pv 0) rfl) pa_nil)))), ?_⟩
  exact ⟨_, rfl, x, C, dx, fx, _, rfl, ix, T.cl, T.n1, x1, l1, _, rfl, .inl (SqL.of vx.h1), q⟩
theorem ok_VR {f : Addr} {fd : FuncData} (F : Fun K "roads" "Valley.roads" sVR f fd) (B : Bl mg) (T : VcE K C) : FnOk P w K mg base CX0 1 f fd ["self"] (spVR C) := by
  refine F.ok scVR (fun vs H Q E h => ?_) (fun cdv A outer s H vs Q E hr h => ?_)
  · obtain ⟨x, l1, l2, l3, qs, ss, rs, ns, rfl, _⟩ := h
    rfl
  obtain ⟨x, l1, l2, l3, qs, ss, rs, ns, rfl, vx, q⟩ := h
  obtain ⟨dx, fx, ix, x1, x2, x3, _⟩ := vx.ins
  refine ⟨_, pss_one (by exact (ps_ret (pe_callTy call_list_of rfl B.list PyProof.Rows.boot_list (pa_cons (pe_fld (pv 0) rfl) pa_nil)))), ?_⟩
  exact ⟨_, rfl, x, C, dx, fx, _, rfl, ix, T.cl, T.n2, x2, l2, _, rfl, .inl (SqL.of vx.h2), q⟩
theorem ok_VD {f : Addr} {fd : FuncData} (F : Fun K "heads" "Valley.heads" sVD f fd) (B : Bl mg) (T : VcE K C) : FnOk P w K mg base CX0 1 f fd ["self"] (spVD C) := by
  refine F.ok scVD (fun vs H Q E h => ?_) (fun cdv A outer s H vs Q E hr h => ?_)
  · obtain ⟨x, l1, l2, l3, qs, ss, rs, ns, rfl, _⟩ := h
    rfl
  obtain ⟨x, l1, l2, l3, qs, ss, rs, ns, rfl, vx, q⟩ := h
  obtain ⟨dx, fx, ix, x1, x2, x3, _⟩ := vx.ins
  refine ⟨_, pss_one (by exact (ps_ret (pe_callTy call_list_of rfl B.list PyProof.Rows.boot_list (pa_cons (pe_fld (pv 0) rfl) pa_nil)))), ?_⟩
  exact ⟨_, rfl, x, C, dx, fx, _, rfl, ix, T.cl, T.n3, x3, l3, _, rfl, .inl (SqL.of vx.h3), q⟩
end
end K1
end
-- KMisc
section
set_option Elab.async false
set_option linter.all false
set_option maxRecDepth 100000
set_option maxHeartbeats 4000000
/-! d.update(d2) of keys that are ints or texts; (x, y)[::-1] -/
namespace K1
open PySem PySem.Spec PyProof.Rows L2

theorem KV_merge {kvs : List (Key × V)} {vs : List (Key × Value)} (r : KV kvs vs) : ∀ {ms : List (Key × V)} {ws : List (Key × Value)}, KV ms ws → KV (mergeK kvs ms) (merged vs ws) := by
  intro ms ws h
  induction h generalizing kvs vs with
  | nil => exact r
  | @cons x y l1 l2 f1 f2 ih =>
    obtain ⟨e1, e2⟩ := f1
    refine ih ?_
    have q := KV.put r x.1 e2
    show KV (putK kvs x.1 x.2) (stored vs y.1 y.2)
    rw [← e1]
    exact q
theorem mergeK_len (kvs ms : List (Key × V)) : (mergeK kvs ms).length ≤ kvs.length + ms.length := by
  induction ms generalizing kvs with
  | nil => exact Nat.le_refl _
  | cons m r ih =>
    have := ih (putK kvs m.1 m.2)
    have h2 := length_putK kvs m.1 m.2
    show (mergeK (putK kvs m.1 m.2) r).length ≤ _
    rw [List.length_cons]
    omega
def rUpdK : V → List V → Hp → VK → Prop := fun x xs H Q => ∃ (a b : Addr) (kvs ms : List (Key × V)), x = .ref a ∧ xs = [.ref b] ∧ a ≠ b ∧ H a = some (.dK kvs) ∧ H b = some (.dK ms) ∧ kvs.length + ms.length ≤ 100000 ∧ Q .non (upd H a (.dK (mergeK kvs ms)))
theorem mt_updK {X : Cx} : MtR X "dict.update" rUpdK := by
  intro pins s σ H x xs v us Q I rx r h
  obtain ⟨a, b, kvs, ms, rfl, rfl, ne, ha, hb, hl, q⟩ := h
  obtain ⟨u1, rfl, r1⟩ := vals1 r
  cases rx
  cases r1
  obtain ⟨z1, s1, vs, rel, d1⟩ := dk_of I.hok ha
  obtain ⟨z2, s2, ws, rel2, d2⟩ := dk_of I.hok hb
  have l1 : vs.length = kvs.length := rel.length.symm
  have l2 : ws.length = ms.length := rel2.length.symm
  refine call_meetsIn PySem.F.slot_dict_update d1.typeIs PySem.F.entry_dict_update (PySem.F.args_dict_update_2 _ _) (meets_dict_update (mixKind X.prog X.w) a b ne s2) ⟨vs, ws, d1, d2, by rw [l1, l2]; exact Nat.le_trans hl (by decide), fun h' e1 e2 sb => ?_⟩
  have he : ∃ o, h'.get? a = some o := let ⟨o, _, _, ho, _⟩ := e1; ⟨o, ho⟩
  have hln : (mergeK kvs ms).length ≤ sizeLine := Nat.le_trans (mergeK_len kvs ms) (Nat.le_trans hl (by decide))
  exact ⟨.non, _, d_write I (by rw [ha]; exact True.intro) sb he (dk_new hln s1 (KV_merge rel rel2) e1), rfl, q⟩
end K1
namespace K1S
open PySem PySem.Spec PyProof.Rows L2 HT
section
variable {prog : Program} {w : World} {A : Around} {E : Value → Shared → Prop} {s : Shared}
theorem backApplied {sl : Addr} {vl vu vs : Value} {Q : Int × Int × Nat → Shared → Prop} (hs : s.heap.IsSliceOf sl vl vu vs) (pl : IsPart vl none) (pu : IsPart vu none) (ps : IsPart vs (some (-1)))
    (h : Q (1, -1, 2) s) : wpAny (model prog w) A (Builtin.Slice.sliceApplied (.ref sl) (pure ((2 : Nat) : Int))) Q E s := by
  obtain ⟨os, hos, hcs, hds⟩ := id hs
  unfold Builtin.Slice.sliceApplied Builtin.Slice.sliceFields
  refine wpAny_bind (wpAny_bind (wpAny_field hos hds (x := vl) rfl (wpAny_bind (wpAny_field hos hds (x := vu) rfl (wpAny_bind (wpAny_field hos hds (x := vs) rfl (wpAny_pure ?_)))))))
  refine wpAny_bind (slicePart_ ps ?_)
  show wpAny _ _ (if ((-1 : Int) == 0) = true then _ else _) _ _ s
  rw [if_neg (by decide)]
  refine wpAny_bind (slicePart_ pl (wpAny_bind (slicePart_ pu (wpAny_bind (wpAny_pure ?_)))))
  exact wpAny_pure h
theorem back2 {t sl : Addr} {x y : Value} {vl vu vs : Value} {Q : Value → Shared → Prop} (ht : IsTup s.heap t #[x, y]) (hs : s.heap.IsSliceOf sl vl vu vs) (pl : IsPart vl none) (pu : IsPart vu none) (ps : IsPart vs (some (-1)))
    (h : Q (.ref s.heap.objs.size) { s with heap := s.heap.push { cls := .type "tuple", data := .seq #[y, x] } }) : wpAny (model prog w) A (getItem (.ref t) (.ref sl)) Q E s := by
  have htake : sizeOk (.seq #[y, x]) := by show 2 ≤ sizeLine; decide
  obtain ⟨os, hos, hcs, hds⟩ := id hs
  have hTs : s.TypeIs (.ref sl) "slice" := ⟨os, hos, hcs⟩
  unfold getItem
  try with_reducible refine wpAny_holding ?_
  first | refine wpAny_bind (wpAny_pure ?_) | skip
  refine wpAny_bind (wpAny_sequenceKey ht.typeIs (by decide) ?_)
  refine wpAny_bind (wpAny_callSpecial?_slot (name := Str.ofString "__getitem__") ht.typeIs PyProof.Rows.slot_tuple_getitem
    (wpAny_call_entry PyProof.Rows.slot_tuple_getitem ht.typeIs entry_tuple_getitem ?_ (args_tuple_getitem _ _)))
  show wpAny _ _ (Builtin.Tuple.tupleItemsOf (.ref t) >>= _) _ _ s
  refine wpAny_bind (tupleItemsOf_ ht ?_)
  refine wpAny_bind (wpAny_typeOf hTs ?_)
  rw [if_pos (by decide)]
  refine wpAny_bind (backApplied hs pl pu ps ?_)
  first
    | exact wpAny_bind (m := Builtin.Tuple.tupleExact _) (wpAny_newObj_type (wpAny_pure ⟨_, rfl, wpAny_pure h⟩) htake)
    | exact wpAny_bind (m := Builtin.Tuple.tupleExact _) (wpAny_newObj_type (wpAny_bind (wpAny_pure (wpAny_pure ⟨_, rfl, wpAny_pure h⟩))) htake)
    | exact wpAny_bind (wpAny_bind (m := Builtin.Tuple.tupleExact _) (wpAny_newObj_type (wpAny_pure (wpAny_pure ⟨_, rfl, wpAny_pure h⟩)) htake))
    | exact wpAny_bind (wpAny_bind (m := Builtin.Tuple.tupleExact _) (wpAny_newObj_type (wpAny_pure ⟨_, rfl, wpAny_pure h⟩) htake))
end
end K1S
namespace K1
open PySem PySem.Spec PyProof.Rows L2
def tBack (K : PySem.W.Frag) (te : TE) : TE := fun σ H Q => te σ H fun v H1 => ∃ a x y, v = .ref a ∧ SqT K H1 a [x, y] ∧ ∀ p, H1 p = none → Q (.ref p) (upd H1 p (.tup [y, x]))
theorem pe_back {X : Cx} {e : Expr} {te : TE} {k : Nat} {p1 p2 p3 pos : Pos} (he : PE X e te) : PE X (.Subscript e (.Slice none none (some (.UnaryOp .USub (.Constant (.int 1) k p1) p2)) p3) pos) (tBack X.K te) := by
  refine ⟨fun pins s σ H Q I h => ?_⟩
  refine Subscript_ (thn (he.run pins s σ H _ I h) fun v s1 ⟨v1, H1, I1, r1, q1⟩ => ?_)
  obtain ⟨a, x, y, ex, hx, q⟩ := q1
  subst ex
  cases r1
  have hst : PO X (some (.UnaryOp .USub (.Constant (.int 1) k p1) p2)) (tPart (tUn (rU fun i => .int (-i)) (tC (.int 1)))) := po_some (pe_un un_neg pe_int)
  refine wpAny_Slice (thn (po_none.run pins s1 σ H1 (fun o H2 => o = none ∧ H2 = H1) I1 ⟨rfl, rfl⟩) fun vl s2 ⟨l, H2, I2, pl, el, e2⟩ => ?_)
  subst el e2
  refine thn (po_none.run pins s2 σ H2 (fun o H3 => o = none ∧ H3 = H2) I2 ⟨rfl, rfl⟩) fun vu s3 ⟨u, H3, I3, pu, eu, e3⟩ => ?_
  subst eu e3
  refine thn (hst.run pins s3 σ H3 (fun o H4 => o = some (-1) ∧ H4 = H3) I3 ⟨1, rfl, -1, rfl, rfl, rfl⟩) fun vs s4 ⟨o, H4, I4, ps, eo, e4⟩ => ?_
  subst eo e4
  have I5 : Inv X pins σ H4 { s4 with heap := s4.heap.push { cls := .type "slice", data := .fields #[vl, vu, vs] } } := I4.kept (t' := s4.toks) fun b ob q => Heap.get?_push_of_some _ q
  obtain ⟨its, r, ht, hz⟩ := I5.tuple hx
  obtain ⟨u1, u2, rfl, ra, rb⟩ := vals2 r
  show wpAny (model X.prog X.w) X.A (subscriptTail e (.Slice none none (some (.UnaryOp .USub (.Constant (.int 1) k p1) p2)) p3) (.ref a) (.ref s4.heap.objs.size)) (EP X pins σ Q) X.xe { s4 with heap := s4.heap.push { cls := .type "slice", data := .fields #[vl, vu, vs] } }
  refine tail_any (ops := [.ref a, .ref s4.heap.objs.size]) ht.typeIs (PyProof.Rows.slot_tuple_getitem.lookup) ?_ (by with_unfolding_all rfl)
  refine K1S.back2 ht (Heap.IsSliceOf.new _ vl vu vs) pl pu ps ?_
  refine ⟨.ref _, _, I5.laid (t' := s4.toks) (o := .tup [y, x]) (fun b ob q => Heap.get?_push_of_some _ q) (Nat.le_refl _) ?_, rfl, q _ (I5.hok.fresh (Nat.le_refl _))⟩
  exact ⟨by show 2 ≤ sizeLine; decide, [u2, u1], .cons rb (.cons ra .nil), IsTup.new _ _⟩
end K1
end
-- KLaw1
section
set_option Elab.async false
set_option linter.all false
set_option maxRecDepth 100000
set_option maxHeartbeats 4000000
namespace K1
open PySem PySem.Spec PyProof.Rows L2
abbrev sSpring : Stmt := top 27
abbrev sVN : Stmt := top 33
def spSpring (K : PySem.W.Frag) : Sp := fun vs H Q _ => ∃ (a : Addr) (t : Int) (ns : List Int), vs = [.ref a, .int t] ∧ SqL K H a (ns.map V.int) ∧ 0 ≤ t ∧ t ≤ 1000 ∧ ns.length ≤ 1000 ∧ ∀ p H', Same H H' → H p = none → Spr H' p 0 → Q (.ref p) H'
theorem scSpring : FnScope ["script", "turn", "cell", "mixed", "at", "one"] ["script", "turn"] (defScope sSpring) := ⟨rfl, rfl, rfl, by decide +kernel, rfl, by decide +kernel, by decide +kernel⟩
theorem atI_map {ns : List Int} {t : Int} (h0 : 0 ≤ t) (h1 : t < (ns.length : Int)) : ∃ n : Int, atI (ns.map V.int) t = some (.int n) := by
  have hk : t.toNat < ns.length := by omega
  have q : atI (ns.map V.int) ((t.toNat : Nat) : Int) = some (.int ns[t.toNat]) := atI_nat (by rw [List.getElem?_map, List.getElem?_eq_getElem hk]; rfl)
  rw [show ((t.toNat : Nat) : Int) = t by omega] at q
  exact ⟨_, q⟩
section
variable {P : Program} {w : World} {K : PySem.W.Frag} {mg : Str → Option Value} {base : Heap}
theorem ok_spring {f : Addr} {fd : FuncData} (F : Fun K "_law_spring" "_law_spring" sSpring f fd) (B : Bl mg) (me : mg "enumerate" = none) : FnOk P w K mg base CX0 1 f fd ["script", "turn"] (spSpring K) := by
  refine F.ok scSpring (fun vs H Q E h => ?_) (fun cdv A outer s H vs Q E hr h => ?_)
  · obtain ⟨a, t, ns, rfl, _⟩ := h
    rfl
  obtain ⟨a, t, ns, rfl, hS, t0, t1, hl, q⟩ := h
  have nd := scSpring.nd
  refine ⟨_, pss_cons (by exact (ps_par (i := 2) (j := 3) rfl nd rfl rfl (by decide) rfl rfl (pa_cons (pe_ifExp (pt_cmpR op_lt (pv 1) (pe_callB call_len_seq rfl B.len PySem.boot_len (pa_cons (pv 0) pa_nil)) (nomark _)) (pe_ix ix_list (pv 0) (pv 1) (fun _ _ => rfl))
      (pe_op op_add (pe_op op_add (pe_op op_mul pe_int (pv 1)) pe_int) (pe_callB call_len_seq rfl B.len PySem.boot_len (pa_cons (pv 0) pa_nil)))) (pa_cons (pe_op op_add pe_int (pe_op op_mul pe_int (pv 1))) pa_nil)) (by rfl)))
    (pss_cons (by exact (ps_for PassesOwn.never rfl (by exact pi_enum rfl me (pa_cons (pe_slice sl_list (pv 0) po_none (po_some pe_int)) pa_nil)) (pg_tup rfl (pgs_cons (pg_name (i := 4) nd rfl (.inl rfl)) (pgs_cons (pg_name (i := 5) nd rfl (.inl rfl)) pgs_nil)))
      (pss_one (by exact (ps_set (i := 3) nd rfl (.inl rfl) (pe_op op_mod (pe_callTy call_int1 rfl B.int PyProof.Rows.boot_int (pa_cons (pe_op op_add (pe_op op_add (pe_op op_add (pe_op op_mul (pv 3) pe_int) (pv 5)) (pe_op op_mul pe_int (pv 4))) pe_int) pa_nil)) pe_int))))))
    (pss_one (by exact (ps_ret (pe_lst (pa_cons (pe_ifExp (pt_cmpR op_ge (pv 2) (pe_op op_pow pe_int pe_int) (nomark _)) (pv 2) pe_int)
      (pa_cons (pe_op op_mod (pe_callTy call_int1 rfl B.int PyProof.Rows.boot_int (pa_cons (pe_op op_add (pv 3) (pe_op op_mul pe_int (pv 2))) pa_nil)) pe_int) (pa_cons pe_int pa_nil)))))))), ?_⟩
  have hlen : (ns.map V.int).length = ns.length := List.length_map _
  refine ⟨_, rfl, _, rfl, a, _, rfl, .inl hS, _, _, rfl, rfl, _, rfl, ?_⟩
  refine ite2 (fun c => ?_) (fun c => ?_)
  all_goals first
    | (have c' : t < (((ns.map V.int).length : Nat) : Int) := of_decide_eq_true c
       rw [hlen] at c'
       obtain ⟨cell, ec⟩ := atI_map t0 c'
       refine ⟨_, rfl, _, rfl, a, _, _, _, rfl, rfl, hS, ec, ?_⟩)
    | refine ⟨_, rfl, _, _, rfl, rfl, .inl (by constructor <;> decide), _, _, rfl, rfl, _, rfl, a, _, rfl, .inl hS, _, _, rfl, rfl, ?_⟩
  all_goals
    refine ⟨_, rfl, _, _, rfl, rfl, .inl (by constructor <;> decide), _, _, rfl, rfl, _, _, rfl, ?_⟩
    refine ⟨_, rfl, 64, rfl, a, _, rfl, hS, fun L hL => ⟨L, _, rfl, SqL.of upd_same, ?_⟩⟩
    have eL := K1.Same.upd (o := .lst (cutV (ns.map V.int) none (some 64))) hL
    refine for_it (walk_enum (K := K)) (fun i σ Hc => (∃ (c m : Int) (sa sb : Option V), σ = [some (.ref a), some (.int t), some (.int c), some (.int m), sa, sb] ∧ 0 ≤ m ∧ m < 1000000000000) ∧ Same H Hc ∧ Hc L = some (.lst (cutV (ns.map V.int) none (some 64)))) ⟨⟨_, _, _, _, rfl, by omega, by omega⟩, eL, upd_same⟩ (fun i σ Hc _ h => SqL.of h.2.2) ?_ ?_
    · rintro i x σ Hc H' hi ⟨⟨c, m, sa, sb, rfl, m0, m1⟩, h1, h2⟩ ⟨T, x1, x2, rfl, hT, rfl, e1', e2'⟩
      obtain rfl : x1 = .int (i : Nat) := (Option.some.inj e1').symm
      have e2' : (cutV (ns.map V.int) none (some 64))[i]? = some x2 := e2'
      obtain ⟨n, rfl⟩ : ∃ n : Int, x2 = .int n := by
        have m1 := List.mem_of_mem_drop (List.mem_of_mem_take (List.mem_of_getElem? e2'))
        obtain ⟨n, _, e⟩ := List.mem_map.mp m1
        exact ⟨n, e.symm⟩
      have hT2 := K1.Same.upd (H := Hc) (p := T) (o := .tup [.int (i : Nat), .int n]) hT
      refine ⟨T, _, rfl, SqT.of upd_same, rfl, _, _, rfl, _, _, rfl, rfl, ?_⟩
      refine ⟨_, rfl, _, _, rfl, rfl, .inl ⟨by omega, by omega⟩, _, rfl, _, _, rfl, rfl, _, rfl, _, _, rfl, rfl, .inl (by constructor <;> decide), _, _, rfl, rfl, _, _, rfl, rfl, .inl ⟨_, rfl, _, _, rfl, rfl, (by show (0 : Int) < 2147483543; decide), ?_⟩⟩
      refine ⟨⟨c, _, _, _, rfl, Int.emod_nonneg _ (by decide), ?_⟩, h1.trans hT2, hT2 _ _ h2⟩
      have := Int.emod_lt_of_pos (m * 69621 + n + 9 * (i : Nat) + 5) (show (0 : Int) < 2147483543 by decide)
      omega
    · rintro σ Hc ⟨⟨c, m, sa, sb, rfl, m0, m1⟩, h1, h2⟩
      refine ⟨_, rfl, _, _, rfl, rfl, ⟨by decide, by decide, by decide⟩, _, _, rfl, rfl, _, rfl, ?_⟩
      have y0 := Int.emod_nonneg (m + 53 * c) (show (2147483543 : Int) ≠ 0 by decide)
      have y1 := Int.emod_lt_of_pos (m + 53 * c) (show (0 : Int) < 2147483543 by decide)
      refine ite2 (fun c2 => ?_) (fun c2 => ?_)
      · have c3 : c ≥ 10 ^ ((18 : Int).toNat) := of_decide_eq_true c2
        refine ⟨_, rfl, _, rfl, _, rfl, _, _, rfl, rfl, .inl (by constructor <;> decide), _, _, rfl, rfl, .inl ⟨_, rfl, _, _, rfl, rfl, (by show (0 : Int) < 2147483543; decide), (by show 3 ≤ sizeLine; decide), fun l hl => ?_⟩⟩
        exact q l _ (h1.trans (K1.Same.upd hl)) (h1.free hl) ⟨c, _, 0, upd_same, Int.le_trans (by decide) c3, y0, y1, Int.le_refl 0, Int.le_refl 0⟩
      · refine ⟨_, rfl, _, rfl, _, _, rfl, rfl, .inl (by constructor <;> decide), _, _, rfl, rfl, .inl ⟨_, rfl, _, _, rfl, rfl, (by show (0 : Int) < 2147483543; decide), (by show 3 ≤ sizeLine; decide), fun l hl => ?_⟩⟩
        exact q l _ (h1.trans (K1.Same.upd hl)) (h1.free hl) ⟨0, _, 0, upd_same, Int.le_refl 0, y0, y1, Int.le_refl 0, Int.le_refl 0⟩
end
end K1
end
-- KLaw2
section
set_option Elab.async false
set_option linter.all false
set_option maxRecDepth 100000
set_option maxHeartbeats 4000000
namespace K1
open PySem PySem.Spec PyProof.Rows L2
def names12 : List Str := ["c3", "b", "z", "aa", "mill", "a", "x0", "eightsgn", "q", "no", "y7", "m1"]
def nameK (k : Nat) : Str := ("h" : Str) ++ Str.ofString (toString ((0 : Int) + (k : Int)))
def names60 : List Str := (List.range 60).map nameK
def goodB (ss : List Str) : Bool := ss.Nodup && ss.all fun s => nameOk s && decide (s.length ≤ 1000)
theorem good_of {ss : List Str} (h : decide ss.Nodup = true) (h2 : (ss.all fun s => nameOk s && decide (s.length ≤ 1000)) = true) : Good ss := by
  refine ⟨of_decide_eq_true h, fun s hs => ?_⟩
  have := List.all_eq_true.mp h2 s hs
  exact ⟨(Bool.and_eq_true_iff.mp this).1, of_decide_eq_true (Bool.and_eq_true_iff.mp this).2⟩
theorem good12 : Good names12 := good_of (by decide +kernel) (by decide +kernel)
theorem good60 : Good names60 := good_of (by decide +kernel) (by decide +kernel)
theorem Good.perm {as bs : List Str} (g : Good bs) (p : as.Perm bs) : Good as := ⟨p.nodup_iff.mpr g.1, fun s hs => g.2 s (p.mem_iff.mp hs)⟩
theorem Good.take {as : List Str} (g : Good as) (n : Nat) : Good (as.take n) := ⟨g.1.sublist (List.take_sublist _ _), fun s hs => g.2 s (List.mem_of_mem_take hs)⟩
def unS : V → Str
  | .str s => s
  | _ => ""
theorem unS_map (ss : List Str) : (ss.map V.str).map unS = ss := by
  rw [List.map_map]
  exact List.map_id _
theorem perm_str {ys : List V} {ss : List Str} (p : ys.Perm (ss.map V.str)) : ∃ ts : List Str, ys = ts.map V.str ∧ ts.Perm ss := by
  refine ⟨ys.map unS, ?_, by have := p.map unS; rwa [unS_map] at this⟩
  rw [List.map_map]
  have : ∀ y ∈ ys, (V.str ∘ unS) y = y := fun y hy => by
    obtain ⟨s, _, rfl⟩ := List.mem_map.mp (p.mem_iff.mp hy)
    rfl
  exact (List.map_congr_left this).trans (List.map_id _) |>.symm
theorem cut_to (xs : List V) (k : Nat) : cutV xs none (some (k : Int)) = xs.take k := by
  unfold cutV
  rw [HT.sIx_none, HT.sIx_nat, List.drop_zero, Nat.sub_zero]
  by_cases h : k ≤ xs.length
  · rw [Nat.min_eq_left h]
  · rw [Nat.min_eq_right (by omega), List.take_length, List.take_of_length_le (by omega)]
def NoB (ss : List Str) : Prop := ∀ s ∈ ss, s ≠ "nobody"
theorem nob12 : NoB names12 := by
  have : (names12.all fun s => decide (s ≠ "nobody")) = true := by decide +kernel
  exact fun s hs => of_decide_eq_true (List.all_eq_true.mp this s hs)
theorem nob60 : NoB names60 := by
  have : (names60.all fun s => decide (s ≠ "nobody")) = true := by decide +kernel
  exact fun s hs => of_decide_eq_true (List.all_eq_true.mp this s hs)
def spVN : Sp := fun vs H Q _ => ∃ (a : Addr) (l m : Int) (n : Nat), vs = [.ref a, .int l, .int m] ∧ Spr H a n ∧ n + 2000 ≤ 1000000 ∧ 1 ≤ l ∧ l ≤ m ∧ m ≤ 60 ∧
  ∀ (r : Addr) (ss : List Str) (H' : Hp), H r = none → r ≠ a → Kept a H H' → Spr H' a (n + 100) → H' r = some (.lst (ss.map V.str)) → Good ss → NoB ss → l ≤ (ss.length : Int) → (ss.length : Int) ≤ m → Q (.ref r) H'
theorem scVN : FnScope ["spring", "least", "most", "many", "some", "k"] ["spring", "least", "most"] (defScope sVN) := ⟨rfl, rfl, rfl, by decide +kernel, rfl, by decide +kernel, by decide +kernel⟩
section
variable {P : Program} {w : World} {K : PySem.W.Frag} {mg : Str → Option Value} {base : Heap} {fD fM : Addr} {fdD fdM : FuncData}
theorem ok_VN {f : Addr} {fd : FuncData} (F : Fun K "_law_v_names" "_law_v_names" sVN f fd) (B : Bl mg) (mr : mg "range" = none)
    (G : FnOk P w K mg base CX0 1 fD fdD ["spring", "many"] spDraw) (b : Binds K fdD ["spring", "many"] []) (k : PySem.W.keepIn K (.ref fD) = true) (m : mg "_law_draw" = some (.ref fD))
    (GM : FnOk P w K mg base CX0 2 fM fdM ["spring", "some"] spMixed) (bM : Binds K fdM ["spring", "some"] []) (kM : PySem.W.keepIn K (.ref fM) = true) (mM : mg "_law_mixed" = some (.ref fM)) :
    FnOk P w K mg base CX0 3 f fd ["spring", "least", "most"] spVN := by
  refine F.ok scVN (fun vs H Q E h => ?_) (fun cdv A outer s H vs Q E hr h => ?_)
  · obtain ⟨a, l, mo, n, rfl, _⟩ := h
    rfl
  obtain ⟨a, l, mo, n, rfl, hs, hn, hl, hlm, hm, q⟩ := h
  have nd := scVN.nd
  have hr1 : Room 1 _ := hr.mono (by decide)
  refine ⟨_, (pss_cons (by exact (ps_set (i := 3) nd rfl (.inl rfl) (pe_op op_add (pv 1) (pe_call G hr1 rfl m k b .nil pass0 (pa_cons (pv 0) (pa_cons (pe_op op_add (pe_op op_sub (pv 2) (pv 1)) pe_int) pa_nil)))))) (pss_cons (by exact (ps_set (i := 4) nd rfl (.inl rfl) (pe_lst (pa_cons pe_str (pa_cons pe_str (pa_cons pe_str (pa_cons pe_str (pa_cons pe_str (pa_cons pe_str (pa_cons pe_str (pa_cons pe_str (pa_cons pe_str (pa_cons pe_str (pa_cons pe_str (pa_cons pe_str pa_nil))))))))))))))) (pss_one (by exact (ps_ret (pe_slice sl_list (pe_call GM hr rfl mM kM bM .nil pass0 (pa_cons (pv 0) (pa_cons (pe_ifExp (pt_cmpR op_le (pv 3) pe_int (nomark _)) (pv 4) (pe_lc (own := [("k", 5)]) (g := gName 5) (tt := tYes) rfl nd (by exact pi_range1 rfl mr (pa_cons pe_int pa_nil)) (by exact blkOk_by (N := ["spring", "least", "most", "many", "some", "k"]) (sc := defScope sVN) (by decide +kernel)) (fun _ _ _ _ _ => by exact (pg_name (i := 5) nd rfl (.inl rfl))) (fun _ _ _ _ _ => by exact pts_nil) (fun _ _ _ _ _ => by exact (pe_op op_add_str pe_str (pe_callTy call_str_int rfl B.str PyProof.Rows.boot_str (pa_cons (pv 5) pa_nil)))))) pa_nil))) po_none (po_some (pv 3)))))))), ?_⟩
  refine ⟨_, rfl, _, rfl, _, rfl, _, rfl, _, _, rfl, rfl, _, _, rfl, rfl, a, _, n, rfl, hs, by omega, by omega, ?_, fun d H1 d0 d1 kp s1 => ?_⟩
  · have : (mo - l + 1).natAbs ≤ 100 := by omega
    exact Nat.lt_of_le_of_lt this (by decide)
  refine ⟨_, _, rfl, rfl, (by show 12 ≤ sizeLine; decide), fun L hL => ?_⟩
  have La := s1.ne hL
  have LH : H L = none := by
    cases e : H L with
    | none => rfl
    | some o => rw [kp _ _ La e] at hL; cases hL
  have k2 : Kept a H (L2.upd H1 L (.lst (names12.map V.str))) := kp.trans (Kept.new hL)
  have s2 : Spr (L2.upd H1 L (.lst (names12.map V.str))) a (n + 1) := s1.upd La
  have fin : ∀ (p : Addr) (ts : List Str) (Hx : Hp), Good ts → NoB ts → ts.length ≤ 60 → (l + d ≤ (ts.length : Int)) → Hx p = some (.lst (ts.map V.str)) → p ≠ a → Kept a H Hx → Spr Hx a (n + 1) →
      spMixed [.ref a, .ref p] Hx (fun v H' => ∃ r xs, v = .ref r ∧ SqL K H' r xs ∧ ∀ z, H' z = none → Q (.ref z) (L2.upd H' z (.lst (cutV xs none (some (l + d)))))) E0 := by
    intro p ts Hx gt nbt lt hk hp pa kx sx
    refine ⟨a, p, ts.map V.str, n + 1, rfl, sx, by omega, hp, pa, by rw [List.length_map]; omega, fun r ys H3 pm rn ra hr3 k3 s3 => ?_⟩
    obtain ⟨us, rfl, pu⟩ := perm_str pm
    refine ⟨r, _, rfl, SqL.of hr3, fun z hz => ?_⟩
    have za := s3.ne hz
    have e : cutV (us.map V.str) none (some (l + d)) = (us.take (l + d).toNat).map V.str := by
      rw [show l + d = (((l + d).toNat : Nat) : Int) by omega, cut_to, ← List.map_take]
      rfl
    have lu := pu.length_eq
    have k4 := kx.trans k3
    have zH : H z = none := by
      cases e : H z with
      | none => rfl
      | some o => rw [k4 _ _ za e] at hz; cases hz
    refine q z (us.take (l + d).toNat) _ zH za (k4.trans (Kept.new hz)) ((s3.upd za).mono (by rw [List.length_map]; omega)) (by rw [upd_same, e]) ((gt.perm pu).take _) (fun s hs => nbt s (pu.mem_iff.mp (List.mem_of_mem_take hs))) ?_ ?_
    · rw [List.length_take]; omega
    · rw [List.length_take]; omega
  refine ⟨_, rfl, _, rfl, _, _, rfl, rfl, _, rfl, ?_⟩
  refine ite2 (fun c => ?_) (fun c => ?_)
  · have c' : l + d ≤ 12 := of_decide_eq_true c
    refine ⟨_, rfl, ?_⟩
    obtain ⟨a', p', xs, n', e1, e2, e3, e4, e5, e6, e7⟩ := fin L names12 _ good12 nob12 (by decide) c' upd_same La k2 s2
    refine ⟨a', p', xs, n', e1, e2, e3, e4, e5, e6, fun r ys H' x1 x2 x3 x4 x5 x6 => ?_⟩
    obtain ⟨r', ws, y1, y2, y3⟩ := e7 r ys H' x1 x2 x3 x4 x5 x6
    exact ⟨_, rfl, _, rfl, r', ws, y1, y2, y3⟩
  · refine ⟨60, rfl, by decide, by decide, fun D hD => ?_⟩
    have DL : D ≠ L := fun z => by rw [z, upd_same] at hD; cases hD
    have Da := s2.ne hD
    refine lc_range (fun i Hc => Same (L2.upd H1 L (.lst (names12.map V.str))) Hc ∧ Hc D = some (.lst ((names60.take i).map V.str))) ⟨K1.Same.upd hD, upd_same⟩ ?_ ?_
    · rintro i Hc hi ⟨f1, f2⟩
      refine ⟨rfl, ?_⟩
      unfold tYes
      refine iteT ?_
      have hi2 : i < 60 := hi
      have e60 : names60[i]? = some (nameK i) := by
        unfold names60
        rw [List.getElem?_map, List.getElem?_range hi2]
        rfl
      refine ⟨_, rfl, _, rfl, ?_, _, _, rfl, rfl, ?_, _, f2, ?_, fun b o nn => ?_, ?_⟩
      · have : ((0 : Int) + (i : Int)).natAbs < 64 := by omega
        exact Nat.lt_of_le_of_lt (Nat.log2_le_self _) (by omega)
      · have := (good60.2 (nameK i) (List.mem_of_getElem? e60)).2
        unfold nameK at this
        have e : (("h" : Str) ++ Str.ofString (toString ((0 : Int) + (i : Int)))).length = ("h" : Str).length + (Str.ofString (toString ((0 : Int) + (i : Int)))).length := Array.size_append
        rw [e] at this
        exact Nat.le_trans this (by decide)
      · rw [List.length_map]
        exact small1000 (Nat.le_trans (List.length_take_le _ _) (by omega))
      · rw [upd_ne (ne_of_none nn hD)]
        exact f1 b o nn
      · rw [upd_same, map_take_succ e60]
        rfl
    · rintro Hc ⟨f1, f2⟩
      have l60 : names60.length = 60 := by decide +kernel
      have f3 : Hc D = some (.lst (names60.map V.str)) := by
        have e : names60.take 60 = names60 := List.take_of_length_le (by rw [l60]; decide)
        rw [← e]
        exact f2
      have k3 : Kept a (L2.upd H1 L (.lst (names12.map V.str))) Hc := Kept.same f1
      have s3 : Spr Hc a (n + 1) := by
        obtain ⟨x, y, z, e, r⟩ := s2
        exact ⟨x, y, z, f1 _ _ e, r⟩
      obtain ⟨a', p', xs, n', e1, e2, e3, e4, e5, e6, e7⟩ := fin D names60 Hc good60 nob60 (by rw [l60]; decide) (by rw [l60]; omega) f3 Da (k2.trans k3) s3
      refine ⟨a', p', xs, n', e1, e2, e3, e4, e5, e6, fun r ys H' x1 x2 x3 x4 x5 x6 => ?_⟩
      obtain ⟨r', ws, y1, y2, y3⟩ := e7 r ys H' x1 x2 x3 x4 x5 x6
      exact ⟨_, rfl, _, rfl, r', ws, y1, y2, y3⟩
end
end K1
end
-- KLaw3
section
set_option Elab.async false
set_option linter.all false
set_option maxRecDepth 100000
set_option maxHeartbeats 4000000
namespace K1
open PySem PySem.Spec PyProof.Rows L2
abbrev sVRo : Stmt := top 34
/-- each road parts its two ends, and no other road's -/
def Cut (rs : List (Str × Str)) : Prop := rs.Nodup ∧ ∀ e ∈ rs, ∃ c : Str → Bool, c e.1 ≠ c e.2 ∧ ∀ e' ∈ rs, e' ≠ e → c e'.1 = c e'.2
theorem Cut.nil : Cut [] := ⟨List.nodup_nil, fun e he => absurd he (by simp)⟩
theorem Cut.perm {as bs : List (Str × Str)} (h : Cut bs) (p : as.Perm bs) : Cut as := by
  refine ⟨p.nodup_iff.mpr h.1, fun e he => ?_⟩
  obtain ⟨c, h1, h2⟩ := h.2 e (p.mem_iff.mp he)
  exact ⟨c, h1, fun e' he' n => h2 e' (p.mem_iff.mp he') n⟩
theorem Cut.add {rs : List (Str × Str)} {u v : Str} {e0 : Str × Str} (h : Cut rs) (hv : ∀ r ∈ rs, r.1 ≠ v ∧ r.2 ≠ v) (huv : u ≠ v) (he : e0 = (u, v) ∨ e0 = (v, u)) : Cut (rs ++ [e0]) := by
  have ends : (e0.1 = u ∧ e0.2 = v) ∨ (e0.1 = v ∧ e0.2 = u) := he.imp (fun h => by rw [h]; exact ⟨rfl, rfl⟩) (fun h => by rw [h]; exact ⟨rfl, rfl⟩)
  have n0 : ¬ e0 ∈ rs := fun hm => by
    rcases ends with ⟨_, z⟩ | ⟨z, _⟩
    · exact (hv e0 hm).2 z
    · exact (hv e0 hm).1 z
  refine ⟨?_, fun e hm => ?_⟩
  · rw [List.nodup_append]
    refine ⟨h.1, by simp, fun x hx y hy => ?_⟩
    rw [List.mem_singleton.mp hy]
    intro z
    rw [z] at hx
    exact n0 hx
  · rcases List.mem_append.mp hm with hm | hm
    · obtain ⟨c, h1, h2⟩ := h.2 e hm
      refine ⟨fun s => if s = v then c u else c s, ?_, fun e' he' n => ?_⟩
      · show (if e.1 = v then c u else c e.1) ≠ (if e.2 = v then c u else c e.2)
        rw [if_neg (hv e hm).1, if_neg (hv e hm).2]
        exact h1
      · show (if e'.1 = v then c u else c e'.1) = (if e'.2 = v then c u else c e'.2)
        rcases List.mem_append.mp he' with he' | he'
        · rw [if_neg (hv e' he').1, if_neg (hv e' he').2]
          exact h2 e' he' n
        · rw [List.mem_singleton.mp he']
          rcases ends with ⟨z1, z2⟩ | ⟨z1, z2⟩
          · rw [z1, z2, if_neg huv, if_pos rfl]
          · rw [z1, z2, if_neg huv, if_pos rfl]
    · rw [List.mem_singleton.mp hm]
      refine ⟨fun s => decide (s = v), ?_, fun e' he' n => ?_⟩
      · show decide (e0.1 = v) ≠ decide (e0.2 = v)
        rcases ends with ⟨z1, z2⟩ | ⟨z1, z2⟩
        · rw [z1, z2, decide_eq_false huv, decide_eq_true rfl]; decide
        · rw [z1, z2, decide_eq_false huv, decide_eq_true rfl]; decide
      · show decide (e'.1 = v) = decide (e'.2 = v)
        rcases List.mem_append.mp he' with he' | he'
        · rw [decide_eq_false (hv e' he').1, decide_eq_false (hv e' he').2]
        · exact absurd (List.mem_singleton.mp he') n
theorem nodup_take_not' {α : Type} {ss : List α} (h : ss.Nodup) {i : Nat} (hi : i < ss.length) : ¬ ss[i] ∈ ss.take i := fun hm => by
  obtain ⟨j, hj, ej⟩ := List.getElem_of_mem hm
  rw [List.length_take] at hj
  rw [List.getElem_take] at ej
  have := (List.getElem_inj h).mp ej
  omega
theorem col_join {c : Str → Bool} {rt : Str → Str} {a b : Str} (h : ∀ s, c (rt s) = c s) (e : c a = c b) (s : Str) : c (joinRt rt a b s) = c s := by
  unfold joinRt
  by_cases z : rt s = rt a
  · rw [if_pos z, h, ← e, ← h a, ← z, h]
  · rw [if_neg z, h]
theorem col_rt {c : Str → Bool} : ∀ (n : Nat) {rs : List (Str × Str)}, rs.length = n → (∀ e ∈ rs, c e.1 = c e.2) → ∀ s, c (rtOf rs s) = c s
  | 0, rs, h0, _, s => by rw [List.length_eq_zero_iff.mp h0]; rfl
  | n + 1, rs, h0, h, s => by
    have hne : rs ≠ [] := fun z => by rw [z] at h0; cases h0
    have e := List.dropLast_concat_getLast hne
    rw [← e, rtOf_snoc]
    refine col_join (fun t => col_rt n (by rw [List.length_dropLast]; omega) (fun e he => h e ((List.dropLast_sublist _).mem he)) t) (h _ (List.getLast_mem hne)) s
theorem Cut.forest {rs : List (Str × Str)} (h : Cut rs) : Forest rs := by
  intro i hi z
  obtain ⟨c, h1, h2⟩ := h.2 rs[i] (List.getElem_mem hi)
  have hc : ∀ s, c (rtOf (rs.take i) s) = c s := col_rt _ rfl fun e he => h2 e (List.mem_of_mem_take he) (fun q => nodup_take_not' h.1 hi (by rw [← q]; exact he))
  exact h1 (by rw [← hc rs[i].1, z, hc])
def spVRo : Sp := fun vs H Q _ => ∃ (a p : Addr) (n : Nat) (ss : List Str), vs = [.ref a, .ref p] ∧ Spr H a n ∧ n + 2000 ≤ 1000000 ∧ H p = some (.lst (ss.map V.str)) ∧ p ≠ a ∧ Good ss ∧ 1 ≤ ss.length ∧ ss.length ≤ 60 ∧
  ∀ (r : Addr) (qs : List Addr) (rs : List (Str × Str)) (H' : Hp), H r = none → r ≠ a → Kept a H H' → Spr H' a (n + 400) → H' r = some (.lst (qs.map V.ref)) → Paired (TupP H') qs rs → (∀ q ∈ qs, H q = none) → Cut rs → EndsIn ss rs → rs.length + 1 = ss.length → Q (.ref r) H'
theorem scVRo : FnScope ["spring", "names", "shape", "found", "k", "at", "pair"] ["spring", "names"] (defScope sVRo) := ⟨rfl, rfl, rfl, by decide +kernel, rfl, by decide +kernel, by decide +kernel⟩
theorem at4 {a0 a1 a2 a3 s : Int} (h0 : 0 ≤ s) (h1 : s < 4) : ∃ x : Int, atI [V.int a0, V.int a1, V.int a2, V.int a3] s = some (.int x) ∧ (x = a0 ∨ x = a1 ∨ x = a2 ∨ x = a3) := by
  have : s = 0 ∨ s = 1 ∨ s = 2 ∨ s = 3 := by omega
  rcases this with rfl | rfl | rfl | rfl
  · exact ⟨a0, rfl, .inl rfl⟩
  · exact ⟨a1, rfl, .inr (.inl rfl)⟩
  · exact ⟨a2, rfl, .inr (.inr (.inl rfl))⟩
  · exact ⟨a3, rfl, .inr (.inr (.inr rfl))⟩
def unR : V → Addr
  | .ref a => a
  | _ => 0
theorem paired_perm {H : Hp} {qs : List Addr} {rs : List (Str × Str)} (h : Paired (TupP H) qs rs) {ys : List V} (p : ys.Perm (qs.map V.ref)) : ∃ qs' rs', ys = qs'.map V.ref ∧ qs'.Perm qs ∧ rs'.Perm rs ∧ Paired (TupP H) qs' rs' := by
  have e1 : ys = (ys.map unR).map V.ref := by
    rw [List.map_map]
    have : ∀ y ∈ ys, (V.ref ∘ unR) y = y := fun y hy => by
      obtain ⟨s, _, rfl⟩ := List.mem_map.mp (p.mem_iff.mp hy)
      rfl
    exact (List.map_congr_left this).trans (List.map_id _) |>.symm
  have p2 : (ys.map unR).Perm qs := by
    have := p.map unR
    rw [List.map_map] at this
    exact this.trans (List.Perm.of_eq (List.map_id _))
  have key : ∀ {as bs : List Addr}, as.Perm bs → ∀ {ts : List (Str × Str)}, Paired (TupP H) bs ts → ∃ us, us.Perm ts ∧ Paired (TupP H) as us := by
    intro as bs pm
    induction pm with
    | nil => intro ts h; cases h; exact ⟨[], .nil, .nil⟩
    | cons x _ ih =>
      intro ts h
      cases h with
      | cons f r =>
        obtain ⟨us, q1, q2⟩ := ih r
        exact ⟨_ :: us, q1.cons _, .cons f q2⟩
    | swap x y l =>
      intro ts h
      cases h with
      | cons f r =>
        cases r with
        | cons f2 r2 => exact ⟨_ :: _ :: _, .swap _ _ _, .cons f2 (.cons f r2)⟩
    | trans _ _ ih1 ih2 =>
      intro ts h
      obtain ⟨us, q1, q2⟩ := ih2 h
      obtain ⟨ws, q3, q4⟩ := ih1 q2
      exact ⟨ws, q3.trans q1, q4⟩
  obtain ⟨us, q1, q2⟩ := key p2 h
  exact ⟨_, us, e1, p2, q1, q2⟩
theorem Spr.tup {H : Hp} {a q : Addr} {n : Nat} {xs : List V} (h : Spr H a n) (e : H q = some (.tup xs)) : q ≠ a := fun z => by
  obtain ⟨x, y, z2, e2, _⟩ := h
  rw [z, e2] at e
  cases e
theorem TupP.kept {H H' : Hp} {a : Addr} {n : Nat} {qs : List Addr} {rs : List (Str × Str)} (h : Paired (TupP H) qs rs) (s : Spr H a n) (k : Kept a H H') : Paired (TupP H') qs rs := paired_imp (fun _ _ q => k _ _ (s.tup q) q) h
section
variable {P : Program} {w : World} {K : PySem.W.Frag} {mg : Str → Option Value} {base : Heap} {fD fM : Addr} {fdD fdM : FuncData}
theorem ok_VRo {f : Addr} {fd : FuncData} (F : Fun K "_law_v_roads" "_law_v_roads" sVRo f fd) (B : Bl mg) (mr : mg "range" = none) (mx : mg "max" = none)
    (G : FnOk P w K mg base CX0 1 fD fdD ["spring", "many"] spDraw) (b : Binds K fdD ["spring", "many"] []) (k : PySem.W.keepIn K (.ref fD) = true) (m : mg "_law_draw" = some (.ref fD))
    (GM : FnOk P w K mg base CX0 2 fM fdM ["spring", "some"] spMixed) (bM : Binds K fdM ["spring", "some"] []) (kM : PySem.W.keepIn K (.ref fM) = true) (mM : mg "_law_mixed" = some (.ref fM)) :
    FnOk P w K mg base CX0 3 f fd ["spring", "names"] spVRo := by
  refine F.ok scVRo (fun vs H Q E h => ?_) (fun cdv A outer s H vs Q E hr h => ?_)
  · obtain ⟨a, p, n, ss, rfl, _⟩ := h
    rfl
  obtain ⟨a, p, n, ss, rfl, hs, hn, hp, pa, good, l1, l60, q⟩ := h
  have nd := scVRo.nd
  have hr1 : Room 1 _ := hr.mono (by decide)
  refine ⟨_, (pss_cons (by exact (ps_par (i := 2) (j := 3) rfl nd rfl rfl (by decide) rfl rfl (pa_cons (pe_call G hr1 rfl m k b .nil pass0 (pa_cons (pv 0) (pa_cons pe_int pa_nil))) (pa_cons (pe_lst pa_nil) pa_nil)) (by rfl))) (pss_cons (by exact (ps_for PassesOwn.never rfl (by exact pi_range2 rfl mr (pa_cons pe_int (pa_cons (pe_callB call_len_seq rfl B.len PySem.boot_len (pa_cons (pv 1) pa_nil)) pa_nil))) (pg_name (i := 4) nd rfl (.inl rfl)) (pss_cons (by exact (ps_set (i := 5) nd rfl (.inl rfl) (pe_ix ix_list (pe_lst (pa_cons (pe_op op_sub (pv 4) pe_int) (pa_cons pe_int (pa_cons (pe_call G hr1 rfl m k b .nil pass0 (pa_cons (pv 0) (pa_cons (pv 4) pa_nil))) (pa_cons (pe_callB (call_max2 rfl) rfl mx (by decide +kernel) (pa_cons pe_int (pa_cons (pe_op op_sub (pe_op op_sub (pv 4) pe_int) (pe_call G hr1 rfl m k b .nil pass0 (pa_cons (pv 0) (pa_cons pe_int pa_nil)))) pa_nil))) pa_nil))))) (pv 2) (fun _ _ => rfl)))) (pss_cons (by exact (ps_set (i := 6) nd rfl (.inl rfl) (pe_tup (pa_cons (pe_ix ix_list (pv 1) (pv 5) (fun _ _ => rfl)) (pa_cons (pe_ix ix_list (pv 1) (pv 4) (fun _ _ => rfl)) pa_nil))))) (pss_one (by exact (ps_expr (pe_bm PySem.F.plainAttrs_list PySem.F.slot_list_append PySem.F.type_list_append mt_append (pv 3) (pa_cons (pe_ifExp (pt_cmpR op_eq (pe_call G hr1 rfl m k b .nil pass0 (pa_cons (pv 0) (pa_cons pe_int pa_nil))) pe_int (nomark _)) (pv 6) (pe_back (pv 6))) pa_nil))))))))) (pss_one (by exact (ps_ret (pe_call GM hr rfl mM kM bM .nil pass0 (pa_cons (pv 0) (pa_cons (pv 3) pa_nil)))))))), ?_⟩
  refine ⟨_, rfl, a, 4, n, rfl, hs, by omega, by decide, by decide, fun sh H1 s0 s1 kp hs1 => ?_⟩
  refine ⟨Nat.zero_le _, fun L hL => ?_⟩
  have La := hs1.ne hL
  have fr0 : ∀ {Hx : Hp} {z : Addr}, Kept a H Hx → Hx z = none → z ≠ a → H z = none := fun {Hx z} kx hz za => by
    cases e : H z with
    | none => rfl
    | some o => rw [kx _ _ za e] at hz; cases hz
  have LH := fr0 kp hL La
  have pL : p ≠ L := ne_of_none hp LH
  refine ⟨_, _, rfl, _, rfl, p, _, rfl, .inl (SqL.of (by rw [upd_ne pL]; exact kp _ _ pa hp)), _, _, rfl, ⟨by decide, by decide, by rw [List.length_map]; omega, by rw [List.length_map]; omega⟩, ?_⟩
  have hN : ((((ss.map V.str).length : Nat) : Int) - 1).toNat = ss.length - 1 := by rw [List.length_map]; omega
  rw [hN]
  refine for_range (lo := 1) (n := ss.length - 1) (fun i σ Hc => (∃ x y z, σ = [some (.ref a), some (.ref p), some (.int sh), some (.ref L), x, y, z]) ∧ Kept a H Hc ∧ Spr Hc a (n + 1 + 4 * i) ∧ ∃ qs rs, Hc L = some (.lst (qs.map V.ref)) ∧ Paired (TupP Hc) qs rs ∧ (∀ q ∈ qs, H q = none) ∧ Cut rs ∧ EndsIn (ss.take (i + 1)) rs ∧ rs.length = i) ?_ ?_ ?_
  · exact ⟨⟨_, _, _, rfl⟩, kp.trans (Kept.new hL), (hs1.upd La).mono (by omega), [], [], upd_same, .nil, fun q hq => absurd hq (by simp), Cut.nil, fun r hr => absurd hr (by simp), rfl⟩
  · rintro i σ Hc hi ⟨⟨x, y, z, rfl⟩, k1, sp1, qs, rs, g1, g2, g3, g4, g5, g6⟩
    have i59 : i < 60 := by omega
    have ck : ((1 : Int) + (i : Int)).natAbs < 2 ^ 100 := Nat.lt_of_le_of_lt (show ((1 : Int) + (i : Int)).natAbs ≤ 100 by omega) (by decide)
    refine ⟨_, rfl, _, _, rfl, rfl, _, rfl, _, rfl, a, _, _, rfl, sp1, by omega, by omega, ck, fun d2 H2 d20 d21 k2 sp2 => ?_⟩
    refine ⟨_, rfl, _, _, rfl, rfl, _, rfl, a, _, _, rfl, sp2, by omega, by decide, by decide, fun d3 H3 d30 d31 k3 sp3 => ?_⟩
    refine ⟨_, _, rfl, rfl, _, _, rfl, (by show 4 ≤ sizeLine; decide), fun l4 hl4 => ?_⟩
    obtain ⟨x5, e5, o5⟩ := at4 (a0 := 1 + (i : Int) - 1) (a1 := 0) (a2 := d2) (a3 := if 1 + (i : Int) - 1 - d3 > 0 then 1 + (i : Int) - 1 - d3 else 0) s0 s1
    have x50 : 0 ≤ x5 ∧ x5 ≤ (i : Int) := by
      rcases o5 with rfl | rfl | rfl | rfl
      · omega
      · omega
      · omega
      · split <;> omega
    have l4a := sp3.ne hl4
    have k13 := k1.trans (k2.trans k3)
    have k14 : Kept a H (L2.upd H3 l4 (.lst [.int (1 + (i : Int) - 1), .int 0, .int d2, .int (if 1 + (i : Int) - 1 - d3 > 0 then 1 + (i : Int) - 1 - d3 else 0)])) := k13.trans (Kept.new hl4)
    have sp4 : Spr (L2.upd H3 l4 (.lst [.int (1 + (i : Int) - 1), .int 0, .int d2, .int (if 1 + (i : Int) - 1 - d3 > 0 then 1 + (i : Int) - 1 - d3 else 0)])) a (n + 1 + 4 * i + 1 + 1) := sp3.upd l4a
    have g14 : L2.upd H3 l4 (.lst [.int (1 + (i : Int) - 1), .int 0, .int d2, .int (if 1 + (i : Int) - 1 - d3 > 0 then 1 + (i : Int) - 1 - d3 else 0)]) L = some (.lst (qs.map V.ref)) := by
      have h3 := (k2.trans k3) _ _ La g1
      rw [upd_ne (ne_of_none h3 hl4)]
      exact h3
    have t14 : Paired (TupP (L2.upd H3 l4 (.lst [.int (1 + (i : Int) - 1), .int 0, .int d2, .int (if 1 + (i : Int) - 1 - d3 > 0 then 1 + (i : Int) - 1 - d3 else 0)]))) qs rs := TupP.kept g2 sp1 ((k2.trans k3).trans (Kept.new hl4))
    refine ⟨_, rfl, l4, _, sh, _, rfl, rfl, SqL.of upd_same, e5, ?_⟩
    generalize L2.upd H3 l4 (.lst [.int (1 + (i : Int) - 1), .int 0, .int d2, .int (if 1 + (i : Int) - 1 - d3 > 0 then 1 + (i : Int) - 1 - d3 else 0)]) = H4 at k14 sp4 g14 t14 ⊢
    have hp4 := k14 _ _ pa hp
    have hx5 : x5.toNat < ss.length := by omega
    have hik : i + 1 < ss.length := by omega
    have ea : atI (ss.map V.str) x5 = some (.str ss[x5.toNat]) := by
      have := atI_nat (xs := ss.map V.str) (j := x5.toNat) (v := .str ss[x5.toNat]) (by rw [List.getElem?_map, List.getElem?_eq_getElem hx5]; rfl)
      rwa [show ((x5.toNat : Nat) : Int) = x5 by omega] at this
    have ek : atI (ss.map V.str) (1 + (i : Int)) = some (.str ss[i + 1]) := by
      have := atI_nat (xs := ss.map V.str) (j := i + 1) (v := .str ss[i + 1]) (by rw [List.getElem?_map, List.getElem?_eq_getElem hik]; rfl)
      rwa [show (((i + 1 : Nat)) : Int) = 1 + (i : Int) by omega] at this
    refine ⟨_, rfl, _, rfl, p, _, x5, _, rfl, rfl, SqL.of hp4, ea, _, rfl, _, rfl, p, _, _, _, rfl, rfl, SqL.of hp4, ek, (by show 2 ≤ sizeLine; decide), fun t ht => ?_⟩
    have ta := sp4.ne ht
    have tL : t ≠ L := fun z => by rw [z, g14] at ht; cases ht
    have k15 : Kept a H (L2.upd H4 t (.tup [.str ss[x5.toNat], .str ss[i + 1]])) := k14.trans (Kept.new ht)
    have sp5 : Spr (L2.upd H4 t (.tup [.str ss[x5.toNat], .str ss[i + 1]])) a (n + 1 + 4 * i + 1 + 1) := sp4.upd ta
    have g15 : L2.upd H4 t (.tup [.str ss[x5.toNat], .str ss[i + 1]]) L = some (.lst (qs.map V.ref)) := by rw [upd_ne tL.symm]; exact g14
    have t15 := TupP.kept t14 sp4 (Kept.new (a := a) ht (o := .tup [.str ss[x5.toNat], .str ss[i + 1]]))
    have tt : L2.upd H4 t (.tup [.str ss[x5.toNat], .str ss[i + 1]]) t = some (.tup [.str ss[x5.toNat], .str ss[i + 1]]) := upd_same
    have tH := fr0 k14 ht ta
    generalize L2.upd H4 t (.tup [.str ss[x5.toNat], .str ss[i + 1]]) = H5 at k15 sp5 g15 t15 tt ⊢
    refine ⟨_, rfl, .inl ⟨rfl, _, SqL.of g15⟩, _, rfl, a, _, _, rfl, sp5, by omega, by decide, by decide, fun d6 H6 d60 d61 k6 sp6 => ?_⟩
    have nv : ¬ ss[i + 1] ∈ ss.take (i + 1) := nodup_take_not good.1 hik
    have mv : ss[x5.toNat] ∈ ss.take (i + 1) := List.mem_take_iff_getElem.mpr ⟨x5.toNat, by omega, rfl⟩
    have ends2 : ∀ r ∈ rs, r.1 ≠ ss[i + 1] ∧ r.2 ≠ ss[i + 1] := fun r hr => ⟨fun z => nv (by rw [← z]; exact (g5 r hr).1), fun z => nv (by rw [← z]; exact (g5 r hr).2)⟩
    have huv : ss[x5.toNat] ≠ ss[i + 1] := fun z => nv (by rw [← z]; exact mv)
    have up1 : ∀ s ∈ ss.take (i + 1), s ∈ ss.take (i + 1 + 1) := fun s hs => (mem_take_succ hik).mpr (.inl hs)
    have lq : qs.length = rs.length := g2.length
    -- the new pair stands at t2
    have fin : ∀ (t2 : Addr) (e0 : Str × Str) (H7 : Hp), (e0 = (ss[x5.toNat], ss[i + 1]) ∨ e0 = (ss[i + 1], ss[x5.toNat])) → Kept a H H7 → Spr H7 a (n + 1 + 4 * i + 1 + 1 + 1) → H7 L = some (.lst (qs.map V.ref)) → Paired (TupP H7) qs rs → TupP H7 t2 e0 → H t2 = none →
        ∃ l xs y, V.ref L = .ref l ∧ [V.ref t2] = [y] ∧ H7 l = some (.lst xs) ∧ xs.length < sizeLine ∧ ((∃ x y z, ([some (.ref a), some (.ref p), some (.int sh), some (.ref L), some (.int (1 + (i : Int))), some (.int x5), some (.ref t)] : L2.St) = [some (.ref a), some (.ref p), some (.int sh), some (.ref L), x, y, z]) ∧
          Kept a H (L2.upd H7 l (.lst (xs ++ [y]))) ∧ Spr (L2.upd H7 l (.lst (xs ++ [y]))) a (n + 1 + 4 * (i + 1)) ∧ ∃ qs rs, L2.upd H7 l (.lst (xs ++ [y])) L = some (.lst (qs.map V.ref)) ∧ Paired (TupP (L2.upd H7 l (.lst (xs ++ [y])))) qs rs ∧ (∀ q ∈ qs, H q = none) ∧ Cut rs ∧ EndsIn (ss.take (i + 1 + 1)) rs ∧ rs.length = i + 1) := by
      intro t2 e0 H7 he kx sx gx tx tp tn
      have keepT : ∀ q r, TupP H7 q r → TupP (L2.upd H7 L (.lst (qs.map V.ref ++ [.ref t2]))) q r := fun q r e => by
        have ne : q ≠ L := fun z => by
          have e' : H7 q = _ := e
          rw [z, gx] at e'
          cases e'
        show L2.upd H7 L _ q = _
        rw [upd_ne ne]
        exact e
      refine ⟨L, _, _, rfl, rfl, gx, by rw [List.length_map]; exact small1000 (by omega), ⟨_, _, _, rfl⟩, fun b o nb e => ?_, (sx.upd La).mono (by omega), qs ++ [t2], rs ++ [e0], ?_, ?_, fun q hq => ?_, g4.add ends2 huv he, fun r hr => ?_, by rw [List.length_append, g6]; rfl⟩
      · rw [upd_ne (ne_of_none e LH)]
        exact kx b o nb e
      · rw [upd_same, List.map_append]
        rfl
      · have pz : ∀ {as : List Addr} {bs : List (Str × Str)}, Paired (TupP H7) as bs → Paired (TupP (L2.upd H7 L (.lst (qs.map V.ref ++ [.ref t2])))) (as ++ [t2]) (bs ++ [e0]) := by
          intro as bs h
          induction h with
          | nil => exact .cons (keepT _ _ tp) .nil
          | cons f1 f2 ih => exact .cons (keepT _ _ f1) ih
        exact pz tx
      · rcases List.mem_append.mp hq with hq | hq
        · exact g3 q hq
        · rw [List.mem_singleton.mp hq]
          exact tn
      · rcases List.mem_append.mp hr with hr | hr
        · exact ⟨up1 _ (g5 r hr).1, up1 _ (g5 r hr).2⟩
        · rw [List.mem_singleton.mp hr]
          have m2 : ss[i + 1] ∈ ss.take (i + 1 + 1) := (mem_take_succ hik).mpr (.inr rfl)
          rcases he with rfl | rfl
          · exact ⟨up1 _ mv, m2⟩
          · exact ⟨m2, up1 _ mv⟩
    have g16 := k6 _ _ La g15
    have t16 := TupP.kept t15 sp5 k6
    have tt6 := k6 _ _ ta tt
    refine ⟨rfl, _, rfl, ?_⟩
    refine ite2 (fun c => ?_) (fun c => ?_)
    · exact ⟨_, rfl, fin t _ H6 (.inl rfl) (k15.trans k6) sp6 g16 t16 tt6 tH⟩
    · refine ⟨_, rfl, t, _, _, rfl, SqT.of tt6, fun t2 ht2 => ?_⟩
      have ta2 := sp6.ne ht2
      have tn2 : t2 ≠ L := fun z => by rw [z, g16] at ht2; cases ht2
      refine fin t2 (ss[i + 1], ss[x5.toNat]) _ (.inr rfl) ((k15.trans k6).trans (Kept.new ht2)) (sp6.upd ta2) (by rw [upd_ne tn2.symm]; exact g16) (TupP.kept t16 sp6 (Kept.new ht2)) upd_same (fr0 (k15.trans k6) ht2 ta2)
  · rintro σ Hc ⟨⟨x, y, z, rfl⟩, k1, sp1, qs, rs, g1, g2, g3, g4, g5, g6⟩
    have lq : qs.length = rs.length := g2.length
    refine ⟨_, rfl, _, rfl, a, L, qs.map V.ref, _, rfl, sp1, by omega, g1, La, by rw [List.length_map]; omega, fun r ys H' pm rn ra hr3 k3 s3 => ?_⟩
    obtain ⟨qs', rs', rfl, pq, pr, pp⟩ := paired_perm g2 pm
    have le : ss.take (ss.length - 1 + 1) = ss := List.take_of_length_le (by omega)
    rw [le] at g5
    refine q r qs' rs' H' (fr0 k1 rn ra) ra (k1.trans k3) (s3.mono (by rw [List.length_map]; omega)) hr3 (TupP.kept pp sp1 k3) (fun z hz => g3 z (pq.mem_iff.mp hz)) (g4.perm pr) (fun r hr => g5 r (pr.mem_iff.mp hr)) (by rw [pr.length_eq]; omega)
end
end K1
end
-- NMath
section
set_option Elab.async false
set_option linter.all false
set_option maxRecDepth 100000
set_option maxHeartbeats 1000000
namespace K1
open PySem PySem.Spec PyProof.Rows L2
/-! trees: one root, the cut of a road, the reach of a house without another, the way -/
theorem rt_fold {ss : List Str} : ∀ (rs : List (Str × Str)) (rt : Str → Str), EndsIn ss rs → (∀ s, rt (rt s) = rt s) → (∀ s ∈ ss, rt s ∈ ss) →
    (∀ s, (rs.foldl (fun rt e => joinRt rt e.1 e.2) rt) ((rs.foldl (fun rt e => joinRt rt e.1 e.2) rt) s) = (rs.foldl (fun rt e => joinRt rt e.1 e.2) rt) s) ∧ ∀ s ∈ ss, (rs.foldl (fun rt e => joinRt rt e.1 e.2) rt) s ∈ ss
  | [], rt, _, h1, h2 => ⟨h1, h2⟩
  | e :: rs, rt, he, h1, h2 => by
    have he1 := he e (List.mem_cons_self ..)
    refine rt_fold rs (joinRt rt e.1 e.2) (fun r hr => he r (List.mem_cons_of_mem _ hr)) (fun s => ?_) (fun s hs => ?_)
    · unfold joinRt
      by_cases z : rt s = rt e.1
      · rw [if_pos z]
        by_cases z2 : rt (rt e.2) = rt e.1
        · rw [if_pos z2]
        · rw [if_neg z2, h1]
      · rw [if_neg z, if_neg (by rw [h1]; exact z), h1]
    · unfold joinRt
      by_cases z : rt s = rt e.1
      · rw [if_pos z]; exact h2 _ he1.2
      · rw [if_neg z]; exact h2 _ hs
theorem rt_idem {rs : List (Str × Str)} (s : Str) : rtOf rs (rtOf rs s) = rtOf rs s := by
  refine (rt_fold (ss := rs.map (·.1) ++ rs.map (·.2)) rs (fun s => s) (fun r hr => ⟨?_, ?_⟩) (fun _ => rfl) fun _ h => h).1 s
  · exact List.mem_append_left _ (List.mem_map.mpr ⟨r, hr, rfl⟩)
  · exact List.mem_append_right _ (List.mem_map.mpr ⟨r, hr, rfl⟩)
theorem rt_in {ss : List Str} {rs : List (Str × Str)} (he : EndsIn ss rs) {s : Str} (hs : s ∈ ss) : rtOf rs s ∈ ss := (rt_fold rs (fun s => s) he (fun _ => rfl) fun _ h => h).2 s hs
theorem filter_ne_len {α : Type} [DecidableEq α] {a : α} : ∀ {l : List α}, l.Nodup → a ∈ l → (l.filter fun x => decide (x ≠ a)).length + 1 = l.length
  | [], _, h => absurd h (by simp)
  | b :: l, nd, h => by
    have n := List.nodup_cons.mp nd
    by_cases e : b = a
    · subst e
      have : l.filter (fun x => decide (x ≠ b)) = l := List.filter_eq_self.mpr fun x hx => decide_eq_true fun z => n.1 (by rw [← z]; exact hx)
      rw [List.filter_cons, if_neg (by simp), this]
      rfl
    · rw [List.filter_cons, if_pos (decide_eq_true e), List.length_cons, List.length_cons, filter_ne_len n.2 ((List.mem_cons.mp h).resolve_left fun z => e z.symm)]
def rootsOf (ss : List Str) (rs : List (Str × Str)) : List Str := ss.filter fun s => decide (rtOf rs s = s)
theorem roots_len {ss : List Str} {rs : List (Str × Str)} (hn : ss.Nodup) (he : EndsIn ss rs) (f : Forest rs) : ∀ i, i ≤ rs.length → (rootsOf ss (rs.take i)).length + i = ss.length
  | 0, _ => by
    have : rootsOf ss (rs.take 0) = ss := List.filter_eq_self.mpr fun s _ => decide_eq_true rfl
    rw [this]
    rfl
  | i + 1, hi => by
    have ih := roots_len hn he f i (Nat.le_of_succ_le hi)
    have ee := he _ (List.getElem_mem hi)
    have et : EndsIn ss (rs.take i) := fun r hr => he r (List.mem_of_mem_take hr)
    have ne := f i hi
    have e : rootsOf ss (rs.take (i + 1)) = (rootsOf ss (rs.take i)).filter fun x => decide (x ≠ rtOf (rs.take i) rs[i].1) := by
      unfold rootsOf
      rw [List.filter_filter]
      refine List.filter_congr fun s _ => ?_
      rw [rtOf_succ hi]
      unfold joinRt
      rw [Bool.eq_iff_iff, Bool.and_eq_true, decide_eq_true_eq, decide_eq_true_eq, decide_eq_true_eq]
      by_cases z : rtOf (rs.take i) s = rtOf (rs.take i) rs[i].1
      · rw [if_pos z]
        constructor
        · intro h
          have h2 := rt_idem (rs := rs.take i) rs[i].2
          rw [h, z] at h2
          exact absurd (h2.trans h.symm) ne
        · rintro ⟨h1, h2⟩
          exact absurd (h2.symm.trans z) h1
      · rw [if_neg z]
        constructor
        · intro h
          exact ⟨fun q => z (h.trans q), h⟩
        · exact fun h => h.2
    have hm : rtOf (rs.take i) rs[i].1 ∈ rootsOf ss (rs.take i) := List.mem_filter.mpr ⟨rt_in et ee.1, decide_eq_true (rt_idem _)⟩
    have := filter_ne_len (List.Pairwise.filter _ hn) hm
    rw [e]
    unfold rootsOf at this ih ⊢
    omega
/-- what a tree of roads is here -/
structure Tree (ss : List Str) (rs : List (Str × Str)) : Prop where
  nd : ss.Nodup
  ends : EndsIn ss rs
  cut : Cut rs
  len : rs.length + 1 = ss.length
theorem Tree.root {ss : List Str} {rs : List (Str × Str)} (T : Tree ss rs) {s t : Str} (hs : s ∈ ss) (ht : t ∈ ss) : rtOf rs s = rtOf rs t := by
  have h := roots_len T.nd T.ends T.cut.forest rs.length (Nat.le_refl _)
  rw [List.take_length] at h
  have l1 : (rootsOf ss rs).length = 1 := by have := T.len; omega
  obtain ⟨r, hr⟩ := List.length_eq_one_iff.mp l1
  have a : ∀ u ∈ ss, rtOf rs u = r := fun u hu => by
    have : rtOf rs u ∈ rootsOf ss rs := List.mem_filter.mpr ⟨rt_in T.ends hu, decide_eq_true (rt_idem _)⟩
    rw [hr] at this
    exact List.mem_singleton.mp this
  rw [a s hs, a t ht]
/-- what is alike at both ends of each road is alike everywhere -/
theorem Tree.all {ss : List Str} {rs : List (Str × Str)} (T : Tree ss rs) {S : Str → Prop} (h : ∀ e ∈ rs, S e.1 ↔ S e.2) {s t : Str} (hs : s ∈ ss) (ht : t ∈ ss) (q : S s) : S t := by
  classical
  have c := col_rt (c := fun u => decide (S u)) _ (rfl : rs.length = rs.length) fun e he => decide_eq_decide.mpr (h e he)
  have e1 := c s
  have e2 := c t
  rw [T.root hs ht] at e1
  have := e1.symm.trans e2
  exact (decide_eq_decide.mp this).mp q
theorem nbB_iff {rs : List (Str × Str)} {s t : Str} : nbB rs s t = true ↔ (s, t) ∈ rs ∨ (t, s) ∈ rs := by
  unfold nbB
  rw [List.any_eq_true]
  constructor
  · rintro ⟨r, hr, h⟩
    rcases of_decide_eq_true h with h | h
    · exact .inl (h ▸ hr)
    · exact .inr (h ▸ hr)
  · rintro (h | h)
    · exact ⟨_, h, decide_eq_true (.inl rfl)⟩
    · exact ⟨_, h, decide_eq_true (.inr rfl)⟩
theorem nbB_swap {rs : List (Str × Str)} {s t : Str} : nbB rs s t = nbB rs t s := by
  rw [Bool.eq_iff_iff, nbB_iff, nbB_iff]
  exact Or.comm
theorem EndsIn.nb {ss : List Str} {rs : List (Str × Str)} (h : EndsIn ss rs) {s t : Str} (e : nbB rs s t = true) : s ∈ ss ∧ t ∈ ss := by
  rcases nbB_iff.mp e with e | e
  · exact h _ e
  · exact (h _ e).symm
theorem mem_nbs {ss : List Str} {rs : List (Str × Str)} (h : EndsIn ss rs) {s t : Str} : t ∈ nbs ss rs s ↔ nbB rs s t = true := by
  unfold nbs
  rw [List.mem_filter]
  exact ⟨fun h => h.2, fun e => ⟨(h.nb e).2, e⟩⟩
/-- the two sides of a road, as colours -/
theorem Cut.side {rs : List (Str × Str)} (h : Cut rs) {a b : Str} (e : nbB rs a b = true) : ∃ c : Str → Bool, c a ≠ c b ∧ ∀ s t, nbB rs s t = true → ¬ (s = a ∧ t = b) → ¬ (s = b ∧ t = a) → c s = c t := by
  have hx : ∀ e0 : Str × Str, e0 ∈ rs → (e0 = (a, b) ∨ e0 = (b, a)) → ∃ c : Str → Bool, c a ≠ c b ∧ ∀ s t, nbB rs s t = true → ¬ (s = a ∧ t = b) → ¬ (s = b ∧ t = a) → c s = c t := by
    intro e0 he0 w
    obtain ⟨c, h1, h2⟩ := h.2 e0 he0
    refine ⟨c, ?_, fun s t q n1 n2 => ?_⟩
    · rcases w with w | w
      · rw [w] at h1; exact h1
      · rw [w] at h1; exact h1.symm
    · have nn : ∀ x y : Str, ¬ (x = a ∧ y = b) → ¬ (x = b ∧ y = a) → (x, y) ≠ e0 := fun x y m1 m2 z => by
        rcases w with w | w
        · rw [w] at z; exact m1 ⟨congrArg Prod.fst z, congrArg Prod.snd z⟩
        · rw [w] at z; exact m2 ⟨congrArg Prod.fst z, congrArg Prod.snd z⟩
      rcases nbB_iff.mp q with q | q
      · exact h2 _ q (nn _ _ n1 n2)
      · exact (h2 _ q (nn _ _ (fun m => n2 ⟨m.2, m.1⟩) (fun m => n1 ⟨m.2, m.1⟩))).symm
  rcases nbB_iff.mp e with e | e
  · exact hx _ e (.inl rfl)
  · exact hx _ e (.inr rfl)
theorem Cut.irr {rs : List (Str × Str)} (h : Cut rs) {a b : Str} (e : nbB rs a b = true) : a ≠ b := by
  obtain ⟨c, h1, _⟩ := h.side e
  exact fun z => h1 (by rw [z])
/-- what is reached from other without coming into one -/
inductive Rch (rs : List (Str × Str)) (one other : Str) : Str → Prop
  | base : Rch rs one other other
  | step {s t : Str} : Rch rs one other s → nbB rs s t = true → t ≠ one → Rch rs one other t
theorem Rch.ne {rs : List (Str × Str)} {one other t : Str} (ne : other ≠ one) (h : Rch rs one other t) : t ≠ one := by
  cases h with
  | base => exact ne
  | step _ _ n => exact n
theorem Rch.mem {ss : List Str} {rs : List (Str × Str)} {one other t : Str} (he : EndsIn ss rs) (ho : other ∈ ss) (h : Rch rs one other t) : t ∈ ss := by
  cases h with
  | base => exact ho
  | step _ q _ => exact (he.nb q).2
theorem Rch.col {rs : List (Str × Str)} {one other t : Str} {c : Str → Bool} (ne : other ≠ one) (hc : ∀ s t, nbB rs s t = true → ¬ (s = one ∧ t = other) → ¬ (s = other ∧ t = one) → c s = c t) (h : Rch rs one other t) : c t = c other := by
  induction h with
  | base => rfl
  | @step s t h q n ih => rw [← ih]; exact (hc s t q (fun z => h.ne ne z.1) (fun z => n z.2)).symm
/-- the sides of a road: none in both, all in one of them -/
theorem Tree.sides {ss : List Str} {rs : List (Str × Str)} (T : Tree ss rs) {one other : Str} (e : nbB rs one other = true) {t : Str} (ht : t ∈ ss) : Rch rs other one t ↔ ¬ Rch rs one other t := by
  obtain ⟨c, h1, h2⟩ := T.cut.side e
  have ne : one ≠ other := T.cut.irr e
  constructor
  · intro a b
    have c1 := a.col (c := c) ne (fun s t q n1 n2 => h2 s t q n2 n1)
    have c2 := b.col (c := c) ne.symm h2
    exact h1 (c1.symm.trans c2)
  · intro nb
    refine (?_ : Rch rs one other t ∨ Rch rs other one t).resolve_left nb
    have st : ∀ a b, nbB rs a b = true → (Rch rs one other a ∨ Rch rs other one a) → (Rch rs one other b ∨ Rch rs other one b) := by
      intro a b q h
      rcases h with h | h
      · by_cases z : b = one
        · rw [z]; exact .inr .base
        · exact .inl (h.step q z)
      · by_cases z : b = other
        · rw [z]; exact .inl .base
        · exact .inr (h.step q z)
    refine T.all (S := fun u => Rch rs one other u ∨ Rch rs other one u) (fun r hr => ?_) (T.ends.nb e).2 ht (.inl .base)
    have q : nbB rs r.1 r.2 = true := nbB_iff.mpr (.inl hr)
    exact ⟨st _ _ q, st _ _ (by rw [nbB_swap]; exact q)⟩
/-- a way: no house twice -/
inductive Pt (rs : List (Str × Str)) : Str → List Str → Str → Prop
  | one (s : Str) : Pt rs s [s] s
  | cons {s u t : Str} {l : List Str} : nbB rs s u = true → Pt rs u l t → s ∉ l → Pt rs s (s :: l) t
theorem Pt.head {rs : List (Str × Str)} {s t : Str} {l : List Str} (h : Pt rs s l t) : ∃ r, l = s :: r := by
  cases h with
  | one => exact ⟨_, rfl⟩
  | cons _ _ _ => exact ⟨_, rfl⟩
theorem Pt.last {rs : List (Str × Str)} {s t : Str} {l : List Str} (h : Pt rs s l t) : l.getLast? = some t := by
  induction h with
  | one => rfl
  | cons _ h _ ih =>
    obtain ⟨r, rfl⟩ := h.head
    rw [List.getLast?_cons_cons]
    exact ih
theorem Pt.end_mem {rs : List (Str × Str)} {s t : Str} {l : List Str} (h : Pt rs s l t) : t ∈ l := List.mem_of_getLast? h.last
theorem Pt.nd {rs : List (Str × Str)} {s t : Str} {l : List Str} (h : Pt rs s l t) : l.Nodup := by
  induction h with
  | one => simp
  | cons _ _ n ih => exact List.nodup_cons.mpr ⟨n, ih⟩
theorem Pt.mem {ss : List Str} {rs : List (Str × Str)} (he : EndsIn ss rs) {s t : Str} {l : List Str} (h : Pt rs s l t) (ht : t ∈ ss) : ∀ u ∈ l, u ∈ ss := by
  induction h with
  | one => intro u hu; rw [List.mem_singleton.mp hu]; exact ht
  | cons q _ _ ih =>
    intro u hu
    rcases List.mem_cons.mp hu with rfl | hu
    · exact (he.nb q).1
    · exact ih ht u hu
/-- off a house, along a way that does not come through it, the colour stays -/
theorem Pt.col {rs : List (Str × Str)} {s t a b : Str} {l : List Str} {c : Str → Bool} (hc : ∀ s t, nbB rs s t = true → ¬ (s = a ∧ t = b) → ¬ (s = b ∧ t = a) → c s = c t) (h : Pt rs s l t) (n : a ∉ l) : c s = c t := by
  induction h with
  | one => rfl
  | @cons s u t l q h m ih =>
    have hu : u ∈ l := by
      obtain ⟨r, rfl⟩ := h.head
      exact List.mem_cons_self ..
    rw [← ih fun z => n (List.mem_cons_of_mem _ z)]
    exact hc s u q (fun z => n (by rw [z.1]; exact List.mem_cons_self ..)) (fun z => n (by rw [← z.2]; exact List.mem_cons_of_mem _ hu))
/-- there is one way at most -/
theorem Pt.uniq {rs : List (Str × Str)} (hcut : Cut rs) {s t : Str} {l : List Str} (h : Pt rs s l t) : ∀ {l' : List Str}, Pt rs s l' t → l = l' := by
  induction h with
  | one s =>
    intro l' h'
    cases h' with
    | one => rfl
    | cons _ h n => exact absurd h.end_mem n
  | @cons s u t l q h m ih =>
    intro l' h'
    cases h' with
    | one => exact absurd h.end_mem m
    | @cons _ v _ l2 q2 h2 m2 =>
      by_cases e : u = v
      · subst e
        rw [ih h2]
      · obtain ⟨c, c1, c2⟩ := hcut.side q
        have k1 := h.col (a := s) (b := u) c2 m
        have k2 := h2.col (a := s) (b := u) c2 m2
        have ne := hcut.irr q
        have k3 := c2 s v q2 (fun z => e z.2.symm) (fun z => ne z.1)
        exact absurd (k3.trans (k2.trans k1.symm)) c1
theorem Pt.tail {rs : List (Str × Str)} {s t y : Str} {l : List Str} (h : Pt rs s l t) (hy : y ∈ l) : ∃ l', Pt rs y l' t ∧ ∀ u ∈ l', u ∈ l := by
  induction h with
  | one s => rw [List.mem_singleton.mp hy]; exact ⟨_, .one s, fun _ h => h⟩
  | @cons s u t l q h m ih =>
    rcases List.mem_cons.mp hy with rfl | hy
    · exact ⟨_, .cons q h m, fun _ h => h⟩
    · obtain ⟨l', a, b⟩ := ih hy
      exact ⟨l', a, fun u hu => List.mem_cons_of_mem _ (b u hu)⟩
theorem Pt.snoc {rs : List (Str × Str)} {s x y : Str} {l : List Str} (h : Pt rs s l x) (q : nbB rs x y = true) (n : y ∉ l) : Pt rs s (l ++ [y]) y := by
  induction h with
  | one s => exact .cons q (.one y) (fun z => n (by rw [List.mem_singleton.mp z]; exact List.mem_cons_self ..))
  | @cons s u t l q2 h m ih =>
    refine .cons q2 (ih q fun z => n (List.mem_cons_of_mem _ z)) fun z => ?_
    rcases List.mem_append.mp z with z | z
    · exact m z
    · exact n (by rw [← List.mem_singleton.mp z]; exact List.mem_cons_self ..)
theorem Tree.way {ss : List Str} {rs : List (Str × Str)} (T : Tree ss rs) {s t : Str} (hs : s ∈ ss) (ht : t ∈ ss) : ∃ l, Pt rs s l t := by
  have st : ∀ a b, nbB rs a b = true → (∃ l, Pt rs a l t) → ∃ l, Pt rs b l t := by
    rintro a b q ⟨l, h⟩
    by_cases z : b ∈ l
    · obtain ⟨l', h', _⟩ := h.tail z
      exact ⟨l', h'⟩
    · exact ⟨_, .cons (by rw [nbB_swap]; exact q) h z⟩
  refine T.all (S := fun u => ∃ l, Pt rs u l t) (fun r hr => ?_) ht hs ⟨_, .one t⟩
  have q : nbB rs r.1 r.2 = true := nbB_iff.mpr (.inl hr)
  exact ⟨st _ _ q, st _ _ (by rw [nbB_swap]; exact q)⟩
end K1
end
-- NErr
section
set_option Elab.async false
set_option linter.all false
set_option maxRecDepth 100000
set_option maxHeartbeats 4000000
namespace K1
open PySem PySem.Spec PyProof.Rows L2
abbrev sIN : Stmt := inClass (top 6) 0
abbrev sIO : Stmt := inClass (top 7) 0
/-- an error's class, with these fields -/
structure ErF (K : PySem.W.Frag) (mg : Str → Option Value) (x : Str) (C f : Addr) (fs : List Str) : Prop where
  m : mg x = some (.ref C)
  ox : OexC K C
  no : ∀ n ∈ fs, PySem.W.findIn K (.ref C) n = some none
  ini : PySem.W.findIn K (.ref C) "__init__" = some (some (.ref f))
  ty : PySem.W.typeIn K (.ref f) = some (.type "function")
def spEr1 (C : Addr) (n : Str) : Sp := fun vs H Q _ => ∃ (a : Addr) (v : V), vs = [.ref a, v] ∧ H a = some (exo a C none) ∧ ∀ d, H d = none → d ≠ a → Q .non (upd (upd H d (exd d [(n, v)])) a (exo a C (some d)))
def spEr2 (C : Addr) : Sp := fun vs H Q _ => ∃ (a : Addr) (v u : V), vs = [.ref a, v, u] ∧ H a = some (exo a C none) ∧ ∀ d, H d = none → d ≠ a → Q .non (upd (upd (upd H d (exd d [("one", v)])) a (exo a C (some d))) d (exd d [("other", u), ("one", v)]))
theorem scIN : FnScope ["self", "house"] ["self", "house"] (defScope sIN) := ⟨rfl, rfl, rfl, by decide +kernel, rfl, by decide +kernel, by decide +kernel⟩
theorem scIO : FnScope ["self", "one", "other"] ["self", "one", "other"] (defScope sIO) := ⟨rfl, rfl, rfl, by decide +kernel, rfl, by decide +kernel, by decide +kernel⟩
/-- what goes out: a new error of the class, with these fields -/
def GoesF (C : Addr) (fs : List (Str × V)) (H : Hp) (E : XK) : Prop := ∀ (d : Addr) (H' : Hp), Same H H' → H d = none → H' d = some (.xd fs) → E (.ref C) (some d) H'
theorem GoesF.ext {C : Addr} {fs : List (Str × V)} {H H1 : Hp} {E : XK} (g : GoesF C fs H E) (e : Same H H1) : GoesF C fs H1 E := fun d H' e2 n h => g d H' (e.trans e2) (e.free n) h
theorem raise_one {C : Addr} {E : XK} {H0 H : Hp} {n : Str} {v : V} (g : GoesF C [(n, v)] H0 E) (e : Same H0 H) :
    ∀ a, H a = none → spEr1 C n [V.ref a, v] (upd H a (exo a C none)) (fun v H2 => v = .non ∧ ∃ (d : Addr) (fs : List (Str × V)), H2 a = some (exo a C (some d)) ∧ H2 d = some (exd d fs) ∧ H d = none ∧ E (.ref C) (some d) (upd (del H2 a) d (.xd fs))) (fun _ _ _ => False) := by
  intro a ha
  refine ⟨a, v, rfl, upd_same, fun d hd hda => ⟨rfl, d, [(n, v)], upd_same, ?_, ?_, ?_⟩⟩
  · rw [upd_ne hda, upd_same]
  · rw [upd_ne hda] at hd
    exact hd
  · rw [upd_ne hda] at hd
    refine g d _ (fun b o n => ?_) (e.free hd) upd_same
    have n1 := e b o n
    have b1 : b ≠ a := ne_of_none n1 ha
    have b2 : b ≠ d := ne_of_none n1 hd
    rw [upd_ne b2, del_ne b1, upd_ne b1, upd_ne b2, upd_ne b1]
    exact n1
theorem raise_two {C : Addr} {E : XK} {H0 H : Hp} {v u : V} (g : GoesF C [("other", u), ("one", v)] H0 E) (e : Same H0 H) :
    ∀ a, H a = none → spEr2 C [V.ref a, v, u] (upd H a (exo a C none)) (fun v H2 => v = .non ∧ ∃ (d : Addr) (fs : List (Str × V)), H2 a = some (exo a C (some d)) ∧ H2 d = some (exd d fs) ∧ H d = none ∧ E (.ref C) (some d) (upd (del H2 a) d (.xd fs))) (fun _ _ _ => False) := by
  intro a ha
  refine ⟨a, v, u, rfl, upd_same, fun d hd hda => ⟨rfl, d, [("other", u), ("one", v)], ?_, upd_same, ?_, ?_⟩⟩
  · rw [upd_ne hda.symm, upd_same]
  · rw [upd_ne hda] at hd
    exact hd
  · rw [upd_ne hda] at hd
    refine g d _ (fun b o n => ?_) (e.free hd) upd_same
    have n1 := e b o n
    have b1 : b ≠ a := ne_of_none n1 ha
    have b2 : b ≠ d := ne_of_none n1 hd
    rw [upd_ne b2, del_ne b1, upd_ne b2, upd_ne b1, upd_ne b2, upd_ne b1]
    exact n1
section
variable {P : Program} {w : World} {K : PySem.W.Frag} {mg : Str → Option Value} {base : Heap} {CF : Addr}
theorem ok_iN {f C : Addr} {fd : FuncData} (F : Fun K "__init__" "NoHouse.__init__" sIN f fd) (T : FeC K mg CF) (TC : ErF K mg "NoHouse" C f ["house"]) : FnOk P w K mg base CX0 1 f fd ["self", "house"] (spEr1 C "house") := by
  refine F.ok scIN (fun vs H Q E h => ?_) (fun cdv A outer s H vs Q E hr h => ?_)
  · obtain ⟨a, v, rfl, _⟩ := h
    rfl
  obtain ⟨a, v, rfl, ha, q⟩ := h
  refine ⟨_, pss_cons (by exact ps_expr (pe_feinit rfl T (pa_cons (pv 0) (pa_cons pe_str pa_nil)))) (pss_one (by exact ps_ost (pv 0) (pv 1))), ?_⟩
  refine ⟨_, rfl, a, C, [.str _], rfl, (by decide), TC.ox, ha, _, rfl, _, rfl, a, C, rfl, TC.ox, TC.no _ (by simp), .inl ⟨ha, fun d hd n => q d hd n⟩⟩
theorem ok_iO {f C : Addr} {fd : FuncData} (F : Fun K "__init__" "NoRoad.__init__" sIO f fd) (T : FeC K mg CF) (TC : ErF K mg "NoRoad" C f ["one", "other"]) : FnOk P w K mg base CX0 1 f fd ["self", "one", "other"] (spEr2 C) := by
  refine F.ok scIO (fun vs H Q E h => ?_) (fun cdv A outer s H vs Q E hr h => ?_)
  · obtain ⟨a, v, u, rfl, _⟩ := h
    rfl
  obtain ⟨a, v, u, rfl, ha, q⟩ := h
  refine ⟨_, pss_cons (by exact ps_expr (pe_feinit rfl T (pa_cons (pv 0) (pa_cons pe_str pa_nil)))) (pss_cons (by exact ps_ost (pv 0) (pv 1)) (pss_one (by exact ps_ost (pv 0) (pv 2)))), ?_⟩
  refine ⟨_, rfl, a, C, [.str _], rfl, (by decide), TC.ox, ha, _, rfl, _, rfl, a, C, rfl, TC.ox, TC.no _ (by simp), .inl ⟨ha, fun d hd n => ?_⟩⟩
  refine ⟨_, rfl, _, rfl, a, C, rfl, TC.ox, TC.no _ (by simp), .inr ⟨d, [("one", v)], upd_same, by rw [upd_ne n]; exact upd_same, (by show 1 ≤ 900; decide), q d hd n⟩⟩
end
end K1
end
-- NMeth
section
set_option Elab.async false
set_option linter.all false
set_option maxRecDepth 100000
set_option maxHeartbeats 4000000
namespace K1
open PySem PySem.Spec PyProof.Rows L2
abbrev sBe : Stmt := inClass (top 18) 5
abbrev sWa : Stmt := inClass (top 18) 6
abbrev sSi : Stmt := inClass (top 18) 7
abbrev sIs : Stmt := inClass (top 18) 8
abbrev sNe : Stmt := inClass (top 18) 10
abbrev sPl : Stmt := inClass (top 18) 11
abbrev sNr : Stmt := inClass (top 18) 12
/-- a Valley of these houses, roads, heads -/
def IsV (C : Addr) (H : Hp) (x : Addr) (ss : List Str) (rs : List (Str × Str)) (ns : List Int) : Prop := ss.length = ns.length ∧ ∃ l1 l2 l3 d1 d2 d3 qs bs, ValS C H x l1 l2 l3 d1 d2 d3 qs bs ss rs ns
/-- no house -/
def NoHo (K : PySem.W.Frag) (H : Hp) (ss : List Str) (v : V) : Prop := (∃ s, v = .str s ∧ s ∉ ss) ∨ ∃ t, TyX K H v (.type t) ∧ t ∈ kinds ∧ t ≠ "str"
theorem NoHo.ext {K : PySem.W.Frag} {H H' : Hp} {ss : List Str} {v : V} (h : NoHo K H ss v) (e : Same H H') : NoHo K H' ss v := h.imp id fun ⟨t, a, b⟩ => ⟨t, TyX.ext a e, b⟩
def spIs (K : PySem.W.Frag) (C : Addr) : Sp := fun vs H Q _ => ∃ x v ss rs ns, vs = [.ref x, v] ∧ IsV C H x ss rs ns ∧ ((∃ s, v = .str s ∧ s ∈ ss ∧ Q (.bl true) H) ∨ (NoHo K H ss v ∧ Q (.bl false) H))
def spNe (K : PySem.W.Frag) (C CN : Addr) : Sp := fun vs H Q E => ∃ x v ss rs ns, vs = [.ref x, v] ∧ IsV C H x ss rs ns ∧ ((∃ s, v = .str s ∧ s ∈ ss ∧ Q .non H) ∨ (NoHo K H ss v ∧ GoesF CN [("house", v)] H E))
def spBe (K : PySem.W.Frag) (C CN : Addr) : Sp := fun vs H Q E => ∃ x v ss rs ns, vs = [.ref x, v] ∧ IsV C H x ss rs ns ∧ ((∃ s, v = .str s ∧ s ∈ ss ∧ ∀ r, H r = none → Q (.ref r) (upd H r (.lst ((nbs ss rs s).map V.str)))) ∨ (NoHo K H ss v ∧ GoesF CN [("house", v)] H E))
def spPl (K : PySem.W.Frag) (C CN CO : Addr) : Sp := fun vs H Q E => ∃ x v u ss rs ns, vs = [.ref x, v, u] ∧ IsV C H x ss rs ns ∧ ((NoHo K H ss v ∧ GoesF CN [("house", v)] H E) ∨ (∃ s, v = .str s ∧ s ∈ ss ∧ ((NoHo K H ss u ∧ GoesF CN [("house", u)] H E) ∨
  (∃ t, u = .str t ∧ t ∈ ss ∧ ((plOf rs s t = none ∧ GoesF CO [("other", .str t), ("one", .str s)] H E) ∨ (∃ i : Nat, plOf rs s t = some i ∧ ∀ H', Same H H' → Q (.int (i : Nat)) H'))))))
theorem scBe : FnScope ["self", "house"] ["self", "house"] (defScope sBe) := ⟨rfl, rfl, rfl, by decide +kernel, rfl, by decide +kernel, by decide +kernel⟩
theorem scIs : FnScope ["self", "thing"] ["self", "thing"] (defScope sIs) := ⟨rfl, rfl, rfl, by decide +kernel, rfl, by decide +kernel, by decide +kernel⟩
theorem scNe : FnScope ["self", "house"] ["self", "house"] (defScope sNe) := ⟨rfl, rfl, rfl, by decide +kernel, rfl, by decide +kernel, by decide +kernel⟩
theorem scPl : FnScope ["self", "one", "other"] ["self", "one", "other"] (defScope sPl) := ⟨rfl, rfl, rfl, by decide +kernel, rfl, by decide +kernel, by decide +kernel⟩
section
variable {P : Program} {w : World} {K : PySem.W.Frag} {mg : Str → Option Value} {base : Heap} {CF C CN CO : Addr}
theorem ok_Is {f : Addr} {fd : FuncData} (F : Fun K "is_house" "Valley.is_house" sIs f fd) (B : Bl mg) (T : VcT K C) : FnOk P w K mg base CX0 1 f fd ["self", "thing"] (spIs K C) := by
  refine F.ok scIs (fun vs H Q E h => ?_) (fun cdv A outer s H vs Q E hr h => ?_)
  · obtain ⟨x, v, ss, rs, ns, rfl, _⟩ := h
    rfl
  obtain ⟨x, v, ss, rs, ns, rfl, ⟨ln, l1, l2, l3, d1, d2, d3, qs, bs, vx⟩, h⟩ := h
  have hu := hu_of hr
  obtain ⟨dx, fx, ix, f1, f2, f3, f4, f5, f6, f0⟩ := vx.ins
  refine ⟨_, pss_one (by exact ps_ret (pe_and (pe_callB call_isi rfl B.isi PyProof.Rows.boot_isinstance (pa_cons (pv 1) (pa_cons (pe_bltn (v := .ty "str") rfl B.str PyProof.Rows.boot_str rfl) pa_nil))) (pe_one (pe_cmp (pc_din hu (pv 1) (pe_fld (pv 0) rfl)) (by with_unfolding_all rfl))))), ?_⟩
  have st : ∀ s : Str, v = .str s → Q (.bl (decide (s ∈ ss))) H → _ := fun s e q => (⟨s, e, q⟩ : ∃ s, v = .str s ∧ Q (.bl (decide (s ∈ ss))) H)
  have go : (∃ s, v = .str s ∧ Q (.bl (decide (s ∈ ss))) H) ∨ (∃ t, TyX K H v (.type t) ∧ t ∈ kinds ∧ t ≠ "str" ∧ Q (.bl false) H) := by
    rcases h with ⟨s, rfl, hs, q⟩ | ⟨⟨s, rfl, hs⟩ | ⟨t, ty, kt, nt⟩, q⟩
    · exact .inl ⟨s, rfl, by rw [decide_eq_true hs]; exact q⟩
    · exact .inl ⟨s, rfl, by rw [decide_eq_false hs]; exact q⟩
    · exact .inr ⟨t, ty, kt, nt, q⟩
  rcases go with ⟨s, rfl, q⟩ | ⟨t, ty, kt, nt, q⟩
  · refine ⟨_, rfl, .str s, _, _, _, _, rfl, .ty "str", .base (.str s), kit_str (t := "str") (by decide), _, rfl, ?_⟩
    refine iteT ⟨_, rfl, _, rfl, x, C, dx, fx, _, rfl, ix, T.cl, T.n4, f4, d1, _, rfl, DGet.k (k := .inr s) vx.p1, ?_⟩
    rw [peo_in ln]
    exact q
  · refine ⟨_, rfl, v, _, _, _, _, rfl, .ty "str", ty, kit_str kt, _, rfl, ?_⟩
    rw [decide_eq_false nt]
    exact iteF q
theorem ok_Ne {f fI fE : Addr} {fd id' ed : FuncData} (F : Fun K "need_house" "Valley.need_house" sNe f fd) (B : Bl mg) (T : VcT K C)
    (FI : Fun K "is_house" "Valley.is_house" sIs fI id') (hI : Meth K C "is_house" fI) (bI : Binds K id' ["self", "thing"] [])
    (TF : FeC K mg CF) (TC : ErF K mg "NoHouse" CN fE ["house"]) (FE : Fun K "__init__" "NoHouse.__init__" sIN fE ed) (bE : Binds K ed ["self", "house"] []) :
    FnOk P w K mg base (L2.CX P w) 3 f fd ["self", "house"] (spNe K C CN) := by
  have GI := ok_Is (P := P) (w := w) (base := base) FI B T
  have GE := ok_iN (P := P) (w := w) (base := base) FE TF TC
  refine F.okX scNe (fun vs H Q E h => ?_) (fun cdv A outer s H vs Q E hr h => ?_)
  · obtain ⟨x, v, ss, rs, ns, rfl, _⟩ := h
    rfl
  obtain ⟨x, v, ss, rs, ns, rfl, vx, h⟩ := h
  have hr1 : Room 1 _ := hr.mono (by decide)
  have hr2 : Room 2 _ := hr.mono (by decide)
  refine ⟨_, pss_one (by exact (ps_if (pt_not (pt_val (pe_meth (pv 0) T.cl hI GI hr1 bI .nil pass0 (pa_cons (pv 1) pa_nil))))
    (pss_one (by exact (ps_raise rfl (takes_of rfl rfl rfl rfl) (pmk_oex TC.ox TC.ini TC.ty GE hr2 bE .nil pass0 rfl TC.m (pa_cons (pv 1) pa_nil))))) pss_nil)), ?_⟩
  obtain ⟨dx, fx, ix, _, _, _, _, _, _, f0⟩ := vx.2.choose_spec.choose_spec.choose_spec.choose_spec.choose_spec.choose_spec.choose_spec.choose_spec.ins
  refine ⟨_, rfl, x, dx, fx, rfl, ix, f0 _ (by decide +kernel) (by decide +kernel) (by decide +kernel) (by decide +kernel) (by decide +kernel) (by decide +kernel), _, rfl, x, v, ss, rs, ns, rfl, vx, ?_⟩
  rcases h with ⟨s, rfl, hs, q⟩ | ⟨n, g⟩
  · exact .inl ⟨s, rfl, hs, _, rfl, iteF q⟩
  · exact .inr ⟨n, _, rfl, iteT ⟨_, rfl, (by show 1 ≤ 1000; decide), raise_one g (Same.refl _)⟩⟩
theorem ok_Be {f fN : Addr} {fd nd_ : FuncData} (F : Fun K "beside" "Valley.beside" sBe f fd) (B : Bl mg) (T : VcT K C)
    (GN : FnOk P w K mg base (L2.CX P w) 3 fN nd_ ["self", "house"] (spNe K C CN)) (hN : Meth K C "need_house" fN) (bN : Binds K nd_ ["self", "house"] []) :
    FnOk P w K mg base (L2.CX P w) 4 f fd ["self", "house"] (spBe K C CN) := by
  refine F.okX scBe (fun vs H Q E h => ?_) (fun cdv A outer s H vs Q E hr h => ?_)
  · obtain ⟨x, v, ss, rs, ns, rfl, _⟩ := h
    rfl
  obtain ⟨x, v, ss, rs, ns, rfl, iv, h⟩ := h
  obtain ⟨ln, l1, l2, l3, d1, d2, d3, qs, bs, vx⟩ := id iv
  obtain ⟨dx, fx, ix, f1, f2, f3, f4, f5, f6, f0⟩ := vx.ins
  have hu := hu_of hr
  have hr3 : Room 3 _ := hr.mono (by decide)
  refine ⟨_, pss_cons (by exact (ps_expr (pe_meth (pv 0) T.cl hN GN hr3 bN .nil (passes_call (takes_of rfl rfl rfl rfl) (fun _ _ _ _ h => h)) (pa_cons (pv 1) pa_nil))))
    (pss_one (by exact (ps_ret (pe_callTy call_list_of rfl B.list PyProof.Rows.boot_list (pa_cons (pe_dget hu (pe_fld (pv 0) rfl) (pv 1) (fun _ _ => rfl)) pa_nil))))), ?_⟩
  refine ⟨_, rfl, x, dx, fx, rfl, ix, f0 _ (by decide +kernel) (by decide +kernel) (by decide +kernel) (by decide +kernel) (by decide +kernel) (by decide +kernel), _, rfl, x, v, ss, rs, ns, rfl, iv, ?_⟩
  rcases h with ⟨s, rfl, hs, q⟩ | ⟨n, g⟩
  · obtain ⟨kv, k1, k2, k3⟩ := vx.p3
    have dg := DGet.k (k := .inr s) k1
    rw [k3 s hs] at dg
    exact .inl ⟨s, rfl, hs, _, rfl, x, C, dx, fx, _, rfl, ix, T.cl, T.n6, f6, _, rfl, d3, _, rfl, dg, bs s, _, rfl, .inl (SqL.of (vx.nb s hs)), q⟩
  · exact .inr ⟨n, g⟩
theorem ok_Pl {f fN fE : Addr} {fd nd_ ed : FuncData} (F : Fun K "place" "Valley.place" sPl f fd) (B : Bl mg) (T : VcT K C)
    (GN : FnOk P w K mg base (L2.CX P w) 3 fN nd_ ["self", "house"] (spNe K C CN)) (hN : Meth K C "need_house" fN) (bN : Binds K nd_ ["self", "house"] [])
    (TF : FeC K mg CF) (TC : ErF K mg "NoRoad" CO fE ["one", "other"]) (FE : Fun K "__init__" "NoRoad.__init__" sIO fE ed) (bE : Binds K ed ["self", "one", "other"] []) :
    FnOk P w K mg base (L2.CX P w) 4 f fd ["self", "one", "other"] (spPl K C CN CO) := by
  have GE := ok_iO (P := P) (w := w) (base := base) FE TF TC
  refine F.okX scPl (fun vs H Q E h => ?_) (fun cdv A outer s H vs Q E hr h => ?_)
  · obtain ⟨x, v, u, ss, rs, ns, rfl, _⟩ := h
    rfl
  obtain ⟨x, v, u, ss, rs, ns, rfl, iv, h⟩ := h
  obtain ⟨ln, l1, l2, l3, d1, d2, d3, qs, bs, vx⟩ := id iv
  obtain ⟨dx, fx, ix, f1, f2, f3, f4, f5, f6, f0⟩ := vx.ins
  have hu := hu_of hr
  have hr3 : Room 3 _ := hr.mono (by decide)
  have hr2 : Room 2 _ := hr.mono (by decide)
  have nN : fx.lookup ("need_house" : Str) = none := f0 _ (by decide +kernel) (by decide +kernel) (by decide +kernel) (by decide +kernel) (by decide +kernel) (by decide +kernel)
  refine ⟨_, pss_cons (by exact (ps_expr (pe_meth (pv 0) T.cl hN GN hr3 bN .nil (passes_call (takes_of rfl rfl rfl rfl) (fun _ _ _ _ h => h)) (pa_cons (pv 1) pa_nil))))
    (pss_cons (by exact (ps_expr (pe_meth (pv 0) T.cl hN GN hr3 bN .nil (passes_call (takes_of rfl rfl rfl rfl) (fun _ _ _ _ h => h)) (pa_cons (pv 2) pa_nil))))
    (pss_cons (by exact (ps_if (pt_cmp (pc_dnotin hu (pe_tup (pa_cons (pv 1) (pa_cons (pv 2) pa_nil))) (pe_fld (pv 0) rfl)) (by with_unfolding_all rfl))
      (pss_one (by exact (ps_raise rfl (takes_of rfl rfl rfl rfl) (pmk_oex TC.ox TC.ini TC.ty GE hr2 bE .nil pass0 rfl TC.m (pa_cons (pv 1) (pa_cons (pv 2) pa_nil)))))) pss_nil))
    (pss_one (by exact (ps_ret (pe_dget hu (pe_fld (pv 0) rfl) (pe_tup (pa_cons (pv 1) (pa_cons (pv 2) pa_nil))) (fun _ _ => rfl))))))), ?_⟩
  refine ⟨_, rfl, x, dx, fx, rfl, ix, nN, _, rfl, x, v, ss, rs, ns, rfl, iv, ?_⟩
  rcases h with ⟨n, g⟩ | ⟨s, rfl, hs, h⟩
  · exact .inr ⟨n, g⟩
  refine .inl ⟨s, rfl, hs, _, rfl, x, dx, fx, rfl, ix, nN, _, rfl, x, u, ss, rs, ns, rfl, iv, ?_⟩
  rcases h with ⟨n, g⟩ | ⟨t, rfl, ht, h⟩
  · exact .inr ⟨n, g⟩
  obtain ⟨kv, k1, k2, k3⟩ := vx.p2
  refine .inl ⟨t, rfl, ht, _, rfl, _, rfl, (by show 2 ≤ sizeLine; decide), fun b hb => ?_⟩
  have eb := K1.Same.upd (H := H) (p := b) (o := .tup [.str s, .str t]) hb
  refine ⟨_, rfl, x, C, dx, fx, _, rfl, eb _ _ ix, T.cl, T.n5, f5, d2, _, rfl, DGet.t (k := [.inr s, .inr t]) (eb _ _ k1) upd_same, ?_⟩
  rw [k2 s t]
  rcases h with ⟨n, g⟩ | ⟨i, n, q⟩
  · rw [n]
    exact ⟨_, rfl, iteT ⟨_, rfl, _, rfl, (by show 2 ≤ 1000; decide), raise_two g eb⟩⟩
  · rw [n]
    refine ⟨_, rfl, iteF ⟨_, rfl, x, C, dx, fx, _, rfl, eb _ _ ix, T.cl, T.n5, f5, _, rfl, _, rfl, (by show 2 ≤ sizeLine; decide), fun b2 hb2 => ?_⟩⟩
    have eb2 := K1.Same.upd (H := upd H b (.tup [.str s, .str t])) (p := b2) (o := .tup [.str s, .str t]) hb2
    have dg := DGet.t (k := [.inr s, .inr t]) (eb2 _ _ (eb _ _ k1)) upd_same
    rw [k2 s t, n] at dg
    exact ⟨d2, _, rfl, dg, q _ (eb.trans eb2)⟩
end
end K1
end
-- NNear
section
set_option Elab.async false
set_option linter.all false
set_option maxRecDepth 100000
set_option maxHeartbeats 4000000
namespace K1
open PySem PySem.Spec PyProof.Rows L2
theorem nodup_len {α : Type} [DecidableEq α] : ∀ {xs ys : List α}, xs.Nodup → (∀ x ∈ xs, x ∈ ys) → xs.length ≤ ys.length
  | [], _, _, _ => Nat.zero_le _
  | x :: xs, ys, n, h => by
    rw [List.nodup_cons] at n
    have hx := h x (List.mem_cons_self ..)
    have ih := nodup_len (ys := ys.erase x) n.2 fun y hy => (List.mem_erase_of_ne (fun z => n.1 (by rw [← z]; exact hy))).mpr (h y (List.mem_cons_of_mem _ hy))
    rw [List.length_erase_of_mem hx] at ih
    have := List.length_pos_of_mem hx
    rw [List.length_cons]
    omega
/-- while, with a measure that stands in the invariant -/
theorem while_gh {c : TT} {tb : TS} {D : Ends} {σ : L2.St} {H : Hp} (Pv : Nat → L2.St → Hp → Prop) (m0 : Nat) (h0 : Pv m0 σ H)
    (hs : ∀ m σ H, Pv m σ H → c σ H fun b H1 => if b = true then tb { D with nx := fun σ' H' => ∃ m', m' < m ∧ Pv m' σ' H', ct := fun σ' H' => ∃ m', m' < m ∧ Pv m' σ' H', bk := D.nx } σ H1 else D.nx σ H1)
    (mono : ∀ σ H Q Q', (∀ b H1, Q b H1 → Q' b H1) → c σ H Q → c σ H Q') : tWhile c tb D σ H := by
  refine ⟨Pv, ⟨m0, h0⟩, fun m σ H p => mono σ H _ _ (fun b H1 q => ?_) (hs m σ H p)⟩
  cases b with
  | true => exact ⟨_, fun σ' H' z => z, q⟩
  | false => exact q
theorem gN {i : Nat} {v : V} {σ : L2.St} {H : Hp} {Q : L2.St → Hp → Prop} (h : Q (σ.set i (some v)) H) : gName i v σ H Q := h
theorem sQ {t u : TS} {D : Ends} {σ : L2.St} {H : Hp} (h : t { D with nx := u D } σ H) : tSeq t u D σ H := h
/-- a search outward from a house: those gone through, those that wait, and the next house towards the start -/
structure SeaN (ss : List Str) (rs : List (Str × Str)) (o : Str) (done wt : List Str) (kvs : List (Key × V)) : Prop where
  nd : (done ++ wt).Nodup
  ins : ∀ s ∈ done ++ wt, s ∈ ss
  keys : ∀ s, (valV kvs (.inr s)).isSome = decide (s ∈ done ++ wt)
  len : kvs.length ≤ (done ++ wt).length
  st : o ∈ done ++ wt
  path : ∀ s ∈ done ++ wt, ∃ l, Pt rs s l o ∧ (∀ z ∈ l, z ∈ done ++ wt) ∧ (s ≠ o → ∃ u r, l = s :: u :: r ∧ valV kvs (.inr s) = some (.str u))
def Clo (rs : List (Str × Str)) (all : List Str) (s : Str) : Prop := ∀ t, nbB rs s t = true → t ∈ all
theorem SeaN.le {ss : List Str} {rs : List (Str × Str)} {o : Str} {done wt : List Str} {kvs : List (Key × V)} (S : SeaN ss rs o done wt kvs) : (done ++ wt).length ≤ ss.length := nodup_len S.nd S.ins
theorem SeaN.init {ss : List Str} {rs : List (Str × Str)} {o : Str} (ho : o ∈ ss) : SeaN ss rs o [] [o] [(.inr o, .non)] := by
  refine ⟨by simp, fun s hs => by rw [List.mem_singleton.mp hs]; exact ho, fun s => ?_, Nat.le_refl _, by simp, fun s hs => ?_⟩
  · by_cases e : s = o
    · subst e
      rw [valV_pos (p := (Sum.inr s, V.non)) rfl]
      simp
    · rw [valV_neg (p := (Sum.inr o, V.non)) (fun z => e (Sum.inr.inj z).symm)]
      simp [e, valV_nil]
  · have e := List.mem_singleton.mp hs
    subst e
    exact ⟨_, .one s, fun z hz => hz, fun n => absurd rfl n⟩
/-- the last one that waits is taken up -/
theorem SeaN.take {ss : List Str} {rs : List (Str × Str)} {o : Str} {done wt : List Str} {h : Str} {kvs : List (Key × V)} (S : SeaN ss rs o done (wt ++ [h]) kvs) : SeaN ss rs o (done ++ [h]) wt kvs := by
  have p : (done ++ (wt ++ [h])).Perm (done ++ [h] ++ wt) := by
    rw [List.append_assoc]
    exact List.Perm.append_left _ List.perm_append_comm
  have m : ∀ z, z ∈ done ++ (wt ++ [h]) ↔ z ∈ done ++ [h] ++ wt := fun z => p.mem_iff
  refine ⟨p.nodup_iff.mp S.nd, fun s hs => S.ins s ((m s).mpr hs), fun s => ?_, by rw [← p.length_eq]; exact S.len, (m o).mp S.st, fun s hs => ?_⟩
  · rw [S.keys s]
    exact decide_eq_decide.mpr (m s)
  · obtain ⟨l, a, b, c⟩ := S.path s ((m s).mpr hs)
    exact ⟨l, a, fun z hz => (m z).mp (b z hz), c⟩
/-- a house is found from one that was taken up -/
theorem SeaN.add {ss : List Str} {rs : List (Str × Str)} {o : Str} {done wt : List Str} {h f : Str} {kvs : List (Key × V)} (S : SeaN ss rs o done wt kvs) (hh : h ∈ done ++ wt) (he : EndsIn ss rs) (q : nbB rs h f = true) (n : f ∉ done ++ wt) :
    SeaN ss rs o done (wt ++ [f]) (putK kvs (.inr f) (.str h)) := by
  have m : ∀ z, z ∈ done ++ (wt ++ [f]) ↔ z ∈ done ++ wt ∨ z = f := fun z => by
    rw [← List.append_assoc, List.mem_append, List.mem_singleton]
  have vn : valV kvs (.inr f) = none := by
    have := S.keys f
    rw [decide_eq_false n] at this
    cases e : valV kvs (.inr f) with
    | none => rfl
    | some v => rw [e] at this; cases this
  refine ⟨?_, fun s hs => ?_, fun s => ?_, ?_, (m o).mpr (.inl S.st), fun s hs => ?_⟩
  · rw [← List.append_assoc, List.nodup_append]
    exact ⟨S.nd, by simp, fun x hx y hy => by rw [List.mem_singleton.mp hy]; intro z; exact n (by rw [← z]; exact hx)⟩
  · rcases (m s).mp hs with hs | rfl
    · exact S.ins s hs
    · exact (he.nb q).2
  · rw [valV_put]
    by_cases e : s = f
    · subst e
      rw [if_pos rfl, decide_eq_true ((m s).mpr (.inr rfl))]
      rfl
    · rw [if_neg fun z => e (Sum.inr.inj z), S.keys s]
      exact decide_eq_decide.mpr ⟨fun h => (m s).mpr (.inl h), fun h => ((m s).mp h).resolve_right e⟩
  · rw [putK_new _ vn, List.length_append, ← List.append_assoc, List.length_append]
    have := S.len
    simp only [List.length_singleton]
    omega
  · rcases (m s).mp hs with hs | rfl
    · obtain ⟨l, a, b, c⟩ := S.path s hs
      refine ⟨l, a, fun z hz => (m z).mpr (.inl (b z hz)), fun ne => ?_⟩
      obtain ⟨u, r, e1, e2⟩ := c ne
      exact ⟨u, r, e1, by rw [valV_put, if_neg fun z => n (by rw [← Sum.inr.inj z]; exact hs)]; exact e2⟩
    · obtain ⟨l, a, b, c⟩ := S.path h hh
      have nl : s ∉ l := fun z => n (b s z)
      obtain ⟨r, rfl⟩ := a.head
      refine ⟨s :: h :: r, .cons (by rw [nbB_swap]; exact q) a nl, fun z hz => ?_, fun _ => ⟨h, r, rfl, by rw [valV_put, if_pos rfl]⟩⟩
      rcases List.mem_cons.mp hz with rfl | hz
      · exact (m z).mpr (.inr rfl)
      · exact (m z).mpr (.inl (b z hz))
def spNr (C : Addr) : Sp := fun vs H Q _ => ∃ x o ss rs ns, vs = [.ref x, .str o] ∧ IsV C H x ss rs ns ∧ Tree ss rs ∧ ss.length ≤ 1000 ∧ o ∈ ss ∧
  ∀ r kvs H', Same H H' → H r = none → H' r = some (.dK kvs) → (∀ s ∈ ss, s ≠ o → ∃ u l, valV kvs (.inr s) = some (.str u) ∧ Pt rs s (s :: u :: l) o) → Q (.ref r) H'
theorem scNr : FnScope ["self", "start", "found", "waiting", "house", "far"] ["self", "start"] (defScope sNr) := ⟨rfl, rfl, rfl, by decide +kernel, rfl, by decide +kernel, by decide +kernel⟩
section
variable {P : Program} {w : World} {K : PySem.W.Frag} {mg : Str → Option Value} {base : Heap} {CF C CN CO : Addr}
theorem ok_Nr {f : Addr} {fd : FuncData} (F : Fun K "nearer" "Valley.nearer" sNr f fd) (T : VcT K C) : FnOk P w K mg base CX0 1 f fd ["self", "start"] (spNr C) := by
  refine F.ok scNr (fun vs H Q E h => ?_) (fun cdv A outer s H vs Q E hr h => ?_)
  · obtain ⟨x, o, ss, rs, ns, rfl, _⟩ := h
    rfl
  obtain ⟨x, o, ss, rs, ns, rfl, ⟨ln, l1, l2, l3, d1, d2, d3, qs, bs, vx⟩, tr, hl, ho, q⟩ := h
  have nd := scNr.nd
  have hu := hu_of hr
  obtain ⟨dx, fx, ix, f1, f2, f3, f4, f5, f6, f0⟩ := vx.ins
  refine ⟨_, (pss_cons (by exact (ps_set (i := 2) nd rfl (.inl rfl) (pe_disp (pps_cons (pv 1) pe_non pps_nil) (by rfl) (by rfl) (fun z => by cases z) (by decide))))
  (pss_cons (by exact (ps_set (i := 3) nd rfl (.inl rfl) (pe_lst (pa_cons (pv 1) pa_nil))))
  (pss_cons (by exact (ps_while PassesOwn.never (pt_truth (pv 3) (fun _ => rfl)) (pss_cons (by exact (ps_set (i := 4) nd rfl (.inl rfl) (pe_bm0 PySem.F.plainAttrs_list PySem.F.slot_list_pop PySem.F.type_list_pop mt_pop (pv 3))))
  (pss_one (by exact (ps_for PassesOwn.never rfl (by exact pi_list (pe_dget hu (pe_fld (pv 0) rfl) (pv 4) (fun _ _ => rfl))) (pg_name (i := 5) nd rfl (.inl rfl)) (pss_one (by exact (ps_if (pt_cmp (pc_dnotin hu (pv 5) (pv 2)) (by with_unfolding_all rfl)) (pss_cons (by exact (ps_dput hu (pv 2) (pv 5) (pv 4) rfl))
  (pss_one (by exact (ps_expr (pe_bm PySem.F.plainAttrs_list PySem.F.slot_list_append PySem.F.type_list_append mt_append (pv 3) (pa_cons (pv 5) pa_nil)))))) pss_nil)))))))))
  (pss_one (by exact (ps_ret (pv 2))))))), ?_⟩
  intro D hD
  refine ⟨_, rfl, upd_same, [(.inr o, .non)], rfl, (by show 1 ≤ 15; decide), ?_⟩
  have eD : Same H (upd (upd H D (.dK [])) D (.dK (mergeK [] [(Sum.inr o, V.non)]))) := fun b u n => by
    rw [upd_ne (ne_of_none n hD), upd_ne (ne_of_none n hD)]
    exact n
  have gD : upd (upd H D (.dK [])) D (.dK (mergeK [] [(Sum.inr o, V.non)])) D = some (.dK [(.inr o, .non)]) := upd_same
  generalize upd (upd H D (.dK [])) D (.dK (mergeK [] [(Sum.inr o, V.non)])) = H1 at eD gD ⊢
  refine ⟨_, rfl, (by show 1 ≤ sizeLine; decide), fun W hW => ?_⟩
  have WD : W ≠ D := fun z => by rw [z, gD] at hW; cases hW
  have hW0 : H W = none := eD.free hW
  refine gN ?_
  with_reducible refine sQ ?_

  refine while_gh (fun m σ Hc => (∃ a b, σ = [some (.ref x), some (.str o), some (.ref D), some (.ref W), a, b]) ∧ Same H Hc ∧ ∃ done wt kvs, Hc D = some (.dK kvs) ∧ Hc W = some (.lst (wt.map V.str)) ∧ SeaN ss rs o done wt kvs ∧ (∀ s ∈ done, Clo rs (done ++ wt) s) ∧ m = ss.length - done.length) ss.length
    ⟨⟨_, _, rfl⟩, fun b u n => by rw [upd_ne (ne_of_none n hW0)]; exact eD b u n, [], [o], _, by rw [upd_ne WD.symm]; exact gD, upd_same, SeaN.init ho, fun s hs => absurd hs (by simp), by simp⟩ ?_ ?_
  · rintro m σ Hc ⟨⟨ya, yb, rfl⟩, e1, done, wt, kvs, g1, g2, S, C1, rfl⟩
    refine ⟨_, rfl, _, .inl ⟨_, SqL.of g2, rfl⟩, ?_⟩
    rcases List.eq_nil_or_concat wt with rfl | ⟨wt, h, rfl⟩
    · refine iteF ⟨_, rfl, q D kvs Hc e1 hD g1 fun s hs ne => ?_⟩
      rw [List.append_nil] at C1
      have hin : ∀ t ∈ ss, t ∈ done := fun t ht => by
        refine tr.all (S := fun u => u ∈ done) (fun e he => ?_) ho ht (by have := S.st; rw [List.append_nil] at this; exact this)
        have q1 : nbB rs e.1 e.2 = true := nbB_iff.mpr (.inl he)
        exact ⟨fun h => C1 _ h _ q1, fun h => C1 _ h _ (by rw [nbB_swap]; exact q1)⟩
      obtain ⟨l, a, _, c⟩ := S.path s (by rw [List.append_nil]; exact hin s hs)
      obtain ⟨u, r, rfl, c2⟩ := c ne
      exact ⟨u, r, c2, a⟩
    · rw [List.concat_eq_append] at g2 S C1 ⊢
      have ne : (!((wt ++ [h]).map V.str).isEmpty) = true := by cases wt <;> rfl
      rw [ne]
      refine iteT ?_
      have lt1 : done.length < ss.length := by
        have := S.le
        rw [List.length_append, List.length_append] at this
        simp only [List.length_singleton] at this
        omega
      have hlast : ((wt ++ [h]).map V.str)[((wt ++ [h]).map V.str).length - 1]? = some (.str h) := by
        rw [List.map_append]
        simp
      refine ⟨_, rfl, .inl ⟨rfl, _, SqL.of g2⟩, W, _, .str h, rfl, rfl, g2, hlast, ?_⟩
      have dl : ((wt ++ [h]).map V.str).dropLast = wt.map V.str := by rw [List.map_append]; exact List.dropLast_concat
      rw [dl]
      have S1 := S.take
      have e2 : Same H (upd Hc W (.lst (wt.map V.str))) := fun b u n => by rw [upd_ne (ne_of_none n hW0)]; exact e1 b u n
      have gD2 : upd Hc W (.lst (wt.map V.str)) D = some (.dK kvs) := by rw [upd_ne WD.symm]; exact g1
      have gW2 : upd Hc W (.lst (wt.map V.str)) W = some (.lst (wt.map V.str)) := upd_same
      generalize upd Hc W (.lst (wt.map V.str)) = Hd at e2 gD2 gW2 ⊢
      have hss : h ∈ ss := S1.ins h (by simp)
      obtain ⟨kv3, k1, k2, k3⟩ := vx.p3
      have dg := DGet.k (k := .inr h) (e2 _ _ k1)
      rw [k3 h hss] at dg
      refine gN ?_
      refine ⟨_, rfl, x, C, dx, fx, _, rfl, e2 _ _ ix, T.cl, T.n6, f6, _, rfl, d3, _, rfl, dg, bs h, rfl, ⟨_, SqL.of (e2 _ _ (vx.nb h hss))⟩, ?_⟩
      refine for_it walk_list (fun i σ Hd => (∃ b, σ = [some (.ref x), some (.str o), some (.ref D), some (.ref W), some (.str h), b]) ∧ Same H Hd ∧ ∃ wt' kvs', Hd D = some (.dK kvs') ∧ Hd W = some (.lst (wt'.map V.str)) ∧ SeaN ss rs o (done ++ [h]) wt' kvs' ∧ (∀ s ∈ done, Clo rs (done ++ [h] ++ wt') s) ∧ ∀ t ∈ (nbs ss rs h).take i, t ∈ done ++ [h] ++ wt')
        ⟨⟨_, rfl⟩, e2, wt, kvs, gD2, gW2, S1, fun s hs t ht => ?_, fun t ht => absurd ht (by simp)⟩ (fun i σ Hd _ hh => SqL.of (hh.2.1 _ _ (vx.nb h hss))) ?_ ?_
      · have := C1 s hs t ht
        simp only [List.mem_append, List.mem_singleton] at this ⊢
        rcases this with a | a | a
        · exact .inl (.inl a)
        · exact .inr a
        · exact .inl (.inr a)
      · rintro i y σ Hd' H' hi ⟨⟨b, rfl⟩, e3, wt', kvs', gD3, gW3, S3, C3, N3⟩ ⟨rfl, hy⟩
        rw [List.length_map] at hi
        rw [List.getElem?_map, List.getElem?_eq_getElem hi] at hy
        obtain rfl := Option.some.inj hy
        have hf : (nbs ss rs h)[i] ∈ nbs ss rs h := List.getElem_mem hi
        have nf := (mem_nbs tr.ends).mp hf
        have lk : (done ++ [h] ++ wt').length ≤ 1000 := Nat.le_trans S3.le hl
        refine ⟨_, rfl, _, rfl, D, _, rfl, DGet.k (k := .inr (nbs ss rs h)[i]) gD3, _, rfl, ?_⟩
        rw [S3.keys]
        refine ite2 (fun c => ?_) (fun c => ?_)
        · have c2 : (nbs ss rs h)[i] ∉ done ++ [h] ++ wt' := fun z => by rw [decide_eq_true z] at c; cases c
          refine ⟨_, rfl, _, rfl, _, rfl, D, _, rfl, DPut.k (k := .inr (nbs ss rs h)[i]) gD3 (Nat.lt_of_le_of_lt S3.len (small1000 lk)), ?_⟩
          have gW4 : upd H' D (.dK (putK kvs' (.inr (nbs ss rs h)[i]) (.str h))) W = some (.lst (wt'.map V.str)) := by rw [upd_ne WD]; exact gW3
          have lw : wt'.length ≤ 1000 := by rw [List.length_append] at lk; omega
          refine ⟨_, rfl, .inl ⟨rfl, _, SqL.of gW4⟩, _, rfl, W, _, _, rfl, rfl, gW4, by rw [List.length_map]; exact small1000 lw, ?_⟩
          refine ⟨⟨_, rfl⟩, fun b u n => ?_, wt' ++ [(nbs ss rs h)[i]], _, by rw [upd_ne WD.symm]; exact upd_same, by rw [upd_same, List.map_append]; rfl, S3.add (by simp) tr.ends nf c2, fun s hs t ht => ?_, fun t ht => ?_⟩
          · rw [upd_ne (ne_of_none n hW0), upd_ne (ne_of_none n hD)]
            exact e3 b u n
          · rw [← List.append_assoc]
            exact List.mem_append_left _ (C3 s hs t ht)
          · rw [← List.append_assoc]
            rcases (mem_take_succ hi).mp ht with ht | rfl
            · exact List.mem_append_left _ (N3 t ht)
            · exact List.mem_append_right _ (by simp)
        · have c2 : (nbs ss rs h)[i] ∈ done ++ [h] ++ wt' := by
            by_cases z : (nbs ss rs h)[i] ∈ done ++ [h] ++ wt'
            · exact z
            · rw [decide_eq_false z] at c
              exact absurd rfl c
          refine ⟨⟨_, rfl⟩, e3, wt', kvs', gD3, gW3, S3, C3, fun t ht => ?_⟩
          rcases (mem_take_succ hi).mp ht with ht | rfl
          · exact N3 t ht
          · exact c2
      · rintro σ Hd' ⟨⟨b, rfl⟩, e3, wt', kvs', gD3, gW3, S3, C3, N3⟩
        rw [List.length_map, List.take_length] at N3
        refine ⟨ss.length - (done ++ [h]).length, by rw [List.length_append, List.length_singleton]; omega, ⟨_, _, rfl⟩, e3, done ++ [h], wt', kvs', gD3, gW3, S3, fun s hs => ?_, rfl⟩
        rcases List.mem_append.mp hs with hs | hs
        · exact C3 s hs
        · rw [List.mem_singleton.mp hs]
          exact fun t ht => N3 t ((mem_nbs tr.ends).mpr ht)
  · rintro σ Hc Q1 Q2 hq ⟨v, hv, k, tk, z⟩
    exact ⟨v, hv, k, tk, hq _ _ z⟩
end
end K1
end
-- NWay
section
set_option Elab.async false
set_option linter.all false
set_option maxRecDepth 100000
set_option maxHeartbeats 4000000
namespace K1
open PySem PySem.Spec PyProof.Rows L2
/-- two houses, or which of them is none -/
def spWa (K : PySem.W.Frag) (C CN : Addr) : Sp := fun vs H Q E => ∃ x v u ss rs ns, vs = [.ref x, v, u] ∧ IsV C H x ss rs ns ∧ Tree ss rs ∧ ss.length ≤ 1000 ∧ ((NoHo K H ss v ∧ GoesF CN [("house", v)] H E) ∨ (∃ s, v = .str s ∧ s ∈ ss ∧ ((NoHo K H ss u ∧ GoesF CN [("house", u)] H E) ∨
  (∃ t, u = .str t ∧ t ∈ ss ∧ ∀ r l H', Same H H' → H r = none → Pt rs s l t → H' r = some (.lst (l.map V.str)) → Q (.ref r) H'))))
theorem scWa : FnScope ["self", "one", "other", "nearer", "through"] ["self", "one", "other"] (defScope sWa) := ⟨rfl, rfl, rfl, by decide +kernel, rfl, by decide +kernel, by decide +kernel⟩
theorem Pt.tl {rs : List (Str × Str)} {s t u : Str} {l : List Str} (h : Pt rs s (s :: u :: l) t) : Pt rs u (u :: l) t := by
  cases h with
  | cons q h n =>
    obtain ⟨r, e⟩ := h.head
    injection e with e1 e2
    subst e1
    exact h
theorem Pt.here {rs : List (Str × Str)} (hc : Cut rs) {s : Str} {r : List Str} (h : Pt rs s (s :: r) s) : r = [] := by
  have := h.uniq hc (.one s)
  injection this with _ e
theorem same_upd {H Hc : Hp} {L : Addr} {o : HO} (e : Same H Hc) (n : H L = none) : Same H (L2.upd Hc L o) := fun b u h => by
  rw [upd_ne (ne_of_none h n)]
  exact e b u h
section
variable {P : Program} {w : World} {K : PySem.W.Frag} {mg : Str → Option Value} {base : Heap} {CF C CN CO : Addr}
theorem ok_Wa {f fN fR : Addr} {fd nd_ rd_ : FuncData} (F : Fun K "way" "Valley.way" sWa f fd) (T : VcT K C)
    (GN : FnOk P w K mg base (L2.CX P w) 3 fN nd_ ["self", "house"] (spNe K C CN)) (hN : Meth K C "need_house" fN) (bN : Binds K nd_ ["self", "house"] [])
    (GR : FnOk P w K mg base CX0 1 fR rd_ ["self", "start"] (spNr C)) (hR : Meth K C "nearer" fR) (bR : Binds K rd_ ["self", "start"] []) :
    FnOk P w K mg base (L2.CX P w) 4 f fd ["self", "one", "other"] (spWa K C CN) := by
  refine F.okX scWa (fun vs H Q E h => ?_) (fun cdv A outer s H vs Q E hr h => ?_)
  · obtain ⟨x, v, u, ss, rs, ns, rfl, _⟩ := h
    rfl
  obtain ⟨x, v, u, ss, rs, ns, rfl, iv, tr, hl, h⟩ := h
  obtain ⟨ln, l1, l2, l3, d1, d2, d3, qs, bs, vx⟩ := id iv
  obtain ⟨dx, fx, ix, f1, f2, f3, f4, f5, f6, f0⟩ := vx.ins
  have nd := scWa.nd
  have hu := hu_of hr
  have hr3 : Room 3 _ := hr.mono (by decide)
  have hr1 : Room 1 _ := hr.mono (by decide)
  have nN : fx.lookup ("need_house" : Str) = none := f0 _ (by decide +kernel) (by decide +kernel) (by decide +kernel) (by decide +kernel) (by decide +kernel) (by decide +kernel)
  have nR : fx.lookup ("nearer" : Str) = none := f0 _ (by decide +kernel) (by decide +kernel) (by decide +kernel) (by decide +kernel) (by decide +kernel) (by decide +kernel)
  refine ⟨_, (pss_cons (by exact (ps_expr (pe_meth (pv 0) T.cl hN GN hr3 bN .nil (passes_call (takes_of rfl rfl rfl rfl) (fun _ _ _ _ h => h)) (pa_cons (pv 1) pa_nil))))
  (pss_cons (by exact (ps_expr (pe_meth (pv 0) T.cl hN GN hr3 bN .nil (passes_call (takes_of rfl rfl rfl rfl) (fun _ _ _ _ h => h)) (pa_cons (pv 2) pa_nil))))
  (pss_cons (by exact (ps_set (i := 3) nd rfl (.inl rfl) (pe_meth (pv 0) T.cl hR GR hr1 bR .nil pass0 (pa_cons (pv 2) pa_nil))))
  (pss_cons (by exact (ps_set (i := 4) nd rfl (.inl rfl) (pe_lst (pa_cons (pv 1) pa_nil))))
  (pss_cons (by exact (ps_while (passes_of rfl) (pt_cmpR op_ne (pe_ix ix_list (pv 4) (pe_un un_neg pe_int) (fun _ _ => rfl)) (pv 2) (nomark _)) (pss_one (by exact (ps_expr (pe_bm PySem.F.plainAttrs_list PySem.F.slot_list_append PySem.F.type_list_append mt_append (pv 4) (pa_cons (pe_dget hu (pv 3) (pe_ix ix_list (pv 4) (pe_un un_neg pe_int) (fun _ _ => rfl)) (fun _ _ => rfl)) pa_nil)))))))
  (pss_one (by exact (ps_ret (pv 4))))))))), ?_⟩
  refine ⟨_, rfl, x, dx, fx, rfl, ix, nN, _, rfl, x, v, ss, rs, ns, rfl, iv, ?_⟩
  rcases h with ⟨n, g⟩ | ⟨s, rfl, hs, h⟩
  · exact .inr ⟨n, g⟩
  refine .inl ⟨s, rfl, hs, _, rfl, x, dx, fx, rfl, ix, nN, _, rfl, x, u, ss, rs, ns, rfl, iv, ?_⟩
  rcases h with ⟨n, g⟩ | ⟨t, rfl, ht, q⟩
  · exact .inr ⟨n, g⟩
  refine .inl ⟨t, rfl, ht, _, rfl, x, dx, fx, rfl, ix, nR, _, rfl, x, t, ss, rs, ns, rfl, iv, tr, hl, ht, fun D kvs H1 e1 nD gD near => ?_⟩
  refine gN ?_
  refine ⟨_, rfl, (by show 1 ≤ sizeLine; decide), fun W hW => ?_⟩
  have hW0 : H W = none := e1.free hW
  have WD : W ≠ D := fun z => by rw [z, gD] at hW; cases hW
  obtain ⟨l0, p0⟩ := tr.way hs ht
  obtain ⟨r0, rfl⟩ := p0.head
  refine gN ?_
  with_reducible refine sQ ?_
  refine while_gh (fun m σ Hc => σ = [some (.ref x), some (.str s), some (.str t), some (.ref D), some (.ref W)] ∧ Same H Hc ∧ Hc D = some (.dK kvs) ∧ ∃ pre cur r, Hc W = some (.lst ((pre ++ [cur]).map V.str)) ∧ cur ∈ ss ∧ Pt rs cur (cur :: r) t ∧ Pt rs s (pre ++ cur :: r) t ∧ m = r.length) r0.length
    ⟨rfl, same_upd e1 hW0, by rw [upd_ne WD.symm]; exact gD, [], s, r0, upd_same, hs, p0, p0, rfl⟩ ?_ ?_
  · rintro m σ Hc ⟨rfl, e2, g1, pre, cur, r, g2, hc, pc, pf, rfl⟩
    have al : atI ((pre ++ [cur]).map V.str) (-1) = some (.str cur) := by rw [List.map_append]; exact atI_last _ _
    refine ⟨_, rfl, _, rfl, W, _, _, _, rfl, rfl, SqL.of g2, al, _, rfl, rfl, _, rfl, ?_⟩
    by_cases e : cur = t
    · subst e
      rw [decide_eq_true rfl]
      refine iteF ⟨_, rfl, q W _ Hc e2 hW0 pf ?_⟩
      rw [pc.here tr.cut]
      exact g2
    · have ne : (!decide (V.str cur = V.str t)) = true := by rw [decide_eq_false (fun z => e (V.str.inj z))]; rfl
      rw [ne]
      obtain ⟨u, l, n1, n2⟩ := near cur hc e
      have el := pc.uniq tr.cut n2
      injection el with _ el
      subst el
      have dg := DGet.k (k := .inr cur) g1
      rw [n1] at dg
      have ln2 : (pre ++ [cur]).length ≤ 1000 := by
        have := nodup_len pf.nd (pf.mem tr.ends ht)
        rw [List.length_append] at this ⊢
        simp only [List.length_cons, List.length_nil] at this ⊢
        omega
      refine iteT ⟨_, rfl, .inl ⟨rfl, _, SqL.of g2⟩, _, rfl, _, rfl, _, rfl, W, _, _, _, rfl, rfl, SqL.of g2, al, D, _, rfl, dg, W, _, _, rfl, rfl, g2, by rw [List.length_map]; exact small1000 ln2, ?_⟩
      refine ⟨l.length, Nat.lt_succ_self _, rfl, same_upd e2 hW0, by rw [upd_ne WD.symm]; exact g1, pre ++ [cur], u, l, by rw [upd_same, List.map_append (l₂ := [u])]; rfl, (pc.mem tr.ends ht) u (by simp), pc.tl, by rw [List.append_assoc]; exact pf, rfl⟩
  · rintro σ Hc Q1 Q2 hq ⟨v1, h1, v2, h2, p, xs, i, y, a, b, c, d, v4, h4, k5, b5, h5, z⟩
    exact ⟨v1, h1, v2, h2, p, xs, i, y, a, b, c, d, v4, h4, k5, b5, h5, hq _ _ z⟩
end
end K1
end
-- NSide
section
set_option Elab.async false
set_option linter.all false
set_option maxRecDepth 100000
set_option maxHeartbeats 4000000
namespace K1
open PySem PySem.Spec PyProof.Rows L2
open Classical in
/-- the houses on other's side of the road of one and other, in the valley's order -/
noncomputable def sideL (ss : List Str) (rs : List (Str × Str)) (one other : Str) : List Str := ss.filter fun z => decide (Rch rs one other z)
theorem plOf_nb {rs : List (Str × Str)} {s t : Str} : (plOf rs s t).isSome = nbB rs s t := by
  unfold plOf nbB
  rw [List.findIdx?_isSome]
/-- a search on one side of a road -/
structure SeaS (ss : List Str) (rs : List (Str × Str)) (one other : Str) (done wt : List Str) (kvs : List (Key × V)) : Prop where
  nd : (done ++ wt).Nodup
  ins : ∀ s ∈ done ++ wt, s ∈ ss
  keys : ∀ s, (valV kvs (.inr s)).isSome = decide (s ∈ done ++ wt)
  len : kvs.length ≤ (done ++ wt).length
  st : other ∈ done ++ wt
  rch : ∀ s ∈ done ++ wt, Rch rs one other s
theorem SeaS.le {ss : List Str} {rs : List (Str × Str)} {one other : Str} {done wt : List Str} {kvs : List (Key × V)} (S : SeaS ss rs one other done wt kvs) : (done ++ wt).length ≤ ss.length := nodup_len S.nd S.ins
theorem SeaS.init {ss : List Str} {rs : List (Str × Str)} {one o : Str} {v : V} (ho : o ∈ ss) : SeaS ss rs one o [] [o] [(.inr o, v)] := by
  refine ⟨by simp, fun s hs => by rw [List.mem_singleton.mp hs]; exact ho, fun s => ?_, Nat.le_refl _, by simp, fun s hs => ?_⟩
  · by_cases e : s = o
    · subst e
      rw [valV_pos (p := (Sum.inr s, v)) rfl]
      simp
    · rw [valV_neg (p := (Sum.inr o, v)) (fun z => e (Sum.inr.inj z).symm)]
      simp [e, valV_nil]
  · rw [List.mem_singleton.mp hs]
    exact .base
theorem SeaS.take {ss : List Str} {rs : List (Str × Str)} {one o : Str} {done wt : List Str} {h : Str} {kvs : List (Key × V)} (S : SeaS ss rs one o done (wt ++ [h]) kvs) : SeaS ss rs one o (done ++ [h]) wt kvs := by
  have p : (done ++ (wt ++ [h])).Perm (done ++ [h] ++ wt) := by
    rw [List.append_assoc]
    exact List.Perm.append_left _ List.perm_append_comm
  have m : ∀ z, z ∈ done ++ (wt ++ [h]) ↔ z ∈ done ++ [h] ++ wt := fun z => p.mem_iff
  exact ⟨p.nodup_iff.mp S.nd, fun s hs => S.ins s ((m s).mpr hs), fun s => by rw [S.keys s]; exact decide_eq_decide.mpr (m s), by rw [← p.length_eq]; exact S.len, (m o).mp S.st, fun s hs => S.rch s ((m s).mpr hs)⟩
theorem SeaS.add {ss : List Str} {rs : List (Str × Str)} {one o : Str} {done wt : List Str} {h f : Str} {kvs : List (Key × V)} {v : V} (S : SeaS ss rs one o done wt kvs) (hh : h ∈ done ++ wt) (he : EndsIn ss rs) (q : nbB rs h f = true) (n1 : f ≠ one) (n : f ∉ done ++ wt) :
    SeaS ss rs one o done (wt ++ [f]) (putK kvs (.inr f) v) := by
  have m : ∀ z, z ∈ done ++ (wt ++ [f]) ↔ z ∈ done ++ wt ∨ z = f := fun z => by
    rw [← List.append_assoc, List.mem_append, List.mem_singleton]
  have vn : valV kvs (.inr f) = none := by
    have := S.keys f
    rw [decide_eq_false n] at this
    cases e : valV kvs (.inr f) with
    | none => rfl
    | some v => rw [e] at this; cases this
  refine ⟨?_, fun s hs => ?_, fun s => ?_, ?_, (m o).mpr (.inl S.st), fun s hs => ?_⟩
  · rw [← List.append_assoc, List.nodup_append]
    exact ⟨S.nd, by simp, fun x hx y hy => by rw [List.mem_singleton.mp hy]; intro z; exact n (by rw [← z]; exact hx)⟩
  · rcases (m s).mp hs with hs | rfl
    · exact S.ins s hs
    · exact (he.nb q).2
  · rw [valV_put]
    by_cases e : s = f
    · subst e
      rw [if_pos rfl, decide_eq_true ((m s).mpr (.inr rfl))]
      rfl
    · rw [if_neg fun z => e (Sum.inr.inj z), S.keys s]
      exact decide_eq_decide.mpr ⟨fun h => (m s).mpr (.inl h), fun h => ((m s).mp h).resolve_right e⟩
  · rw [putK_new _ vn, List.length_append, ← List.append_assoc, List.length_append]
    have := S.len
    simp only [List.length_singleton]
    omega
  · rcases (m s).mp hs with hs | rfl
    · exact S.rch s hs
    · exact (S.rch h hh).step q n1
/-- all that lie beside a house, but one -/
def CloO (rs : List (Str × Str)) (one : Str) (all : List Str) (s : Str) : Prop := ∀ t, nbB rs s t = true → t ≠ one → t ∈ all
theorem rch_all {rs : List (Str × Str)} {one other : Str} {all : List Str} (h0 : other ∈ all) (h : ∀ s ∈ all, CloO rs one all s) {z : Str} (r : Rch rs one other z) : z ∈ all := by
  induction r with
  | base => exact h0
  | step _ q n ih => exact h _ ih _ q n
def spSi (K : PySem.W.Frag) (C CN CO : Addr) : Sp := fun vs H Q E => ∃ x v u ss rs ns, vs = [.ref x, v, u] ∧ IsV C H x ss rs ns ∧ Tree ss rs ∧ ss.length ≤ 1000 ∧ ((NoHo K H ss v ∧ GoesF CN [("house", v)] H E) ∨ (∃ s, v = .str s ∧ s ∈ ss ∧ ((NoHo K H ss u ∧ GoesF CN [("house", u)] H E) ∨
  (∃ t, u = .str t ∧ t ∈ ss ∧ ((nbB rs s t = false ∧ GoesF CO [("other", .str t), ("one", .str s)] H E) ∨ (nbB rs s t = true ∧ ∀ r H', Same H H' → H r = none → H' r = some (.lst ((sideL ss rs s t).map V.str)) → Q (.ref r) H'))))))
theorem scSi : FnScope ["self", "one", "other", "there", "waiting", "house", "far"] ["self", "one", "other"] (defScope sSi) := ⟨rfl, rfl, rfl, by decide +kernel, rfl, by decide +kernel, by decide +kernel⟩
section
variable {P : Program} {w : World} {K : PySem.W.Frag} {mg : Str → Option Value} {base : Heap} {CF C CN CO : Addr}
open Classical in
theorem ok_Si {f fP : Addr} {fd pd_ : FuncData} (F : Fun K "side" "Valley.side" sSi f fd) (T : VcT K C)
    (GP : FnOk P w K mg base (L2.CX P w) 4 fP pd_ ["self", "one", "other"] (spPl K C CN CO)) (hP : Meth K C "place" fP) (bP : Binds K pd_ ["self", "one", "other"] []) :
    FnOk P w K mg base (L2.CX P w) 5 f fd ["self", "one", "other"] (spSi K C CN CO) := by
  refine F.okX scSi (fun vs H Q E h => ?_) (fun cdv A outer s H vs Q E hr h => ?_)
  · obtain ⟨x, v, u, ss, rs, ns, rfl, _⟩ := h
    rfl
  obtain ⟨x, v, u, ss, rs, ns, rfl, iv, tr, hl, h⟩ := h
  obtain ⟨ln, l1, l2, l3, d1, d2, d3, qs, bs, vx⟩ := id iv
  obtain ⟨dx, fx, ix, f1, f2, f3, f4, f5, f6, f0⟩ := vx.ins
  have nd := scSi.nd
  have hu := hu_of hr
  have hr4 : Room 4 _ := hr.mono (by decide)
  have nP : fx.lookup ("place" : Str) = none := f0 _ (by decide +kernel) (by decide +kernel) (by decide +kernel) (by decide +kernel) (by decide +kernel) (by decide +kernel)
  refine ⟨_, (pss_cons (by exact (ps_expr (pe_meth (pv 0) T.cl hP GP hr4 bP .nil (passes_call (takes_of rfl rfl rfl rfl) (fun _ _ _ _ h => h)) (pa_cons (pv 1) (pa_cons (pv 2) pa_nil)))))
  (pss_cons (by exact (ps_set (i := 3) nd rfl (.inr rfl) (pe_disp (pps_cons (pv 2) pe_bl pps_nil) (by rfl) (by rfl) (fun z => by cases z) (by decide))))
  (pss_cons (by exact (ps_set (i := 4) nd rfl (.inl rfl) (pe_lst (pa_cons (pv 2) pa_nil))))
  (pss_cons (by exact (ps_while (passes_of rfl) (pt_truth (pv 4) (fun _ => rfl)) (pss_cons (by exact (ps_set (i := 5) nd rfl (.inl rfl) (pe_bm0 PySem.F.plainAttrs_list PySem.F.slot_list_pop PySem.F.type_list_pop mt_pop (pv 4))))
  (pss_one (by exact (ps_for (passes_of rfl) rfl (by exact pi_list (pe_dget hu (pe_fld (pv 0) rfl) (pv 5) (fun _ _ => rfl))) (pg_name (i := 6) nd rfl (.inl rfl)) (pss_one (by exact (ps_if (PW.pt (pw_and (pt_cmpR op_ne (pv 6) (pv 1) (nomark _)) (pw_and1 (pt_cmp (pc_dnotin hu (pv 6) (pv 3)) (by with_unfolding_all rfl))))) (pss_cons (by exact (ps_dput hu (pv 3) (pv 6) pe_bl rfl))
  (pss_one (by exact (ps_expr (pe_bm PySem.F.plainAttrs_list PySem.F.slot_list_append PySem.F.type_list_append mt_append (pv 4) (pa_cons (pv 6) pa_nil)))))) pss_nil)))))))))
  (pss_one (by exact (ps_ret (pe_lc (own := [("house", 5)]) (g := gName 5) (tt := _) rfl nd (by exact pi_list (pe_fld (pv 0) rfl)) (by exact blkOk_by (N := ["self", "one", "other", "there", "waiting", "house", "far"]) (sc := defScope sSi) (by decide +kernel)) (fun _ _ _ _ _ => by exact (pg_name (i := 5) nd rfl (.inl rfl))) (fun _ _ _ _ _ => by exact (pts_one (pt_cmp (pc_din hu (pv 5) (pv 3)) (by with_unfolding_all rfl)))) (fun _ _ _ _ _ => by exact (pv 5)))))))))), ?_⟩
  refine ⟨_, rfl, x, dx, fx, rfl, ix, nP, _, rfl, _, rfl, x, v, u, ss, rs, ns, rfl, iv, ?_⟩
  rcases h with ⟨n, g⟩ | ⟨s, rfl, hs, h⟩
  · exact .inl ⟨n, g⟩
  refine .inr ⟨s, rfl, hs, ?_⟩
  rcases h with ⟨n, g⟩ | ⟨t, rfl, ht, h⟩
  · exact .inl ⟨n, g⟩
  refine .inr ⟨t, rfl, ht, ?_⟩
  rcases h with ⟨n, g⟩ | ⟨hnb, q⟩
  · refine .inl ⟨?_, g⟩
    have := plOf_nb (rs := rs) (s := s) (t := t)
    rw [n] at this
    cases e : plOf rs s t with
    | none => rfl
    | some i => rw [e] at this; cases this
  obtain ⟨i, hi⟩ : ∃ i, plOf rs s t = some i := by
    have := plOf_nb (rs := rs) (s := s) (t := t)
    rw [hnb] at this
    exact Option.isSome_iff_exists.mp this
  refine .inr ⟨i, hi, fun H0 e0 => ?_⟩
  intro D hD
  refine ⟨_, rfl, upd_same, [(.inr t, .bl true)], rfl, (by show 1 ≤ 15; decide), ?_⟩
  have hD0 : H D = none := e0.free hD
  have eD : Same H (upd (upd H0 D (.dK [])) D (.dK (mergeK [] [(Sum.inr t, V.bl true)]))) := fun b u n => by
    rw [upd_ne (ne_of_none n hD0), upd_ne (ne_of_none n hD0)]
    exact e0 b u n
  have gD : upd (upd H0 D (.dK [])) D (.dK (mergeK [] [(Sum.inr t, V.bl true)])) D = some (.dK [(.inr t, .bl true)]) := upd_same
  generalize upd (upd H0 D (.dK [])) D (.dK (mergeK [] [(Sum.inr t, V.bl true)])) = H1 at eD gD ⊢
  refine ⟨_, rfl, (by show 1 ≤ sizeLine; decide), fun W hW => ?_⟩
  have WD : W ≠ D := fun z => by rw [z, gD] at hW; cases hW
  have hW0 : H W = none := eD.free hW
  refine gN ?_
  with_reducible refine sQ ?_
  refine while_gh (fun m σ Hc => (∃ a b, σ = [some (.ref x), some (.str s), some (.str t), some (.ref D), some (.ref W), a, b]) ∧ Same H Hc ∧ ∃ done wt kvs, Hc D = some (.dK kvs) ∧ Hc W = some (.lst (wt.map V.str)) ∧ SeaS ss rs s t done wt kvs ∧ (∀ z ∈ done, CloO rs s (done ++ wt) z) ∧ m = ss.length - done.length) ss.length
    ⟨⟨_, _, rfl⟩, same_upd eD hW0, [], [t], _, by rw [upd_ne WD.symm]; exact gD, upd_same, SeaS.init ht, fun s hs => absurd hs (by simp), by simp⟩ ?_ ?_
  · rintro m σ Hc ⟨⟨ya, yb, rfl⟩, e1, done, wt, kvs, g1, g2, S, C1, rfl⟩
    refine ⟨_, rfl, _, .inl ⟨_, SqL.of g2, rfl⟩, ?_⟩
    rcases List.eq_nil_or_concat wt with rfl | ⟨wt, h, rfl⟩
    · refine iteF ?_
      refine ⟨_, rfl, x, C, dx, fx, _, rfl, e1 _ _ ix, T.cl, T.n1, f1, l1, rfl, ⟨_, SqL.of (e1 _ _ vx.h1)⟩, fun L hL => ?_⟩
      have hL0 : H L = none := e1.free hL
      have LD : L ≠ D := fun z => by rw [z, g1] at hL; cases hL
      have memb : ∀ z, decide (Rch rs s t z) = decide (z ∈ done ++ []) := fun z => decide_eq_decide.mpr ⟨fun r => rch_all S.st (fun y hy => C1 y (by rw [List.append_nil] at hy; exact hy)) r, fun m => S.rch z m⟩
      refine lc_it walk_list (fun i Hd => Same H Hd ∧ Hd D = some (.dK kvs) ∧ Hd L = some (.lst (((ss.take i).filter fun z => decide (Rch rs s t z)).map V.str))) ⟨same_upd e1 hL0, by rw [upd_ne LD.symm]; exact g1, upd_same⟩ (fun i Hd _ hh => SqL.of (hh.1 _ _ vx.h1)) ?_ ?_
      · rintro j y Hd H'' hj ⟨k1, kD, k2⟩ ⟨rfl, hy⟩
        rw [List.length_map] at hj
        rw [List.getElem?_map, List.getElem?_eq_getElem hj] at hy
        obtain rfl := Option.some.inj hy
        refine ⟨rfl, ?_⟩
        refine ⟨_, rfl, _, rfl, D, _, rfl, DGet.k (k := .inr ss[j]) kD, _, rfl, ?_⟩
        rw [S.keys, ← memb]
        have tk : (ss.take (j + 1)).filter (fun z => decide (Rch rs s t z)) = (ss.take j).filter (fun z => decide (Rch rs s t z)) ++ if decide (Rch rs s t ss[j]) = true then [ss[j]] else [] := by
          rw [List.take_succ, List.getElem?_eq_getElem hj, List.filter_append]
          congr 1
          by_cases c : decide (Rch rs s t ss[j]) = true
          · simp only [Option.toList, List.filter_cons, if_pos c, List.filter_nil]
          · simp only [Option.toList, List.filter_cons, if_neg c, List.filter_nil]
        have ll : ((ss.take j).filter fun z => decide (Rch rs s t z)).length ≤ 1000 := Nat.le_trans (List.length_filter_le _ _) (Nat.le_trans (List.length_take_le _ _) (by omega))
        refine ite2 (fun c => ?_) (fun c => ?_)
        · refine ⟨_, rfl, _, k2, by rw [List.length_map]; exact small1000 ll, same_upd k1 hL0, by rw [upd_ne LD.symm]; exact kD, ?_⟩
          rw [upd_same, tk, if_pos c, List.map_append]
          rfl
        · exact ⟨k1, kD, by rw [tk, if_neg c, List.append_nil]; exact k2⟩
      · rintro Hd ⟨k1, _, k2⟩
        rw [List.length_map, List.take_length] at k2
        exact q L Hd k1 hL0 k2
    · rw [List.concat_eq_append] at g2 S C1 ⊢
      have ne : (!((wt ++ [h]).map V.str).isEmpty) = true := by cases wt <;> rfl
      rw [ne]
      refine iteT ?_
      have lt1 : done.length < ss.length := by
        have := S.le
        rw [List.length_append, List.length_append] at this
        simp only [List.length_singleton] at this
        omega
      have hlast : ((wt ++ [h]).map V.str)[((wt ++ [h]).map V.str).length - 1]? = some (.str h) := by
        rw [List.map_append]
        simp
      refine ⟨_, rfl, .inl ⟨rfl, _, SqL.of g2⟩, W, _, .str h, rfl, rfl, g2, hlast, ?_⟩
      have dl : ((wt ++ [h]).map V.str).dropLast = wt.map V.str := by rw [List.map_append]; exact List.dropLast_concat
      rw [dl]
      have S1 := S.take
      have e2 : Same H (upd Hc W (.lst (wt.map V.str))) := same_upd e1 hW0
      have gD2 : upd Hc W (.lst (wt.map V.str)) D = some (.dK kvs) := by rw [upd_ne WD.symm]; exact g1
      have gW2 : upd Hc W (.lst (wt.map V.str)) W = some (.lst (wt.map V.str)) := upd_same
      generalize upd Hc W (.lst (wt.map V.str)) = Hd at e2 gD2 gW2 ⊢
      have hss : h ∈ ss := S1.ins h (by simp)
      obtain ⟨kv3, k1, k2, k3⟩ := vx.p3
      have dg := DGet.k (k := .inr h) (e2 _ _ k1)
      rw [k3 h hss] at dg
      refine gN ?_
      refine ⟨_, rfl, x, C, dx, fx, _, rfl, e2 _ _ ix, T.cl, T.n6, f6, _, rfl, d3, _, rfl, dg, bs h, rfl, ⟨_, SqL.of (e2 _ _ (vx.nb h hss))⟩, ?_⟩
      refine for_it walk_list (fun i σ Hd => (∃ b, σ = [some (.ref x), some (.str s), some (.str t), some (.ref D), some (.ref W), some (.str h), b]) ∧ Same H Hd ∧ ∃ wt' kvs', Hd D = some (.dK kvs') ∧ Hd W = some (.lst (wt'.map V.str)) ∧ SeaS ss rs s t (done ++ [h]) wt' kvs' ∧ (∀ z ∈ done, CloO rs s (done ++ [h] ++ wt') z) ∧ ∀ z ∈ (nbs ss rs h).take i, z ≠ s → z ∈ done ++ [h] ++ wt')
        ⟨⟨_, rfl⟩, e2, wt, kvs, gD2, gW2, S1, fun z hz y hy n => ?_, fun t ht => absurd ht (by simp)⟩ (fun i σ Hd _ hh => SqL.of (hh.2.1 _ _ (vx.nb h hss))) ?_ ?_
      · have := C1 z hz y hy n
        simp only [List.mem_append, List.mem_singleton] at this ⊢
        rcases this with a | a | a
        · exact .inl (.inl a)
        · exact .inr a
        · exact .inl (.inr a)
      · rintro i y σ Hd' H' hi ⟨⟨b, rfl⟩, e3, wt', kvs', gD3, gW3, S3, C3, N3⟩ ⟨rfl, hy⟩
        rw [List.length_map] at hi
        rw [List.getElem?_map, List.getElem?_eq_getElem hi] at hy
        obtain rfl := Option.some.inj hy
        have hf : (nbs ss rs h)[i] ∈ nbs ss rs h := List.getElem_mem hi
        have nf := (mem_nbs tr.ends).mp hf
        have lk : (done ++ [h] ++ wt').length ≤ 1000 := Nat.le_trans S3.le hl
        refine ⟨_, rfl, _, rfl, rfl, _, rfl, ?_⟩
        by_cases e : (nbs ss rs h)[i] = s
        · rw [e, decide_eq_true rfl]
          refine ite2 (fun c => by cases c) (fun _ => ?_)
          refine iteF ⟨⟨_, rfl⟩, e3, wt', kvs', gD3, gW3, S3, C3, fun z hz n => ?_⟩
          rcases (mem_take_succ hi).mp hz with hz | rfl
          · exact N3 z hz n
          · exact absurd e n
        · have ne2 : (!decide (V.str (nbs ss rs h)[i] = V.str s)) = true := by rw [decide_eq_false (fun z => e (V.str.inj z))]; rfl
          rw [ne2]
          refine ite2 (fun _ => ?_) (fun c => absurd rfl c)
          refine ⟨_, rfl, _, rfl, D, _, rfl, DGet.k (k := .inr (nbs ss rs h)[i]) gD3, _, rfl, ?_⟩
          rw [S3.keys]
          refine ite2 (fun c => ?_) (fun c => ?_)
          · have c2 : (nbs ss rs h)[i] ∉ done ++ [h] ++ wt' := fun z => by rw [decide_eq_true z] at c; cases c
            refine ⟨_, rfl, _, rfl, D, _, rfl, DPut.k (k := .inr (nbs ss rs h)[i]) gD3 (Nat.lt_of_le_of_lt S3.len (small1000 lk)), ?_⟩
            have gW4 : upd H' D (.dK (putK kvs' (.inr (nbs ss rs h)[i]) (.bl true))) W = some (.lst (wt'.map V.str)) := by rw [upd_ne WD]; exact gW3
            have lw : wt'.length ≤ 1000 := by rw [List.length_append] at lk; omega
            refine ⟨_, rfl, .inl ⟨rfl, _, SqL.of gW4⟩, _, rfl, W, _, _, rfl, rfl, gW4, by rw [List.length_map]; exact small1000 lw, ?_⟩
            refine ⟨⟨_, rfl⟩, same_upd (same_upd e3 hD0) hW0, wt' ++ [(nbs ss rs h)[i]], _, by rw [upd_ne WD.symm]; exact upd_same, by rw [upd_same, List.map_append]; rfl, S3.add (by simp) tr.ends nf e c2, fun z hz y hy n => ?_, fun z hz n => ?_⟩
            · rw [← List.append_assoc]
              exact List.mem_append_left _ (C3 z hz y hy n)
            · rw [← List.append_assoc]
              rcases (mem_take_succ hi).mp hz with hz | rfl
              · exact List.mem_append_left _ (N3 z hz n)
              · exact List.mem_append_right _ (by simp)
          · have c2 : (nbs ss rs h)[i] ∈ done ++ [h] ++ wt' := by
              by_cases z : (nbs ss rs h)[i] ∈ done ++ [h] ++ wt'
              · exact z
              · rw [decide_eq_false z] at c
                exact absurd rfl c
            refine ⟨⟨_, rfl⟩, e3, wt', kvs', gD3, gW3, S3, C3, fun z hz n => ?_⟩
            rcases (mem_take_succ hi).mp hz with hz | rfl
            · exact N3 z hz n
            · exact c2
      · rintro σ Hd' ⟨⟨b, rfl⟩, e3, wt', kvs', gD3, gW3, S3, C3, N3⟩
        rw [List.length_map, List.take_length] at N3
        refine ⟨ss.length - (done ++ [h]).length, by rw [List.length_append, List.length_singleton]; omega, ⟨_, _, rfl⟩, e3, done ++ [h], wt', kvs', gD3, gW3, S3, fun z hz => ?_, rfl⟩
        rcases List.mem_append.mp hz with hz | hz
        · exact C3 z hz
        · rw [List.mem_singleton.mp hz]
          exact fun y hy n => N3 y ((mem_nbs tr.ends).mpr hy) n
  · rintro σ Hc Q1 Q2 hq ⟨v, hv, k, tk, z⟩
    exact ⟨v, hv, k, tk, hq _ _ z⟩
end
end K1
end
-- NNr2
section
set_option Elab.async false
set_option linter.all false
set_option maxRecDepth 100000
set_option maxHeartbeats 4000000
namespace K1
open PySem PySem.Spec PyProof.Rows L2
abbrev sVn : Stmt := top 37
theorem inV_str {x : Str} : ∀ {xs : List Str}, inV (.str x) (xs.map V.str) = decide (x ∈ xs)
  | [] => rfl
  | y :: ys => by
    unfold inV
    rw [List.map_cons, List.any_cons]
    have ih := inV_str (x := x) (xs := ys)
    unfold inV at ih
    rw [ih]
    by_cases e : y = x
    · subst e
      simp [eqV]
    · have e2 : ¬ x = y := fun z => e z.symm
      simp [eqV, e, e2]
theorem flat_strs {xs : List Str} : (xs.map V.str).all flatV = true := by
  rw [List.all_eq_true]
  intro v hv
  obtain ⟨s, _, rfl⟩ := List.mem_map.mp hv
  rfl
def spVn : Sp := fun vs H Q _ => ∃ (t p1 p2 : Addr) (x3 : V) (qs : List Addr) (ss : List Str) (rs : List (Str × Str)) (s : Str), vs = [.ref t, .str s] ∧ H t = some (.tup [.ref p1, .ref p2, x3]) ∧ H p1 = some (.lst (ss.map V.str)) ∧ H p2 = some (.lst (qs.map V.ref)) ∧ Paired (TupP H) qs rs ∧ ss.length ≤ 1000 ∧ rs.length ≤ 1000 ∧
  ∀ r H', Same H H' → H r = none → H' r = some (.lst ((nbs ss rs s).map V.str)) → Q (.ref r) H'
theorem scVn : FnScope ["valley", "house", "one", "other", "found", "name"] ["valley", "house"] (defScope sVn) := ⟨rfl, rfl, rfl, by decide +kernel, rfl, by decide +kernel, by decide +kernel⟩
/-- the other ends of the roads that begin, or end, at a house -/
def outs (rs : List (Str × Str)) (s : Str) : List Str := (rs.filter fun r => decide (r.1 = s)).map (·.2)
def inns (rs : List (Str × Str)) (s : Str) : List Str := (rs.filter fun r => decide (r.2 = s)).map (·.1)
theorem mem_near {rs : List (Str × Str)} {s t : Str} : decide (t ∈ outs rs s ++ inns rs s) = nbB rs s t := by
  rw [Bool.eq_iff_iff, decide_eq_true_eq, nbB_iff, List.mem_append]
  unfold outs inns
  simp only [List.mem_map, List.mem_filter, decide_eq_true_eq]
  constructor
  · rintro (⟨r, ⟨h, rfl⟩, rfl⟩ | ⟨r, ⟨h, rfl⟩, rfl⟩)
    · exact .inl h
    · exact .inr h
  · rintro (h | h)
    · exact .inl ⟨_, ⟨h, rfl⟩, rfl⟩
    · exact .inr ⟨_, ⟨h, rfl⟩, rfl⟩
theorem outs_succ {rs : List (Str × Str)} {s : Str} {i : Nat} (hi : i < rs.length) : outs (rs.take (i + 1)) s = outs (rs.take i) s ++ if rs[i].1 = s then [rs[i].2] else [] := by
  unfold outs
  rw [List.take_succ, List.getElem?_eq_getElem hi, List.filter_append, List.map_append]
  congr 1
  by_cases c : rs[i].1 = s
  · simp [c]
  · simp [c]
theorem inns_succ {rs : List (Str × Str)} {s : Str} {i : Nat} (hi : i < rs.length) : inns (rs.take (i + 1)) s = inns (rs.take i) s ++ if rs[i].2 = s then [rs[i].1] else [] := by
  unfold inns
  rw [List.take_succ, List.getElem?_eq_getElem hi, List.filter_append, List.map_append]
  congr 1
  by_cases c : rs[i].2 = s
  · simp [c]
  · simp [c]
theorem outs_len {rs : List (Str × Str)} {s : Str} : (outs rs s).length ≤ rs.length := by
  unfold outs
  rw [List.length_map]
  exact List.length_filter_le _ _
theorem inns_len {rs : List (Str × Str)} {s : Str} : (inns rs s).length ≤ rs.length := by
  unfold inns
  rw [List.length_map]
  exact List.length_filter_le _ _
section
variable {P : Program} {w : World} {K : PySem.W.Frag} {mg : Str → Option Value} {base : Heap}
theorem ok_Vn {f : Addr} {fd : FuncData} (F : Fun K "_law_v_near" "_law_v_near" sVn f fd) : FnOk P w K mg base CX0 1 f fd ["valley", "house"] spVn := by
  refine F.ok scVn (fun vs H Q E h => ?_) (fun cdv A outer s H vs Q E hr h => ?_)
  · obtain ⟨t, p1, p2, x3, qs, ss, rs, s, rfl, _⟩ := h
    rfl
  obtain ⟨t, p1, p2, x3, qs, ss, rs, s, rfl, ht, h1, h2, pr, hl, hlr, q⟩ := h
  have nd := scVn.nd
  have lqs : qs.length = rs.length := pr.length
  refine ⟨_, (pss_cons (by exact (ps_set (i := 4) nd rfl (.inr rfl) (pe_op op_cat (pe_lc (own := [("one", 2), ("other", 3)]) (g := gTup K 2 (gCons (gName 2) (gCons (gName 3) gNil))) (tt := _) rfl nd (by exact pi_list (pe_ix ix_tup (pv 0) pe_int (fun _ _ => rfl))) (by exact blkOk_by (N := ["valley", "house", "one", "other", "found", "name"]) (sc := defScope sVn) (by decide +kernel)) (fun _ _ _ _ _ => by exact (pg_tup rfl (pgs_cons (pg_name (i := 2) nd rfl (.inl rfl)) (pgs_cons (pg_name (i := 3) nd rfl (.inl rfl)) pgs_nil)))) (fun _ _ _ _ _ => by exact (pts_one (pt_cmpR op_eq (pv 2) (pv 1) (nomark _)))) (fun _ _ _ _ _ => by exact (pv 3))) (pe_lc (own := [("one", 2), ("other", 3)]) (g := gTup K 2 (gCons (gName 2) (gCons (gName 3) gNil))) (tt := _) rfl nd (by exact pi_list (pe_ix ix_tup (pv 0) pe_int (fun _ _ => rfl))) (by exact blkOk_by (N := ["valley", "house", "one", "other", "found", "name"]) (sc := defScope sVn) (by decide +kernel)) (fun _ _ _ _ _ => by exact (pg_tup rfl (pgs_cons (pg_name (i := 2) nd rfl (.inl rfl)) (pgs_cons (pg_name (i := 3) nd rfl (.inl rfl)) pgs_nil)))) (fun _ _ _ _ _ => by exact (pts_one (pt_cmpR op_eq (pv 3) (pv 1) (nomark _)))) (fun _ _ _ _ _ => by exact (pv 2))))))
  (pss_one (by exact (ps_ret (pe_lc (own := [("name", 5)]) (g := gName 5) (tt := tB (tOp (rIn K false) (tVar 5) (tVar 4))) rfl nd (by exact pi_list (pe_ix ix_tup (pv 0) pe_int (fun _ _ => rfl))) (by exact blkOk_by (N := ["valley", "house", "one", "other", "found", "name"]) (sc := defScope sVn) (by decide +kernel)) (fun _ _ _ _ _ => by exact (pg_name (i := 5) nd rfl (.inl rfl))) (fun _ _ _ _ _ => by exact (pts_one (pt_cmpR op_in_seq (pv 5) (pv 4) (by with_unfolding_all rfl)))) (fun _ _ _ _ _ => by exact (pv 5))))))), ?_⟩
  have m1 : atI [V.ref p1, V.ref p2, x3] 1 = some (.ref p2) := rfl
  have m0 : atI [V.ref p1, V.ref p2, x3] 0 = some (.ref p1) := rfl
  refine ⟨_, rfl, t, _, _, _, rfl, rfl, SqT.of ht, m1, p2, rfl, ⟨_, SqL.of h2⟩, fun L1 hL1 => ?_⟩
  refine lc_it walk_list (fun i Hd => Same H Hd ∧ Hd L1 = some (.lst ((outs (rs.take i) s).map V.str))) ⟨K1.Same.upd hL1, upd_same⟩ (fun i Hd _ hh => SqL.of (hh.1 _ _ h2)) ?_ ?_
  · rintro i y Hd H' hi ⟨k1, k2⟩ ⟨rfl, hy⟩
    rw [List.length_map, lqs] at hi
    obtain ⟨q', rfl, tq⟩ := paired_ref pr hi hy
    have ll : (outs (rs.take i) s).length ≤ 1000 := Nat.le_trans outs_len (Nat.le_trans (List.length_take_le _ _) (by omega))
    refine ⟨q', _, rfl, SqT.of (k1 _ _ tq), rfl, _, _, rfl, _, _, rfl, rfl, rfl, ?_⟩
    refine ⟨_, rfl, _, rfl, rfl, _, rfl, ?_⟩
    by_cases c : rs[i].1 = s
    · rw [c, decide_eq_true rfl]
      refine iteT ⟨_, rfl, _, k2, by rw [List.length_map]; exact small1000 ll, same_upd k1 hL1, by rw [upd_same, outs_succ hi, if_pos c, List.map_append]; rfl⟩
    · rw [decide_eq_false fun z => c (V.str.inj z)]
      exact iteF ⟨k1, by rw [outs_succ hi, if_neg c, List.append_nil]; exact k2⟩
  rintro H1 ⟨e1, g1⟩
  rw [List.length_map, lqs, List.take_length] at g1
  refine ⟨_, rfl, t, _, _, _, rfl, rfl, SqT.of (e1 _ _ ht), m1, p2, rfl, ⟨_, SqL.of (e1 _ _ h2)⟩, fun L2 hL2 => ?_⟩
  have hL20 : H L2 = none := e1.free hL2
  have L12 : L1 ≠ L2 := fun z => by rw [← z, g1] at hL2; cases hL2
  refine lc_it walk_list (fun i Hd => Same H Hd ∧ Hd L1 = some (.lst ((outs rs s).map V.str)) ∧ Hd L2 = some (.lst ((inns (rs.take i) s).map V.str))) ⟨same_upd e1 hL20, by rw [upd_ne L12]; exact g1, upd_same⟩ (fun i Hd _ hh => SqL.of (hh.1 _ _ h2)) ?_ ?_
  · rintro i y Hd H' hi ⟨k1, kL, k2⟩ ⟨rfl, hy⟩
    rw [List.length_map, lqs] at hi
    obtain ⟨q', rfl, tq⟩ := paired_ref pr hi hy
    have ll : (inns (rs.take i) s).length ≤ 1000 := Nat.le_trans inns_len (Nat.le_trans (List.length_take_le _ _) (by omega))
    refine ⟨q', _, rfl, SqT.of (k1 _ _ tq), rfl, _, _, rfl, _, _, rfl, rfl, rfl, ?_⟩
    refine ⟨_, rfl, _, rfl, rfl, _, rfl, ?_⟩
    by_cases c : rs[i].2 = s
    · rw [c, decide_eq_true rfl]
      refine iteT ⟨_, rfl, _, k2, by rw [List.length_map]; exact small1000 ll, same_upd k1 hL20, by rw [upd_ne L12]; exact kL, by rw [upd_same, inns_succ hi, if_pos c, List.map_append]; rfl⟩
    · rw [decide_eq_false fun z => c (V.str.inj z)]
      exact iteF ⟨k1, kL, by rw [inns_succ hi, if_neg c, List.append_nil]; exact k2⟩
  rintro H2 ⟨e2, g1, g2⟩
  rw [List.length_map, lqs, List.take_length] at g2
  have lo := outs_len (rs := rs) (s := s)
  have li := inns_len (rs := rs) (s := s)
  refine ⟨L1, L2, _, _, rfl, rfl, g1, g2, by rw [List.length_map, List.length_map]; exact Nat.le_trans (Nat.add_le_add lo li) (by show _ ≤ 2 ^ 24; omega), fun L3 hL3 => ?_⟩
  have e3 := same_upd (o := .lst ((outs rs s).map V.str ++ (inns rs s).map V.str)) e2 (e2.free hL3)
  have g3 : upd H2 L3 (.lst ((outs rs s).map V.str ++ (inns rs s).map V.str)) L3 = some (.lst ((outs rs s ++ inns rs s).map V.str)) := by rw [upd_same, List.map_append]
  generalize upd H2 L3 (.lst ((outs rs s).map V.str ++ (inns rs s).map V.str)) = H3 at e3 g3 ⊢
  refine gN ?_
  refine ⟨_, rfl, t, _, _, _, rfl, rfl, SqT.of (e3 _ _ ht), m0, p1, rfl, ⟨_, SqL.of (e3 _ _ h1)⟩, fun L4 hL4 => ?_⟩
  have hL40 : H L4 = none := e3.free hL4
  have L34 : L3 ≠ L4 := fun z => by rw [← z, g3] at hL4; cases hL4
  refine lc_it walk_list (fun i Hd => Same H Hd ∧ Hd L3 = some (.lst ((outs rs s ++ inns rs s).map V.str)) ∧ Hd L4 = some (.lst (((ss.take i).filter fun z => nbB rs s z).map V.str))) ⟨same_upd e3 hL40, by rw [upd_ne L34]; exact g3, upd_same⟩ (fun i Hd _ hh => SqL.of (hh.1 _ _ h1)) ?_ ?_
  · rintro j y Hd H' hj ⟨k1, k3, k2⟩ ⟨rfl, hy⟩
    rw [List.length_map] at hj
    rw [List.getElem?_map, List.getElem?_eq_getElem hj] at hy
    obtain rfl := Option.some.inj hy
    refine ⟨rfl, ?_⟩
    refine ⟨_, rfl, _, rfl, L3, _, rfl, .inl (SqL.of k3), rfl, flat_strs, _, rfl, ?_⟩
    have tk : (ss.take (j + 1)).filter (fun z => nbB rs s z) = (ss.take j).filter (fun z => nbB rs s z) ++ if nbB rs s ss[j] = true then [ss[j]] else [] := by
      rw [List.take_succ, List.getElem?_eq_getElem hj, List.filter_append]
      congr 1
      by_cases c : nbB rs s ss[j] = true
      · simp [c]
      · simp [c]
    have ll : ((ss.take j).filter fun z => nbB rs s z).length ≤ 1000 := Nat.le_trans (List.length_filter_le _ _) (Nat.le_trans (List.length_take_le _ _) (by omega))
    show if inV (V.str ss[j]) ((outs rs s ++ inns rs s).map V.str) = true then _ else _
    rw [inV_str, mem_near]
    refine ite2 (fun c => ?_) (fun c => ?_)
    · exact ⟨_, rfl, _, k2, by rw [List.length_map]; exact small1000 ll, same_upd k1 hL40, by rw [upd_ne L34]; exact k3, by rw [upd_same, tk, if_pos c, List.map_append]; rfl⟩
    · exact ⟨k1, k3, by rw [tk, if_neg c, List.append_nil]; exact k2⟩
  · rintro Hd ⟨k1, _, k2⟩
    rw [List.length_map, List.take_length] at k2
    exact q L4 Hd k1 hL40 k2
end
end K1
end
-- NLside
section
set_option Elab.async false
set_option linter.all false
set_option maxRecDepth 100000
set_option maxHeartbeats 4000000
namespace K1
open PySem PySem.Spec PyProof.Rows L2
abbrev sLs : Stmt := top 41
/-- the law's own search on one side of a road -/
structure SeaT (ss : List Str) (rs : List (Str × Str)) (one other : Str) (done wt fl : List Str) : Prop where
  nd : (done ++ wt).Nodup
  ins : ∀ s ∈ done ++ wt, s ∈ ss
  mem : ∀ z, z ∈ fl ↔ z = one ∨ z ∈ done ++ wt
  len : fl.length ≤ 1 + (done ++ wt).length
  st : other ∈ done ++ wt
  rch : ∀ s ∈ done ++ wt, Rch rs one other s
theorem SeaT.le {ss : List Str} {rs : List (Str × Str)} {one other : Str} {done wt fl : List Str} (S : SeaT ss rs one other done wt fl) : (done ++ wt).length ≤ ss.length := nodup_len S.nd S.ins
theorem SeaT.init {ss : List Str} {rs : List (Str × Str)} {one o : Str} (ho : o ∈ ss) : SeaT ss rs one o [] [o] [one, o] :=
  ⟨by simp, fun s hs => by rw [List.mem_singleton.mp hs]; exact ho, fun z => by simp, by simp, by simp, fun s hs => by rw [List.mem_singleton.mp hs]; exact .base⟩
theorem SeaT.take {ss : List Str} {rs : List (Str × Str)} {one o : Str} {done wt fl : List Str} {h : Str} (S : SeaT ss rs one o done (wt ++ [h]) fl) : SeaT ss rs one o (done ++ [h]) wt fl := by
  have p : (done ++ (wt ++ [h])).Perm (done ++ [h] ++ wt) := by
    rw [List.append_assoc]
    exact List.Perm.append_left _ List.perm_append_comm
  have m : ∀ z, z ∈ done ++ (wt ++ [h]) ↔ z ∈ done ++ [h] ++ wt := fun z => p.mem_iff
  exact ⟨p.nodup_iff.mp S.nd, fun s hs => S.ins s ((m s).mpr hs), fun z => by rw [S.mem z, m z], by rw [← p.length_eq]; exact S.len, (m o).mp S.st, fun s hs => S.rch s ((m s).mpr hs)⟩
def moreOf (ss : List Str) (rs : List (Str × Str)) (h : Str) (fl : List Str) : List Str := (nbs ss rs h).filter fun z => !decide (z ∈ fl)
theorem SeaT.more {ss : List Str} {rs : List (Str × Str)} {one o : Str} {done wt fl : List Str} {h : Str} (S : SeaT ss rs one o done wt fl) (T : Tree ss rs) (hh : h ∈ done ++ wt) :
    SeaT ss rs one o done (wt ++ moreOf ss rs h fl) (fl ++ moreOf ss rs h fl) ∧ ∀ t, nbB rs h t = true → t ≠ one → t ∈ done ++ (wt ++ moreOf ss rs h fl) := by
  have mm : ∀ z, z ∈ moreOf ss rs h fl ↔ nbB rs h z = true ∧ z ∉ fl := fun z => by
    unfold moreOf
    rw [List.mem_filter, mem_nbs T.ends]
    simp
  have m : ∀ z, z ∈ done ++ (wt ++ moreOf ss rs h fl) ↔ z ∈ done ++ wt ∨ z ∈ moreOf ss rs h fl := fun z => by
    rw [← List.append_assoc, List.mem_append]
  refine ⟨⟨?_, fun s hs => ?_, fun z => ?_, ?_, (m o).mpr (.inl S.st), fun s hs => ?_⟩, fun t q n => ?_⟩
  · rw [← List.append_assoc, List.nodup_append]
    refine ⟨S.nd, List.Pairwise.filter _ (List.Pairwise.filter _ T.nd), fun x hx y hy e => ?_⟩
    exact ((mm y).mp hy).2 ((S.mem y).mpr (.inr (by rw [← e]; exact hx)))
  · rcases (m s).mp hs with hs | hs
    · exact S.ins s hs
    · exact (T.ends.nb ((mm s).mp hs).1).2
  · rw [List.mem_append, S.mem z, m z]
    exact or_assoc
  · rw [List.length_append, ← List.append_assoc, List.length_append]
    have := S.len
    omega
  · rcases (m s).mp hs with hs | hs
    · exact S.rch s hs
    · have := (mm s).mp hs
      exact (S.rch h hh).step this.1 fun z => this.2 ((S.mem s).mpr (.inl z))
  · by_cases z : t ∈ fl
    · exact (m t).mpr (.inl (((S.mem t).mp z).resolve_left n))
    · exact (m t).mpr (.inr ((mm t).mpr ⟨q, z⟩))
theorem moreOf_len {ss : List Str} {rs : List (Str × Str)} {h : Str} {fl : List Str} : (moreOf ss rs h fl).length ≤ ss.length := Nat.le_trans (List.length_filter_le _ _) (List.length_filter_le _ _)
/-- a drawn valley -/
structure DrV (H : Hp) (t p1 p2 : Addr) (x3 : V) (qs : List Addr) (ss : List Str) (rs : List (Str × Str)) : Prop where
  t0 : H t = some (.tup [.ref p1, .ref p2, x3])
  h1 : H p1 = some (.lst (ss.map V.str))
  h2 : H p2 = some (.lst (qs.map V.ref))
  pr : Paired (TupP H) qs rs
  l1 : ss.length ≤ 100
  l2 : rs.length ≤ 100
theorem DrV.same {H H' : Hp} {t p1 p2 : Addr} {x3 : V} {qs : List Addr} {ss : List Str} {rs : List (Str × Str)} (d : DrV H t p1 p2 x3 qs ss rs) (e : Same H H') : DrV H' t p1 p2 x3 qs ss rs :=
  ⟨e _ _ d.t0, e _ _ d.h1, e _ _ d.h2, TupP.ext d.pr e, d.l1, d.l2⟩
theorem same_upd' {H Hc : Hp} {L : Addr} {o : HO} (e : Same H Hc) (n : H L = none) : Same H (L2.upd Hc L o) := same_upd e n
def spLs : Sp := fun vs H Q _ => ∃ (t p1 p2 : Addr) (x3 : V) (qs : List Addr) (ss : List Str) (rs : List (Str × Str)) (one other : Str), vs = [.ref t, .str one, .str other] ∧ DrV H t p1 p2 x3 qs ss rs ∧ Tree ss rs ∧ (∀ s ∈ ss, nameOk s = true) ∧ nbB rs one other = true ∧
  ∀ r H', Same H H' → H r = none → H' r = some (.lst ((sideL ss rs one other).map V.str)) → Q (.ref r) H'
theorem scLs : FnScope ["valley", "one", "other", "left", "found", "here", "name", "more"] ["valley", "one", "other"] (defScope sLs) := ⟨rfl, rfl, rfl, by decide +kernel, rfl, by decide +kernel, by decide +kernel⟩
section
variable {P : Program} {w : World} {K : PySem.W.Frag} {mg : Str → Option Value} {base : Heap}
open Classical in
theorem ok_Ls {f fV : Addr} {fd vd : FuncData} (F : Fun K "_law_side" "_law_side" sLs f fd)
    (GV : FnOk P w K mg base CX0 1 fV vd ["valley", "house"] spVn) (bV : Binds K vd ["valley", "house"] []) (kV : PySem.W.keepIn K (.ref fV) = true) (mV : mg "_law_v_near" = some (.ref fV)) :
    FnOk P w K mg base CX0 2 f fd ["valley", "one", "other"] spLs := by
  refine F.ok scLs (fun vs H Q E h => ?_) (fun cdv A outer s H vs Q E hr h => ?_)
  · obtain ⟨t, p1, p2, x3, qs, ss, rs, one, other, rfl, _⟩ := h
    rfl
  obtain ⟨t, p1, p2, x3, qs, ss, rs, one, other, rfl, dv, tr, ok, hnb, q⟩ := h
  have nd := scLs.nd
  have hu := hr.units
  have hr1 : Room 1 _ := hr.mono (by decide)
  refine ⟨_, (pss_cons (by exact (ps_asg (pe_tup (pa_cons (pe_lst (pa_cons (pv 2) pa_nil)) (pa_cons (pe_lst (pa_cons (pv 1) (pa_cons (pv 2) pa_nil))) pa_nil))) (pg_tup rfl (pgs_cons (pg_name (i := 3) nd rfl (.inl rfl)) (pgs_cons (pg_name (i := 4) nd rfl (.inr rfl)) pgs_nil)))))
  (pss_cons (by exact (ps_while PassesOwn.never (pt_cmpR (op_neD hu) (pv 3) (pe_lst pa_nil) (nomark _)) (pss_cons (by exact (ps_set (i := 5) nd rfl (.inl rfl) (pe_bm0 PySem.F.plainAttrs_list PySem.F.slot_list_pop PySem.F.type_list_pop mt_pop (pv 3))))
  (pss_cons (by exact (ps_setLc (i := 7) (own := [("name", 6)]) (g := gName 6) (tt := tB (tOp (rIn K true) (tVar 6) (tVar 4))) (by rfl) nd rfl rfl (sw_true rfl rfl rfl (by decide +kernel)) (by exact pi_list (pe_call GV hr1 rfl mV kV bV .nil pass0 (pa_cons (pv 0) (pa_cons (pv 5) pa_nil)))) (by exact blkOk_by (N := ["valley", "one", "other", "left", "found", "here", "name", "more"]) (sc := defScope sLs) (by decide +kernel)) (fun _ _ _ _ _ => by exact (pg_name (i := 6) nd rfl (.inl rfl))) (fun _ _ _ _ _ => by exact (pts_one (pt_cmpR op_notIn_seq (pv 6) (pv 4) (by with_unfolding_all rfl)))) (fun _ _ _ _ _ => by exact (pv 6))))
  (pss_cons (by exact (ps_expr (pe_bm PySem.F.plainAttrs_list PySem.F.slot_list_extend PySem.F.type_list_extend mt_extend (pv 4) (pa_cons (pv 7) pa_nil))))
  (pss_one (by exact (ps_expr (pe_bm PySem.F.plainAttrs_list PySem.F.slot_list_extend PySem.F.type_list_extend mt_extend (pv 3) (pa_cons (pv 7) pa_nil))))))))))
  (pss_one (by exact (ps_ret (pe_lc (own := [("name", 6)]) (g := gName 6) (tt := tAnd (tB (tOp (rIn K false) (tVar 6) (tVar 4))) (tB (tOp rNe (tVar 6) (tVar 1)))) rfl nd (by exact pi_list (pe_ix ix_tup (pv 0) pe_int (fun _ _ => rfl))) (by exact blkOk_by (N := ["valley", "one", "other", "left", "found", "here", "name", "more"]) (sc := defScope sLs) (by decide +kernel)) (fun _ _ _ _ _ => by exact (pg_name (i := 6) nd rfl (.inl rfl))) (fun _ _ _ _ _ => by exact (pts_one (PW.pt (pw_and (pt_cmpR op_in_seq (pv 6) (pv 4) (by with_unfolding_all rfl)) (pw_and1 (pt_cmpR op_ne (pv 6) (pv 1) (nomark _))))))) (fun _ _ _ _ _ => by exact (pv 6)))))))), ?_⟩
  refine ⟨_, rfl, (by show 1 ≤ sizeLine; decide), fun W hW => ⟨_, rfl, _, rfl, (by show 2 ≤ sizeLine; decide), fun Fd hF => ⟨(by show 2 ≤ sizeLine; decide), fun T hT => ⟨T, _, rfl, SqT.of upd_same, rfl, _, _, rfl, _, _, rfl, rfl, ?_⟩⟩⟩⟩
  have e1 := K1.Same.upd (H := H) (p := W) (o := .lst [.str other]) hW
  have hF0 : H Fd = none := e1.free hF
  have e2 : Same H (upd (upd H W (.lst [.str other])) Fd (.lst [.str one, .str other])) := same_upd e1 hF0
  have hT0 : H T = none := e2.free hT
  have e3 : Same H (upd (upd (upd H W (.lst [.str other])) Fd (.lst [.str one, .str other])) T (.tup [.ref W, .ref Fd])) := same_upd e2 hT0
  have WF : W ≠ Fd := fun z => by rw [← z, upd_same] at hF; cases hF
  have TF : Fd ≠ T := fun z => by rw [← z, upd_same] at hT; cases hT
  have TW : W ≠ T := fun z => by rw [← z, upd_ne WF, upd_same] at hT; cases hT
  have gF : upd (upd (upd H W (.lst [.str other])) Fd (.lst [.str one, .str other])) T (.tup [.ref W, .ref Fd]) Fd = some (.lst ([one, other].map V.str)) := by rw [upd_ne TF, upd_same]; rfl
  have gW : upd (upd (upd H W (.lst [.str other])) Fd (.lst [.str one, .str other])) T (.tup [.ref W, .ref Fd]) W = some (.lst ([other].map V.str)) := by rw [upd_ne TW, upd_ne WF, upd_same]; rfl
  generalize upd (upd (upd H W (.lst [.str other])) Fd (.lst [.str one, .str other])) T (.tup [.ref W, .ref Fd]) = H3 at e3 gF gW ⊢
  have hto : other ∈ ss := (tr.ends.nb hnb).2
  have hon : one ∈ ss := (tr.ends.nb hnb).1
  have neo : other ≠ one := (tr.cut.irr hnb).symm
  with_reducible refine sQ ?_
  refine while_gh (fun m σ Hc => (∃ a b c, σ = [some (.ref t), some (.str one), some (.str other), some (.ref W), some (.ref Fd), a, b, c]) ∧ Same H Hc ∧ ∃ done wt fl, Hc W = some (.lst (wt.map V.str)) ∧ Hc Fd = some (.lst (fl.map V.str)) ∧ SeaT ss rs one other done wt fl ∧ (∀ z ∈ done, CloO rs one (done ++ wt) z) ∧ m = ss.length - done.length) ss.length
    ⟨⟨_, _, _, rfl⟩, e3, [], [other], [one, other], gW, gF, SeaT.init hto, fun s hs => absurd hs (by simp), by simp⟩ ?_ ?_
  · rintro m σ Hc ⟨⟨ya, yb, yc, rfl⟩, e4, done, wt, fl, g1, g2, S, C1, rfl⟩
    refine ⟨_, rfl, Nat.zero_le _, fun e he => ?_⟩
    have he0 : H e = none := e4.free he
    have eW : W ≠ e := fun z => by rw [← z, g1] at he; cases he
    have eF : Fd ≠ e := fun z => by rw [← z, g2] at he; cases he
    have e5 : Same H (upd Hc e (.lst [])) := same_upd e4 he0
    have h1' : upd Hc e (.lst []) W = some (.lst (wt.map V.str)) := by rw [upd_ne eW]; exact g1
    have h2' : upd Hc e (.lst []) Fd = some (.lst (fl.map V.str)) := by rw [upd_ne eF]; exact g2
    have h3' : upd Hc e (.lst []) e = some (.lst (([] : List Str).map V.str)) := upd_same
    generalize upd Hc e (.lst []) = Hc at e5 h1' h2' h3' ⊢
    refine ⟨dN wt, dN [], dp_dN h1', dp_dN h3', shaped_dN fun s hs => ok s (S.ins s (List.mem_append_right _ hs)), rfl, _, rfl, ?_⟩
    rw [eqv_dN]
    have ll : fl.length ≤ 201 := by have := S.len; have := S.le; have := dv.l1; omega
    rcases List.eq_nil_or_concat wt with rfl | ⟨wt, h, rfl⟩
    · refine iteF ?_
      refine ⟨_, rfl, t, _, _, _, rfl, rfl, SqT.of (e5 _ _ dv.t0), (rfl : atI [V.ref p1, V.ref p2, x3] 0 = some (.ref p1)), p1, rfl, ⟨_, SqL.of (e5 _ _ dv.h1)⟩, fun L hL => ?_⟩
      have hL0 : H L = none := e5.free hL
      have LF : Fd ≠ L := fun z => by rw [← z, h2'] at hL; cases hL
      have memb : ∀ z, decide (Rch rs one other z) = (decide (z ∈ fl) && !decide (z = one)) := fun z => by
        have nr : Rch rs one other z → z ≠ one := fun r => r.ne neo
        rw [Bool.eq_iff_iff, Bool.and_eq_true, decide_eq_true_eq, decide_eq_true_eq, Bool.not_eq_true', decide_eq_false_iff_not]
        constructor
        · exact fun r => ⟨(S.mem z).mpr (.inr (rch_all S.st (fun y hy => C1 y (by rw [List.append_nil] at hy; exact hy)) r)), nr r⟩
        · rintro ⟨m, n⟩
          exact S.rch z (((S.mem z).mp m).resolve_left n)
      refine lc_it walk_list (fun i Hd => Same H Hd ∧ Hd Fd = some (.lst (fl.map V.str)) ∧ Hd L = some (.lst (((ss.take i).filter fun z => decide (Rch rs one other z)).map V.str))) ⟨same_upd e5 hL0, by rw [upd_ne LF]; exact h2', upd_same⟩ (fun i Hd _ hh => SqL.of (hh.1 _ _ dv.h1)) ?_ ?_
      · rintro j y Hd H'' hj ⟨k1, kF, k2⟩ ⟨rfl, hy⟩
        rw [List.length_map] at hj
        rw [List.getElem?_map, List.getElem?_eq_getElem hj] at hy
        obtain rfl := Option.some.inj hy
        refine ⟨rfl, ?_⟩
        have l1 := dv.l1
        have tk : (ss.take (j + 1)).filter (fun z => decide (Rch rs one other z)) = (ss.take j).filter (fun z => decide (Rch rs one other z)) ++ if decide (Rch rs one other ss[j]) = true then [ss[j]] else [] := by
          rw [List.take_succ, List.getElem?_eq_getElem hj, List.filter_append]
          congr 1
          by_cases c : decide (Rch rs one other ss[j]) = true
          · simp only [Option.toList, List.filter_cons, if_pos c, List.filter_nil]
          · simp only [Option.toList, List.filter_cons, if_neg c, List.filter_nil]
        have l3 : ((ss.take j).filter fun z => decide (Rch rs one other z)).length ≤ 1000 := Nat.le_trans (List.length_filter_le _ _) (Nat.le_trans (List.length_take_le _ _) (by omega))
        have yes : decide (Rch rs one other ss[j]) = true → ∃ acc, H'' L = some (.lst acc) ∧ acc.length < sizeLine ∧ Same H (upd H'' L (.lst (acc ++ [.str ss[j]]))) ∧ upd H'' L (.lst (acc ++ [.str ss[j]])) Fd = some (.lst (fl.map V.str)) ∧ upd H'' L (.lst (acc ++ [.str ss[j]])) L = some (.lst (((ss.take (j + 1)).filter fun z => decide (Rch rs one other z)).map V.str)) := fun c =>
          ⟨_, k2, by rw [List.length_map]; exact small1000 l3, same_upd k1 hL0, by rw [upd_ne LF]; exact kF, by rw [upd_same, tk, if_pos c, List.map_append]; rfl⟩
        have no : ¬ decide (Rch rs one other ss[j]) = true → Same H H'' ∧ H'' Fd = some (.lst (fl.map V.str)) ∧ H'' L = some (.lst (((ss.take (j + 1)).filter fun z => decide (Rch rs one other z)).map V.str)) := fun c =>
          ⟨k1, kF, by rw [tk, if_neg c, List.append_nil]; exact k2⟩
        rw [memb] at yes no
        refine ⟨_, rfl, _, rfl, Fd, _, rfl, .inl (SqL.of kF), rfl, flat_strs, _, rfl, ?_⟩
        show if inV (V.str ss[j]) (fl.map V.str) = true then _ else _
        rw [inV_str]
        refine ite2 (fun c => ?_) (fun c => ?_)
        · refine ⟨_, rfl, _, rfl, rfl, _, rfl, ?_⟩
          rw [c, Bool.true_and] at yes no
          by_cases e : ss[j] = one
          · rw [e, decide_eq_true rfl]
            rw [e, decide_eq_true rfl] at no
            exact iteF (no (by decide))
          · have ne2 : (!decide (V.str ss[j] = V.str one)) = true := by rw [decide_eq_false (fun z => e (V.str.inj z))]; rfl
            rw [ne2]
            rw [decide_eq_false e] at yes
            exact iteT ⟨_, rfl, yes rfl⟩
        · rw [Bool.not_eq_true] at c
          rw [c, Bool.false_and] at no
          exact iteF (no (by decide))
      · rintro Hd ⟨k1, _, k2⟩
        rw [List.length_map, List.take_length] at k2
        exact q L Hd k1 hL0 k2
    · rw [List.concat_eq_append] at h1' S C1 ⊢
      have ne : (!decide (wt ++ [h] = [])) = true := by rw [decide_eq_false (by simp)]; rfl
      rw [ne]
      refine iteT ?_
      have lt1 : done.length < ss.length := by
        have := S.le
        rw [List.length_append, List.length_append] at this
        simp only [List.length_singleton] at this
        omega
      have hlast : ((wt ++ [h]).map V.str)[((wt ++ [h]).map V.str).length - 1]? = some (.str h) := by
        rw [List.map_append]
        simp
      refine ⟨_, rfl, .inl ⟨rfl, _, SqL.of h1'⟩, W, _, .str h, rfl, rfl, h1', hlast, ?_⟩
      have dl : ((wt ++ [h]).map V.str).dropLast = wt.map V.str := by rw [List.map_append]; exact List.dropLast_concat
      rw [dl]
      have hW0 : H W = none := hW
      have S1 := S.take
      have e6 : Same H (upd Hc W (.lst (wt.map V.str))) := same_upd e5 hW0
      have g61 : upd Hc W (.lst (wt.map V.str)) W = some (.lst (wt.map V.str)) := upd_same
      have g62 : upd Hc W (.lst (wt.map V.str)) Fd = some (.lst (fl.map V.str)) := by rw [upd_ne WF.symm]; exact h2'
      generalize upd Hc W (.lst (wt.map V.str)) = H6 at e6 g61 g62 ⊢
      have dv6 := dv.same e6
      refine gN ?_
      refine ⟨_, rfl, _, rfl, t, p1, p2, x3, qs, ss, rs, h, rfl, dv6.t0, dv6.h1, dv6.h2, dv6.pr, by have := dv.l1; omega, by have := dv.l2; omega, fun N H7 e7 nN gN' => ?_⟩
      have e67 : Same H H7 := e6.trans e7
      have g71 := e7 _ _ g61
      have g72 := e7 _ _ g62
      refine ⟨N, rfl, ⟨_, SqL.of gN'⟩, fun L hL => ?_⟩
      have hL0 : H L = none := e67.free hL
      have LF : Fd ≠ L := fun z => by rw [← z, g72] at hL; cases hL
      have LW : W ≠ L := fun z => by rw [← z, g71] at hL; cases hL
      have ln : (nbs ss rs h).length ≤ 100 := Nat.le_trans (List.length_filter_le _ _) dv.l1
      refine lc_it walk_list (fun i Hd => Same H7 Hd ∧ Hd L = some (.lst ((((nbs ss rs h).take i).filter fun z => !decide (z ∈ fl)).map V.str))) ⟨K1.Same.upd hL, upd_same⟩ (fun i Hd _ hh => SqL.of (hh.1 _ _ gN')) ?_ ?_
      · rintro j y Hd H'' hj ⟨k1, k2⟩ ⟨rfl, hy⟩
        rw [List.length_map] at hj
        rw [List.getElem?_map, List.getElem?_eq_getElem hj] at hy
        obtain rfl := Option.some.inj hy
        refine ⟨rfl, ?_⟩
        refine ⟨_, rfl, _, rfl, Fd, _, rfl, .inl (SqL.of (k1 _ _ g72)), rfl, flat_strs, _, rfl, ?_⟩
        have tk : ((nbs ss rs h).take (j + 1)).filter (fun z => !decide (z ∈ fl)) = ((nbs ss rs h).take j).filter (fun z => !decide (z ∈ fl)) ++ if (!decide ((nbs ss rs h)[j] ∈ fl)) = true then [(nbs ss rs h)[j]] else [] := by
          rw [List.take_succ, List.getElem?_eq_getElem hj, List.filter_append]
          congr 1
          by_cases c : (!decide ((nbs ss rs h)[j] ∈ fl)) = true
          · simp only [Option.toList, List.filter_cons, if_pos c, List.filter_nil]
          · simp only [Option.toList, List.filter_cons, if_neg c, List.filter_nil]
        have l3 : (((nbs ss rs h).take j).filter fun z => !decide (z ∈ fl)).length ≤ 1000 := Nat.le_trans (List.length_filter_le _ _) (Nat.le_trans (List.length_take_le _ _) (by omega))
        show if (!inV (V.str (nbs ss rs h)[j]) (fl.map V.str)) = true then _ else _
        rw [inV_str]
        refine ite2 (fun c => ?_) (fun c => ?_)
        · exact ⟨_, rfl, _, k2, by rw [List.length_map]; exact small1000 l3, same_upd' k1 hL, by rw [upd_same, tk, if_pos c, List.map_append]; rfl⟩
        · exact ⟨k1, by rw [tk, if_neg c, List.append_nil]; exact k2⟩
      · rintro H8 ⟨e8, g8⟩
        rw [List.length_map, List.take_length] at g8
        have g8 : H8 L = some (.lst ((moreOf ss rs h fl).map V.str)) := g8
        have g81 := e8 _ _ g71
        have g82 := e8 _ _ g72
        have lm := moreOf_len (ss := ss) (rs := rs) (h := h) (fl := fl)
        have lw : wt.length ≤ 100 := by have := S1.le; rw [List.length_append] at this; have := dv.l1; omega
        have l1 := dv.l1
        refine ⟨_, rfl, .inl ⟨rfl, _, SqL.of g82⟩, _, rfl, Fd, L, _, _, rfl, rfl, g82, g8, by rw [List.length_map, List.length_map]; exact Nat.le_trans (Nat.add_le_add ll lm) (by show _ ≤ 2 ^ 24; omega), ?_⟩
        have g91 : upd H8 Fd (.lst (fl.map V.str ++ (moreOf ss rs h fl).map V.str)) W = some (.lst (wt.map V.str)) := by rw [upd_ne WF]; exact g81
        have g9L : upd H8 Fd (.lst (fl.map V.str ++ (moreOf ss rs h fl).map V.str)) L = some (.lst ((moreOf ss rs h fl).map V.str)) := by rw [upd_ne LF.symm]; exact g8
        refine ⟨_, rfl, .inl ⟨rfl, _, SqL.of g91⟩, _, rfl, W, L, _, _, rfl, rfl, g91, g9L, by rw [List.length_map, List.length_map]; exact Nat.le_trans (Nat.add_le_add lw lm) (by show _ ≤ 2 ^ 24; omega), ?_⟩
        obtain ⟨S2, C2⟩ := S1.more tr (h := h) (by simp)
        refine ⟨ss.length - (done ++ [h]).length, by rw [List.length_append, List.length_singleton]; omega, ⟨_, _, _, rfl⟩, same_upd (same_upd (e67.trans e8) hF0) hW0, done ++ [h], wt ++ moreOf ss rs h fl, fl ++ moreOf ss rs h fl, by rw [upd_same, List.map_append], by rw [upd_ne WF.symm, upd_same, List.map_append], S2, fun z hz y hy n => ?_, rfl⟩
        rcases List.mem_append.mp hz with hz | hz
        · have := C1 z hz y hy n
          simp only [List.mem_append, List.mem_singleton] at this ⊢
          rcases this with a | a | a
          · exact .inl (.inl a)
          · exact .inr (.inl a)
          · exact .inl (.inr a)
        · rw [List.mem_singleton.mp hz] at hy
          exact C2 y hy n
  · rintro σ Hc Q1 Q2 hq ⟨v, hv, z0, z⟩
    refine ⟨v, hv, z0, fun p hp => ?_⟩
    obtain ⟨d, e, a1, a2, a3, a4, b, a5, a6⟩ := z p hp
    exact ⟨d, e, a1, a2, a3, a4, b, a5, hq _ _ a6⟩
end
end K1
end
-- NLway
section
set_option Elab.async false
set_option linter.all false
set_option maxRecDepth 100000
set_option maxHeartbeats 4000000
namespace K1
open PySem PySem.Spec PyProof.Rows L2
abbrev sLw : Stmt := top 40
theorem map_nodup {α β : Type} {f : α → β} : ∀ {l : List α}, l.Nodup → (∀ a ∈ l, ∀ b ∈ l, f a = f b → a = b) → (l.map f).Nodup
  | [], _, _ => List.nodup_nil
  | a :: l, nd, inj => by
    have n := List.nodup_cons.mp nd
    rw [List.map_cons, List.nodup_cons]
    refine ⟨fun h => ?_, map_nodup n.2 fun x hx y hy e => inj x (List.mem_cons_of_mem _ hx) y (List.mem_cons_of_mem _ hy) e⟩
    obtain ⟨b, hb, e⟩ := List.mem_map.mp h
    have := inj b (List.mem_cons_of_mem _ hb) a (List.mem_cons_self ..) e
    exact n.1 (by rw [← this]; exact hb)
theorem Pt.split {rs : List (Str × Str)} {s t x y : Str} {l r : List Str} (h : Pt rs s l x) : ∀ {t : Str}, Pt rs s (l ++ y :: r) t → nbB rs x y = true := by
  induction h with
  | one s =>
    intro t h
    cases h with
    | cons q h _ =>
      obtain ⟨r', e⟩ := h.head
      injection e with e1 _
      rw [e1]
      exact q
  | @cons s u x l q h m ih =>
    intro t h2
    obtain ⟨r1, rfl⟩ := h.head
    cases h2 with
    | @cons _ v _ _ q2 h2 m2 =>
      obtain ⟨r2, e⟩ := h2.head
      injection e with e1 _
      subst e1
      exact ih h2
/-- the rows that were made: those gone through, those that wait -/
structure Rw (ss : List Str) (rs : List (Str × Str)) (one : Str) (p : List Str) (pop rws : List (List Str)) : Prop where
  pt : ∀ l ∈ pop ++ rws, ∃ x ∈ ss, Pt rs one l x
  nd : (pop ++ rws).Nodup
  up : ∀ l ∈ pop ++ rws, l = [one] ∨ l.dropLast ∈ pop
  pre : ∃ l r, p = l ++ r ∧ l ∈ rws
theorem Rw.le {ss : List Str} {rs : List (Str × Str)} {one : Str} {p : List Str} {pop rws : List (List Str)} (R : Rw ss rs one p pop rws) (hc : Cut rs) : (pop ++ rws).length ≤ ss.length := by
  have := nodup_len (xs := (pop ++ rws).map fun l => l.getLastD one) (ys := ss) (map_nodup R.nd fun a ha b hb e => ?_) (fun x hx => ?_)
  · rw [List.length_map] at this
    exact this
  · obtain ⟨x, _, hx⟩ := R.pt a ha
    obtain ⟨y, _, hy⟩ := R.pt b hb
    have e1 : a.getLastD one = x := by rw [List.getLastD_eq_getLast?, hx.last]; rfl
    have e2 : b.getLastD one = y := by rw [List.getLastD_eq_getLast?, hy.last]; rfl
    rw [e1, e2] at e
    subst e
    exact hx.uniq hc hy
  · obtain ⟨l, hl, rfl⟩ := List.mem_map.mp hx
    obtain ⟨x, h1, h2⟩ := R.pt l hl
    have e1 : l.getLastD one = x := by rw [List.getLastD_eq_getLast?, h2.last]; rfl
    rw [e1]
    exact h1
theorem Rw.init {ss : List Str} {rs : List (Str × Str)} {one other : Str} {p : List Str} (h1 : one ∈ ss) (hp : Pt rs one p other) : Rw ss rs one p [] [[one]] := by
  obtain ⟨r, rfl⟩ := hp.head
  exact ⟨fun l hl => by rw [List.mem_singleton.mp hl]; exact ⟨one, h1, .one one⟩, by simp, fun l hl => .inl (List.mem_singleton.mp hl), [one], r, rfl, by simp⟩
/-- the ways that go on from a row -/
def onOf (ss : List Str) (rs : List (Str × Str)) (x : Str) (l : List Str) : List Str := (nbs ss rs x).filter fun z => !decide (z ∈ l)
theorem Rw.on {ss : List Str} {rs : List (Str × Str)} {one other x : Str} {p l : List Str} {pop rws : List (List Str)} (R : Rw ss rs one p pop (l :: rws)) (T : Tree ss rs) (hp : Pt rs one p other) (hx : Pt rs one l x) (ne : x ≠ other) :
    Rw ss rs one p (pop ++ [l]) (rws ++ (onOf ss rs x l).map fun z => l ++ [z]) := by
  have mo : ∀ z, z ∈ onOf ss rs x l ↔ nbB rs x z = true ∧ z ∉ l := fun z => by
    unfold onOf
    rw [List.mem_filter, mem_nbs T.ends]
    simp
  have pe : (pop ++ l :: rws) = (pop ++ [l]) ++ rws := by simp
  have m : ∀ y, y ∈ (pop ++ [l]) ++ (rws ++ (onOf ss rs x l).map fun z => l ++ [z]) ↔ y ∈ pop ++ l :: rws ∨ ∃ z ∈ onOf ss rs x l, l ++ [z] = y := fun y => by
    rw [← List.append_assoc, ← pe, List.mem_append, List.mem_map]
  have lp : l ∉ pop := fun z => by
    have := (List.nodup_append.mp R.nd).2.2 l z l (List.mem_cons_self ..)
    exact this rfl
  refine ⟨fun y hy => ?_, ?_, fun y hy => ?_, ?_⟩
  · rcases (m y).mp hy with hy | ⟨z, hz, rfl⟩
    · exact R.pt y hy
    · have := (mo z).mp hz
      exact ⟨z, (T.ends.nb this.1).2, hx.snoc this.1 this.2⟩
  · rw [← List.append_assoc, ← pe, List.nodup_append]
    refine ⟨R.nd, map_nodup (List.Pairwise.filter _ (List.Pairwise.filter _ T.nd)) fun a _ b _ e => ?_, fun a ha b hb e => ?_⟩
    · have := List.append_cancel_left e
      injection this
    · obtain ⟨z, hz, rfl⟩ := List.mem_map.mp hb
      subst e
      rcases R.up _ ha with h | h
      · obtain ⟨r, rfl⟩ := hx.head
        have := congrArg List.length h
        simp at this
      · rw [List.dropLast_concat] at h
        exact lp h
  · rcases (m y).mp hy with hy | ⟨z, hz, rfl⟩
    · rcases R.up y hy with h | h
      · exact .inl h
      · exact .inr (List.mem_append_left _ h)
    · refine .inr ?_
      rw [List.dropLast_concat]
      exact List.mem_append_right _ (by simp)
  · obtain ⟨l1, r, e, h⟩ := R.pre
    rcases List.mem_cons.mp h with rfl | h
    · cases r with
      | nil =>
        rw [List.append_nil] at e
        subst e
        have := hx.last.symm.trans hp.last
        exact absurd (Option.some.inj this) ne
      | cons y r =>
        refine ⟨l1 ++ [y], r, by rw [e]; simp, List.mem_append_right _ (List.mem_map.mpr ⟨y, (mo y).mpr ⟨?_, fun z => ?_⟩, rfl⟩)⟩
        · rw [e] at hp
          exact hx.split (t := x) hp
        · have := hp.nd
          rw [e, List.nodup_append] at this
          exact this.2.2 y z y (List.mem_cons_self ..) rfl
    · exact ⟨l1, r, e, List.mem_append_left _ h⟩
/-- the addresses of rows, each with its texts -/
def RowsAt (H0 Hc : Hp) (as : List Addr) (rws : List (List Str)) : Prop := Paired (fun a l => Hc a = some (.lst (l.map V.str)) ∧ H0 a = none) as rws
theorem RowsAt.imp {H0 Hc Hd : Hp} {as : List Addr} {rws : List (List Str)} (h : RowsAt H0 Hc as rws) (k : ∀ a o, H0 a = none → Hc a = some o → (∃ l : List Str, o = .lst (l.map V.str)) → Hd a = some o) : RowsAt H0 Hd as rws := paired_imp (fun _ _ q => ⟨k _ _ q.2 q.1 ⟨_, rfl⟩, q.2⟩) h
theorem paired_snoc {α β : Type} {R : α → β → Prop} : ∀ {as : List α} {bs : List β} {a : α} {b : β}, Paired R as bs → R a b → Paired R (as ++ [a]) (bs ++ [b])
  | _, _, _, _, .nil, h => .cons h .nil
  | _, _, _, _, .cons h1 h2, h => .cons h1 (paired_snoc h2 h)
theorem paired_app {α β : Type} {R : α → β → Prop} : ∀ {as : List α} {bs : List β} {cs : List α} {ds : List β}, Paired R as bs → Paired R cs ds → Paired R (as ++ cs) (bs ++ ds)
  | _, _, _, _, .nil, h => h
  | _, _, _, _, .cons h1 h2, h => .cons h1 (paired_app h2 h)
def spLw : Sp := fun vs H Q _ => ∃ (t p1 p2 : Addr) (x3 : V) (qs : List Addr) (ss : List Str) (rs : List (Str × Str)) (one other : Str), vs = [.ref t, .str one, .str other] ∧ DrV H t p1 p2 x3 qs ss rs ∧ Tree ss rs ∧ one ∈ ss ∧ other ∈ ss ∧
  ∀ r l H', Same H H' → H r = none → Pt rs one l other → H' r = some (.lst (l.map V.str)) → Q (.ref r) H'
theorem scLw : FnScope ["valley", "one", "other", "rows", "row", "name"] ["valley", "one", "other"] (defScope sLw) := ⟨rfl, rfl, rfl, by decide +kernel, rfl, by decide +kernel, by decide +kernel⟩
section
variable {P : Program} {w : World} {K : PySem.W.Frag} {mg : Str → Option Value} {base : Heap}
theorem ok_Lw {f fV : Addr} {fd vd : FuncData} (F : Fun K "_law_way" "_law_way" sLw f fd)
    (GV : FnOk P w K mg base CX0 1 fV vd ["valley", "house"] spVn) (bV : Binds K vd ["valley", "house"] []) (kV : PySem.W.keepIn K (.ref fV) = true) (mV : mg "_law_v_near" = some (.ref fV)) :
    FnOk P w K mg base CX0 2 f fd ["valley", "one", "other"] spLw := by
  refine F.ok scLw (fun vs H Q E h => ?_) (fun cdv A outer s H vs Q E hr h => ?_)
  · obtain ⟨t, p1, p2, x3, qs, ss, rs, one, other, rfl, _⟩ := h
    rfl
  obtain ⟨t, p1, p2, x3, qs, ss, rs, one, other, rfl, dv, tr, hon, hto, q⟩ := h
  have nd := scLw.nd
  have hr1 : Room 1 _ := hr.mono (by decide)
  refine ⟨_, (pss_cons (by exact (ps_set (i := 3) nd rfl (.inl rfl) (pe_lst (pa_cons (pe_lst (pa_cons (pv 1) pa_nil)) pa_nil))))
  (pss_cons (by exact (ps_while PassesOwn.never (pt_cmpR op_ne (pe_ix ix_list (pe_ix ix_list (pv 3) pe_int (fun _ _ => rfl)) (pe_un un_neg pe_int) (fun _ _ => rfl)) (pv 2) (nomark _)) (pss_cons (by exact (ps_set (i := 4) nd rfl (.inr rfl) (pe_bm PySem.F.plainAttrs_list PySem.F.slot_list_pop PySem.F.type_list_pop mt_popAt (pv 3) (pa_cons pe_int pa_nil))))
  (pss_one (by exact (ps_expr (pe_bm PySem.F.plainAttrs_list PySem.F.slot_list_extend PySem.F.type_list_extend mt_extend (pv 3) (pa_cons (pe_lc (own := [("name", 5)]) (g := gName 5) (tt := tB (tOp (rIn K true) (tVar 5) (tVar 4))) (te := tOp rCat (tVar 4) (tLst (tCons (tVar 5) tNil))) rfl nd (by exact pi_list (pe_call GV hr1 rfl mV kV bV .nil pass0 (pa_cons (pv 0) (pa_cons (pe_ix ix_list (pv 4) (pe_un un_neg pe_int) (fun _ _ => rfl)) pa_nil)))) (by exact blkOk_by (N := ["valley", "one", "other", "rows", "row", "name"]) (sc := defScope sLw) (by decide +kernel)) (fun _ _ _ _ _ => by exact (pg_name (i := 5) nd rfl (.inl rfl))) (fun _ _ _ _ _ => by exact (pts_one (pt_cmpR op_notIn_seq (pv 5) (pv 4) (by with_unfolding_all rfl)))) (fun _ _ _ _ _ => by exact (pe_op op_cat (pv 4) (pe_lst (pa_cons (pv 5) pa_nil))))) pa_nil))))))))
  (pss_one (by exact (ps_ret (pe_ix ix_list (pv 3) pe_int (fun _ _ => rfl))))))), ?_⟩
  refine ⟨_, rfl, (by show 1 ≤ sizeLine; decide), fun A0 hA0 => ⟨(by show 1 ≤ sizeLine; decide), fun R hR => ?_⟩⟩
  have e1 := K1.Same.upd (H := H) (p := A0) (o := .lst [.str one]) hA0
  have hR0 : H R = none := e1.free hR
  have e2 : Same H (upd (upd H A0 (.lst [.str one])) R (.lst [.ref A0])) := same_upd e1 hR0
  have AR : A0 ≠ R := fun z => by rw [← z, upd_same] at hR; cases hR
  have gA : upd (upd H A0 (.lst [.str one])) R (.lst [.ref A0]) A0 = some (.lst ([one].map V.str)) := by rw [upd_ne AR, upd_same]; rfl
  have gR : upd (upd H A0 (.lst [.str one])) R (.lst [.ref A0]) R = some (.lst ([A0].map V.ref)) := upd_same
  generalize upd (upd H A0 (.lst [.str one])) R (.lst [.ref A0]) = H2 at e2 gA gR ⊢
  obtain ⟨p, hp⟩ := tr.way hon hto
  refine gN ?_
  with_reducible refine sQ ?_
  refine while_gh (fun m σ Hc => (∃ a b, σ = [some (.ref t), some (.str one), some (.str other), some (.ref R), a, b]) ∧ Same H Hc ∧ ∃ (as : List Addr) (pop rws : List (List Str)), Hc R = some (.lst (as.map V.ref)) ∧ RowsAt H Hc as rws ∧ (∀ a ∈ as, a ≠ R) ∧ Rw ss rs one p pop rws ∧ m = ss.length - pop.length) ss.length
    ⟨⟨_, _, rfl⟩, e2, [A0], [], [[one]], gR, .cons ⟨gA, hA0⟩ .nil, fun a ha => by rw [List.mem_singleton.mp ha]; exact AR, Rw.init hon hp, by simp⟩ ?_ ?_
  · rintro m σ Hc ⟨⟨ya, yb, rfl⟩, e3, as, pop, rws, g1, ra, nr, RW, rfl⟩
    cases ra with
    | nil =>
      obtain ⟨l, r, _, h⟩ := RW.pre
      cases h
    | @cons a l as rws rl ra =>
      obtain ⟨ga, ha0⟩ := rl
      obtain ⟨x, hx, px⟩ := RW.pt l (by simp)
      obtain ⟨l', rfl⟩ : ∃ l', l = l' ++ [x] := by
        have h2 := px.last
        have hne : l ≠ [] := fun z => by rw [z] at h2; cases h2
        rw [List.getLast?_eq_some_getLast hne] at h2
        exact ⟨l.dropLast, by rw [← Option.some.inj h2]; exact (List.dropLast_concat_getLast hne).symm⟩
      have al : atI ((l' ++ [x]).map V.str) (-1) = some (.str x) := by rw [List.map_append]; exact atI_last _ _
      have a0 : atI ((a :: as).map V.ref) 0 = some (.ref a) := atI_nat (j := 0) rfl
      refine ⟨_, rfl, R, _, _, _, rfl, rfl, SqL.of g1, a0, _, rfl, a, _, _, _, rfl, rfl, SqL.of ga, al, _, rfl, rfl, _, rfl, ?_⟩
      by_cases e : x = other
      · subst e
        rw [decide_eq_true rfl]
        exact iteF ⟨_, rfl, R, _, _, _, rfl, rfl, SqL.of g1, a0, q a _ Hc e3 ha0 px ga⟩
      · have ne : (!decide (V.str x = V.str other)) = true := by rw [decide_eq_false (fun z => e (V.str.inj z))]; rfl
        rw [ne]
        refine iteT ?_
        have le := RW.le tr.cut
        have l1 := dv.l1
        have lc : (pop ++ (l' ++ [x]) :: rws).length = pop.length + rws.length + 1 := by simp; omega
        have las : as.length = rws.length := ra.length
        refine ⟨_, rfl, .inl ⟨rfl, _, SqL.of g1⟩, R, _, 0, 0, .ref a, rfl, rfl, g1, (by decide), (by decide), ?_, rfl, ?_⟩
        · unfold seqIndex?
          simp
        have aR : a ≠ R := nr a (by simp)
        have e4 : Same H (upd Hc R (.lst (((a :: as).map V.ref).eraseIdx 0))) := same_upd e3 hR0
        have g4R : upd Hc R (.lst (((a :: as).map V.ref).eraseIdx 0)) R = some (.lst (as.map V.ref)) := upd_same
        have g4a : upd Hc R (.lst (((a :: as).map V.ref).eraseIdx 0)) a = some (.lst ((l' ++ [x]).map V.str)) := by rw [upd_ne aR]; exact ga
        have nr' : ∀ b ∈ as, b ≠ R := fun b hb => nr b (List.mem_cons_of_mem _ hb)
        have ra4 : RowsAt H (upd Hc R (.lst (((a :: as).map V.ref).eraseIdx 0))) as rws := by
          have : ∀ {bs' : List Addr} {rws' : List (List Str)} {o : HO}, RowsAt H Hc bs' rws' → (∀ b ∈ bs', b ≠ R) → RowsAt H (upd Hc R o) bs' rws' := by
            intro bs' rws' o h
            induction h with
            | nil => intro _; exact .nil
            | cons f1 f2 ih => intro nz; exact .cons ⟨by rw [upd_ne (nz _ (List.mem_cons_self ..))]; exact f1.1, f1.2⟩ (ih fun z hz => nz z (List.mem_cons_of_mem _ hz))
          exact this ra nr'
        generalize upd Hc R (.lst (((a :: as).map V.ref).eraseIdx 0)) = H4 at e4 g4R g4a ra4 ⊢
        have dv4 := dv.same e4
        refine gN ?_
        refine ⟨_, rfl, .inl ⟨rfl, _, SqL.of g4R⟩, _, rfl, _, rfl, _, rfl, a, _, _, _, rfl, rfl, SqL.of g4a, al, t, p1, p2, x3, qs, ss, rs, x, rfl, dv4.t0, dv4.h1, dv4.h2, dv4.pr, by omega, by have := dv.l2; omega, fun N H5 e5 nN gN' => ?_⟩
        have e45 : Same H H5 := e4.trans e5
        refine ⟨N, rfl, ⟨_, SqL.of gN'⟩, fun L hL => ?_⟩
        have hL0 : H L = none := e45.free hL
        have g5R := e5 _ _ g4R
        have g5a := e5 _ _ g4a
        have LR : R ≠ L := fun z => by rw [← z, g5R] at hL; cases hL
        have ln : (nbs ss rs x).length ≤ 100 := Nat.le_trans (List.length_filter_le _ _) dv.l1
        have ll : (l' ++ [x]).length ≤ 100 := by
          have h3 := nodup_len px.nd (px.mem tr.ends hx)
          omega
        refine lc_it walk_list (fun i Hd => Same H5 Hd ∧ ∃ bs : List Addr, Hd L = some (.lst (bs.map V.ref)) ∧ RowsAt H Hd bs ((((nbs ss rs x).take i).filter fun z => !decide (z ∈ l' ++ [x])).map fun z => (l' ++ [x]) ++ [z]) ∧ ∀ b ∈ bs, H5 b = none ∧ b ≠ L) ⟨K1.Same.upd hL, [], upd_same, .nil, fun b hb => absurd hb (by simp)⟩ (fun i Hd _ hh => SqL.of (hh.1 _ _ gN')) ?_ ?_
        · rintro j y Hd H'' hj ⟨k1, bs, k2, k3, k4⟩ ⟨rfl, hy⟩
          rw [List.length_map] at hj
          rw [List.getElem?_map, List.getElem?_eq_getElem hj] at hy
          obtain rfl := Option.some.inj hy
          refine ⟨rfl, ?_⟩
          have tk : ((nbs ss rs x).take (j + 1)).filter (fun z => !decide (z ∈ l' ++ [x])) = ((nbs ss rs x).take j).filter (fun z => !decide (z ∈ l' ++ [x])) ++ if (!decide ((nbs ss rs x)[j] ∈ l' ++ [x])) = true then [(nbs ss rs x)[j]] else [] := by
            rw [List.take_succ, List.getElem?_eq_getElem hj, List.filter_append]
            congr 1
            by_cases c : (!decide ((nbs ss rs x)[j] ∈ l' ++ [x])) = true
            · simp only [Option.toList, List.filter_cons, if_pos c, List.filter_nil]
            · simp only [Option.toList, List.filter_cons, if_neg c, List.filter_nil]
          have lb : bs.length ≤ 1000 := by
            rw [k3.length, List.length_map]
            exact Nat.le_trans (List.length_filter_le _ _) (Nat.le_trans (List.length_take_le _ _) (by omega))
          refine ⟨_, rfl, _, rfl, a, _, rfl, .inl (SqL.of (k1 _ _ g5a)), rfl, flat_strs, _, rfl, ?_⟩
          show if (!inV (V.str (nbs ss rs x)[j]) ((l' ++ [x]).map V.str)) = true then _ else _
          rw [inV_str]
          refine ite2 (fun c => ?_) (fun c => ?_)
          · refine ⟨_, rfl, _, rfl, (by show 1 ≤ sizeLine; decide), fun S1 hS1 => ?_⟩
            have f1 := K1.Same.upd (H := H'') (p := S1) (o := .lst [.str (nbs ss rs x)[j]]) hS1
            refine ⟨a, S1, _, _, rfl, rfl, f1 _ _ (k1 _ _ g5a), upd_same, by rw [List.length_map]; exact Nat.le_trans (Nat.add_le_add_right ll 1) (by decide), fun S2 hS2 => ?_⟩
            have f2 := K1.Same.upd (H := upd H'' S1 (.lst [.str (nbs ss rs x)[j]])) (p := S2) (o := .lst ((l' ++ [x]).map V.str ++ [.str (nbs ss rs x)[j]])) hS2
            have gS2 : upd (upd H'' S1 (.lst [.str (nbs ss rs x)[j]])) S2 (.lst ((l' ++ [x]).map V.str ++ [.str (nbs ss rs x)[j]])) S2 = some (.lst ((l' ++ [x] ++ [(nbs ss rs x)[j]]).map V.str)) := by rw [upd_same, List.map_append (l₂ := [(nbs ss rs x)[j]])]; rfl
            have f3 : Same H'' (upd (upd H'' S1 (.lst [.str (nbs ss rs x)[j]])) S2 (.lst ((l' ++ [x]).map V.str ++ [.str (nbs ss rs x)[j]]))) := f1.trans f2
            have S2L : S2 ≠ L := fun z => by rw [z, f1 _ _ k2] at hS2; cases hS2
            have s50 : H5 S2 = none := k1.free (f1.free hS2)
            generalize upd (upd H'' S1 (.lst [.str (nbs ss rs x)[j]])) S2 (.lst ((l' ++ [x]).map V.str ++ [.str (nbs ss rs x)[j]])) = H3 at f3 gS2 ⊢
            refine ⟨_, f3 _ _ k2, by rw [List.length_map]; exact small1000 lb, same_upd (k1.trans f3) hL, bs ++ [S2], by rw [upd_same, List.map_append]; rfl, ?_, fun b hb => ?_⟩
            · rw [tk, if_pos c, List.map_append]
              have k3' : RowsAt H (upd H3 L (.lst (bs.map V.ref ++ [.ref S2]))) bs ((((nbs ss rs x).take j).filter fun z => !decide (z ∈ l' ++ [x])).map fun z => (l' ++ [x]) ++ [z]) := by
                have : ∀ {bs' : List Addr} {rws : List (List Str)}, RowsAt H H'' bs' rws → (∀ b ∈ bs', b ≠ L) → RowsAt H (upd H3 L (.lst (bs.map V.ref ++ [.ref S2]))) bs' rws := by
                  intro bs' rws h
                  induction h with
                  | nil => intro _; exact .nil
                  | cons f4 f5 ih => intro nz; exact .cons ⟨by rw [upd_ne (nz _ (List.mem_cons_self ..))]; exact f3 _ _ f4.1, f4.2⟩ (ih fun z hz => nz z (List.mem_cons_of_mem _ hz))
                exact this k3 fun b hb => (k4 b hb).2
              exact paired_snoc k3' ⟨by rw [upd_ne S2L]; exact gS2, e45.free s50⟩
            · rcases List.mem_append.mp hb with hb | hb
              · exact k4 b hb
              · rw [List.mem_singleton.mp hb]
                exact ⟨s50, S2L⟩
          · refine ⟨k1, bs, k2, ?_, k4⟩
            rw [tk, if_neg c, List.append_nil]
            exact k3
        · rintro H6 ⟨e6, bs, g6, rb, nb⟩
          rw [List.length_map, List.take_length] at rb
          have g6R := e6 _ _ g5R
          have lb : bs.length ≤ 100 := by
            rw [rb.length, List.length_map]
            exact Nat.le_trans (List.length_filter_le _ _) ln
          refine ⟨R, L, _, _, rfl, rfl, g6R, g6, by rw [List.length_map, List.length_map]; exact Nat.le_trans (Nat.add_le_add (show as.length ≤ 100 by omega) lb) (by decide), ?_⟩
          refine ⟨ss.length - (pop ++ [l' ++ [x]]).length, by rw [List.length_append, List.length_singleton]; omega, ⟨_, _, rfl⟩, same_upd (e45.trans e6) hR0, as ++ bs, pop ++ [l' ++ [x]], rws ++ (onOf ss rs x (l' ++ [x])).map fun z => (l' ++ [x]) ++ [z], by rw [upd_same, List.map_append], ?_, fun b hb => ?_, RW.on tr hp px e, rfl⟩
          · have mv : ∀ {Hy : Hp} {bs' : List Addr} {rws' : List (List Str)} {o : HO}, RowsAt H Hy bs' rws' → Same Hy H6 → (∀ b ∈ bs', b ≠ R) → RowsAt H (upd H6 R o) bs' rws' := by
              intro Hy bs' rws' o h sm
              induction h with
              | nil => intro _; exact .nil
              | cons f4 f5 ih => intro nz; exact .cons ⟨by rw [upd_ne (nz _ (List.mem_cons_self ..))]; exact sm _ _ f4.1, f4.2⟩ (ih fun z hz => nz z (List.mem_cons_of_mem _ hz))
            exact paired_app (mv ra4 (e5.trans e6) nr') (mv rb (Same.refl _) fun b hb z => by have := (nb b hb).1; rw [z, g5R] at this; cases this)
          · rcases List.mem_append.mp hb with hb | hb
            · exact nr' b hb
            · exact fun z => by have := (nb b hb).1; rw [z, g5R] at this; cases this
  · rintro σ Hc Q1 Q2 hq ⟨v1, h1, p, xs, i, y, a1, a2, a3, a4, v2, h2, p', xs', i', y', b1, b2, b3, b4, v4, h4, k5, b5, h5, z⟩
    exact ⟨v1, h1, p, xs, i, y, a1, a2, a3, a4, v2, h2, p', xs', i', y', b1, b2, b3, b4, v4, h4, k5, b5, h5, hq _ _ z⟩
end
end K1
end
-- NTry
section
set_option Elab.async false
set_option linter.all false
set_option maxRecDepth 100000
set_option maxHeartbeats 4000000
/-! several clauses, each with a name for what came: the same slot -/
namespace K1
open PySem PySem.Spec PyProof.Rows L2
abbrev Suite := Addr → Value → Option Addr → TS
/-- a wish where the slots are as many as the names -/
def wLen (N : List Str) (W : WX) : WX := fun cls d σ H => σ.length = N.length → W cls d σ H
/-- the clauses' wish, one behind another -/
def wSome (K : PySem.W.Frag) (i : Nat) (Wout : WX) (D : Ends) : List (Value × Suite) → WX
  | [] => Wout
  | p :: r => wAs K p.1 i p.2 (wSome K i Wout D r) D
inductive HdsN (X : Cx) (n : Str) : List ExceptHandler → List (Value × Suite) → Prop
  | nil : HdsN X n [] []
  | cons {x : Str} {c : Value} {ts : Suite} {st : Stmt} {more : List Stmt} {xp hp : Pos} {hds : List ExceptHandler} {l : List (Value × Suite)} (names : Names X x c)
      (body : ∀ (a : Addr) (oe : Obj) (cls : Value) (d : Option Addr) (pn : List (Addr × Obj)), Zc cls d oe → (∃ vs, oe.data = .fields vs) → PSs (X.suite a ((a, oe) :: pn)) (st :: more) (ts a cls d)) (rest : HdsN X n hds l) :
      HdsN X n (.ExceptHandler (some (.Name x xp)) (some n) (st :: more) hp :: hds) ((c, ts) :: l)
section
variable {X : Cx} {body : List Stmt} {hd : ExceptHandler} {hds : List ExceptHandler} {l : List (Value × Suite)} {pos : Pos} {tb : WX → TS} {Wout : WX} {n : Str} {i : Nat}
theorem ps_try_some (st : X.stack = X.env :: X.outer) (fr : X.env.frame = some X.env.locals) (dup : X.N.Nodup) (at_ : X.N[i]? = some n) (loc : X.env.kindOf n = some .local) (tk : Takes X Wout)
    (hb : ∀ (W : WX) (pn : List (Addr × Obj)) (xe : Value → Shared → Prop), Takes (X.tr pn xe) W → PassesOwn (model X.prog X.w) X.A X.env xe → PSs (X.tr pn xe) body (tb W)) (clauses : HdsN X n (hd :: hds) l) :
    PS X (.Try body (hd :: hds) [] [] pos) (fun D σ H => tb (wLen X.N (wSome X.K i Wout D l)) D σ H) := by
  refine ⟨fun pins s σ H D I h => ?_⟩
  have good := I.ok; have hfr : X.A.frames = some (X.env :: X.outer) := by rw [good.frames, st]
  have hloc : Loc X.env.scope n := .inl loc
  refine wpAny_Try_except (wpAny_mono ((hb (wLen X.N (wSome X.K i Wout D l)) (X.pn ++ pins) (fun e t => wpAny (model X.prog X.w) X.A (noteFrame e X.env) (fun _ t2 => wpAny (model X.prog X.w) X.A (setFlight e none) (fun _ t3 => wpAny (model X.prog X.w) X.A (handleBy e X.env (hd :: hds)) (SP X pins D) X.xe t3) X.xe t2) X.xe t)
    (fun u t xx => ?_) PassesOwn.looking).run [] s σ H D (I.toTry _) h) (fun f t came => ?_) (fun e t z => z))
  · obtain ⟨a, B, sI, pins2, σ2, H2, cls, d, rfl, J0, nb, up, sky0, na, os, ag, wish⟩ := xx
    have J : Inv X pins σ2 H2 sI := J0.ofTry good
    have sky : Sky B (X.env :: X.outer) a (Zc cls d) X.env.locals t.heap := by rw [← st]; exact sky0
    show wpAny (model X.prog X.w) X.A (noteFrame (.ref a) X.env) _ _ _; refine Sky.land Zc.steady hfr fr sky fun g3 fly up3 => ?_
    have J3 : Inv X pins σ2 H2 { t with heap := g3 } := J.landed nb fly.1 (up.trans up3) os ag
    obtain ⟨oe3, ws3, at3, hz3, hd3⟩ := fly.there
    have nfr : a ∉ frs (X.env :: X.outer) := fun m => by
      obtain ⟨_, o2, e2, hnf⟩ := (fly.2.2.1).mem m
      rw [at3] at e2; cases e2; exact hnf _ hd3
    have nL : a ≠ X.env.locals := fun z => nfr (List.mem_filterMap.mpr ⟨X.env, List.mem_cons_self, by rw [fr, z]⟩)
    have nF : a ∉ X.fs := fun m => by obtain ⟨e, he, q⟩ := List.mem_filterMap.mp m; exact nfr (List.mem_filterMap.mpr ⟨e, List.mem_cons_of_mem _ he, q⟩)
    have S3 := J3.suite at3 hd3 na nL nF
    have go : ∀ {ks : List ExceptHandler} {m : List (Value × Suite)}, HdsN X n ks m → wSome X.K i Wout D m cls d σ2 H2 → wpAny (model X.prog X.w) X.A (handleBy (.ref a) X.env ks) (SP X pins D) X.xe { t with heap := g3 } := by
      intro ks m hk
      induction hk with
      | nil =>
        intro w; refine wpAny_handleBy_nil ?_
        obtain ⟨k1, k2, k3, oe, vs, T, oT, vs2, he, hz, hd2, h1, hr⟩ := id fly
        unfold PySem.passOn; refine wpAny_bind (wpAny_field he hd2 h1 ?_)
        rw [if_neg (show ¬ ((Value.ref T == Value.none) = true) by simp)]
        have fin : wpAny (model X.prog X.w) X.A (setFlight (.ref a) X.env.frame) (fun _ t4 => wpAny (model X.prog X.w) X.A (throw (.ref a) : Sem Flow) (SP X pins D) X.xe t4) X.xe { t with heap := g3 } := by
          rw [fr]; refine HandSPX.setFlight_upZ fly fun g4 sky4 up4 => wpAny_throw (tk _ _ ?_)
          exact ⟨a, B, sI, pins, σ2, H2, cls, d, rfl, J, nb, (up.trans up3).trans up4, .inr (.inr (by rw [st]; exact sky4)), na, os, ag, w⟩
        first | exact wpAny_bind (wpAny_pure (wpAny_bind fin)) | exact wpAny_bind fin
      | @cons x c ts s1 more xp hp2 hds2 l2 names suite rest ih =>
        intro w
        obtain ⟨b, eb, yes, no⟩ := w
        refine wpAny_handleBy_cons (codeAny_handlers_test ?_) (by intro q; cases q)
        have LM := PySem.W.exm_one (M := model X.prog X.w) (J3.kIn) (show PySem.W.Looks (model X.prog X.w) g3 (typeOf (.ref a)) cls from fun A Q E s k q => wpAny_typeOf_ref (k _ _ at3) (by rw [hz3.1]; exact q)) eb
        have test : ∀ {Q : Value → Shared → Prop} {E : Value → Shared → Prop}, Q c { t with heap := g3 } → wpAny (model X.prog X.w) (X.A.mark (some (.ref a))) (eval (.Name x xp) X.env) Q E { t with heap := g3 } := fun {Q E} q => by
          obtain ⟨hg, hdb, hm | ⟨hm, hv, hne⟩⟩ := names
          · exact ld_glob (X := X.suite a ((a, oe3) :: (X.pn ++ pins))) S3 hg hm q hdb
          · exact ld_blt (X := X.suite a ((a, oe3) :: (X.pn ++ pins))) S3 hg hm hv q hne hdb
        refine test (LM.here ?_)
        cases b with
        | false => show wpAny _ X.A (handleBy (.ref a) X.env hds2) _ _ _; exact ih (no rfl)
        | true =>
          refine codeAny_handlers_suite_as (HandSPX.lands_againZ fly fun g4 fly4 up4 => ?_)
          have J4 : Inv X pins σ2 H2 { t with heap := g4 } := J.landed nb fly4.1 ((up.trans up3).trans up4) os ag
          obtain ⟨oe4, ws4, at4, hz4, hd4⟩ := fly4.there
          refine store_ok (X := X.suite a ((a, oe4) :: (X.pn ++ pins))) (v := .ref a) (J4.suite at4 hd4 na nL nF) dup at_ hloc rfl (fun s5 S5 => ?_) (.inr loc)
          refine wpAny_mono ((suite a oe4 cls d (X.pn ++ pins) hz4 ⟨_, hd4⟩).run [] s5 _ H2 _ S5 (yes rfl a na)) (fun f s6 came => ?_) (fun _ _ z => False.elim z)
          have gone : ∀ {σ6 : L2.St} {H6 : Hp} {Q : Shared → Prop}, Inv (X.suite a ((a, oe4) :: (X.pn ++ pins))) [] σ6 H6 s6 → (∀ s7, Inv X pins (σ6.set i none) H6 s7 → Q s7) → wpAny (model X.prog X.w) X.A (do bindName X.env n .none; unbindBehindTheSuite X.env n hp2) (fun _ s7 => Q s7) X.xe s6 :=
            fun {σ6 H6 Q} S6 hq => gone_ok (S6.unsuite good) dup at_ loc hq
          cases f with
          | next => obtain ⟨σ6, H6, S6, q6⟩ := came; exact gone S6 fun s7 J7 => ⟨_, _, J7, q6⟩
          | brk => obtain ⟨σ6, H6, S6, q6⟩ := came; exact gone S6 fun s7 J7 => ⟨_, _, J7, q6⟩
          | cont => obtain ⟨σ6, H6, S6, q6⟩ := came; exact gone S6 fun s7 J7 => ⟨_, _, J7, q6⟩
          | ret u => obtain ⟨v6, σ6, H6, S6, r6, q6⟩ := came; exact gone S6 fun s7 J7 => ⟨_, _, _, J7, r6, q6⟩
    exact go clauses (wish J.len)
  · cases f with
    | next => obtain ⟨σ2, H2, J2, q⟩ := came; exact wpAny_execs_nil ⟨σ2, H2, J2.ofTry good, q⟩
    | brk => obtain ⟨σ2, H2, J2, q⟩ := came; exact ⟨σ2, H2, J2.ofTry good, q⟩
    | cont => obtain ⟨σ2, H2, J2, q⟩ := came; exact ⟨σ2, H2, J2.ofTry good, q⟩
    | ret u => obtain ⟨v, σ2, H2, J2, r, q⟩ := came; exact ⟨v, σ2, H2, J2.ofTry good, r, q⟩
end
end K1
end
-- NMet
section
set_option Elab.async false
set_option linter.all false
set_option maxRecDepth 100000
set_option maxHeartbeats 4000000
namespace K1
open PySem PySem.Spec PyProof.Rows L2
abbrev sMt : Stmt := top 39
structure MetG (K : PySem.W.Frag) (mg : Str → Option Value) (CN CO : Addr) : Prop where
  mN : mg "NoHouse" = some (.ref CN)
  mO : mg "NoRoad" = some (.ref CO)
  nn : PySem.W.exmOne K (.ref CN) (.ref CN) = some true
  on : PySem.W.exmOne K (.ref CO) (.ref CN) = some false
  oo : PySem.W.exmOne K (.ref CO) (.ref CO) = some true
  xN : XfC K CN
  xO : XfC K CO
  iN : PySem.W.findIn K (.ref CN) "house" = some none
  i1 : PySem.W.findIn K (.ref CO) "one" = some none
  i2 : PySem.W.findIn K (.ref CO) "other" = some none
/-- what an asker is told, or how it is refused -/
def XMet (CN CO : Addr) (Q : VK) : XK := fun cls d H' => (cls = .ref CN ∧ ∃ dd v, d = some dd ∧ H' dd = some (.xd [("house", v)]) ∧ ∀ p, H' p = none → Q (.ref p) (upd H' p (.tup [.str "house", v]))) ∨
  (cls = .ref CO ∧ ∃ dd v u, d = some dd ∧ H' dd = some (.xd [("other", u), ("one", v)]) ∧ ∀ p, H' p = none → Q (.ref p) (upd H' p (.tup [.str "road", v, u])))
def TMt (CN CO : Addr) : (XK → Hp → VK → Prop) → Hp → VK → Prop := fun tl H Q =>
  tl (XMet CN CO Q) H (fun v H1 => [V.str "told", v].length ≤ sizeLine ∧ ∀ p, H1 p = none → Q (.ref p) (upd H1 p (.tup [.str "told", v])))
theorem scMt : FnScope ["ask", "e"] ["ask"] (defScope sMt) := ⟨rfl, rfl, rfl, by decide +kernel, rfl, by decide +kernel, by decide +kernel⟩
theorem set_get {α : Type} {l : List α} {i : Nat} {x : α} (h : i < l.length) : (l.set i x)[i]? = some x := by rw [List.getElem?_set_self h]
theorem mt_gives {X : Cx} {g CN CO : Addr} {cdg : Value} {q : Str} (F : MetG X.K X.mg CN CO) : LamX.GivesTo X ["ask", "e"] "_law_met" (defScope sMt) g cdg (defBody sMt) "ask" q (TMt CN CO) := by
  intro f c' s H Q tl act hc h
  have nd := scMt.nd
  refine ⟨_, pss_one (ps_try_some (i := 1) (X := (cxOf C8.CX0 X.prog X.w X.K X.mg X.base ["ask", "e"] "_law_met" (defScope sMt) g cdg X.A X.stack s H C8.E0).nox)
      (l := [(.ref CN, fun a cls d => tRet (tTup (tCons (tC (.str "house")) (tCons (tXf a cls d CN "house" (tVar 1)) tNil)))), (.ref CO, fun a cls d => tRet (tTup (tCons (tC (.str "road")) (tCons (tXf a cls d CO "one" (tVar 1)) (tCons (tXf a cls d CO "other" (tVar 1)) tNil)))))])
      (tb := fun W D σ H => ∃ Ech : XK, (∀ cls d σ' H', Ech cls d H' → W cls d σ' H') ∧ σ[0]? = some (some (.ref f)) ∧ H c' = some (LamX.CodeO c' q) ∧ tl Ech H (fun v H1 => [V.str "told", v].length ≤ sizeLine ∧ ∀ p, H1 p = none → D.rt (.ref p) (upd H1 p (.tup [.str "told", v]))))
      rfl rfl nd rfl rfl LamX.takes0 (fun W pn xe tk _ => ?_)
      (.cons ⟨rfl, by decide, .inl F.mN⟩ (fun a oe cls d pn hz hf => pss_one (by exact ps_ret (pe_tup (pa_cons pe_str (pa_cons (pe_xf F.xN F.iN hz hf (pv 1)) pa_nil)))))
        (.cons ⟨rfl, by decide, .inl F.mO⟩ (fun a oe cls d pn hz hf => pss_one (by exact ps_ret (pe_tup (pa_cons pe_str (pa_cons (pe_xf F.xO F.i1 hz hf (pv 1)) (pa_cons (pe_xf F.xO F.i2 hz hf (pv 1)) pa_nil)))))) .nil))), ?_⟩
  · refine ⟨fun pins s' σ H' D I h' => ?_⟩
    obtain ⟨Ech, hW, h1, h2, h3⟩ := h'
    exact (pss_one (ps_ret (pe_tup (pa_cons pe_str (pa_cons (act W pn xe Ech _ _ tk hW) pa_nil))))).run pins s' σ H' D I ⟨h1, h2, h3⟩
  · refine ⟨_, fun cls d σ' H' hE hl => ?_, rfl, hc, h⟩
    have s1 : ∀ a : Addr, (σ'.set 1 (some (V.ref a)))[1]? = some (some (V.ref a)) := fun a => set_get (by rw [hl]; exact (by decide : 1 < 2))
    rcases hE with ⟨rfl, dd, v, rfl, hx, qq⟩ | ⟨rfl, dd, v, u, rfl, hx, qq⟩
    · refine ⟨true, F.nn, And.intro (fun _ a _ => ?_) (fun z => Bool.noConfusion z)⟩
      exact ⟨_, s1 a, rfl, rfl, dd, _, v, rfl, hx, rfl, (by show 2 ≤ sizeLine; decide), qq⟩
    · refine ⟨false, F.on, And.intro (fun z => Bool.noConfusion z) (fun _ => ⟨true, F.oo, And.intro (fun _ a _ => ?_) (fun z => Bool.noConfusion z)⟩)⟩
      exact ⟨_, s1 a, rfl, rfl, dd, _, v, rfl, hx, rfl, _, s1 a, rfl, rfl, dd, _, u, rfl, hx, rfl, (by show 3 ≤ sizeLine; decide), qq⟩
end K1
end
-- NKw
section
set_option Elab.async false
set_option linter.all false
set_option maxRecDepth 100000
set_option maxHeartbeats 4000000
namespace K1
open PySem PySem.Spec PyProof.Rows L2
section
variable {X : Cx} {CX : CXT} {k n : Nat} {f C : Addr} {fd : FuncData} {ps ks : List Str} {sp : Sp} {E : XK} {x m : Str} {p pos apos : Pos} {e o : Expr} {es : List Expr} {kws : List Keyword} {ta : TE} {t tk : TA} {g : List Value → List Value → List Value} {gV : List V → List V → List V}
/-- the callee runs, its parameters given by name -/
theorem run_fnN {pins : List (Addr × Obj)} {σ : L2.St} {H : Hp} {s : Shared} {Q : VK} {us ws : List Value} {vs zs : List V} (F : FnOk X.prog X.w X.K X.mg X.base CX k f fd ps sp) (hr : Room k X.A) (hb : KBn X.K fd ps n ks g gV) (hx : Passes CX X E)
    (I : Inv X pins σ H s) (r : Vals vs us) (rz : Vals zs ws) (l1 : vs.length = n) (l2 : zs.length = ks.length) (h : sp (gV vs zs) H Q E) : wpAny (model X.prog X.w) X.A (call (.ref f) us (ks.zip ws)) (EP X pins σ Q) X.xe s := by
  have r2 := hb.rel r rz
  refine wpAny_call (codeAny_mono (F.run X.A X.stack s H ⟨us, ks.zip ws⟩ (g us ws) (gV vs zs) Q E hr I.env0 (hb.to s us ws I.kIn (r.length.symm.trans l1) (rz.length.symm.trans l2)) r2 h) fun r s' hq => ?_)
  cases r with
  | error e => exact hx pins σ H s e s' I hq
  | ok fl =>
    cases fl with
    | ret u => exact I.after hq
    | next => exact False.elim hq
    | brk => exact False.elim hq
    | cont => exact False.elim hq
def tMethK (C : Addr) (m : Str) (k : Nat) (sp : Sp) (gV : List V → List V → List V) (E : XK) (ta : TE) (tk : TA) : TE := fun σ H Q => ta σ H fun x H1 => ∃ a dx fs, x = .ref a ∧ H1 a = some (.ins C dx fs) ∧ fs.lookup m = none ∧
  tk σ H1 fun zs H2 => zs.length = k ∧ sp (gV [x] zs) H2 Q E
/-- o.m(k = v, ..) -/
theorem pe_methK0 {pl : Sem Bool} (he : PE X o ta) (c : Cls X.K C) (hm : Meth X.K C m f) (F : FnOk X.prog X.w X.K X.mg X.base CX k f fd ps sp) (hr : Room k X.A) (hb : KBn X.K fd ps 1 ks g gV) (hx : Passes CX X E) (hkw : PK X kws tk)
    (hall : (backToKw pos (keywordEach kws X.env)).all (·.1.isSome) = true := by rfl) (hks : (backToKw pos (keywordEach kws X.env)).filterMap (·.1) = ks := by rfl)
    (hpl : ((backTo pos (starEach [] X.env)).any (·.1) || (backToKw pos (keywordEach kws X.env)).any (·.1.isNone)) = false := by rfl)
    (ht : eval (.Call (.Attribute o m apos) [] kws pos) X.env = (do
      let ov ← eval o X.env
      standAt apos.atName
      let (f, first) ← holding [ov] (getMethod ov m pl)
      callWith pos f first (backTo pos (starEach [] X.env)) (backToKw pos (keywordEach kws X.env))) := by rfl) :
    PE X (.Call (.Attribute o m apos) [] kws pos) (tMethK C m ks.length sp gV E ta tk) := by
  refine ⟨fun pins s σ H Q I h => ?_⟩
  refine PySem.W.methodCall_KW (pl := pl) (thn (he.run pins s σ H _ I h) fun u s1 ⟨x, H1, I1, rx, a, dx, fs, ex, ea, l, q⟩ => ?_) ht
  subst ex
  obtain rfl : u = Value.ref a := rx
  refine getmeth_ok I1 ea c hm l ?_
  refine PySem.W.callWith_KW0 (first := [.ref a]) (h₀ := X.base) I.ok.mod.kin hm.kp hall ?_ hpl
  refine thn (hkw.run pos pins s1 σ H1 _ I1 q) fun ws s2 ⟨zs, H2, I2, rz, l2, q2⟩ => ⟨I2.kIn, ?_⟩
  rw [hks]
  exact run_fnN (us := [.ref a]) (vs := [.ref a]) F hr hb hx I2 (.cons rfl .nil) rz rfl l2 q2
end
end K1
end
-- KLaw4
section
set_option Elab.async false
set_option linter.all false
set_option maxRecDepth 100000
set_option maxHeartbeats 4000000
namespace K1
open PySem PySem.Spec PyProof.Rows L2
abbrev sVV : Stmt := top 35
/-- the law's own valley: a triple of three lists -/
structure VAt (a : Addr) (H : Hp) (t p1 p2 p3 : Addr) (qs : List Addr) (ss : List Str) (rs : List (Str × Str)) (ns : List Int) : Prop where
  t0 : H t = some (.tup [.ref p1, .ref p2, .ref p3])
  h1 : H p1 = some (.lst (ss.map V.str))
  h2 : H p2 = some (.lst (qs.map V.ref))
  pr : Paired (TupP H) qs rs
  h3 : H p3 = some (.lst (ns.map V.int))
  n1 : p1 ≠ a
  n2 : p2 ≠ a
  n3 : p3 ≠ a
structure VOk (ss : List Str) (rs : List (Str × Str)) (ns : List Int) : Prop where
  good : Good ss
  pos : 1 ≤ ss.length
  le : ss.length ≤ 60
  cut : Cut rs
  ends : EndsIn ss rs
  rl : rs.length + 1 = ss.length
  nl : ns.length = ss.length
  ge : ∀ n ∈ ns, 1 ≤ n
  nob : NoB ss
theorem VAt.kept {a : Addr} {H H' : Hp} {t p1 p2 p3 : Addr} {qs : List Addr} {ss : List Str} {rs : List (Str × Str)} {ns : List Int} {n : Nat} (v : VAt a H t p1 p2 p3 qs ss rs ns) (s : Spr H a n) (k : Kept a H H') : VAt a H' t p1 p2 p3 qs ss rs ns :=
  ⟨k _ _ (s.tup v.t0) v.t0, k _ _ v.n1 v.h1, k _ _ v.n2 v.h2, TupP.kept v.pr s k, k _ _ v.n3 v.h3, v.n1, v.n2, v.n3⟩
def spVV : Sp := fun vs H Q _ => ∃ (a : Addr) (l m : Int) (n : Nat), vs = [.ref a, .int l, .int m] ∧ Spr H a n ∧ n + 5000 ≤ 1000000 ∧ 1 ≤ l ∧ l ≤ m ∧ m ≤ 60 ∧
  ∀ (t p1 p2 p3 : Addr) (qs : List Addr) (ss : List Str) (rs : List (Str × Str)) (ns : List Int) (H' : Hp), Kept a H H' → Spr H' a (n + 1000) → VAt a H' t p1 p2 p3 qs ss rs ns → VOk ss rs ns → l ≤ (ss.length : Int) → (ss.length : Int) ≤ m → Q (.ref t) H'
theorem scVV : FnScope ["spring", "least", "most", "names", "top", "name"] ["spring", "least", "most"] (defScope sVV) := ⟨rfl, rfl, rfl, by decide +kernel, rfl, by decide +kernel, by decide +kernel⟩
theorem fr_kept {a : Addr} {H Hx : Hp} {z : Addr} (kx : Kept a H Hx) (hz : Hx z = none) (za : z ≠ a) : H z = none := by
  cases e : H z with
  | none => rfl
  | some o => rw [kx _ _ za e] at hz; cases hz
section
variable {P : Program} {w : World} {K : PySem.W.Frag} {mg : Str → Option Value} {base : Heap} {fD fM fN fP fR : Addr} {fdD fdM fdN fdP fdR : FuncData}
theorem ok_VV {f : Addr} {fd : FuncData} (F : Fun K "_law_v_valley" "_law_v_valley" sVV f fd) (B : Bl mg)
    (GD : FnOk P w K mg base CX0 1 fD fdD ["spring", "many"] spDraw) (bD : Binds K fdD ["spring", "many"] []) (kD : PySem.W.keepIn K (.ref fD) = true) (mD : mg "_law_draw" = some (.ref fD))
    (GM : FnOk P w K mg base CX0 2 fM fdM ["spring", "some"] spMixed) (bM : Binds K fdM ["spring", "some"] []) (kM : PySem.W.keepIn K (.ref fM) = true) (mM : mg "_law_mixed" = some (.ref fM))
    (GP : FnOk P w K mg base CX0 2 fP fdP ["spring", "some"] spPick) (bP : Binds K fdP ["spring", "some"] []) (kP : PySem.W.keepIn K (.ref fP) = true) (mP : mg "_law_pick" = some (.ref fP))
    (GN : FnOk P w K mg base CX0 3 fN fdN ["spring", "least", "most"] spVN) (bN : Binds K fdN ["spring", "least", "most"] []) (kN : PySem.W.keepIn K (.ref fN) = true) (mN : mg "_law_v_names" = some (.ref fN))
    (GR : FnOk P w K mg base CX0 3 fR fdR ["spring", "names"] spVRo) (bR : Binds K fdR ["spring", "names"] []) (kR : PySem.W.keepIn K (.ref fR) = true) (mR : mg "_law_v_roads" = some (.ref fR)) :
    FnOk P w K mg base CX0 4 f fd ["spring", "least", "most"] spVV := by
  refine F.ok scVV (fun vs H Q E h => ?_) (fun cdv A outer s H vs Q E hr h => ?_)
  · obtain ⟨a, l, m, n, rfl, _⟩ := h
    rfl
  obtain ⟨a, l, m, n, rfl, hs, hn, hl, hlm, hm, q⟩ := h
  have nd := scVV.nd
  have hr1 : Room 1 _ := hr.mono (by decide)
  have hr2 : Room 2 _ := hr.mono (by decide)
  refine ⟨_, (pss_cons (by exact (ps_asg (pe_tup (pa_cons (pe_call GN hr rfl mN kN bN .nil pass0 (pa_cons (pv 0) (pa_cons (pv 1) (pa_cons (pv 2) pa_nil)))) (pa_cons (pe_call GP hr2 rfl mP kP bP .nil pass0 (pa_cons (pv 0) (pa_cons (pe_lst (pa_cons pe_int (pa_cons pe_int (pa_cons (pe_op op_pow pe_int pe_int) pa_nil)))) pa_nil))) pa_nil))) (pg_tup rfl (pgs_cons (pg_name (i := 3) nd rfl (.inl rfl)) (pgs_cons (pg_name (i := 4) nd rfl (.inr rfl)) pgs_nil))))) (pss_one (by exact (ps_ret (pe_tup (pa_cons (pe_call GM hr2 rfl mM kM bM .nil pass0 (pa_cons (pv 0) (pa_cons (pv 3) pa_nil))) (pa_cons (pe_call GR hr rfl mR kR bR .nil pass0 (pa_cons (pv 0) (pa_cons (pv 3) pa_nil))) (pa_cons (pe_lc (own := [("name", 5)]) (g := gName 5) (tt := tYes) rfl nd (by exact pi_seqV 3 (pv 3)) (by exact blkOk_by (N := ["spring", "least", "most", "names", "top", "name"]) (sc := defScope sVV) (by decide +kernel)) (fun _ _ _ _ _ => by exact (pg_name (i := 5) nd rfl (.inl rfl))) (fun _ _ _ _ _ => by exact pts_nil) (fun _ _ _ _ _ => by exact (pe_op op_add pe_int (pe_call GD hr1 rfl mD kD bD .nil pass0 (pa_cons (pv 0) (pa_cons (pv 4) pa_nil)))))) pa_nil)))))))), ?_⟩
  refine ⟨_, rfl, _, rfl, _, rfl, a, l, m, n, rfl, hs, by omega, hl, hlm, hm, fun p ss0 H1 p0 pa k1 s1 hp good nob g1 g2 => ?_⟩
  refine ⟨_, rfl, _, _, rfl, rfl, ⟨by decide, by decide, by decide⟩, (by show 3 ≤ sizeLine; decide), fun l1 hl1 => ?_⟩
  have l1a := s1.ne hl1
  have p1n := ne_of_none hp hl1
  refine ⟨a, l1, _, n + 100, rfl, s1.upd l1a, by omega, upd_same, l1a, by simp, (by show 3 ≤ 1000; decide), fun x H2 hx k2 s2 => ?_⟩
  have k12 : Kept a H1 H2 := (Kept.new hl1).trans k2
  have hp2 := k12 _ _ pa hp
  obtain ⟨top, rfl, tp1, tp2⟩ : ∃ t : Int, x = .int t ∧ 0 < t ∧ t.natAbs < 2 ^ 100 := by
    rcases List.mem_cons.mp hx with rfl | hx
    · exact ⟨1, rfl, by decide, by decide⟩
    · rcases List.mem_cons.mp hx with rfl | hx
      · exact ⟨4, rfl, by decide, by decide⟩
      · rcases List.mem_cons.mp hx with rfl | hx
        · exact ⟨_, rfl, by decide, by decide⟩
        · cases hx
  refine ⟨(by show 2 ≤ sizeLine; decide), fun u hu => ⟨u, _, rfl, SqT.of upd_same, rfl, _, _, rfl, _, _, rfl, rfl, ?_⟩⟩
  have ua := s2.ne hu
  have pu := ne_of_none hp2 hu
  have k13 : Kept a H1 (L2.upd H2 u (.tup [.ref p, .int top])) := k12.trans (Kept.new hu)
  have s3 : Spr (L2.upd H2 u (.tup [.ref p, .int top])) a (n + 100 + 1) := s2.upd ua
  have hp3 : L2.upd H2 u (.tup [.ref p, .int top]) p = some (.lst (ss0.map V.str)) := by rw [upd_ne pu]; exact hp2
  generalize L2.upd H2 u (.tup [.ref p, .int top]) = H3 at k13 s3 hp3 ⊢
  refine ⟨_, rfl, _, rfl, a, p, ss0.map V.str, _, rfl, s3, by omega, hp3, pa, by rw [List.length_map]; omega, fun r1 ys H4 pm rn1 ra1 hr1' k4 s4 => ?_⟩
  rw [List.length_map] at s4
  obtain ⟨ss, rfl, ps⟩ := perm_str pm
  have hp4 := k4 _ _ pa hp3
  refine ⟨_, rfl, _, rfl, a, p, _, ss0, rfl, s4, by omega, hp4, pa, good, by omega, by omega, fun r2 qs rs H5 rn2 ra2 k5 s5 hr2' pr qf cut ends hrl => ?_⟩
  have hp5 := k5 _ _ pa hp4
  have h15 := k5 _ _ ra1 hr1'
  refine ⟨p, _, rfl, .inl (SqL.of hp5), fun J G wk hG D hD => ?_⟩
  have Da := s5.ne hD
  have l0 : ss.length = ss0.length := ps.length_eq
  refine lc_it wk (fun i Hc => Kept a H5 Hc ∧ Spr Hc a (n + 700 + i) ∧ ∃ ns : List Int, Hc D = some (.lst (ns.map V.int)) ∧ ns.length = i ∧ ∀ z ∈ ns, 1 ≤ z) ⟨Kept.new hD, (s5.upd Da).mono (by omega), [], upd_same, rfl, fun z hz => absurd hz (by simp)⟩ (fun i Hc _ h => hG Hc fun o ho => h.1 _ _ pa ho) ?_ ?_
  · rintro i y Hc H' hi ⟨c1, c2, ns, c3, c4, c5⟩ ⟨rfl, hy⟩
    rw [List.length_map] at hi
    refine ⟨rfl, ?_⟩
    unfold tYes
    refine iteT ?_
    refine ⟨_, rfl, _, rfl, a, top, _, rfl, c2, by omega, tp1, tp2, fun d H6 d0 d1 k6 s6 => ?_⟩
    have c3' := k6 _ _ Da c3
    refine ⟨_, _, rfl, rfl, _, c3', by rw [List.length_map]; exact small1000 (by omega), fun b o nb e => ?_, (s6.upd Da).mono (by omega), ns ++ [1 + d], by rw [upd_same, List.map_append]; rfl, by rw [List.length_append, c4]; rfl, fun z hz => ?_⟩
    · rw [upd_ne (ne_of_none e hD)]
      exact k6 b o nb (c1 b o nb e)
    · rcases List.mem_append.mp hz with hz | hz
      · exact c5 z hz
      · rw [List.mem_singleton.mp hz]
        omega
  · rintro Hc ⟨c1, c2, ns, c3, c4, c5⟩
    rw [List.length_map] at c4
    refine ⟨(by show 3 ≤ sizeLine; decide), fun t ht => ?_⟩
    have ta := c2.ne ht
    have kk : Kept a Hc (L2.upd Hc t (.tup [.ref r1, .ref r2, .ref D])) := Kept.new ht
    have kall : Kept a H1 (L2.upd Hc t (.tup [.ref r1, .ref r2, .ref D])) := k13.trans (k4.trans (k5.trans (c1.trans kk)))
    refine q t r1 r2 D qs ss rs ns _ (k1.trans kall) ((c2.upd ta).mono (by rw [List.length_map]; omega)) ⟨upd_same, kk _ _ ra1 (c1 _ _ ra1 h15), kk _ _ ra2 (c1 _ _ ra2 hr2'), TupP.kept pr s5 (c1.trans kk), kk _ _ Da c3, ra1, ra2, Da⟩
      ⟨good.perm ps, by omega, by omega, cut, fun r hr => ⟨ps.mem_iff.mpr (ends r hr).1, ps.mem_iff.mpr (ends r hr).2⟩, by omega, by omega, c5, fun s hs => nob s (ps.mem_iff.mp hs)⟩ (by omega) (by omega)
end
end K1
end
-- KLaw5
section
set_option Elab.async false
set_option linter.all false
set_option maxRecDepth 100000
set_option maxHeartbeats 4000000
namespace K1
open PySem PySem.Spec PyProof.Rows L2
abbrev sLo : Stmt := top 32
open Classical in
/-- the heap without these -/
noncomputable def wo (Z : Addr → Prop) (H : Hp) : Hp := fun b => if Z b then none else H b
theorem wo_some {Z : Addr → Prop} {H : Hp} {b : Addr} {o : HO} : wo Z H b = some o ↔ ¬ Z b ∧ H b = some o := by
  unfold wo
  by_cases h : Z b
  · rw [if_pos h]
    exact ⟨fun q => (by cases q), fun q => absurd h q.1⟩
  · rw [if_neg h]
    exact ⟨fun q => ⟨h, q⟩, fun q => q.2⟩
theorem wo_same {Z : Addr → Prop} {H H' : Hp} (k : ∀ b o, ¬ Z b → H b = some o → H' b = some o) : Same (wo Z H) (wo Z H') := fun b o e => by
  obtain ⟨n, e⟩ := wo_some.mp e
  exact wo_some.mpr ⟨n, k b o n e⟩
theorem wo_le {Z Z' : Addr → Prop} {H : Hp} (k : ∀ b, Z b → Z' b) : Same (wo Z' H) (wo Z H) := fun b o e => by
  obtain ⟨n, e⟩ := wo_some.mp e
  exact wo_some.mpr ⟨fun z => n (k b z), e⟩
theorem wo_out {Z : Addr → Prop} {H : Hp} : Same (wo Z H) H := fun b o e => (wo_some.mp e).2
abbrev Rel (α : Type) := Hp → V → α → Prop
def MonR {α : Type} (R : Rel α) : Prop := ∀ H H' v x, Same H H' → R H v x → R H' v x
def SeqR {α : Type} (R : Rel α) : Rel (List α) := fun H v xs => ∃ vs, SeqV H v vs ∧ xs.length ≤ 60 ∧ Paired (R H) vs xs
def Flat0 (K : PySem.W.Frag) : Rel V := fun H v x => v = x ∧ NoSeq K H v
theorem mon_flat0 {K : PySem.W.Frag} : MonR (Flat0 K) := fun H H' v x e h => ⟨h.1, h.2.ext e⟩
theorem mon_seq {α : Type} {R : Rel α} (m : MonR R) : MonR (SeqR R) := fun H H' v x e ⟨vs, a, b, c⟩ => ⟨vs, a.ext e, b, paired_imp (fun _ _ q => m _ _ _ _ e q) c⟩
def spLo {α : Type} (R : Rel α) (c : Nat) : Sp := fun vs H Q _ => ∃ (a : Addr) (v : V) (x : α) (n : Nat) (Z : Addr → Prop), vs = [.ref a, v] ∧ Spr H a n ∧ n + c ≤ 1000000 ∧ Z a ∧ (∀ z, Z z → H z ≠ none) ∧ R (wo Z H) v x ∧
  ∀ y H', Kept a H H' → Spr H' a (n + c) → R (wo Z H') y x → Q y H'
theorem scLo : FnScope ["spring", "thing", "found", "one"] ["spring", "thing"] (defScope sLo) := ⟨rfl, rfl, rfl, by decide +kernel, rfl, by decide +kernel, by decide +kernel⟩
theorem Spr.same {H H' : Hp} {a : Addr} {n : Nat} (s : Spr H a n) (e : Same H H') : Spr H' a n := by
  obtain ⟨x, y, z, h, r⟩ := s
  exact ⟨x, y, z, e _ _ h, r⟩
section
variable {P : Program} {w : World} {K : PySem.W.Frag} {mg : Str → Option Value} {base : Heap} {fD : Addr} {fdD : FuncData}
theorem ok_lo0 {f : Addr} {fd : FuncData} (F : Fun K "_law_loose" "_law_loose" sLo f fd) (B : Bl mg) : FnOk P w K mg base CX0 1 f fd ["spring", "thing"] (spLo (Flat0 K) 0) := by
  refine F.ok scLo (fun vs H Q E h => ?_) (fun cdv A outer s H vs Q E hr h => ?_)
  · obtain ⟨a, v, x, n, Z, rfl, _⟩ := h
    rfl
  obtain ⟨a, v, x, n, Z, rfl, hs, hn, za, hz, ⟨rfl, t, ty, kt, st⟩, q⟩ := h
  have nd := scLo.nd
  refine ⟨_, (pss_cons (by exact (ps_if (pt_not (pt_val (pe_callB call_isiT rfl B.isi PyProof.Rows.boot_isinstance (pa_cons (pv 1) (pa_cons (pe_tup (pa_cons (pe_bltn (v := .ty "list") rfl B.list PyProof.Rows.boot_list rfl) (pa_cons (pe_bltn (v := .ty "tuple") rfl B.tuple PyProof.Rows.boot_tuple rfl) pa_nil))) pa_nil))))) (pss_one (by exact (ps_ret (pv 1)))) pss_nil)) (pss_cons (by exact (ps_never)) (pss_one (by exact (ps_never))))), ?_⟩
  refine ⟨_, rfl, (by show 2 ≤ sizeLine; decide), fun p hp => ?_⟩
  have e := K1.Same.upd (H := H) (p := p) (o := .tup [.ty "list", .ty "tuple"]) hp
  refine ⟨v, p, _, _, _, _, rfl, upd_same, .cons (.ty "list") (.cons (.ty "tuple") .nil), TyX.ext ty (wo_out.trans e), kit_seq kt, _, rfl, ?_⟩
  rw [st]
  refine iteT ⟨_, rfl, q _ _ (Kept.same e) (hs.same e) ⟨rfl, t, TyX.ext ty (wo_same fun b o _ h => e b o h), kt, st⟩⟩
theorem ok_lo {α : Type} {R : Rel α} {c k : Nat} {f : Addr} {fd : FuncData} (mon : MonR R) (F : Fun K "_law_loose" "_law_loose" sLo f fd) (B : Bl mg) (mF : mg "_law_loose" = some (.ref f)) (b : Binds K fd ["spring", "thing"] [])
    (GD : FnOk P w K mg base CX0 1 fD fdD ["spring", "many"] spDraw) (bD : Binds K fdD ["spring", "many"] []) (kD : PySem.W.keepIn K (.ref fD) = true) (mD : mg "_law_draw" = some (.ref fD))
    (hk : 1 ≤ k) (G : FnOk P w K mg base CX0 k f fd ["spring", "thing"] (spLo R c)) : FnOk P w K mg base CX0 (k + 1) f fd ["spring", "thing"] (spLo (SeqR R) (60 * c + 1)) := by
  refine F.ok scLo (fun vs H Q E h => ?_) (fun cdv A outer s H vs Q E hr h => ?_)
  · obtain ⟨a, v, x, n, Z, rfl, _⟩ := h
    rfl
  obtain ⟨a, v, xs, n, Z, rfl, hs, hn, za, hz, ⟨vs, sv, hl, pv_⟩, q⟩ := h
  have nd := scLo.nd
  have hr1 : Room 1 _ := hr.mono hk
  refine ⟨_, (pss_cons (by exact (ps_if (pt_not (pt_val (pe_callB call_isiT rfl B.isi PyProof.Rows.boot_isinstance (pa_cons (pv 1) (pa_cons (pe_tup (pa_cons (pe_bltn (v := .ty "list") rfl B.list PyProof.Rows.boot_list rfl) (pa_cons (pe_bltn (v := .ty "tuple") rfl B.tuple PyProof.Rows.boot_tuple rfl) pa_nil))) pa_nil))))) (pss_one (by exact (ps_ret (pv 1)))) pss_nil)) (pss_cons (by exact (ps_setLc (i := 2) (own := [("one", 3)]) (g := gName 3) (tt := tYes) rfl nd rfl rfl (sw_true rfl rfl rfl (by decide +kernel)) (by exact pi_seqV 1 (pv 1)) (by exact blkOk_by (N := ["spring", "thing", "found", "one"]) (sc := defScope sLo) (by decide +kernel)) (fun _ _ _ _ _ => by exact (pg_name (i := 3) nd rfl (.inl rfl))) (fun _ _ _ _ _ => by exact pts_nil) (fun _ _ _ _ _ => by exact (pe_call G hr rfl mF F.kp b .nil pass0 (pa_cons (pv 0) (pa_cons (pv 3) pa_nil)))))) (pss_one (by exact (ps_ret (pe_ifExp (pt_cmpR op_eq (pe_call GD hr1 rfl mD kD bD .nil pass0 (pa_cons (pv 0) (pa_cons pe_int pa_nil))) pe_int (nomark _)) (pe_callTy call_tuple_of rfl B.tuple PyProof.Rows.boot_tuple (pa_cons (pv 2) pa_nil)) (pv 2))))))), ?_⟩
  obtain ⟨t, ty, kt, st⟩ := sv.ty (K := K)
  refine ⟨_, rfl, (by show 2 ≤ sizeLine; decide), fun p hp => ?_⟩
  have e := K1.Same.upd (H := H) (p := p) (o := .tup [.ty "list", .ty "tuple"]) hp
  refine ⟨v, p, _, _, _, _, rfl, upd_same, .cons (.ty "list") (.cons (.ty "tuple") .nil), TyX.ext ty (wo_out.trans e), kit_seq kt, _, rfl, ?_⟩
  rw [st]
  refine iteF ?_
  have hs1 := hs.same e
  have kp1 : Kept a H (L2.upd H p (.tup [.ty "list", .ty "tuple"])) := Kept.same e
  generalize L2.upd H p (.tup [.ty "list", .ty "tuple"]) = H1 at e hs1 kp1 ⊢
  obtain ⟨pv0, rfl, hpv⟩ := id sv
  have hpz : ¬ Z pv0 := hpv.elim (fun h => (wo_some.mp h).1) (fun h => (wo_some.mp h).1)
  have pva : pv0 ≠ a := fun z => hpz (by rw [z]; exact za)
  have hpv1 : H1 pv0 = some (.lst vs) ∨ H1 pv0 = some (.tup vs) := hpv.imp (fun h => e _ _ (wo_some.mp h).2) (fun h => e _ _ (wo_some.mp h).2)
  refine ⟨pv0, vs, rfl, hpv1.imp (fun h => SqL.of h) (fun h => SqT.of h), fun J Gw wk hG D hD => ?_⟩
  have Da := hs1.ne hD
  have DH : H D = none := e.free hD
  have lvs : vs.length = xs.length := pv_.length
  have nzD : ¬ Z D := fun z => hz D z DH
  refine lc_it wk (fun i Hc => Kept a H1 Hc ∧ Spr Hc a (n + c * i) ∧ ∃ acc, Hc D = some (.lst acc) ∧ acc.length = i ∧ Paired (R (wo (fun z => Z z ∨ z = D) Hc)) acc (xs.take i)) ⟨Kept.new hD, (hs1.upd Da).mono (by omega), [], upd_same, rfl, .nil⟩ (fun i Hc _ h => hG Hc fun o ho => h.1 _ _ pva ho) ?_ ?_
  · rintro i y Hc H' hi ⟨c1, c2, acc, c3, c4, c5⟩ ⟨rfl, hy⟩
    have hi2 : i < xs.length := by omega
    obtain ⟨y', ey, ry⟩ := paired_get pv_ hi2
    have : y' = y := Option.some.inj (ey.symm.trans hy)
    subst this
    refine ⟨rfl, ?_⟩
    unfold tYes
    refine iteT ?_
    have sm : Same (wo Z H) (wo (fun z => Z z ∨ z = D) H') := fun b o eb => by
      obtain ⟨n1, e1⟩ := wo_some.mp eb
      refine wo_some.mpr ⟨fun z => z.elim n1 fun z => ?_, c1 _ _ (fun z => n1 (by rw [z]; exact za)) (e _ _ e1)⟩
      rw [z, DH] at e1
      cases e1
    have hci : c * i + c ≤ c * 60 := by
      have : c * (i + 1) ≤ c * 60 := Nat.mul_le_mul (Nat.le_refl c) (by omega)
      rwa [Nat.mul_add, Nat.mul_one] at this
    refine ⟨_, rfl, _, rfl, a, y', xs[i], n + c * i, fun z => Z z ∨ z = D, rfl, c2, by omega, .inl za, fun z zz => ?_, mon _ _ _ _ sm ry, fun y2 H6 k6 s6 r6 => ?_⟩
    · rcases zz with zz | rfl
      · intro q0
        by_cases z1 : z = a
        · rw [z1] at q0
          exact c2.kept q0
        · exact hz z zz (fr_kept (kp1.trans c1) q0 z1)
      · rw [c3]
        exact Option.some_ne_none _
    · have sD : ∀ acc', Same (wo (fun z => Z z ∨ z = D) H6) (wo (fun z => Z z ∨ z = D) (L2.upd H6 D acc')) := fun acc' => wo_same fun b o nb eb => by
        rw [upd_ne (fun z => nb (.inr z))]
        exact eb
      have c3' := k6 _ _ Da c3
      refine ⟨acc, c3', by rw [c4]; exact small1000 (by omega), fun b o nb eb => ?_, (s6.upd Da).mono (by rw [Nat.mul_add, Nat.mul_one]; omega), acc ++ [y2], upd_same, by rw [List.length_append, c4]; rfl, ?_⟩
      · rw [upd_ne (ne_of_none eb hD)]
        exact k6 b o nb (c1 b o nb eb)
      · rw [List.take_add_one, List.getElem?_eq_getElem hi2]
        have s36 : Same (wo (fun z => Z z ∨ z = D) H') (wo (fun z => Z z ∨ z = D) H6) := wo_same fun b o nb eb => k6 b o (fun z => nb (.inl (by rw [z]; exact za))) eb
        have pz : ∀ {as : List V} {bs : List α}, Paired (R (wo (fun z => Z z ∨ z = D) H')) as bs → Paired (R (wo (fun z => Z z ∨ z = D) (L2.upd H6 D (.lst (acc ++ [y2]))))) (as ++ [y2]) (bs ++ [xs[i]]) := by
          intro as bs h
          induction h with
          | nil => exact .cons (mon _ _ _ _ (sD _) r6) .nil
          | cons f1 f2 ih => exact .cons (mon _ _ _ _ (s36.trans (sD _)) f1) ih
        exact pz c5
  · rintro Hc ⟨c1, c2, acc, c3, c4, c5⟩
    rw [lvs, List.take_length] at c5
    have hcl : c * vs.length ≤ 60 * c := by rw [Nat.mul_comm]; exact Nat.mul_le_mul (by omega) (Nat.le_refl c)
    refine ⟨_, rfl, a, 2, _, rfl, c2, by omega, by decide, by decide, fun d H6 d0 d1 k6 s6 => ⟨rfl, _, rfl, ?_⟩⟩
    have c36 := k6 _ _ Da c3
    have kall : Kept a H H6 := kp1.trans (c1.trans k6)
    have s6' : Spr H6 a (n + (60 * c + 1)) := s6.mono (by omega)
    have fin : ∀ Hf, Same H6 Hf → Paired (R (wo Z Hf)) acc xs := fun Hf ef => paired_imp (fun _ _ r => mon _ _ _ _ (Same.trans (wo_le fun b z => .inl z) (wo_same fun b o nb eb => ef _ _ (k6 b o (fun z => nb (by rw [z]; exact za)) eb))) r) c5
    refine ite2 (fun cc => ?_) (fun cc => ?_)
    · refine ⟨_, rfl, D, acc, rfl, .inl ⟨SqL.of c36, fun u hu => ?_⟩⟩
      have eu := K1.Same.upd (o := .tup acc) hu
      have ua := s6.ne hu
      exact q (.ref u) _ (kall.trans (Kept.new hu)) (s6'.same eu) ⟨acc, ⟨u, rfl, .inr (wo_some.mpr ⟨fun z => hz u z (fr_kept kall hu ua), upd_same⟩)⟩, hl, fin _ eu⟩
    · exact ⟨_, rfl, q (.ref D) _ kall s6' ⟨acc, ⟨D, rfl, .inl (wo_some.mpr ⟨nzD, c36⟩)⟩, hl, fin _ (Same.refl _)⟩⟩
end
end K1
end
-- KLaw6
section
set_option Elab.async false
set_option linter.all false
set_option maxRecDepth 100000
set_option maxHeartbeats 4000000
namespace K1
open PySem PySem.Spec PyProof.Rows L2
abbrev sVM : Stmt := top 36
theorem flat_str {K : PySem.W.Frag} {H : Hp} (s : Str) : Flat0 K H (.str s) (.str s) := ⟨rfl, "str", .base (.str s), by decide, by decide⟩
theorem flat_int {K : PySem.W.Frag} {H : Hp} (s : Int) : Flat0 K H (.int s) (.int s) := ⟨rfl, "int", .base (.int s), by decide, by decide⟩
theorem paired_same {α : Type} {F : α → α → Prop} : ∀ {xs : List α}, (∀ x ∈ xs, F x x) → Paired F xs xs
  | [], _ => .nil
  | x :: xs, h => .cons (h x (List.mem_cons_self ..)) (paired_same fun y hy => h y (List.mem_cons_of_mem _ hy))
theorem flat_eq {K : PySem.W.Frag} {H : Hp} : ∀ {vs xs : List V}, Paired (Flat0 K H) vs xs → vs = xs
  | _, _, .nil => rfl
  | _, _, .cons f r => by rw [f.1, flat_eq r]
theorem paired_map {α β γ : Type} {F : α → β → Prop} {g : γ → β} : ∀ {xs : List α} {ys : List γ}, Paired F xs (ys.map g) → Paired (fun x y => F x (g y)) xs ys
  | _, [], .nil => .nil
  | _, _ :: _, .cons f r => .cons f (paired_map r)
theorem map_paired {α β γ : Type} {F : α → β → Prop} {g : γ → α} : ∀ {xs : List γ} {ys : List β}, Paired (fun x y => F (g x) y) xs ys → Paired F (xs.map g) ys
  | _, _, .nil => .nil
  | _, _, .cons f r => .cons f (map_paired r)
def prV (r : Str × Str) : List V := [.str r.1, .str r.2]
def spVM (C : Addr) : Sp := fun vs H Q _ => ∃ (a t p1 p2 p3 : Addr) (qs : List Addr) (ss : List Str) (rs : List (Str × Str)) (ns : List Int) (n : Nat), vs = [.ref a, .ref t] ∧ Spr H a n ∧ n + 200 ≤ 1000000 ∧ VAt a H t p1 p2 p3 qs ss rs ns ∧ VOk ss rs ns ∧
  ∀ x l1 l2 l3 qs' H', Kept a H H' → Spr H' a (n + 200) → ValI C H' x l1 l2 l3 qs' ss rs ns → l1 ≠ a → l2 ≠ a → l3 ≠ a → Q (.ref x) H'
theorem scVM : FnScope ["spring", "valley"] ["spring", "valley"] (defScope sVM) := ⟨rfl, rfl, rfl, by decide +kernel, rfl, by decide +kernel, by decide +kernel⟩
theorem same_make {H : Hp} {x dx C : Addr} (nx : H x = none) (nd : H dx = none) : Same H (L2.upd (L2.upd H dx (.own x)) x (.ins C dx [])) := fun b o e => by
  rw [upd_ne (ne_of_none e nx), upd_ne (ne_of_none e nd)]
  exact e
theorem Spr.keptx {H H' : Hp} {a x : Addr} {n : Nat} (s : Spr H a n) (ne : a ≠ x) (k : Kept x H H') : Spr H' a n := by
  obtain ⟨u, y, z, e, r⟩ := s
  exact ⟨u, y, z, k _ _ ne e, r⟩
/-- the three lists, handed in some way, make a Valley -/
theorem made_of {K : PySem.W.Frag} {C CH CR CD a x dx : Addr} {H H3 : Hp} {Q : VK} {E : XK} {y1 y2 y3 : V} {ss : List Str} {rs : List (Str × Str)} {ns : List Int} {n : Nat} (ok : VOk ss rs ns) (s3 : Spr H3 a n) (k3 : Kept a H H3) (s0 : H a ≠ none) (nx : H3 x = none) (ndx : H3 dx = none)
    (v1 : SeqV H3 y1 (ss.map V.str)) (v2 : ∃ vs, SeqV H3 y2 vs ∧ Paired (PairV H3) vs rs) (v3 : SeqV H3 y3 (ns.map V.int))
    (q : ∀ l1 l2 l3 qs' H', Kept a H H' → Spr H' a n → ValI C H' x l1 l2 l3 qs' ss rs ns → H3 l1 = none → H3 l2 = none → H3 l3 = none → (∀ q ∈ qs', H3 q = none) → Same H3 H' → Q .non H') :
    spVI K C CH CR CD ([.ref x, y1, y2, y3]) (L2.upd (L2.upd H3 dx (.own x)) x (.ins C dx [])) Q E := by
  have e := same_make (C := C) nx ndx
  obtain ⟨vs, a1, a2⟩ := v2
  have hne : ss ≠ [] := fun z => by have := ok.pos; rw [z] at this; simp at this
  refine ⟨x, y1, y2, y3, dx, rfl, upd_same, .inr (.inr (.inr ⟨ss, rs, ns, ⟨v1.ext e, hne, by have := ok.le; omega, ok.good⟩, ⟨vs, a1.ext e, paired_imp (fun _ _ q => SeqV.ext q e) a2, ok.ends, ok.cut.forest, ok.rl⟩, ⟨v3.ext e, ok.ge, ok.nl⟩, fun H' l1 l2 l3 qs k v f1 f2 f3 f4 => ?_⟩))⟩
  have ax : a ≠ x := fun z => by
    rw [← z] at nx
    exact s3.kept nx
  have back : ∀ {z}, L2.upd (L2.upd H3 dx (.own x)) x (.ins C dx []) z = none → H3 z = none := fun {z} hz => by
    cases q : H3 z with
    | none => rfl
    | some o => rw [e _ _ q] at hz; cases hz
  have sm : Same H3 H' := fun b o eb => k b o (ne_of_none eb nx) (e b o eb)
  exact q l1 l2 l3 qs H' (k3.trans (Kept.same sm)) (s3.same sm) v (back f1) (back f2) (back f3) (fun z hz => back (f4 z hz)) sm
section
variable {P : Program} {w : World} {K : PySem.W.Frag} {mg : Str → Option Value} {base : Heap} {C CH CR CD fL fV : Addr} {fdL fdV : FuncData}
theorem ok_VM {f : Addr} {fd : FuncData} (F : Fun K "_law_v_made" "_law_v_made" sVM f fd) (mV : mg "Valley" = some (.ref C)) (M : Mk K C fV)
    (GV : FnOk P w K mg base (L2.CX P w) 5 fV fdV ["self", "houses", "roads", "heads"] (spVI K C CH CR CD)) (bV : Binds K fdV ["self", "houses", "roads", "heads"] [])
    (GL1 : FnOk P w K mg base CX0 2 fL fdL ["spring", "thing"] (spLo (SeqR (Flat0 K)) 1)) (GL2 : FnOk P w K mg base CX0 3 fL fdL ["spring", "thing"] (spLo (SeqR (SeqR (Flat0 K))) 61))
    (bL : Binds K fdL ["spring", "thing"] []) (kL : PySem.W.keepIn K (.ref fL) = true) (mL : mg "_law_loose" = some (.ref fL)) :
    FnOk P w K mg base CX0 7 f fd ["spring", "valley"] (spVM C) := by
  refine F.ok scVM (fun vs H Q E h => ?_) (fun cdv A outer s H vs Q E hr h => ?_)
  · obtain ⟨a, t, p1, p2, p3, qs, ss, rs, ns, n, rfl, _⟩ := h
    rfl
  obtain ⟨a, t, p1, p2, p3, qs, ss, rs, ns, n, rfl, hs, hn, v, ok, q⟩ := h
  have hrA : Room 2 _ := hr.mono (by decide)
  have hrB : Room 3 _ := hr.mono (by decide)
  refine ⟨_, (pss_one (by exact (ps_ret (pe_make M GV hr rfl mV bV .nil passL (pa_cons (pe_call GL1 hrA rfl mL kL bL .nil pass0 (pa_cons (pv 0) (pa_cons (pe_ix ix_tup (pv 1) pe_int (fun _ _ => rfl)) pa_nil))) (pa_cons (pe_call GL2 hrB rfl mL kL bL .nil pass0 (pa_cons (pv 0) (pa_cons (pe_ix ix_tup (pv 1) pe_int (fun _ _ => rfl)) pa_nil))) (pa_cons (pe_call GL1 hrA rfl mL kL bL .nil pass0 (pa_cons (pv 0) (pa_cons (pe_ix ix_tup (pv 1) pe_int (fun _ _ => rfl)) pa_nil))) pa_nil))))))), ?_⟩
  have zz : ∀ {Hx : Hp} {m : Nat}, Spr Hx a m → ∀ z, z = a → Hx z ≠ none := fun s z e => by rw [e]; exact s.kept
  have i0 : atI [V.ref p1, V.ref p2, V.ref p3] 0 = some (.ref p1) := rfl
  have i1 : atI [V.ref p1, V.ref p2, V.ref p3] 1 = some (.ref p2) := rfl
  have i2 : atI [V.ref p1, V.ref p2, V.ref p3] 2 = some (.ref p3) := rfl
  have pl := ok.le
  refine ⟨_, rfl, _, rfl, t, _, _, _, rfl, rfl, SqT.of v.t0, i0, a, _, ss.map V.str, n, fun z => z = a, rfl, hs, by omega, rfl, zz hs, ⟨ss.map V.str, ⟨p1, rfl, .inl (wo_some.mpr ⟨v.n1, v.h1⟩)⟩, by rw [List.length_map]; exact pl, paired_same fun x hx => ?_⟩, fun y1 H1 k1 s1 r1 => ?_⟩
  · obtain ⟨s, _, rfl⟩ := List.mem_map.mp hx
    exact flat_str s
  have v1 := v.kept hs k1
  refine ⟨_, rfl, _, rfl, t, _, _, _, rfl, rfl, SqT.of v1.t0, i1, a, _, rs.map prV, _, fun z => z = a, rfl, s1, by omega, rfl, zz s1, ⟨qs.map V.ref, ⟨p2, rfl, .inl (wo_some.mpr ⟨v.n2, v1.h2⟩)⟩, by rw [List.length_map]; have := ok.rl; omega, ?_⟩, fun y2 H2 k2 s2 r2 => ?_⟩
  · have : Paired (fun (q : Addr) (r : Str × Str) => SeqR (Flat0 K) (wo (fun z => z = a) H1) (.ref q) (prV r)) qs rs := paired_imp (fun qq r e => ⟨prV r, ⟨qq, rfl, .inr (wo_some.mpr ⟨s1.tup e, e⟩)⟩, by show 2 ≤ 60; decide, .cons (flat_str _) (.cons (flat_str _) .nil)⟩) v1.pr
    have h2 : ∀ {as : List Addr} {bs : List (Str × Str)}, Paired (fun (q : Addr) (r : Str × Str) => SeqR (Flat0 K) (wo (fun z => z = a) H1) (.ref q) (prV r)) as bs → Paired (SeqR (Flat0 K) (wo (fun z => z = a) H1)) (as.map V.ref) (bs.map prV) := by
      intro as bs h
      induction h with
      | nil => exact .nil
      | cons f1 f2 ih => exact .cons f1 ih
    exact h2 this
  have v2 := v1.kept s1 k2
  refine ⟨_, rfl, _, rfl, t, _, _, _, rfl, rfl, SqT.of v2.t0, i2, a, _, ns.map V.int, _, fun z => z = a, rfl, s2, by omega, rfl, zz s2, ⟨ns.map V.int, ⟨p3, rfl, .inl (wo_some.mpr ⟨v.n3, v2.h3⟩)⟩, by rw [List.length_map, ok.nl]; exact pl, paired_same fun x hx => ?_⟩, fun y3 H3 k3 s3 r3 => ?_⟩
  · obtain ⟨s, _, rfl⟩ := List.mem_map.mp hx
    exact flat_int s
  have w1 : Same (wo (fun z => z = a) H1) H3 := Same.trans (wo_same fun b o nb e => k2 b o nb e) (Same.trans (wo_same fun b o nb e => k3 b o nb e) wo_out)
  have w2 : Same (wo (fun z => z = a) H2) H3 := Same.trans (wo_same fun b o nb e => k3 b o nb e) wo_out
  obtain ⟨vs1, sv1, _, q1⟩ := r1
  obtain ⟨vs2, sv2, _, q2⟩ := r2
  obtain ⟨vs3, sv3, _, q3⟩ := r3
  rw [flat_eq q1] at sv1
  rw [flat_eq q3] at sv3
  intro x dx nx ndx nex
  refine made_of ok s3 (k1.trans (k2.trans k3)) hs.kept nx ndx (sv1.ext w1) ⟨vs2, sv2.ext w2, ?_⟩ (sv3.ext wo_out) fun l1 l2 l3 qs' H' kk ss' vv f1 f2 f3 f4 sm => ⟨rfl, ?_⟩
  · refine paired_imp (fun x r h => ?_) (paired_map q2)
    obtain ⟨us, su, _, qu⟩ := h
    rw [flat_eq qu] at su
    exact SeqV.ext su w2
  · exact q x l1 l2 l3 qs' H' kk (ss'.mono (by omega)) vv (s3.ne f1) (s3.ne f2) (s3.ne f3)
end
end K1
end
-- KLaw7
section
set_option Elab.async false
set_option linter.all false
set_option maxRecDepth 100000
set_option maxHeartbeats 4000000
namespace K1
open PySem PySem.Spec PyProof.Rows L2
abbrev sSm : Stmt := top 31
abbrev RelE := Hp → V → V → Prop
def MonE (R : RelE) : Prop := ∀ H H' x y, Same H H' → R H x y → R H' x y
def FlatE : RelE := fun _ x y => x = y ∧ ((∃ i, x = .int i) ∨ (∃ b, x = .bl b) ∨ ∃ s, x = .str s)
def SeqE (R : RelE) : RelE := fun H x y => ∃ p q xs ys, x = .ref p ∧ y = .ref q ∧ ((H p = some (.lst xs) ∧ H q = some (.lst ys)) ∨ (H p = some (.tup xs) ∧ H q = some (.tup ys))) ∧ xs.length ≤ 100 ∧ Paired (R H) xs ys
def NextE (R : RelE) : RelE := fun H x y => FlatE H x y ∨ SeqE R H x y
theorem SeqE.mon {R : RelE} (m : MonE R) : MonE (SeqE R) := fun H H' x y e ⟨p, q, xs, ys, a, b, c, d, f⟩ => ⟨p, q, xs, ys, a, b, c.imp (fun c => ⟨e _ _ c.1, e _ _ c.2⟩) (fun c => ⟨e _ _ c.1, e _ _ c.2⟩), d, paired_imp (fun _ _ r => m _ _ _ _ e r) f⟩
theorem NextE.mon {R : RelE} (m : MonE R) : MonE (NextE R) := fun H H' x y e h => h.imp id (SeqE.mon m H H' x y e)
def spSm (R : RelE) : Sp := fun vs H Q _ => ∃ x y, vs = [x, y] ∧ R H x y ∧ ∀ H', Same H H' → Q (.bl true) H'
theorem scSm : FnScope ["found", "due", "one", "other"] ["found", "due"] (defScope sSm) := ⟨rfl, rfl, rfl, by decide +kernel, rfl, by decide +kernel, by decide +kernel⟩
theorem walk_zipT {K : PySem.W.Frag} {a b : Addr} {xs ys : List V} {n : Nat} (hn : n = min xs.length ys.length) : Walk (RZ.ItzT K a b) n (fun H => SqT K H a xs ∧ SqT K H b ys) (YPair (fun i => xs[i]?) (fun i => ys[i]?)) := by
  subst hn
  refine ⟨fun i _ hi q => ?_, fun _ q => ⟨xs, ys, q.1, q.2, by omega⟩, fun i H v H' _ q y => ?_⟩
  · have z1 : i < xs.length := by omega
    have z2 : i < ys.length := by omega
    exact ⟨xs, ys, xs[i], ys[i], q.1, q.2, by simp [z1], by simp [z2]⟩
  · obtain ⟨T, x, z, e1, e2, e3, e4, e5⟩ := y
    exact ⟨T, x, z, e1, e2, e3, e4 xs q.1, e5 ys q.2⟩
theorem kit_dlt {K : PySem.W.Frag} {t : String} (h : t = "int" ∨ t = "bool" ∨ t = "str") : PySem.W.kitAny K (.type t) [.type "dict", .type "list", .type "tuple"] = some false := by
  unfold PySem.W.kitAny
  rcases h with rfl | rfl | rfl
  · rw [kit_dict (t := "int") (by decide)]; exact kit_seq (t := "int") (by decide)
  · rw [kit_dict (t := "bool") (by decide)]; exact kit_seq (t := "bool") (by decide)
  · rw [kit_dict (t := "str") (by decide)]; exact kit_seq (t := "str") (by decide)
section
variable {P : Program} {w : World} {K : PySem.W.Frag} {mg : Str → Option Value} {base : Heap}
theorem ok_sm_none {f : Addr} {fd : FuncData} : FnOk P w K mg base CX0 0 f fd ["found", "due"] (spSm fun _ _ _ => False) := by
  have no : ∀ vs H Q E, ¬ spSm (fun _ _ _ => False) vs H Q E := fun vs H Q E h => by
    obtain ⟨x, y, _, h, _⟩ := h
    exact h
  exact ⟨fun vs H Q E h => absurd h (no vs H Q E), fun A outer s H args us vs Q E _ _ _ _ h => absurd h (no vs H Q E)⟩
theorem ok_sm {R : RelE} {k : Nat} {f : Addr} {fd : FuncData} (mon : MonE R) (F : Fun K "_law_same" "_law_same" sSm f fd) (B : Bl mg) (mz : mg "zip" = none) (mF : mg "_law_same" = some (.ref f)) (b : Binds K fd ["found", "due"] [])
    (G : FnOk P w K mg base CX0 k f fd ["found", "due"] (spSm R)) : FnOk P w K mg base CX0 (k + 1) f fd ["found", "due"] (spSm (NextE R)) := by
  refine F.ok scSm (fun vs H Q E h => ?_) (fun cdv A outer s H vs Q E hr h => ?_)
  · obtain ⟨x, y, rfl, _⟩ := h
    rfl
  obtain ⟨x, y, rfl, h, q⟩ := h
  have nd := scSm.nd
  refine ⟨_, (pss_cons (by exact (ps_if (pt_val (pe_callB call_isi rfl B.isi PyProof.Rows.boot_isinstance (pa_cons (pv 1) (pa_cons (pe_bltn (v := .ty "dict") rfl B.dict PyProof.Rows.boot_dict rfl) pa_nil)))) (pss_one (by exact (ps_never))) pss_nil)) (pss_cons (by exact (ps_if (pt_val (pe_callB call_isiT rfl B.isi PyProof.Rows.boot_isinstance (pa_cons (pv 1) (pa_cons (pe_tup (pa_cons (pe_bltn (v := .ty "list") rfl B.list PyProof.Rows.boot_list rfl) (pa_cons (pe_bltn (v := .ty "tuple") rfl B.tuple PyProof.Rows.boot_tuple rfl) pa_nil))) pa_nil)))) (pss_cons (by exact (ps_if (PW.pt (pw_or (pt_cmpR op_ne (pe_callB call_isi rfl B.isi PyProof.Rows.boot_isinstance (pa_cons (pv 0) (pa_cons (pe_bltn (v := .ty "tuple") rfl B.tuple PyProof.Rows.boot_tuple rfl) pa_nil))) (pe_callB call_isi rfl B.isi PyProof.Rows.boot_isinstance (pa_cons (pv 1) (pa_cons (pe_bltn (v := .ty "tuple") rfl B.tuple PyProof.Rows.boot_tuple rfl) pa_nil))) (nomark _)) (pw_or1 (pt_cmpR op_ne (pe_callB call_isi rfl B.isi PyProof.Rows.boot_isinstance (pa_cons (pv 0) (pa_cons (pe_bltn (v := .ty "list") rfl B.list PyProof.Rows.boot_list rfl) pa_nil))) (pe_callB call_isi rfl B.isi PyProof.Rows.boot_isinstance (pa_cons (pv 1) (pa_cons (pe_bltn (v := .ty "list") rfl B.list PyProof.Rows.boot_list rfl) pa_nil))) (nomark _))))) (pss_one (by exact (ps_ret pe_bl))) pss_nil)) (pss_one (by exact (ps_ret (pe_and (pe_cmpR op_eq (pe_callB call_len_seq rfl B.len PySem.boot_len (pa_cons (pv 0) pa_nil)) (pe_callB call_len_seq rfl B.len PySem.boot_len (pa_cons (pv 1) pa_nil)) (nomark _)) (pe_one (pe_callB (cr_all rfl) rfl B.all PyProof.Rows.boot_all (pa_cons (pe_lc (own := [("one", 2), ("other", 3)]) (g := gTup K 2 (gCons (gName 2) (gCons (gName 3) gNil))) (tt := tYes) (te := tCall (spSm R) [] E0 (tCons (tVar 2) (tCons (tVar 3) tNil))) rfl nd (by exact RZ.pi_zipA rfl mz (pa_cons (pv 0) (pa_cons (pv 1) pa_nil))) (by exact blkOk_by (N := ["found", "due", "one", "other"]) (sc := defScope sSm) (by decide +kernel)) (fun _ _ _ _ _ => by exact (pg_tup rfl (pgs_cons (pg_name (i := 2) nd rfl (.inl rfl)) (pgs_cons (pg_name (i := 3) nd rfl (.inl rfl)) pgs_nil)))) (fun _ _ _ _ _ => by exact pts_nil) (fun _ _ _ _ _ => by exact (pe_call G hr rfl mF F.kp b .nil pass0 (pa_cons (pv 2) (pa_cons (pv 3) pa_nil))))) pa_nil)))))))) pss_nil)) (pss_cons (by exact (ps_if (PW.pt (pw_or (pt_val (pe_callB call_isiT rfl B.isi PyProof.Rows.boot_isinstance (pa_cons (pv 0) (pa_cons (pe_tup (pa_cons (pe_bltn (v := .ty "dict") rfl B.dict PyProof.Rows.boot_dict rfl) (pa_cons (pe_bltn (v := .ty "list") rfl B.list PyProof.Rows.boot_list rfl) (pa_cons (pe_bltn (v := .ty "tuple") rfl B.tuple PyProof.Rows.boot_tuple rfl) pa_nil)))) pa_nil)))) (pw_or1 (pt_cmpR op_ne (pe_callB call_isi rfl B.isi PyProof.Rows.boot_isinstance (pa_cons (pv 0) (pa_cons (pe_bltn (v := .ty "bool") rfl B.bool PyProof.Rows.boot_bool rfl) pa_nil))) (pe_callB call_isi rfl B.isi PyProof.Rows.boot_isinstance (pa_cons (pv 1) (pa_cons (pe_bltn (v := .ty "bool") rfl B.bool PyProof.Rows.boot_bool rfl) pa_nil))) (nomark _))))) (pss_one (by exact (ps_ret pe_bl))) pss_nil)) (pss_one (by exact (ps_ret (pe_cmpR op_eq (pv 0) (pv 1) (nomark _)))))))), ?_⟩
  rcases h with ⟨rfl, fl⟩ | ⟨p, r, xs, ys, rfl, rfl, kinds2, hl, pr⟩
  · obtain ⟨t, ty, tk⟩ : ∃ t, TyOf K H x (.type t) ∧ (t = "int" ∨ t = "bool" ∨ t = "str") := by
      rcases fl with ⟨i, rfl⟩ | ⟨i, rfl⟩ | ⟨i, rfl⟩
      · exact ⟨"int", .int i, .inl rfl⟩
      · exact ⟨"bool", .bl i, .inr (.inl rfl)⟩
      · exact ⟨"str", .str i, .inr (.inr rfl)⟩
    have kt : t ∈ kinds := by rcases tk with rfl | rfl | rfl <;> decide
    have nD : decide (t = "dict") = false := by rcases tk with rfl | rfl | rfl <;> decide
    have nS : isSeqT t = false := by rcases tk with rfl | rfl | rfl <;> decide
    have tx : ∀ {Hx}, TyX K Hx x (.type t) := fun {Hx} => by
      rcases fl with ⟨i, rfl⟩ | ⟨i, rfl⟩ | ⟨i, rfl⟩ <;> cases ty
      · exact .base (.int i)
      · exact .base (.bl i)
      · exact .base (.str i)
    refine ⟨_, rfl, x, _, _, _, _, rfl, .ty "dict", tx, kit_dict kt, _, rfl, ?_⟩
    rw [nD]
    refine iteF ?_
    refine ⟨_, rfl, (by show 2 ≤ sizeLine; decide), fun u1 hu1 => ?_⟩
    refine ⟨x, u1, _, _, _, _, rfl, upd_same, .cons (.ty "list") (.cons (.ty "tuple") .nil), tx, kit_seq kt, _, rfl, ?_⟩
    rw [nS]
    refine iteF ?_
    have e1 := K1.Same.upd (H := H) (p := u1) (o := .tup [.ty "list", .ty "tuple"]) hu1
    refine ⟨_, rfl, (by show 3 ≤ sizeLine; decide), fun u2 hu2 => ?_⟩
    refine ⟨x, u2, _, _, _, _, rfl, upd_same, .cons (.ty "dict") (.cons (.ty "list") (.cons (.ty "tuple") .nil)), tx, kit_dlt tk, _, rfl, ?_⟩
    refine iteF ?_
    have e2 := e1.trans (K1.Same.upd (o := .tup [.ty "dict", .ty "list", .ty "tuple"]) hu2)
    refine ⟨_, rfl, x, _, _, _, _, rfl, .ty "bool", tx, kit_bool kt, _, rfl, x, _, _, _, _, rfl, .ty "bool", tx, kit_bool kt, rfl, _, rfl, ?_⟩
    rw [decide_eq_true rfl]
    refine iteF ?_
    have fin : Q (.bl true) _ := q _ e2
    rcases fl with ⟨i, rfl⟩ | ⟨i, rfl⟩ | ⟨i, rfl⟩
    · refine ⟨_, rfl, _, rfl, rfl, ?_⟩
      rw [decide_eq_true rfl]
      exact fin
    · refine ⟨_, rfl, _, rfl, rfl, ?_⟩
      rw [decide_eq_true rfl]
      exact fin
    · refine ⟨_, rfl, _, rfl, rfl, ?_⟩
      rw [decide_eq_true rfl]
      exact fin
  · obtain ⟨t, kt, nD, nS, tx, ty⟩ : ∃ t, t ∈ kinds ∧ decide (t = "dict") = false ∧ isSeqT t = true ∧ (∀ Hx, Same H Hx → TyX K Hx (.ref p) (.type t)) ∧ (∀ Hx, Same H Hx → TyX K Hx (.ref r) (.type t)) := by
      rcases kinds2 with ⟨h1, h2⟩ | ⟨h1, h2⟩
      · exact ⟨"list", by decide, by decide, by decide, fun Hx e => .base (.lst (e _ _ h1)), fun Hx e => .base (.lst (e _ _ h2))⟩
      · exact ⟨"tuple", by decide, by decide, by decide, fun Hx e => .base (.tup (e _ _ h1)), fun Hx e => .base (.tup (e _ _ h2))⟩
    refine ⟨_, rfl, _, _, _, _, _, rfl, .ty "dict", ty _ (Same.refl _), kit_dict kt, _, rfl, ?_⟩
    rw [nD]
    refine iteF ?_
    refine ⟨_, rfl, (by show 2 ≤ sizeLine; decide), fun u1 hu1 => ?_⟩
    have e1 := K1.Same.upd (H := H) (p := u1) (o := .tup [.ty "list", .ty "tuple"]) hu1
    refine ⟨_, u1, _, _, _, _, rfl, upd_same, .cons (.ty "list") (.cons (.ty "tuple") .nil), ty _ e1, kit_seq kt, _, rfl, ?_⟩
    rw [nS]
    refine iteT ?_
    generalize L2.upd H u1 (.tup [.ty "list", .ty "tuple"]) = H1 at e1 ⊢
    refine ⟨_, rfl, _, _, _, _, _, rfl, .ty "tuple", tx _ e1, kit_tuple kt, _, rfl, _, _, _, _, _, rfl, .ty "tuple", ty _ e1, kit_tuple kt, rfl, _, rfl, ?_⟩
    rw [decide_eq_true rfl]
    refine iteF ?_
    refine ⟨_, rfl, _, _, _, _, _, rfl, .ty "list", tx _ e1, kit_list kt, _, rfl, _, _, _, _, _, rfl, .ty "list", ty _ e1, kit_list kt, rfl, _, rfl, ?_⟩
    rw [decide_eq_true rfl]
    refine iteF ?_
    have ll := pr.length
    have sp : SqA K H1 p xs := kinds2.imp (fun h => SqL.of (e1 _ _ h.1)) (fun h => SqT.of (e1 _ _ h.1))
    have sr : SqA K H1 r ys := kinds2.imp (fun h => SqL.of (e1 _ _ h.2)) (fun h => SqT.of (e1 _ _ h.2))
    refine ⟨_, rfl, p, xs, rfl, sp, _, rfl, r, ys, rfl, sr, rfl, _, rfl, ?_⟩
    rw [ll, decide_eq_true rfl]
    refine iteT ?_
    have pr1 : Paired (R H1) xs ys := paired_imp (fun _ _ z => mon _ _ _ _ e1 z) pr
    -- the walk over both
    have main : ∀ (J : It) (G0 : Hp → Prop), Walk J xs.length G0 (YPair (fun i => xs[i]?) (fun i => ys[i]?)) → (∀ Hx, Same H1 Hx → G0 Hx) → ∀ (D : Addr), H1 D = none → ∃ W : Nat → Nat → Hp → Prop, (∃ m, W 0 m (L2.upd H1 D (.lst []))) ∧ ∀ i m Hc, W i m Hc →
        (J.stop i Hc ∧ ∃ (a : Addr) (bs : List Bool), [V.ref D] = [V.ref a] ∧ SqL K Hc a (bs.map V.bl) ∧ Q (.bl (bs.all id)) Hc) ∨ (J.go i Hc ∧ ∃ Nx : Hp → Prop, (∀ H', Nx H' → ∃ m', m' < m ∧ W (i + 1) m' H') ∧ ∀ v H', J.yld i Hc v H' →
          gTup K 2 (gCons (gName 2) (gCons (gName 3) gNil)) v (wipe (L2.start ["found", "due", "one", "other"] [.ref p, .ref r]) [2, 3]) H' fun σ2 H2 => wipe σ2 [2, 3] = wipe (L2.start ["found", "due", "one", "other"] [.ref p, .ref r]) [2, 3] ∧ tYes σ2 H2 fun b H3 =>
            if b = true then tCall (spSm R) [] E0 (tCons (tVar 2) (tCons (tVar 3) tNil)) σ2 H3 fun y H4 => ∃ acc, H4 D = some (.lst acc) ∧ acc.length < sizeLine ∧ Nx (L2.upd H4 D (.lst (acc ++ [y]))) else Nx H3) := by
      intro J G0 wk hG D hD
      refine lc_it (Qd := fun Hc => ∃ (a : Addr) (bs : List Bool), [V.ref D] = [V.ref a] ∧ SqL K Hc a (bs.map V.bl) ∧ Q (.bl (bs.all id)) Hc) wk (fun i Hc => Same H1 Hc ∧ Hc D = some (.lst ((List.replicate i true).map V.bl))) ⟨K1.Same.upd hD, upd_same⟩ (fun i Hc _ h => hG Hc h.1) ?_ ?_
      · rintro i v Hc H' hi ⟨c1, c2⟩ ⟨T, x1, x2, rfl, hT, rfl, ex1, ex2⟩
        have ex1 : xs[i]? = some x1 := ex1
        have ex2 : ys[i]? = some x2 := ex2
        have hT2 := K1.Same.upd (H := Hc) (p := T) (o := .tup [x1, x2]) hT
        refine ⟨T, _, rfl, SqT.of upd_same, rfl, _, _, rfl, _, _, rfl, rfl, rfl, ?_⟩
        unfold tYes
        refine iteT ?_
        have hi2 : i < ys.length := by omega
        obtain ⟨x1', e3, r3⟩ := paired_get pr1 hi2
        have z1 : x1' = x1 := Option.some.inj (e3.symm.trans ex1)
        have z2 : ys[i] = x2 := Option.some.inj ((List.getElem?_eq_getElem hi2).symm.trans ex2)
        rw [z1, z2] at r3
        refine ⟨_, rfl, _, rfl, x1, x2, rfl, mon _ _ _ _ (c1.trans hT2) r3, fun H6 e6 => ?_⟩
        refine ⟨_, e6 _ _ (hT2 _ _ c2), by rw [List.length_map, List.length_replicate]; exact small1000 (by omega), fun c o n => ?_, ?_⟩
        · rw [upd_ne (ne_of_none n hD)]
          exact e6 _ _ (hT2 _ _ (c1 _ _ n))
        · rw [upd_same, List.replicate_succ', List.map_append]
          rfl
      · rintro Hc ⟨c1, c2⟩
        refine ⟨D, _, rfl, SqL.of c2, ?_⟩
        have : ((List.replicate xs.length true).all id) = true := by
          rw [List.all_replicate]
          split <;> rfl
        rw [this]
        exact q Hc (e1.trans c1)
    refine ⟨_, rfl, _, rfl, p, r, xs, ys, rfl, ?_⟩
    rcases kinds2 with ⟨h1, h2⟩ | ⟨h1, h2⟩
    · exact .inl ⟨SqL.of (e1 _ _ h1), SqL.of (e1 _ _ h2), fun D hD => main _ _ (walk_zip (by omega)) (fun Hx e => ⟨SqL.of (e _ _ (e1 _ _ h1)), SqL.of (e _ _ (e1 _ _ h2))⟩) D hD⟩
    · exact .inr ⟨SqT.of (e1 _ _ h1), SqT.of (e1 _ _ h2), fun D hD => main _ _ (walk_zipT (by omega)) (fun Hx e => ⟨SqT.of (e _ _ (e1 _ _ h1)), SqT.of (e _ _ (e1 _ _ h2))⟩) D hD⟩
end
end K1
end
-- NTwo
section
set_option Elab.async false
set_option linter.all false
set_option maxRecDepth 100000
set_option maxHeartbeats 4000000
namespace K1
open PySem PySem.Spec PyProof.Rows L2
abbrev sTwo : Stmt := top 42
/-- a def, by its name -/
def Fz (P : Program) (w : World) (K : PySem.W.Frag) (mg : Str → Option Value) (base : Heap) (CX : CXT) (k : Nat) (x : Str) (ps : List Str) (sp : Sp) : Prop := ∃ f fd, FnOk P w K mg base CX k f fd ps sp ∧ Binds K fd ps [] ∧ PySem.W.keepIn K (.ref f) = true ∧ mg x = some (.ref f)
def kw1R : List Value → List Value → List Value := fun us ws => [us.getD 0 .none, ws.getD 0 .none]
def kw1V : List V → List V → List V := fun vs zs => [vs.getD 0 .non, zs.getD 0 .non]
def kw2R : List Value → List Value → List Value := fun us ws => [us.getD 0 .none, ws.getD 1 .none, ws.getD 0 .none]
def kw2V : List V → List V → List V := fun vs zs => [vs.getD 0 .non, zs.getD 1 .non, zs.getD 0 .non]
theorem vals_at {vs : List V} {us : List Value} (h : Vals vs us) : ∀ i, RelV (vs.getD i .non) (us.getD i .none) := by
  induction h with
  | nil => intro i; exact rfl
  | cons a r ih =>
    intro i
    cases i with
    | zero => exact a
    | succ i => exact ih i
/-- a method of a Valley, called by places and by names -/
def Mz (P : Program) (w : World) (K : PySem.W.Frag) (mg : Str → Option Value) (base : Heap) (C : Addr) (k : Nat) (x : Str) (ps ks : List Str) (gR : List Value → List Value → List Value) (gV : List V → List V → List V) (sp : Sp) : Prop :=
  ∃ f fd, FnOk P w K mg base (L2.CX P w) k f fd ps sp ∧ Binds K fd ps [] ∧ KBn K fd ps 1 ks gR gV ∧ Meth K C x f
theorem kb_Be {K : PySem.W.Frag} {f : Addr} {fd : FuncData} (F : Fun K "beside" "Valley.beside" sBe f fd) : KBn K fd ["self", "house"] 1 ["house"] kw1R kw1V := by
  obtain ⟨oc, od, kV, doc, pm, an, cdv, ct, osl, rfl, lk, hcd⟩ := F.ex
  refine ⟨fun s us ws X l1 l2 => ?_, fun r1 r2 => ?_⟩
  · match us, ws, l1, l2 with
    | [u], [a], _, _ => exact BindsTo.of_looks fun M => .of_pure rfl
  · exact .cons (vals_at r1 0) (.cons (vals_at r2 0) .nil)
theorem kb_Wa {K : PySem.W.Frag} {f : Addr} {fd : FuncData} (F : Fun K "way" "Valley.way" sWa f fd) : KBn K fd ["self", "one", "other"] 1 ["other", "one"] kw2R kw2V := by
  obtain ⟨oc, od, kV, doc, pm, an, cdv, ct, osl, rfl, lk, hcd⟩ := F.ex
  refine ⟨fun s us ws X l1 l2 => ?_, fun r1 r2 => ?_⟩
  · match us, ws, l1, l2 with
    | [u], [a, b], _, _ => exact BindsTo.of_looks fun M => .of_pure rfl
  · exact .cons (vals_at r1 0) (.cons (vals_at r2 1) (.cons (vals_at r2 0) .nil))
theorem kb_Si {K : PySem.W.Frag} {f : Addr} {fd : FuncData} (F : Fun K "side" "Valley.side" sSi f fd) : KBn K fd ["self", "one", "other"] 1 ["other", "one"] kw2R kw2V := by
  obtain ⟨oc, od, kV, doc, pm, an, cdv, ct, osl, rfl, lk, hcd⟩ := F.ex
  refine ⟨fun s us ws X l1 l2 => ?_, fun r1 r2 => ?_⟩
  · match us, ws, l1, l2 with
    | [u], [a, b], _, _ => exact BindsTo.of_looks fun M => .of_pure rfl
  · exact .cons (vals_at r1 0) (.cons (vals_at r2 1) (.cons (vals_at r2 0) .nil))
theorem scTwo : FnScope ["made", "valley", "one", "other", "near", "row", "turn", "told", "part", "found", "mine", "theirs"] ["made", "valley", "one", "other"] (defScope sTwo) := ⟨rfl, rfl, rfl, by decide +kernel, rfl, by decide +kernel, by decide +kernel⟩
def qTwo : Str := "_law_two_right.<locals>." ++ "<lambda>"
section
variable {P : Program} {w : World} {K : PySem.W.Frag} {mg : Str → Option Value} {base : Heap} {C CN CO : Addr} {R : RelE}
/-- the body has a reading -/
theorem has_two {f c TP fm : Addr} {fdm : FuncData} {A : Around} {outer : List Env} {s : Shared} {H : Hp} {E : XK} (T : Cls K C) (mr : mg "range" = none) (ms : mg "sorted" = none)
    (MG : MetG K mg CN CO) (Fm : Fun K "_law_met" "_law_met" sMt fm fdm) (bm : Binds K fdm ["ask"] []) (mm : mg "_law_met" = some (.ref fm)) (TB : LamX.TabB base mg c TP)
    (hS : Fz P w K mg base CX0 4 "_law_same" ["found", "due"] (spSm R)) (hV : Fz P w K mg base CX0 1 "_law_v_near" ["valley", "house"] spVn) (hW : Fz P w K mg base CX0 2 "_law_way" ["valley", "one", "other"] spLw) (hD : Fz P w K mg base CX0 2 "_law_side" ["valley", "one", "other"] spLs)
    (hBe : Mz P w K mg base C 4 "beside" ["self", "house"] ["house"] kw1R kw1V (spBe K C CN)) (hWa : Mz P w K mg base C 4 "way" ["self", "one", "other"] ["other", "one"] kw2R kw2V (spWa K C CN)) (hSi : Mz P w K mg base C 5 "side" ["self", "one", "other"] ["other", "one"] kw2R kw2V (spSi K C CN CO))
    (hr8 : Room 8 (cxOf CX0 P w K mg base ["made", "valley", "one", "other", "near", "row", "turn", "told", "part", "found", "mine", "theirs"] "_law_two_right" (defScope sTwo) f (.ref c) A outer s H E).nox.A) :
    ∃ t0, PSs (cxOf CX0 P w K mg base ["made", "valley", "one", "other", "near", "row", "turn", "told", "part", "found", "mine", "theirs"] "_law_two_right" (defScope sTwo) f (.ref c) A outer s H E).nox (defBody sTwo) t0 := by
  obtain ⟨fS, fdS, GS, bS, kS, mS⟩ := hS
  obtain ⟨fV, fdV, GV, bV, kV, mV⟩ := hV
  obtain ⟨fW, fdW, GW, bW, kW, mW⟩ := hW
  obtain ⟨fD, fdD, GD, bD, kD, mD⟩ := hD
  obtain ⟨fB, fdB, GB, bB, nB, hB⟩ := hBe
  obtain ⟨fA, fdA, GA, bA, nA, hA⟩ := hWa
  obtain ⟨fI, fdI, GI, bI, nI, hI⟩ := hSi
  obtain ⟨ocm, odm, kVm, docm, pmm, anm, cdvm, ctm, oslm, rfl, lkm, hcm⟩ := Fm.ex
  have km := Fm.kp
  have hT : (TP, qTwo) ∈ [(TP, qTwo)] := List.mem_singleton.mpr rfl
  have hU : ∀ p ∈ [(TP, qTwo)], p.1 = TP → p.2 = qTwo := fun p hp _ => by rw [List.mem_singleton.mp hp]
  have nd := scTwo.nd
  have hu := hr8.units
  have hr1 : Room 1 _ := hr8.mono (by decide)
  have hr2 : Room 2 _ := hr8.mono (by decide)
  have hr4 : Room 4 _ := hr8.mono (by decide)
  have hr5 : Room 5 _ := hr8.mono (by decide)
  refine ⟨_, (pss_cons (by exact (ps_par (i := 4) (j := 5) rfl nd rfl rfl (by decide) rfl rfl (pa_cons (pe_call GV hr1 rfl mV kV bV .nil pass0 (pa_cons (pv 1) (pa_cons (pv 2) pa_nil))) (pa_cons (pe_call GW hr2 rfl mW kW bW .nil pass0 (pa_cons (pv 1) (pa_cons (pv 2) (pa_cons (pv 3) pa_nil)))) pa_nil)) (by rfl)))
  (pss_cons (by exact (ps_for PassesOwn.never rfl (by exact pi_range1 rfl mr (pa_cons pe_int pa_nil)) (pg_name (i := 6) nd rfl (.inl rfl)) (pss_cons (by exact (ps_set (i := 7) nd rfl (.inl rfl) (pe_lst (pa_cons (pe_meth (pv 0) T hB GB hr4 bB .nil passL (pa_cons (pv 2) pa_nil)) (pa_cons (pe_meth (pv 0) T hA GA hr4 bA .nil passL (pa_cons (pv 2) (pa_cons (pv 3) pa_nil))) pa_nil)))))
  (pss_cons (by exact (ps_if (pt_not (pt_val (pe_call GS hr4 rfl mS kS bS .nil pass0 (pa_cons (pv 7) (pa_cons (pe_lst (pa_cons (pv 4) (pa_cons (pv 5) pa_nil))) pa_nil))))) (pss_one (by exact (ps_ret pe_bl))) pss_nil))
  (pss_one (by exact (ps_for PassesOwn.never rfl (by exact pi_list (pv 7)) (pg_name (i := 8) nd rfl (.inl rfl)) (pss_one (by exact (ps_expr (pe_bm PySem.F.plainAttrs_list PySem.F.slot_list_append PySem.F.type_list_append mt_append (pv 8) (pa_cons pe_str pa_nil))))))))))))
  (pss_cons (by exact (ps_if (pt_not (pt_val (pe_call GS hr4 rfl mS kS bS .nil pass0 (pa_cons (pe_lst (pa_cons (pe_methK0 (pv 0) T hB GB hr4 nB passL (pk_cons (pv 2) pk_nil)) (pa_cons (pe_methK0 (pv 0) T hA GA hr4 nA passL (pk_cons (pv 3) (pk_cons (pv 2) pk_nil))) pa_nil))) (pa_cons (pe_lst (pa_cons (pv 4) (pa_cons (pv 5) pa_nil))) pa_nil))))) (pss_one (by exact (ps_ret pe_bl))) pss_nil))
  (pss_cons (by exact (ps_if (pt_cmpR op_notIn_seq (pv 3) (pv 4) (by with_unfolding_all rfl)) (pss_cons (by exact (ps_set (i := 9) nd rfl (.inl rfl) (pe_lst (pa_cons (LamX.pe_lamcall (k := 6) (t := fun E => tMeth C "side" (spSi K C CN CO) [] E (tVar 0) (tCons (tVar 2) (tCons (tVar 3) tNil))) rfl mm km lkm hcm bm scMt rfl (.inl rfl) (mt_gives MG) TB rfl hT hU (by exact hr8) (LamX.lamS_by (by with_unfolding_all rfl)) rfl (fun _ _ _ _ _ => rfl) (fun A outer s H E f c' hz => by exact (pe_meth (pv 0) T hI GI (hz.mono (by decide)) bI .nil (passes_call (takes_of rfl rfl rfl rfl) (fun _ _ _ _ h => h)) (pa_cons (pv 2) (pa_cons (pv 3) pa_nil))))) pa_nil))))
  (pss_cons (by exact (ps_expr (pe_bm PySem.F.plainAttrs_list PySem.F.slot_list_append PySem.F.type_list_append mt_append (pv 9) (pa_cons (LamX.pe_lamcall (k := 6) (t := fun E => tMethK C "side" (["other", "one"] : List Str).length (spSi K C CN CO) kw2V E (tVar 0) (tCons (tVar 2) (tCons (tVar 3) tNil))) rfl mm km lkm hcm bm scMt rfl (.inl rfl) (mt_gives MG) TB rfl hT hU (by exact hr8) (LamX.lamS_by (by with_unfolding_all rfl)) rfl (fun _ _ _ _ _ => rfl) (fun A outer s H E f c' hz => by exact (pe_methK0 (pv 0) T hI GI (hz.mono (by decide)) nI (passes_call (takes_of rfl rfl rfl rfl) (fun _ _ _ _ h => h)) (pk_cons (pv 2) (pk_cons (pv 3) pk_nil))))) pa_nil))))
  (pss_one (by exact (ps_ret (pe_call GS hr4 rfl mS kS bS .nil pass0 (pa_cons (pv 9) (pa_cons (pe_lst (pa_cons (pe_tup (pa_cons pe_str (pa_cons (pv 2) (pa_cons (pv 3) pa_nil)))) (pa_cons (pe_tup (pa_cons pe_str (pa_cons (pv 3) (pa_cons (pv 2) pa_nil)))) pa_nil))) pa_nil)))))))) pss_nil))
  (pss_cons (by exact (ps_par (i := 10) (j := 11) rfl nd rfl rfl (by decide) rfl rfl (pa_cons (pe_call GD hr2 rfl mD kD bD .nil pass0 (pa_cons (pv 1) (pa_cons (pv 3) (pa_cons (pv 2) pa_nil)))) (pa_cons (pe_call GD hr2 rfl mD kD bD .nil pass0 (pa_cons (pv 1) (pa_cons (pv 2) (pa_cons (pv 3) pa_nil)))) pa_nil)) (by rfl)))
  (pss_cons (by exact (ps_set (i := 7) nd rfl (.inl rfl) (pe_lst (pa_cons (pe_meth (pv 0) T hI GI hr5 bI .nil passL (pa_cons (pv 2) (pa_cons (pv 3) pa_nil))) (pa_cons (pe_methK0 (pv 0) T hI GI hr5 nI passL (pk_cons (pv 2) (pk_cons (pv 3) pk_nil))) pa_nil)))))
  (pss_cons (by exact (ps_if (PW.pt (pw_or (pt_not (pt_val (pe_call GS hr4 rfl mS kS bS .nil pass0 (pa_cons (pv 7) (pa_cons (pe_lst (pa_cons (pv 11) (pa_cons (pv 10) pa_nil))) pa_nil))))) (pw_or1 (pt_cmpR (op_neD hu) (pe_callB cr_sortedS rfl ms PyProof.Rows.boot_sorted (pa_cons (pe_op op_cat (pv 10) (pv 11)) pa_nil)) (pe_callB cr_sortedS rfl ms PyProof.Rows.boot_sorted (pa_cons (pe_ix ix_tup (pv 1) pe_int (fun _ _ => rfl)) pa_nil)) (nomark _))))) (pss_one (by exact (ps_ret pe_bl))) pss_nil))
  (pss_cons (by exact (ps_expr (pe_bm0 PySem.F.plainAttrs_list PySem.F.slot_list_clear PySem.F.type_list_clear mt_clear (pe_ix ix_list (pv 7) pe_int (fun _ _ => rfl)))))
  (pss_one (by exact (ps_ret (pe_call GS hr4 rfl mS kS bS .nil pass0 (pa_cons (pe_meth (pv 0) T hI GI hr5 bI .nil passL (pa_cons (pv 2) (pa_cons (pv 3) pa_nil))) (pa_cons (pv 11) pa_nil))))))))))))))⟩
end
end K1
end
-- NSort
section
set_option Elab.async false
set_option linter.all false
namespace K1
open PySem PySem.Spec PyProof.Rows L2
abbrev leS (a b : Str) : Prop := a.cps.toList ≤ b.cps.toList
theorem leS_trans {a b c : Str} (h1 : leS a b) (h2 : leS b c) : leS a c := List.le_trans h1 h2
theorem leS_anti {a b : Str} (h1 : leS a b) (h2 : leS b a) : a = b := by
  have h : a.cps.toList = b.cps.toList := List.le_antisymm h1 h2
  cases a
  cases b
  simp only at h
  rw [Array.toList_inj.mp h]
theorem leS_of {a b : Str} (h : (!ltCps b.cps.toList a.cps.toList) = true) : leS a b := by
  rw [ltCps_eq] at h
  show ¬ b.cps.toList < a.cps.toList
  intro z
  rw [decide_eq_true z] at h
  cases h
theorem rising_all : ∀ (p : Str) (l : List Str), risingS p l = true → (∀ x ∈ l, leS p x) ∧ l.Pairwise leS
  | _, [], _ => ⟨fun x h => absurd h (by simp), .nil⟩
  | p, x :: r, h => by
    unfold risingS at h
    obtain ⟨h1, h2⟩ := Bool.and_eq_true_iff.mp h
    obtain ⟨a, b⟩ := rising_all x r h2
    have px := leS_of h1
    refine ⟨fun y hy => ?_, .cons a b⟩
    rcases List.mem_cons.mp hy with rfl | hy
    · exact px
    · exact leS_trans px (a y hy)
theorem sortedS_pw {l : List Str} (h : sortedS l = true) : l.Pairwise leS := by
  cases l with
  | nil => exact .nil
  | cons x r =>
    obtain ⟨a, b⟩ := rising_all x r h
    exact .cons a b
theorem leS_refl (a : Str) : leS a a := List.le_refl _
theorem pw_uniq : ∀ {l m : List Str}, l.Perm m → l.Pairwise leS → m.Pairwise leS → l = m
  | [], m, p, _, _ => p.nil_eq
  | x :: l, [], p, _, _ => absurd p.length_eq (by simp)
  | x :: l, y :: m, p, h1, h2 => by
    rw [List.pairwise_cons] at h1 h2
    have e : x = y := by
      have hx : x ∈ y :: m := p.mem_iff.mp (List.mem_cons_self ..)
      have hy : y ∈ x :: l := p.mem_iff.mpr (List.mem_cons_self ..)
      rcases List.mem_cons.mp hx with e | hx
      · exact e
      rcases List.mem_cons.mp hy with e | hy
      · exact e.symm
      exact leS_anti (h1.1 y hy) (h2.1 x hx)
    subst e
    rw [pw_uniq (List.Perm.cons_inv p) h1.2 h2.2]
/-- what is sorted of the same things is the same -/
theorem sorted_uniq {l m : List Str} (p : l.Perm m) (h1 : sortedS l = true) (h2 : sortedS m = true) : l = m := pw_uniq p (sortedS_pw h1) (sortedS_pw h2)
end K1
end
-- NSame
section
set_option Elab.async false
set_option linter.all false
set_option maxRecDepth 100000
set_option maxHeartbeats 4000000
namespace K1
open PySem PySem.Spec PyProof.Rows L2
def FlatF : RelE := fun _ x y => x = y ∧ ((∃ i, x = .int i) ∨ (∃ b, x = .bl b) ∨ (∃ s, x = .str s) ∨ x = .non)
/-- two dicts that hold the same, whose items are the same by R -/
def DctE (R : RelE) : RelE := fun H x y => ∃ p q kvs, x = .ref p ∧ y = .ref q ∧ H p = some (.dK kvs) ∧ H q = some (.dK kvs) ∧
  ∀ H' a b as bs, Same H H' → H' a = some (.lst (as.map V.ref)) → H' b = some (.lst (bs.map V.ref)) → Paired (fun (t : Addr) (e : Key × V) => H' t = some (.tup [kV e.1, e.2])) as kvs → Paired (fun (t : Addr) (e : Key × V) => H' t = some (.tup [kV e.1, e.2])) bs kvs → R H' (.ref a) (.ref b)
def NextF (R : RelE) : RelE := fun H x y => FlatF H x y ∨ SeqE R H x y ∨ DctE R H x y
theorem NextF.mon {R : RelE} (m : MonE R) : MonE (NextF R) := fun H H' x y e h => h.imp id fun h => h.imp (SeqE.mon m H H' x y e) fun ⟨p, q, kvs, a, b, c, d, f⟩ => ⟨p, q, kvs, a, b, e _ _ c, e _ _ d, fun H2 a b as bs e2 => f H2 a b as bs (e.trans e2)⟩
theorem kit_dlf {K : PySem.W.Frag} {t : String} (h : t = "int" ∨ t = "bool" ∨ t = "str" ∨ t = "NoneType") : PySem.W.kitAny K (.type t) [.type "dict", .type "list", .type "tuple"] = some false := by
  unfold PySem.W.kitAny
  rcases h with rfl | rfl | rfl | rfl
  · rw [kit_dict (t := "int") (by decide)]; exact kit_seq (t := "int") (by decide)
  · rw [kit_dict (t := "bool") (by decide)]; exact kit_seq (t := "bool") (by decide)
  · rw [kit_dict (t := "str") (by decide)]; exact kit_seq (t := "str") (by decide)
  · rw [kit_dict (t := "NoneType") (by decide)]; exact kit_seq (t := "NoneType") (by decide)
section
variable {P : Program} {w : World} {K : PySem.W.Frag} {mg : Str → Option Value} {base : Heap}
theorem ok_smF {R : RelE} {k : Nat} {f : Addr} {fd : FuncData} (mon : MonE R) (F : Fun K "_law_same" "_law_same" sSm f fd) (B : Bl mg) (mz : mg "zip" = none) (mF : mg "_law_same" = some (.ref f)) (b : Binds K fd ["found", "due"] [])
    (G : FnOk P w K mg base CX0 k f fd ["found", "due"] (spSm R)) : FnOk P w K mg base CX0 (k + 1) f fd ["found", "due"] (spSm (NextF R)) := by
  refine F.ok scSm (fun vs H Q E h => ?_) (fun cdv A outer s H vs Q E hr h => ?_)
  · obtain ⟨x, y, rfl, _⟩ := h
    rfl
  obtain ⟨x, y, rfl, h, q⟩ := h
  have nd := scSm.nd
  refine ⟨_, (pss_cons (by exact (ps_if (pt_val (pe_callB call_isi rfl B.isi PyProof.Rows.boot_isinstance (pa_cons (pv 1) (pa_cons (pe_bltn (v := .ty "dict") rfl B.dict PyProof.Rows.boot_dict rfl) pa_nil)))) (pss_one (by exact (ps_ret (pe_and (pe_callB call_isi rfl B.isi PyProof.Rows.boot_isinstance (pa_cons (pv 0) (pa_cons (pe_bltn (v := .ty "dict") rfl B.dict PyProof.Rows.boot_dict rfl) pa_nil))) (pe_one (pe_call G hr rfl mF F.kp b .nil pass0 (pa_cons (LiI.pe_listItems rfl (pv 0) rfl B.list PyProof.Rows.boot_list) (pa_cons (LiI.pe_listItems rfl (pv 1) rfl B.list PyProof.Rows.boot_list) pa_nil)))))))) pss_nil)) (pss_cons (by exact (ps_if (pt_val (pe_callB call_isiT rfl B.isi PyProof.Rows.boot_isinstance (pa_cons (pv 1) (pa_cons (pe_tup (pa_cons (pe_bltn (v := .ty "list") rfl B.list PyProof.Rows.boot_list rfl) (pa_cons (pe_bltn (v := .ty "tuple") rfl B.tuple PyProof.Rows.boot_tuple rfl) pa_nil))) pa_nil)))) (pss_cons (by exact (ps_if (PW.pt (pw_or (pt_cmpR op_ne (pe_callB call_isi rfl B.isi PyProof.Rows.boot_isinstance (pa_cons (pv 0) (pa_cons (pe_bltn (v := .ty "tuple") rfl B.tuple PyProof.Rows.boot_tuple rfl) pa_nil))) (pe_callB call_isi rfl B.isi PyProof.Rows.boot_isinstance (pa_cons (pv 1) (pa_cons (pe_bltn (v := .ty "tuple") rfl B.tuple PyProof.Rows.boot_tuple rfl) pa_nil))) (nomark _)) (pw_or1 (pt_cmpR op_ne (pe_callB call_isi rfl B.isi PyProof.Rows.boot_isinstance (pa_cons (pv 0) (pa_cons (pe_bltn (v := .ty "list") rfl B.list PyProof.Rows.boot_list rfl) pa_nil))) (pe_callB call_isi rfl B.isi PyProof.Rows.boot_isinstance (pa_cons (pv 1) (pa_cons (pe_bltn (v := .ty "list") rfl B.list PyProof.Rows.boot_list rfl) pa_nil))) (nomark _))))) (pss_one (by exact (ps_ret pe_bl))) pss_nil)) (pss_one (by exact (ps_ret (pe_and (pe_cmpR op_eq (pe_callB call_len_seq rfl B.len PySem.boot_len (pa_cons (pv 0) pa_nil)) (pe_callB call_len_seq rfl B.len PySem.boot_len (pa_cons (pv 1) pa_nil)) (nomark _)) (pe_one (pe_callB (cr_all rfl) rfl B.all PyProof.Rows.boot_all (pa_cons (pe_lc (own := [("one", 2), ("other", 3)]) (g := gTup K 2 (gCons (gName 2) (gCons (gName 3) gNil))) (tt := tYes) (te := tCall (spSm R) [] E0 (tCons (tVar 2) (tCons (tVar 3) tNil))) rfl nd (by exact RZ.pi_zipA rfl mz (pa_cons (pv 0) (pa_cons (pv 1) pa_nil))) (by exact blkOk_by (N := ["found", "due", "one", "other"]) (sc := defScope sSm) (by decide +kernel)) (fun _ _ _ _ _ => by exact (pg_tup rfl (pgs_cons (pg_name (i := 2) nd rfl (.inl rfl)) (pgs_cons (pg_name (i := 3) nd rfl (.inl rfl)) pgs_nil)))) (fun _ _ _ _ _ => by exact pts_nil) (fun _ _ _ _ _ => by exact (pe_call G hr rfl mF F.kp b .nil pass0 (pa_cons (pv 2) (pa_cons (pv 3) pa_nil))))) pa_nil)))))))) pss_nil)) (pss_cons (by exact (ps_if (PW.pt (pw_or (pt_val (pe_callB call_isiT rfl B.isi PyProof.Rows.boot_isinstance (pa_cons (pv 0) (pa_cons (pe_tup (pa_cons (pe_bltn (v := .ty "dict") rfl B.dict PyProof.Rows.boot_dict rfl) (pa_cons (pe_bltn (v := .ty "list") rfl B.list PyProof.Rows.boot_list rfl) (pa_cons (pe_bltn (v := .ty "tuple") rfl B.tuple PyProof.Rows.boot_tuple rfl) pa_nil)))) pa_nil)))) (pw_or1 (pt_cmpR op_ne (pe_callB call_isi rfl B.isi PyProof.Rows.boot_isinstance (pa_cons (pv 0) (pa_cons (pe_bltn (v := .ty "bool") rfl B.bool PyProof.Rows.boot_bool rfl) pa_nil))) (pe_callB call_isi rfl B.isi PyProof.Rows.boot_isinstance (pa_cons (pv 1) (pa_cons (pe_bltn (v := .ty "bool") rfl B.bool PyProof.Rows.boot_bool rfl) pa_nil))) (nomark _))))) (pss_one (by exact (ps_ret pe_bl))) pss_nil)) (pss_one (by exact (ps_ret (pe_cmpR op_eq (pv 0) (pv 1) (nomark _)))))))), ?_⟩
  rcases h with ⟨rfl, fl⟩ | ⟨p, r, xs, ys, rfl, rfl, kinds2, hl, pr⟩ | ⟨p, r, kvs, rfl, rfl, dp, dr, hD⟩
  · obtain ⟨t, ty, tk⟩ : ∃ t, TyOf K H x (.type t) ∧ (t = "int" ∨ t = "bool" ∨ t = "str" ∨ t = "NoneType") := by
      rcases fl with ⟨i, rfl⟩ | ⟨i, rfl⟩ | ⟨i, rfl⟩ | rfl
      · exact ⟨"int", .int i, .inl rfl⟩
      · exact ⟨"bool", .bl i, .inr (.inl rfl)⟩
      · exact ⟨"str", .str i, .inr (.inr (.inl rfl))⟩
      · exact ⟨"NoneType", .non, .inr (.inr (.inr rfl))⟩
    have kt : t ∈ kinds := by rcases tk with rfl | rfl | rfl | rfl <;> decide
    have nD : decide (t = "dict") = false := by rcases tk with rfl | rfl | rfl | rfl <;> decide
    have nS : isSeqT t = false := by rcases tk with rfl | rfl | rfl | rfl <;> decide
    have tx : ∀ {Hx}, TyX K Hx x (.type t) := fun {Hx} => by
      rcases fl with ⟨i, rfl⟩ | ⟨i, rfl⟩ | ⟨i, rfl⟩ | rfl <;> cases ty
      · exact .base (.int i)
      · exact .base (.bl i)
      · exact .base (.str i)
      · exact .base .non
    refine ⟨_, rfl, x, _, _, _, _, rfl, .ty "dict", tx, kit_dict kt, _, rfl, ?_⟩
    rw [nD]
    refine iteF ?_
    refine ⟨_, rfl, (by show 2 ≤ sizeLine; decide), fun u1 hu1 => ?_⟩
    refine ⟨x, u1, _, _, _, _, rfl, upd_same, .cons (.ty "list") (.cons (.ty "tuple") .nil), tx, kit_seq kt, _, rfl, ?_⟩
    rw [nS]
    refine iteF ?_
    have e1 := K1.Same.upd (H := H) (p := u1) (o := .tup [.ty "list", .ty "tuple"]) hu1
    refine ⟨_, rfl, (by show 3 ≤ sizeLine; decide), fun u2 hu2 => ?_⟩
    refine ⟨x, u2, _, _, _, _, rfl, upd_same, .cons (.ty "dict") (.cons (.ty "list") (.cons (.ty "tuple") .nil)), tx, kit_dlf tk, _, rfl, ?_⟩
    refine iteF ?_
    have e2 := e1.trans (K1.Same.upd (o := .tup [.ty "dict", .ty "list", .ty "tuple"]) hu2)
    refine ⟨_, rfl, x, _, _, _, _, rfl, .ty "bool", tx, kit_bool kt, _, rfl, x, _, _, _, _, rfl, .ty "bool", tx, kit_bool kt, rfl, _, rfl, ?_⟩
    rw [decide_eq_true rfl]
    refine iteF ?_
    have fin : Q (.bl true) _ := q _ e2
    rcases fl with ⟨i, rfl⟩ | ⟨i, rfl⟩ | ⟨i, rfl⟩ | rfl
    · refine ⟨_, rfl, _, rfl, rfl, ?_⟩
      rw [decide_eq_true rfl]
      exact fin
    · refine ⟨_, rfl, _, rfl, rfl, ?_⟩
      rw [decide_eq_true rfl]
      exact fin
    · refine ⟨_, rfl, _, rfl, rfl, ?_⟩
      rw [decide_eq_true rfl]
      exact fin
    · refine ⟨_, rfl, _, rfl, rfl, ?_⟩
      rw [decide_eq_true rfl]
      exact fin
  · obtain ⟨t, kt, nD, nS, tx, ty⟩ : ∃ t, t ∈ kinds ∧ decide (t = "dict") = false ∧ isSeqT t = true ∧ (∀ Hx, Same H Hx → TyX K Hx (.ref p) (.type t)) ∧ (∀ Hx, Same H Hx → TyX K Hx (.ref r) (.type t)) := by
      rcases kinds2 with ⟨h1, h2⟩ | ⟨h1, h2⟩
      · exact ⟨"list", by decide, by decide, by decide, fun Hx e => .base (.lst (e _ _ h1)), fun Hx e => .base (.lst (e _ _ h2))⟩
      · exact ⟨"tuple", by decide, by decide, by decide, fun Hx e => .base (.tup (e _ _ h1)), fun Hx e => .base (.tup (e _ _ h2))⟩
    refine ⟨_, rfl, _, _, _, _, _, rfl, .ty "dict", ty _ (Same.refl _), kit_dict kt, _, rfl, ?_⟩
    rw [nD]
    refine iteF ?_
    refine ⟨_, rfl, (by show 2 ≤ sizeLine; decide), fun u1 hu1 => ?_⟩
    have e1 := K1.Same.upd (H := H) (p := u1) (o := .tup [.ty "list", .ty "tuple"]) hu1
    refine ⟨_, u1, _, _, _, _, rfl, upd_same, .cons (.ty "list") (.cons (.ty "tuple") .nil), ty _ e1, kit_seq kt, _, rfl, ?_⟩
    rw [nS]
    refine iteT ?_
    generalize L2.upd H u1 (.tup [.ty "list", .ty "tuple"]) = H1 at e1 ⊢
    refine ⟨_, rfl, _, _, _, _, _, rfl, .ty "tuple", tx _ e1, kit_tuple kt, _, rfl, _, _, _, _, _, rfl, .ty "tuple", ty _ e1, kit_tuple kt, rfl, _, rfl, ?_⟩
    rw [decide_eq_true rfl]
    refine iteF ?_
    refine ⟨_, rfl, _, _, _, _, _, rfl, .ty "list", tx _ e1, kit_list kt, _, rfl, _, _, _, _, _, rfl, .ty "list", ty _ e1, kit_list kt, rfl, _, rfl, ?_⟩
    rw [decide_eq_true rfl]
    refine iteF ?_
    have ll := pr.length
    have sp : SqA K H1 p xs := kinds2.imp (fun h => SqL.of (e1 _ _ h.1)) (fun h => SqT.of (e1 _ _ h.1))
    have sr : SqA K H1 r ys := kinds2.imp (fun h => SqL.of (e1 _ _ h.2)) (fun h => SqT.of (e1 _ _ h.2))
    refine ⟨_, rfl, p, xs, rfl, sp, _, rfl, r, ys, rfl, sr, rfl, _, rfl, ?_⟩
    rw [ll, decide_eq_true rfl]
    refine iteT ?_
    have pr1 : Paired (R H1) xs ys := paired_imp (fun _ _ z => mon _ _ _ _ e1 z) pr
    -- the walk over both
    have main : ∀ (J : It) (G0 : Hp → Prop), Walk J xs.length G0 (YPair (fun i => xs[i]?) (fun i => ys[i]?)) → (∀ Hx, Same H1 Hx → G0 Hx) → ∀ (D : Addr), H1 D = none → ∃ W : Nat → Nat → Hp → Prop, (∃ m, W 0 m (L2.upd H1 D (.lst []))) ∧ ∀ i m Hc, W i m Hc →
        (J.stop i Hc ∧ ∃ (a : Addr) (bs : List Bool), [V.ref D] = [V.ref a] ∧ SqL K Hc a (bs.map V.bl) ∧ Q (.bl (bs.all id)) Hc) ∨ (J.go i Hc ∧ ∃ Nx : Hp → Prop, (∀ H', Nx H' → ∃ m', m' < m ∧ W (i + 1) m' H') ∧ ∀ v H', J.yld i Hc v H' →
          gTup K 2 (gCons (gName 2) (gCons (gName 3) gNil)) v (wipe (L2.start ["found", "due", "one", "other"] [.ref p, .ref r]) [2, 3]) H' fun σ2 H2 => wipe σ2 [2, 3] = wipe (L2.start ["found", "due", "one", "other"] [.ref p, .ref r]) [2, 3] ∧ tYes σ2 H2 fun b H3 =>
            if b = true then tCall (spSm R) [] E0 (tCons (tVar 2) (tCons (tVar 3) tNil)) σ2 H3 fun y H4 => ∃ acc, H4 D = some (.lst acc) ∧ acc.length < sizeLine ∧ Nx (L2.upd H4 D (.lst (acc ++ [y]))) else Nx H3) := by
      intro J G0 wk hG D hD
      refine lc_it (Qd := fun Hc => ∃ (a : Addr) (bs : List Bool), [V.ref D] = [V.ref a] ∧ SqL K Hc a (bs.map V.bl) ∧ Q (.bl (bs.all id)) Hc) wk (fun i Hc => Same H1 Hc ∧ Hc D = some (.lst ((List.replicate i true).map V.bl))) ⟨K1.Same.upd hD, upd_same⟩ (fun i Hc _ h => hG Hc h.1) ?_ ?_
      · rintro i v Hc H' hi ⟨c1, c2⟩ ⟨T, x1, x2, rfl, hT, rfl, ex1, ex2⟩
        have ex1 : xs[i]? = some x1 := ex1
        have ex2 : ys[i]? = some x2 := ex2
        have hT2 := K1.Same.upd (H := Hc) (p := T) (o := .tup [x1, x2]) hT
        refine ⟨T, _, rfl, SqT.of upd_same, rfl, _, _, rfl, _, _, rfl, rfl, rfl, ?_⟩
        unfold tYes
        refine iteT ?_
        have hi2 : i < ys.length := by omega
        obtain ⟨x1', e3, r3⟩ := paired_get pr1 hi2
        have z1 : x1' = x1 := Option.some.inj (e3.symm.trans ex1)
        have z2 : ys[i] = x2 := Option.some.inj ((List.getElem?_eq_getElem hi2).symm.trans ex2)
        rw [z1, z2] at r3
        refine ⟨_, rfl, _, rfl, x1, x2, rfl, mon _ _ _ _ (c1.trans hT2) r3, fun H6 e6 => ?_⟩
        refine ⟨_, e6 _ _ (hT2 _ _ c2), by rw [List.length_map, List.length_replicate]; exact small1000 (by omega), fun c o n => ?_, ?_⟩
        · rw [upd_ne (ne_of_none n hD)]
          exact e6 _ _ (hT2 _ _ (c1 _ _ n))
        · rw [upd_same, List.replicate_succ', List.map_append]
          rfl
      · rintro Hc ⟨c1, c2⟩
        refine ⟨D, _, rfl, SqL.of c2, ?_⟩
        have : ((List.replicate xs.length true).all id) = true := by
          rw [List.all_replicate]
          split <;> rfl
        rw [this]
        exact q Hc (e1.trans c1)
    refine ⟨_, rfl, _, rfl, p, r, xs, ys, rfl, ?_⟩
    rcases kinds2 with ⟨h1, h2⟩ | ⟨h1, h2⟩
    · exact .inl ⟨SqL.of (e1 _ _ h1), SqL.of (e1 _ _ h2), fun D hD => main _ _ (walk_zip (by omega)) (fun Hx e => ⟨SqL.of (e _ _ (e1 _ _ h1)), SqL.of (e _ _ (e1 _ _ h2))⟩) D hD⟩
    · exact .inr ⟨SqT.of (e1 _ _ h1), SqT.of (e1 _ _ h2), fun D hD => main _ _ (walk_zipT (by omega)) (fun Hx e => ⟨SqT.of (e _ _ (e1 _ _ h1)), SqT.of (e _ _ (e1 _ _ h2))⟩) D hD⟩
  · -- two dicts
    have tx : ∀ {Hx}, Same H Hx → TyX K Hx (.ref p) (.type "dict") := fun {Hx} e => .base (.dK (e _ _ dp))
    have ty : ∀ {Hx}, Same H Hx → TyX K Hx (.ref r) (.type "dict") := fun {Hx} e => .base (.dK (e _ _ dr))
    refine ⟨_, rfl, .ref r, _, _, _, _, rfl, .ty "dict", ty (Same.refl _), kit_dict (t := "dict") (by decide), _, rfl, ?_⟩
    refine iteT ?_
    refine ⟨_, rfl, .ref p, _, _, _, _, rfl, .ty "dict", tx (Same.refl _), kit_dict (t := "dict") (by decide), _, rfl, ?_⟩
    refine iteT ⟨_, rfl, p, kvs, rfl, dp, fun H1 a as e1 na nas npa g1 pa => ⟨_, rfl, r, kvs, rfl, e1 _ _ dr, fun H2 c cs e2 nc ncs npc g2 pc => ⟨_, _, rfl, ?_, fun H3 e3 => ?_⟩⟩⟩
    · exact hD H2 a c as cs (fun b o h => e2 _ _ (e1 _ _ h)) (e2 _ _ g1) g2 (paired_imp (fun _ _ z => e2 _ _ z) pa) pc
    · exact q H3 fun b o h => e3 _ _ (e2 _ _ (e1 _ _ h))

end
end K1
end
-- NTwoR
section
set_option Elab.async false
set_option linter.all false
set_option maxRecDepth 100000
set_option maxHeartbeats 1000000
namespace K1
open PySem PySem.Spec PyProof.Rows L2
theorem nQ {D : Ends} {σ : L2.St} {H : Hp} (h : D.nx σ H) : tNext D σ H := h
theorem tabs_same {T : List (Addr × Str)} {H H' : Hp} (t : LamX.Tabs T H) (e : Same H H') : LamX.Tabs T H' := t.ext e
theorem tabs_kept {T : List (Addr × Str)} {H H' : Hp} {D : Addr} {xs : List V} (t : LamX.Tabs T H) (hD : H D = some (.lst xs)) (k : Kept D H H') : LamX.Tabs T H' := fun p hp => by
  obtain ⟨ps, h1, h2, h3⟩ := t p hp
  refine ⟨ps, k _ _ (fun z => by rw [z, hD] at h1; cases h1) h1, h2, fun pos cv hc => ?_⟩
  obtain ⟨c, e1, e2⟩ := h3 pos cv hc
  refine ⟨c, e1, k _ _ (fun z => ?_) e2⟩
  rw [z, hD] at e2
  have : HO.lst xs = LamX.CodeO D p.2 := Option.some.inj e2
  unfold LamX.CodeO at this
  cases this
theorem ValS.extN {C : Addr} {H H' : Hp} {x l1 l2 l3 d1 d2 d3 : Addr} {qs : List Addr} {bs : Str → Addr} {ss : List Str} {rs : List (Str × Str)} {ns : List Int} (v : ValS C H x l1 l2 l3 d1 d2 d3 qs bs ss rs ns) (e : LamX.ExtN H H') : ValS C H' x l1 l2 l3 d1 d2 d3 qs bs ss rs ns := by
  obtain ⟨dx, fs, a, r⟩ := v.ins
  obtain ⟨k2, a2, b2⟩ := v.p2
  obtain ⟨k3, a3, b3⟩ := v.p3
  exact ⟨⟨dx, fs, e _ _ a (fun _ z => by cases z), r⟩, e _ _ v.h1 (fun _ z => by cases z), e _ _ v.h2 (fun _ z => by cases z), paired_imp (fun _ _ q => e _ _ q (fun _ z => by cases z)) v.pr, e _ _ v.h3 (fun _ z => by cases z), e _ _ v.p1 (fun _ z => by cases z), ⟨k2, e _ _ a2 (fun _ z => by cases z), b2⟩, ⟨k3, e _ _ a3 (fun _ z => by cases z), b3⟩, fun s hs => e _ _ (v.nb s hs) (fun _ z => by cases z)⟩
theorem IsV.extN {C : Addr} {H H' : Hp} {x : Addr} {ss : List Str} {rs : List (Str × Str)} {ns : List Int} (v : IsV C H x ss rs ns) (e : LamX.ExtN H H') : IsV C H' x ss rs ns := by
  obtain ⟨l, l1, l2, l3, d1, d2, d3, qs, bs, h⟩ := v
  exact ⟨l, l1, l2, l3, d1, d2, d3, qs, bs, h.extN e⟩
theorem extN_upd {H Hc : Hp} {L : Addr} {o : HO} (e : LamX.ExtN H Hc) (n : H L = none) : LamX.ExtN H (L2.upd Hc L o) := fun b u h nt => by
  rw [upd_ne (ne_of_none h n)]
  exact e b u h nt
theorem extN_free {H Hc : Hp} {L : Addr} (e : LamX.ExtN H Hc) (t : ∀ ps, H L ≠ some (.tbl ps)) (n : Hc L = none) : H L = none := by
  cases h : H L with
  | none => rfl
  | some o =>
    have := e L o h fun ps z => t ps (by rw [h, z])
    rw [n] at this
    cases this
theorem upd_same' (H : Hp) (a : Addr) (o : HO) : L2.upd H a o a = some o := upd_same
theorem ValS.same {C : Addr} {H H' : Hp} {x l1 l2 l3 d1 d2 d3 : Addr} {qs : List Addr} {bs : Str → Addr} {ss : List Str} {rs : List (Str × Str)} {ns : List Int} (v : ValS C H x l1 l2 l3 d1 d2 d3 qs bs ss rs ns) (e : Same H H') : ValS C H' x l1 l2 l3 d1 d2 d3 qs bs ss rs ns := by
  obtain ⟨dx, fs, a, r⟩ := v.ins
  obtain ⟨k2, a2, b2⟩ := v.p2
  obtain ⟨k3, a3, b3⟩ := v.p3
  exact ⟨⟨dx, fs, e _ _ a, r⟩, e _ _ v.h1, e _ _ v.h2, TupP.ext v.pr e, e _ _ v.h3, e _ _ v.p1, ⟨k2, e _ _ a2, b2⟩, ⟨k3, e _ _ a3, b3⟩, fun s hs => e _ _ (v.nb s hs)⟩
theorem IsV.same {C : Addr} {H H' : Hp} {x : Addr} {ss : List Str} {rs : List (Str × Str)} {ns : List Int} (v : IsV C H x ss rs ns) (e : Same H H') : IsV C H' x ss rs ns := by
  obtain ⟨l, l1, l2, l3, d1, d2, d3, qs, bs, h⟩ := v
  exact ⟨l, l1, l2, l3, d1, d2, d3, qs, bs, h.same e⟩
/-- it is an instance, and has no field of these names -/
theorem IsV.ins {C : Addr} {H : Hp} {x : Addr} {ss : List Str} {rs : List (Str × Str)} {ns : List Int} (v : IsV C H x ss rs ns) : ∃ dx fs, H x = some (.ins C dx fs) ∧ fs.lookup ("beside" : Str) = none ∧ fs.lookup ("way" : Str) = none ∧ fs.lookup ("side" : Str) = none := by
  obtain ⟨l, l1, l2, l3, d1, d2, d3, qs, bs, h⟩ := v
  obtain ⟨dx, fs, a, _, _, _, _, _, _, f0⟩ := h.ins
  exact ⟨dx, fs, a, f0 _ (by decide +kernel) (by decide +kernel) (by decide +kernel) (by decide +kernel) (by decide +kernel) (by decide +kernel), f0 _ (by decide +kernel) (by decide +kernel) (by decide +kernel) (by decide +kernel) (by decide +kernel) (by decide +kernel), f0 _ (by decide +kernel) (by decide +kernel) (by decide +kernel) (by decide +kernel) (by decide +kernel) (by decide +kernel)⟩
/-! two things that are the same -/
def R0 : RelE := fun _ _ _ => False
def R1 : RelE := NextF R0
def R2' : RelE := NextF R1
def R3 : RelE := NextF R2'
def R4 : RelE := NextF R3
theorem r_str {R : RelE} {H : Hp} (s : Str) : NextF R H (.str s) (.str s) := .inl ⟨rfl, .inr (.inr (.inl ⟨s, rfl⟩))⟩
theorem r_int {R : RelE} {H : Hp} (i : Int) : NextF R H (.int i) (.int i) := .inl ⟨rfl, .inl ⟨i, rfl⟩⟩
theorem r_bl {R : RelE} {H : Hp} (b : Bool) : NextF R H (.bl b) (.bl b) := .inl ⟨rfl, .inr (.inl ⟨b, rfl⟩)⟩
theorem r_strs {R : RelE} {H : Hp} : ∀ ss : List Str, Paired (NextF R H) (ss.map V.str) (ss.map V.str)
  | [] => .nil
  | s :: ss => .cons (r_str s) (r_strs ss)
theorem r_ints {R : RelE} {H : Hp} : ∀ ss : List Int, Paired (NextF R H) (ss.map V.int) (ss.map V.int)
  | [] => .nil
  | s :: ss => .cons (r_int s) (r_ints ss)
theorem r_lists {R : RelE} {H : Hp} {p q : Addr} {xs ys : List V} (h1 : H p = some (.lst xs)) (h2 : H q = some (.lst ys)) (l : xs.length ≤ 100) (r : Paired (R H) xs ys) : NextF R H (.ref p) (.ref q) := .inr (.inl ⟨p, q, xs, ys, rfl, rfl, .inl ⟨h1, h2⟩, l, r⟩)
theorem r_tups {R : RelE} {H : Hp} {p q : Addr} {xs ys : List V} (h1 : H p = some (.tup xs)) (h2 : H q = some (.tup ys)) (l : xs.length ≤ 100) (r : Paired (R H) xs ys) : NextF R H (.ref p) (.ref q) := .inr (.inl ⟨p, q, xs, ys, rfl, rfl, .inr ⟨h1, h2⟩, l, r⟩)
theorem r_pairs {R : RelE} {H : Hp} : ∀ {as bs : List Addr} {rs : List (Str × Str)}, Paired (TupP H) as rs → Paired (TupP H) bs rs → Paired (NextF (NextF R) H) (as.map V.ref) (bs.map V.ref)
  | _, _, _, .nil, .nil => .nil
  | _, _, _, .cons f1 g1, .cons f2 g2 => .cons (r_tups f1 f2 (by show 2 ≤ 100; decide) (.cons (r_str _) (.cons (r_str _) .nil))) (r_pairs g1 g2)
theorem r_non {R : RelE} {H : Hp} : NextF R H .non .non := .inl ⟨rfl, .inr (.inr (.inr rfl))⟩
def spTwo (C : Addr) (T : List (Addr × Str)) : Sp := fun vs H Q _ => ∃ (x t p1 p2 : Addr) (x3 : V) (qs : List Addr) (ss : List Str) (rs : List (Str × Str)) (ns : List Int) (one other : Str), vs = [.ref x, .ref t, .str one, .str other] ∧ IsV C H x ss rs ns ∧ DrV H t p1 p2 x3 qs ss rs ∧ Tree ss rs ∧ (∀ s ∈ ss, nameOk s = true) ∧ ss.length ≤ 60 ∧
  one ∈ ss ∧ other ∈ ss ∧ LamX.Tabs T H ∧ ∀ H', LamX.ExtN H H' → LamX.Tabs T H' → Q (.bl true) H'
section
variable {P : Program} {w : World} {K : PySem.W.Frag} {mg : Str → Option Value} {base : Heap} {C CN CO : Addr} 
open Classical in
theorem ok_two {f c TP fm : Addr} {fdm : FuncData} {oc kVx doc pm ct : Value} {od an : Option Addr} {osl : Array (Option Value)} (lk : K.lookup f = some ⟨oc, od, .func (PySem.W.fnOf "_law_two_right" "_law_two_right" (defArgs sTwo) (defBody sTwo) (defScope sTwo) .none kVx doc pm an (.ref c) ct), osl⟩) (hcd : PySem.W.codeIn K (.ref c) "_law_two_right" = true) (T : Cls K C) (mr : mg "range" = none) (ms : mg "sorted" = none)
    (MG : MetG K mg CN CO) (Fm : Fun K "_law_met" "_law_met" sMt fm fdm) (bm : Binds K fdm ["ask"] []) (mm : mg "_law_met" = some (.ref fm)) (TB : LamX.TabB base mg c TP) {TT : List (Addr × Str)} (hT : (TP, qTwo) ∈ TT) (hU : ∀ p ∈ TT, p.1 = TP → p.2 = qTwo)
    (hS : Fz P w K mg base CX0 4 "_law_same" ["found", "due"] (spSm R4)) (hV : Fz P w K mg base CX0 1 "_law_v_near" ["valley", "house"] spVn) (hW : Fz P w K mg base CX0 2 "_law_way" ["valley", "one", "other"] spLw) (hD : Fz P w K mg base CX0 2 "_law_side" ["valley", "one", "other"] spLs)
    (hBe : Mz P w K mg base C 4 "beside" ["self", "house"] ["house"] kw1R kw1V (spBe K C CN)) (hWa : Mz P w K mg base C 4 "way" ["self", "one", "other"] ["other", "one"] kw2R kw2V (spWa K C CN)) (hSi : Mz P w K mg base C 5 "side" ["self", "one", "other"] ["other", "one"] kw2R kw2V (spSi K C CN CO))
    : FnOk P w K mg base CX0 9 f (PySem.W.fnOf "_law_two_right" "_law_two_right" (defArgs sTwo) (defBody sTwo) (defScope sTwo) .none kVx doc pm an (.ref c) ct) ["made", "valley", "one", "other"] (spTwo C TT) := by
  obtain ⟨fS, fdS, GS, bS, kS, mS⟩ := hS
  obtain ⟨fV, fdV, GV, bV, kV, mV⟩ := hV
  obtain ⟨fW, fdW, GW, bW, kW, mW⟩ := hW
  obtain ⟨fD, fdD, GD, bD, kD, mD⟩ := hD
  obtain ⟨fB, fdB, GB, bB, nB, hB⟩ := hBe
  obtain ⟨fA, fdA, GA, bA, nA, hA⟩ := hWa
  obtain ⟨fI, fdI, GI, bI, nI, hI⟩ := hSi
  obtain ⟨ocm, odm, kVm, docm, pmm, anm, cdvm, ctm, oslm, rfl, lkm, hcm⟩ := Fm.ex
  have km := Fm.kp
  refine fn_of lk hcd scTwo (fun vs H Q E h => ?_) (fun A outer s H vs Q E hr8 h => ?_)
  · obtain ⟨x, t, p1, p2, x3, qs, ss, rs, ns, one, other, rfl, _⟩ := h
    rfl
  obtain ⟨x, t, p1, p2, x3, qs, ss, rs, ns, one, other, rfl, iv, dv, tr, ok, hl, ho, hto, tb, q⟩ := h
  suffices hh : ∃ t0, PSs (cxOf CX0 P w K mg base ["made", "valley", "one", "other", "near", "row", "turn", "told", "part", "found", "mine", "theirs"] "_law_two_right" (defScope sTwo) f (.ref c) A outer s H E).nox (defBody sTwo) t0 ∧ t0 { nx := fun _ H' => Q .non H', rt := Q } (L2.start ["made", "valley", "one", "other", "near", "row", "turn", "told", "part", "found", "mine", "theirs"] [.ref x, .ref t, .str one, .str other]) H by
    obtain ⟨t0, h1, h2⟩ := hh
    exact ⟨t0, h1.nox, h2⟩
  have nd := scTwo.nd
  have hu := hr8.units
  have hr1 : Room 1 _ := hr8.mono (by decide)
  have hr2 : Room 2 _ := hr8.mono (by decide)
  have hr4 : Room 4 _ := hr8.mono (by decide)
  have hr5 : Room 5 _ := hr8.mono (by decide)
  refine ⟨_, (pss_cons (by exact (ps_par (i := 4) (j := 5) rfl nd rfl rfl (by decide) rfl rfl (pa_cons (pe_call GV hr1 rfl mV kV bV .nil pass0 (pa_cons (pv 1) (pa_cons (pv 2) pa_nil))) (pa_cons (pe_call GW hr2 rfl mW kW bW .nil pass0 (pa_cons (pv 1) (pa_cons (pv 2) (pa_cons (pv 3) pa_nil)))) pa_nil)) (by rfl)))
  (pss_cons (by exact (ps_for PassesOwn.never rfl (by exact pi_range1 rfl mr (pa_cons pe_int pa_nil)) (pg_name (i := 6) nd rfl (.inl rfl)) (pss_cons (by exact (ps_set (i := 7) nd rfl (.inl rfl) (pe_lst (pa_cons (pe_meth (pv 0) T hB GB hr4 bB .nil passL (pa_cons (pv 2) pa_nil)) (pa_cons (pe_meth (pv 0) T hA GA hr4 bA .nil passL (pa_cons (pv 2) (pa_cons (pv 3) pa_nil))) pa_nil)))))
  (pss_cons (by exact (ps_if (pt_not (pt_val (pe_call GS hr4 rfl mS kS bS .nil pass0 (pa_cons (pv 7) (pa_cons (pe_lst (pa_cons (pv 4) (pa_cons (pv 5) pa_nil))) pa_nil))))) (pss_one (by exact (ps_ret pe_bl))) pss_nil))
  (pss_one (by exact (ps_for PassesOwn.never rfl (by exact pi_list (pv 7)) (pg_name (i := 8) nd rfl (.inl rfl)) (pss_one (by exact (ps_expr (pe_bm PySem.F.plainAttrs_list PySem.F.slot_list_append PySem.F.type_list_append mt_append (pv 8) (pa_cons pe_str pa_nil))))))))))))
  (pss_cons (by exact (ps_if (pt_not (pt_val (pe_call GS hr4 rfl mS kS bS .nil pass0 (pa_cons (pe_lst (pa_cons (pe_methK0 (pv 0) T hB GB hr4 nB passL (pk_cons (pv 2) pk_nil)) (pa_cons (pe_methK0 (pv 0) T hA GA hr4 nA passL (pk_cons (pv 3) (pk_cons (pv 2) pk_nil))) pa_nil))) (pa_cons (pe_lst (pa_cons (pv 4) (pa_cons (pv 5) pa_nil))) pa_nil))))) (pss_one (by exact (ps_ret pe_bl))) pss_nil))
  (pss_cons (by exact (ps_if (pt_cmpR op_notIn_seq (pv 3) (pv 4) (by with_unfolding_all rfl)) (pss_cons (by exact (ps_set (i := 9) nd rfl (.inl rfl) (pe_lst (pa_cons (LamX.pe_lamcall (k := 6) (t := fun E => tMeth C "side" (spSi K C CN CO) [] E (tVar 0) (tCons (tVar 2) (tCons (tVar 3) tNil))) rfl mm km lkm hcm bm scMt rfl (.inl rfl) (mt_gives MG) TB rfl hT hU (by exact hr8) (LamX.lamS_by (by with_unfolding_all rfl)) rfl (fun _ _ _ _ _ => rfl) (fun A outer s H E f c' hz => by exact (pe_meth (pv 0) T hI GI (hz.mono (by decide)) bI .nil (passes_call (takes_of rfl rfl rfl rfl) (fun _ _ _ _ h => h)) (pa_cons (pv 2) (pa_cons (pv 3) pa_nil))))) pa_nil))))
  (pss_cons (by exact (ps_expr (pe_bm PySem.F.plainAttrs_list PySem.F.slot_list_append PySem.F.type_list_append mt_append (pv 9) (pa_cons (LamX.pe_lamcall (k := 6) (t := fun E => tMethK C "side" (["other", "one"] : List Str).length (spSi K C CN CO) kw2V E (tVar 0) (tCons (tVar 2) (tCons (tVar 3) tNil))) rfl mm km lkm hcm bm scMt rfl (.inl rfl) (mt_gives MG) TB rfl hT hU (by exact hr8) (LamX.lamS_by (by with_unfolding_all rfl)) rfl (fun _ _ _ _ _ => rfl) (fun A outer s H E f c' hz => by exact (pe_methK0 (pv 0) T hI GI (hz.mono (by decide)) nI (passes_call (takes_of rfl rfl rfl rfl) (fun _ _ _ _ h => h)) (pk_cons (pv 2) (pk_cons (pv 3) pk_nil))))) pa_nil))))
  (pss_one (by exact (ps_ret (pe_call GS hr4 rfl mS kS bS .nil pass0 (pa_cons (pv 9) (pa_cons (pe_lst (pa_cons (pe_tup (pa_cons pe_str (pa_cons (pv 2) (pa_cons (pv 3) pa_nil)))) (pa_cons (pe_tup (pa_cons pe_str (pa_cons (pv 3) (pa_cons (pv 2) pa_nil)))) pa_nil))) pa_nil)))))))) pss_nil))
  (pss_cons (by exact (ps_par (i := 10) (j := 11) rfl nd rfl rfl (by decide) rfl rfl (pa_cons (pe_call GD hr2 rfl mD kD bD .nil pass0 (pa_cons (pv 1) (pa_cons (pv 3) (pa_cons (pv 2) pa_nil)))) (pa_cons (pe_call GD hr2 rfl mD kD bD .nil pass0 (pa_cons (pv 1) (pa_cons (pv 2) (pa_cons (pv 3) pa_nil)))) pa_nil)) (by rfl)))
  (pss_cons (by exact (ps_set (i := 7) nd rfl (.inl rfl) (pe_lst (pa_cons (pe_meth (pv 0) T hI GI hr5 bI .nil passL (pa_cons (pv 2) (pa_cons (pv 3) pa_nil))) (pa_cons (pe_methK0 (pv 0) T hI GI hr5 nI passL (pk_cons (pv 2) (pk_cons (pv 3) pk_nil))) pa_nil)))))
  (pss_cons (by exact (ps_if (PW.pt (pw_or (pt_not (pt_val (pe_call GS hr4 rfl mS kS bS .nil pass0 (pa_cons (pv 7) (pa_cons (pe_lst (pa_cons (pv 11) (pa_cons (pv 10) pa_nil))) pa_nil))))) (pw_or1 (pt_cmpR (op_neD hu) (pe_callB cr_sortedS rfl ms PyProof.Rows.boot_sorted (pa_cons (pe_op op_cat (pv 10) (pv 11)) pa_nil)) (pe_callB cr_sortedS rfl ms PyProof.Rows.boot_sorted (pa_cons (pe_ix ix_tup (pv 1) pe_int (fun _ _ => rfl)) pa_nil)) (nomark _))))) (pss_one (by exact (ps_ret pe_bl))) pss_nil))
  (pss_cons (by exact (ps_expr (pe_bm0 PySem.F.plainAttrs_list PySem.F.slot_list_clear PySem.F.type_list_clear mt_clear (pe_ix ix_list (pv 7) pe_int (fun _ _ => rfl)))))
  (pss_one (by exact (ps_ret (pe_call GS hr4 rfl mS kS bS .nil pass0 (pa_cons (pe_meth (pv 0) T hI GI hr5 bI .nil passL (pa_cons (pv 2) (pa_cons (pv 3) pa_nil))) (pa_cons (pv 11) pa_nil)))))))))))))), ?_⟩
  have l1 := dv.l1
  have l2 := dv.l2
  refine ⟨_, rfl, _, rfl, t, p1, p2, x3, qs, ss, rs, one, rfl, dv.t0, dv.h1, dv.h2, dv.pr, by omega, by omega, fun N H1 e1 nN gN => ?_⟩
  refine ⟨_, rfl, _, rfl, _, rfl, t, p1, p2, x3, qs, ss, rs, one, other, rfl, dv.same e1, tr, ho, hto, fun W l H2 e2 nW pw gW => ?_⟩
  have nW0 : H W = none := e1.free nW
  have NW : N ≠ W := fun z => by rw [← z, gN] at nW; cases nW
  have e12 : Same H H2 := e1.trans e2
  have gN2 := e2 _ _ gN
  refine ⟨_, _, rfl, ?_⟩
  with_reducible refine sQ ?_
  refine ⟨_, rfl, (by decide), (by decide), ?_⟩
  refine for_range (lo := 0) (fun i σ Hc => (∃ a b c d e g, σ = [some (.ref x), some (.ref t), some (.str one), some (.str other), some (.ref N), some (.ref W), a, b, c, d, e, g]) ∧ Same H2 Hc) ⟨⟨_, _, _, _, _, _, rfl⟩, Same.refl _⟩ ?_ ?_
  · rintro i σ Hc hi ⟨⟨ya, yb, yc, yd, ye, yg, rfl⟩, e3⟩
    refine K1.gN ?_
    with_reducible refine sQ ?_
    have e03 := e12.trans e3
    have iv3 := iv.same e03
    obtain ⟨dx, fs, gx, n1, n2, n3⟩ := iv.ins
    refine ⟨_, rfl, x, dx, fs, rfl, e03 _ _ gx, n1, _, rfl, x, .str one, ss, rs, ns, rfl, iv3, .inl ⟨one, rfl, ho, fun r hr => ?_⟩⟩
    have e4 := K1.Same.upd (H := Hc) (p := r) (o := .lst ((nbs ss rs one).map V.str)) hr
    have g4 := upd_same' Hc r (.lst ((nbs ss rs one).map V.str))
    generalize L2.upd Hc r (.lst ((nbs ss rs one).map V.str)) = H4 at e4 g4 ⊢
    have e04 := e03.trans e4
    refine ⟨_, rfl, x, dx, fs, rfl, e04 _ _ gx, n2, _, rfl, _, rfl, x, .str one, .str other, ss, rs, ns, rfl, iv.same e04, tr, by omega, .inr ⟨one, rfl, ho, .inr ⟨other, rfl, hto, fun r2 l' H5 e5 nr2 p5 g5 => ?_⟩⟩⟩
    obtain rfl := pw.uniq tr.cut p5
    have r20 : H2 r2 = none := (e3.trans e4).free nr2
    have r10 : H2 r = none := e3.free hr
    have rr : r ≠ r2 := fun z => by rw [← z, g4] at nr2; cases nr2
    refine ⟨(by show 2 ≤ sizeLine; decide), fun L hL => ?_⟩
    have e6 := K1.Same.upd (H := H5) (p := L) (o := .lst [.ref r, .ref r2]) hL
    have g6 := upd_same' H5 L (.lst [.ref r, .ref r2])
    generalize L2.upd H5 L (.lst [.ref r, .ref r2]) = H6 at e6 g6 ⊢
    have e26 : Same H2 H6 := e3.trans (e4.trans (e5.trans e6))
    have Lr : L ≠ r := fun z => by rw [z, e5 _ _ g4] at hL; cases hL
    have Lr2 : L ≠ r2 := fun z => by rw [z, g5] at hL; cases hL
    have L0 : H2 L = none := (e3.trans (e4.trans e5)).free hL
    refine K1.gN ?_
    with_reducible refine sQ ?_
    refine ⟨_, rfl, _, rfl, _, rfl, (by show 2 ≤ sizeLine; decide), fun M hM => ?_⟩
    have e7 := K1.Same.upd (H := H6) (p := M) (o := .lst [.ref N, .ref W]) hM
    have g7 := upd_same' H6 M (.lst [.ref N, .ref W])
    generalize L2.upd H6 M (.lst [.ref N, .ref W]) = H7 at e7 g7 ⊢
    have e27 := e26.trans e7
    have ln : (nbs ss rs one).length ≤ 100 := Nat.le_trans (List.length_filter_le _ _) (by omega)
    have lw : l.length ≤ 100 := by
      have := nodup_len pw.nd (pw.mem tr.ends hto)
      omega
    refine ⟨_, _, rfl, show NextF (NextF (NextF R1)) H7 (.ref L) (.ref M) from r_lists (e7 _ _ g6) g7 (by show 2 ≤ 100; decide) (.cons (r_lists (e7 _ _ (e6 _ _ (e5 _ _ g4))) (e27 _ _ gN2) (by rw [List.length_map]; exact ln) (r_strs _)) (.cons (r_lists (e7 _ _ (e6 _ _ g5)) (e27 _ _ gW) (by rw [List.length_map]; exact lw) (r_strs _)) .nil)), fun H8 e8 => ⟨_, rfl, ?_⟩⟩
    refine iteF ?_
    have e28 := e27.trans e8
    have g8 := e8 _ _ (e7 _ _ g6)
    have g81 := e8 _ _ (e7 _ _ (e6 _ _ (e5 _ _ g4)))
    have g82 := e8 _ _ (e7 _ _ (e6 _ _ g5))
    refine ⟨_, rfl, L, rfl, ⟨_, SqL.of g8⟩, ?_⟩
    refine for_it walk_list (fun k σ Hd => (∃ d, σ = [some (.ref x), some (.ref t), some (.str one), some (.str other), some (.ref N), some (.ref W), some (.int (0 + (i : Int))), some (.ref L), d, yd, ye, yg]) ∧ Same H2 Hd ∧ Hd L = some (.lst [.ref r, .ref r2]) ∧ (∃ xs, Hd r = some (.lst xs) ∧ xs.length ≤ 100 + k) ∧ ∃ xs, Hd r2 = some (.lst xs) ∧ xs.length ≤ 100 + k)
      ⟨⟨_, rfl⟩, e28, g8, ⟨_, g81, by rw [List.length_map]; omega⟩, _, g82, by rw [List.length_map]; omega⟩ (fun k σ Hd _ h => SqL.of h.2.2.1) ?_ ?_
    · rintro k y σ Hd H' hk ⟨⟨yz, rfl⟩, f1, f2, ⟨xs, f3, f3'⟩, ys, f4, f4'⟩ ⟨rfl, hy⟩
      have hk2 : k < 2 := hk
      have yy : y = .ref r ∨ y = .ref r2 := by
        have := List.mem_of_getElem? hy
        simp only [List.mem_cons, List.not_mem_nil, or_false] at this
        exact this
      rcases yy with rfl | rfl
      · refine ⟨_, rfl, .inl ⟨rfl, _, SqL.of f3⟩, r, _, _, rfl, rfl, f3, small1000 (by omega), ⟨_, rfl⟩, same_upd f1 r10, by rw [upd_ne Lr]; exact f2, ⟨_, upd_same, by rw [List.length_append]; simp; omega⟩, ys, by rw [upd_ne rr.symm]; exact f4, by omega⟩
      · refine ⟨_, rfl, .inl ⟨rfl, _, SqL.of f4⟩, r2, _, _, rfl, rfl, f4, small1000 (by omega), ⟨_, rfl⟩, same_upd f1 r20, by rw [upd_ne Lr2]; exact f2, ⟨xs, by rw [upd_ne rr]; exact f3, by omega⟩, _, upd_same, by rw [List.length_append]; simp; omega⟩
    · rintro σ Hd ⟨⟨yz, rfl⟩, f1, _⟩
      exact ⟨⟨_, _, _, _, _, _, rfl⟩, f1⟩
  · rintro σ Hc ⟨⟨ya, yb, yc, yd, ye, yg, rfl⟩, e3⟩
    with_reducible refine sQ ?_
    have e03 := e12.trans e3
    have iv3 := iv.same e03
    obtain ⟨dx, fs, gx, n1, n2, n3⟩ := iv.ins
    have ln : (nbs ss rs one).length ≤ 100 := Nat.le_trans (List.length_filter_le _ _) (by omega)
    have lw : l.length ≤ 100 := by
      have := nodup_len pw.nd (pw.mem tr.ends hto)
      omega
    refine ⟨_, rfl, x, dx, fs, rfl, e03 _ _ gx, n1, _, rfl, rfl, x, .str one, ss, rs, ns, rfl, iv3, .inl ⟨one, rfl, ho, fun r hr => ?_⟩⟩
    have e4 := K1.Same.upd (H := Hc) (p := r) (o := .lst ((nbs ss rs one).map V.str)) hr
    have g4 := upd_same' Hc r (.lst ((nbs ss rs one).map V.str))
    generalize L2.upd Hc r (.lst ((nbs ss rs one).map V.str)) = H4 at e4 g4 ⊢
    have e04 := e03.trans e4
    refine ⟨_, rfl, x, dx, fs, rfl, e04 _ _ gx, n2, _, rfl, _, rfl, rfl, x, .str one, .str other, ss, rs, ns, rfl, iv.same e04, tr, by omega, .inr ⟨one, rfl, ho, .inr ⟨other, rfl, hto, fun r2 l' H5 e5 nr2 p5 g5 => ?_⟩⟩⟩
    obtain rfl := pw.uniq tr.cut p5
    refine ⟨(by show 2 ≤ sizeLine; decide), fun L hL => ?_⟩
    have e6 := K1.Same.upd (H := H5) (p := L) (o := .lst [.ref r, .ref r2]) hL
    have g6 := upd_same' H5 L (.lst [.ref r, .ref r2])
    generalize L2.upd H5 L (.lst [.ref r, .ref r2]) = H6 at e6 g6 ⊢
    have e26 : Same H2 H6 := e3.trans (e4.trans (e5.trans e6))
    refine ⟨_, rfl, _, rfl, (by show 2 ≤ sizeLine; decide), fun M hM => ?_⟩
    have e7 := K1.Same.upd (H := H6) (p := M) (o := .lst [.ref N, .ref W]) hM
    have g7 := upd_same' H6 M (.lst [.ref N, .ref W])
    generalize L2.upd H6 M (.lst [.ref N, .ref W]) = H7 at e7 g7 ⊢
    have e27 := e26.trans e7
    refine ⟨_, _, rfl, show NextF (NextF (NextF R1)) H7 (.ref L) (.ref M) from r_lists (e7 _ _ g6) g7 (by show 2 ≤ 100; decide) (.cons (r_lists (e7 _ _ (e6 _ _ (e5 _ _ g4))) (e27 _ _ gN2) (by rw [List.length_map]; exact ln) (r_strs _)) (.cons (r_lists (e7 _ _ (e6 _ _ g5)) (e27 _ _ gW) (by rw [List.length_map]; exact lw) (r_strs _)) .nil)), fun H8 e8 => ⟨_, rfl, ?_⟩⟩
    refine iteF ?_
    have e28 := e27.trans e8
    have e08 := e12.trans e28
    have gN8 := e28 _ _ gN2
    clear e3 e03 iv3 hr e4 g4 e04 nr2 p5 g5 hL e5 e6 g6 hM e26 e7 g7 e27 e8
    -- whether they lie beside one another
    refine nQ ?_
    with_reducible refine sQ ?_
    refine ⟨_, rfl, _, rfl, N, _, rfl, .inl (SqL.of gN8), rfl, flat_strs, _, rfl, ?_⟩
    show if (!inV (V.str other) ((nbs ss rs one).map V.str)) = true then _ else _
    rw [inV_str]
    have nbe : decide (other ∈ nbs ss rs one) = nbB rs one other := by
      rw [Bool.eq_iff_iff, decide_eq_true_eq]
      exact mem_nbs tr.ends
    rw [nbe]
    refine ite2 (fun c => ?_) (fun c => ?_)
    · have hnb : nbB rs one other = false := by cases h : nbB rs one other <;> simp_all
      have hnb' : nbB rs other one = false := by rw [nbB_swap]; exact hnb
      with_reducible refine sQ ?_
      refine ⟨tabs_same tb e08, fun H9 eN9 T9 => ?_⟩
      have x9 : LamX.ExtN H H9 := (LamX.ExtN.of e08).trans eN9
      refine ⟨_, rfl, x, dx, fs, rfl, x9 _ _ gx (fun _ z => by cases z), n3, _, rfl, _, rfl, x, .str one, .str other, ss, rs, ns, rfl, iv.extN x9, tr, by omega, .inr ⟨one, rfl, ho, .inr ⟨other, rfl, hto, .inl ⟨hnb, fun d H10 e10 nd10 hx10 => .inr ⟨rfl, d, _, _, rfl, hx10, fun p hp => ?_⟩⟩⟩⟩⟩
      have e11 := K1.Same.upd (H := H10) (p := p) (o := .tup [.str "road", .str one, .str other]) hp
      have g11 := upd_same' H10 p (.tup [.str "road", .str one, .str other])
      generalize L2.upd H10 p (.tup [.str "road", .str one, .str other]) = H11 at e11 g11 ⊢
      have e9_11 : Same H9 H11 := e10.trans e11
      refine ⟨(by show 1 ≤ sizeLine; decide), fun Fd hFd => ?_⟩
      have e12' := K1.Same.upd (H := H11) (p := Fd) (o := .lst [.ref p]) hFd
      have g12 := upd_same' H11 Fd (.lst [.ref p])
      generalize L2.upd H11 Fd (.lst [.ref p]) = H12 at e12' g12 ⊢
      have T12 := tabs_same (tabs_same T9 e9_11) e12'
      have x12 : LamX.ExtN H H12 := x9.trans (LamX.ExtN.of (e9_11.trans e12'))
      refine K1.gN ?_
      with_reducible refine sQ ?_
      refine ⟨_, rfl, .inl ⟨rfl, _, SqL.of g12⟩, T12, fun H13 eN13 T13 => ?_⟩
      have x13 := x12.trans eN13
      have g13 := eN13 _ _ g12 (fun _ z => by cases z)
      have g13p := eN13 _ _ (e12' _ _ g11) (fun _ z => by cases z)
      refine ⟨_, rfl, x, dx, fs, rfl, x13 _ _ gx (fun _ z => by cases z), n3, _, rfl, _, rfl, rfl, x, .str other, .str one, ss, rs, ns, rfl, iv.extN x13, tr, by omega, .inr ⟨other, rfl, hto, .inr ⟨one, rfl, ho, .inl ⟨hnb', fun d2 H14 e14 nd14 hx14 => .inr ⟨rfl, d2, _, _, rfl, hx14, fun p2' hp2 => ?_⟩⟩⟩⟩⟩
      have e15 := K1.Same.upd (H := H14) (p := p2') (o := .tup [.str "road", .str other, .str one]) hp2
      have g15 := upd_same' H14 p2' (.tup [.str "road", .str other, .str one])
      generalize L2.upd H14 p2' (.tup [.str "road", .str other, .str one]) = H15 at e15 g15 ⊢
      have s15 : Same H13 H15 := e14.trans e15
      have g15F := s15 _ _ g13
      have g15p := s15 _ _ g13p
      have Fp : Fd ≠ p := fun z => by rw [z, g11] at hFd; cases hFd
      have Fp2 : Fd ≠ p2' := fun z => by rw [z, g15] at g15F; cases g15F
      refine ⟨Fd, _, _, rfl, rfl, g15F, (by show 1 < 2 ^ 24; decide), ?_⟩
      have T16 := tabs_kept (tabs_same T13 s15) g15F (Kept.upd (o := .lst ([.ref p] ++ [.ref p2'])))
      have g16 := upd_same' H15 Fd (.lst ([.ref p] ++ [.ref p2']))
      have g16p : L2.upd H15 Fd (.lst ([.ref p] ++ [.ref p2'])) p = some (.tup [.str "road", .str one, .str other]) := by rw [upd_ne Fp.symm]; exact g15p
      have g16q : L2.upd H15 Fd (.lst ([.ref p] ++ [.ref p2'])) p2' = some (.tup [.str "road", .str other, .str one]) := by rw [upd_ne Fp2.symm]; exact g15
      have x16 : LamX.ExtN H (L2.upd H15 Fd (.lst ([.ref p] ++ [.ref p2']))) := by
        intro b u h nt
        have bF : b ≠ Fd := fun z => by
          have := (x9.trans (LamX.ExtN.of e9_11)) b u h nt
          rw [z, hFd] at this
          cases this
        rw [upd_ne bF]
        exact (x13.trans (LamX.ExtN.of s15)) b u h nt
      generalize L2.upd H15 Fd (.lst ([.ref p] ++ [.ref p2'])) = H16 at T16 g16 g16p g16q x16 ⊢
      refine ⟨_, rfl, _, rfl, _, rfl, (by show 3 ≤ sizeLine; decide), fun D1 hD1 => ?_⟩
      have f1 := K1.Same.upd (H := H16) (p := D1) (o := .tup [.str "road", .str one, .str other]) hD1
      have gD1 := upd_same' H16 D1 (.tup [.str "road", .str one, .str other])
      generalize L2.upd H16 D1 (.tup [.str "road", .str one, .str other]) = H17 at f1 gD1 ⊢
      refine ⟨_, rfl, _, rfl, (by show 3 ≤ sizeLine; decide), fun D2 hD2 => ?_⟩
      have f2 := K1.Same.upd (H := H17) (p := D2) (o := .tup [.str "road", .str other, .str one]) hD2
      have gD2 := upd_same' H17 D2 (.tup [.str "road", .str other, .str one])
      generalize L2.upd H17 D2 (.tup [.str "road", .str other, .str one]) = H18 at f2 gD2 ⊢
      refine ⟨(by show 2 ≤ sizeLine; decide), fun M hM => ?_⟩
      have f3 := K1.Same.upd (H := H18) (p := M) (o := .lst [.ref D1, .ref D2]) hM
      have gM := upd_same' H18 M (.lst [.ref D1, .ref D2])
      generalize L2.upd H18 M (.lst [.ref D1, .ref D2]) = H19 at f3 gM ⊢
      have f13 : Same H16 H19 := f1.trans (f2.trans f3)
      have s3 : ∀ {a b : Str}, Paired (NextF R1 H19) [.str "road", .str a, .str b] [.str "road", .str a, .str b] := fun {a b} => .cons (r_str _) (.cons (r_str _) (.cons (r_str _) .nil))
      refine ⟨_, _, rfl, show NextF (NextF (NextF R1)) H19 (.ref Fd) (.ref M) from r_lists (f13 _ _ g16) gM (by show 2 ≤ 100; decide) (.cons (r_tups (f13 _ _ g16p) (f3 _ _ (f2 _ _ gD1)) (by show 3 ≤ 100; decide) s3) (.cons (r_tups (f13 _ _ g16q) (f3 _ _ gD2) (by show 3 ≤ 100; decide) s3) .nil)), fun H20 e20 => ?_⟩
      exact q H20 (x16.trans (LamX.ExtN.of (f13.trans e20))) (tabs_same T16 (f13.trans e20))
    · have hnb : nbB rs one other = true := by cases h : nbB rs one other <;> simp_all
      have hnb' : nbB rs other one = true := by rw [nbB_swap]; exact hnb
      refine nQ ?_
      with_reducible refine sQ ?_
      refine ⟨_, rfl, _, rfl, _, rfl, t, p1, p2, x3, qs, ss, rs, other, one, rfl, dv.same e08, tr, ok, hnb', fun SA HA eA nA gA => ?_⟩
      refine ⟨_, rfl, _, rfl, _, rfl, t, p1, p2, x3, qs, ss, rs, one, other, rfl, dv.same (e08.trans eA), tr, ok, hnb, fun SB HB eB nB gB => ?_⟩
      refine ⟨_, _, rfl, ?_⟩
      have gA2 := eB _ _ gA
      have e0B := e08.trans (eA.trans eB)
      have lsA : (sideL ss rs other one).length ≤ 60 := Nat.le_trans (List.length_filter_le _ _) hl
      have lsB : (sideL ss rs one other).length ≤ 60 := Nat.le_trans (List.length_filter_le _ _) hl
      with_reducible refine sQ ?_
      refine ⟨_, rfl, x, dx, fs, rfl, e0B _ _ gx, n3, _, rfl, _, rfl, x, .str one, .str other, ss, rs, ns, rfl, iv.same e0B, tr, by omega, .inr ⟨one, rfl, ho, .inr ⟨other, rfl, hto, .inr ⟨hnb, fun r1 H9 e9 nr1 g9 => ?_⟩⟩⟩⟩
      have e09 := e0B.trans e9
      refine ⟨_, rfl, x, dx, fs, rfl, e09 _ _ gx, n3, _, rfl, _, rfl, rfl, x, .str other, .str one, ss, rs, ns, rfl, iv.same e09, tr, by omega, .inr ⟨other, rfl, hto, .inr ⟨one, rfl, ho, .inr ⟨hnb', fun r2 H10 e10 nr2 g10 => ?_⟩⟩⟩⟩
      refine ⟨(by show 2 ≤ sizeLine; decide), fun L hL => ?_⟩
      have e11 := K1.Same.upd (H := H10) (p := L) (o := .lst [.ref r1, .ref r2]) hL
      have g11 := upd_same' H10 L (.lst [.ref r1, .ref r2])
      generalize L2.upd H10 L (.lst [.ref r1, .ref r2]) = H11 at e11 g11 ⊢
      refine K1.gN ?_
      with_reducible refine sQ ?_
      refine ⟨_, rfl, _, rfl, _, rfl, (by show 2 ≤ sizeLine; decide), fun M hM => ?_⟩
      have e13 := K1.Same.upd (H := H11) (p := M) (o := .lst [.ref SB, .ref SA]) hM
      have g13 := upd_same' H11 M (.lst [.ref SB, .ref SA])
      generalize L2.upd H11 M (.lst [.ref SB, .ref SA]) = H13 at e13 g13 ⊢
      have eB13 : Same HB H13 := e9.trans (e10.trans (e11.trans e13))
      refine ⟨_, _, rfl, show NextF (NextF (NextF R1)) H13 (.ref L) (.ref M) from r_lists (e13 _ _ g11) g13 (by show 2 ≤ 100; decide) (.cons (r_lists (e13 _ _ (e11 _ _ (e10 _ _ g9))) (eB13 _ _ gB) (by rw [List.length_map]; omega) (r_strs _)) (.cons (r_lists (e13 _ _ (e11 _ _ g10)) (eB13 _ _ gA2) (by rw [List.length_map]; omega) (r_strs _)) .nil)), fun H14 e14 => ⟨_, rfl, ?_⟩⟩
      refine iteF ?_
      have eB14 := eB13.trans e14
      have e0_14 := e0B.trans eB14
      refine ⟨_, rfl, _, rfl, SA, SB, _, _, rfl, rfl, eB14 _ _ gA2, eB14 _ _ gB, by rw [List.length_map, List.length_map]; exact Nat.le_trans (Nat.add_le_add lsA lsB) (by decide), fun S1 hS1 => ?_⟩
      have e15 := K1.Same.upd (H := H14) (p := S1) (o := .lst ((sideL ss rs other one).map V.str ++ (sideL ss rs one other).map V.str)) hS1
      have g15 : L2.upd H14 S1 (.lst ((sideL ss rs other one).map V.str ++ (sideL ss rs one other).map V.str)) S1 = some (.lst ((sideL ss rs other one ++ sideL ss rs one other).map V.str)) := by rw [upd_same, List.map_append]
      generalize L2.upd H14 S1 (.lst ((sideL ss rs other one).map V.str ++ (sideL ss rs one other).map V.str)) = H15 at e15 g15 ⊢
      have pm : (sideL ss rs other one ++ sideL ss rs one other).Perm ss := by
        have e : sideL ss rs other one = ss.filter fun z => !(decide (Rch rs one other z)) := by
          unfold sideL
          refine List.filter_congr fun z hz => ?_
          rw [Bool.eq_iff_iff, decide_eq_true_eq, Bool.not_eq_true', decide_eq_false_iff_not]
          exact tr.sides hnb hz
        rw [e]
        exact List.perm_append_comm.trans (List.filter_append_perm _ ss)
      refine ⟨S1, _, rfl, SqL.of g15, by rw [pm.length_eq]; omega, fun ys S2 py sy nS2 => ?_⟩
      have e16 := K1.Same.upd (H := H15) (p := S2) (o := .lst (ys.map V.str)) nS2
      have g16 := upd_same' H15 S2 (.lst (ys.map V.str))
      generalize L2.upd H15 S2 (.lst (ys.map V.str)) = H16 at e16 g16 ⊢
      have e0_16 := e0_14.trans (e15.trans e16)
      refine ⟨_, rfl, t, _, _, _, rfl, rfl, SqT.of (e0_16 _ _ dv.t0), (rfl : atI [V.ref p1, V.ref p2, x3] 0 = some (.ref p1)), p1, _, rfl, SqL.of (e0_16 _ _ dv.h1), by omega, fun zs S3 pz sz nS3 => ?_⟩
      have e17 := K1.Same.upd (H := H16) (p := S3) (o := .lst (zs.map V.str)) nS3
      have g17 := upd_same' H16 S3 (.lst (zs.map V.str))
      generalize L2.upd H16 S3 (.lst (zs.map V.str)) = H17 at e17 g17 ⊢
      obtain rfl : ys = zs := sorted_uniq (py.trans (pm.trans pz.symm)) sy sz
      have shp : ∀ s ∈ ys, nameOk s = true := fun s hs => ok s (pz.mem_iff.mp hs)
      refine ⟨dN ys, dN ys, dp_dN (e17 _ _ g16), dp_dN g17, shaped_dN shp, shaped_dN shp, _, rfl, ?_⟩
      rw [eqv_dN, decide_eq_true rfl]
      refine iteF ?_
      have eB17 : Same HB H17 := eB14.trans (e15.trans (e16.trans e17))
      have g18L := e17 _ _ (e16 _ _ (e15 _ _ (e14 _ _ (e13 _ _ g11))))
      have g18r := e17 _ _ (e16 _ _ (e15 _ _ (e14 _ _ (e13 _ _ (e11 _ _ (e10 _ _ g9))))))
      refine nQ ?_
      with_reducible refine sQ ?_
      refine ⟨_, rfl, L, _, _, _, rfl, rfl, SqL.of g18L, atI_nat (j := 0) rfl, .inl ⟨rfl, _, SqL.of g18r⟩, r1, _, rfl, rfl, g18r, ?_⟩
      have eB18 : Same HB (L2.upd H17 r1 (.lst [])) := same_upd eB17 nr1
      generalize L2.upd H17 r1 (.lst []) = H18 at eB18 ⊢
      have e0_18 := e0B.trans eB18
      refine ⟨_, rfl, x, dx, fs, rfl, e0_18 _ _ gx, n3, _, rfl, _, rfl, x, .str one, .str other, ss, rs, ns, rfl, iv.same e0_18, tr, by omega, .inr ⟨one, rfl, ho, .inr ⟨other, rfl, hto, .inr ⟨hnb, fun r3 H19 e19 nr3 g19 => ?_⟩⟩⟩⟩
      refine ⟨_, rfl, _, _, rfl, show NextF (NextF R2') H19 (.ref r3) (.ref SB) from r_lists g19 (e19 _ _ (eB18 _ _ gB)) (by rw [List.length_map]; omega) (r_strs _), fun H20 e20 => ?_⟩
      have fin : Same H H20 := e0_18.trans (e19.trans e20)
      exact q H20 (LamX.ExtN.of fin) (tabs_same tb fin)
end
end K1
end
-- NMade
section
set_option Elab.async false
set_option linter.all false
set_option maxRecDepth 100000
set_option maxHeartbeats 4000000
namespace K1
open PySem PySem.Spec PyProof.Rows L2
/-- the Valley's lists are not the spring -/
def OffV (a l1 l2 l3 : Addr) (bs : Str → Addr) (ss : List Str) : Prop := l1 ≠ a ∧ l2 ≠ a ∧ l3 ≠ a ∧ ∀ s ∈ ss, bs s ≠ a
theorem ValS.kept {C a : Addr} {H H' : Hp} {x l1 l2 l3 d1 d2 d3 : Addr} {qs : List Addr} {bs : Str → Addr} {ss : List Str} {rs : List (Str × Str)} {ns : List Int} {n : Nat} (v : ValS C H x l1 l2 l3 d1 d2 d3 qs bs ss rs ns) (o : OffV a l1 l2 l3 bs ss) (s : Spr H a n) (k : Kept a H H') : ValS C H' x l1 l2 l3 d1 d2 d3 qs bs ss rs ns := by
  obtain ⟨dx, fs, h, r⟩ := v.ins
  obtain ⟨k2, a2, b2⟩ := v.p2
  obtain ⟨k3, a3, b3⟩ := v.p3
  obtain ⟨u, y, z, es, _⟩ := s
  have off : ∀ b o, H b = some o → (∀ xs, o ≠ .lst xs) → b ≠ a := fun b o e n z => by
    rw [z, es] at e
    exact n _ (Option.some.inj e).symm
  exact ⟨⟨dx, fs, k _ _ (off _ _ h fun _ z => by cases z) h, r⟩, k _ _ o.1 v.h1, k _ _ o.2.1 v.h2, paired_imp (fun _ _ q => k _ _ (off _ _ q fun _ z => by cases z) q) v.pr, k _ _ o.2.2.1 v.h3, k _ _ (off _ _ v.p1 fun _ z => by cases z) v.p1, ⟨k2, k _ _ (off _ _ a2 fun _ z => by cases z) a2, b2⟩, ⟨k3, k _ _ (off _ _ a3 fun _ z => by cases z) a3, b3⟩, fun s hs => k _ _ (o.2.2.2 s hs) (v.nb s hs)⟩
def spMd (C : Addr) : Sp := fun vs H Q _ => ∃ (a t p1 p2 p3 : Addr) (qs : List Addr) (ss : List Str) (rs : List (Str × Str)) (ns : List Int) (n : Nat), vs = [.ref a, .ref t] ∧ Spr H a n ∧ n + 200 ≤ 1000000 ∧ VAt a H t p1 p2 p3 qs ss rs ns ∧ VOk ss rs ns ∧
  ∀ x l1 l2 l3 d1 d2 d3 qs' bs H', Kept a H H' → Spr H' a (n + 200) → ValS C H' x l1 l2 l3 d1 d2 d3 qs' bs ss rs ns → OffV a l1 l2 l3 bs ss → Q (.ref x) H'
/-- the three lists, handed in some way, make a Valley -/
theorem made_ofS {K : PySem.W.Frag} {C a x dx : Addr} {H H3 : Hp} {Q : VK} {E : XK} {y1 y2 y3 : V} {ss : List Str} {rs : List (Str × Str)} {ns : List Int} {n : Nat} (ok : VOk ss rs ns) (s3 : Spr H3 a n) (k3 : Kept a H H3) (s0 : H a ≠ none) (nx : H3 x = none) (ndx : H3 dx = none)
    (v1 : SeqV H3 y1 (ss.map V.str)) (v2 : ∃ vs, SeqV H3 y2 vs ∧ Paired (PairV H3) vs rs) (v3 : SeqV H3 y3 (ns.map V.int))
    (q : ∀ l1 l2 l3 d1 d2 d3 qs' bs H', Kept a H H' → Spr H' a n → ValS C H' x l1 l2 l3 d1 d2 d3 qs' bs ss rs ns → OffV a l1 l2 l3 bs ss → Same H3 H' → Q .non H') :
    spVS K C ([.ref x, y1, y2, y3]) (L2.upd (L2.upd H3 dx (.own x)) x (.ins C dx [])) Q E := by
  have e := same_make (C := C) nx ndx
  obtain ⟨vs, a1, a2⟩ := v2
  have hne : ss ≠ [] := fun z => by have := ok.pos; rw [z] at this; simp at this
  refine ⟨x, y1, y2, y3, dx, ss, rs, ns, rfl, upd_same, ⟨v1.ext e, hne, by have := ok.le; omega, ok.good⟩, ⟨vs, a1.ext e, paired_imp (fun _ _ q => SeqV.ext q e) a2, ok.ends, ok.cut.forest, ok.rl⟩, ⟨v3.ext e, ok.ge, ok.nl⟩, fun H' l1 l2 l3 d1 d2 d3 qs bs k v nv => ?_⟩
  have ax : a ≠ x := fun z => by
    rw [← z] at nx
    exact s3.kept nx
  have back : ∀ {z}, L2.upd (L2.upd H3 dx (.own x)) x (.ins C dx []) z = none → H3 z = none := fun {z} hz => by
    cases q : H3 z with
    | none => rfl
    | some o => rw [e _ _ q] at hz; cases hz
  have sm : Same H3 H' := fun b o eb => k b o (ne_of_none eb nx) (e b o eb)
  exact q l1 l2 l3 d1 d2 d3 qs bs H' (k3.trans (Kept.same sm)) (s3.same sm) v ⟨s3.ne (back nv.1), s3.ne (back nv.2.1), s3.ne (back nv.2.2.1), fun s hs => s3.ne (back (nv.2.2.2.2.2.2.2 s hs))⟩ sm
section
variable {P : Program} {w : World} {K : PySem.W.Frag} {mg : Str → Option Value} {base : Heap} {C fL fV : Addr} {fdL fdV : FuncData}
theorem ok_Md {f : Addr} {fd : FuncData} (F : Fun K "_law_v_made" "_law_v_made" sVM f fd) (mV : mg "Valley" = some (.ref C)) (M : Mk K C fV)
    (GV : FnOk P w K mg base (L2.CX P w) 5 fV fdV ["self", "houses", "roads", "heads"] (spVS K C)) (bV : Binds K fdV ["self", "houses", "roads", "heads"] [])
    (GL1 : FnOk P w K mg base CX0 2 fL fdL ["spring", "thing"] (spLo (SeqR (Flat0 K)) 1)) (GL2 : FnOk P w K mg base CX0 3 fL fdL ["spring", "thing"] (spLo (SeqR (SeqR (Flat0 K))) 61))
    (bL : Binds K fdL ["spring", "thing"] []) (kL : PySem.W.keepIn K (.ref fL) = true) (mL : mg "_law_loose" = some (.ref fL)) :
    FnOk P w K mg base CX0 7 f fd ["spring", "valley"] (spMd C) := by
  refine F.ok scVM (fun vs H Q E h => ?_) (fun cdv A outer s H vs Q E hr h => ?_)
  · obtain ⟨a, t, p1, p2, p3, qs, ss, rs, ns, n, rfl, _⟩ := h
    rfl
  obtain ⟨a, t, p1, p2, p3, qs, ss, rs, ns, n, rfl, hs, hn, v, ok, q⟩ := h
  have hrA : Room 2 _ := hr.mono (by decide)
  have hrB : Room 3 _ := hr.mono (by decide)
  refine ⟨_, (pss_one (by exact (ps_ret (pe_make M GV hr rfl mV bV .nil passL (pa_cons (pe_call GL1 hrA rfl mL kL bL .nil pass0 (pa_cons (pv 0) (pa_cons (pe_ix ix_tup (pv 1) pe_int (fun _ _ => rfl)) pa_nil))) (pa_cons (pe_call GL2 hrB rfl mL kL bL .nil pass0 (pa_cons (pv 0) (pa_cons (pe_ix ix_tup (pv 1) pe_int (fun _ _ => rfl)) pa_nil))) (pa_cons (pe_call GL1 hrA rfl mL kL bL .nil pass0 (pa_cons (pv 0) (pa_cons (pe_ix ix_tup (pv 1) pe_int (fun _ _ => rfl)) pa_nil))) pa_nil))))))), ?_⟩
  have zz : ∀ {Hx : Hp} {m : Nat}, Spr Hx a m → ∀ z, z = a → Hx z ≠ none := fun s z e => by rw [e]; exact s.kept
  have i0 : atI [V.ref p1, V.ref p2, V.ref p3] 0 = some (.ref p1) := rfl
  have i1 : atI [V.ref p1, V.ref p2, V.ref p3] 1 = some (.ref p2) := rfl
  have i2 : atI [V.ref p1, V.ref p2, V.ref p3] 2 = some (.ref p3) := rfl
  have pl := ok.le
  refine ⟨_, rfl, _, rfl, t, _, _, _, rfl, rfl, SqT.of v.t0, i0, a, _, ss.map V.str, n, fun z => z = a, rfl, hs, by omega, rfl, zz hs, ⟨ss.map V.str, ⟨p1, rfl, .inl (wo_some.mpr ⟨v.n1, v.h1⟩)⟩, by rw [List.length_map]; exact pl, paired_same fun x hx => ?_⟩, fun y1 H1 k1 s1 r1 => ?_⟩
  · obtain ⟨s, _, rfl⟩ := List.mem_map.mp hx
    exact flat_str s
  have v1 := v.kept hs k1
  refine ⟨_, rfl, _, rfl, t, _, _, _, rfl, rfl, SqT.of v1.t0, i1, a, _, rs.map prV, _, fun z => z = a, rfl, s1, by omega, rfl, zz s1, ⟨qs.map V.ref, ⟨p2, rfl, .inl (wo_some.mpr ⟨v.n2, v1.h2⟩)⟩, by rw [List.length_map]; have := ok.rl; omega, ?_⟩, fun y2 H2 k2 s2 r2 => ?_⟩
  · have : Paired (fun (q : Addr) (r : Str × Str) => SeqR (Flat0 K) (wo (fun z => z = a) H1) (.ref q) (prV r)) qs rs := paired_imp (fun qq r e => ⟨prV r, ⟨qq, rfl, .inr (wo_some.mpr ⟨s1.tup e, e⟩)⟩, by show 2 ≤ 60; decide, .cons (flat_str _) (.cons (flat_str _) .nil)⟩) v1.pr
    have h2 : ∀ {as : List Addr} {bs : List (Str × Str)}, Paired (fun (q : Addr) (r : Str × Str) => SeqR (Flat0 K) (wo (fun z => z = a) H1) (.ref q) (prV r)) as bs → Paired (SeqR (Flat0 K) (wo (fun z => z = a) H1)) (as.map V.ref) (bs.map prV) := by
      intro as bs h
      induction h with
      | nil => exact .nil
      | cons f1 f2 ih => exact .cons f1 ih
    exact h2 this
  have v2 := v1.kept s1 k2
  refine ⟨_, rfl, _, rfl, t, _, _, _, rfl, rfl, SqT.of v2.t0, i2, a, _, ns.map V.int, _, fun z => z = a, rfl, s2, by omega, rfl, zz s2, ⟨ns.map V.int, ⟨p3, rfl, .inl (wo_some.mpr ⟨v.n3, v2.h3⟩)⟩, by rw [List.length_map, ok.nl]; exact pl, paired_same fun x hx => ?_⟩, fun y3 H3 k3 s3 r3 => ?_⟩
  · obtain ⟨s, _, rfl⟩ := List.mem_map.mp hx
    exact flat_int s
  have w1 : Same (wo (fun z => z = a) H1) H3 := Same.trans (wo_same fun b o nb e => k2 b o nb e) (Same.trans (wo_same fun b o nb e => k3 b o nb e) wo_out)
  have w2 : Same (wo (fun z => z = a) H2) H3 := Same.trans (wo_same fun b o nb e => k3 b o nb e) wo_out
  obtain ⟨vs1, sv1, _, q1⟩ := r1
  obtain ⟨vs2, sv2, _, q2⟩ := r2
  obtain ⟨vs3, sv3, _, q3⟩ := r3
  rw [flat_eq q1] at sv1
  rw [flat_eq q3] at sv3
  intro x dx nx ndx nex
  refine made_ofS ok s3 (k1.trans (k2.trans k3)) hs.kept nx ndx (sv1.ext w1) ⟨vs2, sv2.ext w2, ?_⟩ (sv3.ext wo_out) fun l1 l2 l3 d1 d2 d3 qs' bs H' kk ss' vv ov sm => ⟨rfl, ?_⟩
  · refine paired_imp (fun x r h => ?_) (paired_map q2)
    obtain ⟨us, su, _, qu⟩ := h
    rw [flat_eq qu] at su
    exact SeqV.ext su w2
  · exact q x l1 l2 l3 d1 d2 d3 qs' bs H' kk (ss'.mono (by omega)) vv ov
end
end K1
end
-- NOdd
section
set_option Elab.async false
set_option linter.all false
set_option maxRecDepth 100000
set_option maxHeartbeats 1000000
namespace K1
open PySem PySem.Spec PyProof.Rows L2
abbrev sOdd : Stmt := top 38
/-! displays, over a heap that is known: what they make is new, all else stays -/
abbrev PV := Hp → V → Prop
structure Mr (H0 : Hp) (t : TE) (σ : L2.St) (P : PV) : Prop where
  mono : ∀ H H' v, Same H H' → P H v → P H' v
  run : ∀ H, Same H0 H → ∀ Q : VK, (∀ v H', Same H H' → P H' v → Q v H') → t σ H Q
structure MrA (H0 : Hp) (t : TA) (σ : L2.St) (Ps : List PV) : Prop where
  mono : ∀ P ∈ Ps, ∀ H H' v, Same H H' → P H v → P H' v
  run : ∀ H, Same H0 H → ∀ Q : List V → Hp → Prop, (∀ vs H', Same H H' → Paired (fun v P => P H' v) vs Ps → Q vs H') → t σ H Q
abbrev eqP (x : V) : PV := fun _ v => v = x
def tupP (Ps : List PV) : PV := fun H v => ∃ p xs, v = .ref p ∧ H p = some (.tup xs) ∧ Paired (fun v P => P H v) xs Ps
def lstP (Ps : List PV) : PV := fun H v => ∃ p xs, v = .ref p ∧ H p = some (.lst xs) ∧ Paired (fun v P => P H v) xs Ps
def dicP : PV := fun H v => ∃ p, v = .ref p ∧ H p = some (.dK [])
section
variable {H0 : Hp} {σ : L2.St} {t : TE} {ta : TA} {P : PV} {Ps : List PV}
theorem mr_c (x : V) : Mr H0 (tC x) σ (eqP x) := ⟨fun _ _ _ _ h => h, fun H _ Q q => q x H (Same.refl _) rfl⟩
theorem mr_v {i : Nat} {x : V} (h : σ[i]? = some (some x) := by rfl) : Mr H0 (tVar i) σ (eqP x) := ⟨fun _ _ _ _ h => h, fun H _ Q q => ⟨x, h, q x H (Same.refl _) rfl⟩⟩
theorem mr_ix {K : PySem.W.Frag} {i : Nat} {p : Addr} {xs : List V} {x : V} (h : σ[i]? = some (some (.ref p))) (hp : H0 p = some (.lst xs)) (hx : atI xs 0 = some x) : Mr H0 (tOp (rIxL K) (tVar i) (tC (.int 0))) σ (eqP x) :=
  ⟨fun _ _ _ _ h => h, fun H e Q q => ⟨_, h, p, xs, 0, x, rfl, rfl, SqL.of (e _ _ hp), hx, q x H (Same.refl _) rfl⟩⟩
theorem mr_nil : MrA H0 tNil σ [] := ⟨fun P h => absurd h (by simp), fun H _ Q q => q [] H (Same.refl _) .nil⟩
theorem mr_cons (h1 : Mr H0 t σ P) (h2 : MrA H0 ta σ Ps) : MrA H0 (tCons t ta) σ (P :: Ps) := by
  refine ⟨fun P' h => ?_, fun H e Q q => h1.run H e _ fun v H1 e1 p1 => h2.run H1 (e.trans e1) _ fun vs H2 e2 p2 => q _ H2 (e1.trans e2) (.cons (h1.mono _ _ _ e2 p1) p2)⟩
  rcases List.mem_cons.mp h with rfl | h
  · exact h1.mono
  · exact h2.mono P' h
theorem paired_mono {H H' : Hp} (e : Same H H') : ∀ {xs : List V} {Ps : List PV}, (∀ P ∈ Ps, ∀ H H' v, Same H H' → P H v → P H' v) → Paired (fun v P => P H v) xs Ps → Paired (fun v P => P H' v) xs Ps
  | _, _, _, .nil => .nil
  | _, _, m, .cons f r => .cons (m _ (List.mem_cons_self ..) _ _ _ e f) (paired_mono e (fun P h => m P (List.mem_cons_of_mem _ h)) r)
theorem mr_tup (h : MrA H0 ta σ Ps) (l : Ps.length ≤ 1000 := by exact Nat.le_of_ble_eq_true rfl) : Mr H0 (tTup ta) σ (tupP Ps) := by
  refine ⟨fun H H' v e ⟨p, xs, a, b, c⟩ => ⟨p, xs, a, e _ _ b, paired_mono e h.mono c⟩, fun H e0 Q q => h.run H e0 _ fun vs H1 e1 p1 => ⟨?_, fun p hp => ?_⟩⟩
  · rw [p1.length]
    exact Nat.le_trans l (by decide)
  · have e := K1.Same.upd (H := H1) (p := p) (o := .tup vs) hp
    exact q _ _ (e1.trans e) ⟨p, vs, rfl, upd_same, paired_mono e h.mono p1⟩
theorem mr_lst (h : MrA H0 ta σ Ps) (l : Ps.length ≤ 1000 := by exact Nat.le_of_ble_eq_true rfl) : Mr H0 (tLst ta) σ (lstP Ps) := by
  refine ⟨fun H H' v e ⟨p, xs, a, b, c⟩ => ⟨p, xs, a, e _ _ b, paired_mono e h.mono c⟩, fun H e0 Q q => h.run H e0 _ fun vs H1 e1 p1 => ⟨?_, fun p hp => ?_⟩⟩
  · rw [p1.length]
    exact Nat.le_trans l (by decide)
  · have e := K1.Same.upd (H := H1) (p := p) (o := .lst vs) hp
    exact q _ _ (e1.trans e) ⟨p, vs, rfl, upd_same, paired_mono e h.mono p1⟩
theorem mr_dict : Mr H0 tDNewK σ dicP := ⟨fun H H' v e ⟨p, a, b⟩ => ⟨p, a, e _ _ b⟩, fun H _ Q q => fun p hp => q _ _ (K1.Same.upd hp) ⟨p, rfl, upd_same⟩⟩
end
/-- the nine things that are no house -/
def oddPs (s : Str) : List PV := [eqP .non, eqP (.int 5), eqP (.str "nobody"), eqP (.str ""), eqP (.bl true), lstP [eqP (.str s)], tupP [eqP (.str s)], dicP, eqP (.int 0)]
def spOdd : Sp := fun vs H Q _ => ∃ (p : Addr) (s : Str) (ss : List Str), vs = [.ref p] ∧ H p = some (.lst ((s :: ss).map V.str)) ∧ ∀ v H', Same H H' → lstP (oddPs s) H' v → Q v H'
theorem scOdd : FnScope ["names"] ["names"] (defScope sOdd) := ⟨rfl, rfl, rfl, by decide +kernel, rfl, by decide +kernel, by decide +kernel⟩
section
variable {P : Program} {w : World} {K : PySem.W.Frag} {mg : Str → Option Value} {base : Heap}
theorem ok_Odd {f : Addr} {fd : FuncData} (F : Fun K "_law_v_odd_houses" "_law_v_odd_houses" sOdd f fd) : FnOk P w K mg base CX0 1 f fd ["names"] spOdd := by
  refine F.ok scOdd (fun vs H Q E h => ?_) (fun cdv A outer s H vs Q E hr h => ?_)
  · obtain ⟨p, s, ss, rfl, _⟩ := h
    rfl
  obtain ⟨p, s, ss, rfl, hp, q⟩ := h
  refine ⟨_, (pss_one (by exact (ps_ret (pe_lst (pa_cons pe_non (pa_cons pe_int (pa_cons pe_str (pa_cons pe_str (pa_cons pe_bl (pa_cons (pe_lst (pa_cons (pe_ix ix_list (pv 0) pe_int (fun _ _ => rfl)) pa_nil)) (pa_cons (pe_tup (pa_cons (pe_ix ix_list (pv 0) pe_int (fun _ _ => rfl)) pa_nil)) (pa_cons pe_dnewK (pa_cons pe_int pa_nil))))))))))))), ?_⟩
  have a0 : atI ((s :: ss).map V.str) 0 = some (.str s) := atI_nat (j := 0) rfl
  have ix : ∀ {K : PySem.W.Frag}, Mr H (tOp (rIxL K) (tVar 0) (tC (.int 0))) (L2.start ["names"] [.ref p]) (eqP (.str s)) := mr_ix rfl hp a0
  exact (mr_lst (mr_cons (mr_c _) (mr_cons (mr_c _) (mr_cons (mr_c _) (mr_cons (mr_c _) (mr_cons (mr_c _) (mr_cons (mr_lst (mr_cons ix mr_nil)) (mr_cons (mr_tup (mr_cons ix mr_nil)) (mr_cons mr_dict (mr_cons (mr_c _) mr_nil)))))))))).run H (Same.refl _) _ fun v H' e h => q v H' e h
end
end K1
end
-- NRef
section
set_option Elab.async false
set_option linter.all false
set_option maxRecDepth 100000
set_option maxHeartbeats 4000000
namespace K1
open PySem PySem.Spec PyProof.Rows L2
abbrev sRef : Stmt := top 43
theorem scRef : FnScope ["made", "valley", "one", "odd", "found", "held", "known", "due"] ["made", "valley"] (defScope sRef) := ⟨rfl, rfl, rfl, by decide +kernel, rfl, by decide +kernel, by decide +kernel⟩
def qRef : Str := "_law_refused_right.<locals>." ++ "<lambda>"
def R5 : RelE := NextF R4
def R6 : RelE := NextF R5
section
variable {P : Program} {w : World} {K : PySem.W.Frag} {mg : Str → Option Value} {base : Heap} {C CN CO : Addr}
/-- the body has a reading -/
theorem has_ref {f c TP fm : Addr} {fdm : FuncData} {A : Around} {outer : List Env} {s : Shared} {H : Hp} {E : XK} (T : Cls K C) (B : Bl mg)
    (MG : MetG K mg CN CO) (Fm : Fun K "_law_met" "_law_met" sMt fm fdm) (bm : Binds K fdm ["ask"] []) (mm : mg "_law_met" = some (.ref fm)) (TB : LamX.TabB base mg c TP) {TT : List (Addr × Str)} (hT : (TP, qRef) ∈ TT) (hU : ∀ p ∈ TT, p.1 = TP → p.2 = qRef)
    (hS : Fz P w K mg base CX0 6 "_law_same" ["found", "due"] (spSm R6)) (hO : Fz P w K mg base CX0 1 "_law_v_odd_houses" ["names"] spOdd)
    (hBe : Mz P w K mg base C 4 "beside" ["self", "house"] ["house"] kw1R kw1V (spBe K C CN)) (hWa : Mz P w K mg base C 4 "way" ["self", "one", "other"] ["other", "one"] kw2R kw2V (spWa K C CN)) (hSi : Mz P w K mg base C 5 "side" ["self", "one", "other"] ["other", "one"] kw2R kw2V (spSi K C CN CO))
    (hr8 : Room 8 (cxOf CX0 P w K mg base ["made", "valley", "one", "odd", "found", "held", "known", "due"] "_law_refused_right" (defScope sRef) f (.ref c) A outer s H E).nox.A) :
    ∃ t0, PSs (cxOf CX0 P w K mg base ["made", "valley", "one", "odd", "found", "held", "known", "due"] "_law_refused_right" (defScope sRef) f (.ref c) A outer s H E).nox (defBody sRef) t0 := by
  obtain ⟨fS, fdS, GS, bS, kS, mS⟩ := hS
  obtain ⟨fO, fdO, GO, bO, kO, mO⟩ := hO
  obtain ⟨fB, fdB, GB, bB, nB, hB⟩ := hBe
  obtain ⟨fA, fdA, GA, bA, nA, hA⟩ := hWa
  obtain ⟨fI, fdI, GI, bI, nI, hI⟩ := hSi
  obtain ⟨ocm, odm, kVm, docm, pmm, anm, cdvm, ctm, oslm, rfl, lkm, hcm⟩ := Fm.ex
  have km := Fm.kp
  have nd := scRef.nd
  have hu64 := hu_of hr8
  have hr1 : Room 1 _ := hr8.mono (by decide)
  have hr6 : Room 6 _ := hr8.mono (by decide)
  refine ⟨_, (pss_cons (by exact (ps_set (i := 2) nd rfl (.inr rfl) (pe_ix ix_list (pe_ix ix_tup (pv 1) pe_int (fun _ _ => rfl)) pe_int (fun _ _ => rfl))))
  (pss_cons (by exact (ps_for PassesOwn.never rfl (by exact pi_list (pe_call GO hr1 rfl mO kO bO .nil pass0 (pa_cons (pe_ix ix_tup (pv 1) pe_int (fun _ _ => rfl)) pa_nil))) (pg_name (i := 3) nd rfl (.inr rfl)) (pss_cons (by exact (ps_set (i := 4) nd rfl (.inl rfl) (pe_lst (pa_cons (LamX.pe_lamcall (k := 6) (t := fun E => tMeth C "beside" (spBe K C CN) [] E (tVar 0) (tCons (tVar 3) tNil)) rfl mm km lkm hcm bm scMt rfl (.inl rfl) (mt_gives MG) TB rfl hT hU (by exact hr8) (LamX.lamS_by (by with_unfolding_all rfl)) rfl (fun _ _ _ _ _ => rfl) (fun A outer s H E f c' hz => by exact (pe_meth (pv 0) T hB GB (hz.mono (by decide)) bB .nil (passes_call (takes_of rfl rfl rfl rfl) (fun _ _ _ _ h => h)) (pa_cons (pv 3) pa_nil)))) pa_nil))))
  (pss_cons (by exact (ps_expr (pe_bm PySem.F.plainAttrs_list PySem.F.slot_list_append PySem.F.type_list_append mt_append (pv 4) (pa_cons (LamX.pe_lamcall (k := 6) (t := fun E => tMeth C "way" (spWa K C CN) [] E (tVar 0) (tCons (tVar 3) (tCons (tC .non) tNil))) rfl mm km lkm hcm bm scMt rfl (.inl rfl) (mt_gives MG) TB rfl hT hU (by exact hr8) (LamX.lamS_by (by with_unfolding_all rfl)) rfl (fun _ _ _ _ _ => rfl) (fun A outer s H E f c' hz => by exact (pe_meth (pv 0) T hA GA (hz.mono (by decide)) bA .nil (passes_call (takes_of rfl rfl rfl rfl) (fun _ _ _ _ h => h)) (pa_cons (pv 3) (pa_cons pe_non pa_nil))))) pa_nil))))
  (pss_cons (by exact (ps_expr (pe_bm PySem.F.plainAttrs_list PySem.F.slot_list_append PySem.F.type_list_append mt_append (pv 4) (pa_cons (LamX.pe_lamcall (k := 6) (t := fun E => tMeth C "way" (spWa K C CN) [] E (tVar 0) (tCons (tVar 2) (tCons (tVar 3) tNil))) rfl mm km lkm hcm bm scMt rfl (.inl rfl) (mt_gives MG) TB rfl hT hU (by exact hr8) (LamX.lamS_by (by with_unfolding_all rfl)) rfl (fun _ _ _ _ _ => rfl) (fun A outer s H E f c' hz => by exact (pe_meth (pv 0) T hA GA (hz.mono (by decide)) bA .nil (passes_call (takes_of rfl rfl rfl rfl) (fun _ _ _ _ h => h)) (pa_cons (pv 2) (pa_cons (pv 3) pa_nil))))) pa_nil))))
  (pss_cons (by exact (ps_expr (pe_bm PySem.F.plainAttrs_list PySem.F.slot_list_append PySem.F.type_list_append mt_append (pv 4) (pa_cons (LamX.pe_lamcall (k := 6) (t := fun E => tMeth C "side" (spSi K C CN CO) [] E (tVar 0) (tCons (tVar 3) (tCons (tC .non) tNil))) rfl mm km lkm hcm bm scMt rfl (.inl rfl) (mt_gives MG) TB rfl hT hU (by exact hr8) (LamX.lamS_by (by with_unfolding_all rfl)) rfl (fun _ _ _ _ _ => rfl) (fun A outer s H E f c' hz => by exact (pe_meth (pv 0) T hI GI (hz.mono (by decide)) bI .nil (passes_call (takes_of rfl rfl rfl rfl) (fun _ _ _ _ h => h)) (pa_cons (pv 3) (pa_cons pe_non pa_nil))))) pa_nil))))
  (pss_cons (by exact (ps_expr (pe_bm PySem.F.plainAttrs_list PySem.F.slot_list_append PySem.F.type_list_append mt_append (pv 4) (pa_cons (LamX.pe_lamcall (k := 6) (t := fun E => tMeth C "side" (spSi K C CN CO) [] E (tVar 0) (tCons (tVar 2) (tCons (tVar 3) tNil))) rfl mm km lkm hcm bm scMt rfl (.inl rfl) (mt_gives MG) TB rfl hT hU (by exact hr8) (LamX.lamS_by (by with_unfolding_all rfl)) rfl (fun _ _ _ _ _ => rfl) (fun A outer s H E f c' hz => by exact (pe_meth (pv 0) T hI GI (hz.mono (by decide)) bI .nil (passes_call (takes_of rfl rfl rfl rfl) (fun _ _ _ _ h => h)) (pa_cons (pv 2) (pa_cons (pv 3) pa_nil))))) pa_nil))))
  (pss_one (by exact (ps_if (pt_not (pt_val (pe_call GS hr6 rfl mS kS bS .nil pass0 (pa_cons (pv 4) (pa_cons (pe_op op_rep (pe_lst (pa_cons (pe_tup (pa_cons pe_str (pa_cons (pv 3) pa_nil))) pa_nil)) pe_int) pa_nil))))) (pss_one (by exact (ps_ret pe_bl))) pss_nil))))))))))
  (pss_cons (by exact (ps_asg (pe_tup (pa_cons (pe_lst (pa_cons pe_str pa_nil)) (pa_cons (pe_callTy (call_dictP rfl) rfl B.dict PyProof.Rows.boot_dict (pa_cons (pe_lst (pa_cons (pe_tup (pa_cons pe_str (pa_cons pe_int pa_nil))) pa_nil)) pa_nil)) pa_nil))) (pg_tup rfl (pgs_cons (pg_name (i := 5) nd rfl (.inr rfl)) (pgs_cons (pg_name (i := 6) nd rfl (.inr rfl)) pgs_nil)))))
  (pss_cons (by exact (ps_set (i := 4) nd rfl (.inl rfl) (pe_lst (pa_cons (LamX.pe_lamcall (k := 6) (t := fun E => tMeth C "beside" (spBe K C CN) [] E (tVar 0) (tCons (tVar 5) tNil)) rfl mm km lkm hcm bm scMt rfl (.inl rfl) (mt_gives MG) TB rfl hT hU (by exact hr8) (LamX.lamS_by (by with_unfolding_all rfl)) rfl (fun _ _ _ _ _ => rfl) (fun A outer s H E f c' hz => by exact (pe_meth (pv 0) T hB GB (hz.mono (by decide)) bB .nil (passes_call (takes_of rfl rfl rfl rfl) (fun _ _ _ _ h => h)) (pa_cons (pv 5) pa_nil)))) pa_nil))))
  (pss_cons (by exact (ps_expr (pe_bm PySem.F.plainAttrs_list PySem.F.slot_list_append PySem.F.type_list_append mt_append (pv 4) (pa_cons (LamX.pe_lamcall (k := 6) (t := fun E => tMeth C "way" (spWa K C CN) [] E (tVar 0) (tCons (tVar 2) (tCons (tVar 6) tNil))) rfl mm km lkm hcm bm scMt rfl (.inl rfl) (mt_gives MG) TB rfl hT hU (by exact hr8) (LamX.lamS_by (by with_unfolding_all rfl)) rfl (fun _ _ _ _ _ => rfl) (fun A outer s H E f c' hz => by exact (pe_meth (pv 0) T hA GA (hz.mono (by decide)) bA .nil (passes_call (takes_of rfl rfl rfl rfl) (fun _ _ _ _ h => h)) (pa_cons (pv 2) (pa_cons (pv 6) pa_nil))))) pa_nil))))
  (pss_cons (by exact (ps_expr (pe_bm PySem.F.plainAttrs_list PySem.F.slot_list_append PySem.F.type_list_append mt_append (pv 4) (pa_cons (LamX.pe_lamcall (k := 6) (t := fun E => tMeth C "side" (spSi K C CN CO) [] E (tVar 0) (tCons (tVar 5) (tCons (tVar 2) tNil))) rfl mm km lkm hcm bm scMt rfl (.inl rfl) (mt_gives MG) TB rfl hT hU (by exact hr8) (LamX.lamS_by (by with_unfolding_all rfl)) rfl (fun _ _ _ _ _ => rfl) (fun A outer s H E f c' hz => by exact (pe_meth (pv 0) T hI GI (hz.mono (by decide)) bI .nil (passes_call (takes_of rfl rfl rfl rfl) (fun _ _ _ _ h => h)) (pa_cons (pv 5) (pa_cons (pv 2) pa_nil))))) pa_nil))))
  (pss_cons (by exact (ps_expr (pe_bm PySem.F.plainAttrs_list PySem.F.slot_list_append PySem.F.type_list_append mt_append (pv 5) (pa_cons pe_str pa_nil))))
  (pss_cons (by exact (ps_dput hu64 (pv 6) pe_str pe_int rfl))
  (pss_cons (by exact (ps_set (i := 7) nd rfl (.inl rfl) (pe_lst (pa_cons (pe_tup (pa_cons pe_str (pa_cons (pe_lst (pa_cons pe_str (pa_cons pe_str pa_nil))) pa_nil))) (pa_cons (pe_tup (pa_cons pe_str (pa_cons (pe_callTy (call_dictP rfl) rfl B.dict PyProof.Rows.boot_dict (pa_cons (pe_lst (pa_cons (pe_tup (pa_cons pe_str (pa_cons pe_int pa_nil))) (pa_cons (pe_tup (pa_cons pe_str (pa_cons pe_int pa_nil))) pa_nil))) pa_nil)) pa_nil))) (pa_cons (pe_tup (pa_cons pe_str (pa_cons (pe_lst (pa_cons pe_str (pa_cons pe_str pa_nil))) pa_nil))) pa_nil))))))
  (pss_one (by exact (ps_ret (pe_call GS hr6 rfl mS kS bS .nil pass0 (pa_cons (pe_op op_cat (pv 4) (pe_lst (pa_cons (LamX.pe_lamcall (k := 6) (t := fun E => tMeth C "side" (spSi K C CN CO) [] E (tVar 0) (tCons (tVar 2) (tCons (tVar 2) tNil))) rfl mm km lkm hcm bm scMt rfl (.inl rfl) (mt_gives MG) TB rfl hT hU (by exact hr8) (LamX.lamS_by (by with_unfolding_all rfl)) rfl (fun _ _ _ _ _ => rfl) (fun A outer s H E f c' hz => by exact (pe_meth (pv 0) T hI GI (hz.mono (by decide)) bI .nil (passes_call (takes_of rfl rfl rfl rfl) (fun _ _ _ _ h => h)) (pa_cons (pv 2) (pa_cons (pv 2) pa_nil))))) pa_nil))) (pa_cons (pe_op op_cat (pv 7) (pe_lst (pa_cons (pe_tup (pa_cons pe_str (pa_cons (pv 2) (pa_cons (pv 2) pa_nil)))) pa_nil))) pa_nil)))))))))))))))⟩
end
end K1
end
-- NAsk
section
set_option Elab.async false
set_option linter.all false
set_option maxRecDepth 100000
set_option maxHeartbeats 1000000
namespace K1
open PySem PySem.Spec PyProof.Rows L2
/-- an asker that is refused for a house: a new pair -/
theorem met_house {TT : List (Addr × Str)} {CN CO : Addr} {t : XK → TE} {σ : L2.St} {H : Hp} {Q : VK} {v : V} (tb : LamX.Tabs TT H) (hg : ∀ H1, LamX.ExtN H H1 → ∀ (E : XK) (Q' : VK), GoesF CN [("house", v)] H1 E → t E σ H1 Q')
    (hq : ∀ p H', LamX.ExtN H H' → LamX.Tabs TT H' → (∀ o, H p = some o → ∃ ps, o = .tbl ps) → H' p = some (.tup [.str "house", v]) → Q (.ref p) H') : LamX.tLam TT (TMt CN CO) t σ H Q := by
  refine ⟨tb, fun H1 eN T1 => hg H1 eN _ _ fun d H2 e nd hx => .inl ⟨rfl, d, v, rfl, hx, fun p hp => hq p _ ?_ ?_ (fun o ho => ?_) upd_same⟩⟩
  · exact eN.trans (LamX.ExtN.of (e.trans (K1.Same.upd hp)))
  · exact tabs_same T1 (e.trans (K1.Same.upd hp))
  · cases o with
    | tbl ps => exact ⟨ps, rfl⟩
    | _ =>
      have h2 := e _ _ (eN p _ ho fun ps z => by cases z)
      rw [hp] at h2
      cases h2
/-- an asker that is refused for a road: a new triple -/
theorem met_road {TT : List (Addr × Str)} {CN CO : Addr} {t : XK → TE} {σ : L2.St} {H : Hp} {Q : VK} {v u : V} (tb : LamX.Tabs TT H) (hg : ∀ H1, LamX.ExtN H H1 → ∀ (E : XK) (Q' : VK), GoesF CO [("other", u), ("one", v)] H1 E → t E σ H1 Q')
    (hq : ∀ p H', LamX.ExtN H H' → LamX.Tabs TT H' → (∀ o, H p = some o → ∃ ps, o = .tbl ps) → H' p = some (.tup [.str "road", v, u]) → Q (.ref p) H') : LamX.tLam TT (TMt CN CO) t σ H Q := by
  refine ⟨tb, fun H1 eN T1 => hg H1 eN _ _ fun d H2 e nd hx => .inr ⟨rfl, d, v, u, rfl, hx, fun p hp => hq p _ ?_ ?_ (fun o ho => ?_) upd_same⟩⟩
  · exact eN.trans (LamX.ExtN.of (e.trans (K1.Same.upd hp)))
  · exact tabs_same T1 (e.trans (K1.Same.upd hp))
  · cases o with
    | tbl ps => exact ⟨ps, rfl⟩
    | _ =>
      have h2 := e _ _ (eN p _ ho fun ps z => by cases z)
      rw [hp] at h2
      cases h2
section
variable {K : PySem.W.Frag} {C CN CO x : Addr} {ss : List Str} {rs : List (Str × Str)} {ns : List Int} {σ : L2.St} {H : Hp} {E : XK} {Q : VK} {v u : V}
/-- beside, way, side of what is no house -/
theorem be_no {i : Nat} (iv : IsV C H x ss rs ns) (hx : σ[0]? = some (some (.ref x))) (hv : σ[i]? = some (some v)) (n : NoHo K H ss v) (g : GoesF CN [("house", v)] H E) : tMeth C "beside" (spBe K C CN) [] E (tVar 0) (tCons (tVar i) tNil) σ H Q := by
  obtain ⟨dx, fs, gx, n1, _, _⟩ := iv.ins
  exact ⟨_, hx, x, dx, fs, rfl, gx, n1, _, hv, x, v, ss, rs, ns, rfl, iv, .inr ⟨n, g⟩⟩
theorem wa_no {t2 : TE} {i : Nat} (iv : IsV C H x ss rs ns) (tr : Tree ss rs) (hl : ss.length ≤ 1000) (hx : σ[0]? = some (some (.ref x))) (hv : σ[i]? = some (some v)) (h2 : ∀ Q' : VK, (∀ u, Q' u H) → t2 σ H Q') (n : NoHo K H ss v) (g : GoesF CN [("house", v)] H E) : tMeth C "way" (spWa K C CN) [] E (tVar 0) (tCons (tVar i) (tCons t2 tNil)) σ H Q := by
  obtain ⟨dx, fs, gx, _, n2, _⟩ := iv.ins
  exact ⟨_, hx, x, dx, fs, rfl, gx, n2, _, hv, h2 _ fun u => ⟨x, v, u, ss, rs, ns, rfl, iv, tr, hl, .inl ⟨n, g⟩⟩⟩
theorem si_no {t2 : TE} {i : Nat} (iv : IsV C H x ss rs ns) (tr : Tree ss rs) (hl : ss.length ≤ 1000) (hx : σ[0]? = some (some (.ref x))) (hv : σ[i]? = some (some v)) (h2 : ∀ Q' : VK, (∀ u, Q' u H) → t2 σ H Q') (n : NoHo K H ss v) (g : GoesF CN [("house", v)] H E) : tMeth C "side" (spSi K C CN CO) [] E (tVar 0) (tCons (tVar i) (tCons t2 tNil)) σ H Q := by
  obtain ⟨dx, fs, gx, _, _, n3⟩ := iv.ins
  exact ⟨_, hx, x, dx, fs, rfl, gx, n3, _, hv, h2 _ fun u => ⟨x, v, u, ss, rs, ns, rfl, iv, tr, hl, .inl ⟨n, g⟩⟩⟩
theorem wa_no2 {i j : Nat} {s : Str} (iv : IsV C H x ss rs ns) (tr : Tree ss rs) (hl : ss.length ≤ 1000) (hs : s ∈ ss) (hx : σ[0]? = some (some (.ref x))) (hv : σ[i]? = some (some (.str s))) (hu : σ[j]? = some (some u)) (n : NoHo K H ss u) (g : GoesF CN [("house", u)] H E) : tMeth C "way" (spWa K C CN) [] E (tVar 0) (tCons (tVar i) (tCons (tVar j) tNil)) σ H Q := by
  obtain ⟨dx, fs, gx, _, n2, _⟩ := iv.ins
  exact ⟨_, hx, x, dx, fs, rfl, gx, n2, _, hv, _, hu, x, .str s, u, ss, rs, ns, rfl, iv, tr, hl, .inr ⟨s, rfl, hs, .inl ⟨n, g⟩⟩⟩
theorem si_no2 {i j : Nat} {s : Str} (iv : IsV C H x ss rs ns) (tr : Tree ss rs) (hl : ss.length ≤ 1000) (hs : s ∈ ss) (hx : σ[0]? = some (some (.ref x))) (hv : σ[i]? = some (some (.str s))) (hu : σ[j]? = some (some u)) (n : NoHo K H ss u) (g : GoesF CN [("house", u)] H E) : tMeth C "side" (spSi K C CN CO) [] E (tVar 0) (tCons (tVar i) (tCons (tVar j) tNil)) σ H Q := by
  obtain ⟨dx, fs, gx, _, _, n3⟩ := iv.ins
  exact ⟨_, hx, x, dx, fs, rfl, gx, n3, _, hv, _, hu, x, .str s, u, ss, rs, ns, rfl, iv, tr, hl, .inr ⟨s, rfl, hs, .inl ⟨n, g⟩⟩⟩
end
end K1
end
-- NFnd
section
set_option Elab.async false
set_option linter.all false
set_option maxRecDepth 100000
set_option maxHeartbeats 1000000
namespace K1
open PySem PySem.Spec PyProof.Rows L2
/-- how one was refused: a pair, with what was refused -/
def HouP (H : Hp) (z v : V) : Prop := ∃ p, z = .ref p ∧ H p = some (.tup [.str "house", v])
/-- a list of what was refused, in a heap that has grown since H0 -/
structure Fnd (TT : List (Addr × Str)) (H0 H : Hp) (Fd : Addr) (zs vs : List V) : Prop where
  ext : LamX.ExtN H0 H
  tb : LamX.Tabs TT H
  lst : H Fd = some (.lst zs)
  new : ∀ o, H0 Fd = some o → ∃ ps, o = .tbl ps
  prs : Paired (HouP H) zs vs
theorem extN_upd2 {H0 H : Hp} {Fd : Addr} {o : HO} (e : LamX.ExtN H0 H) (n : ∀ o, H0 Fd = some o → ∃ ps, o = .tbl ps) : LamX.ExtN H0 (L2.upd H Fd o) := fun b u h nt => by
  have bF : b ≠ Fd := fun z => by
    obtain ⟨ps, e2⟩ := n u (by rw [← z]; exact h)
    exact nt ps e2
  rw [upd_ne bF]
  exact e b u h nt
theorem HouP.upd {H : Hp} {Fd : Addr} {xs zs : List V} {z v : V} (g : H Fd = some (.lst xs)) (h : HouP H z v) : HouP (L2.upd H Fd (.lst zs)) z v := by
  obtain ⟨p, rfl, hp⟩ := h
  exact ⟨p, rfl, by rw [upd_ne (fun e => by rw [e, g] at hp; cases hp)]; exact hp⟩
theorem HouP.updD {H : Hp} {Fd : Addr} {xs zs : List (Key × V)} {z v : V} (g : H Fd = some (.dK xs)) (h : HouP H z v) : HouP (L2.upd H Fd (.dK zs)) z v := by
  obtain ⟨p, rfl, hp⟩ := h
  exact ⟨p, rfl, by rw [upd_ne (fun e => by rw [e, g] at hp; cases hp)]; exact hp⟩
theorem tabs_keptD {T : List (Addr × Str)} {H H' : Hp} {D : Addr} {xs : List (Key × V)} (t : LamX.Tabs T H) (hD : H D = some (.dK xs)) (k : Kept D H H') : LamX.Tabs T H' := fun p hp => by
  obtain ⟨ps, h1, h2, h3⟩ := t p hp
  refine ⟨ps, k _ _ (fun z => by rw [z, hD] at h1; cases h1) h1, h2, fun pos cv hc => ?_⟩
  obtain ⟨c, e1, e2⟩ := h3 pos cv hc
  refine ⟨c, e1, k _ _ (fun z => ?_) e2⟩
  rw [z, hD] at e2
  have : HO.dK xs = LamX.CodeO D p.2 := Option.some.inj e2
  unfold LamX.CodeO at this
  cases this
theorem HouP.ext {H H' : Hp} {z v : V} (h : HouP H z v) (e : LamX.ExtN H H') : HouP H' z v := by
  obtain ⟨p, rfl, hp⟩ := h
  exact ⟨p, rfl, e _ _ hp (fun _ z => by cases z)⟩
section
variable {TT : List (Addr × Str)} {CN CO : Addr} {t : XK → TE} {σ : L2.St} {H0 H : Hp} {Q : VK} {v : V} {K : PySem.W.Frag}
theorem fnd_first (tb : LamX.Tabs TT H) (hg : ∀ H1, LamX.ExtN H H1 → ∀ (E : XK) (Q' : VK), GoesF CN [("house", v)] H1 E → t E σ H1 Q')
    (q : ∀ Fd z H', Fnd TT H H' Fd [z] [v] → Q (.ref Fd) H') : tLst (tCons (LamX.tLam TT (TMt CN CO) t) tNil) σ H Q := by
  refine met_house tb hg fun p H' e T fr gp => ⟨(by show 1 ≤ sizeLine; decide), fun Fd hFd => ?_⟩
  have s := K1.Same.upd (H := H') (p := Fd) (o := .lst [.ref p]) hFd
  refine q Fd (.ref p) _ ⟨e.trans (LamX.ExtN.of s), tabs_same T s, upd_same, fun o ho => ?_, .cons ⟨p, rfl, s _ _ gp⟩ .nil⟩
  cases o with
  | tbl ps => exact ⟨ps, rfl⟩
  | _ =>
    have h2 := e _ _ ho fun ps z => by cases z
    rw [hFd] at h2
    cases h2
theorem fnd_app {Fd : Addr} {zs vs : List V} {i : Nat} (f : Fnd TT H0 H Fd zs vs) (l : vs.length ≤ 100) (hσ : σ[i]? = some (some (.ref Fd)))
    (hg : ∀ H1, LamX.ExtN H0 H1 → ∀ (E : XK) (Q' : VK), GoesF CN [("house", v)] H1 E → t E σ H1 Q')
    (q : ∀ z H', Fnd TT H0 H' Fd (zs ++ [z]) (vs ++ [v]) → Q .non H') : tBM K "list" rAppend (tVar i) (tCons (LamX.tLam TT (TMt CN CO) t) tNil) σ H Q := by
  refine ⟨_, hσ, .inl ⟨rfl, _, SqL.of f.lst⟩, met_house f.tb (fun H1 e1 => hg H1 (f.ext.trans e1)) fun p H' e T fr gp => ?_⟩
  have gF := e _ _ f.lst (fun _ z => by cases z)
  have Fp : p ≠ Fd := fun z => by rw [z, gF] at gp; cases gp
  have ll := f.prs.length
  refine ⟨Fd, _, _, rfl, rfl, gF, small1000 (by omega), q (.ref p) _ ⟨extN_upd2 (f.ext.trans e) f.new, tabs_kept T gF Kept.upd, upd_same, f.new, ?_⟩⟩
  exact paired_snoc (paired_imp (fun _ _ h => (h.ext e).upd gF) f.prs) ⟨p, rfl, by rw [upd_ne Fp]; exact gp⟩
end
/-! the heap without tables -/
noncomputable def nt (H : Hp) : Hp := fun b => match H b with | some (.tbl _) => none | o => o
theorem nt_some {H : Hp} {b : Addr} {o : HO} : nt H b = some o ↔ H b = some o ∧ ∀ ps, o ≠ .tbl ps := by
  unfold nt
  constructor
  · intro h
    split at h
    · cases h
    · rename_i x y
      refine ⟨h, fun ps z => y ps ?_⟩
      rw [h, z]
  · intro ⟨h, n⟩
    rw [h]
    split
    · rename_i x ps e
      exact absurd (Option.some.inj e) (n ps)
    · rfl
theorem nt_same {H H' : Hp} (e : LamX.ExtN H H') : Same (nt H) (nt H') := fun b o h => by
  obtain ⟨h1, h2⟩ := nt_some.mp h
  exact nt_some.mpr ⟨e b o h1 h2, h2⟩
theorem nt_out {H : Hp} : Same (nt H) H := fun b o h => (nt_some.mp h).1
theorem nt_to {H H' : Hp} (e : LamX.ExtN H H') : Same (nt H) H' := (nt_same e).trans nt_out
theorem nt_l {H : Hp} {p : Addr} {xs : List V} (h : H p = some (.lst xs)) : nt H p = some (.lst xs) := nt_some.mpr ⟨h, fun _ z => by cases z⟩
theorem nt_t {H : Hp} {p : Addr} {xs : List V} (h : H p = some (.tup xs)) : nt H p = some (.tup xs) := nt_some.mpr ⟨h, fun _ z => by cases z⟩
theorem nt_d {H : Hp} {p : Addr} {xs : List (Key × V)} (h : H p = some (.dK xs)) : nt H p = some (.dK xs) := nt_some.mpr ⟨h, fun _ z => by cases z⟩
/-! dicts that hold the same -/
def FlatKV (R : RelE) (e : Key × V) : Prop := ∀ H, R H (kV e.1) (kV e.1) ∧ R H e.2 e.2
theorem r_items {R : RelE} {H : Hp} : ∀ {as bs : List Addr} {kvs : List (Key × V)}, (∀ e ∈ kvs, FlatKV R e) → Paired (fun (t : Addr) (e : Key × V) => H t = some (.tup [kV e.1, e.2])) as kvs → Paired (fun (t : Addr) (e : Key × V) => H t = some (.tup [kV e.1, e.2])) bs kvs → Paired (NextF R H) (as.map V.ref) (bs.map V.ref)
  | _, _, _, _, .nil, .nil => .nil
  | _, _, _, h, .cons f1 g1, .cons f2 g2 => .cons (r_tups f1 f2 (by show 2 ≤ 100; decide) (.cons (h _ (List.mem_cons_self ..) H).1 (.cons (h _ (List.mem_cons_self ..) H).2 .nil))) (r_items (fun e he => h e (List.mem_cons_of_mem _ he)) g1 g2)
theorem r_dct {R : RelE} {H : Hp} {p q : Addr} {kvs : List (Key × V)} (h1 : H p = some (.dK kvs)) (h2 : H q = some (.dK kvs)) (l : kvs.length ≤ 100) (fl : ∀ e ∈ kvs, FlatKV R e) : NextF (NextF (NextF R)) H (.ref p) (.ref q) :=
  .inr (.inr ⟨p, q, kvs, rfl, rfl, h1, h2, fun H' a b as bs e ha hb pa pb => r_lists ha hb (by rw [List.length_map, pa.length]; exact l) (r_items fl pa pb)⟩)
theorem r_dct0 {R : RelE} {H : Hp} {p q : Addr} (h1 : H p = some (.dK [])) (h2 : H q = some (.dK [])) : NextF (NextF R) H (.ref p) (.ref q) :=
  .inr (.inr ⟨p, q, [], rfl, rfl, h1, h2, fun H' a b as bs e ha hb pa pb => by
    cases pa
    cases pb
    exact r_lists ha hb (by show 0 ≤ 100; decide) .nil⟩)
/-! the nine odd things -/
def OddOk (K : PySem.W.Frag) (ss : List Str) (H : Hp) (y : V) : Prop := NoHo K (nt H) ss y ∧ R2' (nt H) y y
theorem M0 : MonE R0 := fun _ _ _ _ _ h => h
theorem M2 : MonE R2' := NextF.mon (NextF.mon M0)
theorem NextF.up {R R' : RelE} (h : ∀ H x y, R H x y → R' H x y) {H : Hp} {x y : V} (n : NextF R H x y) : NextF R' H x y := by
  rcases n with n | ⟨p, q, xs, ys, a, b, c, d, e⟩ | ⟨p, q, kvs, a, b, c, d, f⟩
  · exact .inl n
  · exact .inr (.inl ⟨p, q, xs, ys, a, b, c, d, paired_imp (fun _ _ z => h _ _ _ z) e⟩)
  · exact .inr (.inr ⟨p, q, kvs, a, b, c, d, fun H' a b as bs e ha hb pa pb => h _ _ _ (f H' a b as bs e ha hb pa pb)⟩)
theorem up24 {H : Hp} {x y : V} (n : R2' H x y) : R4 H x y := NextF.up (fun _ _ _ z => NextF.up (fun _ _ _ z => False.elim z) z) n
theorem OddOk.no {K : PySem.W.Frag} {ss : List Str} {H H' : Hp} {y : V} (h : OddOk K ss H y) (e : LamX.ExtN H H') : NoHo K H' ss y := h.1.ext (nt_to e)
theorem OddOk.same {K : PySem.W.Frag} {ss : List Str} {H H' : Hp} {y : V} (h : OddOk K ss H y) (e : LamX.ExtN H H') : R2' H' y y := M2 _ _ _ _ (nt_to e) h.2
theorem odd_all {K : PySem.W.Frag} {ss : List Str} {s : Str} {H : Hp} {xs : List V} (n1 : ("nobody" : Str) ∉ ss) (n2 : ("" : Str) ∉ ss) (h : Paired (fun v P => P H v) xs (oddPs s)) : ∀ y ∈ xs, OddOk K ss H y := by
  unfold oddPs at h
  intro y hy
  cases h with
  | cons h1 h => cases h with
  | cons h2 h => cases h with
  | cons h3 h => cases h with
  | cons h4 h => cases h with
  | cons h5 h => cases h with
  | cons h6 h => cases h with
  | cons h7 h => cases h with
  | cons h8 h => cases h with
  | cons h9 h => cases h with
  | nil =>
    simp only [List.mem_cons, List.not_mem_nil, or_false] at hy
    rcases hy with rfl | rfl | rfl | rfl | rfl | rfl | rfl | rfl | rfl
    · obtain rfl := h1
      exact ⟨.inr ⟨_, .base .non, by decide, by decide⟩, r_non⟩
    · obtain rfl := h2
      exact ⟨.inr ⟨_, .base (.int 5), by decide, by decide⟩, r_int 5⟩
    · obtain rfl := h3
      exact ⟨.inl ⟨_, rfl, n1⟩, r_str _⟩
    · obtain rfl := h4
      exact ⟨.inl ⟨_, rfl, n2⟩, r_str _⟩
    · obtain rfl := h5
      exact ⟨.inr ⟨_, .base (.bl true), by decide, by decide⟩, r_bl _⟩
    · obtain ⟨p, ys, rfl, hp, py⟩ := h6
      cases py with
      | cons f g => cases g with
      | nil =>
        obtain rfl := f
        exact ⟨.inr ⟨_, .base (.lst (nt_l hp)), by decide, by decide⟩, r_lists (nt_l hp) (nt_l hp) (by show 1 ≤ 100; decide) (.cons (r_str _) .nil)⟩
    · obtain ⟨p, ys, rfl, hp, py⟩ := h7
      cases py with
      | cons f g => cases g with
      | nil =>
        obtain rfl := f
        exact ⟨.inr ⟨_, .base (.tup (nt_t hp)), by decide, by decide⟩, r_tups (nt_t hp) (nt_t hp) (by show 1 ≤ 100; decide) (.cons (r_str _) .nil)⟩
    · obtain ⟨p, rfl, hp⟩ := h8
      exact ⟨.inr ⟨_, .base (.dK (nt_d hp)), by decide, by decide⟩, r_dct0 (nt_d hp) (nt_d hp)⟩
    · obtain rfl := h9
      exact ⟨.inr ⟨_, .base (.int 0), by decide, by decide⟩, r_int 0⟩
/-- dict(..) of a list of pairs that is made there -/
def dkP (kvs : List (Key × V)) : PV := fun H v => ∃ p, v = .ref p ∧ H p = some (.dK kvs)
abbrev rDct (K : PySem.W.Frag) : List V → Hp → VK → Prop := fun xs H Q => ∃ (a : Addr) (ps : List Addr) (kvs : List (Key × V)), xs = [.ref a] ∧ SqL K H a (ps.map V.ref) ∧ Paired (fun p kv => SqT K H p [kV kv.1, kv.2]) ps kvs ∧
    ∀ p, H p = none → Q (.ref p) (L2.upd H p (.dK (mergeK [] kvs)))
theorem tups_of {H : Hp} : ∀ {xs : List V} {kvs : List (Key × V)}, Paired (fun v P => P H v) xs (kvs.map fun e => tupP [eqP (kV e.1), eqP e.2]) → ∃ ps : List Addr, xs = ps.map V.ref ∧ Paired (fun (p : Addr) (e : Key × V) => H p = some (.tup [kV e.1, e.2])) ps kvs
  | _, [], .nil => ⟨[], rfl, .nil⟩
  | _, e :: kvs, .cons h r => by
    obtain ⟨p, ys, rfl, hp, py⟩ := h
    obtain ⟨ps, rfl, pr⟩ := tups_of r
    cases py with
    | cons f g => cases g with
    | cons f2 g => cases g with
    | nil =>
      obtain rfl := f
      obtain rfl := f2
      exact ⟨p :: ps, rfl, .cons hp pr⟩
theorem mr_dct {K : PySem.W.Frag} {H0 : Hp} {σ : L2.St} {t : TE} {kvs : List (Key × V)} (h : Mr H0 t σ (lstP (kvs.map fun e => tupP [eqP (kV e.1), eqP e.2]))) : Mr H0 (tCB (rDct K) (tCons t tNil)) σ (dkP (mergeK [] kvs)) := by
  refine ⟨fun H H' v e ⟨p, a, b⟩ => ⟨p, a, e _ _ b⟩, fun H e0 Q q => h.run H e0 _ fun v H1 e1 p1 => ?_⟩
  obtain ⟨a, xs, rfl, ha, px⟩ := p1
  obtain ⟨ps, rfl, pr⟩ := tups_of px
  exact ⟨a, ps, kvs, rfl, SqL.of ha, paired_imp (fun _ _ z => SqT.of z) pr, fun p hp => q _ _ (e1.trans (K1.Same.upd hp)) ⟨p, rfl, upd_same⟩⟩
end K1
end
-- NRefR
section
set_option Elab.async false
set_option linter.all false
set_option maxRecDepth 100000
set_option maxHeartbeats 1000000
namespace K1
open PySem PySem.Spec PyProof.Rows L2
def spRef (C : Addr) (T : List (Addr × Str)) : Sp := fun vs H Q _ => ∃ (x t p1 p2 : Addr) (x3 : V) (qs : List Addr) (s : Str) (tl : List Str) (rs : List (Str × Str)) (ns : List Int), vs = [.ref x, .ref t] ∧ IsV C H x (s :: tl) rs ns ∧ DrV H t p1 p2 x3 qs (s :: tl) rs ∧ Tree (s :: tl) rs ∧
  ("nobody" : Str) ∉ s :: tl ∧ ("" : Str) ∉ s :: tl ∧ (s :: tl).length ≤ 60 ∧ LamX.Tabs T H ∧ ∀ H', LamX.ExtN H H' → LamX.Tabs T H' → Q (.bl true) H'
theorem Tree.loop {ss : List Str} {rs : List (Str × Str)} (T : Tree ss rs) (s : Str) : nbB rs s s = false := by
  cases e : nbB rs s s with
  | false => rfl
  | true =>
    obtain ⟨c, h, _⟩ := T.cut.side e
    exact absurd rfl h
abbrev kv1 : List (Key × V) := [(.inr "x", .int 1)]
abbrev kv2 : List (Key × V) := [(.inr "x", .int 1), (.inr "late", .int 1)]
theorem fl2 {R : RelE} : ∀ e ∈ kv2, FlatKV (NextF R) e := fun e he H => by
  simp only [List.mem_cons, List.not_mem_nil, or_false] at he
  rcases he with rfl | rfl
  · exact ⟨r_str _, r_int 1⟩
  · exact ⟨r_str _, r_int 1⟩
section
variable {P : Program} {w : World} {K : PySem.W.Frag} {mg : Str → Option Value} {base : Heap} {C CN CO : Addr}
theorem ok_ref {f c TP fm : Addr} {fdm : FuncData} {oc kVx doc pm ct : Value} {od an : Option Addr} {osl : Array (Option Value)} (lk : K.lookup f = some ⟨oc, od, .func (PySem.W.fnOf "_law_refused_right" "_law_refused_right" (defArgs sRef) (defBody sRef) (defScope sRef) .none kVx doc pm an (.ref c) ct), osl⟩) (hcd : PySem.W.codeIn K (.ref c) "_law_refused_right" = true) (T : Cls K C) (B : Bl mg)
    (MG : MetG K mg CN CO) (Fm : Fun K "_law_met" "_law_met" sMt fm fdm) (bm : Binds K fdm ["ask"] []) (mm : mg "_law_met" = some (.ref fm)) (TB : LamX.TabB base mg c TP) {TT : List (Addr × Str)} (hT : (TP, qRef) ∈ TT) (hU : ∀ p ∈ TT, p.1 = TP → p.2 = qRef)
    (hS : Fz P w K mg base CX0 6 "_law_same" ["found", "due"] (spSm R6)) (hO : Fz P w K mg base CX0 1 "_law_v_odd_houses" ["names"] spOdd)
    (hBe : Mz P w K mg base C 4 "beside" ["self", "house"] ["house"] kw1R kw1V (spBe K C CN)) (hWa : Mz P w K mg base C 4 "way" ["self", "one", "other"] ["other", "one"] kw2R kw2V (spWa K C CN)) (hSi : Mz P w K mg base C 5 "side" ["self", "one", "other"] ["other", "one"] kw2R kw2V (spSi K C CN CO))
    : FnOk P w K mg base CX0 9 f (PySem.W.fnOf "_law_refused_right" "_law_refused_right" (defArgs sRef) (defBody sRef) (defScope sRef) .none kVx doc pm an (.ref c) ct) ["made", "valley"] (spRef C TT) := by
  obtain ⟨fS, fdS, GS, bS, kS, mS⟩ := hS
  obtain ⟨fO, fdO, GO, bO, kO, mO⟩ := hO
  obtain ⟨fB, fdB, GB, bB, nB, hB⟩ := hBe
  obtain ⟨fA, fdA, GA, bA, nA, hA⟩ := hWa
  obtain ⟨fI, fdI, GI, bI, nI, hI⟩ := hSi
  obtain ⟨ocm, odm, kVm, docm, pmm, anm, cdvm, ctm, oslm, rfl, lkm, hcm⟩ := Fm.ex
  have km := Fm.kp
  refine fn_of lk hcd scRef (fun vs H Q E h => ?_) (fun A outer s0 H vs Q E hr8 h => ?_)
  · obtain ⟨x, t, p1, p2, x3, qs, s, tl, rs, ns, rfl, _⟩ := h
    rfl
  obtain ⟨x, t, p1, p2, x3, qs, s, tl, rs, ns, rfl, iv, dv, tr, n1, n2, hl, tb, q⟩ := h
  suffices hh : ∃ t0, PSs (cxOf CX0 P w K mg base ["made", "valley", "one", "odd", "found", "held", "known", "due"] "_law_refused_right" (defScope sRef) f (.ref c) A outer s0 H E).nox (defBody sRef) t0 ∧ t0 { nx := fun _ H' => Q .non H', rt := Q } (L2.start ["made", "valley", "one", "odd", "found", "held", "known", "due"] [.ref x, .ref t]) H by
    obtain ⟨t0, h1, h2⟩ := hh
    exact ⟨t0, h1.nox, h2⟩
  have nd := scRef.nd
  have hu64 := hu_of hr8
  have hr1 : Room 1 _ := hr8.mono (by decide)
  have hr6 : Room 6 _ := hr8.mono (by decide)
  refine ⟨_, (pss_cons (by exact (ps_set (i := 2) nd rfl (.inr rfl) (pe_ix ix_list (pe_ix ix_tup (pv 1) pe_int (fun _ _ => rfl)) pe_int (fun _ _ => rfl))))
  (pss_cons (by exact (ps_for PassesOwn.never rfl (by exact pi_list (pe_call GO hr1 rfl mO kO bO .nil pass0 (pa_cons (pe_ix ix_tup (pv 1) pe_int (fun _ _ => rfl)) pa_nil))) (pg_name (i := 3) nd rfl (.inr rfl)) (pss_cons (by exact (ps_set (i := 4) nd rfl (.inl rfl) (pe_lst (pa_cons (LamX.pe_lamcall (k := 6) (t := fun E => tMeth C "beside" (spBe K C CN) [] E (tVar 0) (tCons (tVar 3) tNil)) rfl mm km lkm hcm bm scMt rfl (.inl rfl) (mt_gives MG) TB rfl hT hU (by exact hr8) (LamX.lamS_by (by with_unfolding_all rfl)) rfl (fun _ _ _ _ _ => rfl) (fun A outer s H E f c' hz => by exact (pe_meth (pv 0) T hB GB (hz.mono (by decide)) bB .nil (passes_call (takes_of rfl rfl rfl rfl) (fun _ _ _ _ h => h)) (pa_cons (pv 3) pa_nil)))) pa_nil))))
  (pss_cons (by exact (ps_expr (pe_bm PySem.F.plainAttrs_list PySem.F.slot_list_append PySem.F.type_list_append mt_append (pv 4) (pa_cons (LamX.pe_lamcall (k := 6) (t := fun E => tMeth C "way" (spWa K C CN) [] E (tVar 0) (tCons (tVar 3) (tCons (tC .non) tNil))) rfl mm km lkm hcm bm scMt rfl (.inl rfl) (mt_gives MG) TB rfl hT hU (by exact hr8) (LamX.lamS_by (by with_unfolding_all rfl)) rfl (fun _ _ _ _ _ => rfl) (fun A outer s H E f c' hz => by exact (pe_meth (pv 0) T hA GA (hz.mono (by decide)) bA .nil (passes_call (takes_of rfl rfl rfl rfl) (fun _ _ _ _ h => h)) (pa_cons (pv 3) (pa_cons pe_non pa_nil))))) pa_nil))))
  (pss_cons (by exact (ps_expr (pe_bm PySem.F.plainAttrs_list PySem.F.slot_list_append PySem.F.type_list_append mt_append (pv 4) (pa_cons (LamX.pe_lamcall (k := 6) (t := fun E => tMeth C "way" (spWa K C CN) [] E (tVar 0) (tCons (tVar 2) (tCons (tVar 3) tNil))) rfl mm km lkm hcm bm scMt rfl (.inl rfl) (mt_gives MG) TB rfl hT hU (by exact hr8) (LamX.lamS_by (by with_unfolding_all rfl)) rfl (fun _ _ _ _ _ => rfl) (fun A outer s H E f c' hz => by exact (pe_meth (pv 0) T hA GA (hz.mono (by decide)) bA .nil (passes_call (takes_of rfl rfl rfl rfl) (fun _ _ _ _ h => h)) (pa_cons (pv 2) (pa_cons (pv 3) pa_nil))))) pa_nil))))
  (pss_cons (by exact (ps_expr (pe_bm PySem.F.plainAttrs_list PySem.F.slot_list_append PySem.F.type_list_append mt_append (pv 4) (pa_cons (LamX.pe_lamcall (k := 6) (t := fun E => tMeth C "side" (spSi K C CN CO) [] E (tVar 0) (tCons (tVar 3) (tCons (tC .non) tNil))) rfl mm km lkm hcm bm scMt rfl (.inl rfl) (mt_gives MG) TB rfl hT hU (by exact hr8) (LamX.lamS_by (by with_unfolding_all rfl)) rfl (fun _ _ _ _ _ => rfl) (fun A outer s H E f c' hz => by exact (pe_meth (pv 0) T hI GI (hz.mono (by decide)) bI .nil (passes_call (takes_of rfl rfl rfl rfl) (fun _ _ _ _ h => h)) (pa_cons (pv 3) (pa_cons pe_non pa_nil))))) pa_nil))))
  (pss_cons (by exact (ps_expr (pe_bm PySem.F.plainAttrs_list PySem.F.slot_list_append PySem.F.type_list_append mt_append (pv 4) (pa_cons (LamX.pe_lamcall (k := 6) (t := fun E => tMeth C "side" (spSi K C CN CO) [] E (tVar 0) (tCons (tVar 2) (tCons (tVar 3) tNil))) rfl mm km lkm hcm bm scMt rfl (.inl rfl) (mt_gives MG) TB rfl hT hU (by exact hr8) (LamX.lamS_by (by with_unfolding_all rfl)) rfl (fun _ _ _ _ _ => rfl) (fun A outer s H E f c' hz => by exact (pe_meth (pv 0) T hI GI (hz.mono (by decide)) bI .nil (passes_call (takes_of rfl rfl rfl rfl) (fun _ _ _ _ h => h)) (pa_cons (pv 2) (pa_cons (pv 3) pa_nil))))) pa_nil))))
  (pss_one (by exact (ps_if (pt_not (pt_val (pe_call GS hr6 rfl mS kS bS .nil pass0 (pa_cons (pv 4) (pa_cons (pe_op op_rep (pe_lst (pa_cons (pe_tup (pa_cons pe_str (pa_cons (pv 3) pa_nil))) pa_nil)) pe_int) pa_nil))))) (pss_one (by exact (ps_ret pe_bl))) pss_nil))))))))))
  (pss_cons (by exact (ps_asg (pe_tup (pa_cons (pe_lst (pa_cons pe_str pa_nil)) (pa_cons (pe_callTy (call_dictP rfl) rfl B.dict PyProof.Rows.boot_dict (pa_cons (pe_lst (pa_cons (pe_tup (pa_cons pe_str (pa_cons pe_int pa_nil))) pa_nil)) pa_nil)) pa_nil))) (pg_tup rfl (pgs_cons (pg_name (i := 5) nd rfl (.inr rfl)) (pgs_cons (pg_name (i := 6) nd rfl (.inr rfl)) pgs_nil)))))
  (pss_cons (by exact (ps_set (i := 4) nd rfl (.inl rfl) (pe_lst (pa_cons (LamX.pe_lamcall (k := 6) (t := fun E => tMeth C "beside" (spBe K C CN) [] E (tVar 0) (tCons (tVar 5) tNil)) rfl mm km lkm hcm bm scMt rfl (.inl rfl) (mt_gives MG) TB rfl hT hU (by exact hr8) (LamX.lamS_by (by with_unfolding_all rfl)) rfl (fun _ _ _ _ _ => rfl) (fun A outer s H E f c' hz => by exact (pe_meth (pv 0) T hB GB (hz.mono (by decide)) bB .nil (passes_call (takes_of rfl rfl rfl rfl) (fun _ _ _ _ h => h)) (pa_cons (pv 5) pa_nil)))) pa_nil))))
  (pss_cons (by exact (ps_expr (pe_bm PySem.F.plainAttrs_list PySem.F.slot_list_append PySem.F.type_list_append mt_append (pv 4) (pa_cons (LamX.pe_lamcall (k := 6) (t := fun E => tMeth C "way" (spWa K C CN) [] E (tVar 0) (tCons (tVar 2) (tCons (tVar 6) tNil))) rfl mm km lkm hcm bm scMt rfl (.inl rfl) (mt_gives MG) TB rfl hT hU (by exact hr8) (LamX.lamS_by (by with_unfolding_all rfl)) rfl (fun _ _ _ _ _ => rfl) (fun A outer s H E f c' hz => by exact (pe_meth (pv 0) T hA GA (hz.mono (by decide)) bA .nil (passes_call (takes_of rfl rfl rfl rfl) (fun _ _ _ _ h => h)) (pa_cons (pv 2) (pa_cons (pv 6) pa_nil))))) pa_nil))))
  (pss_cons (by exact (ps_expr (pe_bm PySem.F.plainAttrs_list PySem.F.slot_list_append PySem.F.type_list_append mt_append (pv 4) (pa_cons (LamX.pe_lamcall (k := 6) (t := fun E => tMeth C "side" (spSi K C CN CO) [] E (tVar 0) (tCons (tVar 5) (tCons (tVar 2) tNil))) rfl mm km lkm hcm bm scMt rfl (.inl rfl) (mt_gives MG) TB rfl hT hU (by exact hr8) (LamX.lamS_by (by with_unfolding_all rfl)) rfl (fun _ _ _ _ _ => rfl) (fun A outer s H E f c' hz => by exact (pe_meth (pv 0) T hI GI (hz.mono (by decide)) bI .nil (passes_call (takes_of rfl rfl rfl rfl) (fun _ _ _ _ h => h)) (pa_cons (pv 5) (pa_cons (pv 2) pa_nil))))) pa_nil))))
  (pss_cons (by exact (ps_expr (pe_bm PySem.F.plainAttrs_list PySem.F.slot_list_append PySem.F.type_list_append mt_append (pv 5) (pa_cons pe_str pa_nil))))
  (pss_cons (by exact (ps_dput hu64 (pv 6) pe_str pe_int rfl))
  (pss_cons (by exact (ps_set (i := 7) nd rfl (.inl rfl) (pe_lst (pa_cons (pe_tup (pa_cons pe_str (pa_cons (pe_lst (pa_cons pe_str (pa_cons pe_str pa_nil))) pa_nil))) (pa_cons (pe_tup (pa_cons pe_str (pa_cons (pe_callTy (call_dictP rfl) rfl B.dict PyProof.Rows.boot_dict (pa_cons (pe_lst (pa_cons (pe_tup (pa_cons pe_str (pa_cons pe_int pa_nil))) (pa_cons (pe_tup (pa_cons pe_str (pa_cons pe_int pa_nil))) pa_nil))) pa_nil)) pa_nil))) (pa_cons (pe_tup (pa_cons pe_str (pa_cons (pe_lst (pa_cons pe_str (pa_cons pe_str pa_nil))) pa_nil))) pa_nil))))))
  (pss_one (by exact (ps_ret (pe_call GS hr6 rfl mS kS bS .nil pass0 (pa_cons (pe_op op_cat (pv 4) (pe_lst (pa_cons (LamX.pe_lamcall (k := 6) (t := fun E => tMeth C "side" (spSi K C CN CO) [] E (tVar 0) (tCons (tVar 2) (tCons (tVar 2) tNil))) rfl mm km lkm hcm bm scMt rfl (.inl rfl) (mt_gives MG) TB rfl hT hU (by exact hr8) (LamX.lamS_by (by with_unfolding_all rfl)) rfl (fun _ _ _ _ _ => rfl) (fun A outer s H E f c' hz => by exact (pe_meth (pv 0) T hI GI (hz.mono (by decide)) bI .nil (passes_call (takes_of rfl rfl rfl rfl) (fun _ _ _ _ h => h)) (pa_cons (pv 2) (pa_cons (pv 2) pa_nil))))) pa_nil))) (pa_cons (pe_op op_cat (pv 7) (pe_lst (pa_cons (pe_tup (pa_cons pe_str (pa_cons (pv 2) (pa_cons (pv 2) pa_nil)))) pa_nil))) pa_nil))))))))))))))), ?_⟩
  have l1 := dv.l1
  have a0 : atI ((s :: tl).map V.str) 0 = some (.str s) := atI_nat (j := 0) rfl
  have i0 : atI [V.ref p1, V.ref p2, x3] 0 = some (.ref p1) := rfl
  have hs : s ∈ s :: tl := List.mem_cons_self ..
  have hl3 : (s :: tl).length ≤ 1000 := by omega
  refine ⟨_, rfl, t, _, _, _, rfl, rfl, SqT.of dv.t0, i0, p1, _, _, _, rfl, rfl, SqL.of dv.h1, a0, ?_⟩
  refine K1.gN ?_
  with_reducible refine sQ ?_
  refine ⟨_, rfl, t, _, _, _, rfl, rfl, SqT.of dv.t0, i0, p1, s, tl, rfl, dv.h1, fun v H1 e1 hv => ?_⟩
  obtain ⟨Y, xs, rfl, gY, pY⟩ := hv
  have od := odd_all (K := K) n1 n2 pY
  have x1 : LamX.ExtN H H1 := LamX.ExtN.of e1
  have tb1 := tabs_same tb e1
  refine ⟨Y, rfl, ⟨_, SqL.of gY⟩, ?_⟩
  refine for_it walk_list (fun k σ Hc => (∃ y3 y4, σ = [some (.ref x), some (.ref t), some (.str s), y3, y4, none, none, none]) ∧ LamX.ExtN H1 Hc ∧ LamX.Tabs TT Hc) ⟨⟨_, _, rfl⟩, LamX.ExtN.refl H1, tb1⟩ (fun k σ Hc _ h => SqL.of (h.2.1 _ _ gY (fun _ z => by cases z))) ?_ ?_
  · rintro k y σ Hc H' hk ⟨⟨y3, y4, rfl⟩, g1, g2⟩ ⟨rfl, hy⟩
    have oy := od y (List.mem_of_getElem? hy)
    have g0 : LamX.ExtN H H' := x1.trans g1
    refine K1.gN ?_
    with_reducible refine sQ ?_
    refine fnd_first g2 (fun Ha ea E' Q' g => be_no (iv.extN (g0.trans ea)) rfl rfl (oy.no (g1.trans ea)) g) fun Fd z1 H2 f1 => ?_
    refine K1.gN ?_
    with_reducible refine sQ ?_
    refine fnd_app f1 (by simp) rfl (fun Ha ea E' Q' g => wa_no (iv.extN (g0.trans ea)) tr hl3 rfl rfl (fun Q2 q2 => q2 _) (oy.no (g1.trans ea)) g) fun z2 H3 f2 => ?_
    with_reducible refine sQ ?_
    refine fnd_app f2 (by simp) rfl (fun Ha ea E' Q' g => wa_no2 (iv.extN (g0.trans ea)) tr hl3 hs rfl rfl rfl (oy.no (g1.trans ea)) g) fun z3 H4 f3 => ?_
    with_reducible refine sQ ?_
    refine fnd_app f3 (by simp) rfl (fun Ha ea E' Q' g => si_no (iv.extN (g0.trans ea)) tr hl3 rfl rfl (fun Q2 q2 => q2 _) (oy.no (g1.trans ea)) g) fun z4 H5 f4 => ?_
    with_reducible refine sQ ?_
    refine fnd_app f4 (by simp) rfl (fun Ha ea E' Q' g => si_no2 (iv.extN (g0.trans ea)) tr hl3 hs rfl rfl rfl (oy.no (g1.trans ea)) g) fun z5 H6 f5 => ?_
    refine ⟨_, rfl, _, rfl, (by show 2 ≤ sizeLine; decide), fun W hW => ⟨(by show 1 ≤ sizeLine; decide), fun L hL => ⟨L, 5, _, rfl, rfl, upd_same, by decide, by decide, (by show 1 * 5 ≤ sizeLine; decide), fun M hM => ?_⟩⟩⟩
    have s1 := K1.Same.upd (H := H6) (p := W) (o := .tup [.str "house", y]) hW
    have gW := upd_same' H6 W (.tup [.str "house", y])
    generalize L2.upd H6 W (.tup [.str "house", y]) = H7 at s1 gW hL hM ⊢
    have s2 := K1.Same.upd (H := H7) (p := L) (o := .lst [.ref W]) hL
    generalize L2.upd H7 L (.lst [.ref W]) = H8 at s2 hM ⊢
    have s3 := K1.Same.upd (H := H8) (p := M) (o := .lst (List.replicate (5 : Int).toNat [V.ref W]).flatten) hM
    have gM : L2.upd H8 M (.lst (List.replicate (5 : Int).toNat [V.ref W]).flatten) M = some (.lst [.ref W, .ref W, .ref W, .ref W, .ref W]) := upd_same
    generalize L2.upd H8 M (.lst (List.replicate (5 : Int).toNat [V.ref W]).flatten) = H9 at s3 gM ⊢
    have s69 : Same H6 H9 := s1.trans (s2.trans s3)
    have x9 : LamX.ExtN H1 H9 := g1.trans (f5.ext.trans (LamX.ExtN.of s69))
    have one : ∀ z, HouP H6 z y → R5 H9 z (.ref W) := fun z ⟨p, e, hp⟩ => by
      subst e
      exact r_tups (R := R4) (s69 _ _ hp) (s3 _ _ (s2 _ _ gW)) (by show 2 ≤ 100; decide) (.cons (r_str _) (.cons (up24 (oy.same x9)) .nil))
    refine ⟨_, _, rfl, show NextF R5 H9 (.ref Fd) (.ref M) from r_lists (s69 _ _ f5.lst) gM (by show 5 ≤ 100; decide) ?_, fun H10 e10 => ⟨_, rfl, ?_⟩⟩
    · have pp := f5.prs
      cases pp with
      | cons a1 pp => cases pp with
      | cons a2 pp => cases pp with
      | cons a3 pp => cases pp with
      | cons a4 pp => cases pp with
      | cons a5 pp => exact .cons (one _ a1) (.cons (one _ a2) (.cons (one _ a3) (.cons (one _ a4) (.cons (one _ a5) .nil))))
    refine iteF ?_
    refine nQ ?_
    exact ⟨⟨_, _, rfl⟩, x9.trans (LamX.ExtN.of e10), tabs_same f5.tb (s69.trans e10)⟩
  · rintro σ Hc ⟨⟨y3, y4, rfl⟩, g1, g2⟩
    have g0 : LamX.ExtN H Hc := x1.trans g1
    with_reducible refine sQ ?_
    -- two objects that are held, and changed later
    refine ⟨(by show 1 ≤ sizeLine; decide), fun A1 hA1 => ⟨(by show 2 ≤ sizeLine; decide), fun u1 hu1 => ⟨(by show 1 ≤ sizeLine; decide), fun u2 hu2 => ⟨u2, [u1], kv1, rfl, SqL.of upd_same, .cons (SqT.of (K1.Same.upd hu2 _ _ upd_same)) .nil, fun B1 hB1 => ⟨(by show 2 ≤ sizeLine; decide), fun U hU => ?_⟩⟩⟩⟩⟩
    have s1 := K1.Same.upd (H := Hc) (p := A1) (o := .lst [.str "x"]) hA1
    have gA := upd_same' Hc A1 (.lst [.str "x"])
    generalize L2.upd Hc A1 (.lst [.str "x"]) = H2 at s1 gA hu1 hu2 hB1 hU ⊢
    have s2 := K1.Same.upd (H := H2) (p := u1) (o := .tup [.str "x", .int 1]) hu1
    generalize L2.upd H2 u1 (.tup [.str "x", .int 1]) = H3 at s2 hu2 hB1 hU ⊢
    have s3 := K1.Same.upd (H := H3) (p := u2) (o := .lst [.ref u1]) hu2
    generalize L2.upd H3 u2 (.lst [.ref u1]) = H4 at s3 hB1 hU ⊢
    have s4 := K1.Same.upd (H := H4) (p := B1) (o := .dK kv1) hB1
    have gB := upd_same' H4 B1 (.dK kv1)
    have mk1 : mergeK [] kv1 = kv1 := rfl
    rw [mk1] at hU ⊢
    generalize L2.upd H4 B1 (.dK kv1) = H5 at s4 gB hU ⊢
    have s5 := K1.Same.upd (H := H5) (p := U) (o := .tup [.ref A1, .ref B1]) hU
    have gU := upd_same' H5 U (.tup [.ref A1, .ref B1])
    generalize L2.upd H5 U (.tup [.ref A1, .ref B1]) = H6 at s5 gU ⊢
    have sc6 : Same Hc H6 := s1.trans (s2.trans (s3.trans (s4.trans s5)))
    have gA6 := s5 _ _ (s4 _ _ (s3 _ _ (s2 _ _ gA)))
    have gB6 := s5 _ _ gB
    have nA : Hc A1 = none := hA1
    have nB : Hc B1 = none := (s1.trans (s2.trans s3)).free hB1
    have x6 : LamX.ExtN H H6 := g0.trans (LamX.ExtN.of sc6)
    have t6 := tabs_same g2 sc6
    refine ⟨U, _, rfl, SqT.of gU, rfl, _, _, rfl, _, _, rfl, rfl, ?_⟩
    with_reducible refine sQ ?_
    have oA : ∀ {Hx}, LamX.ExtN H6 Hx → NoHo K Hx (s :: tl) (.ref A1) := fun e => .inr ⟨_, .base (.lst (e _ _ gA6 (fun _ z => by cases z))), by decide, by decide⟩
    have oB : ∀ {Hx}, LamX.ExtN H6 Hx → NoHo K Hx (s :: tl) (.ref B1) := fun e => .inr ⟨_, .base (.dK (e _ _ gB6 (fun _ z => by cases z))), by decide, by decide⟩
    refine fnd_first t6 (fun Ha ea E' Q' g => be_no (iv.extN (x6.trans ea)) rfl rfl (oA ea) g) fun Fd z1 H7 f1 => ?_
    refine K1.gN ?_
    with_reducible refine sQ ?_
    refine fnd_app f1 (by simp) rfl (fun Ha ea E' Q' g => wa_no2 (iv.extN (x6.trans ea)) tr hl3 hs rfl rfl rfl (oB ea) g) fun z2 H8 f2 => ?_
    with_reducible refine sQ ?_
    refine fnd_app f2 (by simp) rfl (fun Ha ea E' Q' g => si_no (iv.extN (x6.trans ea)) tr hl3 rfl rfl (fun Q2 q2 => ⟨_, rfl, q2 _⟩) (oA ea) g) fun z3 H9 f3 => ?_
    with_reducible refine sQ ?_
    have gA9 := f3.ext _ _ gA6 (fun _ z => by cases z)
    have gB9 := f3.ext _ _ gB6 (fun _ z => by cases z)
    have FA : Fd ≠ A1 := fun z => by
      obtain ⟨ps, e⟩ := f3.new _ (by rw [z]; exact gA6)
      cases e
    have FB : Fd ≠ B1 := fun z => by
      obtain ⟨ps, e⟩ := f3.new _ (by rw [z]; exact gB6)
      cases e
    have AB : A1 ≠ B1 := fun z => by rw [z, gB6] at gA6; cases gA6
    have xc9 : LamX.ExtN Hc H9 := (LamX.ExtN.of sc6).trans f3.ext
    have noA : ∀ o, Hc A1 = some o → ∃ ps, o = .tbl ps := fun o h => by rw [nA] at h; cases h
    have noB : ∀ o, Hc B1 = some o → ∃ ps, o = .tbl ps := fun o h => by rw [nB] at h; cases h
    refine ⟨_, rfl, .inl ⟨rfl, _, SqL.of gA9⟩, A1, _, _, rfl, rfl, gA9, small1000 (by show 1 ≤ 1000; decide), ?_⟩
    have xcA := extN_upd2 (o := .lst ([.str "x"] ++ [.str "late"])) xc9 noA
    have tA := tabs_kept f3.tb gA9 (Kept.upd (o := .lst ([.str "x"] ++ [.str "late"])))
    have gAA : L2.upd H9 A1 (.lst ([.str "x"] ++ [.str "late"])) A1 = some (.lst [.str "x", .str "late"]) := upd_same
    have gAB : L2.upd H9 A1 (.lst ([.str "x"] ++ [.str "late"])) B1 = some (.dK kv1) := by rw [upd_ne AB.symm]; exact gB9
    have gAF : L2.upd H9 A1 (.lst ([.str "x"] ++ [.str "late"])) Fd = some (.lst [z1, z2, z3]) := by rw [upd_ne FA]; exact f3.lst
    have pA : Paired (HouP (L2.upd H9 A1 (.lst ([.str "x"] ++ [.str "late"])))) [z1, z2, z3] [.ref A1, .ref B1, .ref A1] := paired_imp (fun _ _ h => h.upd gA9) f3.prs
    generalize L2.upd H9 A1 (.lst ([.str "x"] ++ [.str "late"])) = H10 at xcA tA gAA gAB gAF pA ⊢
    with_reducible refine sQ ?_
    refine ⟨_, rfl, B1, _, rfl, DPut.k (k := .inr "late") gAB (by show 1 < sizeLine; decide), ?_⟩
    have pk2 : putK kv1 (.inr "late") (.int 1) = kv2 := rfl
    rw [pk2]
    have xcB := extN_upd2 (o := .dK kv2) xcA noB
    have tB : LamX.Tabs TT (L2.upd H10 B1 (.dK kv2)) := tabs_keptD tA gAB Kept.upd
    have gBB := upd_same' H10 B1 (.dK kv2)
    have gBA : L2.upd H10 B1 (.dK kv2) A1 = some (.lst [.str "x", .str "late"]) := by rw [upd_ne AB]; exact gAA
    have gBF : L2.upd H10 B1 (.dK kv2) Fd = some (.lst [z1, z2, z3]) := by rw [upd_ne FB]; exact gAF
    have pB : Paired (HouP (L2.upd H10 B1 (.dK kv2))) [z1, z2, z3] [.ref A1, .ref B1, .ref A1] := paired_imp (fun _ _ h => h.updD gAB) pA
    generalize L2.upd H10 B1 (.dK kv2) = H11 at xcB tB gBB gBA gBF pB ⊢
    with_reducible refine sQ ?_
    have hou : ∀ {σ : L2.St}, Mr H11 (tTup (tCons (tC (.str "house")) (tCons (tLst (tCons (tC (.str "x")) (tCons (tC (.str "late")) tNil))) tNil))) σ (tupP [eqP (.str "house"), lstP [eqP (.str "x"), eqP (.str "late")]]) := mr_tup (mr_cons (mr_c _) (mr_cons (mr_lst (mr_cons (mr_c _) (mr_cons (mr_c _) mr_nil))) mr_nil))
    refine (mr_lst (mr_cons hou (mr_cons (mr_tup (mr_cons (mr_c _) (mr_cons (mr_dct (kvs := kv2) (mr_lst (mr_cons (mr_tup (mr_cons (mr_c _) (mr_cons (mr_c _) mr_nil))) (mr_cons (mr_tup (mr_cons (mr_c _) (mr_cons (mr_c _) mr_nil))) mr_nil)))) mr_nil))) (mr_cons hou mr_nil)))).run H11 (Same.refl _) _ fun D H12 e12 pD => ?_
    refine K1.gN ?_
    obtain ⟨D1, ds, rfl, gD, pds⟩ := pD
    have iv12 : LamX.ExtN H H12 := g0.trans (xcB.trans (LamX.ExtN.of e12))
    have gF12 := e12 _ _ gBF
    have gA12 := e12 _ _ gBA
    have gB12 := e12 _ _ gBB
    have p12 : Paired (HouP H12) [z1, z2, z3] [.ref A1, .ref B1, .ref A1] := paired_imp (fun _ _ h => h.ext (LamX.ExtN.of e12)) pB
    clear hou gU gA6 gB6 gA9 gB9 gAA gAB gAF pA gBB gBA gBF pB oA oB
    refine ⟨_, rfl, met_road (v := .str s) (u := .str s) (tabs_same tB e12) (fun Ha ea E' Q' g => ?_) fun p H13 e13 t13 fr gp => ⟨(by show 1 ≤ sizeLine; decide), fun G hG => ?_⟩⟩
    · have iv' := iv.extN (iv12.trans ea)
      obtain ⟨dx, fs, gx, _, _, n3⟩ := iv'.ins
      exact ⟨_, rfl, x, dx, fs, rfl, gx, n3, _, rfl, _, rfl, x, .str s, .str s, _, rs, ns, rfl, iv', tr, hl3, .inr ⟨s, rfl, hs, .inr ⟨s, rfl, hs, .inl ⟨tr.loop s, g⟩⟩⟩⟩
    have s14 := K1.Same.upd (H := H13) (p := G) (o := .lst [.ref p]) hG
    have gG := upd_same' H13 G (.lst [.ref p])
    generalize L2.upd H13 G (.lst [.ref p]) = H14 at s14 gG ⊢
    have x14 : LamX.ExtN H12 H14 := e13.trans (LamX.ExtN.of s14)
    refine ⟨Fd, G, [z1, z2, z3], [.ref p], rfl, rfl, x14 _ _ gF12 (fun _ z => by cases z), gG, (by show 4 ≤ sizeLine; decide), fun F2 hF2 => ?_⟩
    have s15 := K1.Same.upd (H := H14) (p := F2) (o := .lst ([z1, z2, z3] ++ [.ref p])) hF2
    have gF2 := upd_same' H14 F2 (.lst ([z1, z2, z3] ++ [.ref p]))
    generalize L2.upd H14 F2 (.lst ([z1, z2, z3] ++ [.ref p])) = H15 at s15 gF2 ⊢
    have x15 : LamX.ExtN H12 H15 := x14.trans (LamX.ExtN.of s15)
    refine ⟨_, rfl, _, rfl, _, rfl, (by show 3 ≤ sizeLine; decide), fun W hW => ⟨(by show 1 ≤ sizeLine; decide), fun G2 hG2 => ?_⟩⟩
    have s16 := K1.Same.upd (H := H15) (p := W) (o := .tup [.str "road", .str s, .str s]) hW
    have gW := upd_same' H15 W (.tup [.str "road", .str s, .str s])
    generalize L2.upd H15 W (.tup [.str "road", .str s, .str s]) = H16 at s16 gW hG2 ⊢
    have s17 := K1.Same.upd (H := H16) (p := G2) (o := .lst [.ref W]) hG2
    have gG2 := upd_same' H16 G2 (.lst [.ref W])
    generalize L2.upd H16 G2 (.lst [.ref W]) = H17 at s17 gG2 ⊢
    have s57 := s16.trans s17
    have x17 : LamX.ExtN H12 H17 := x15.trans (LamX.ExtN.of s57)
    have lds : ds.length = 3 := pds.length
    refine ⟨D1, G2, ds, [.ref W], rfl, rfl, x17 _ _ gD (fun _ z => by cases z), gG2, (by rw [lds]; show 4 ≤ sizeLine; decide), fun F3 hF3 => ?_⟩
    have s18 := K1.Same.upd (H := H17) (p := F3) (o := .lst (ds ++ [.ref W])) hF3
    have gF3 := upd_same' H17 F3 (.lst (ds ++ [.ref W]))
    generalize L2.upd H17 F3 (.lst (ds ++ [.ref W])) = H18 at s18 gF3 ⊢
    have x18 : LamX.ExtN H12 H18 := x17.trans (LamX.ExtN.of s18)
    have s58 := s57.trans s18
    have gA18 := x18 _ _ gA12 (fun _ z => by cases z)
    have gB18 := x18 _ _ gB12 (fun _ z => by cases z)
    have gp18 := s58 _ _ (s15 _ _ (s14 _ _ gp))
    have gW18 := s18 _ _ (s17 _ _ gW)
    refine ⟨_, _, rfl, show NextF R5 H18 (.ref F2) (.ref F3) from r_lists (s58 _ _ gF2) gF3 (by show 4 ≤ 100; decide) ?_, fun H19 e19 => ?_⟩
    · cases pds with
      | cons b1 pds => cases pds with
      | cons b2 pds => cases pds with
      | cons b3 pds => cases pds with
      | nil => cases p12 with
        | cons a1 p12 => cases p12 with
        | cons a2 p12 => cases p12 with
        | cons a3 p12 =>
          have lst2 : ∀ z b, HouP H12 z (.ref A1) → tupP [eqP (.str "house"), lstP [eqP (.str "x"), eqP (.str "late")]] H12 b → R5 H18 z b := by
            rintro z b ⟨pz, rfl, hz⟩ ⟨pb, ys, rfl, hb, py⟩
            obtain ⟨u, v, rfl⟩ : ∃ u v, ys = [u, v] := by
              cases py with
              | cons f g => cases g with
              | cons f2 g => cases g with
              | nil => exact ⟨_, _, rfl⟩
            cases py with
            | cons f g => cases g with
            | cons f2 g =>
              obtain rfl := f
              obtain ⟨pl, us, rfl, hpl, pu⟩ := f2
              cases pu with
              | cons f g => cases g with
              | cons f2 g => cases g with
              | nil =>
                obtain rfl := f
                obtain rfl := f2
                exact r_tups (R := R4) (x18 _ _ hz (fun _ z => by cases z)) (x18 _ _ hb (fun _ z => by cases z)) (by show 2 ≤ 100; decide) (.cons (r_str _) (.cons (r_lists (R := R3) gA18 (x18 _ _ hpl (fun _ z => by cases z)) (by show 2 ≤ 100; decide) (.cons (r_str _) (.cons (r_str _) .nil))) .nil))
          have dct2 : ∀ z b, HouP H12 z (.ref B1) → tupP [eqP (.str "house"), dkP (mergeK [] kv2)] H12 b → R5 H18 z b := by
            rintro z b ⟨pz, rfl, hz⟩ ⟨pb, ys, rfl, hb, py⟩
            obtain ⟨u, v, rfl⟩ : ∃ u v, ys = [u, v] := by
              cases py with
              | cons f g => cases g with
              | cons f2 g => cases g with
              | nil => exact ⟨_, _, rfl⟩
            cases py with
            | cons f g => cases g with
            | cons f2 g =>
              obtain rfl := f
              obtain ⟨pd, rfl, hpd⟩ := f2
              have mk2 : mergeK [] kv2 = kv2 := rfl
              rw [mk2] at hpd
              exact r_tups (R := R4) (x18 _ _ hz (fun _ z => by cases z)) (x18 _ _ hb (fun _ z => by cases z)) (by show 2 ≤ 100; decide) (.cons (r_str _) (.cons (show NextF (NextF (NextF R1)) H18 (.ref B1) (.ref pd) from r_dct gB18 (x18 _ _ hpd (fun _ z => by cases z)) (by show 2 ≤ 100; decide) fl2) .nil))
          exact .cons (lst2 _ _ a1 b1) (.cons (dct2 _ _ a2 b2) (.cons (lst2 _ _ a3 b3) (.cons (r_tups (R := R4) gp18 gW18 (by show 3 ≤ 100; decide) (.cons (r_str _) (.cons (r_str _) (.cons (r_str _) .nil)))) .nil)))
    exact q H19 (iv12.trans (x18.trans (LamX.ExtN.of e19))) (tabs_same (tabs_same (tabs_same t13 s14) s15) (s58.trans e19))
end
end K1
end
-- NLawA
section
set_option Elab.async false
set_option linter.all false
set_option maxRecDepth 100000
set_option maxHeartbeats 1000000
namespace K1
open PySem PySem.Spec PyProof.Rows L2
/-- all but the spring and the tables stay -/
def KN (a : Addr) (H H' : Hp) : Prop := ∀ b o, b ≠ a → H b = some o → (∀ ps, o ≠ .tbl ps) → H' b = some o
theorem KN.refl {a : Addr} {H : Hp} : KN a H H := fun _ _ _ h _ => h
theorem KN.trans {a : Addr} {H H1 H2 : Hp} (p : KN a H H1) (q : KN a H1 H2) : KN a H H2 := fun b o n h t => q b o n (p b o n h t) t
theorem KN.of {a : Addr} {H H' : Hp} (k : Kept a H H') : KN a H H' := fun b o n h _ => k b o n h
theorem KN.ofS {a : Addr} {H H' : Hp} (k : Same H H') : KN a H H' := fun b o _ h _ => k b o h
theorem KN.ofN {a : Addr} {H H' : Hp} (k : LamX.ExtN H H') : KN a H H' := fun b o _ h t => k b o h t
theorem KN.kept {a : Addr} {H H' : Hp} (k : KN a H H') : Kept a (nt H) H' := fun b o nb h => k b o nb (nt_some.mp h).1 (nt_some.mp h).2
theorem KN.new {a D : Addr} {H H' : Hp} {o : HO} (k : KN a H H') (n : H D = none) : KN a H (L2.upd H' D o) := fun b u nb h t => by
  rw [upd_ne (ne_of_none h n)]
  exact k b u nb h t
theorem extN_nt {H : Hp} : LamX.ExtN H (nt H) := fun b o h t => nt_some.mpr ⟨h, t⟩
theorem Spr.extN {H H' : Hp} {a : Addr} {n : Nat} (s : Spr H a n) (e : LamX.ExtN H H') : Spr H' a n := by
  obtain ⟨x, y, z, h, r⟩ := s
  exact ⟨x, y, z, e _ _ h (fun _ z => by cases z), r⟩
theorem VAt.nt {a : Addr} {H : Hp} {t p1 p2 p3 : Addr} {qs : List Addr} {ss : List Str} {rs : List (Str × Str)} {ns : List Int} (v : VAt a H t p1 p2 p3 qs ss rs ns) : VAt a (nt H) t p1 p2 p3 qs ss rs ns :=
  ⟨nt_t v.t0, nt_l v.h1, nt_l v.h2, paired_imp (fun _ _ h => nt_t h) v.pr, nt_l v.h3, v.n1, v.n2, v.n3⟩
theorem VAt.kn {a : Addr} {H H' : Hp} {t p1 p2 p3 : Addr} {qs : List Addr} {ss : List Str} {rs : List (Str × Str)} {ns : List Int} {n : Nat} (v : VAt a H t p1 p2 p3 qs ss rs ns) (s : Spr H a n) (k : KN a H H') : VAt a H' t p1 p2 p3 qs ss rs ns :=
  v.nt.kept (s.extN extN_nt) k.kept
theorem ValS.kn {C a : Addr} {H H' : Hp} {x l1 l2 l3 d1 d2 d3 : Addr} {qs : List Addr} {bs : Str → Addr} {ss : List Str} {rs : List (Str × Str)} {ns : List Int} {n : Nat} (v : ValS C H x l1 l2 l3 d1 d2 d3 qs bs ss rs ns) (o : OffV a l1 l2 l3 bs ss) (s : Spr H a n) (k : KN a H H') : ValS C H' x l1 l2 l3 d1 d2 d3 qs bs ss rs ns :=
  (v.extN extN_nt).kept o (s.extN extN_nt) k.kept
theorem Spr.tabs {T : List (Addr × Str)} {H H' : Hp} {a : Addr} {n : Nat} (s : Spr H a n) (t : LamX.Tabs T H) (k : Kept a H H') : LamX.Tabs T H' := by
  obtain ⟨x, y, z, e, _⟩ := s
  exact tabs_kept t e k
/-- a pair of two houses -/
def PairIn (H : Hp) (ss : List Str) (z : V) : Prop := ∃ (q : Addr) (r : Str × Str), z = .ref q ∧ H q = some (.tup [.str r.1, .str r.2]) ∧ r.1 ∈ ss ∧ r.2 ∈ ss
theorem PairIn.kn {a : Addr} {H H' : Hp} {ss : List Str} {z : V} {n : Nat} (p : PairIn H ss z) (s : Spr H a n) (k : KN a H H') : PairIn H' ss z := by
  obtain ⟨q, r, e, hq, h⟩ := p
  exact ⟨q, r, e, k _ _ (s.tup hq) hq (fun _ z => by cases z), h⟩
theorem PairIn.same {H H' : Hp} {ss : List Str} {z : V} (p : PairIn H ss z) (k : Same H H') : PairIn H' ss z := by
  obtain ⟨q, r, e, hq, h⟩ := p
  exact ⟨q, r, e, k _ _ hq, h⟩
theorem PairIn.put {D : Addr} {H : Hp} {ss : List Str} {xs ys : List V} {z : V} (p : PairIn H ss z) (g : H D = some (.lst xs)) : PairIn (L2.upd H D (.lst ys)) ss z := by
  obtain ⟨q, r, e, hq, h⟩ := p
  exact ⟨q, r, e, by rw [upd_ne (fun e => by rw [e, g] at hq; cases hq)]; exact hq, h⟩
/-- a list of pairs of houses, with a spring and the tables -/
structure PL (T : List (Addr × Str)) (a D : Addr) (ss : List Str) (H : Hp) (m n : Nat) : Prop where
  l : ∃ zs, H D = some (.lst zs) ∧ zs.length ≤ m ∧ ∀ z ∈ zs, PairIn H ss z
  s : Spr H a n
  t : LamX.Tabs T H
  ne : D ≠ a
theorem PL.kept {T : List (Addr × Str)} {a D : Addr} {ss : List Str} {H H' : Hp} {m n n' : Nat} (p : PL T a D ss H m n) (k : Kept a H H') (s : Spr H' a n') : PL T a D ss H' m n' := by
  obtain ⟨zs, h1, h2, h3⟩ := p.l
  exact ⟨⟨zs, k _ _ p.ne h1, h2, fun z hz => (h3 z hz).kn p.s (.of k)⟩, s, p.s.tabs p.t k, p.ne⟩
theorem PL.same {T : List (Addr × Str)} {a D : Addr} {ss : List Str} {H H' : Hp} {m n : Nat} (p : PL T a D ss H m n) (k : Same H H') : PL T a D ss H' m n := by
  obtain ⟨zs, h1, h2, h3⟩ := p.l
  exact ⟨⟨zs, k _ _ h1, h2, fun z hz => (h3 z hz).same k⟩, p.s.same k, tabs_same p.t k, p.ne⟩
/-- more pairs at its end -/
theorem PL.add {T : List (Addr × Str)} {a D : Addr} {ss : List Str} {H : Hp} {m n k : Nat} {zs ys : List V} (p : PL T a D ss H m n) (g : H D = some (.lst zs)) (l : ys.length ≤ k) (hy : ∀ z ∈ ys, PairIn H ss z) : PL T a D ss (L2.upd H D (.lst (zs ++ ys))) (m + k) n := by
  obtain ⟨zs', h1, h2, h3⟩ := p.l
  rw [g] at h1
  obtain rfl : zs = zs' := HO.lst.inj (Option.some.inj h1)
  refine ⟨⟨zs ++ ys, upd_same, by rw [List.length_append]; omega, fun z hz => ?_⟩, p.s.upd p.ne, tabs_kept p.t g Kept.upd, p.ne⟩
  rcases List.mem_append.mp hz with hz | hz
  · exact (h3 z hz).put g
  · exact (hy z hz).put g
theorem PL.mono {T : List (Addr × Str)} {a D : Addr} {ss : List Str} {H : Hp} {m n m' n' : Nat} (p : PL T a D ss H m n) (l : m ≤ m') (l' : n ≤ n') : PL T a D ss H m' n' := by
  obtain ⟨zs, h1, h2, h3⟩ := p.l
  exact ⟨⟨zs, h1, by omega, h3⟩, p.s.mono l', p.t, p.ne⟩
end K1
namespace K1
open PySem PySem.Spec PyProof.Rows L2
theorem paired_all {H : Hp} {R : V → Prop} : ∀ {xs : List V} {Ps : List PV}, Paired (fun v P => P H v) xs Ps → (∀ P ∈ Ps, ∀ x, P H x → R x) → ∀ x ∈ xs, R x
  | _, _, .nil, _, x, h => absurd h (by simp)
  | _, _, .cons f r, k, x, h => by
    rcases List.mem_cons.mp h with rfl | h
    · exact k _ (List.mem_cons_self ..) _ f
    · exact paired_all r (fun P hP => k P (List.mem_cons_of_mem _ hP)) x h
theorem tup2 {H : Hp} {v : V} {P1 P2 : PV} (h : tupP [P1, P2] H v) : ∃ p x y, v = .ref p ∧ H p = some (.tup [x, y]) ∧ P1 H x ∧ P2 H y := by
  obtain ⟨p, xs, rfl, hp, q⟩ := h
  cases q with
  | cons a r => cases r with
  | cons b r => cases r with
  | nil => exact ⟨p, _, _, rfl, hp, a, b⟩
theorem for_run {wi : TI} {g : TG} {tb : TS} {D : Ends} {σ : L2.St} {H : Hp} (h : wi σ H fun J H1 => tFor (fun _ H2 R => R J H2) g tb D σ H1) : tFor wi g tb D σ H := h
theorem itup_run {K : PySem.W.Frag} {tl : TE} {σ : L2.St} {H : Hp} {R : It → Hp → Prop} (h : tl σ H fun x H1 => ∃ a, x = .ref a ∧ (∃ xs, SqT K H1 a xs) ∧ R (Itt K a) H1) : iTup K tl σ H R := h
theorem asg_run {te : TE} {g : TG} {D : Ends} {σ : L2.St} {H : Hp} (h : te σ H fun x H1 => g x σ H1 D.nx) : tAsg te g D σ H := h
theorem paired_mem' {α β : Type} {F : α → β → Prop} : ∀ {xs : List α} {ys : List β}, Paired F xs ys → ∀ {x}, x ∈ xs → ∃ y, y ∈ ys ∧ F x y
  | _, _, .cons f r, x, h => by
    rcases List.mem_cons.mp h with rfl | h
    · exact ⟨_, List.mem_cons_self .., f⟩
    · obtain ⟨y, a, b⟩ := paired_mem' r h
      exact ⟨y, List.mem_cons_of_mem _ a, b⟩
/-- either way, what is told is of this kind -/
theorem if_cut {c : Bool} {A B : VK → Prop} {Q : VK} (R : V → Hp → Prop) (h1 : c = true → ∀ Q' : VK, (∀ v H', R v H' → Q' v H') → A Q') (h2 : c = false → ∀ Q' : VK, (∀ v H', R v H' → Q' v H') → B Q') (h : ∀ v H', R v H' → Q v H') : if c = true then A Q else B Q := by
  cases c with
  | true => exact iteT (h1 rfl Q h)
  | false => exact iteF (h2 rfl Q h)
theorem cutV_mem {xs : List V} {lo hi : Option Int} {x : V} (h : x ∈ cutV xs lo hi) : x ∈ xs := by
  unfold cutV at h
  exact List.mem_of_mem_drop (List.mem_of_mem_take h)
end K1
end
-- NLawB
section
set_option Elab.async false
set_option linter.all false
set_option maxRecDepth 100000
set_option maxHeartbeats 1000000
namespace K1
open PySem PySem.Spec PyProof.Rows L2
abbrev sLaw : Stmt := top 44
def spLaw (K : PySem.W.Frag) (T : List (Addr × Str)) : Sp := fun vs H Q _ => ∃ (p : Addr) (ns : List Int), vs = [.ref p] ∧ SqL K H p (ns.map V.int) ∧ ns.length ≤ 1000 ∧ LamX.Tabs T H ∧ ∀ H', Q (.bl true) H'
theorem scLaw : FnScope ["script", "turn", "spring", "least", "most", "valley", "made", "names", "k", "pairs", "one", "other"] ["script"] (defScope sLaw) := ⟨rfl, rfl, rfl, by decide +kernel, rfl, by decide +kernel, by decide +kernel⟩
theorem seq_extN {K : PySem.W.Frag} {H H' : Hp} {a : Addr} {xs : List V} (e : LamX.ExtN H H') (h : SqL K H a xs) : SqL K H' a xs := by
  rcases h with (h | ⟨o, h⟩) | h
  · exact .inl (.inl (e _ _ h (fun _ z => by cases z)))
  · exact .inl (.inr ⟨o, e _ _ h (fun _ z => by cases z)⟩)
  · exact .inr h
section
variable {P : Program} {w : World} {K : PySem.W.Frag} {mg : Str → Option Value} {base : Heap} {C : Addr} {T : List (Addr × Str)}
theorem ok_law {f : Addr} {fd : FuncData} (F : Fun K "law" "law" sLaw f fd) (B : Bl mg) (mr : mg "range" = none) (mn : mg "min" = none) (mx : mg "max" = none)
    (hS : Fz P w K mg base CX0 1 "_law_spring" ["script", "turn"] (spSpring K)) (hV : Fz P w K mg base CX0 4 "_law_v_valley" ["spring", "least", "most"] spVV) (hM : Fz P w K mg base CX0 7 "_law_v_made" ["spring", "valley"] (spMd C))
    (hP : Fz P w K mg base CX0 2 "_law_pick" ["spring", "some"] spPick) (hT : Fz P w K mg base CX0 9 "_law_two_right" ["made", "valley", "one", "other"] (spTwo C T)) (hR : Fz P w K mg base CX0 9 "_law_refused_right" ["made", "valley"] (spRef C T)) :
    FnOk P w K mg base CX0 10 f fd ["script"] (spLaw K T) := by
  obtain ⟨fS, fdS, GS, bS, kS, mS⟩ := hS
  obtain ⟨fV, fdV, GV, bV, kV, mV⟩ := hV
  obtain ⟨fM, fdM, GM, bM, kM, mM⟩ := hM
  obtain ⟨fP, fdP, GP, bP, kP, mP⟩ := hP
  obtain ⟨fT, fdT, GT, bT, kT, mT⟩ := hT
  obtain ⟨fR, fdR, GR, bR, kR, mR⟩ := hR
  refine F.ok scLaw (fun vs H Q E h => ?_) (fun cdv A outer s0 H vs Q E hr h => ?_)
  · obtain ⟨p, ns, rfl, _⟩ := h
    rfl
  obtain ⟨p, ns, rfl, hp, hl, tb, q⟩ := h
  have nd := scLaw.nd
  have hr1 : Room 1 _ := hr.mono (by decide)
  have hr2 : Room 2 _ := hr.mono (by decide)
  have hr4 : Room 4 _ := hr.mono (by decide)
  have hr7 : Room 7 _ := hr.mono (by decide)
  refine ⟨_, (pss_cons (by exact (ps_for PassesOwn.never rfl (by exact pi_range1 rfl mr (pa_cons (pe_callB (call_min2 rfl) rfl mn (by decide +kernel) (pa_cons pe_int (pa_cons (pe_callB (call_max2 rfl) rfl mx (by decide +kernel) (pa_cons pe_int (pa_cons (pe_callB call_len_seq rfl B.len PySem.boot_len (pa_cons (pv 0) pa_nil)) pa_nil))) pa_nil))) pa_nil)) (pg_name (i := 1) nd rfl (.inl rfl)) (pss_cons (by exact (ps_set (i := 2) nd rfl (.inr rfl) (pe_call GS hr1 rfl mS kS bS .nil pass0 (pa_cons (pv 0) (pa_cons (pv 1) pa_nil)))))
  (pss_one (by exact (ps_for PassesOwn.never rfl (by exact pi_tup (pe_tup (pa_cons (pe_tup (pa_cons pe_int (pa_cons pe_int pa_nil))) (pa_cons (pe_tup (pa_cons pe_int (pa_cons pe_int pa_nil))) (pa_cons (pe_tup (pa_cons pe_int (pa_cons pe_int pa_nil))) pa_nil))))) (pg_tup rfl (pgs_cons (pg_name (i := 3) nd rfl (.inl rfl)) (pgs_cons (pg_name (i := 4) nd rfl (.inl rfl)) pgs_nil))) (pss_cons (by exact (ps_set (i := 5) nd rfl (.inr rfl) (pe_call GV hr4 rfl mV kV bV .nil pass0 (pa_cons (pv 2) (pa_cons (pv 3) (pa_cons (pv 4) pa_nil))))))
  (pss_cons (by exact (ps_asg (pe_tup (pa_cons (pe_call GM hr7 rfl mM kM bM .nil pass0 (pa_cons (pv 2) (pa_cons (pv 5) pa_nil))) (pa_cons (pe_ix ix_tup (pv 5) pe_int (fun _ _ => rfl)) pa_nil))) (pg_tup rfl (pgs_cons (pg_name (i := 6) nd rfl (.inl rfl)) (pgs_cons (pg_name (i := 7) nd rfl (.inr rfl)) pgs_nil)))))
  (pss_cons (by exact (ps_setLc (i := 9) (own := [("k", 8)]) (g := gName 8) (tt := tYes) rfl nd rfl rfl (sw_true rfl rfl rfl (by decide +kernel)) (by exact pi_range1 rfl mr (pa_cons pe_int pa_nil)) (by exact blkOk_by (N := ["script", "turn", "spring", "least", "most", "valley", "made", "names", "k", "pairs", "one", "other"]) (sc := defScope sLaw) (by decide +kernel)) (fun _ _ _ _ _ => by exact (pg_name (i := 8) nd rfl (.inl rfl))) (fun _ _ _ _ _ => by exact pts_nil) (fun _ _ _ _ _ => by exact (pe_tup (pa_cons (pe_call GP hr2 rfl mP kP bP .nil pass0 (pa_cons (pv 2) (pa_cons (pv 7) pa_nil))) (pa_cons (pe_call GP hr2 rfl mP kP bP .nil pass0 (pa_cons (pv 2) (pa_cons (pv 7) pa_nil))) pa_nil))))))
  (pss_cons (by exact (ps_for PassesOwn.never rfl (by exact pi_list (pe_ifExp (pt_cmpR op_lt (pe_callB call_len_seq rfl B.len PySem.boot_len (pa_cons (pv 7) pa_nil)) pe_int (nomark _)) (pv 7) (pe_lst pa_nil))) (pg_name (i := 10) nd rfl (.inr rfl)) (pss_one (by exact (ps_expr (pe_bm PySem.F.plainAttrs_list PySem.F.slot_list_extend PySem.F.type_list_extend mt_extend (pv 9) (pa_cons (pe_lc (own := [("other", 11)]) (g := gName 11) (tt := tYes) rfl nd (by exact pi_list (pv 7)) (by exact blkOk_by (N := ["script", "turn", "spring", "least", "most", "valley", "made", "names", "k", "pairs", "one", "other"]) (sc := defScope sLaw) (by decide +kernel)) (fun _ _ _ _ _ => by exact (pg_name (i := 11) nd rfl (.inl rfl))) (fun _ _ _ _ _ => by exact pts_nil) (fun _ _ _ _ _ => by exact (pe_tup (pa_cons (pv 10) (pa_cons (pv 11) pa_nil))))) pa_nil)))))))
  (pss_cons (by exact (ps_expr (pe_bm PySem.F.plainAttrs_list PySem.F.slot_list_extend PySem.F.type_list_extend mt_extend (pv 9) (pa_cons (pe_ifExp (pt_cmpR op_gt (pe_callB call_len_seq rfl B.len PySem.boot_len (pa_cons (pv 7) pa_nil)) pe_int (nomark _)) (pe_lc (own := [("k", 8)]) (g := gName 8) (tt := tYes) (te := tCall spPick [] E0 (tCons (tVar 2) (tCons (tOp (rIxT K) (tVar 5) (tC (.int 1))) tNil))) rfl nd (by exact pi_range1 rfl mr (pa_cons pe_int pa_nil)) (by exact blkOk_by (N := ["script", "turn", "spring", "least", "most", "valley", "made", "names", "k", "pairs", "one", "other"]) (sc := defScope sLaw) (by decide +kernel)) (fun _ _ _ _ _ => by exact (pg_name (i := 8) nd rfl (.inl rfl))) (fun _ _ _ _ _ => by exact pts_nil) (fun _ _ _ _ _ => by exact (pe_call GP hr2 rfl mP kP bP .nil pass0 (pa_cons (pv 2) (pa_cons (pe_ix ix_tup (pv 5) pe_int (fun _ _ => rfl)) pa_nil))))) (pe_lst pa_nil)) pa_nil))))
  (pss_cons (by exact (ps_for PassesOwn.never rfl (by exact pi_list (pe_op op_cat (pv 9) (pe_slice sl_list (pv 9) po_none (po_some pe_int)))) (pg_tup rfl (pgs_cons (pg_name (i := 10) nd rfl (.inr rfl)) (pgs_cons (pg_name (i := 11) nd rfl (.inl rfl)) pgs_nil))) (pss_one (by exact (ps_if (pt_not (pt_val (pe_call GT hr rfl mT kT bT .nil pass0 (pa_cons (pv 6) (pa_cons (pv 5) (pa_cons (pv 10) (pa_cons (pv 11) pa_nil))))))) (pss_one (by exact (ps_ret pe_bl))) pss_nil)))))
  (pss_one (by exact (ps_if (pt_not (pt_val (pe_call GR hr rfl mR kR bR .nil pass0 (pa_cons (pv 6) (pa_cons (pv 5) pa_nil))))) (pss_one (by exact (ps_ret pe_bl))) pss_nil)))))))))))))))
  (pss_one (by exact (ps_ret pe_bl)))), ?_⟩
  refine ⟨_, rfl, p, _, rfl, .inl hp, _, _, rfl, _, _, rfl, _, rfl, ?_, ?_, ?_⟩
  · have := List.length_map (f := V.int) (as := ns)
    repeat' split
    all_goals omega
  · have := List.length_map (f := V.int) (as := ns)
    repeat' split
    all_goals omega
  refine for_range (lo := 0) (fun i σ Hc => (∃ x1 x2 x3 x4 x5 x6 x7 x9 x10 x11, σ = [some (.ref p), x1, x2, x3, x4, x5, x6, x7, none, x9, x10, x11]) ∧ LamX.ExtN H Hc ∧ LamX.Tabs T Hc) ⟨⟨_, _, _, _, _, _, _, _, _, _, rfl⟩, LamX.ExtN.refl H, tb⟩ ?_ ?_
  · rintro i σ Hc hi ⟨⟨x1, x2, x3, x4, x5, x6, x7, x9, x10, x11, rfl⟩, g1, g2⟩
    have hi3 : i < 100 := by
      have hll := List.length_map (f := V.int) (as := ns)
      revert hi
      repeat' split
      all_goals omega
    refine ⟨_, rfl, _, rfl, p, _, ns, rfl, seq_extN g1 hp, by omega, by omega, hl, fun a H1 e1 na s1 => ?_⟩
    have tb1 := tabs_same g2 e1
    refine K1.gN ?_
    refine sQ (for_run (itup_run ((mr_tup (mr_cons (mr_tup (mr_cons (mr_c (.int 1)) (mr_cons (mr_c (.int 3)) mr_nil))) (mr_cons (mr_tup (mr_cons (mr_c (.int 2)) (mr_cons (mr_c (.int 7)) mr_nil))) (mr_cons (mr_tup (mr_cons (mr_c (.int 13)) (mr_cons (mr_c (.int 60)) mr_nil))) mr_nil)))).run H1 (Same.refl _) _ fun v H2 e2 pv => ?_)))
    obtain ⟨X, ys, rfl, gX, py⟩ := pv
    refine ⟨X, rfl, ⟨_, SqT.of gX⟩, ?_⟩
    have two : ∀ y ∈ ys, ∃ (qq : Addr) (l m : Int), y = .ref qq ∧ H2 qq = some (.tup [.int l, .int m]) ∧ 1 ≤ l ∧ l ≤ m ∧ m ≤ 60 := by
      refine paired_all py fun P hP x hx => ?_
      simp only [List.mem_cons, List.not_mem_nil, or_false] at hP
      rcases hP with rfl | rfl | rfl
      · obtain ⟨p, u1, u2, rfl, hp, rfl, rfl⟩ := tup2 hx
        exact ⟨p, 1, 3, rfl, hp, by decide, by decide, by decide⟩
      · obtain ⟨p, u1, u2, rfl, hp, rfl, rfl⟩ := tup2 hx
        exact ⟨p, 2, 7, rfl, hp, by decide, by decide, by decide⟩
      · obtain ⟨p, u1, u2, rfl, hp, rfl, rfl⟩ := tup2 hx
        exact ⟨p, 13, 60, rfl, hp, by decide, by decide, by decide⟩
    have lys : ys.length = 3 := py.length
    have s2 := s1.same e2
    have tb2 := tabs_same tb1 e2
    have Xa := s2.tup gX
    refine for_it walk_tup (fun k σ Hd => (∃ x3 x4 x5 x6 x7 x9 x10 x11, σ = [some (.ref p), some (.int (0 + (i : Int))), some (.ref a), x3, x4, x5, x6, x7, none, x9, x10, x11]) ∧ KN a H2 Hd ∧ Spr Hd a (0 + 7000 * k) ∧ LamX.Tabs T Hd) ⟨⟨_, _, _, _, _, _, _, _, rfl⟩, KN.refl, s2, tb2⟩ (fun k σ Hd _ h => SqT.of (h.2.1 _ _ Xa gX (fun _ z => by cases z))) ?_ ?_
    · rintro k y σ Hd H' hk ⟨⟨y3, y4, y5, y6, y7, y9, y10, y11, rfl⟩, f1, f2, f3⟩ ⟨rfl, hy⟩
      rw [lys] at hk
      obtain ⟨qq, l, m, rfl, hq, l1, l2, l3⟩ := two y (List.mem_of_getElem? hy)
      refine ⟨qq, _, rfl, SqT.of (f1 _ _ (s2.tup hq) hq (fun _ z => by cases z)), rfl, _, _, rfl, _, _, rfl, rfl, ?_⟩
      refine ⟨_, rfl, _, rfl, _, rfl, a, l, m, _, rfl, f2, by omega, l1, l2, l3, fun t p1 p2 p3 qs ss rs nss HA kA sA vA okA hlo hhi => ?_⟩
      refine K1.gN ?_
      with_reducible refine sQ ?_
      refine ⟨_, rfl, _, rfl, a, t, p1, p2, p3, qs, ss, rs, nss, _, rfl, sA, by omega, vA, okA, fun x w1 w2 w3 d1 d2 d3 qs' bs HB kB sB vB ovB => ?_⟩
      have vA' := vA.kept sA kB
      refine ⟨_, rfl, t, _, _, _, rfl, rfl, SqT.of vA'.t0, (rfl : atI [V.ref p1, V.ref p2, V.ref p3] 0 = some (.ref p1)), (by show 2 ≤ sizeLine; decide), fun U hU => ?_⟩
      have u1 := K1.Same.upd (H := HB) (p := U) (o := .tup [.ref x, .ref p1]) hU
      have gU := upd_same' HB U (.tup [.ref x, .ref p1])
      generalize L2.upd HB U (.tup [.ref x, .ref p1]) = HC at u1 gU ⊢
      refine ⟨U, _, rfl, SqT.of gU, rfl, _, _, rfl, _, _, rfl, rfl, ?_⟩
      with_reducible refine sQ ?_
      have tC := tabs_same (sA.tabs (f2.tabs f3 kA) kB) u1
      have sC := sB.same u1
      have vC := vA'.kn sB (KN.ofS u1)
      have xC := vB.same u1
      have kC : KN a H' HC := (KN.of kA).trans ((KN.of kB).trans (KN.ofS u1))
      generalize hn0 : 0 + 7000 * k + 1000 + 200 = n0 at sC
      have le60 := okA.le
      have pos1 := okA.pos
      have lms : (ss.map V.str).length = ss.length := List.length_map ..
      clear vB sB vA vA' sA kB kA u1 gU hU f2 f3
      -- four drawn pairs
      refine asg_run ?_
      refine ⟨_, rfl, (by decide), (by decide), fun D hD => ?_⟩
      have Da : D ≠ a := sC.ne hD
      refine lc_range (fun j He => PL T a D ss He j (n0 + 2 * j) ∧ KN a HC He) ⟨⟨⟨[], upd_same, Nat.le_refl _, fun z h => absurd h (by simp)⟩, sC.upd Da, tabs_same tC (K1.Same.upd hD), Da⟩, KN.refl.new hD⟩ ?_ ?_
      · rintro j He hj ⟨P1, k1⟩
        have hj4 : j < 4 := hj
        refine ⟨rfl, ?_⟩
        unfold tYes
        refine iteT ?_
        have vE := vC.kn sC k1
        have hne : ss.map V.str ≠ [] := fun z => by rw [z] at lms; simp at lms; omega
        refine ⟨_, rfl, _, rfl, a, p1, ss.map V.str, _, rfl, P1.s, by omega, vE.h1, vE.n1, hne, by omega, fun v1 HF m1 k2 s3 => ?_⟩
        refine ⟨_, rfl, _, rfl, a, p1, ss.map V.str, _, rfl, s3, by omega, (vE.kept P1.s k2).h1, vE.n1, hne, by omega, fun v2 HG m2 k3 s4 => ?_⟩
        refine ⟨(by show 2 ≤ sizeLine; decide), fun z hz => ?_⟩
        have P3 := (P1.kept k2 s3).kept k3 s4
        have e4 := K1.Same.upd (H := HG) (p := z) (o := .tup [v1, v2]) hz
        have gz := upd_same' HG z (.tup [v1, v2])
        generalize L2.upd HG z (.tup [v1, v2]) = HI at e4 gz ⊢
        have P4 := P3.same e4
        obtain ⟨zs, g4, l4, pz4⟩ := P4.l
        obtain ⟨r1, hr1', rfl⟩ := List.mem_map.mp m1
        obtain ⟨r2, hr2', rfl⟩ := List.mem_map.mp m2
        refine ⟨zs, g4, small1000 (by omega), (P4.add (k := 1) (ys := [.ref z]) g4 (Nat.le_refl _) fun u hu => ?_).mono (Nat.le_refl _) (by omega), (((k1.trans (KN.of k2)).trans (KN.of k3)).trans (KN.ofS e4)).new hD⟩
        rw [List.mem_singleton.mp hu]
        exact ⟨z, (r1, r2), rfl, gz, hr1', hr2'⟩
      rintro He ⟨P1, k1⟩
      refine K1.gN ?_
      with_reducible refine sQ ?_
      have P4 : PL T a D ss He 4 (n0 + 8) := P1.mono (by decide) (by show n0 + 2 * (4 : Int).toNat ≤ n0 + 8; exact Nat.le_refl _)
      have vE := vC.kn sC k1
      clear P1
      have hD0 : HC D = none := hD
      -- each two houses, of few
      refine for_run ?_
      refine ⟨_, rfl, p1, _, rfl, .inl (SqL.of vE.h1), _, _, rfl, rfl, _, rfl, ?_⟩
      refine if_cut (A := tVar 7 _ _) (B := tLst tNil _ _) (fun v H' => Same He H' ∧ ∃ (X : Addr) (us : List Str), v = .ref X ∧ H' X = some (.lst (us.map V.str)) ∧ X ≠ D ∧ (∀ s ∈ us, s ∈ ss) ∧ us.length ≤ 7) (fun c Q' q' => ?_) (fun c Q' q' => ?_) fun v HX hX => ?_
      · have c2 := of_decide_eq_true c
        refine ⟨_, rfl, q' _ _ ⟨Same.refl _, p1, ss, rfl, vE.h1, fun z => ?_, fun s h => h, by omega⟩⟩
        have := vC.h1
        rw [z, hD0] at this
        cases this
      · refine ⟨(by show 0 ≤ sizeLine; decide), fun E' hE => q' _ _ ⟨K1.Same.upd hE, E', [], rfl, upd_same, fun z => ?_, fun s h => absurd h (by simp), by simp⟩⟩
        obtain ⟨zs, g4, _⟩ := P4.l
        rw [z, g4] at hE
        cases hE
      obtain ⟨eX, X2, us, rfl, gX2, XD, hus, lus⟩ := hX
      refine ⟨X2, rfl, ⟨_, SqL.of gX2⟩, ?_⟩
      have lmu : (us.map V.str).length = us.length := List.length_map ..
      refine for_it walk_list (fun j σ Hf => (∃ z10, σ = [some (.ref p), some (.int (0 + (i : Int))), some (.ref a), some (.int l), some (.int m), some (.ref t), some (.ref x), some (.ref p1), none, some (.ref D), z10, y11]) ∧ PL T a D ss Hf (4 + 60 * j) (n0 + 8) ∧ KN a HC Hf ∧ Hf X2 = some (.lst (us.map V.str)))
        ⟨⟨_, rfl⟩, P4.same eX, k1.trans (KN.ofS eX), gX2⟩ (fun j σ Hf _ h => SqL.of h.2.2.2) ?_ ?_
      · rintro j y σ Hf H'' hj ⟨⟨z10, rfl⟩, Pf, kf, gXf⟩ ⟨rfl, hy⟩
        rw [lmu] at hj
        obtain ⟨s, hs, rfl⟩ := List.mem_map.mp (List.mem_of_getElem? hy)
        have vF := vC.kn sC kf
        obtain ⟨zs, gD, lD, pD⟩ := Pf.l
        refine K1.gN ?_
        refine ⟨_, rfl, .inl ⟨rfl, _, SqL.of gD⟩, _, rfl, p1, rfl, ⟨_, SqL.of vF.h1⟩, fun L hL => ?_⟩
        have LD : L ≠ D := fun z => by rw [z, gD] at hL; cases hL
        refine lc_it walk_list (fun i Hg => (∃ us, Hg L = some (.lst us) ∧ us.length ≤ i ∧ ∀ z ∈ us, PairIn Hg ss z) ∧ Same H'' Hg) ⟨⟨[], upd_same, Nat.le_refl _, fun z h => absurd h (by simp)⟩, K1.Same.upd hL⟩ (fun i Hg _ h => SqL.of (h.2 _ _ vF.h1)) ?_ ?_
        · rintro i v Hg Hg' hi ⟨⟨us', gL, lL, pL⟩, sm⟩ ⟨rfl, hv⟩
          obtain ⟨s2', hs2, rfl⟩ := List.mem_map.mp (List.mem_of_getElem? hv)
          refine ⟨rfl, ?_⟩
          unfold tYes
          refine iteT ?_
          refine ⟨_, rfl, _, rfl, (by show 2 ≤ sizeLine; decide), fun z hz => ?_⟩
          have e4 := K1.Same.upd (H := Hg') (p := z) (o := .tup [.str s, .str s2']) hz
          have gz := upd_same' Hg' z (.tup [.str s, .str s2'])
          generalize L2.upd Hg' z (.tup [.str s, .str s2']) = HI at e4 gz ⊢
          have gL2 := e4 _ _ gL
          refine ⟨us', gL2, small1000 (by omega), ⟨_, upd_same, by rw [List.length_append]; simp; omega, fun u hu => ?_⟩, same_upd (sm.trans e4) hL⟩
          rcases List.mem_append.mp hu with hu | hu
          · exact ((pL u hu).same e4).put gL2
          · rw [List.mem_singleton.mp hu]
            exact PairIn.put ⟨z, (s, s2'), rfl, gz, hus s hs, hs2⟩ gL2
        · rintro Hg ⟨⟨us', gL, lL, pL⟩, sm⟩
          have lL' : us'.length ≤ 60 := by omega
          refine ⟨D, L, _, _, rfl, rfl, sm _ _ gD, gL, (by have := lD; exact Nat.le_trans (show _ ≤ 1000 by omega) (by decide)), ?_⟩
          refine ⟨⟨_, rfl⟩, ((Pf.same sm).add (k := 60) (sm _ _ gD) lL' pL).mono (by omega) (Nat.le_refl _), ((kf.trans (KN.ofS sm))).new hD0, ?_⟩
          rw [upd_ne XD]
          exact sm _ _ gXf
      rintro σ Hf ⟨⟨z10, rfl⟩, Pf0, kf, _⟩
      have Pf : PL T a D ss Hf 424 (n0 + 8) := Pf0.mono (by omega) (Nat.le_refl _)
      have vF := vC.kn sC kf
      clear Pf0 gX2 eX P4 vE
      with_reducible refine sQ ?_
      -- some of the roads
      obtain ⟨zs, gD, lD, pD⟩ := Pf.l
      refine ⟨_, rfl, .inl ⟨rfl, _, SqL.of gD⟩, _, rfl, p1, _, rfl, .inl (SqL.of vF.h1), _, _, rfl, rfl, _, rfl, ?_⟩
      refine if_cut (A := tLc _ _ _ _ _ _ _) (B := tLst tNil _ _) (fun v H' => ∃ (L : Addr) (us : List V), v = .ref L ∧ H' L = some (.lst us) ∧ us.length ≤ 3 ∧ (∀ z ∈ us, PairIn H' ss z) ∧ PL T a D ss H' 424 (n0 + 11) ∧ KN a HC H') (fun c Q' q' => ?_) (fun c Q' q' => ?_) fun v HL hL => ?_
      · have c2 := of_decide_eq_true c
        have lqs : (qs.map V.ref).length = rs.length := by rw [List.length_map, vF.pr.length]
        have hne : qs.map V.ref ≠ [] := fun z => by
          rw [z] at lqs
          have := okA.rl
          simp at lqs
          omega
        have rl := okA.rl
        refine ⟨_, rfl, (by decide), (by decide), fun L hL => ?_⟩
        have La : L ≠ a := Pf.s.ne hL
        have LD : L ≠ D := fun z => by rw [z, gD] at hL; cases hL
        have hLC : HC L = none ∨ ∃ ps, HC L = some (.tbl ps) := by
          cases e : HC L with
          | none => exact .inl rfl
          | some o =>
            cases o with
            | tbl ps => exact .inr ⟨ps, rfl⟩
            | _ =>
              have := kf _ _ La e fun _ z => by cases z
              rw [hL] at this
              cases this
        have newL : ∀ {Hz : Hp} {o : HO}, KN a HC Hz → KN a HC (L2.upd Hz L o) := fun {Hz o} k b u nb h nt => by
          have bL : b ≠ L := fun z => by
            rw [z] at h
            rcases hLC with e | ⟨ps, e⟩
            · rw [e] at h; cases h
            · rw [e] at h
              exact nt ps (Option.some.inj h).symm
          rw [upd_ne bL]
          exact k b u nb h nt
        refine lc_range (fun j He => (∃ us, He L = some (.lst us) ∧ us.length = j ∧ ∀ z ∈ us, PairIn He ss z) ∧ PL T a D ss He 424 (n0 + 8 + j) ∧ KN a HC He) ⟨⟨[], upd_same, rfl, fun z h => absurd h (by simp)⟩, Pf.same (K1.Same.upd hL), newL kf⟩ ?_ ?_
        · rintro j Hg hj ⟨⟨us', gL, lL, pL⟩, P1, k1'⟩
          have hj3 : j < 3 := hj
          refine ⟨rfl, ?_⟩
          unfold tYes
          refine iteT ?_
          have vG := vC.kn sC k1'
          refine ⟨_, rfl, _, rfl, t, _, _, _, rfl, rfl, SqT.of vG.t0, (rfl : atI [V.ref p1, V.ref p2, V.ref p3] 1 = some (.ref p2)), a, p2, qs.map V.ref, _, rfl, P1.s, by omega, vG.h2, vG.n2, hne, by omega, fun v1 HF m1 k2 s3 => ?_⟩
          obtain ⟨qq', hq', rfl⟩ := List.mem_map.mp m1
          have gL2 := k2 _ _ La gL
          have P2 := P1.kept k2 s3
          obtain ⟨zs', gD', lD', pD'⟩ := P2.l
          have vH := vC.kn sC (k1'.trans (KN.of k2))
          refine ⟨us', gL2, small1000 (by omega), ⟨us' ++ [.ref qq'], upd_same, by rw [List.length_append, lL]; rfl, fun u hu => ?_⟩, ?_, newL (k1'.trans (KN.of k2))⟩
          · rcases List.mem_append.mp hu with hu | hu
            · exact ((pL u hu).kn P1.s (KN.of k2)).put gL2
            · rw [List.mem_singleton.mp hu]
              obtain ⟨r, hr, hqr⟩ := paired_mem' vH.pr hq'
              exact PairIn.put ⟨qq', r, rfl, hqr, okA.ends r hr⟩ gL2
          · exact ⟨⟨zs', by rw [upd_ne LD.symm]; exact gD', lD', fun z hz => (pD' z hz).put gL2⟩, (P2.s.upd La).mono (by omega), tabs_kept P2.t gL2 Kept.upd, P2.ne⟩
        · rintro Hg ⟨⟨us', gL, lL, pL⟩, P1, k1'⟩
          exact q' _ _ ⟨L, us', rfl, gL, by rw [lL]; decide, pL, P1.mono (Nat.le_refl _) (by show n0 + 8 + (3 : Int).toNat ≤ n0 + 11; exact Nat.le_refl _), k1'⟩
      · refine ⟨(by show 0 ≤ sizeLine; decide), fun E' hE => q' _ _ ⟨E', [], rfl, upd_same, by simp, fun z h => absurd h (by simp), (Pf.same (K1.Same.upd hE)).mono (Nat.le_refl _) (by omega), kf.trans (KN.ofS (K1.Same.upd hE))⟩⟩
      obtain ⟨L, us2, rfl, gL, lL, pL, PL1, kL⟩ := hL
      obtain ⟨zs2, gD2, lD2, pD2⟩ := PL1.l
      refine ⟨D, L, _, _, rfl, rfl, gD2, gL, (by exact Nat.le_trans (show _ ≤ 1000 by omega) (by decide)), ?_⟩
      have PM := PL1.add (k := 3) gD2 lL pL
      have kM := kL.new (D := D) (o := .lst (zs2 ++ us2)) hD0
      generalize L2.upd HL D (.lst (zs2 ++ us2)) = HM at PM kM ⊢
      clear PL1 kL gL gD2 pL pD2 Pf kf vF gD pD
      with_reducible refine sQ ?_
      obtain ⟨zs3, gD3, lD3, pD3⟩ := PM.l
      refine for_run ?_
      refine ⟨_, rfl, _, rfl, 1, rfl, D, zs3, rfl, SqL.of gD3, fun S hS => ?_⟩
      have e5 := K1.Same.upd (H := HM) (p := S) (o := .lst (cutV zs3 none (some 1))) hS
      have gS := upd_same' HM S (.lst (cutV zs3 none (some 1)))
      generalize L2.upd HM S (.lst (cutV zs3 none (some 1))) = HN at e5 gS ⊢
      have lc := cutV_length zs3 none (some 1)
      refine ⟨D, S, _, _, rfl, rfl, e5 _ _ gD3, gS, (by exact Nat.le_trans (show _ ≤ 1000 by omega) (by decide)), fun F2 hF2 => ?_⟩
      have e6 := K1.Same.upd (H := HN) (p := F2) (o := .lst (zs3 ++ cutV zs3 none (some 1))) hF2
      have gF := upd_same' HN F2 (.lst (zs3 ++ cutV zs3 none (some 1)))
      generalize L2.upd HN F2 (.lst (zs3 ++ cutV zs3 none (some 1))) = HO' at e6 gF ⊢
      have PO' := (PM.same e5).same e6
      have kO := (kM.trans (KN.ofS e5)).trans (KN.ofS e6)
      have all : ∀ z ∈ zs3 ++ cutV zs3 none (some 1), PairIn HO' ss z := fun z hz => by
        rcases List.mem_append.mp hz with hz | hz
        · exact ((pD3 z hz).same e5).same e6
        · exact ((pD3 z (cutV_mem hz)).same e5).same e6
      have vO := vC.kn sC kO
      have ivO : IsV C HO' x ss rs nss := ⟨okA.nl.symm, _, _, _, _, _, _, _, _, xC.kn ovB sC kO⟩
      have trA : Tree ss rs := ⟨okA.good.1, okA.ends, okA.cut, okA.rl⟩
      have okn : ∀ s ∈ ss, nameOk s = true := fun s hs => (okA.good.2 s hs).1
      have rl := okA.rl
      have drv : ∀ {Hz : Hp}, LamX.ExtN HO' Hz → DrV Hz t p1 p2 (.ref p3) qs ss rs := fun e => by
        have vz := vO.kn PO'.s (KN.ofN e)
        exact ⟨vz.t0, vz.h1, vz.h2, vz.pr, by omega, by omega⟩
      refine ⟨F2, rfl, ⟨_, SqL.of gF⟩, ?_⟩
      refine for_it walk_list (fun j σ Hz => (∃ z10 z11, σ = [some (.ref p), some (.int (0 + (i : Int))), some (.ref a), some (.int l), some (.int m), some (.ref t), some (.ref x), some (.ref p1), none, some (.ref D), z10, z11]) ∧ LamX.ExtN HO' Hz ∧ LamX.Tabs T Hz)
        ⟨⟨_, _, rfl⟩, LamX.ExtN.refl _, PO'.t⟩ (fun j σ Hz _ h => SqL.of (h.2.1 _ _ gF (fun _ z => by cases z))) ?_ ?_
      · rintro j y σ Hz H'' hj ⟨⟨z10, z11, rfl⟩, ez, tz⟩ ⟨rfl, hy⟩
        obtain ⟨qq', r, rfl, hq', hr1', hr2'⟩ := all y (List.mem_of_getElem? hy)
        refine ⟨qq', _, rfl, SqT.of (ez _ _ hq' (fun _ z => by cases z)), rfl, _, _, rfl, _, _, rfl, rfl, ?_⟩
        refine ⟨_, rfl, _, rfl, _, rfl, _, rfl, x, t, p1, p2, .ref p3, qs, ss, rs, nss, r.1, r.2, rfl, ivO.extN ez, drv ez, trA, okn, le60, hr1', hr2', tz, fun Hy ey ty => ⟨_, rfl, ?_⟩⟩
        refine iteF ?_
        refine nQ ?_
        exact ⟨⟨_, _, rfl⟩, ez.trans ey, ty⟩
      rintro σ Hz ⟨⟨z10, z11, rfl⟩, ez, tz⟩
      obtain ⟨s, tl, es⟩ : ∃ s tl, ss = s :: tl := by
        cases e : ss with
        | nil => rw [e] at pos1; simp at pos1
        | cons s tl => exact ⟨s, tl, rfl⟩
      have nn1 : ("nobody" : Str) ∉ ss := fun z => okA.nob _ z rfl
      have nn2 : ("" : Str) ∉ ss := fun z => by
        have := okn _ z
        revert this
        decide +kernel
      subst es
      refine ⟨_, rfl, _, rfl, x, t, p1, p2, .ref p3, qs, s, tl, rs, nss, rfl, ivO.extN ez, drv ez, trA, nn1, nn2, le60, tz, fun Hy ey ty => ⟨_, rfl, ?_⟩⟩
      refine iteF ?_
      refine nQ ?_
      have ey2 := ez.trans ey
      exact ⟨⟨_, _, _, _, _, _, _, _, rfl⟩, f1.trans (kC.trans (kO.trans (KN.ofN ey2))), (PO'.s.extN ey2).mono (by omega), ty⟩
    · rintro σ Hd ⟨⟨y3, y4, y5, y6, y7, y9, y10, y11, rfl⟩, f1, f2, f3⟩
      refine ⟨⟨_, _, _, _, _, _, _, _, _, _, rfl⟩, fun b o h nb => ?_, f3⟩
      have h1 := g1 b o h nb
      exact f1 b o (ne_of_none h1 na) (e2 _ _ (e1 _ _ h1)) nb
  · rintro σ Hc ⟨⟨x1, x2, x3, x4, x5, x6, x7, x9, x10, x11, rfl⟩, g1, g2⟩
    exact q Hc
end
end K1
end
-- NEnd
section
set_option Elab.async false
set_option linter.all false
set_option maxRecDepth 100000
set_option maxHeartbeats 4000000
namespace K1
open PySem PySem.Spec PyProof.Rows L2
abbrev TT2 (TPT TPR : Addr) : List (Addr × Str) := [(TPT, qTwo), (TPR, qRef)]

theorem all_mk {l : PySem.W.OpenLaw} {w : World} {K : PySem.W.Frag} {h : Heap} {mg : Str → Option Value} {fa : Addr}
    {cd_isInt : Value}
    {f_isInt : Addr} {od_isInt an_isInt : Option Addr} {sl_isInt : Array (Option Value)} {oc_isInt kV_isInt dc_isInt pm_isInt ct_isInt : Value}
    {cd_fromOne : Value}
    {f_fromOne : Addr} {od_fromOne an_fromOne : Option Addr} {sl_fromOne : Array (Option Value)} {oc_fromOne kV_fromOne dc_fromOne pm_fromOne ct_fromOne : Value}
    {cd_isList : Value}
    {f_isList : Addr} {od_isList an_isList : Option Addr} {sl_isList : Array (Option Value)} {oc_isList kV_isList dc_isList pm_isList ct_isList : Value}
    {cd_isPair : Value}
    {f_isPair : Addr} {od_isPair an_isPair : Option Addr} {sl_isPair : Array (Option Value)} {oc_isPair kV_isPair dc_isPair pm_isPair ct_isPair : Value}
    {cd_isName : Value}
    {f_isName : Addr} {od_isName an_isName : Option Addr} {sl_isName : Array (Option Value)} {oc_isName kV_isName dc_isName pm_isName ct_isName : Value}
    {cd_draw : Value}
    {f_draw : Addr} {od_draw an_draw : Option Addr} {sl_draw : Array (Option Value)} {oc_draw kV_draw dc_draw pm_draw ct_draw : Value}
    {cd_pick : Value}
    {f_pick : Addr} {od_pick an_pick : Option Addr} {sl_pick : Array (Option Value)} {oc_pick kV_pick dc_pick pm_pick ct_pick : Value}
    {cd_mixed : Value}
    {f_mixed : Addr} {od_mixed an_mixed : Option Addr} {sl_mixed : Array (Option Value)} {oc_mixed kV_mixed dc_mixed pm_mixed ct_mixed : Value}
    {cd_ND : Value}
    {f_ND : Addr} {od_ND an_ND : Option Addr} {sl_ND : Array (Option Value)} {oc_ND kV_ND dc_ND pm_ND ct_ND : Value}
    {cd_NH : Value}
    {f_NH : Addr} {od_NH an_NH : Option Addr} {sl_NH : Array (Option Value)} {oc_NH kV_NH dc_NH pm_NH ct_NH : Value}
    {cd_NR : Value}
    {f_NR : Addr} {od_NR an_NR : Option Addr} {sl_NR : Array (Option Value)} {oc_NR kV_NR dc_NR pm_NR ct_NR : Value}
    {cd_keys : Value}
    {f_keys : Addr} {od_keys an_keys : Option Addr} {sl_keys : Array (Option Value)} {oc_keys kV_keys dc_keys pm_keys ct_keys : Value}
    {cd_lead : Value}
    {f_lead : Addr} {od_lead an_lead : Option Addr} {sl_lead : Array (Option Value)} {oc_lead kV_lead dc_lead pm_lead ct_lead : Value}
    {cd_BW : Value}
    {f_BW : Addr} {od_BW an_BW : Option Addr} {sl_BW : Array (Option Value)} {oc_BW kV_BW dc_BW pm_BW ct_BW : Value}
    {cd_NB : Value}
    {f_NB : Addr} {od_NB an_NB : Option Addr} {sl_NB : Array (Option Value)} {oc_NB kV_NB dc_NB pm_NB ct_NB : Value}
    {cd_spring : Value}
    {f_spring : Addr} {od_spring an_spring : Option Addr} {sl_spring : Array (Option Value)} {oc_spring kV_spring dc_spring pm_spring ct_spring : Value}
    {cd_VN : Value}
    {f_VN : Addr} {od_VN an_VN : Option Addr} {sl_VN : Array (Option Value)} {oc_VN kV_VN dc_VN pm_VN ct_VN : Value}
    {cd_VRo : Value}
    {f_VRo : Addr} {od_VRo an_VRo : Option Addr} {sl_VRo : Array (Option Value)} {oc_VRo kV_VRo dc_VRo pm_VRo ct_VRo : Value}
    {cd_VV : Value}
    {f_VV : Addr} {od_VV an_VV : Option Addr} {sl_VV : Array (Option Value)} {oc_VV kV_VV dc_VV pm_VV ct_VV : Value}
    {cd_lo : Value}
    {f_lo : Addr} {od_lo an_lo : Option Addr} {sl_lo : Array (Option Value)} {oc_lo kV_lo dc_lo pm_lo ct_lo : Value}
    {cd_VM : Value}
    {f_VM : Addr} {od_VM an_VM : Option Addr} {sl_VM : Array (Option Value)} {oc_VM kV_VM dc_VM pm_VM ct_VM : Value}
    {cd_sm : Value}
    {f_sm : Addr} {od_sm an_sm : Option Addr} {sl_sm : Array (Option Value)} {oc_sm kV_sm dc_sm pm_sm ct_sm : Value}
    {cd_Vn : Value}
    {f_Vn : Addr} {od_Vn an_Vn : Option Addr} {sl_Vn : Array (Option Value)} {oc_Vn kV_Vn dc_Vn pm_Vn ct_Vn : Value}
    {cd_Odd : Value}
    {f_Odd : Addr} {od_Odd an_Odd : Option Addr} {sl_Odd : Array (Option Value)} {oc_Odd kV_Odd dc_Odd pm_Odd ct_Odd : Value}
    {cd_met : Value}
    {f_met : Addr} {od_met an_met : Option Addr} {sl_met : Array (Option Value)} {oc_met kV_met dc_met pm_met ct_met : Value}
    {cd_Lw : Value}
    {f_Lw : Addr} {od_Lw an_Lw : Option Addr} {sl_Lw : Array (Option Value)} {oc_Lw kV_Lw dc_Lw pm_Lw ct_Lw : Value}
    {cd_Ls : Value}
    {f_Ls : Addr} {od_Ls an_Ls : Option Addr} {sl_Ls : Array (Option Value)} {oc_Ls kV_Ls dc_Ls pm_Ls ct_Ls : Value}
    {f_Two : Addr} {od_Two an_Two : Option Addr} {sl_Two : Array (Option Value)} {oc_Two kV_Two dc_Two pm_Two ct_Two : Value}
    {f_Ref : Addr} {od_Ref an_Ref : Option Addr} {sl_Ref : Array (Option Value)} {oc_Ref kV_Ref dc_Ref pm_Ref ct_Ref : Value}
    {cd_law : Value}
    {f_law : Addr} {od_law an_law : Option Addr} {sl_law : Array (Option Value)} {oc_law kV_law dc_law pm_law ct_law : Value}
    {C CH CR CD CN CO CF cTw cRf TPT TPR : Addr}
    {cd_VI : Value} {f_VI : Addr} {od_VI an_VI : Option Addr} {sl_VI : Array (Option Value)} {oc_VI kV_VI dc_VI pm_VI ct_VI : Value}
    {cd_Be : Value} {f_Be : Addr} {od_Be an_Be : Option Addr} {sl_Be : Array (Option Value)} {oc_Be kV_Be dc_Be pm_Be ct_Be : Value}
    {cd_Wa : Value} {f_Wa : Addr} {od_Wa an_Wa : Option Addr} {sl_Wa : Array (Option Value)} {oc_Wa kV_Wa dc_Wa pm_Wa ct_Wa : Value}
    {cd_Si : Value} {f_Si : Addr} {od_Si an_Si : Option Addr} {sl_Si : Array (Option Value)} {oc_Si kV_Si dc_Si pm_Si ct_Si : Value}
    {cd_Is : Value} {f_Is : Addr} {od_Is an_Is : Option Addr} {sl_Is : Array (Option Value)} {oc_Is kV_Is dc_Is pm_Is ct_Is : Value}
    {cd_Ne : Value} {f_Ne : Addr} {od_Ne an_Ne : Option Addr} {sl_Ne : Array (Option Value)} {oc_Ne kV_Ne dc_Ne pm_Ne ct_Ne : Value}
    {cd_Pl : Value} {f_Pl : Addr} {od_Pl an_Pl : Option Addr} {sl_Pl : Array (Option Value)} {oc_Pl kV_Pl dc_Pl pm_Pl ct_Pl : Value}
    {cd_Nr : Value} {f_Nr : Addr} {od_Nr an_Nr : Option Addr} {sl_Nr : Array (Option Value)} {oc_Nr kV_Nr dc_Nr pm_Nr ct_Nr : Value}
    {cd_iH : Value} {f_iH : Addr} {od_iH an_iH : Option Addr} {sl_iH : Array (Option Value)} {oc_iH kV_iH dc_iH pm_iH ct_iH : Value}
    {cd_iR : Value} {f_iR : Addr} {od_iR an_iR : Option Addr} {sl_iR : Array (Option Value)} {oc_iR kV_iR dc_iR pm_iR ct_iR : Value}
    {cd_iD : Value} {f_iD : Addr} {od_iD an_iD : Option Addr} {sl_iD : Array (Option Value)} {oc_iD kV_iD dc_iD pm_iD ct_iD : Value}
    {cd_iN : Value} {f_iN : Addr} {od_iN an_iN : Option Addr} {sl_iN : Array (Option Value)} {oc_iN kV_iN dc_iN pm_iN ct_iN : Value}
    {cd_iO : Value} {f_iO : Addr} {od_iO an_iO : Option Addr} {sl_iO : Array (Option Value)} {oc_iO kV_iO dc_iO pm_iO ct_iO : Value}
    {nmCH qCH : Str} {NCH : Addr} {bsCH bmCH : List Value} {snCH : List Str} {subCH : List Value} {abCH : Bool} {colCH : Option Bool} {ddCH : Option Addr} {m0CH m1CH m2CH m3CH m5CH : Option Value}
    {nmCR qCR : Str} {NCR : Addr} {bsCR bmCR : List Value} {snCR : List Str} {subCR : List Value} {abCR : Bool} {colCR : Option Bool} {ddCR : Option Addr} {m0CR m1CR m2CR m3CR m5CR : Option Value}
    {nmCD qCD : Str} {NCD : Addr} {bsCD bmCD : List Value} {snCD : List Str} {subCD : List Value} {abCD : Bool} {colCD : Option Bool} {ddCD : Option Addr} {m0CD m1CD m2CD m3CD m5CD : Option Value}
    {nmCN qCN : Str} {NCN : Addr} {bsCN bmCN : List Value} {snCN : List Str} {subCN : List Value} {abCN : Bool} {colCN : Option Bool} {ddCN : Option Addr} {m0CN m1CN m2CN m3CN m5CN : Option Value}
    {nmCO qCO : Str} {NCO : Addr} {bsCO bmCO : List Value} {snCO : List Str} {subCO : List Value} {abCO : Bool} {colCO : Option Bool} {ddCO : Option Addr} {m0CO m1CO m2CO m3CO m5CO : Option Value}
    {tL tF tN : Tok}
    (X : K.In h) (G : h.Ns mainGlobals mg) (hfa : mg "law" = some (.ref fa)) (hTT : h.get? TPT = some { cls := .none, data := .fields #[] }) (hTR : h.get? TPR = some { cls := .none, data := .fields #[] })
    (a_isInt : PySem.W.nsIn K mainGlobals "is_integer" = some (some (.ref f_isInt)))
    (l_isInt : K.lookup f_isInt = some ⟨oc_isInt, od_isInt, .func (PySem.W.fnOf "is_integer" "is_integer" (defArgs sIsInt) (defBody sIsInt) (defScope sIsInt) .none kV_isInt dc_isInt pm_isInt an_isInt cd_isInt ct_isInt), sl_isInt⟩)
    (c_isInt : PySem.W.codeIn K cd_isInt "is_integer" = true)
    (k_isInt : PySem.W.keepIn K (.ref f_isInt) = true)
    (a_fromOne : PySem.W.nsIn K mainGlobals "is_from_one" = some (some (.ref f_fromOne)))
    (l_fromOne : K.lookup f_fromOne = some ⟨oc_fromOne, od_fromOne, .func (PySem.W.fnOf "is_from_one" "is_from_one" (defArgs sFromOne) (defBody sFromOne) (defScope sFromOne) .none kV_fromOne dc_fromOne pm_fromOne an_fromOne cd_fromOne ct_fromOne), sl_fromOne⟩)
    (c_fromOne : PySem.W.codeIn K cd_fromOne "is_from_one" = true)
    (k_fromOne : PySem.W.keepIn K (.ref f_fromOne) = true)
    (a_isList : PySem.W.nsIn K mainGlobals "is_list" = some (some (.ref f_isList)))
    (l_isList : K.lookup f_isList = some ⟨oc_isList, od_isList, .func (PySem.W.fnOf "is_list" "is_list" (defArgs sIsList) (defBody sIsList) (defScope sIsList) .none kV_isList dc_isList pm_isList an_isList cd_isList ct_isList), sl_isList⟩)
    (c_isList : PySem.W.codeIn K cd_isList "is_list" = true)
    (k_isList : PySem.W.keepIn K (.ref f_isList) = true)
    (a_isPair : PySem.W.nsIn K mainGlobals "is_pair" = some (some (.ref f_isPair)))
    (l_isPair : K.lookup f_isPair = some ⟨oc_isPair, od_isPair, .func (PySem.W.fnOf "is_pair" "is_pair" (defArgs sIsPair) (defBody sIsPair) (defScope sIsPair) .none kV_isPair dc_isPair pm_isPair an_isPair cd_isPair ct_isPair), sl_isPair⟩)
    (c_isPair : PySem.W.codeIn K cd_isPair "is_pair" = true)
    (k_isPair : PySem.W.keepIn K (.ref f_isPair) = true)
    (a_isName : PySem.W.nsIn K mainGlobals "is_name" = some (some (.ref f_isName)))
    (l_isName : K.lookup f_isName = some ⟨oc_isName, od_isName, .func (PySem.W.fnOf "is_name" "is_name" (defArgs sIsName) (defBody sIsName) (defScope sIsName) .none kV_isName dc_isName pm_isName an_isName cd_isName ct_isName), sl_isName⟩)
    (c_isName : PySem.W.codeIn K cd_isName "is_name" = true)
    (k_isName : PySem.W.keepIn K (.ref f_isName) = true)
    (a_draw : PySem.W.nsIn K mainGlobals "_law_draw" = some (some (.ref f_draw)))
    (l_draw : K.lookup f_draw = some ⟨oc_draw, od_draw, .func (PySem.W.fnOf "_law_draw" "_law_draw" (defArgs sDraw) (defBody sDraw) (defScope sDraw) .none kV_draw dc_draw pm_draw an_draw cd_draw ct_draw), sl_draw⟩)
    (c_draw : PySem.W.codeIn K cd_draw "_law_draw" = true)
    (k_draw : PySem.W.keepIn K (.ref f_draw) = true)
    (a_pick : PySem.W.nsIn K mainGlobals "_law_pick" = some (some (.ref f_pick)))
    (l_pick : K.lookup f_pick = some ⟨oc_pick, od_pick, .func (PySem.W.fnOf "_law_pick" "_law_pick" (defArgs sPick) (defBody sPick) (defScope sPick) .none kV_pick dc_pick pm_pick an_pick cd_pick ct_pick), sl_pick⟩)
    (c_pick : PySem.W.codeIn K cd_pick "_law_pick" = true)
    (k_pick : PySem.W.keepIn K (.ref f_pick) = true)
    (a_mixed : PySem.W.nsIn K mainGlobals "_law_mixed" = some (some (.ref f_mixed)))
    (l_mixed : K.lookup f_mixed = some ⟨oc_mixed, od_mixed, .func (PySem.W.fnOf "_law_mixed" "_law_mixed" (defArgs sMixed) (defBody sMixed) (defScope sMixed) .none kV_mixed dc_mixed pm_mixed an_mixed cd_mixed ct_mixed), sl_mixed⟩)
    (c_mixed : PySem.W.codeIn K cd_mixed "_law_mixed" = true)
    (k_mixed : PySem.W.keepIn K (.ref f_mixed) = true)
    (a_ND : PySem.W.nsIn K mainGlobals "_need_heads" = some (some (.ref f_ND)))
    (l_ND : K.lookup f_ND = some ⟨oc_ND, od_ND, .func (PySem.W.fnOf "_need_heads" "_need_heads" (defArgs sND) (defBody sND) (defScope sND) .none kV_ND dc_ND pm_ND an_ND cd_ND ct_ND), sl_ND⟩)
    (c_ND : PySem.W.codeIn K cd_ND "_need_heads" = true)
    (k_ND : PySem.W.keepIn K (.ref f_ND) = true)
    (a_NH : PySem.W.nsIn K mainGlobals "_need_houses" = some (some (.ref f_NH)))
    (l_NH : K.lookup f_NH = some ⟨oc_NH, od_NH, .func (PySem.W.fnOf "_need_houses" "_need_houses" (defArgs sNH) (defBody sNH) (defScope sNH) .none kV_NH dc_NH pm_NH an_NH cd_NH ct_NH), sl_NH⟩)
    (c_NH : PySem.W.codeIn K cd_NH "_need_houses" = true)
    (k_NH : PySem.W.keepIn K (.ref f_NH) = true)
    (a_NR : PySem.W.nsIn K mainGlobals "_need_roads" = some (some (.ref f_NR)))
    (l_NR : K.lookup f_NR = some ⟨oc_NR, od_NR, .func (PySem.W.fnOf "_need_roads" "_need_roads" (defArgs sNR) (defBody sNR) (defScope sNR) .none kV_NR dc_NR pm_NR an_NR cd_NR ct_NR), sl_NR⟩)
    (c_NR : PySem.W.codeIn K cd_NR "_need_roads" = true)
    (k_NR : PySem.W.keepIn K (.ref f_NR) = true)
    (a_keys : PySem.W.nsIn K mainGlobals "_are_keys" = some (some (.ref f_keys)))
    (l_keys : K.lookup f_keys = some ⟨oc_keys, od_keys, .func (PySem.W.fnOf "_are_keys" "_are_keys" (defArgs sKeys) (defBody sKeys) (defScope sKeys) .none kV_keys dc_keys pm_keys an_keys cd_keys ct_keys), sl_keys⟩)
    (c_keys : PySem.W.codeIn K cd_keys "_are_keys" = true)
    (k_keys : PySem.W.keepIn K (.ref f_keys) = true)
    (a_lead : PySem.W.nsIn K mainGlobals "_leader" = some (some (.ref f_lead)))
    (l_lead : K.lookup f_lead = some ⟨oc_lead, od_lead, .func (PySem.W.fnOf "_leader" "_leader" (defArgs sLead) (defBody sLead) (defScope sLead) .none kV_lead dc_lead pm_lead an_lead cd_lead ct_lead), sl_lead⟩)
    (c_lead : PySem.W.codeIn K cd_lead "_leader" = true)
    (k_lead : PySem.W.keepIn K (.ref f_lead) = true)
    (a_BW : PySem.W.nsIn K mainGlobals "_both_ways" = some (some (.ref f_BW)))
    (l_BW : K.lookup f_BW = some ⟨oc_BW, od_BW, .func (PySem.W.fnOf "_both_ways" "_both_ways" (defArgs sBW) (defBody sBW) (defScope sBW) .none kV_BW dc_BW pm_BW an_BW cd_BW ct_BW), sl_BW⟩)
    (c_BW : PySem.W.codeIn K cd_BW "_both_ways" = true)
    (k_BW : PySem.W.keepIn K (.ref f_BW) = true)
    (a_NB : PySem.W.nsIn K mainGlobals "_neighbours" = some (some (.ref f_NB)))
    (l_NB : K.lookup f_NB = some ⟨oc_NB, od_NB, .func (PySem.W.fnOf "_neighbours" "_neighbours" (defArgs sNB) (defBody sNB) (defScope sNB) .none kV_NB dc_NB pm_NB an_NB cd_NB ct_NB), sl_NB⟩)
    (c_NB : PySem.W.codeIn K cd_NB "_neighbours" = true)
    (k_NB : PySem.W.keepIn K (.ref f_NB) = true)
    (a_spring : PySem.W.nsIn K mainGlobals "_law_spring" = some (some (.ref f_spring)))
    (l_spring : K.lookup f_spring = some ⟨oc_spring, od_spring, .func (PySem.W.fnOf "_law_spring" "_law_spring" (defArgs sSpring) (defBody sSpring) (defScope sSpring) .none kV_spring dc_spring pm_spring an_spring cd_spring ct_spring), sl_spring⟩)
    (c_spring : PySem.W.codeIn K cd_spring "_law_spring" = true)
    (k_spring : PySem.W.keepIn K (.ref f_spring) = true)
    (a_VN : PySem.W.nsIn K mainGlobals "_law_v_names" = some (some (.ref f_VN)))
    (l_VN : K.lookup f_VN = some ⟨oc_VN, od_VN, .func (PySem.W.fnOf "_law_v_names" "_law_v_names" (defArgs sVN) (defBody sVN) (defScope sVN) .none kV_VN dc_VN pm_VN an_VN cd_VN ct_VN), sl_VN⟩)
    (c_VN : PySem.W.codeIn K cd_VN "_law_v_names" = true)
    (k_VN : PySem.W.keepIn K (.ref f_VN) = true)
    (a_VRo : PySem.W.nsIn K mainGlobals "_law_v_roads" = some (some (.ref f_VRo)))
    (l_VRo : K.lookup f_VRo = some ⟨oc_VRo, od_VRo, .func (PySem.W.fnOf "_law_v_roads" "_law_v_roads" (defArgs sVRo) (defBody sVRo) (defScope sVRo) .none kV_VRo dc_VRo pm_VRo an_VRo cd_VRo ct_VRo), sl_VRo⟩)
    (c_VRo : PySem.W.codeIn K cd_VRo "_law_v_roads" = true)
    (k_VRo : PySem.W.keepIn K (.ref f_VRo) = true)
    (a_VV : PySem.W.nsIn K mainGlobals "_law_v_valley" = some (some (.ref f_VV)))
    (l_VV : K.lookup f_VV = some ⟨oc_VV, od_VV, .func (PySem.W.fnOf "_law_v_valley" "_law_v_valley" (defArgs sVV) (defBody sVV) (defScope sVV) .none kV_VV dc_VV pm_VV an_VV cd_VV ct_VV), sl_VV⟩)
    (c_VV : PySem.W.codeIn K cd_VV "_law_v_valley" = true)
    (k_VV : PySem.W.keepIn K (.ref f_VV) = true)
    (a_lo : PySem.W.nsIn K mainGlobals "_law_loose" = some (some (.ref f_lo)))
    (l_lo : K.lookup f_lo = some ⟨oc_lo, od_lo, .func (PySem.W.fnOf "_law_loose" "_law_loose" (defArgs sLo) (defBody sLo) (defScope sLo) .none kV_lo dc_lo pm_lo an_lo cd_lo ct_lo), sl_lo⟩)
    (c_lo : PySem.W.codeIn K cd_lo "_law_loose" = true)
    (k_lo : PySem.W.keepIn K (.ref f_lo) = true)
    (a_VM : PySem.W.nsIn K mainGlobals "_law_v_made" = some (some (.ref f_VM)))
    (l_VM : K.lookup f_VM = some ⟨oc_VM, od_VM, .func (PySem.W.fnOf "_law_v_made" "_law_v_made" (defArgs sVM) (defBody sVM) (defScope sVM) .none kV_VM dc_VM pm_VM an_VM cd_VM ct_VM), sl_VM⟩)
    (c_VM : PySem.W.codeIn K cd_VM "_law_v_made" = true)
    (k_VM : PySem.W.keepIn K (.ref f_VM) = true)
    (a_sm : PySem.W.nsIn K mainGlobals "_law_same" = some (some (.ref f_sm)))
    (l_sm : K.lookup f_sm = some ⟨oc_sm, od_sm, .func (PySem.W.fnOf "_law_same" "_law_same" (defArgs sSm) (defBody sSm) (defScope sSm) .none kV_sm dc_sm pm_sm an_sm cd_sm ct_sm), sl_sm⟩)
    (c_sm : PySem.W.codeIn K cd_sm "_law_same" = true)
    (k_sm : PySem.W.keepIn K (.ref f_sm) = true)
    (a_Vn : PySem.W.nsIn K mainGlobals "_law_v_near" = some (some (.ref f_Vn)))
    (l_Vn : K.lookup f_Vn = some ⟨oc_Vn, od_Vn, .func (PySem.W.fnOf "_law_v_near" "_law_v_near" (defArgs sVn) (defBody sVn) (defScope sVn) .none kV_Vn dc_Vn pm_Vn an_Vn cd_Vn ct_Vn), sl_Vn⟩)
    (c_Vn : PySem.W.codeIn K cd_Vn "_law_v_near" = true)
    (k_Vn : PySem.W.keepIn K (.ref f_Vn) = true)
    (a_Odd : PySem.W.nsIn K mainGlobals "_law_v_odd_houses" = some (some (.ref f_Odd)))
    (l_Odd : K.lookup f_Odd = some ⟨oc_Odd, od_Odd, .func (PySem.W.fnOf "_law_v_odd_houses" "_law_v_odd_houses" (defArgs sOdd) (defBody sOdd) (defScope sOdd) .none kV_Odd dc_Odd pm_Odd an_Odd cd_Odd ct_Odd), sl_Odd⟩)
    (c_Odd : PySem.W.codeIn K cd_Odd "_law_v_odd_houses" = true)
    (k_Odd : PySem.W.keepIn K (.ref f_Odd) = true)
    (a_met : PySem.W.nsIn K mainGlobals "_law_met" = some (some (.ref f_met)))
    (l_met : K.lookup f_met = some ⟨oc_met, od_met, .func (PySem.W.fnOf "_law_met" "_law_met" (defArgs sMt) (defBody sMt) (defScope sMt) .none kV_met dc_met pm_met an_met cd_met ct_met), sl_met⟩)
    (c_met : PySem.W.codeIn K cd_met "_law_met" = true)
    (k_met : PySem.W.keepIn K (.ref f_met) = true)
    (a_Lw : PySem.W.nsIn K mainGlobals "_law_way" = some (some (.ref f_Lw)))
    (l_Lw : K.lookup f_Lw = some ⟨oc_Lw, od_Lw, .func (PySem.W.fnOf "_law_way" "_law_way" (defArgs sLw) (defBody sLw) (defScope sLw) .none kV_Lw dc_Lw pm_Lw an_Lw cd_Lw ct_Lw), sl_Lw⟩)
    (c_Lw : PySem.W.codeIn K cd_Lw "_law_way" = true)
    (k_Lw : PySem.W.keepIn K (.ref f_Lw) = true)
    (a_Ls : PySem.W.nsIn K mainGlobals "_law_side" = some (some (.ref f_Ls)))
    (l_Ls : K.lookup f_Ls = some ⟨oc_Ls, od_Ls, .func (PySem.W.fnOf "_law_side" "_law_side" (defArgs sLs) (defBody sLs) (defScope sLs) .none kV_Ls dc_Ls pm_Ls an_Ls cd_Ls ct_Ls), sl_Ls⟩)
    (c_Ls : PySem.W.codeIn K cd_Ls "_law_side" = true)
    (k_Ls : PySem.W.keepIn K (.ref f_Ls) = true)
    (a_Two : PySem.W.nsIn K mainGlobals "_law_two_right" = some (some (.ref f_Two)))
    (l_Two : K.lookup f_Two = some ⟨oc_Two, od_Two, .func (PySem.W.fnOf "_law_two_right" "_law_two_right" (defArgs sTwo) (defBody sTwo) (defScope sTwo) .none kV_Two dc_Two pm_Two an_Two (.ref cTw) ct_Two), sl_Two⟩)
    (c_Two : PySem.W.codeIn K (.ref cTw) "_law_two_right" = true)
    (k_Two : PySem.W.keepIn K (.ref f_Two) = true)
    (a_Ref : PySem.W.nsIn K mainGlobals "_law_refused_right" = some (some (.ref f_Ref)))
    (l_Ref : K.lookup f_Ref = some ⟨oc_Ref, od_Ref, .func (PySem.W.fnOf "_law_refused_right" "_law_refused_right" (defArgs sRef) (defBody sRef) (defScope sRef) .none kV_Ref dc_Ref pm_Ref an_Ref (.ref cRf) ct_Ref), sl_Ref⟩)
    (c_Ref : PySem.W.codeIn K (.ref cRf) "_law_refused_right" = true)
    (k_Ref : PySem.W.keepIn K (.ref f_Ref) = true)
    (a_law : PySem.W.nsIn K mainGlobals "law" = some (some (.ref f_law)))
    (l_law : K.lookup f_law = some ⟨oc_law, od_law, .func (PySem.W.fnOf "law" "law" (defArgs sLaw) (defBody sLaw) (defScope sLaw) .none kV_law dc_law pm_law an_law cd_law ct_law), sl_law⟩)
    (c_law : PySem.W.codeIn K cd_law "law" = true)
    (k_law : PySem.W.keepIn K (.ref f_law) = true)
    (aC : PySem.W.nsIn K mainGlobals "Valley" = some (some (.ref C)))
    (aCH : PySem.W.nsIn K mainGlobals "BadHouses" = some (some (.ref CH)))
    (aCR : PySem.W.nsIn K mainGlobals "BadRoads" = some (some (.ref CR)))
    (aCD : PySem.W.nsIn K mainGlobals "BadHeads" = some (some (.ref CD)))
    (aCN : PySem.W.nsIn K mainGlobals "NoHouse" = some (some (.ref CN)))
    (aCO : PySem.W.nsIn K mainGlobals "NoRoad" = some (some (.ref CO)))
    (aCF : PySem.W.nsIn K mainGlobals "FeastError" = some (some (.ref CF)))
    (a_VI : PySem.W.findIn K (.ref C) "__init__" = some (some (.ref f_VI)))
    (i_VI : PySem.W.isFn K (.ref f_VI) = true)
    (l_VI : K.lookup f_VI = some ⟨oc_VI, od_VI, .func (PySem.W.fnOf "__init__" "Valley.__init__" (defArgs sVI) (defBody sVI) (defScope sVI) .none kV_VI dc_VI pm_VI an_VI cd_VI ct_VI), sl_VI⟩)
    (c_VI : PySem.W.codeIn K cd_VI "Valley.__init__" = true)
    (k_VI : PySem.W.keepIn K (.ref f_VI) = true)
    (a_Be : PySem.W.findIn K (.ref C) "beside" = some (some (.ref f_Be)))
    (i_Be : PySem.W.isFn K (.ref f_Be) = true)
    (l_Be : K.lookup f_Be = some ⟨oc_Be, od_Be, .func (PySem.W.fnOf "beside" "Valley.beside" (defArgs sBe) (defBody sBe) (defScope sBe) .none kV_Be dc_Be pm_Be an_Be cd_Be ct_Be), sl_Be⟩)
    (c_Be : PySem.W.codeIn K cd_Be "Valley.beside" = true)
    (k_Be : PySem.W.keepIn K (.ref f_Be) = true)
    (a_Wa : PySem.W.findIn K (.ref C) "way" = some (some (.ref f_Wa)))
    (i_Wa : PySem.W.isFn K (.ref f_Wa) = true)
    (l_Wa : K.lookup f_Wa = some ⟨oc_Wa, od_Wa, .func (PySem.W.fnOf "way" "Valley.way" (defArgs sWa) (defBody sWa) (defScope sWa) .none kV_Wa dc_Wa pm_Wa an_Wa cd_Wa ct_Wa), sl_Wa⟩)
    (c_Wa : PySem.W.codeIn K cd_Wa "Valley.way" = true)
    (k_Wa : PySem.W.keepIn K (.ref f_Wa) = true)
    (a_Si : PySem.W.findIn K (.ref C) "side" = some (some (.ref f_Si)))
    (i_Si : PySem.W.isFn K (.ref f_Si) = true)
    (l_Si : K.lookup f_Si = some ⟨oc_Si, od_Si, .func (PySem.W.fnOf "side" "Valley.side" (defArgs sSi) (defBody sSi) (defScope sSi) .none kV_Si dc_Si pm_Si an_Si cd_Si ct_Si), sl_Si⟩)
    (c_Si : PySem.W.codeIn K cd_Si "Valley.side" = true)
    (k_Si : PySem.W.keepIn K (.ref f_Si) = true)
    (a_Is : PySem.W.findIn K (.ref C) "is_house" = some (some (.ref f_Is)))
    (i_Is : PySem.W.isFn K (.ref f_Is) = true)
    (l_Is : K.lookup f_Is = some ⟨oc_Is, od_Is, .func (PySem.W.fnOf "is_house" "Valley.is_house" (defArgs sIs) (defBody sIs) (defScope sIs) .none kV_Is dc_Is pm_Is an_Is cd_Is ct_Is), sl_Is⟩)
    (c_Is : PySem.W.codeIn K cd_Is "Valley.is_house" = true)
    (k_Is : PySem.W.keepIn K (.ref f_Is) = true)
    (a_Ne : PySem.W.findIn K (.ref C) "need_house" = some (some (.ref f_Ne)))
    (i_Ne : PySem.W.isFn K (.ref f_Ne) = true)
    (l_Ne : K.lookup f_Ne = some ⟨oc_Ne, od_Ne, .func (PySem.W.fnOf "need_house" "Valley.need_house" (defArgs sNe) (defBody sNe) (defScope sNe) .none kV_Ne dc_Ne pm_Ne an_Ne cd_Ne ct_Ne), sl_Ne⟩)
    (c_Ne : PySem.W.codeIn K cd_Ne "Valley.need_house" = true)
    (k_Ne : PySem.W.keepIn K (.ref f_Ne) = true)
    (a_Pl : PySem.W.findIn K (.ref C) "place" = some (some (.ref f_Pl)))
    (i_Pl : PySem.W.isFn K (.ref f_Pl) = true)
    (l_Pl : K.lookup f_Pl = some ⟨oc_Pl, od_Pl, .func (PySem.W.fnOf "place" "Valley.place" (defArgs sPl) (defBody sPl) (defScope sPl) .none kV_Pl dc_Pl pm_Pl an_Pl cd_Pl ct_Pl), sl_Pl⟩)
    (c_Pl : PySem.W.codeIn K cd_Pl "Valley.place" = true)
    (k_Pl : PySem.W.keepIn K (.ref f_Pl) = true)
    (a_Nr : PySem.W.findIn K (.ref C) "nearer" = some (some (.ref f_Nr)))
    (i_Nr : PySem.W.isFn K (.ref f_Nr) = true)
    (l_Nr : K.lookup f_Nr = some ⟨oc_Nr, od_Nr, .func (PySem.W.fnOf "nearer" "Valley.nearer" (defArgs sNr) (defBody sNr) (defScope sNr) .none kV_Nr dc_Nr pm_Nr an_Nr cd_Nr ct_Nr), sl_Nr⟩)
    (c_Nr : PySem.W.codeIn K cd_Nr "Valley.nearer" = true)
    (k_Nr : PySem.W.keepIn K (.ref f_Nr) = true)
    (a_iH : PySem.W.findIn K (.ref CH) "__init__" = some (some (.ref f_iH)))
    (i_iH : PySem.W.isFn K (.ref f_iH) = true)
    (l_iH : K.lookup f_iH = some ⟨oc_iH, od_iH, .func (PySem.W.fnOf "__init__" "BadHouses.__init__" (defArgs sIH) (defBody sIH) (defScope sIH) .none kV_iH dc_iH pm_iH an_iH cd_iH ct_iH), sl_iH⟩)
    (c_iH : PySem.W.codeIn K cd_iH "BadHouses.__init__" = true)
    (k_iH : PySem.W.keepIn K (.ref f_iH) = true)
    (a_iR : PySem.W.findIn K (.ref CR) "__init__" = some (some (.ref f_iR)))
    (i_iR : PySem.W.isFn K (.ref f_iR) = true)
    (l_iR : K.lookup f_iR = some ⟨oc_iR, od_iR, .func (PySem.W.fnOf "__init__" "BadRoads.__init__" (defArgs sIR) (defBody sIR) (defScope sIR) .none kV_iR dc_iR pm_iR an_iR cd_iR ct_iR), sl_iR⟩)
    (c_iR : PySem.W.codeIn K cd_iR "BadRoads.__init__" = true)
    (k_iR : PySem.W.keepIn K (.ref f_iR) = true)
    (a_iD : PySem.W.findIn K (.ref CD) "__init__" = some (some (.ref f_iD)))
    (i_iD : PySem.W.isFn K (.ref f_iD) = true)
    (l_iD : K.lookup f_iD = some ⟨oc_iD, od_iD, .func (PySem.W.fnOf "__init__" "BadHeads.__init__" (defArgs sID) (defBody sID) (defScope sID) .none kV_iD dc_iD pm_iD an_iD cd_iD ct_iD), sl_iD⟩)
    (c_iD : PySem.W.codeIn K cd_iD "BadHeads.__init__" = true)
    (k_iD : PySem.W.keepIn K (.ref f_iD) = true)
    (a_iN : PySem.W.findIn K (.ref CN) "__init__" = some (some (.ref f_iN)))
    (i_iN : PySem.W.isFn K (.ref f_iN) = true)
    (l_iN : K.lookup f_iN = some ⟨oc_iN, od_iN, .func (PySem.W.fnOf "__init__" "NoHouse.__init__" (defArgs sIN) (defBody sIN) (defScope sIN) .none kV_iN dc_iN pm_iN an_iN cd_iN ct_iN), sl_iN⟩)
    (c_iN : PySem.W.codeIn K cd_iN "NoHouse.__init__" = true)
    (k_iN : PySem.W.keepIn K (.ref f_iN) = true)
    (a_iO : PySem.W.findIn K (.ref CO) "__init__" = some (some (.ref f_iO)))
    (i_iO : PySem.W.isFn K (.ref f_iO) = true)
    (l_iO : K.lookup f_iO = some ⟨oc_iO, od_iO, .func (PySem.W.fnOf "__init__" "NoRoad.__init__" (defArgs sIO) (defBody sIO) (defScope sIO) .none kV_iO dc_iO pm_iO an_iO cd_iO ct_iO), sl_iO⟩)
    (c_iO : PySem.W.codeIn K cd_iO "NoRoad.__init__" = true)
    (k_iO : PySem.W.keepIn K (.ref f_iO) = true)
    (pg : PySem.W.plainGet K C Str.empty = true)
    (hd : PySem.W.hasDictIn K C = true)
    (po : PySem.W.plainOver K C = true)
    (sa : PySem.W.findIn K (.ref C) "__setattr__" = some (some (.builtin "object.__setattr__")))
    (mk : PySem.W.makesIn K C = true)
    (kc : PySem.W.keepIn K (.ref C) = true)
    (n1 : PySem.W.findIn K (.ref C) "_houses" = some none)
    (n2 : PySem.W.findIn K (.ref C) "_roads" = some none)
    (n3 : PySem.W.findIn K (.ref C) "_heads" = some none)
    (n4 : PySem.W.findIn K (.ref C) "_people" = some none)
    (n5 : PySem.W.findIn K (.ref C) "_places" = some none)
    (n6 : PySem.W.findIn K (.ref C) "_beside" = some none)
    (fsp : PySem.W.specialIn K (.ref CF) "__getattribute__" = some (some (.builtin "type.__getattribute__")))
    (frd : PySem.W.readsIn K CF (.type "type") = true)
    (fin : PySem.W.findCls K (.ref CF) (.type "type") "__init__" = some (.val (.builtin "ValueError.__init__")))
    (xCH : K.lookup CH = some (excClassObj nmCH qCH CH NCH bsCH bmCH true snCH subCH abCH colCH ddCH m0CH m1CH m2CH m3CH m5CH "ValueError.__new__"))
    (rCH : PySem.HandSPX.refsVE bmCH = true)
    (saCH : PySem.W.findIn K (.ref CH) "__setattr__" = some (some (.builtin "object.__setattr__")))
    (exCH : PySem.W.subIn K (.ref CH) (.type "BaseException") = some true)
    (tyCH : PySem.W.typeIn K (.ref CH) = some (.type "type"))
    (kpCH : PySem.W.keepIn K (.ref CH) = true)
    (inCH_index : PySem.W.findIn K (.ref CH) "index" = some none)
    (ty_iH : PySem.W.typeIn K (.ref f_iH) = some (.type "function"))
    (xCR : K.lookup CR = some (excClassObj nmCR qCR CR NCR bsCR bmCR true snCR subCR abCR colCR ddCR m0CR m1CR m2CR m3CR m5CR "ValueError.__new__"))
    (rCR : PySem.HandSPX.refsVE bmCR = true)
    (saCR : PySem.W.findIn K (.ref CR) "__setattr__" = some (some (.builtin "object.__setattr__")))
    (exCR : PySem.W.subIn K (.ref CR) (.type "BaseException") = some true)
    (tyCR : PySem.W.typeIn K (.ref CR) = some (.type "type"))
    (kpCR : PySem.W.keepIn K (.ref CR) = true)
    (inCR_index : PySem.W.findIn K (.ref CR) "index" = some none)
    (ty_iR : PySem.W.typeIn K (.ref f_iR) = some (.type "function"))
    (xCD : K.lookup CD = some (excClassObj nmCD qCD CD NCD bsCD bmCD true snCD subCD abCD colCD ddCD m0CD m1CD m2CD m3CD m5CD "ValueError.__new__"))
    (rCD : PySem.HandSPX.refsVE bmCD = true)
    (saCD : PySem.W.findIn K (.ref CD) "__setattr__" = some (some (.builtin "object.__setattr__")))
    (exCD : PySem.W.subIn K (.ref CD) (.type "BaseException") = some true)
    (tyCD : PySem.W.typeIn K (.ref CD) = some (.type "type"))
    (kpCD : PySem.W.keepIn K (.ref CD) = true)
    (inCD_index : PySem.W.findIn K (.ref CD) "index" = some none)
    (ty_iD : PySem.W.typeIn K (.ref f_iD) = some (.type "function"))
    (xCN : K.lookup CN = some (excClassObj nmCN qCN CN NCN bsCN bmCN true snCN subCN abCN colCN ddCN m0CN m1CN m2CN m3CN m5CN "ValueError.__new__"))
    (rCN : PySem.HandSPX.refsVE bmCN = true)
    (saCN : PySem.W.findIn K (.ref CN) "__setattr__" = some (some (.builtin "object.__setattr__")))
    (exCN : PySem.W.subIn K (.ref CN) (.type "BaseException") = some true)
    (tyCN : PySem.W.typeIn K (.ref CN) = some (.type "type"))
    (kpCN : PySem.W.keepIn K (.ref CN) = true)
    (inCN_house : PySem.W.findIn K (.ref CN) "house" = some none)
    (ty_iN : PySem.W.typeIn K (.ref f_iN) = some (.type "function"))
    (xCO : K.lookup CO = some (excClassObj nmCO qCO CO NCO bsCO bmCO true snCO subCO abCO colCO ddCO m0CO m1CO m2CO m3CO m5CO "ValueError.__new__"))
    (rCO : PySem.HandSPX.refsVE bmCO = true)
    (saCO : PySem.W.findIn K (.ref CO) "__setattr__" = some (some (.builtin "object.__setattr__")))
    (exCO : PySem.W.subIn K (.ref CO) (.type "BaseException") = some true)
    (tyCO : PySem.W.typeIn K (.ref CO) = some (.type "type"))
    (kpCO : PySem.W.keepIn K (.ref CO) = true)
    (inCO_one : PySem.W.findIn K (.ref CO) "one" = some none)
    (inCO_other : PySem.W.findIn K (.ref CO) "other" = some none)
    (ty_iO : PySem.W.typeIn K (.ref f_iO) = some (.type "function"))
    (gaCN : PySem.W.findIn K (.ref CN) "__getattribute__" = some (some (.builtin "BaseException.__getattribute__")))
    (ggCN : PySem.W.findIn K (.ref CN) "__getattr__" = some none)
    (hdCN : PySem.W.hasDictIn K CN = true)
    (gaCO : PySem.W.findIn K (.ref CO) "__getattribute__" = some (some (.builtin "BaseException.__getattribute__")))
    (ggCO : PySem.W.findIn K (.ref CO) "__getattr__" = some none)
    (hdCO : PySem.W.hasDictIn K CO = true)
    (em_nn : PySem.W.exmOne K (.ref CN) (.ref CN) = some true)
    (em_on : PySem.W.exmOne K (.ref CO) (.ref CN) = some false)
    (em_oo : PySem.W.exmOne K (.ref CO) (.ref CO) = some true)
    (sgL : PySem.W.nsIn K mainGlobals "LETTERS" = some (some (.str letters tL)))
    (sgF : PySem.W.nsIn K mainGlobals "FIGURES" = some (some (.str figures tF)))
    (sgN : PySem.W.nsIn K mainGlobals "LONGEST_NAME" = some (some (.int 8 tN)))
    (z_isinstance : PySem.W.nsIn K mainGlobals "isinstance" = some none)
    (z_int : PySem.W.nsIn K mainGlobals "int" = some none)
    (z_bool : PySem.W.nsIn K mainGlobals "bool" = some none)
    (z_str : PySem.W.nsIn K mainGlobals "str" = some none)
    (z_list : PySem.W.nsIn K mainGlobals "list" = some none)
    (z_tuple : PySem.W.nsIn K mainGlobals "tuple" = some none)
    (z_dict : PySem.W.nsIn K mainGlobals "dict" = some none)
    (z_len : PySem.W.nsIn K mainGlobals "len" = some none)
    (z_all : PySem.W.nsIn K mainGlobals "all" = some none)
    (z_range : PySem.W.nsIn K mainGlobals "range" = some none)
    (z_enumerate : PySem.W.nsIn K mainGlobals "enumerate" = some none)
    (z_set : PySem.W.nsIn K mainGlobals "set" = some none)
    (z_min : PySem.W.nsIn K mainGlobals "min" = some none)
    (z_max : PySem.W.nsIn K mainGlobals "max" = some none)
    (z_zip : PySem.W.nsIn K mainGlobals "zip" = some none)
    (z_sorted : PySem.W.nsIn K mainGlobals "sorted" = some none)
    (tpNT : K.lookup TPT = none)
    (tpNR : K.lookup TPR = none)
    (tpCT : PySem.W.codeHdIn K cTw TPT = true)
    (tpCR : PySem.W.codeHdIn K cRf TPR = true)
    (tpne : decide (TPT = TPR) = false) :
    LamX.LawAtS l w K CX0 10 63 "script" mg fa h := by
  have e := hfa.symm.trans (PySem.W.mg_of X G a_law)
  cases e
  have F_isInt := fun_mk (st := sIsInt) l_isInt c_isInt k_isInt
  have b_isInt := F_isInt.binds (ps := ["thing"]) fun _ _ _ _ _ _ us hl => match us, hl with | [_], _ => rfl
  have m_isInt := PySem.W.mg_of X G a_isInt
  have F_fromOne := fun_mk (st := sFromOne) l_fromOne c_fromOne k_fromOne
  have b_fromOne := F_fromOne.binds (ps := ["thing"]) fun _ _ _ _ _ _ us hl => match us, hl with | [_], _ => rfl
  have m_fromOne := PySem.W.mg_of X G a_fromOne
  have F_isList := fun_mk (st := sIsList) l_isList c_isList k_isList
  have b_isList := F_isList.binds (ps := ["thing"]) fun _ _ _ _ _ _ us hl => match us, hl with | [_], _ => rfl
  have m_isList := PySem.W.mg_of X G a_isList
  have F_isPair := fun_mk (st := sIsPair) l_isPair c_isPair k_isPair
  have b_isPair := F_isPair.binds (ps := ["thing"]) fun _ _ _ _ _ _ us hl => match us, hl with | [_], _ => rfl
  have m_isPair := PySem.W.mg_of X G a_isPair
  have F_isName := fun_mk (st := sIsName) l_isName c_isName k_isName
  have b_isName := F_isName.binds (ps := ["thing"]) fun _ _ _ _ _ _ us hl => match us, hl with | [_], _ => rfl
  have m_isName := PySem.W.mg_of X G a_isName
  have F_draw := fun_mk (st := sDraw) l_draw c_draw k_draw
  have b_draw := F_draw.binds (ps := ["spring", "many"]) fun _ _ _ _ _ _ us hl => match us, hl with | [_, _], _ => rfl
  have m_draw := PySem.W.mg_of X G a_draw
  have F_pick := fun_mk (st := sPick) l_pick c_pick k_pick
  have b_pick := F_pick.binds (ps := ["spring", "some"]) fun _ _ _ _ _ _ us hl => match us, hl with | [_, _], _ => rfl
  have m_pick := PySem.W.mg_of X G a_pick
  have F_mixed := fun_mk (st := sMixed) l_mixed c_mixed k_mixed
  have b_mixed := F_mixed.binds (ps := ["spring", "some"]) fun _ _ _ _ _ _ us hl => match us, hl with | [_, _], _ => rfl
  have m_mixed := PySem.W.mg_of X G a_mixed
  have F_ND := fun_mk (st := sND) l_ND c_ND k_ND
  have b_ND := F_ND.binds (ps := ["houses", "heads"]) fun _ _ _ _ _ _ us hl => match us, hl with | [_, _], _ => rfl
  have m_ND := PySem.W.mg_of X G a_ND
  have F_NH := fun_mk (st := sNH) l_NH c_NH k_NH
  have b_NH := F_NH.binds (ps := ["houses"]) fun _ _ _ _ _ _ us hl => match us, hl with | [_], _ => rfl
  have m_NH := PySem.W.mg_of X G a_NH
  have F_NR := fun_mk (st := sNR) l_NR c_NR k_NR
  have b_NR := F_NR.binds (ps := ["houses", "roads"]) fun _ _ _ _ _ _ us hl => match us, hl with | [_, _], _ => rfl
  have m_NR := PySem.W.mg_of X G a_NR
  have F_keys := fun_mk (st := sKeys) l_keys c_keys k_keys
  have b_keys := F_keys.binds (ps := ["things", "table"]) fun _ _ _ _ _ _ us hl => match us, hl with | [_, _], _ => rfl
  have m_keys := PySem.W.mg_of X G a_keys
  have F_lead := fun_mk (st := sLead) l_lead c_lead k_lead
  have b_lead := F_lead.binds (ps := ["leads", "house"]) fun _ _ _ _ _ _ us hl => match us, hl with | [_, _], _ => rfl
  have m_lead := PySem.W.mg_of X G a_lead
  have F_BW := fun_mk (st := sBW) l_BW c_BW k_BW
  have b_BW := F_BW.binds (ps := ["roads"]) fun _ _ _ _ _ _ us hl => match us, hl with | [_], _ => rfl
  have m_BW := PySem.W.mg_of X G a_BW
  have F_NB := fun_mk (st := sNB) l_NB c_NB k_NB
  have b_NB := F_NB.binds (ps := ["houses", "roads"]) fun _ _ _ _ _ _ us hl => match us, hl with | [_, _], _ => rfl
  have m_NB := PySem.W.mg_of X G a_NB
  have F_spring := fun_mk (st := sSpring) l_spring c_spring k_spring
  have b_spring := F_spring.binds (ps := ["script", "turn"]) fun _ _ _ _ _ _ us hl => match us, hl with | [_, _], _ => rfl
  have m_spring := PySem.W.mg_of X G a_spring
  have F_VN := fun_mk (st := sVN) l_VN c_VN k_VN
  have b_VN := F_VN.binds (ps := ["spring", "least", "most"]) fun _ _ _ _ _ _ us hl => match us, hl with | [_, _, _], _ => rfl
  have m_VN := PySem.W.mg_of X G a_VN
  have F_VRo := fun_mk (st := sVRo) l_VRo c_VRo k_VRo
  have b_VRo := F_VRo.binds (ps := ["spring", "names"]) fun _ _ _ _ _ _ us hl => match us, hl with | [_, _], _ => rfl
  have m_VRo := PySem.W.mg_of X G a_VRo
  have F_VV := fun_mk (st := sVV) l_VV c_VV k_VV
  have b_VV := F_VV.binds (ps := ["spring", "least", "most"]) fun _ _ _ _ _ _ us hl => match us, hl with | [_, _, _], _ => rfl
  have m_VV := PySem.W.mg_of X G a_VV
  have F_lo := fun_mk (st := sLo) l_lo c_lo k_lo
  have b_lo := F_lo.binds (ps := ["spring", "thing"]) fun _ _ _ _ _ _ us hl => match us, hl with | [_, _], _ => rfl
  have m_lo := PySem.W.mg_of X G a_lo
  have F_VM := fun_mk (st := sVM) l_VM c_VM k_VM
  have b_VM := F_VM.binds (ps := ["spring", "valley"]) fun _ _ _ _ _ _ us hl => match us, hl with | [_, _], _ => rfl
  have m_VM := PySem.W.mg_of X G a_VM
  have F_sm := fun_mk (st := sSm) l_sm c_sm k_sm
  have b_sm := F_sm.binds (ps := ["found", "due"]) fun _ _ _ _ _ _ us hl => match us, hl with | [_, _], _ => rfl
  have m_sm := PySem.W.mg_of X G a_sm
  have F_Vn := fun_mk (st := sVn) l_Vn c_Vn k_Vn
  have b_Vn := F_Vn.binds (ps := ["valley", "house"]) fun _ _ _ _ _ _ us hl => match us, hl with | [_, _], _ => rfl
  have m_Vn := PySem.W.mg_of X G a_Vn
  have F_Odd := fun_mk (st := sOdd) l_Odd c_Odd k_Odd
  have b_Odd := F_Odd.binds (ps := ["names"]) fun _ _ _ _ _ _ us hl => match us, hl with | [_], _ => rfl
  have m_Odd := PySem.W.mg_of X G a_Odd
  have F_met := fun_mk (st := sMt) l_met c_met k_met
  have b_met := F_met.binds (ps := ["ask"]) fun _ _ _ _ _ _ us hl => match us, hl with | [_], _ => rfl
  have m_met := PySem.W.mg_of X G a_met
  have F_Lw := fun_mk (st := sLw) l_Lw c_Lw k_Lw
  have b_Lw := F_Lw.binds (ps := ["valley", "one", "other"]) fun _ _ _ _ _ _ us hl => match us, hl with | [_, _, _], _ => rfl
  have m_Lw := PySem.W.mg_of X G a_Lw
  have F_Ls := fun_mk (st := sLs) l_Ls c_Ls k_Ls
  have b_Ls := F_Ls.binds (ps := ["valley", "one", "other"]) fun _ _ _ _ _ _ us hl => match us, hl with | [_, _, _], _ => rfl
  have m_Ls := PySem.W.mg_of X G a_Ls
  have F_Two := fun_mk (st := sTwo) l_Two c_Two k_Two
  have b_Two := F_Two.binds (ps := ["made", "valley", "one", "other"]) fun _ _ _ _ _ _ us hl => match us, hl with | [_, _, _, _], _ => rfl
  have m_Two := PySem.W.mg_of X G a_Two
  have F_Ref := fun_mk (st := sRef) l_Ref c_Ref k_Ref
  have b_Ref := F_Ref.binds (ps := ["made", "valley"]) fun _ _ _ _ _ _ us hl => match us, hl with | [_, _], _ => rfl
  have m_Ref := PySem.W.mg_of X G a_Ref
  have F_law := fun_mk (st := sLaw) l_law c_law k_law
  have b_law := F_law.binds (ps := ["script"]) fun _ _ _ _ _ _ us hl => match us, hl with | [_], _ => rfl
  have m_law := PySem.W.mg_of X G a_law
  have F_VI := fun_mk (st := sVI) l_VI c_VI k_VI
  have b_VI := F_VI.binds (ps := ["self", "houses", "roads", "heads"]) fun _ _ _ _ _ _ us hl => match us, hl with | [_, _, _, _], _ => rfl
  have F_Be := fun_mk (st := sBe) l_Be c_Be k_Be
  have b_Be := F_Be.binds (ps := ["self", "house"]) fun _ _ _ _ _ _ us hl => match us, hl with | [_, _], _ => rfl
  have F_Wa := fun_mk (st := sWa) l_Wa c_Wa k_Wa
  have b_Wa := F_Wa.binds (ps := ["self", "one", "other"]) fun _ _ _ _ _ _ us hl => match us, hl with | [_, _, _], _ => rfl
  have F_Si := fun_mk (st := sSi) l_Si c_Si k_Si
  have b_Si := F_Si.binds (ps := ["self", "one", "other"]) fun _ _ _ _ _ _ us hl => match us, hl with | [_, _, _], _ => rfl
  have F_Is := fun_mk (st := sIs) l_Is c_Is k_Is
  have b_Is := F_Is.binds (ps := ["self", "thing"]) fun _ _ _ _ _ _ us hl => match us, hl with | [_, _], _ => rfl
  have F_Ne := fun_mk (st := sNe) l_Ne c_Ne k_Ne
  have b_Ne := F_Ne.binds (ps := ["self", "house"]) fun _ _ _ _ _ _ us hl => match us, hl with | [_, _], _ => rfl
  have F_Pl := fun_mk (st := sPl) l_Pl c_Pl k_Pl
  have b_Pl := F_Pl.binds (ps := ["self", "one", "other"]) fun _ _ _ _ _ _ us hl => match us, hl with | [_, _, _], _ => rfl
  have F_Nr := fun_mk (st := sNr) l_Nr c_Nr k_Nr
  have b_Nr := F_Nr.binds (ps := ["self", "start"]) fun _ _ _ _ _ _ us hl => match us, hl with | [_, _], _ => rfl
  have F_iH := fun_mk (st := sIH) l_iH c_iH k_iH
  have b_iH := F_iH.binds (ps := ["self", "index"]) fun _ _ _ _ _ _ us hl => match us, hl with | [_, _], _ => rfl
  have F_iR := fun_mk (st := sIR) l_iR c_iR k_iR
  have b_iR := F_iR.binds (ps := ["self", "index"]) fun _ _ _ _ _ _ us hl => match us, hl with | [_, _], _ => rfl
  have F_iD := fun_mk (st := sID) l_iD c_iD k_iD
  have b_iD := F_iD.binds (ps := ["self", "index"]) fun _ _ _ _ _ _ us hl => match us, hl with | [_, _], _ => rfl
  have F_iN := fun_mk (st := sIN) l_iN c_iN k_iN
  have b_iN := F_iN.binds (ps := ["self", "house"]) fun _ _ _ _ _ _ us hl => match us, hl with | [_, _], _ => rfl
  have F_iO := fun_mk (st := sIO) l_iO c_iO k_iO
  have b_iO := F_iO.binds (ps := ["self", "one", "other"]) fun _ _ _ _ _ _ us hl => match us, hl with | [_, _, _], _ => rfl
  have mC := PySem.W.mg_of X G aC
  have mCH := PySem.W.mg_of X G aCH
  have mCR := PySem.W.mg_of X G aCR
  have mCD := PySem.W.mg_of X G aCD
  have mCN := PySem.W.mg_of X G aCN
  have mCO := PySem.W.mg_of X G aCO
  have mCF := PySem.W.mg_of X G aCF
  have y_isinstance := PySem.W.mg_none_of X G z_isinstance
  have y_int := PySem.W.mg_none_of X G z_int
  have y_bool := PySem.W.mg_none_of X G z_bool
  have y_str := PySem.W.mg_none_of X G z_str
  have y_list := PySem.W.mg_none_of X G z_list
  have y_tuple := PySem.W.mg_none_of X G z_tuple
  have y_dict := PySem.W.mg_none_of X G z_dict
  have y_len := PySem.W.mg_none_of X G z_len
  have y_all := PySem.W.mg_none_of X G z_all
  have y_range := PySem.W.mg_none_of X G z_range
  have y_enumerate := PySem.W.mg_none_of X G z_enumerate
  have y_set := PySem.W.mg_none_of X G z_set
  have y_min := PySem.W.mg_none_of X G z_min
  have y_max := PySem.W.mg_none_of X G z_max
  have y_zip := PySem.W.mg_none_of X G z_zip
  have y_sorted := PySem.W.mg_none_of X G z_sorted
  have B : Bl mg := ⟨y_isinstance, y_int, y_bool, y_str, y_list, y_tuple, y_dict, y_len, y_all⟩
  have S : Signs mg := ⟨⟨_, PySem.W.mg_of X G sgL⟩, ⟨_, PySem.W.mg_of X G sgF⟩, ⟨_, PySem.W.mg_of X G sgN⟩⟩
  have TF : FeC K mg CF := ⟨mCF, fsp, frd, fin⟩
  have OCH : OexC K CH := ⟨⟨_, _, _, _, _, _, _, _, _, _, _, _, _, _, _, xCH, rCH⟩, saCH, exCH, tyCH, kpCH⟩
  have ECH : ErC K mg "BadHouses" CH f_iH := ⟨mCH, OCH, inCH_index, a_iH, ty_iH⟩
  have OCR : OexC K CR := ⟨⟨_, _, _, _, _, _, _, _, _, _, _, _, _, _, _, xCR, rCR⟩, saCR, exCR, tyCR, kpCR⟩
  have ECR : ErC K mg "BadRoads" CR f_iR := ⟨mCR, OCR, inCR_index, a_iR, ty_iR⟩
  have OCD : OexC K CD := ⟨⟨_, _, _, _, _, _, _, _, _, _, _, _, _, _, _, xCD, rCD⟩, saCD, exCD, tyCD, kpCD⟩
  have ECD : ErC K mg "BadHeads" CD f_iD := ⟨mCD, OCD, inCD_index, a_iD, ty_iD⟩
  have OCN : OexC K CN := ⟨⟨_, _, _, _, _, _, _, _, _, _, _, _, _, _, _, xCN, rCN⟩, saCN, exCN, tyCN, kpCN⟩
  have OCO : OexC K CO := ⟨⟨_, _, _, _, _, _, _, _, _, _, _, _, _, _, _, xCO, rCO⟩, saCO, exCO, tyCO, kpCO⟩
  have ECN : ErF K mg "NoHouse" CN f_iN ["house"] := ⟨mCN, OCN, fun n hn => by rw [List.mem_singleton.mp hn]; exact inCN_house, a_iN, ty_iN⟩
  have noO : ∀ n ∈ (["one", "other"] : List Str), PySem.W.findIn K (.ref CO) n = some none := fun n hn => by
    rcases List.mem_cons.mp hn with e | hn
    · rw [e]; exact inCO_one
    · rw [List.mem_singleton.mp hn]; exact inCO_other
  have ECO : ErF K mg "NoRoad" CO f_iO ["one", "other"] := ⟨mCO, OCO, noO, a_iO, ty_iO⟩
  have XfCN : XfC K CN := ⟨gaCN, ggCN, exCN, hdCN⟩
  have XfCO : XfC K CO := ⟨gaCO, ggCO, exCO, hdCO⟩
  have VT0 : VcT K C := ⟨⟨pg, hd, po, sa⟩, n1, n2, n3, n4, n5, n6⟩
  have MF : MetG K mg CN CO := ⟨mCN, mCO, em_nn, em_on, em_oo, XfCN, XfCO, inCN_house, inCO_one, inCO_other⟩
  have MK : Mk K C f_VI := ⟨mk, a_VI, i_VI, kc⟩
  have ne : TPT ≠ TPR := of_decide_eq_false tpne
  refine ⟨PySem.W.fnOf "law" "law" (defArgs sLaw) (defBody sLaw) (defScope sLaw) .none kV_law dc_law pm_law an_law cd_law ct_law, [(cTw, TPT), (cRf, TPR)], spLaw K (TT2 TPT TPR), fun p hp => ?_, fun p hp => ?_, fun p hp => ?_, fun s v => .of_eq rfl, fun H a ns hl hb hH hS => ⟨a, ns, rfl, hS, by omega, fun p hp => ?_, fun _ => rfl⟩, fun base KB NB hTB => ?_⟩
  · rcases List.mem_cons.mp hp with e | hp
    · rw [e]; exact hTT
    · rw [List.mem_singleton.mp hp]; exact hTR
  · rcases List.mem_cons.mp hp with e | hp
    · rw [e]; exact tpNT
    · rw [List.mem_singleton.mp hp]; exact tpNR
  · rcases List.mem_cons.mp hp with e | hp
    · rw [e]; exact PySem.W.codeHd_of_K X tpCT
    · rw [List.mem_singleton.mp hp]; exact PySem.W.codeHd_of_K X tpCR
  · rcases List.mem_cons.mp hp with e | hp
    · rw [e]; exact LamX.TabS.nil (hH (cTw, TPT) (List.mem_cons_self ..))
    · rw [List.mem_singleton.mp hp]; exact LamX.TabS.nil (hH (cRf, TPR) (List.mem_cons_of_mem _ (List.mem_cons_self ..)))
  have TBT := hTB (cTw, TPT) (List.mem_cons_self ..)
  have TBR := hTB (cRf, TPR) (List.mem_cons_of_mem _ (List.mem_cons_self ..))
  have uT : ∀ p ∈ TT2 TPT TPR, p.1 = TPT → p.2 = qTwo := fun p hp e => by
    rcases List.mem_cons.mp hp with z | hp
    · rw [z]
    · rw [List.mem_singleton.mp hp] at e; exact absurd e.symm ne
  have uR : ∀ p ∈ TT2 TPT TPR, p.1 = TPR → p.2 = qRef := fun p hp e => by
    rcases List.mem_cons.mp hp with z | hp
    · rw [z] at e; exact absurd e ne
    · rw [List.mem_singleton.mp hp]
  have g_draw : FnOk l.prog w K mg base CX0 1 f_draw _ ["spring", "many"] (spDraw) := ok_draw F_draw y_int
  have g_pick : FnOk l.prog w K mg base CX0 2 f_pick _ ["spring", "some"] (spPick) := ok_pick F_pick g_draw b_draw k_draw m_draw y_len
  have g_mixed : FnOk l.prog w K mg base CX0 2 f_mixed _ ["spring", "some"] (spMixed) := ok_mixed F_mixed g_draw b_draw k_draw m_draw y_len y_list y_range
  have g_VN : FnOk l.prog w K mg base CX0 3 f_VN _ ["spring", "least", "most"] (spVN) := ok_VN F_VN B y_range g_draw b_draw k_draw m_draw g_mixed b_mixed k_mixed m_mixed
  have g_VRo : FnOk l.prog w K mg base CX0 3 f_VRo _ ["spring", "names"] (spVRo) := ok_VRo F_VRo B y_range y_max g_draw b_draw k_draw m_draw g_mixed b_mixed k_mixed m_mixed
  have g_VV : FnOk l.prog w K mg base CX0 4 f_VV _ ["spring", "least", "most"] (spVV) := ok_VV F_VV B g_draw b_draw k_draw m_draw g_mixed b_mixed k_mixed m_mixed g_pick b_pick k_pick m_pick g_VN b_VN k_VN m_VN g_VRo b_VRo k_VRo m_VRo
  have g_lo0 : FnOk l.prog w K mg base CX0 1 f_lo _ ["spring", "thing"] (spLo (Flat0 K) 0) := ok_lo0 F_lo B
  have g_lo1 : FnOk l.prog w K mg base CX0 2 f_lo _ ["spring", "thing"] (spLo (SeqR (Flat0 K)) 1) := ok_lo mon_flat0 F_lo B m_lo b_lo g_draw b_draw k_draw m_draw (Nat.le_refl 1) g_lo0
  have g_lo2 : FnOk l.prog w K mg base CX0 3 f_lo _ ["spring", "thing"] (spLo (SeqR (SeqR (Flat0 K))) 61) := ok_lo (mon_seq mon_flat0) F_lo B m_lo b_lo g_draw b_draw k_draw m_draw (by decide) g_lo1
  have M1 : MonE R1 := NextF.mon M0
  have M3 : MonE R3 := NextF.mon M2
  have M4 : MonE R4 := NextF.mon M3
  have M5 : MonE R5 := NextF.mon M4
  have g_sm : FnOk l.prog w K mg base CX0 4 f_sm _ ["found", "due"] (spSm R4) := (ok_smF M3 F_sm B y_zip m_sm b_sm (ok_smF M2 F_sm B y_zip m_sm b_sm (ok_smF M1 F_sm B y_zip m_sm b_sm (ok_smF M0 F_sm B y_zip m_sm b_sm ok_sm_none))))
  have g_sm6 : FnOk l.prog w K mg base CX0 6 f_sm _ ["found", "due"] (spSm R6) := (ok_smF M5 F_sm B y_zip m_sm b_sm (ok_smF M4 F_sm B y_zip m_sm b_sm g_sm))
  have g_NH : FnOk l.prog w K mg base (L2.CX l.prog w) 4 f_NH _ ["houses"] (spNH K CH) := ok_NH F_NH B S y_enumerate y_set F_isList b_isList m_isList F_isName b_isName m_isName TF ECH F_iH b_iH
  have g_NR : FnOk l.prog w K mg base (L2.CX l.prog w) 4 f_NR _ ["houses", "roads"] (spNR K CR) := ok_NR F_NR B y_enumerate F_isList b_isList m_isList F_isPair b_isPair m_isPair F_keys b_keys m_keys F_lead b_lead m_lead TF ECR F_iR b_iR
  have g_ND : FnOk l.prog w K mg base (L2.CX l.prog w) 4 f_ND _ ["houses", "heads"] (spND K CD) := ok_ND F_ND B y_enumerate F_isList b_isList m_isList F_fromOne b_fromOne m_fromOne F_isInt b_isInt m_isInt TF ECD F_iD b_iD
  have g_VS : FnOk l.prog w K mg base (L2.CX l.prog w) 5 f_VI _ ["self", "houses", "roads", "heads"] (spVS K C) := ok_VS F_VI B y_enumerate VT0 g_NH k_NH b_NH m_NH g_NR k_NR b_NR m_NR g_ND k_ND b_ND m_ND F_BW b_BW m_BW F_NB b_NB m_NB
  have g_VM : FnOk l.prog w K mg base CX0 7 f_VM _ ["spring", "valley"] (spMd C) := ok_Md F_VM mC MK g_VS b_VI g_lo1 g_lo2 b_lo k_lo m_lo
  have g_Ne : FnOk l.prog w K mg base (L2.CX l.prog w) 3 f_Ne _ ["self", "house"] (spNe K C CN) := ok_Ne F_Ne B VT0 F_Is ⟨a_Is, i_Is, k_Is⟩ b_Is TF ECN F_iN b_iN
  have g_Be : FnOk l.prog w K mg base (L2.CX l.prog w) 4 f_Be _ ["self", "house"] (spBe K C CN) := ok_Be F_Be B VT0 g_Ne ⟨a_Ne, i_Ne, k_Ne⟩ b_Ne
  have g_Pl : FnOk l.prog w K mg base (L2.CX l.prog w) 4 f_Pl _ ["self", "one", "other"] (spPl K C CN CO) := ok_Pl F_Pl B VT0 g_Ne ⟨a_Ne, i_Ne, k_Ne⟩ b_Ne TF ECO F_iO b_iO
  have g_Nr : FnOk l.prog w K mg base CX0 1 f_Nr _ ["self", "start"] (spNr C) := ok_Nr F_Nr VT0
  have g_Wa : FnOk l.prog w K mg base (L2.CX l.prog w) 4 f_Wa _ ["self", "one", "other"] (spWa K C CN) := ok_Wa F_Wa VT0 g_Ne ⟨a_Ne, i_Ne, k_Ne⟩ b_Ne g_Nr ⟨a_Nr, i_Nr, k_Nr⟩ b_Nr
  have g_Si : FnOk l.prog w K mg base (L2.CX l.prog w) 5 f_Si _ ["self", "one", "other"] (spSi K C CN CO) := ok_Si F_Si VT0 g_Pl ⟨a_Pl, i_Pl, k_Pl⟩ b_Pl
  have g_Vn : FnOk l.prog w K mg base CX0 1 f_Vn _ ["valley", "house"] (spVn) := ok_Vn F_Vn
  have g_Lw : FnOk l.prog w K mg base CX0 2 f_Lw _ ["valley", "one", "other"] (spLw) := ok_Lw F_Lw g_Vn b_Vn k_Vn m_Vn
  have g_Ls : FnOk l.prog w K mg base CX0 2 f_Ls _ ["valley", "one", "other"] (spLs) := ok_Ls F_Ls g_Vn b_Vn k_Vn m_Vn
  have g_Odd : FnOk l.prog w K mg base CX0 1 f_Odd _ ["names"] (spOdd) := ok_Odd F_Odd
  have g_spring : FnOk l.prog w K mg base CX0 1 f_spring _ ["script", "turn"] (spSpring K) := ok_spring F_spring B y_enumerate
  have g_Two : FnOk l.prog w K mg base CX0 9 f_Two _ ["made", "valley", "one", "other"] (spTwo C (TT2 TPT TPR)) := ok_two l_Two c_Two VT0.cl y_range y_sorted MF F_met b_met m_met TBT (List.mem_cons_self ..) uT ⟨_, _, g_sm, b_sm, k_sm, m_sm⟩ ⟨_, _, g_Vn, b_Vn, k_Vn, m_Vn⟩ ⟨_, _, g_Lw, b_Lw, k_Lw, m_Lw⟩ ⟨_, _, g_Ls, b_Ls, k_Ls, m_Ls⟩ ⟨_, _, g_Be, b_Be, kb_Be F_Be, ⟨a_Be, i_Be, k_Be⟩⟩ ⟨_, _, g_Wa, b_Wa, kb_Wa F_Wa, ⟨a_Wa, i_Wa, k_Wa⟩⟩ ⟨_, _, g_Si, b_Si, kb_Si F_Si, ⟨a_Si, i_Si, k_Si⟩⟩
  have g_Ref : FnOk l.prog w K mg base CX0 9 f_Ref _ ["made", "valley"] (spRef C (TT2 TPT TPR)) := ok_ref l_Ref c_Ref VT0.cl B MF F_met b_met m_met TBR (List.mem_cons_of_mem _ (List.mem_cons_self ..)) uR ⟨_, _, g_sm6, b_sm, k_sm, m_sm⟩ ⟨_, _, g_Odd, b_Odd, k_Odd, m_Odd⟩ ⟨_, _, g_Be, b_Be, kb_Be F_Be, ⟨a_Be, i_Be, k_Be⟩⟩ ⟨_, _, g_Wa, b_Wa, kb_Wa F_Wa, ⟨a_Wa, i_Wa, k_Wa⟩⟩ ⟨_, _, g_Si, b_Si, kb_Si F_Si, ⟨a_Si, i_Si, k_Si⟩⟩
  exact ok_law F_law B y_range y_min y_max ⟨_, _, g_spring, b_spring, k_spring, m_spring⟩ ⟨_, _, g_VV, b_VV, k_VV, m_VV⟩ ⟨_, _, g_VM, b_VM, k_VM, m_VM⟩ ⟨_, _, g_pick, b_pick, k_pick, m_pick⟩ ⟨_, _, g_Two, b_Two, k_Two, m_Two⟩ ⟨_, _, g_Ref, b_Ref, k_Ref, m_Ref⟩
end K1
end
-- NHead
open PySem PySem.W PyProof.Rows
set_option Elab.async false
set_option maxRecDepth 100000 in
set_option maxHeartbeats 0 in
theorem PySem.Challenge.cw_feasted_k02_whole_sides_holds : PySem.Challenge.rw_feasted_k02_whole_sides.Holds := by
  w_on; o_law; k_head; (case hw => w_witness2)
  k_fill
  refine LamX.walk_ofTs (l := PySem.Challenge.rw_feasted_k02_whole_sides) (n := 63) (k := 10) (x := "script") (CX := fun _ => C8.CX0) rfl (by decide) rfl ⟨rfl, by decide, by decide⟩ (fun w h Y => PySem.W.km_in_of Y) ?F (fun _ _ _ _ _ z => z)
  case F =>
    intro w mg fa h Y KX G hmg
    refine' K1.all_mk KX G hmg (PySem.W.km_tabs_of Y _ (List.mem_cons_of_mem _ (List.mem_cons_self ..))) (PySem.W.km_tabs_of Y _ (List.mem_cons_self ..)) ?a_isInt ?l_isInt ?c_isInt ?k_isInt ?a_fromOne ?l_fromOne ?c_fromOne ?k_fromOne ?a_isList ?l_isList ?c_isList ?k_isList ?a_isPair ?l_isPair ?c_isPair ?k_isPair ?a_isName ?l_isName ?c_isName ?k_isName ?a_draw ?l_draw ?c_draw ?k_draw ?a_pick ?l_pick ?c_pick ?k_pick ?a_mixed ?l_mixed ?c_mixed ?k_mixed ?a_ND ?l_ND ?c_ND ?k_ND ?a_NH ?l_NH ?c_NH ?k_NH ?a_NR ?l_NR ?c_NR ?k_NR ?a_keys ?l_keys ?c_keys ?k_keys ?a_lead ?l_lead ?c_lead ?k_lead ?a_BW ?l_BW ?c_BW ?k_BW ?a_NB ?l_NB ?c_NB ?k_NB ?a_spring ?l_spring ?c_spring ?k_spring ?a_VN ?l_VN ?c_VN ?k_VN ?a_VRo ?l_VRo ?c_VRo ?k_VRo ?a_VV ?l_VV ?c_VV ?k_VV ?a_lo ?l_lo ?c_lo ?k_lo ?a_VM ?l_VM ?c_VM ?k_VM ?a_sm ?l_sm ?c_sm ?k_sm ?a_Vn ?l_Vn ?c_Vn ?k_Vn ?a_Odd ?l_Odd ?c_Odd ?k_Odd ?a_met ?l_met ?c_met ?k_met ?a_Lw ?l_Lw ?c_Lw ?k_Lw ?a_Ls ?l_Ls ?c_Ls ?k_Ls ?a_Two ?l_Two ?c_Two ?k_Two ?a_Ref ?l_Ref ?c_Ref ?k_Ref ?a_law ?l_law ?c_law ?k_law ?aC ?aCH ?aCR ?aCD ?aCN ?aCO ?aCF ?a_VI ?i_VI ?l_VI ?c_VI ?k_VI ?a_Be ?i_Be ?l_Be ?c_Be ?k_Be ?a_Wa ?i_Wa ?l_Wa ?c_Wa ?k_Wa ?a_Si ?i_Si ?l_Si ?c_Si ?k_Si ?a_Is ?i_Is ?l_Is ?c_Is ?k_Is ?a_Ne ?i_Ne ?l_Ne ?c_Ne ?k_Ne ?a_Pl ?i_Pl ?l_Pl ?c_Pl ?k_Pl ?a_Nr ?i_Nr ?l_Nr ?c_Nr ?k_Nr ?a_iH ?i_iH ?l_iH ?c_iH ?k_iH ?a_iR ?i_iR ?l_iR ?c_iR ?k_iR ?a_iD ?i_iD ?l_iD ?c_iD ?k_iD ?a_iN ?i_iN ?l_iN ?c_iN ?k_iN ?a_iO ?i_iO ?l_iO ?c_iO ?k_iO ?pg ?hd ?po ?sa ?mk ?kc ?n1 ?n2 ?n3 ?n4 ?n5 ?n6 ?fsp ?frd ?fin ?xCH ?rCH ?saCH ?exCH ?tyCH ?kpCH ?inCH_index ?ty_iH ?xCR ?rCR ?saCR ?exCR ?tyCR ?kpCR ?inCR_index ?ty_iR ?xCD ?rCD ?saCD ?exCD ?tyCD ?kpCD ?inCD_index ?ty_iD ?xCN ?rCN ?saCN ?exCN ?tyCN ?kpCN ?inCN_house ?ty_iN ?xCO ?rCO ?saCO ?exCO ?tyCO ?kpCO ?inCO_one ?inCO_other ?ty_iO ?gaCN ?ggCN ?hdCN ?gaCO ?ggCO ?hdCO ?em_nn ?em_on ?em_oo ?sgL ?sgF ?sgN ?z_isinstance ?z_int ?z_bool ?z_str ?z_list ?z_tuple ?z_dict ?z_len ?z_all ?z_range ?z_enumerate ?z_set ?z_min ?z_max ?z_zip ?z_sorted ?tpNT ?tpNR ?tpCT ?tpCR ?tpne
    (case a_isInt => (k_is))
    (case l_isInt => (k_is))
    (case c_isInt => (k_is))
    (case k_isInt => (k_is))
    (case a_fromOne => (k_is))
    (case l_fromOne => (k_is))
    (case c_fromOne => (k_is))
    (case k_fromOne => (k_is))
    (case a_isList => (k_is))
    (case l_isList => (k_is))
    (case c_isList => (k_is))
    (case k_isList => (k_is))
    (case a_isPair => (k_is))
    (case l_isPair => (k_is))
    (case c_isPair => (k_is))
    (case k_isPair => (k_is))
    (case a_isName => (k_is))
    (case l_isName => (k_is))
    (case c_isName => (k_is))
    (case k_isName => (k_is))
    (case a_draw => (k_is))
    (case l_draw => (k_is))
    (case c_draw => (k_is))
    (case k_draw => (k_is))
    (case a_pick => (k_is))
    (case l_pick => (k_is))
    (case c_pick => (k_is))
    (case k_pick => (k_is))
    (case a_mixed => (k_is))
    (case l_mixed => (k_is))
    (case c_mixed => (k_is))
    (case k_mixed => (k_is))
    (case a_ND => (k_is))
    (case l_ND => (k_is))
    (case c_ND => (k_is))
    (case k_ND => (k_is))
    (case a_NH => (k_is))
    (case l_NH => (k_is))
    (case c_NH => (k_is))
    (case k_NH => (k_is))
    (case a_NR => (k_is))
    (case l_NR => (k_is))
    (case c_NR => (k_is))
    (case k_NR => (k_is))
    (case a_keys => (k_is))
    (case l_keys => (k_is))
    (case c_keys => (k_is))
    (case k_keys => (k_is))
    (case a_lead => (k_is))
    (case l_lead => (k_is))
    (case c_lead => (k_is))
    (case k_lead => (k_is))
    (case a_BW => (k_is))
    (case l_BW => (k_is))
    (case c_BW => (k_is))
    (case k_BW => (k_is))
    (case a_NB => (k_is))
    (case l_NB => (k_is))
    (case c_NB => (k_is))
    (case k_NB => (k_is))
    (case a_spring => (k_is))
    (case l_spring => (k_is))
    (case c_spring => (k_is))
    (case k_spring => (k_is))
    (case a_VN => (k_is))
    (case l_VN => (k_is))
    (case c_VN => (k_is))
    (case k_VN => (k_is))
    (case a_VRo => (k_is))
    (case l_VRo => (k_is))
    (case c_VRo => (k_is))
    (case k_VRo => (k_is))
    (case a_VV => (k_is))
    (case l_VV => (k_is))
    (case c_VV => (k_is))
    (case k_VV => (k_is))
    (case a_lo => (k_is))
    (case l_lo => (k_is))
    (case c_lo => (k_is))
    (case k_lo => (k_is))
    (case a_VM => (k_is))
    (case l_VM => (k_is))
    (case c_VM => (k_is))
    (case k_VM => (k_is))
    (case a_sm => (k_is))
    (case l_sm => (k_is))
    (case c_sm => (k_is))
    (case k_sm => (k_is))
    (case a_Vn => (k_is))
    (case l_Vn => (k_is))
    (case c_Vn => (k_is))
    (case k_Vn => (k_is))
    (case a_Odd => (k_is))
    (case l_Odd => (k_is))
    (case c_Odd => (k_is))
    (case k_Odd => (k_is))
    (case a_met => (k_is))
    (case l_met => (k_is))
    (case c_met => (k_is))
    (case k_met => (k_is))
    (case a_Lw => (k_is))
    (case l_Lw => (k_is))
    (case c_Lw => (k_is))
    (case k_Lw => (k_is))
    (case a_Ls => (k_is))
    (case l_Ls => (k_is))
    (case c_Ls => (k_is))
    (case k_Ls => (k_is))
    (case a_Two => (k_is))
    (case l_Two => (k_is))
    (case c_Two => (k_is))
    (case k_Two => (k_is))
    (case a_Ref => (k_is))
    (case l_Ref => (k_is))
    (case c_Ref => (k_is))
    (case k_Ref => (k_is))
    (case a_law => (k_is))
    (case l_law => (k_is))
    (case c_law => (k_is))
    (case k_law => (k_is))
    (case aC => (k_is))
    (case aCH => (k_is))
    (case aCR => (k_is))
    (case aCD => (k_is))
    (case aCN => (k_is))
    (case aCO => (k_is))
    (case aCF => (k_is))
    (case a_VI => (k_is))
    (case i_VI => (k_is))
    (case l_VI => (k_is))
    (case c_VI => (k_is))
    (case k_VI => (k_is))
    (case a_Be => (k_is))
    (case i_Be => (k_is))
    (case l_Be => (k_is))
    (case c_Be => (k_is))
    (case k_Be => (k_is))
    (case a_Wa => (k_is))
    (case i_Wa => (k_is))
    (case l_Wa => (k_is))
    (case c_Wa => (k_is))
    (case k_Wa => (k_is))
    (case a_Si => (k_is))
    (case i_Si => (k_is))
    (case l_Si => (k_is))
    (case c_Si => (k_is))
    (case k_Si => (k_is))
    (case a_Is => (k_is))
    (case i_Is => (k_is))
    (case l_Is => (k_is))
    (case c_Is => (k_is))
    (case k_Is => (k_is))
    (case a_Ne => (k_is))
    (case i_Ne => (k_is))
    (case l_Ne => (k_is))
    (case c_Ne => (k_is))
    (case k_Ne => (k_is))
    (case a_Pl => (k_is))
    (case i_Pl => (k_is))
    (case l_Pl => (k_is))
    (case c_Pl => (k_is))
    (case k_Pl => (k_is))
    (case a_Nr => (k_is))
    (case i_Nr => (k_is))
    (case l_Nr => (k_is))
    (case c_Nr => (k_is))
    (case k_Nr => (k_is))
    (case a_iH => (k_is))
    (case i_iH => (k_is))
    (case l_iH => (k_is))
    (case c_iH => (k_is))
    (case k_iH => (k_is))
    (case a_iR => (k_is))
    (case i_iR => (k_is))
    (case l_iR => (k_is))
    (case c_iR => (k_is))
    (case k_iR => (k_is))
    (case a_iD => (k_is))
    (case i_iD => (k_is))
    (case l_iD => (k_is))
    (case c_iD => (k_is))
    (case k_iD => (k_is))
    (case a_iN => (k_is))
    (case i_iN => (k_is))
    (case l_iN => (k_is))
    (case c_iN => (k_is))
    (case k_iN => (k_is))
    (case a_iO => (k_is))
    (case i_iO => (k_is))
    (case l_iO => (k_is))
    (case c_iO => (k_is))
    (case k_iO => (k_is))
    (case pg => (k_is))
    (case hd => (k_is))
    (case po => (k_is))
    (case sa => (k_is))
    (case mk => (k_is))
    (case kc => (k_is))
    (case n1 => (k_is))
    (case n2 => (k_is))
    (case n3 => (k_is))
    (case n4 => (k_is))
    (case n5 => (k_is))
    (case n6 => (k_is))
    (case fsp => (k_is))
    (case frd => (k_is))
    (case fin => (k_is))
    (case xCH => (k_is))
    (case rCH => (first | kernel_rfl | decide +kernel))
    (case saCH => (k_is))
    (case exCH => (k_is))
    (case tyCH => (k_is))
    (case kpCH => (k_is))
    (case inCH_index => (k_is))
    (case ty_iH => (k_is))
    (case xCR => (k_is))
    (case rCR => (first | kernel_rfl | decide +kernel))
    (case saCR => (k_is))
    (case exCR => (k_is))
    (case tyCR => (k_is))
    (case kpCR => (k_is))
    (case inCR_index => (k_is))
    (case ty_iR => (k_is))
    (case xCD => (k_is))
    (case rCD => (first | kernel_rfl | decide +kernel))
    (case saCD => (k_is))
    (case exCD => (k_is))
    (case tyCD => (k_is))
    (case kpCD => (k_is))
    (case inCD_index => (k_is))
    (case ty_iD => (k_is))
    (case xCN => (k_is))
    (case rCN => (first | kernel_rfl | decide +kernel))
    (case saCN => (k_is))
    (case exCN => (k_is))
    (case tyCN => (k_is))
    (case kpCN => (k_is))
    (case inCN_house => (k_is))
    (case ty_iN => (k_is))
    (case xCO => (k_is))
    (case rCO => (first | kernel_rfl | decide +kernel))
    (case saCO => (k_is))
    (case exCO => (k_is))
    (case tyCO => (k_is))
    (case kpCO => (k_is))
    (case inCO_one => (k_is))
    (case inCO_other => (k_is))
    (case ty_iO => (k_is))
    (case gaCN => (k_is))
    (case ggCN => (k_is))
    (case hdCN => (k_is))
    (case gaCO => (k_is))
    (case ggCO => (k_is))
    (case hdCO => (k_is))
    (case em_nn => (kernel_rfl))
    (case em_on => (kernel_rfl))
    (case em_oo => (kernel_rfl))
    (case sgL => (k_is))
    (case sgF => (k_is))
    (case sgN => (k_is))
    (case z_isinstance => (k_is))
    (case z_int => (k_is))
    (case z_bool => (k_is))
    (case z_str => (k_is))
    (case z_list => (k_is))
    (case z_tuple => (k_is))
    (case z_dict => (k_is))
    (case z_len => (k_is))
    (case z_all => (k_is))
    (case z_range => (k_is))
    (case z_enumerate => (k_is))
    (case z_set => (k_is))
    (case z_min => (k_is))
    (case z_max => (k_is))
    (case z_zip => (k_is))
    (case z_sorted => (k_is))
    (case tpNT => (kernel_rfl))
    (case tpNR => (kernel_rfl))
    (case tpCT => (kernel_rfl))
    (case tpCR => (kernel_rfl))
    (case tpne => (kernel_rfl))
