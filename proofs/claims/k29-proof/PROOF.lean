import PyProof.Rows.All
import Wide.All
import OpenK.AllK
import Wide.FinOn
import HandS.ForExc
import HandS.SetKeys
import PyProof.Rows.SetFrom
import HandS.ForMost
import HandS.Wide
import HandS.IsInst
import PySem.Challenge.RW_feasted_k29_whole_lists_at_gates
import HandS.ExcInit
import HandS.Walk
import KE.GoesEnum
import KE.GoesMore
import HandS.Iter
import HandS.DictComp
import PyProof.IsiBase
import PyProof.IsiH_set
import HandS.OwnEq
import HandS.NamedTupSort
import HandS.Style
import HandS.ListItems
import HandS.DictTup
import HandS.Zip
import HandS.TryMany
import HandS.ExcField
import HandS.Dict
import HandS.DictEq
import KE.KDictPairs
import HandS.MakeKwOnly
import HandS.Lambda
import PyProof.ReprRoads
import HandS.Base
import HandS.Call
import HandS.List
import HandS.Words
import HandS.EndTab
import HandS.Deep
import HandS.Nested
import PyProof.NeData
import KE.KNestM
-- WSet
section
set_option Elab.async false
set_option linter.all false
set_option maxRecDepth 100000
set_option maxHeartbeats 3200000
/-! set(xs), xs a list of ints and texts: membership, and how many -/
namespace W0
open PySem PySem.Spec
/-- each once, in the order in which they come first -/
def once {α : Type} [DecidableEq α] : List α → List α → List α
  | acc, [] => acc
  | acc, x :: xs => once (if x ∈ acc then acc else acc ++ [x]) xs
/-- whether it is one of these -/
def inB {α : Type} [DecidableEq α] (xs : List α) (k : α) : Bool := decide (k ∈ xs)
theorem inB_iff {α : Type} [DecidableEq α] {xs : List α} {k : α} : inB xs k = true ↔ k ∈ xs := decide_eq_true_iff
theorem once_snoc {α : Type} [DecidableEq α] (x : α) : ∀ (xs acc : List α), once acc (xs ++ [x]) = if x ∈ once acc xs then once acc xs else once acc xs ++ [x]
  | [], acc => rfl
  | y :: ys, acc => once_snoc x ys _
theorem mem_once {α : Type} [DecidableEq α] (x : α) : ∀ (xs acc : List α), x ∈ once acc xs ↔ x ∈ acc ∨ x ∈ xs
  | [], acc => by simp [once]
  | y :: ys, acc => by
    show x ∈ once (if y ∈ acc then acc else acc ++ [y]) ys ↔ _
    rw [mem_once x ys]
    by_cases h : y ∈ acc
    · rw [if_pos h, List.mem_cons]
      constructor
      · rintro (h1 | h1)
        · exact .inl h1
        · exact .inr (.inr h1)
      · rintro (h1 | rfl | h1)
        · exact .inl h1
        · exact .inl h
        · exact .inr h1
    · rw [if_neg h, List.mem_append, List.mem_singleton, List.mem_cons, or_assoc]
theorem once_len {α : Type} [DecidableEq α] : ∀ (xs acc : List α), (once acc xs).length ≤ acc.length + xs.length
  | [], acc => Nat.le_refl _
  | y :: ys, acc => by
    have := once_len ys (if y ∈ acc then acc else acc ++ [y])
    show (once _ ys).length ≤ _
    have l : (if y ∈ acc then acc else acc ++ [y]).length ≤ acc.length + 1 := by
      split
      · omega
      · rw [List.length_append]; exact Nat.le_refl _
    rw [List.length_cons]
    omega
theorem once_nodup {α : Type} [DecidableEq α] : ∀ (xs acc : List α), (acc ++ xs).Nodup → once acc xs = acc ++ xs
  | [], acc, _ => by simp [once]
  | y :: ys, acc, h => by
    have hy : y ∉ acc := fun m => by
      rw [List.nodup_append] at h
      exact h.2.2 y m y (List.mem_cons_self ..) rfl
    show once (if y ∈ acc then acc else acc ++ [y]) ys = _
    have e : acc ++ y :: ys = (acc ++ [y]) ++ ys := by simp
    rw [if_neg hy, once_nodup ys (acc ++ [y]) (by rw [← e]; exact h), e]
theorem once_short {α : Type} [DecidableEq α] : ∀ (xs acc : List α), acc.Nodup → ¬ (acc ++ xs).Nodup → (once acc xs).length < acc.length + xs.length
  | [], acc, h, n => absurd (by simpa using h) n
  | y :: ys, acc, h, n => by
    show (once (if y ∈ acc then acc else acc ++ [y]) ys).length < _
    rw [List.length_cons]
    by_cases hy : y ∈ acc
    · rw [if_pos hy]
      have := once_len ys acc
      omega
    · rw [if_neg hy]
      have e : acc ++ y :: ys = (acc ++ [y]) ++ ys := by simp
      have h2 : (acc ++ [y]).Nodup := List.nodup_append.mpr ⟨h, by simp, fun a ha b hb => by
        rw [List.mem_singleton.mp hb]
        exact fun z => hy (z ▸ ha)⟩
      have := once_short ys (acc ++ [y]) h2 (by rw [← e]; exact n)
      rw [List.length_append] at this
      simp at this
      omega
section
variable {prog : Program} {w : World} {K : Type} [DecidableEq K] {knd : KeyKind prog w K}
/-- the set at a holds just these -/
def Holds (knd : KeyKind prog w K) (h : Heap) (a : Addr) (ks : List K) : Prop := h.SetOf knd a (inB ks) (once [] ks).length
theorem setOf_same {h : Heap} {a : Addr} {S S' : K → Bool} {n n' : Nat} (x : h.SetOf knd a S n) (e : ∀ k, S k = S' k) (en : n = n') : h.SetOf knd a S' n' := by
  cases (funext e : S = S')
  cases en
  exact x
theorem Holds.keep {h h' : Heap} {a : Addr} {ks : List K} (x : Holds knd h a ks) (k : ∀ o, h.get? a = some o → h'.get? a = some o) : Holds knd h' a ks := by
  have ⟨o, es, ep, t, ho, r⟩ := x
  exact ⟨o, es, ep, t, k o ho, r⟩
theorem Holds.more {h : Heap} {a : Addr} {ks : List K} {k : K} (x : h.SetOf knd a (fun j => inB ks j || decide (j = k)) (if inB ks k then (once [] ks).length else (once [] ks).length + 1)) : Holds knd h a (ks ++ [k]) := by
  refine setOf_same x (fun j => ?_) ?_
  · unfold inB
    rw [← Bool.decide_or]
    exact decide_eq_decide.mpr (by rw [List.mem_append, List.mem_singleton])
  · rw [once_snoc]
    have e : k ∈ once [] ks ↔ k ∈ ks := by rw [mem_once]; simp
    by_cases m : k ∈ ks
    · rw [if_pos (inB_iff.mpr m), if_pos (e.mpr m)]
    · rw [if_neg (fun z => m (e.mp z)), List.length_append]
      have : ¬ inB ks k = true := fun z => m (inB_iff.mp z)
      rw [if_neg this]
      rfl
variable {A : Around} {I : Addr} {fp wr : List Addr} {G : Array GenState → Array GenState → Prop} {n : Nat} {Pv : Nat → Value → Prop} {St : Nat → Shared → Prop} {R : Result → Shared → Prop}
/-- the loop of an update, from the i-th on -/
theorem loop_keys (W : WalksS prog w A.in1 I fp wr G n Pv St) {S : Addr} (off : S ∉ fp) {ks : List K} (lk : ks.length = n) (room : n + 1 < scanBound)
    (key : ∀ (i : Nat) (v : Value), Pv i v → ∃ k, ks[i]? = some k ∧ knd.is k v = true ∧ v.scannable = true) :
    ∀ (m i : Nat) (s : Shared), i + m = n → St i s → Holds knd s.heap S (ks.take i) → (∀ s', Moved (S :: wr) G s s' → Holds knd s'.heap S ks → R (.ok (.ret .none)) s') →
      codeAny (model prog w) A (.builtin "set.update.loop" ⟨[.ref S, .ref I], []⟩) R s
  | m, i, s, hm, st, hs, fin => by
    have wide : ∀ b, b ∈ wr → b ∈ S :: wr := fun b h => List.mem_cons_of_mem S h
    have offw : S ∉ wr := fun h => off (W.sub _ h)
    refine codeAny_builtin PyProof.Rows.F.entry_set_update_loop (by
      rw [Around.under_plainId PyProof.Rows.F.plain_set_update_loop _]
      show wpAny _ A.in1 (pyNext (.ref I) >>= _) _ _ s
      refine wpAny_bind ?_
      cases m with
      | zero =>
        have ein : i = n := by omega
        subst ein
        refine W.done s _ _ st fun s' mv => ?_
        show wpAny _ A.in1 (ret Value.none) _ _ s'
        have full : ks.take i = ks := by rw [← lk]; exact List.take_length
        rw [full] at hs
        exact wpAny_pure (fin s' (mv.mono wide) (hs.keep fun o e => mv.heap S o offw e))
      | succ m =>
        refine W.item i s _ _ (by omega) st fun v s' pv st' mv => ?_
        obtain ⟨k, hk, isk, sc⟩ := key i v pv
        have hs' := hs.keep fun o e => mv.heap S o offw e
        show wpAny _ A.in1 (holding [v] (setAdd S v) >>= _) _ _ s'
        refine wpAny_bind (wpAny_holding (by
          unfold setAdd
          refine wpAny_holding (wpAny_bind (knd.pyHash isk ?_))
          have small : (once [] (ks.take i)).length + 1 < scanBound := by
            have l1 := once_len (ks.take i) []
            have l2 : (ks.take i).length ≤ n := by rw [← lk]; exact List.length_take_le' ..
            simp only [List.length_nil] at l1
            omega
          refine wpAny_setAddHashed_of (knd := knd) (s := { s' with toks := s'.toks + 1 }) isk sc hs' small fun h' same grown => ?_
          have next : Holds knd h' S (ks.take (i + 1)) := by
            rw [List.take_succ, hk]
            exact Holds.more grown
          have st2 := W.frame (i + 1) s' h' (s'.toks + 1) st' (Nat.le_succ _) fun b hb o e => (same.2 b (fun z => off (z ▸ hb))).trans e
          refine wpAny_pure ⟨plainId_quiet PyProof.Rows.F.plain_set_update_loop _, loop_keys W off lk room key m (i + 1) _ (by omega) st2 next fun s2 mv2 all => ?_⟩
          refine fin s2 (Moved.trans W.gtrans ((mv.mono wide).then_heap (Nat.le_succ _) fun b o nb e => ?_) mv2) all
          exact (same.2 b (fun z => nb (z ▸ List.mem_cons_self ..))).trans e)))
end
end W0
namespace W0
open PySem PySem.Spec
section
variable {prog : Program} {w : World} {K : Type} [DecidableEq K] {knd : KeyKind prog w K} {A : Around} {E : Value → Shared → Prop} {s : Shared}
/-- an empty set, just made on top of a heap -/
abbrev emptyOn (h : Heap) (led : Bool) : Heap := h.push { cls := .type "set", dict := none, data := .set #[] 0 (.fresh 0 0 led) }
theorem emptyOn_at (h : Heap) (led : Bool) : (emptyOn h led).get? h.objs.size = some { cls := .type "set", dict := none, data := .set #[] 0 (.fresh 0 0 led) } := Heap.get?_push_size _ rfl
/-- what its filling ends in -/
def Filled (knd : KeyKind prog w K) (s : Shared) (ks : List K) (v : Value) (s2 : Shared) : Prop :=
  v = .none ∧ ∃ h' tk, s2 = { s with heap := h', toks := tk } ∧ Holds knd h' s.heap.objs.size ks ∧ ∀ b o, s.heap.get? b = some o → h'.get? b = some o
theorem fill_keys {l : Addr} {items : Array Value} {ks : List K} (led : Bool) (hh : A.handled = none) (hl : s.heap.IsList l items) (lk : ks.length = items.size) (room : items.size + 1 < scanBound)
    (key : ∀ (i : Nat) (v : Value), items[i]? = some v → ∃ k, ks[i]? = some k ∧ knd.is k v = true ∧ v.scannable = true) :
    codeAny (model prog w) A (.call (.builtin "set.__init__") ⟨[.ref s.heap.objs.size, .ref l], []⟩) (wants (Filled knd s ks) E) { s with heap := emptyOn s.heap led } := by
  have isSet : Shared.TypeIs { s with heap := emptyOn s.heap led } (.ref s.heap.objs.size) "set" := ⟨_, emptyOn_at s.heap led, rfl⟩
  refine codeAny_call_builtin F.called_set.init.plain F.entry_set_init (check_set_init_1 isSet ?_)
  have ⟨ol, hol, hcl, nl, hdl⟩ := hl
  obtain ⟨ocls, odict, odata, oslots⟩ := ol
  cases hcl
  cases hdl
  have there := Heap.get?_push_of_some { cls := .type "set", dict := none, data := .set #[] 0 (.fresh 0 0 led) } hol
  have asList : (emptyOn s.heap led).IsList l items := ⟨_, there, rfl, nl, rfl⟩
  have noSub := F.sub_list_set
  have noSubF := F.sub_list_frozenset
  have noDict : (Value.type "list" == Value.type "dict") = false := by decide
  have low : l < s.heap.objs.size := Heap.lt_size hol
  unfold Builtin.«set.__init__» noKeywords Builtin.Frozenset.updateFrom
  generalize walkOf : pyIter = PI
  wp_walk
  subst walkOf
  refine wpAny_pyIter_list asList (wpAny_bind (wpAny_runValue ?_))
  have top : (emptyOn s.heap led).objs.size = s.heap.objs.size + 1 := Heap.size_push ..
  have ne1 : l ≠ (emptyOn s.heap led).objs.size := Nat.ne_of_lt (by rw [top]; exact Nat.lt_succ_of_lt low)
  have off : s.heap.objs.size ∉ [(emptyOn s.heap led).objs.size, l] := by
    rw [top]
    simp only [List.mem_cons, List.not_mem_nil, or_false, not_or]
    exact ⟨Nat.ne_of_lt (Nat.lt_succ_self _), (Nat.ne_of_lt low).symm⟩
  have quiet : A.in1.in1.handled = none := by simp [hh]
  have atOnce : Holds knd ((emptyOn s.heap led).push { cls := .type "list_iterator", data := .fields #[.ref l, .int 0 0] }) s.heap.objs.size (ks.take 0) :=
    setOf_same ((PyProof.Rows.setObjOf_fresh (knd := knd) led).setOf (Heap.get?_push_of_some _ (emptyOn_at s.heap led)) (by unfold scanBound; omega)) (fun _ => rfl) rfl
  refine loop_keys ((Walks.list quiet _ l ne1 items).toS) off lk room key items.size 0 _ (Nat.zero_add _) ?_ ?_ fun s' mv all => ?_
  · exact ⟨⟨_, Heap.get?_push_size _ rfl, rfl, rfl⟩, asList.push _⟩
  · exact atOnce
  obtain ⟨h', g', d', tk', os'⟩ := s'
  cases show g' = s.gens from mv.gens
  cases show d' = s.drawn from mv.drawn
  cases show os' = s.os from mv.os
  show wpAny _ _ _ _ _ _
  refine wpAny_pure (show wpAny _ _ (ret Value.none) _ _ _ from wpAny_pure ⟨rfl, h', tk', rfl, all, fun b o e => ?_⟩)
  have lt := Heap.lt_size e
  refine mv.heap b o ?_ (Heap.get?_push_of_some _ (Heap.get?_push_of_some _ e))
  rw [top]
  simp only [List.mem_cons, List.not_mem_nil, or_false, not_or]
  exact ⟨Nat.ne_of_lt lt, Nat.ne_of_lt (Nat.lt_succ_of_lt lt)⟩
end
end W0
namespace W0
open PySem PySem.Spec
section
variable {prog : Program} {w : World} {K : Type} [DecidableEq K] {knd : KeyKind prog w K} {A : Around} {E : Value → Shared → Prop} {s : Shared}
/-- set(xs) of a list of such keys -/
theorem set_keys {l : Addr} {items : Array Value} {ks : List K} {Q : Value → Shared → Prop} (hh : A.handled = none) (hl : s.heap.IsList l items) (lk : ks.length = items.size) (room : items.size + 1 < scanBound)
    (key : ∀ (i : Nat) (v : Value), items[i]? = some v → ∃ k, ks[i]? = some k ∧ knd.is k v = true ∧ v.scannable = true)
    (h : ∀ (h' : Heap) (tk : Nat), Holds knd h' s.heap.objs.size ks → (∀ b o, s.heap.get? b = some o → h'.get? b = some o) → Q (.ref s.heap.objs.size) { s with heap := h', toks := tk }) :
    wpAny (model prog w) A (call (.type "set") [.ref l]) Q E s := by
  have ⟨_, _, order⟩ := F.called_set.mro
  have made := F.called_set.made
  have below := F.called_set.sub
  have other := F.called_set.notType
  have can := F.called_set.canCreate
  have checked := F.typeCall_set_1 (.ref l)
  have found := F.called_set.init.lookup
  have bound := F.called_set.init.bind (.ref s.heap.objs.size)
  refine wpAny_call (codeAny_of_tree (show wpAny _ _ (callAny (.type "set") _) _ _ _ from wpAny_pure ⟨Code.quiet_builtin _ (by decide +kernel), codeAny_builtin F.entry_type_call ?_⟩))
  rw [Around.under_plain (weight_type_call_type "set" [.ref l] []) rfl]
  repeat (any_goals (first | wp_step | assumption))
  refine codeAny_mono (code_set_new_1 (.ref l) (E := E) (Q₁ := fun v s1 => ∃ led : Bool, v = .ref s.heap.objs.size ∧ s1 = { s with heap := emptyOn s.heap led }) fun led => ⟨led, rfl, rfl⟩) fun r s1 hr => ?_
  rcases r with e | fl
  · exact hr
  rcases fl with _ | _ | _ | v
  all_goals first | exact hr.elim | skip
  obtain ⟨led, e1, e2⟩ := hr
  subst e1 e2
  have isSet : Shared.TypeIs { s with heap := emptyOn s.heap led } (.ref s.heap.objs.size) "set" := ⟨_, emptyOn_at s.heap led, rfl⟩
  repeat (any_goals (first | wp_step | assumption))
  refine codeAny_mono (fill_keys (E := E) led (by exact hh) hl lk room key) fun r2 s2 hr2 => ?_
  rcases r2 with e | fl2
  · exact hr2
  rcases fl2 with _ | _ | _ | v2
  all_goals first | exact hr2.elim | skip
  obtain ⟨e1, h', tk, e2, all, keep⟩ := hr2
  subst e1 e2
  repeat (any_goals (first | wp_step | assumption))
  exact h h' tk all keep
end
end W0
end
-- WSetH
section
set_option Elab.async false
set_option linter.all false
set_option maxRecDepth 100000
set_option maxHeartbeats 1000000
/-! words: set(xs), len of a set -/
namespace W0
open PySem PySem.Spec PyProof.Rows L2
abbrev setOn (P : Program) (w : World) (p : Addr) (ks : List Key) : HO := SetK P w p (inB ks) (once [] ks).length
def rSetL (K : PySem.W.Frag) (P : Program) (w : World) : List V → Hp → VK → Prop := fun xs H Q => ∃ (l : Addr) (ks : List Key), xs = [.ref l] ∧ SqL K H l (ks.map kV) ∧ ks.length ≤ 1000 ∧ ∀ p, H p = none → Q (.ref p) (L2.upd H p (setOn P w p ks))
theorem key_at {ks : List Key} : ∀ {us : List Value}, Vals (ks.map kV) us → ∀ (i : Nat) (v : Value), us[i]? = some v → ∃ k, ks[i]? = some k ∧ RelV (kV k) v := by
  induction ks with
  | nil =>
    intro us r i v h
    cases r
    simp at h
  | cons k ks ih =>
    intro us r i v h
    rw [List.map_cons] at r
    cases r with
    | cons r1 r2 =>
      cases i with
      | zero =>
        simp only [List.getElem?_cons_zero, Option.some.injEq] at h
        subst h
        exact ⟨k, rfl, r1⟩
      | succ i =>
        simp only [List.getElem?_cons_succ] at h
        exact ih r2 i v h
theorem cr_setL {X : Cx} (hc : X.calm = true) : CallR X (.type "set") (rSetL X.K X.prog X.w) := by
  intro pins s σ H xs us Q I r h
  obtain ⟨l, ks, rfl, sq, small, q⟩ := h
  obtain ⟨u, rfl, rx⟩ := vals1 r
  cases rx
  obtain ⟨its, rv, isL, _⟩ := I.list sq
  have ll : ks.length = its.toArray.size := by rw [List.size_toArray, ← rv.length, List.length_map]
  refine set_keys (knd := mixKind X.prog X.w) (ks := ks) (I.ok.hd hc) isL.isList ll (by rw [← ll]; exact Nat.lt_of_le_of_lt (Nat.succ_le_succ small) (by unfold scanBound; decide)) (fun i v hv => ?_) fun h' tk all keep => ?_
  · obtain ⟨k, e, rk⟩ := key_at rv i v (by simpa using hv)
    exact ⟨k, e, kV_is rk, key_scan rk⟩
  · exact ⟨.ref _, L2.upd H s.heap.objs.size (setOn X.prog X.w s.heap.objs.size ks), I.laid (t' := tk) keep (Nat.le_refl _) (setK_new all), rfl, q _ (I.hok.fresh (Nat.le_refl _))⟩
/-- len of a set -/
def rLenS (P : Program) (w : World) : List V → Hp → VK → Prop := fun xs H Q => ∃ (p : Addr) (S : Key → Bool) (n : Nat), xs = [.ref p] ∧ H p = some (SetK P w p S n) ∧ n ≤ 1000 ∧ Q (.int (n : Int)) H
theorem cr_lenS {X : Cx} : CallR X (.builtin "len") (rLenS X.prog X.w) := by
  intro pins s σ H xs us Q I r h
  obtain ⟨p, S, n, rfl, hp, small, q⟩ := h
  obtain ⟨u, rfl, rx⟩ := vals1 r
  cases rx
  obtain ⟨o, es, ep, t, ho, hex, hd, _, _, _, hf, hn⟩ := setK_get I hp
  exact call_len_set ho hex hd hf (by rw [hn]; omega) ⟨.int (n : Int), H, I.tok _, ⟨_, by rw [hn]⟩, q⟩
/-- how many there are once: as many as there are just if no two are one -/
theorem once_full {α : Type} [DecidableEq α] (xs : List α) : ((once [] xs).length = xs.length) ↔ xs.Nodup := by
  constructor
  · intro h
    by_cases n : xs.Nodup
    · exact n
    · have := once_short xs [] List.nodup_nil (by simpa using n)
      simp only [List.length_nil] at this
      omega
  · intro h
    rw [once_nodup xs [] (by simpa using h)]
    rfl
end W0
end
-- KBase
section
set_option Elab.async false
set_option linter.all false
set_option maxRecDepth 100000
set_option maxHeartbeats 4000000
namespace K1
open PySem PySem.Spec PyProof.Rows L2
def top (i : Nat) : Stmt := PySem.Challenge.pw_feasted_k29_whole_lists_at_gates.main.body.getD i (.Pass ⟨0, 0, 0, 0⟩)
abbrev sIsInt : Stmt := top 15
abbrev sFromOne : Stmt := top 17
abbrev sIsList : Stmt := top 18
abbrev sIsPair : Stmt := top 19
abbrev sIsName : Stmt := top 20
/-- a statement that is never reached -/
theorem ps_dead {X : Cx} {st : Stmt} : PS X st (fun _ _ _ => False) := ⟨fun _ _ _ _ _ _ h => h.elim⟩
theorem pe_dead {X : Cx} {e : Expr} : PE X e (fun _ _ _ => False) := ⟨fun _ _ _ _ _ _ h => h.elim⟩
/-- a power whose bits are below the model's line -/
def CPowX (i j : Int) : Prop := 0 ≤ j ∧ (Builtin.Int.intBits i : Int) * j ≤ 2 ^ 27
theorem op_powX {X : Cx} : OpR X (binaryOp .Pow) (rI CPowX fun i j => .int (i ^ j.toNat)) := opI fun _ _ _ _ _ _ _ hc q => pow_int hc.1 hc.2 q
theorem Same.upd {H : Hp} {p : Addr} {o : HO} (h : H p = none) : Same H (upd H p o) := fun b u e => by rw [upd_ne (ne_of_none e h)]; exact e
end K1
end
-- KKinds
section
set_option Elab.async false
set_option linter.all false
set_option maxRecDepth 100000
set_option maxHeartbeats 4000000
namespace K1
open PySem PySem.Spec PyProof.Rows L2
def letters : Str := "abcdefghijklmnopqrstuvwxyz"
def figures : Str := "0123456789"
def okSign (c : Nat) : Bool := decide (c ∈ letters.cps.toList) || decide (c ∈ figures.cps.toList)
def nameOk (s : Str) : Bool := decide (1 ≤ s.length) && (decide (s.length ≤ 8) && ((s.cps.toList.head?.any fun c => decide (c ∈ letters.cps.toList)) && s.cps.toList.all okSign))
/-- the types of the values that are asked of -/
def kinds : List String := ["int", "bool", "str", "NoneType", "list", "tuple", "dict"]
theorem TyX.ext {K : PySem.W.Frag} {H H' : Hp} {x : V} {t : Value} (h : TyX K H x t) (e : Same H H') : TyX K H' x t := by
  cases h with
  | base b =>
    refine .base ?_
    cases b with
    | non => exact .non
    | bl y => exact .bl y
    | int i => exact .int i
    | str y => exact .str y
    | flt y => exact .flt y
    | lst ea => exact .lst (e _ _ ea)
    | frz ea => exact .frz (e _ _ ea)
    | tup ea => exact .tup (e _ _ ea)
    | dK ea => exact .dK (e _ _ ea)
    | dT ea => exact .dT (e _ _ ea)
    | ins ea cl ha hn htk hm => exact .ins (e _ _ ea) cl ha hn htk hm
  | byt y => exact .byt y
  | set ea => exact .set (e _ _ ea)
  | kList a b => exact .kList a b
  | kTuple a b => exact .kTuple a b
  | kDict a b => exact .kDict a b
  | fTuple ea => exact .fTuple (e _ _ ea)
  | fDict ea => exact .fDict (e _ _ ea)
theorem kit_int {K : PySem.W.Frag} {t : String} (h : t ∈ kinds) : PySem.W.kitOne K (.type t) (.type "int") = some (decide (t = "int" ∨ t = "bool")) := by
  simp only [kinds, List.mem_cons, List.not_mem_nil, or_false] at h
  rcases h with rfl | rfl | rfl | rfl | rfl | rfl | rfl <;> exact kit_ty (by decide +kernel)
theorem kit_bool {K : PySem.W.Frag} {t : String} (h : t ∈ kinds) : PySem.W.kitOne K (.type t) (.type "bool") = some (decide (t = "bool")) := by
  simp only [kinds, List.mem_cons, List.not_mem_nil, or_false] at h
  rcases h with rfl | rfl | rfl | rfl | rfl | rfl | rfl <;> exact kit_ty (by decide +kernel)
theorem kit_str {K : PySem.W.Frag} {t : String} (h : t ∈ kinds) : PySem.W.kitOne K (.type t) (.type "str") = some (decide (t = "str")) := by
  simp only [kinds, List.mem_cons, List.not_mem_nil, or_false] at h
  rcases h with rfl | rfl | rfl | rfl | rfl | rfl | rfl <;> exact kit_ty (by decide +kernel)
theorem kit_list {K : PySem.W.Frag} {t : String} (h : t ∈ kinds) : PySem.W.kitOne K (.type t) (.type "list") = some (decide (t = "list")) := by
  simp only [kinds, List.mem_cons, List.not_mem_nil, or_false] at h
  rcases h with rfl | rfl | rfl | rfl | rfl | rfl | rfl <;> exact kit_ty (by decide +kernel)
theorem kit_tuple {K : PySem.W.Frag} {t : String} (h : t ∈ kinds) : PySem.W.kitOne K (.type t) (.type "tuple") = some (decide (t = "tuple")) := by
  simp only [kinds, List.mem_cons, List.not_mem_nil, or_false] at h
  rcases h with rfl | rfl | rfl | rfl | rfl | rfl | rfl <;> exact kit_ty (by decide +kernel)
theorem kit_dict {K : PySem.W.Frag} {t : String} (h : t ∈ kinds) : PySem.W.kitOne K (.type t) (.type "dict") = some (decide (t = "dict")) := by
  simp only [kinds, List.mem_cons, List.not_mem_nil, or_false] at h
  rcases h with rfl | rfl | rfl | rfl | rfl | rfl | rfl <;> exact kit_ty (by decide +kernel)
def isSeqT (t : String) : Bool := decide (t = "list") || decide (t = "tuple")
theorem kit_seq {K : PySem.W.Frag} {t : String} (h : t ∈ kinds) : PySem.W.kitAny K (.type t) [.type "list", .type "tuple"] = some (isSeqT t) := by
  unfold PySem.W.kitAny
  rw [kit_list h]
  unfold isSeqT
  by_cases e : t = "list"
  · rw [decide_eq_true e]; rfl
  · rw [decide_eq_false e]
    show PySem.W.kitAny K (.type t) [.type "tuple"] = _
    unfold PySem.W.kitAny
    rw [kit_tuple h]
    by_cases e2 : t = "tuple"
    · rw [decide_eq_true e2]; rfl
    · rw [decide_eq_false e2]; rfl
/-- a tracked list or tuple of just these -/
def SeqV (H : Hp) (v : V) (xs : List V) : Prop := ∃ p, v = .ref p ∧ (H p = some (.lst xs) ∨ H p = some (.tup xs))
theorem SeqV.ext {H H' : Hp} {v : V} {xs : List V} (h : SeqV H v xs) (e : Same H H') : SeqV H' v xs := by
  obtain ⟨p, rfl, h⟩ := h
  exact ⟨p, rfl, h.imp (e _ _) (e _ _)⟩
theorem SeqV.ty {K : PySem.W.Frag} {H : Hp} {v : V} {xs : List V} (h : SeqV H v xs) : ∃ t, TyX K H v (.type t) ∧ t ∈ kinds ∧ isSeqT t = true := by
  obtain ⟨p, rfl, h | h⟩ := h
  · exact ⟨"list", .base (.lst h), by decide, by decide⟩
  · exact ⟨"tuple", .base (.tup h), by decide, by decide⟩
theorem SeqV.sq {K : PySem.W.Frag} {H : Hp} {v : V} {xs : List V} (h : SeqV H v xs) : ∃ p, v = .ref p ∧ (SqL K H p xs ∨ SqT K H p xs) := by
  obtain ⟨p, rfl, h | h⟩ := h
  · exact ⟨p, rfl, .inl (SqL.of h)⟩
  · exact ⟨p, rfl, .inr (SqT.of h)⟩
/-- a value that is neither list nor tuple -/
def NoSeq (K : PySem.W.Frag) (H : Hp) (v : V) : Prop := ∃ t, TyX K H v (.type t) ∧ t ∈ kinds ∧ isSeqT t = false
theorem NoSeq.ext {K : PySem.W.Frag} {H H' : Hp} {v : V} (h : NoSeq K H v) (e : Same H H') : NoSeq K H' v := by
  obtain ⟨t, a, b⟩ := h
  exact ⟨t, TyX.ext a e, b⟩
abbrev V.isIntV : V → Bool | .int _ => true | _ => false
/-- an int, or a value of another type -/
def KnownV (K : PySem.W.Frag) (H : Hp) (v : V) : Prop := ∃ t, TyX K H v (.type t) ∧ t ∈ kinds
theorem KnownV.ext {K : PySem.W.Frag} {H H' : Hp} {v : V} (h : KnownV K H v) (e : Same H H') : KnownV K H' v := by
  obtain ⟨t, a, b⟩ := h
  exact ⟨t, TyX.ext a e, b⟩
/-! promises -/
def spIsInt (K : PySem.W.Frag) : Sp := fun vs H Q _ => ∃ (v : V) (t : String), vs = [v] ∧ TyX K H v (.type t) ∧ t ∈ kinds ∧ Q (.bl (decide (t = "int"))) H
/-- an int from 1 on: told of ints; of all other types no -/
def spFromOne (K : PySem.W.Frag) : Sp := fun vs H Q _ => ∃ (v : V), vs = [v] ∧ ((∃ i, v = .int i ∧ Q (.bl (decide (1 ≤ i))) H) ∨ (∃ t, TyX K H v (.type t) ∧ t ∈ kinds ∧ t ≠ "int" ∧ Q (.bl false) H))
def spIsList (K : PySem.W.Frag) : Sp := fun vs H Q _ => ∃ (v : V) (t : String), vs = [v] ∧ TyX K H v (.type t) ∧ t ∈ kinds ∧ ∀ H', Same H H' → Q (.bl (isSeqT t)) H'
def spIsPair (K : PySem.W.Frag) : Sp := fun vs H Q _ => ∃ (v : V), vs = [v] ∧ ((∃ xs, SeqV H v xs ∧ ∀ H', Same H H' → Q (.bl (decide (xs.length = 2))) H') ∨ (NoSeq K H v ∧ ∀ H', Same H H' → Q (.bl false) H'))
def spIsName (K : PySem.W.Frag) : Sp := fun vs H Q _ => ∃ (v : V), vs = [v] ∧ ((∃ s, v = .str s ∧ s.length ≤ 1000 ∧ ∀ H', Same H H' → Q (.bl (nameOk s)) H') ∨ (∃ t, TyX K H v (.type t) ∧ t ∈ kinds ∧ t ≠ "str" ∧ Q (.bl false) H))
theorem scIsInt : FnScope ["thing"] ["thing"] (defScope sIsInt) := ⟨rfl, rfl, rfl, by decide +kernel, rfl, by decide +kernel, by decide +kernel⟩
theorem scFromOne : FnScope ["thing"] ["thing"] (defScope sFromOne) := ⟨rfl, rfl, rfl, by decide +kernel, rfl, by decide +kernel, by decide +kernel⟩
theorem scIsList : FnScope ["thing"] ["thing"] (defScope sIsList) := ⟨rfl, rfl, rfl, by decide +kernel, rfl, by decide +kernel, by decide +kernel⟩
theorem scIsPair : FnScope ["thing"] ["thing"] (defScope sIsPair) := ⟨rfl, rfl, rfl, by decide +kernel, rfl, by decide +kernel, by decide +kernel⟩
theorem scIsName : FnScope ["thing", "sign"] ["thing"] (defScope sIsName) := ⟨rfl, rfl, rfl, by decide +kernel, rfl, by decide +kernel, by decide +kernel⟩
/-- the built-ins that the text names are still built-in -/
structure Bl (mg : Str → Option Value) : Prop where
  isi : mg "isinstance" = none
  int : mg "int" = none
  bool : mg "bool" = none
  str : mg "str" = none
  list : mg "list" = none
  tuple : mg "tuple" = none
  dict : mg "dict" = none
  len : mg "len" = none
  all : mg "all" = none
section
variable {P : Program} {w : World} {K : PySem.W.Frag} {mg : Str → Option Value} {base : Heap}
theorem ok_isInt {f : Addr} {fd : FuncData} (F : Fun K "is_integer" "is_integer" sIsInt f fd) (B : Bl mg) : FnOk P w K mg base CX0 1 f fd ["thing"] (spIsInt K) := by
  refine F.ok scIsInt (fun vs H Q E h => ?_) (fun cdv A outer s H vs Q E hr h => ?_)
  · obtain ⟨v, t, rfl, _⟩ := h
    rfl
  obtain ⟨v, t, rfl, ty, kt, q⟩ := h
  refine ⟨_, pss_one (by exact ps_ret (pe_and (pe_callB call_isi rfl B.isi PyProof.Rows.boot_isinstance (pa_cons (pv 0) (pa_cons (pe_bltn (v := .ty "int") rfl B.int PyProof.Rows.boot_int rfl) pa_nil)))
    (pe_one (pe_not (pe_callB call_isi rfl B.isi PyProof.Rows.boot_isinstance (pa_cons (pv 0) (pa_cons (pe_bltn (v := .ty "bool") rfl B.bool PyProof.Rows.boot_bool rfl) pa_nil))))))), ?_⟩
  refine ⟨_, rfl, v, _, _, _, _, rfl, .ty "int", ty, kit_int kt, _, rfl, ?_⟩
  refine ite2 (fun c => ?_) (fun c => ?_)
  · refine ⟨_, rfl, v, _, _, _, _, rfl, .ty "bool", ty, kit_bool kt, _, rfl, ?_⟩
    have c' := of_decide_eq_true c
    have e : (!decide (t = "bool")) = decide (t = "int") := by
      rcases c' with rfl | rfl <;> decide
    rw [e]
    exact q
  · have c' := of_decide_eq_false (Bool.eq_false_iff.mpr c)
    have e : decide (t = "int") = false := decide_eq_false fun z => c' (.inl z)
    rw [e] at q
    exact q
theorem ok_fromOne {f g : Addr} {fd gd : FuncData} (F : Fun K "is_from_one" "is_from_one" sFromOne f fd) (FI : Fun K "is_integer" "is_integer" sIsInt g gd) (b : Binds K gd ["thing"] []) (m : mg "is_integer" = some (.ref g)) (B : Bl mg) :
    FnOk P w K mg base CX0 2 f fd ["thing"] (spFromOne K) := by
  have G := ok_isInt (P := P) (w := w) (base := base) FI B
  refine F.ok scFromOne (fun vs H Q E h => ?_) (fun cdv A outer s H vs Q E hr h => ?_)
  · obtain ⟨v, rfl, _⟩ := h
    rfl
  obtain ⟨v, rfl, h⟩ := h
  refine ⟨_, pss_one (by exact ps_ret (pe_and (pe_call G hr rfl m FI.kp b .nil pass0 (pa_cons (pv 0) pa_nil)) (pe_one (pe_cmpR op_ge (pv 0) pe_int (nomark _))))), ?_⟩
  rcases h with ⟨i, rfl, q⟩ | ⟨t, ty, kt, nt, q⟩
  · exact ⟨_, rfl, .int i, "int", rfl, .base (.int i), by decide, _, rfl, iteT ⟨_, rfl, i, 1, rfl, rfl, q⟩⟩
  · refine ⟨_, rfl, v, t, rfl, ty, kt, _, rfl, ?_⟩
    rw [decide_eq_false nt]
    exact iteF q
theorem ok_isList {f : Addr} {fd : FuncData} (F : Fun K "is_list" "is_list" sIsList f fd) (B : Bl mg) : FnOk P w K mg base CX0 1 f fd ["thing"] (spIsList K) := by
  refine F.ok scIsList (fun vs H Q E h => ?_) (fun cdv A outer s H vs Q E hr h => ?_)
  · obtain ⟨v, t, rfl, _⟩ := h
    rfl
  obtain ⟨v, t, rfl, ty, kt, q⟩ := h
  refine ⟨_, pss_one (by exact ps_ret (pe_callB call_isiT rfl B.isi PyProof.Rows.boot_isinstance (pa_cons (pv 0) (pa_cons (pe_tup (pa_cons (pe_bltn (v := .ty "list") rfl B.list PyProof.Rows.boot_list rfl)
    (pa_cons (pe_bltn (v := .ty "tuple") rfl B.tuple PyProof.Rows.boot_tuple rfl) pa_nil))) pa_nil)))), ?_⟩
  refine ⟨_, rfl, (by show 2 ≤ sizeLine; decide), fun p hp => ?_⟩
  have e := K1.Same.upd (H := H) (p := p) (o := .tup [.ty "list", .ty "tuple"]) hp
  exact ⟨v, p, _, _, _, _, rfl, upd_same, .cons (.ty "list") (.cons (.ty "tuple") .nil), TyX.ext ty e, kit_seq kt, q _ e⟩
theorem ok_isPair {f g : Addr} {fd gd : FuncData} (F : Fun K "is_pair" "is_pair" sIsPair f fd) (FI : Fun K "is_list" "is_list" sIsList g gd) (b : Binds K gd ["thing"] []) (m : mg "is_list" = some (.ref g)) (B : Bl mg) :
    FnOk P w K mg base CX0 2 f fd ["thing"] (spIsPair K) := by
  have G := ok_isList (P := P) (w := w) (base := base) FI B
  refine F.ok scIsPair (fun vs H Q E h => ?_) (fun cdv A outer s H vs Q E hr h => ?_)
  · obtain ⟨v, rfl, _⟩ := h
    rfl
  obtain ⟨v, rfl, h⟩ := h
  refine ⟨_, pss_one (by exact ps_ret (pe_and (pe_call G hr rfl m FI.kp b .nil pass0 (pa_cons (pv 0) pa_nil)) (pe_one (pe_cmpR op_eq (pe_callB call_len_seq rfl B.len PySem.boot_len (pa_cons (pv 0) pa_nil)) pe_int (nomark _))))), ?_⟩
  rcases h with ⟨xs, sv, q⟩ | ⟨⟨t, ty, kt, nt⟩, q⟩
  · obtain ⟨t, ty, kt, st⟩ := sv.ty (K := K)
    refine ⟨_, rfl, v, t, rfl, ty, kt, fun H' e => ⟨_, rfl, ?_⟩⟩
    rw [st]
    refine iteT ?_
    obtain ⟨p, rfl, sq⟩ := (sv.ext e).sq (K := K)
    refine ⟨_, rfl, p, xs, rfl, sq, rfl, ?_⟩
    have z : decide (V.int (xs.length : Int) = V.int 2) = decide (xs.length = 2) := by
      apply decide_eq_decide.mpr
      constructor
      · intro h; have := V.int.inj h; omega
      · intro h; rw [h]; rfl
    rw [z]
    exact q H' e
  · refine ⟨_, rfl, v, t, rfl, ty, kt, fun H' e => ⟨_, rfl, ?_⟩⟩
    rw [nt]
    exact iteF (q H' e)
end
end K1
end
-- KErr
section
set_option Elab.async false
set_option linter.all false
set_option maxRecDepth 100000
set_option maxHeartbeats 4000000
namespace K1
open PySem PySem.Spec PyProof.Rows L2
abbrev sIH : Stmt := inClass (top 3) 0
abbrev sIR : Stmt := inClass (top 4) 0
abbrev sID : Stmt := inClass (top 5) 0
/-- what the written part says of FeastError, at CF -/
structure FeC (K : PySem.W.Frag) (mg : Str → Option Value) (CF : Addr) : Prop where
  m : mg "FeastError" = some (.ref CF)
  sp : PySem.W.specialIn K (.ref CF) "__getattribute__" = some (some (.builtin "type.__getattribute__"))
  rd : PySem.W.readsIn K CF (.type "type") = true
  ini : PySem.W.findCls K (.ref CF) (.type "type") "__init__" = some (.val (.builtin "ValueError.__init__"))
section
variable {X : Cx} {e : Expr} {es : List Expr} {ta : TA} {p1 p2 pos : Pos}
theorem pe_feinit {pl : Sem Bool} {CF : Addr} (hg : Gl X "FeastError") (T : FeC X.K X.mg CF) (ha : PA X (e :: es) ta)
    (hc : eval (.Call (.Attribute (.Name "FeastError" p1) "__init__" p2) (e :: es) [] pos) X.env = (do
      let ov ← eval (.Name "FeastError" p1) X.env
      standAt p2.atName
      let (f, first) ← holding [ov] (getMethod ov "__init__" pl)
      callWith pos f first (backTo pos (starEach (e :: es) X.env)) (backToKw pos (keywordEach [] X.env))) := by rfl)
    (he : starEach (e :: es) X.env = (false, eval e X.env) :: starEach es X.env := by rfl) (hpl : (backTo pos (starEach es X.env)).any (·.1) = false := by rfl) :
    PE X (.Call (.Attribute (.Name "FeastError" p1) "__init__" p2) (e :: es) [] pos) (tVeI X.K ta) := by
  refine ⟨fun pins s σ H Q I h => ?_⟩
  refine PySem.W.methodCall_KW (ld_glob I hg T.m ?_ (by decide)) hc
  refine PySem.W.method_cls I.kIn T.sp (PySem.W.cls_value I.kIn T.rd T.ini (by decide +kernel) ?_)
  show wpAny _ _ (callWith pos (Value.builtin "ValueError.__init__") [] (backTo pos (starEach (e :: es) X.env)) []) _ _ _
  refine PyProof.Rows.callWith_method1 (thn (ha.run pos pins _ σ H _ (I.tok _) h) fun us s1 ⟨vs, H1, I1, r1, a, C, ws, ev, hl, T, ea, q⟩ => ?_) he hpl
  subst ev
  cases r1 with
  | @cons _ u0 _ ur ra rw' =>
    obtain rfl : u0 = Value.ref a := ra
    have hlen : ur.length ≤ sizeLine := by
      rw [← Paired.length rw', sizeLine_eq]
      omega
    exact oinit_ok T I1 ea hlen fun s' J => ⟨.non, H1, J, rfl, q⟩
end
/-- what the written part says of an error's class with one field -/
structure ErC (K : PySem.W.Frag) (mg : Str → Option Value) (x : Str) (C f : Addr) : Prop where
  m : mg x = some (.ref C)
  ox : OexC K C
  no : PySem.W.findIn K (.ref C) "index" = some none
  ini : PySem.W.findIn K (.ref C) "__init__" = some (some (.ref f))
  ty : PySem.W.typeIn K (.ref f) = some (.type "function")
def spErI (C : Addr) : Sp := fun vs H Q _ => ∃ (a : Addr) (v : V), vs = [.ref a, v] ∧ H a = some (exo a C none) ∧ ∀ d, H d = none → d ≠ a → Q .non (upd (upd H d (exd d [("index", v)])) a (exo a C (some d)))
theorem scIH : FnScope ["self", "index"] ["self", "index"] (defScope sIH) := ⟨rfl, rfl, rfl, by decide +kernel, rfl, by decide +kernel, by decide +kernel⟩
theorem scIR : FnScope ["self", "index"] ["self", "index"] (defScope sIR) := ⟨rfl, rfl, rfl, by decide +kernel, rfl, by decide +kernel, by decide +kernel⟩
theorem scID : FnScope ["self", "index"] ["self", "index"] (defScope sID) := ⟨rfl, rfl, rfl, by decide +kernel, rfl, by decide +kernel, by decide +kernel⟩
section
variable {P : Program} {w : World} {K : PySem.W.Frag} {mg : Str → Option Value} {base : Heap} {CF : Addr}
theorem ok_iH {f C : Addr} {fd : FuncData} (F : Fun K "__init__" "BadHouses.__init__" sIH f fd) (T : FeC K mg CF) (TC : ErC K mg "BadHouses" C f) : FnOk P w K mg base CX0 1 f fd ["self", "index"] (spErI C) := by
  refine F.ok scIH (fun vs H Q E h => ?_) (fun cdv A outer s H vs Q E hr h => ?_)
  · obtain ⟨a, v, rfl, _⟩ := h
    rfl
  obtain ⟨a, v, rfl, ha, q⟩ := h
  refine ⟨_, pss_cons (by exact ps_expr (pe_feinit rfl T (pa_cons (pv 0) (pa_cons pe_str pa_nil)))) (pss_one (by exact ps_ost (pv 0) (pv 1))), ?_⟩
  refine ⟨_, rfl, a, C, [.str _], rfl, (by decide), TC.ox, ha, _, rfl, _, rfl, a, C, rfl, TC.ox, TC.no, .inl ⟨ha, fun d hd n => q d hd n⟩⟩
theorem ok_iR {f C : Addr} {fd : FuncData} (F : Fun K "__init__" "BadRoads.__init__" sIR f fd) (T : FeC K mg CF) (TC : ErC K mg "BadRoads" C f) : FnOk P w K mg base CX0 1 f fd ["self", "index"] (spErI C) := by
  refine F.ok scIR (fun vs H Q E h => ?_) (fun cdv A outer s H vs Q E hr h => ?_)
  · obtain ⟨a, v, rfl, _⟩ := h
    rfl
  obtain ⟨a, v, rfl, ha, q⟩ := h
  refine ⟨_, pss_cons (by exact ps_expr (pe_feinit rfl T (pa_cons (pv 0) (pa_cons pe_str pa_nil)))) (pss_one (by exact ps_ost (pv 0) (pv 1))), ?_⟩
  refine ⟨_, rfl, a, C, [.str _], rfl, (by decide), TC.ox, ha, _, rfl, _, rfl, a, C, rfl, TC.ox, TC.no, .inl ⟨ha, fun d hd n => q d hd n⟩⟩
theorem ok_iD {f C : Addr} {fd : FuncData} (F : Fun K "__init__" "BadHeads.__init__" sID f fd) (T : FeC K mg CF) (TC : ErC K mg "BadHeads" C f) : FnOk P w K mg base CX0 1 f fd ["self", "index"] (spErI C) := by
  refine F.ok scID (fun vs H Q E h => ?_) (fun cdv A outer s H vs Q E hr h => ?_)
  · obtain ⟨a, v, rfl, _⟩ := h
    rfl
  obtain ⟨a, v, rfl, ha, q⟩ := h
  refine ⟨_, pss_cons (by exact ps_expr (pe_feinit rfl T (pa_cons (pv 0) (pa_cons pe_str pa_nil)))) (pss_one (by exact ps_ost (pv 0) (pv 1))), ?_⟩
  refine ⟨_, rfl, a, C, [.str _], rfl, (by decide), TC.ox, ha, _, rfl, _, rfl, a, C, rfl, TC.ox, TC.no, .inl ⟨ha, fun d hd n => q d hd n⟩⟩
end
end K1
end
-- KName
section
set_option Elab.async false
set_option linter.all false
set_option maxRecDepth 100000
set_option maxHeartbeats 4000000
namespace K1
open PySem PySem.Spec PyProof.Rows L2
structure Signs (mg : Str → Option Value) : Prop where
  let_ : ∃ t, mg "LETTERS" = some (.str letters t)
  fig : ∃ t, mg "FIGURES" = some (.str figures t)
  lon : ∃ t, mg "LONGEST_NAME" = some (.int 8 t)
theorem map_take_succ {α β : Type} {l : List α} {f : α → β} {i : Nat} {c : α} (h : l[i]? = some c) : (l.take (i + 1)).map f = (l.take i).map f ++ [f c] := by
  rw [List.take_add_one, h]
  simp
section
variable {P : Program} {w : World} {K : PySem.W.Frag} {mg : Str → Option Value} {base : Heap}
theorem ok_isName {f : Addr} {fd : FuncData} (F : Fun K "is_name" "is_name" sIsName f fd) (B : Bl mg) (S : Signs mg) : FnOk P w K mg base CX0 1 f fd ["thing"] (spIsName K) := by
  refine F.ok scIsName (fun vs H Q E h => ?_) (fun cdv A outer s H vs Q E hr h => ?_)
  · obtain ⟨v, rfl, _⟩ := h
    rfl
  obtain ⟨v, rfl, h⟩ := h
  obtain ⟨t1, mL⟩ := S.let_
  obtain ⟨t2, mF⟩ := S.fig
  obtain ⟨t3, mN⟩ := S.lon
  have nd := scIsName.nd
  refine ⟨_, pss_cons (by exact ps_if (PW.pt (pw_or (pt_not (pt_val (pe_callB call_isi rfl B.isi PyProof.Rows.boot_isinstance (pa_cons (pv 0) (pa_cons (pe_bltn (v := .ty "str") rfl B.str PyProof.Rows.boot_str rfl) pa_nil)))))
      (pw_or1 (pt_not (pt_chain op_le op_le pe_int (pe_callB call_len_str rfl B.len PySem.boot_len (pa_cons (pv 0) pa_nil)) (pe_glob (v := .int 8) rfl mN ⟨_, rfl⟩)))))) (pss_one (ps_ret pe_bl)) pss_nil)
    (pss_one (by exact ps_ret (pe_and (pe_cmpR op_in_sign (pe_ix ix_str (pv 0) pe_int (fun _ _ => rfl)) (pe_glob (v := .str letters) rfl mL ⟨_, rfl⟩) (by with_unfolding_all rfl))
      (pe_one (pe_callB (cr_all rfl) rfl B.all PyProof.Rows.boot_all (pa_cons (pe_lc (own := [("sign", 1)]) (g := gName 1) (tt := tYes) rfl nd (by exact pi_str (pv 0))
        (by exact blkOk_by (N := ["thing", "sign"]) (sc := defScope sIsName) (by decide +kernel)) (fun _ _ _ _ _ => by exact pg_name (i := 1) nd rfl (Or.inl rfl)) (fun _ _ _ _ _ => pts_nil)
        (fun _ _ _ _ _ => by exact pe_or (pe_cmpR op_in_sign (pv 1) (pe_glob (v := .str letters) rfl mL ⟨_, rfl⟩) (by with_unfolding_all rfl)) (pe_one (pe_cmpR op_in_sign (pv 1) (pe_glob (v := .str figures) rfl mF ⟨_, rfl⟩) (by with_unfolding_all rfl))))) pa_nil)))))), ?_⟩
  rcases h with ⟨z, rfl, hz, q⟩ | ⟨t, ty, kt, nt, q⟩
  · have zl : z.length ≤ sizeLine := Nat.le_of_lt (small1000 hz)
    refine ⟨_, rfl, .str z, _, _, _, _, rfl, .ty "str", .base (.str z), kit_str (t := "str") (by decide), _, rfl, ?_⟩
    refine iteF ?_
    refine ⟨_, rfl, z, rfl, zl, ?_⟩
    refine ⟨_, _, rfl, rfl, _, rfl, ?_⟩
    have q0 : ∀ H', Same H H' → nameOk z = false → Q (.bl false) H' := fun H' e n => by rw [← n]; exact q H' e
    refine ite2 (fun c1 => ?_) (fun c1 => ?_)
    · refine ⟨_, _, rfl, rfl, _, rfl, ?_⟩
      by_cases c2 : (z.length : Int) ≤ 8
      · rw [decide_eq_true c2]
        refine iteF ?_
        have c1' : (1 : Int) ≤ (z.length : Int) := of_decide_eq_true c1
        have hlen : z.cps.toList.length = z.length := rfl
        obtain ⟨c, r, hcr⟩ : ∃ c r, z.cps.toList = c :: r := by
          cases e : z.cps.toList with
          | nil => rw [e] at hlen; simp at hlen; omega
          | cons c r => exact ⟨c, r, rfl⟩
        have ec : z.cps.toList[0]? = some c := by rw [hcr]; rfl
        have hnm : nameOk z = (decide (c ∈ letters.cps.toList) && z.cps.toList.all okSign) := by
          unfold nameOk
          have d1 : decide (1 ≤ z.length) = true := decide_eq_true (by omega)
          have d2 : decide (z.length ≤ 8) = true := decide_eq_true (by omega)
          rw [d1, d2, Bool.true_and, Bool.true_and]
          rw [hcr]
          rfl
        refine ⟨_, rfl, z, 0, c, rfl, rfl, zl, atI_nat (j := 0) ec, c, letters, rfl, rfl, _, rfl, ?_⟩
        by_cases cl : c ∈ letters.cps.toList
        · rw [decide_eq_true cl]
          refine iteT ?_
          refine ⟨_, rfl, z, rfl, fun D hD => ?_⟩
          refine lc_it walk_str (fun i Hc => Same H Hc ∧ Hc D = some (.lst (((z.cps.toList.take i).map okSign).map V.bl))) ⟨K1.Same.upd hD, upd_same⟩ (fun _ _ _ _ => True.intro) ?_ ?_
          · rintro i x Hc H' hi ⟨e1, e2⟩ ⟨rfl, d, hd, rfl⟩
            have hd' : z.cps.toList[i]? = some d := by rw [Array.getElem?_toList]; exact hd
            refine ⟨rfl, ?_⟩
            unfold tYes
            refine iteT ?_
            refine ⟨_, rfl, d, letters, rfl, rfl, _, rfl, ?_⟩
            have fin : ∀ b, b = okSign d → ∃ acc, H' D = some (.lst acc) ∧ acc.length < sizeLine ∧ Same H (upd H' D (.lst (acc ++ [.bl b]))) ∧ upd H' D (.lst (acc ++ [.bl b])) D = some (.lst (((z.cps.toList.take (i + 1)).map okSign).map V.bl)) := fun b hb => by
              refine ⟨_, e2, ?_, fun a o n => ?_, ?_⟩
              · rw [List.length_map, List.length_map]
                exact small1000 (Nat.le_trans (List.length_take_le _ _) (by have : i < z.cps.toList.length := hi; omega))
              · rw [upd_ne (ne_of_none n hD)]
                exact e1 a o n
              · rw [upd_same, map_take_succ hd', List.map_append, hb]
                rfl
            by_cases cd : d ∈ letters.cps.toList
            · rw [decide_eq_true cd]
              refine iteT (fin true ?_)
              unfold okSign
              rw [decide_eq_true cd, Bool.true_or]
            · rw [decide_eq_false cd]
              refine iteF ⟨_, rfl, d, figures, rfl, rfl, fin _ ?_⟩
              unfold okSign
              rw [decide_eq_false cd, Bool.false_or]
          · rintro Hc ⟨e1, e2⟩
            refine ⟨D, _, rfl, SqL.of e2, ?_⟩
            have ht : z.cps.toList.take z.cps.size = z.cps.toList := List.take_of_length_le (Nat.le_of_eq hlen)
            have : ((z.cps.toList.take z.cps.size).map okSign).all id = nameOk z := by
              rw [ht, hnm, decide_eq_true cl, Bool.true_and, List.all_map]
              rfl
            rw [this]
            exact q Hc e1
        · rw [decide_eq_false cl]
          refine iteF (q0 H (Same.refl H) ?_)
          rw [hnm, decide_eq_false cl, Bool.false_and]
      · rw [decide_eq_false c2]
        refine iteT (q0 H (Same.refl H) ?_)
        unfold nameOk
        have d2 : decide (z.length ≤ 8) = false := decide_eq_false (by omega)
        rw [d2, Bool.false_and, Bool.and_false]
    · have c1' : ¬ (1 : Int) ≤ (z.length : Int) := of_decide_eq_false (Bool.eq_false_iff.mpr c1)
      refine ⟨_, rfl, iteT (q0 H (Same.refl H) ?_)⟩
      unfold nameOk
      have d2 : decide (1 ≤ z.length) = false := decide_eq_false (by omega)
      rw [d2, Bool.false_and]
  · refine ⟨_, rfl, v, _, _, _, _, rfl, .ty "str", ty, kit_str kt, _, rfl, ?_⟩
    rw [decide_eq_false nt]
    exact iteT (iteT q)
end
end K1
end
-- KEnumT
section
set_option Elab.async false
set_option linter.all false
set_option maxRecDepth 100000
set_option maxHeartbeats 4000000
/-! enumerate over a tuple -/
namespace K1E
open PySem
open AutoSeq1 (wpAny_loadPart')
theorem meets_new (l : Addr) (items : Array Value) (n : Nat) (dct : Option Addr) (sl : Array (Option Value)) :
    Meets (Builtin.«enumerate.__new__» ⟨[.type "enumerate", .ref l], []⟩) (fun _ R s => s.heap.get? l = some { cls := .type "tuple", dict := dct, data := .seq items n, slots := sl } ∧
      R (.ok (.ret (.ref (s.heap.push { cls := .type "tuple_iterator", data := .fields #[.ref l, .int 0 0] }).objs.size)))
        { s with heap := (s.heap.push { cls := .type "tuple_iterator", data := .fields #[.ref l, .int 0 0] }).push { cls := .type "enumerate", data := .fields #[.none, .bool false, .ref s.heap.objs.size, rawInt 0, .none, .none] } }) :=
  .of_wp fun prog w A R s h => by
    obtain ⟨hp, g, d, tk, os⟩ := s; obtain ⟨hl, h⟩ := h
    have hsub := sub_enumerate
    have hT : Heap.IsTuple (Shared.heap ⟨hp, g, d, tk, os⟩) l items := ⟨_, hl, rfl, n, rfl⟩
    wp_walk using wpAny_loadPart' hl
    refine wpAny_stack_any fun st => wpAny_pure ?_
    split
    · rename_i c _ _ _ _ _
      cases (c == Value.type "enumerate")
      · wp_walk using wpAny_loadPart' hl, wpAny_pyIter_tuple hT
        exact ⟨_, rfl, h⟩
      · wp_walk using wpAny_loadPart' hl, wpAny_pyIter_tuple hT
        exact ⟨_, rfl, h⟩
    · wp_walk using wpAny_loadPart' hl, wpAny_pyIter_tuple hT
      exact ⟨_, rfl, h⟩
section
variable {prog : Program} {w : World} {A : Around} {E : Value → Shared → Prop} {s : Shared}
theorem call_enum_tuple {l : Addr} {items : Array Value} {Q : Value → Shared → Prop} (hL : s.heap.IsTuple l items)
    (h : ∀ h', IsEnum h' (s.heap.objs.size + 1) s.heap.objs.size 0 .none → h'.IsTupleIter s.heap.objs.size l 0 → h'.objs.size = s.heap.objs.size + 2 →
      (∀ b o, s.heap.get? b = some o → h'.get? b = some o) → Q (.ref (s.heap.objs.size + 1)) { s with heap := h' }) :
    wpAny (model prog w) A (call (.type "enumerate") [.ref l]) Q E s := by
  obtain ⟨⟨c, dct, dt, sl⟩, hl, hc, n, hd⟩ := hL
  replace hc : c = .type "tuple" := hc
  replace hd : dt = .seq items n := hd
  subst hc hd
  refine callType_new F.called_enumerate (by decide) (F.typeCall_enumerate_1 _) (F.newCall_enumerate_1 _) (fun obj => F.args_object_init_2 obj _) F.entry_enumerate_new (meets_new l items n dct sl) ⟨hl, ?_⟩
  have hz : (s.heap.push { cls := .type "tuple_iterator", data := .fields #[.ref l, .int 0 0] }).objs.size = s.heap.objs.size + 1 := Heap.size_push ..
  show _ ∧ _
  rw [hz]
  have he : IsEnum ((s.heap.push { cls := .type "tuple_iterator", data := .fields #[.ref l, .int 0 0] }).push
      { cls := .type "enumerate", data := .fields #[.none, .bool false, .ref s.heap.objs.size, rawInt 0, .none, .none] }) (s.heap.objs.size + 1) s.heap.objs.size 0 .none := by
    have q := Heap.get?_push_size (s.heap.push { cls := .type "tuple_iterator", data := .fields #[.ref l, .int 0 0] })
      (o := { cls := .type "enumerate", data := .fields #[.none, .bool false, .ref s.heap.objs.size, rawInt 0, .none, .none] }) rfl
    rw [hz] at q
    exact q
  exact ⟨⟨_, he, rfl⟩, h _ he ⟨_, Heap.get?_push_of_some _ (Heap.get?_push_size _ rfl), rfl, rfl⟩ (by rw [Heap.size_push, hz]) fun b o y => Heap.get?_push_of_some _ (Heap.get?_push_of_some _ y)⟩
end
end K1E
namespace K1
open PySem PySem.Spec PyProof.Rows L2
/-- the tuple at a, each item in a new pair -/
def IteT (K : PySem.W.Frag) (a : Addr) : It :=
  ⟨fun i H => ∃ (xs : List V) (x : V), SqT K H a xs ∧ xs[i]? = some x, fun i H v H' => ∃ T x, v = .ref T ∧ H T = none ∧ H' = upd H T (.tup [.int (i : Nat), x]) ∧ ∀ xs, SqT K H a xs → xs[i]? = some x, fun i H => ∃ xs : List V, SqT K H a xs ∧ xs.length ≤ i⟩
theorem turn_enumT {P : Program} {w : World} {K : PySem.W.Frag} {elts : List Expr} {kk : Nat} {tpos : Pos} (a e it : Addr) :
    Turn P w K (.Tuple elts kk tpos) (IteT K a) [e, it] e (fun i h => (∃ old, IsEnum h e it ((i : Nat) : Int) old) ∧ h.IsTupleIter it a i ∧ e ≠ it) where
  mem := by simp
  obj := fun i h st b hb => by
    obtain ⟨⟨old, he⟩, ⟨o, ho, hc, hd⟩, _⟩ := st
    have e' : b = e ∨ b = it := by simpa using hb
    rcases e' with z | z
    · rw [z]; exact ⟨_, he, fun v q => nomatch q⟩
    · rw [z]; exact ⟨o, ho, fun v q => by rw [hd] at q; cases q⟩
  keep := fun i h h' st k => let ⟨⟨old, he⟩, hi, hne⟩ := st; ⟨⟨old, k e (by simp) _ he⟩, hi.at fun o q => k it (by simp) o q, hne⟩
  item := by
    intro X hP hw hK hc i pins s σ H E I hf st hg
    subst hP hw hK
    obtain ⟨⟨old, he⟩, hit, hne⟩ := st
    obtain ⟨xs, x, hq, hx⟩ := hg
    obtain ⟨its, rv, p, hz⟩ := I.tuple hq
    obtain ⟨u, hu, ru⟩ := rv.get hx
    have hel : e < s.heap.objs.size := Heap.lt_size he
    have hil : it < s.heap.objs.size := by obtain ⟨_, q, _⟩ := hit; exact Heap.lt_size q
    have p' : s.heap.IsTuple a its.toArray := p
    have hlt : i < its.toArray.size := by
      have hh : i < its.length := by
        rcases Nat.lt_or_ge i its.length with q | q
        · exact q
        · rw [List.getElem?_eq_none q] at hu; cases hu
      simpa using hh
    have hia : it ≠ a := fun z => by
      obtain ⟨o, q1, q2, _⟩ := hit
      obtain ⟨o2, q3, q4, _⟩ := p'
      rw [z, q3] at q1
      have q5 := Option.some.inj q1
      rw [← q5, q4] at q2
      exact absurd q2 (by decide)
    have hea : e ≠ a := fun z => by
      obtain ⟨o2, q3, q4, _⟩ := p'
      have he' : s.heap.get? e = _ := he
      rw [z, q3] at he'
      have q5 := Option.some.inj he'
      rw [q5] at q4
      exact absurd (show Value.type "enumerate" = Value.type "tuple" from q4) (by decide)
    refine wpAny_pyNext_enum_itemD (Draws.tuple (A := X.A.in1) (show X.A.in1.handled = Option.none from I.ok.hd hc) it a hia.symm its.toArray) he ⟨hit, p'⟩ hlt hne (fun z => ?_) fun y h' tk hy ho hst hT hsz hk => ?_
    · rcases List.mem_cons.mp z with z | z
      · exact hne z
      · exact hea (List.mem_singleton.mp z)
    have hyu : y = u := by
      have h1 : its.toArray[i]? = some u := by simpa using hu
      rw [h1] at hy
      exact (Option.some.inj hy).symm
    subst hyu
    refine ⟨_, rfl, wpAny_letOwnedTupleGo_enum (s := { s with heap := h', toks := tk + 1 }) ho fun h'' he' sb => ?_⟩
    have hT2 : h''.get? s.heap.objs.size = some { cls := .type "tuple", data := .seq #[.int i tk, y] } := (sb.2 _ (Nat.ne_of_gt hel)).trans hT
    have new : ObjOk X.prog X.w (upd H s.heap.objs.size (.tup [.int (i : Nat), x])) h'' s.heap.objs.size (.tup [.int (i : Nat), x]) :=
      ⟨by show 2 ≤ sizeLine; decide, [.int i tk, y], .cons ⟨_, rfl⟩ (.cons ru .nil), ⟨_, hT2, rfl, _, rfl⟩⟩
    have I1 : Inv X pins σ (upd H s.heap.objs.size (.tup [.int (i : Nat), x])) { s with heap := h'', toks := tk + 1 } :=
      I.turnedNew (ch := [e, it]) (fun b ob hb q => (sb.2 b (fun z => hb (by simp [z]))).trans (hk b ob (fun z => hb (by simp [z])) (fun z => hb (by simp [z])) q)) hf (Nat.le_refl _) new
    refine ⟨.ref s.heap.objs.size, _, I1, rfl, ⟨_, x, rfl, I.hok.fresh (Nat.le_refl _), rfl, fun ys hy => by rw [I.tuple_inj hy hq]; exact hx⟩, ⟨⟨y, ?_⟩, hst.1.at fun o q => (sb.2 it (Ne.symm hne)).trans q, hne⟩, fun b hb => ?_⟩
    · have e1 : ((i + 1 : Nat) : Int) = (i : Int) + 1 := by omega
      rw [e1]; exact he'
    · have hb' : b < s.heap.objs.size := by
        have e' : b = e ∨ b = it := by simpa using hb
        rcases e' with z | z
        · rw [z]; exact hel
        · rw [z]; exact hil
      rw [upd_ne (Nat.ne_of_lt hb')]
      exact (hf b hb).1
  done := by
    intro X hP hw hK hc i pins s σ H E I hf st hg
    subst hP hw hK
    obtain ⟨⟨old, he⟩, hit, hne⟩ := st
    obtain ⟨xs, hq, hx⟩ := hg
    obtain ⟨its, rv, p, hz⟩ := I.tuple hq
    obtain ⟨f0, f1, f2, f3, f4, f5⟩ := hf it (by simp)
    have hl := rv.length
    have p' : s.heap.IsTuple a its.toArray := p
    have hT : s.TypeIs (.ref e) "enumerate" := ⟨_, he, rfl⟩
    unfold pyNext
    refine wpAny_bind (wpAny_attempt (wpAny_callSpecial?_slot (name := Str.ofString "__next__") hT F.slot_enumerate_next (wpAny_call_entry F.slot_enumerate_next hT F.entry_enumerate_next ?_ (F.args_enumerate_next_1 _))))
    show wpAny _ _ (field (.ref e) 2 >>= _) _ _ _
    refine wpAny_bind (wpAny_field he rfl (x := .ref it) rfl ?_)
    refine wpAny_bind (wpAny_nextOf_tuple_end (I.ok.hd hc) hit p' (by simp; omega) fun h' x he' hx' => ?_)
    obtain ⟨o, ho, hc2⟩ := hx'
    refine wpAny_bind (wpAny_isInstance (T := "StopIteration") (b := true) ⟨o, ho, hc2⟩ isSubtype_stop ?_)
    exact wpAny_pure ⟨rfl, I.turned (t' := s.toks) (fun b o hb q => he' b o hb q) f0 f1 f3 f4 f5⟩
  self := fun A i s Q E st h => let ⟨⟨_, he⟩, _⟩ := st; wpAny_pyIter_enum he h
def iEnumA (K : PySem.W.Frag) (ta : TA) : TI := fun σ H R => ta σ H fun vs H1 => ∃ a xs, vs = [.ref a] ∧ ((SqL K H1 a xs ∧ R (Ite K a) H1) ∨ (SqT K H1 a xs ∧ R (IteT K a) H1))
theorem pi_enumA {X : Cx} {e : Expr} {ta : TA} {p pos tpos : Pos} {elts : List Expr} {kk : Nat} (hg : Gl X "enumerate") (hm : X.mg "enumerate" = none) (ha : PA X [e] ta) (hs : starEach [e] X.env = [(false, eval e X.env)] := by rfl) :
    PI X (.Tuple elts kk tpos) (.Call (.Name "enumerate" p) [e] [] pos) (iEnumA X.K ta) := by
  refine ⟨fun pins s σ H R I h => ?_⟩
  refine Call_ (ld_blt I hg hm boot_enumerate (PyProof.Rows.callWith_type1 (thn (ha.run pos pins s σ H _ I h) fun us s1 ⟨vs, H1, I1, r1, q1⟩ => ?_) hs rfl))
  obtain ⟨a, xs, ex, hq⟩ := q1
  subst ex
  cases r1 with
  | cons r rr =>
    cases rr
    cases r
    rcases hq with ⟨hq, q⟩ | ⟨hq, q⟩
    · obtain ⟨its, rv, p', hz⟩ := I1.list hq
      refine call_enumerate_list p'.isList fun h' he hit hsz hk => wpAny_pyIter_enum he ?_
      have I2 : Inv X pins σ H1 { s1 with heap := h' } := I1.kept (t' := s1.toks) hk
      refine ⟨s1.heap.objs.size + 1, [s1.heap.objs.size + 1, s1.heap.objs.size], _, _, H1, rfl, I2, turn_enum a (s1.heap.objs.size + 1) s1.heap.objs.size, ⟨⟨.none, he⟩, hit, Nat.succ_ne_self _⟩, fun b hb => ?_, q⟩
      have e' : b = s1.heap.objs.size + 1 ∨ b = s1.heap.objs.size := by simpa using hb
      have hle : s1.heap.objs.size ≤ b := by
        rcases e' with z | z
        · rw [z]; exact Nat.le_add_right _ _
        · rw [z]; exact Nat.le_refl _
      exact I1.fpOk hle (I1.hok.fresh hle)
    · obtain ⟨its, rv, p', hz⟩ := I1.tuple hq
      refine K1E.call_enum_tuple (show s1.heap.IsTuple a its.toArray from p') fun h' he hit hsz hk => wpAny_pyIter_enum he ?_
      have I2 : Inv X pins σ H1 { s1 with heap := h' } := I1.kept (t' := s1.toks) hk
      refine ⟨s1.heap.objs.size + 1, [s1.heap.objs.size + 1, s1.heap.objs.size], _, _, H1, rfl, I2, turn_enumT a (s1.heap.objs.size + 1) s1.heap.objs.size, ⟨⟨.none, he⟩, hit, Nat.succ_ne_self _⟩, fun b hb => ?_, q⟩
      have e' : b = s1.heap.objs.size + 1 ∨ b = s1.heap.objs.size := by simpa using hb
      have hle : s1.heap.objs.size ≤ b := by
        rcases e' with z | z
        · rw [z]; exact Nat.le_add_right _ _
        · rw [z]; exact Nat.le_refl _
      exact I1.fpOk hle (I1.hok.fresh hle)
theorem walk_enumT {K : PySem.W.Frag} {a : Addr} {xs : List V} : Walk (IteT K a) xs.length (fun H => SqT K H a xs) (YPair (fun i => some (.int (i : Nat))) (fun i => xs[i]?)) := by
  refine ⟨fun i _ hi q => ⟨xs, xs[i], q, by simp [hi]⟩, fun _ q => ⟨xs, q, Nat.le_refl _⟩, fun i H v H' _ q y => ?_⟩
  obtain ⟨T, x, h1, h2, h3, h4⟩ := y
  exact ⟨T, .int (i : Nat), x, h1, h2, h3, rfl, h4 xs q⟩
end K1
end
-- KSeq
section
set_option Elab.async false
set_option linter.all false
set_option maxRecDepth 100000
set_option maxHeartbeats 4000000
namespace K1
open PySem PySem.Spec PyProof.Rows L2
/-- a list or a tuple at a, of xs -/
def SqA (K : PySem.W.Frag) (H : Hp) (a : Addr) (xs : List V) : Prop := SqL K H a xs ∨ SqT K H a xs
theorem SqT.same {K : PySem.W.Frag} {H H' : Hp} {a : Addr} {xs : List V} (e : Same H H') (h : SqT K H a xs) : SqT K H' a xs := by
  rcases h with (h | ⟨o, h⟩) | h
  · exact .inl (.inl (e _ _ h))
  · exact .inl (.inr ⟨o, e _ _ h⟩)
  · exact .inr h
theorem SqA.same {K : PySem.W.Frag} {H H' : Hp} {a : Addr} {xs : List V} (h : SqA K H a xs) (e : Same H H') : SqA K H' a xs := h.imp e.seq (SqT.same e)
/-- what stands at a still stands there -/
def At1 (a : Addr) (H H' : Hp) : Prop := ∀ o, H a = some o → H' a = some o
theorem At1.l {K : PySem.W.Frag} {H H' : Hp} {a : Addr} {xs : List V} (e : At1 a H H') (h : SqL K H a xs) : SqL K H' a xs := by
  rcases h with (h | ⟨o, h⟩) | h
  · exact .inl (.inl (e _ h))
  · exact .inl (.inr ⟨o, e _ h⟩)
  · exact .inr h
theorem At1.t {K : PySem.W.Frag} {H H' : Hp} {a : Addr} {xs : List V} (e : At1 a H H') (h : SqT K H a xs) : SqT K H' a xs := by
  rcases h with (h | ⟨o, h⟩) | h
  · exact .inl (.inl (e _ h))
  · exact .inl (.inr ⟨o, e _ h⟩)
  · exact .inr h
/-- enumerate of the list or tuple in slot i: by any walk over new pairs -/
def iEnumV (K : PySem.W.Frag) (i : Nat) : TI := fun σ H R => ∃ a xs, σ[i]? = some (some (.ref a)) ∧ SqA K H a xs ∧
  ∀ J G, Walk J xs.length G (YPair (fun i => some (.int (i : Nat))) (fun i => xs[i]?)) → (∀ H', At1 a H H' → G H') → R J H
/-- the items of the list or tuple in slot i -/
def iSeqV (K : PySem.W.Frag) (i : Nat) : TI := fun σ H R => ∃ a xs, σ[i]? = some (some (.ref a)) ∧ SqA K H a xs ∧ ∀ J G, Walk J xs.length G (YAt xs) → (∀ H', At1 a H H' → G H') → R J H
/-- a reading of arguments may be taken weaker -/
theorem PI.imp {X : Cx} {tg iter : Expr} {wi wi' : TI} (h : PI X tg iter wi) (hw : ∀ σ H R, wi' σ H R → wi σ H R) : PI X tg iter wi' := ⟨fun pins s σ H R I q => h.run pins s σ H R I (hw σ H R q)⟩
theorem PG.imp {X : Cx} {tg : Expr} {g g' : TG} (h : PG X tg g) (hw : ∀ v σ H Q, g' v σ H Q → g v σ H Q) : PG X tg g' := ⟨fun pins s σ H v u Q I r q => h.run pins s σ H v u Q I r (hw v σ H Q q)⟩
theorem pi_enumV {X : Cx} (i : Nat) {x : Str} {p px pos tpos : Pos} {elts : List Expr} {kk : Nat} (hg : Gl X "enumerate") (hm : X.mg "enumerate" = none) (hv : PE X (.Name x px) (tVar i)) (hs : starEach [.Name x px] X.env = [(false, eval (.Name x px) X.env)] := by rfl) :
    PI X (.Tuple elts kk tpos) (.Call (.Name "enumerate" p) [.Name x px] [] pos) (iEnumV X.K i) := by
  refine PI.imp (pi_enumA hg hm (pa_cons hv pa_nil) hs) fun σ H R q => ?_
  obtain ⟨a, xs, hσ, hq, q⟩ := q
  rcases hq with hq | hq
  · exact ⟨_, hσ, a, xs, rfl, .inl ⟨hq, q _ _ walk_enum fun H' h' => At1.l h' hq⟩⟩
  · exact ⟨_, hσ, a, xs, rfl, .inr ⟨hq, q _ _ walk_enumT fun H' h' => At1.t h' hq⟩⟩
theorem pi_seqV {X : Cx} {tg : Expr} (i : Nat) {x : Str} {px : Pos} (hv : PE X (.Name x px) (tVar i)) : PI X tg (.Name x px) (iSeqV X.K i) := by
  refine ⟨fun pins s σ H R I q => ?_⟩
  obtain ⟨a, xs, hσ, hq, q⟩ := q
  rcases hq with hq | hq
  · exact (pi_list hv).run pins s σ H R I ⟨_, hσ, a, rfl, ⟨xs, hq⟩, q _ _ walk_list fun H' h' => At1.l h' hq⟩
  · exact (pi_tup hv).run pins s σ H R I ⟨_, hσ, a, rfl, ⟨xs, hq⟩, q _ _ walk_tup fun H' h' => At1.t h' hq⟩
end K1
end
-- KNeed
section
set_option Elab.async false
set_option linter.all false
set_option maxRecDepth 100000
set_option maxHeartbeats 4000000
namespace K1
open PySem PySem.Spec PyProof.Rows L2
abbrev sNH : Stmt := top 23
/-- an error of the class at C with this index goes out; all that was tracked is as it was -/
def Goes (C : Addr) (i : Int) (H : Hp) (E : XK) : Prop := ∀ (d : Addr) (H' : Hp), Same H H' → H d = none → H' d = some (.xd [("index", .int i)]) → E (.ref C) (some d) H'
theorem Goes.ext {C : Addr} {i : Int} {H H1 : Hp} {E : XK} (g : Goes C i H E) (e : Same H H1) : Goes C i H1 E := fun d H' e2 n h => g d H' (e.trans e2) (e.free n) h
/-- good names -/
def Good (ss : List Str) : Prop := ss.Nodup ∧ ∀ s ∈ ss, nameOk s = true ∧ s.length ≤ 1000
theorem mem_take_succ {α : Type} {l : List α} {i : Nat} {u : α} (h : i < l.length) : u ∈ l.take (i + 1) ↔ u ∈ l.take i ∨ u = l[i] := by
  rw [List.take_add_one, List.getElem?_eq_getElem h, Option.toList, List.mem_append, List.mem_singleton]
/-- no name behind these -/
def BadName (K : PySem.W.Frag) (H : Hp) (ss : List Str) (x : V) : Prop := (∃ t, TyX K H x (.type t) ∧ t ∈ kinds ∧ t ≠ "str") ∨ ∃ s, x = .str s ∧ s.length ≤ 1000 ∧ (nameOk s = false ∨ s ∈ ss)
theorem BadName.ext {K : PySem.W.Frag} {H H' : Hp} {ss : List Str} {x : V} (h : BadName K H ss x) (e : Same H H') : BadName K H' ss x := h.imp (fun ⟨t, a, b⟩ => ⟨t, TyX.ext a e, b⟩) id
def spNH (K : PySem.W.Frag) (C : Addr) : Sp := fun vs H Q E => ∃ v, vs = [v] ∧
  ((NoSeq K H v ∧ Goes C 0 H E) ∨ (SeqV H v [] ∧ Goes C 0 H E) ∨
   (∃ ss, SeqV H v (ss.map V.str) ∧ ss ≠ [] ∧ ss.length ≤ 1000 ∧ Good ss ∧ ∀ H', Same H H' → Q .non H') ∨
   (∃ ss x rest, SeqV H v (ss.map V.str ++ x :: rest) ∧ ss.length ≤ 1000 ∧ Good ss ∧ BadName K H ss x ∧ Goes C (ss.length : Nat) H E))
theorem scNH : FnScope ["houses", "seen", "index", "name"] ["houses"] (defScope sNH) := ⟨rfl, rfl, rfl, by decide +kernel, rfl, by decide +kernel, by decide +kernel⟩
/-- what stands behind an error that was made: its dict -/
theorem made_err {C d a : Addr} {v : V} {H : Hp} : upd (del (upd (upd H d (exd d [("index", v)])) a (exo a C (some d))) a) d (.xd [("index", v)]) d = some (.xd [("index", v)]) := upd_same
section
variable {P : Program} {w : World} {K : PySem.W.Frag} {mg : Str → Option Value} {base : Heap} {CF : Addr}
/-- the reading of X(index), as a raise asks it -/
theorem raise_idx {C : Addr} {E : XK} {H0 H : Hp} {i : Int} (g : Goes C i H0 E) (e : Same H0 H) :
    ∀ a, H a = none → spErI C [V.ref a, V.int i] (upd H a (exo a C none)) (fun v H2 => v = .non ∧ ∃ (d : Addr) (fs : List (Str × V)), H2 a = some (exo a C (some d)) ∧ H2 d = some (exd d fs) ∧ H d = none ∧ E (.ref C) (some d) (upd (del H2 a) d (.xd fs))) (fun _ _ _ => False) := by
  intro a ha
  refine ⟨a, .int i, rfl, upd_same, fun d hd hda => ⟨rfl, d, [("index", .int i)], upd_same, ?_, ?_, ?_⟩⟩
  · rw [upd_ne hda, upd_same]
  · rw [upd_ne hda] at hd
    exact hd
  · rw [upd_ne hda] at hd
    refine g d _ (fun b o n => ?_) (e.free hd) upd_same
    have n1 := e b o n
    have b1 : b ≠ a := ne_of_none n1 ha
    have b2 : b ≠ d := ne_of_none n1 hd
    rw [upd_ne b2, del_ne b1, upd_ne b1, upd_ne b2, upd_ne b1]
    exact n1
theorem ok_NH {f g fN fE C : Addr} {fd gd nd ed : FuncData} (F : Fun K "_need_houses" "_need_houses" sNH f fd) (B : Bl mg) (S : Signs mg) (me : mg "enumerate" = none) (ms : mg "set" = none)
    (FI : Fun K "is_list" "is_list" sIsList g gd) (b : Binds K gd ["thing"] []) (m : mg "is_list" = some (.ref g))
    (FN : Fun K "is_name" "is_name" sIsName fN nd) (bN : Binds K nd ["thing"] []) (mN : mg "is_name" = some (.ref fN))
    (T : FeC K mg CF) (TC : ErC K mg "BadHouses" C fE) (FE : Fun K "__init__" "BadHouses.__init__" sIH fE ed) (bE : Binds K ed ["self", "index"] []) :
    FnOk P w K mg base (L2.CX P w) 4 f fd ["houses"] (spNH K C) := by
  have G := ok_isList (P := P) (w := w) (base := base) FI B
  have GN := ok_isName (P := P) (w := w) (base := base) FN B S
  have GE := ok_iH (P := P) (w := w) (base := base) FE T TC
  refine F.okX scNH (fun vs H Q E h => ?_) (fun cdv A outer s H vs Q E hr h => ?_)
  · obtain ⟨v, rfl, _⟩ := h
    rfl
  obtain ⟨v, rfl, h⟩ := h
  have nd := scNH.nd
  have hu := hu_of hr
  have hr1 : Room 1 _ := hr.mono (by decide)
  have hr2 : Room 2 _ := hr.mono (by decide)
  refine ⟨_, pss_cons (by exact (ps_if (PW.pt (pw_or (pt_not (pt_val (pe_call G hr1 rfl m FI.kp b .nil pass0 (pa_cons (pv 0) pa_nil)))) (pw_or1 (pt_cmpR op_eq (pe_callB call_len_seq rfl B.len PySem.boot_len (pa_cons (pv 0) pa_nil)) pe_int (nomark _)))))
      (pss_one (by exact (ps_raise rfl (takes_of rfl rfl rfl rfl) (pmk_oex TC.ox TC.ini TC.ty GE hr2 bE .nil pass0 rfl TC.m (pa_cons pe_int pa_nil))))) pss_nil))
    (pss_cons (by exact (ps_set (i := 1) nd rfl (.inl rfl) (pe_callTy0 cr_set0K rfl ms PyProof.Rows.boot_set)))
    (pss_one (by exact (ps_for (passes_of rfl) rfl (by exact pi_enumV 0 rfl me (pv 0)) (pg_tup rfl (pgs_cons (pg_name (i := 2) nd rfl (.inl rfl)) (pgs_cons (pg_name (i := 3) nd rfl (.inl rfl)) pgs_nil)))
      (pss_cons (by exact (ps_if (PW.pt (pw_or (pt_not (pt_val (pe_call GN hr1 rfl mN FN.kp bN .nil pass0 (pa_cons (pv 3) pa_nil)))) (pw_or1 (pt_cmpR or_sinK (pv 3) (pv 1) (by with_unfolding_all rfl)))))
          (pss_one (by exact (ps_raise rfl (takes_of rfl rfl rfl rfl) (pmk_oex TC.ox TC.ini TC.ty GE hr2 bE .nil pass0 rfl TC.m (pa_cons (pv 2) pa_nil))))) pss_nil))
        (pss_one (by exact (ps_expr (pe_saddK (pv 1) (pa_cons (pv 3) pa_nil)))))))))), ?_⟩
  have two : ∀ xs, SeqV H v xs → ∃ t, TyX K H v (.type t) ∧ t ∈ kinds ∧ isSeqT t = true := fun xs sv => sv.ty
  rcases h with ⟨⟨t, ty, kt, nt⟩, g⟩ | ⟨sv, g⟩ | h
  · refine ⟨_, rfl, v, t, rfl, ty, kt, fun H' e => ⟨_, rfl, ?_⟩⟩
    rw [nt]
    exact iteT (iteT ⟨by decide, raise_idx g e⟩)
  · obtain ⟨t, ty, kt, st⟩ := sv.ty (K := K)
    refine ⟨_, rfl, v, t, rfl, ty, kt, fun H' e => ⟨_, rfl, ?_⟩⟩
    rw [st]
    obtain ⟨p, rfl, sq⟩ := (sv.ext e).sq (K := K)
    exact iteF ⟨_, rfl, p, [], rfl, sq, rfl, _, rfl, iteT ⟨by decide, raise_idx g e⟩⟩
  · -- names: the good ones ss, then perhaps a bad one
    obtain ⟨ss, xs, sv, hne, hl, good, rest⟩ : ∃ (ss : List Str) (xs : List V), SeqV H v xs ∧ xs ≠ [] ∧ ss.length ≤ 1000 ∧ Good ss ∧
        ((xs = ss.map V.str ∧ ∀ H', Same H H' → Q .non H') ∨ (∃ x r, xs = ss.map V.str ++ x :: r ∧ BadName K H ss x ∧ Goes C (ss.length : Nat) H E)) := by
      rcases h with ⟨ss, sv, hne, hl, good, q⟩ | ⟨ss, x, r, sv, hl, good, bad, g⟩
      · exact ⟨ss, _, sv, by simpa using hne, hl, good, .inl ⟨rfl, q⟩⟩
      · exact ⟨ss, _, sv, by simp, hl, good, .inr ⟨x, r, rfl, bad, g⟩⟩
    obtain ⟨t, ty, kt, st⟩ := sv.ty (K := K)
    refine ⟨_, rfl, v, t, rfl, ty, kt, fun H1 e1 => ⟨_, rfl, ?_⟩⟩
    rw [st]
    refine iteF ?_
    obtain ⟨p, rfl, hp⟩ := sv.ext e1
    have sq : SqA K H1 p xs := hp.imp (fun h => SqL.of h) (fun h => SqT.of h)
    have z0 : decide (V.int (xs.length : Int) = V.int 0) = false := decide_eq_false fun z => hne (List.length_eq_zero_iff.mp (by have := V.int.inj z; omega))
    refine ⟨_, rfl, p, xs, rfl, sq, rfl, _, rfl, ?_⟩
    rw [z0]
    refine iteF ?_
    refine ⟨rfl, fun sA hsA => ?_⟩
    have e2 : Same H (upd H1 sA (SetK P w sA (fun _ => false) 0)) := e1.trans (K1.Same.upd hsA)
    have hsA0 : H sA = none := e1.free hsA
    have sq2 : SqA K (upd H1 sA (SetK P w sA (fun _ => false) 0)) p xs := SqA.same (H := H1) sq (K1.Same.upd hsA)
    refine ⟨p, xs, rfl, sq2, fun J G wk hG => ?_⟩
    have xat : ∀ i (hi : i < ss.length), xs[i]? = some (.str ss[i]) := fun i hi => by
      rcases rest with ⟨rfl, _⟩ | ⟨x, r, rfl, _⟩
      · rw [List.getElem?_map, List.getElem?_eq_getElem hi]; rfl
      · rw [List.getElem?_append_left (by rw [List.length_map]; exact hi), List.getElem?_map, List.getElem?_eq_getElem hi]; rfl
    have lng : ss.length ≤ xs.length := by
      rcases rest with ⟨rfl, _⟩ | ⟨x, r, rfl, _⟩
      · simp
      · simp
    refine for_it wk (fun i σ Hc => i ≤ ss.length ∧ (∃ a b, σ = [some (.ref p), some (.ref sA), a, b]) ∧ Same H Hc ∧ (∀ c o, c ≠ sA → upd H1 sA (SetK P w sA (fun _ => false) 0) c = some o → Hc c = some o) ∧
      ∃ (S : Key → Bool) (k : Nat), Hc sA = some (SetK P w sA S k) ∧ k ≤ i ∧ ∀ u : Str, S (.inr u) = decide (u ∈ ss.take i)) ?_ ?_ ?_ ?_
    · exact ⟨Nat.zero_le _, ⟨_, _, rfl⟩, e2, fun c o _ h => h, _, 0, upd_same, Nat.le_refl _, fun u => by simp⟩
    · rintro i σ Hc hi ⟨h1, h2, h3, h4, h5⟩
      have pn : p ≠ sA := hp.elim (fun h => ne_of_none h hsA) (fun h => ne_of_none h hsA)
      exact hG Hc fun o ho => h4 p o pn ho
    · rintro i x σ Hc H' hi ⟨h1, ⟨sa, sb, rfl⟩, h3, h4, S, k, h5, h6, h7⟩ ⟨T, x1, x2, rfl, hT, rfl, e1', e2'⟩
      obtain rfl : x1 = .int (i : Nat) := (Option.some.inj e1').symm
      have e2' : xs[i]? = some x2 := e2'
      have hT2 := K1.Same.upd (H := Hc) (p := T) (o := .tup [.int (i : Nat), x2]) hT
      have eT : Same H (upd Hc T (.tup [.int (i : Nat), x2])) := h3.trans hT2
      refine ⟨T, _, rfl, SqT.of upd_same, rfl, _, _, rfl, _, _, rfl, rfl, ?_⟩
      by_cases hlt : i < ss.length
      · have ex2 : x2 = .str ss[i] := by
          have := xat i hlt
          rw [this] at e2'
          exact (Option.some.inj e2').symm
        subst ex2
        have gi := good.2 ss[i] (List.getElem_mem hlt)
        refine ⟨_, rfl, .str ss[i], rfl, .inl ⟨ss[i], rfl, gi.2, fun H2 f2 => ⟨_, rfl, ?_⟩⟩⟩
        rw [gi.1]
        refine iteF ?_
        have sA2 := f2 _ _ (hT2 _ _ h5)
        have nin : ¬ ss[i] ∈ ss.take i := fun hm => by
          obtain ⟨j, hj, ej⟩ := List.getElem_of_mem hm
          rw [List.length_take] at hj
          rw [List.getElem_take] at ej
          have := (List.getElem_inj good.1).mp ej
          omega
        refine ⟨_, rfl, _, rfl, .inr ss[i], sA, S, k, rfl, rfl, sA2, _, rfl, ?_⟩
        rw [h7, decide_eq_false nin]
        refine iteF ?_
        refine ⟨_, rfl, ⟨sA, S, k, rfl, sA2⟩, _, rfl, sA, .inr ss[i], S, k, rfl, rfl, sA2, (by show k + 1 < 4096; omega), ?_⟩
        refine ⟨hlt, ⟨_, _, rfl⟩, fun c o n => ?_, fun c o n1 n2 => ?_, _, _, upd_same, ?_, fun u => ?_⟩
        · rw [upd_ne (ne_of_none n hsA0)]
          exact f2 _ _ (eT _ _ n)
        · rw [upd_ne n1]
          exact f2 _ _ (hT2 _ _ (h4 c o n1 n2))
        · split <;> omega
        · show (S (.inr u) || decide ((Sum.inr u : Key) = Sum.inr ss[i])) = decide (u ∈ ss.take (i + 1))
          rw [h7, key_rr, ← Bool.decide_or]
          exact decide_eq_decide.mpr (mem_take_succ hlt).symm
      · rcases rest with ⟨rfl, _⟩ | ⟨x, r, hxs, bad, g⟩
        · rw [List.length_map] at hi
          exact absurd hi hlt
        · have ei : i = ss.length := by omega
          subst ei
          have ex2 : x2 = x := by
            rw [hxs, List.getElem?_append_right (by rw [List.length_map]; exact Nat.le_refl _), List.length_map, Nat.sub_self] at e2'
            exact (Option.some.inj e2').symm
          subst ex2
          rcases bad.ext eT with ⟨t, ty, kt, nt⟩ | ⟨u, rfl, hu1, hu2⟩
          · exact ⟨_, rfl, x2, rfl, .inr ⟨t, ty, kt, nt, _, rfl, iteT (iteT ⟨_, rfl, (by show 1 ≤ 1000; decide), raise_idx g eT⟩)⟩⟩
          · refine ⟨_, rfl, .str u, rfl, .inl ⟨u, rfl, hu1, fun H2 f2 => ⟨_, rfl, ?_⟩⟩⟩
            rcases hu2 with hu2 | hu2
            · rw [hu2]
              exact iteT (iteT ⟨_, rfl, (by show 1 ≤ 1000; decide), raise_idx g (eT.trans f2)⟩)
            · cases hn : nameOk u with
              | false => exact iteT (iteT ⟨_, rfl, (by show 1 ≤ 1000; decide), raise_idx g (eT.trans f2)⟩)
              | true =>
                refine iteF ?_
                refine ⟨_, rfl, _, rfl, .inr u, sA, S, k, rfl, rfl, f2 _ _ (hT2 _ _ h5), _, rfl, ?_⟩
                rw [h7, List.take_of_length_le (Nat.le_refl _), decide_eq_true hu2]
                exact iteT ⟨_, rfl, (by show 1 ≤ 1000; decide), raise_idx g (eT.trans f2)⟩
    · rintro σ Hc ⟨h1, h2, h3, h4, h5⟩
      rcases rest with ⟨rfl, q⟩ | ⟨x, r, rfl, bad, g⟩
      · exact q Hc h3
      · rw [List.length_append, List.length_map, List.length_cons] at h1
        omega
end
end K1
end
-- KUF
section
set_option Elab.async false
set_option linter.all false
set_option maxRecDepth 100000
set_option maxHeartbeats 4000000
namespace K1
open PySem PySem.Spec PyProof.Rows L2
/-- the dict of leaders: rt tells whom one comes to at last, rk falls on the way -/
structure UF (hs : List Str) (kvs : List (Key × V)) (rt : Str → Str) (rk : Str → Nat) : Prop where
  len : kvs.length ≤ hs.length
  ex : ∃ ld : Str → Str, (∀ s, valV kvs (.inr s) = if s ∈ hs then some (.str (ld s)) else none) ∧
    ∀ s ∈ hs, ld s ∈ hs ∧ rt (ld s) = rt s ∧ rt s ∈ hs ∧ (ld s = s → rt s = s) ∧ (ld s ≠ s → rk (ld s) < rk s) ∧ ld (rt s) = rt s
theorem putK_len {kvs : List (Key × V)} {k : Key} {v : V} (h : (valV kvs k).isSome = true) : (putK kvs k v).length = kvs.length := by
  unfold putK
  rw [← valV_any] at h
  rw [if_pos h, List.length_map]
theorem ite_rr {α : Type} (s x : Str) (p q : α) : (if (Sum.inr s : Key) = Sum.inr x then p else q) = if s = x then p else q := by
  by_cases e : s = x
  · rw [if_pos e, if_pos (by rw [e])]
  · rw [if_neg e, if_neg (fun z => e (Sum.inr.inj z))]
/-- the way is made shorter -/
theorem UF.halve {hs : List Str} {kvs : List (Key × V)} {rt : Str → Str} {rk : Str → Nat} {x : Str} (u : UF hs kvs rt rk) (hx : x ∈ hs) :
    ∃ y, valV kvs (.inr x) = some (.str y) ∧ y ∈ hs ∧ (y = x → rt x = x) ∧ (y ≠ x → ∃ z, valV kvs (.inr y) = some (.str z) ∧ z ∈ hs ∧ rk z < rk x ∧ rt z = rt x ∧ UF hs (putK kvs (.inr x) (.str z)) rt rk) := by
  obtain ⟨hl, ld, h1, h2⟩ := u
  have a := h2 x hx
  have b := h2 (ld x) a.1
  refine ⟨ld x, by rw [h1, if_pos hx], a.1, a.2.2.2.1, fun ne => ⟨ld (ld x), by rw [h1, if_pos a.1], b.1, ?_, by rw [b.2.1, a.2.1], ?_⟩⟩
  · have r1 := a.2.2.2.2.1 ne
    by_cases e : ld (ld x) = ld x
    · rw [e]; exact r1
    · exact Nat.lt_trans (b.2.2.2.2.1 e) r1
  · refine ⟨?_, fun s => if s = x then ld (ld x) else ld s, fun s => ?_, fun s hs' => ?_⟩
    · rw [putK_len (by rw [h1, if_pos hx]; rfl)]
      exact hl
    · rw [valV_put, ite_rr]
      show _ = if s ∈ hs then some (V.str (if s = x then ld (ld x) else ld s)) else none
      by_cases e : s = x
      · rw [if_pos e, if_pos e, e, if_pos hx]
      · rw [if_neg e, if_neg e, h1]
    · have c := h2 s hs'
      have rx : rt s ≠ x := fun e => by
        have q := c.2.2.2.2.2
        rw [e] at q
        exact ne q
      by_cases e : s = x
      · subst e
        simp only [if_true]
        refine ⟨b.1, by rw [b.2.1, a.2.1], c.2.2.1, fun e2 => ?_, fun e2 => ?_, by rw [if_neg rx]; exact c.2.2.2.2.2⟩
        · exfalso
          have r1 := a.2.2.2.2.1 ne
          by_cases e3 : ld (ld s) = ld s
          · rw [e3] at e2; exact ne e2
          · have r2 := b.2.2.2.2.1 e3
            rw [e2] at r2
            omega
        · have r1 := a.2.2.2.2.1 ne
          by_cases e3 : ld (ld s) = ld s
          · rw [e3]; exact r1
          · exact Nat.lt_trans (b.2.2.2.2.1 e3) r1
      · simp only [if_neg e, if_neg rx]
        exact c
theorem UF.start {hs : List Str} (nd : hs.Nodup) : UF hs (hs.map fun s => ((.inr s : Key), V.str s)) (fun s => s) (fun _ => 0) := by
  refine ⟨by rw [List.length_map]; exact Nat.le_refl _, fun s => s, fun s => ?_, fun s h => ⟨h, rfl, h, fun _ => rfl, fun e => absurd rfl e, rfl⟩⟩
  induction hs with
  | nil => rfl
  | cons a r ih =>
    have n := List.nodup_cons.mp nd
    by_cases e : a = s
    · subst e
      rw [List.map_cons, valV_pos rfl, if_pos (List.mem_cons_self ..)]
    · rw [List.map_cons, valV_neg (fun q => e (Sum.inr.inj q)), ih n.2]
      by_cases m : s ∈ r
      · rw [if_pos m, if_pos (List.mem_cons_of_mem _ m)]
      · rw [if_neg m, if_neg (fun q => (List.mem_cons.mp q).elim (fun z => e z.symm) m)]
/-- two that lead are joined -/
def joinRt (rt : Str → Str) (a b : Str) : Str → Str := fun s => if rt s = rt a then rt b else rt s
theorem UF.join {hs : List Str} {kvs : List (Key × V)} {rt : Str → Str} {rk : Str → Nat} {a b : Str} (u : UF hs kvs rt rk) (ha : a ∈ hs) (hb : b ∈ hs) (ne : rt a ≠ rt b) :
    ∃ rk', UF hs (putK kvs (.inr (rt a)) (.str (rt b))) (joinRt rt a b) rk' := by
  obtain ⟨hl, ld, h1, h2⟩ := u
  have ca := h2 a ha
  have cb := h2 b hb
  have rra : rt (rt a) = rt a := (h2 _ ca.2.2.1).2.2.2.1 ca.2.2.2.2.2
  have rrb : rt (rt b) = rt b := (h2 _ cb.2.2.1).2.2.2.1 cb.2.2.2.2.2
  refine ⟨fun s => if rt s = rt a then rk s + rk (rt b) + 1 else rk s, ?_, fun s => if s = rt a then rt b else ld s, fun s => ?_, fun s hs' => ?_⟩
  · rw [putK_len (by rw [h1, if_pos ca.2.2.1]; rfl)]
    exact hl
  · rw [valV_put, ite_rr]
    show _ = if s ∈ hs then some (V.str (if s = rt a then rt b else ld s)) else none
    by_cases e : s = rt a
    · rw [if_pos e, if_pos e, e, if_pos ca.2.2.1]
    · rw [if_neg e, if_neg e, h1]
  · have c := h2 s hs'
    unfold joinRt
    by_cases e : s = rt a
    · subst e
      simp only [if_true, rra, rrb, if_neg ne.symm]
      refine ⟨cb.2.2.1, trivial, cb.2.2.1, fun z => z, fun _ => by omega, cb.2.2.2.2.2⟩
    · simp only [if_neg e]
      rw [c.2.1]
      by_cases q : rt s = rt a
      · simp only [if_pos q, if_neg ne.symm, rrb]
        refine ⟨c.1, trivial, cb.2.2.1, fun z => ?_, fun z => ?_, cb.2.2.2.2.2⟩
        · exact absurd ((c.2.2.2.1 z).symm.trans q) e
        · have := c.2.2.2.2.1 z
          omega
      · simp only [if_neg q]
        refine ⟨c.1, trivial, c.2.2.1, c.2.2.2.1, c.2.2.2.2.1, ?_⟩
        exact c.2.2.2.2.2
end K1
end
-- KLead
section
set_option Elab.async false
set_option linter.all false
set_option maxRecDepth 100000
set_option maxHeartbeats 4000000
namespace K1
open PySem PySem.Spec PyProof.Rows L2
abbrev sLead : Stmt := top 26
abbrev sKeys : Stmt := top 25
def spLead : Sp := fun vs H Q _ => ∃ (a : Addr) (h : Str) (kvs : List (Key × V)) (hs : List Str) (rt : Str → Str) (rk : Str → Nat), vs = [.ref a, .str h] ∧ H a = some (.dK kvs) ∧ UF hs kvs rt rk ∧ h ∈ hs ∧ hs.length ≤ 1000 ∧
  ∀ kvs', UF hs kvs' rt rk → Q (.str (rt h)) (upd H a (.dK kvs'))
theorem scLead : FnScope ["leads", "house"] ["leads", "house"] (defScope sLead) := ⟨rfl, rfl, rfl, by decide +kernel, rfl, by decide +kernel, by decide +kernel⟩
def muLead (rk : Str → Nat) (σ : L2.St) : Nat := match σ with
  | [_, some (.str x)] => rk x
  | _ => 0
section
variable {P : Program} {w : World} {K : PySem.W.Frag} {mg : Str → Option Value} {base : Heap}
theorem ok_lead {f : Addr} {fd : FuncData} (F : Fun K "_leader" "_leader" sLead f fd) : FnOk P w K mg base CX0 1 f fd ["leads", "house"] spLead := by
  refine F.ok scLead (fun vs H Q E h => ?_) (fun cdv A outer s H vs Q E hr h => ?_)
  · obtain ⟨a, h, kvs, hs, rt, rk, rfl, _⟩ := h
    rfl
  obtain ⟨a, h, kvs, hs, rt, rk, rfl, ha, u, hh, hl, q⟩ := h
  have nd := scLead.nd
  have hu := hu_of hr
  refine ⟨_, pss_cons (by exact (ps_while PassesOwn.never (pt_cmpR op_ne (pe_dget hu (pv 0) (pv 1) (fun _ _ => rfl)) (pv 1) (nomark _))
      (pss_cons (by exact (ps_dput hu (pv 0) (pv 1) (pe_dget hu (pv 0) (pe_dget hu (pv 0) (pv 1) (fun _ _ => rfl)) (fun _ _ => rfl)) rfl))
      (pss_one (by exact (ps_set (i := 1) nd rfl (.inl rfl) (pe_dget hu (pv 0) (pv 1) (fun _ _ => rfl))))))))
    (pss_one (by exact (ps_ret (pv 1)))), ?_⟩
  refine while_by (fun σ Hc => ∃ kvs' x, σ = [some (.ref a), some (.str x)] ∧ Hc = upd H a (.dK kvs') ∧ UF hs kvs' rt rk ∧ x ∈ hs ∧ rt x = rt h) (fun σ _ => muLead rk σ) ⟨kvs, h, rfl, ?_, u, hh, rfl⟩ ?_ ?_
  · funext b
    by_cases e : b = a
    · rw [e, upd_same, ha]
    · rw [upd_ne e]
  · rintro σ Hc ⟨kvs', x, rfl, rfl, u', hx, er⟩
    obtain ⟨y, g1, hy, e1, e2⟩ := u'.halve hx
    have hd : upd H a (.dK kvs') a = some (.dK kvs') := upd_same
    have dg : ∀ {s z}, valV kvs' (.inr s) = some z → DGet (upd H a (.dK kvs')) a (.str s) (some z) := fun {s z} g => by
      have q := DGet.k (k := .inr s) hd
      rw [g] at q
      exact q
    refine ⟨_, rfl, _, rfl, a, .str y, rfl, dg g1, _, rfl, rfl, _, rfl, ?_⟩
    by_cases e : y = x
    · subst e
      rw [decide_eq_true rfl]
      refine iteF ⟨_, rfl, ?_⟩
      have := q kvs' u'
      rw [← er, e1 rfl] at this
      exact this
    · have ne : (!decide (V.str y = V.str x)) = true := by rw [decide_eq_false (fun z => e (V.str.inj z))]; rfl
      rw [ne]
      refine iteT ?_
      obtain ⟨z, g2, hz, lt, er2, u2⟩ := e2 e
      have dp : DPut (upd H a (.dK kvs')) a (.str x) (.str z) (upd (upd H a (.dK kvs')) a (.dK (putK kvs' (.inr x) (.str z)))) := DPut.k (k := .inr x) hd (Nat.lt_of_le_of_lt u'.len (small1000 hl))
      rw [upd_upd] at dp
      refine ⟨_, rfl, _, rfl, _, rfl, a, .str y, rfl, dg g1, a, .str z, rfl, dg g2, _, rfl, _, rfl, a, _, rfl, dp, ?_⟩
      have g3 : valV (putK kvs' (.inr x) (.str z)) (.inr x) = some (.str z) := by rw [valV_put, if_pos rfl]
      have dg3 : DGet (upd H a (.dK (putK kvs' (.inr x) (.str z)))) a (.str x) (some (.str z)) := by
        have q := DGet.k (k := .inr x) (show upd H a (.dK (putK kvs' (.inr x) (.str z))) a = some (.dK (putK kvs' (.inr x) (.str z))) from upd_same)
        rw [g3] at q
        exact q
      exact ⟨_, rfl, _, rfl, a, .str z, rfl, dg3, ⟨_, z, rfl, rfl, u2, hz, er2.trans er⟩, lt⟩
  · rintro σ Hc Q1 Q2 hQ ⟨v1, h1, v2, h2, a', v3, h3, h4, v5, h5, h6, k, h7, h8⟩
    exact ⟨v1, h1, v2, h2, a', v3, h3, h4, v5, h5, h6, k, h7, hQ _ _ h8⟩
end
end K1
end
-- KKeys
section
set_option Elab.async false
set_option linter.all false
set_option maxRecDepth 100000
set_option maxHeartbeats 4000000
namespace K1
open PySem PySem.Spec PyProof.Rows L2
def isKey (hs : List Str) : V → Bool
  | .str s => decide (s ∈ hs)
  | _ => false
/-- a text, or a value of another known type -/
def TextOr (K : PySem.W.Frag) (H : Hp) (x : V) : Prop := (∃ s, x = .str s) ∨ ∃ t, TyX K H x (.type t) ∧ t ∈ kinds ∧ t ≠ "str"
theorem TextOr.ext {K : PySem.W.Frag} {H H' : Hp} {x : V} (h : TextOr K H x) (e : Same H H') : TextOr K H' x := h.imp id fun ⟨t, a, b⟩ => ⟨t, TyX.ext a e, b⟩
theorem isKey_no {K : PySem.W.Frag} {H : Hp} {hs : List Str} {x : V} {t : String} (h : TyX K H x (.type t)) (n : t ≠ "str") : isKey hs x = false := by
  cases x with
  | str s =>
    exfalso
    cases h with
    | base b =>
      cases b with
      | str y => exact n rfl
  | _ => rfl
theorem dc_it {J : It} {n : Nat} {G : Hp → Prop} {Y : Nat → Hp → V → Hp → Prop} (w : Walk J n G Y) {g : TG} {tt : TT} {tk tv : TE} {vs : List Nat} {σ : L2.St} {H1 : Hp} {D : Addr} {Qd : Hp → Prop} (Pv : Nat → Hp → Prop) (h0 : Pv 0 (upd H1 D (.dK []))) (hG : ∀ i H, i ≤ n → Pv i H → G H)
    (hs : ∀ i x H H', i < n → Pv i H → Y i H x H' → g x (wipe σ vs) H' fun σ2 H2 => wipe σ2 vs = wipe σ vs ∧ tt σ2 H2 fun b H3 =>
      if b = true then tk σ2 H3 fun y H4 => tv σ2 H4 fun z H5 => ∃ kvs k, y = kV k ∧ H5 D = some (.dK kvs) ∧ kvs.length < sizeLine ∧ Pv (i + 1) (upd H5 D (.dK (putK kvs k z))) else Pv (i + 1) H3) (hd : ∀ H, Pv n H → Qd H) :
    ∃ W : Nat → Nat → Hp → Prop, (∃ m, W 0 m (upd H1 D (.dK []))) ∧ ∀ i m H, W i m H →
      (J.stop i H ∧ Qd H) ∨ (J.go i H ∧ ∃ Nx : Hp → Prop, (∀ H', Nx H' → ∃ m', m' < m ∧ W (i + 1) m' H') ∧ ∀ x H', J.yld i H x H' → g x (wipe σ vs) H' fun σ2 H2 => wipe σ2 vs = wipe σ vs ∧ tt σ2 H2 fun b H3 =>
        if b = true then tk σ2 H3 fun y H4 => tv σ2 H4 fun z H5 => ∃ kvs k, y = kV k ∧ H5 D = some (.dK kvs) ∧ kvs.length < sizeLine ∧ Nx (upd H5 D (.dK (putK kvs k z))) else Nx H3) := by
  refine ⟨fun i m H => m = n - i ∧ i ≤ n ∧ Pv i H, ⟨n, by simp, Nat.zero_le _, h0⟩, ?_⟩
  rintro i m H ⟨rfl, hi, p⟩
  have q := hG i H hi p
  by_cases hlt : i < n
  · exact .inr ⟨w.goes i H hlt q, Pv (i + 1), fun H' p' => ⟨n - (i + 1), by omega, rfl, hlt, p'⟩, fun x H' y => hs i x H H' hlt p (w.yields i H x H' hlt q y)⟩
  · have e : i = n := by omega
    subst e
    exact .inl ⟨w.stops H q, hd H p⟩
def spKeys (K : PySem.W.Frag) : Sp := fun vs H Q _ => ∃ (v : V) (d : Addr) (xs : List V) (kvs : List (Key × V)) (hs : List Str), vs = [v, .ref d] ∧ SeqV H v xs ∧ xs.length ≤ 1000 ∧ (∀ x ∈ xs, TextOr K H x) ∧ H d = some (.dK kvs) ∧ (∀ s, (valV kvs (.inr s)).isSome = decide (s ∈ hs)) ∧
  ∀ H', Same H H' → Q (.bl (xs.all (isKey hs))) H'
theorem scKeys : FnScope ["things", "table", "thing"] ["things", "table"] (defScope sKeys) := ⟨rfl, rfl, rfl, by decide +kernel, rfl, by decide +kernel, by decide +kernel⟩
section
variable {P : Program} {w : World} {K : PySem.W.Frag} {mg : Str → Option Value} {base : Heap}
theorem ok_keys {f : Addr} {fd : FuncData} (F : Fun K "_are_keys" "_are_keys" sKeys f fd) (B : Bl mg) : FnOk P w K mg base CX0 1 f fd ["things", "table"] (spKeys K) := by
  refine F.ok scKeys (fun vs H Q E h => ?_) (fun cdv A outer s H vs Q E hr h => ?_)
  · obtain ⟨v, d, xs, kvs, hs, rfl, _⟩ := h
    rfl
  obtain ⟨v, d, xs, kvs, hs, rfl, sv, hl, ht, hd, hk, q⟩ := h
  have nd := scKeys.nd
  have hu := hu_of hr
  refine ⟨_, pss_one (by exact ps_ret (pe_callB (cr_all rfl) rfl B.all PyProof.Rows.boot_all (pa_cons (pe_lc (own := [("thing", 2)]) (g := gName 2) (tt := tYes)
      (te := tAndV (tCB (rIsi K) (tCons (tVar 2) (tCons (tC (.ty "str")) tNil))) (tDIn (tVar 2) (tVar 1))) rfl nd (by exact pi_seqV 0 (pv 0))
        (by exact blkOk_by (N := ["things", "table", "thing"]) (sc := defScope sKeys) (by decide +kernel)) (fun _ _ _ _ _ => by exact pg_name (i := 2) nd rfl (Or.inl rfl)) (fun _ _ _ _ _ => pts_nil)
        (fun _ _ _ _ _ => by exact pe_and (pe_callB call_isi rfl B.isi PyProof.Rows.boot_isinstance (pa_cons (pv 2) (pa_cons (pe_bltn (v := .ty "str") rfl B.str PyProof.Rows.boot_str rfl) pa_nil))) (pe_one (pe_cmp (pc_din hu (pv 2) (pv 1)) (by with_unfolding_all rfl))))) pa_nil))), ?_⟩
  obtain ⟨p, rfl, hp⟩ := sv
  have sq : SqA K H p xs := hp.imp (fun h => SqL.of h) (fun h => SqT.of h)
  refine ⟨p, xs, rfl, sq, fun J G wk hG D hD => ?_⟩
  refine lc_it wk (fun i Hc => Same H Hc ∧ Hc D = some (.lst (((xs.take i).map (isKey hs)).map V.bl))) ⟨K1.Same.upd hD, upd_same⟩ (fun i Hc _ h => hG Hc fun o ho => h.1 _ _ ho) ?_ ?_
  · rintro i x Hc H' hi ⟨e1, e2⟩ ⟨rfl, hx⟩
    refine ⟨rfl, ?_⟩
    unfold tYes
    refine iteT ?_
    have fin : ∀ b, b = isKey hs x → ∃ acc, H' D = some (.lst acc) ∧ acc.length < sizeLine ∧ Same H (upd H' D (.lst (acc ++ [.bl b]))) ∧ upd H' D (.lst (acc ++ [.bl b])) D = some (.lst (((xs.take (i + 1)).map (isKey hs)).map V.bl)) := fun b hb => by
      refine ⟨_, e2, ?_, fun a o n => ?_, ?_⟩
      · rw [List.length_map, List.length_map]
        exact small1000 (Nat.le_trans (List.length_take_le _ _) (by omega))
      · rw [upd_ne (ne_of_none n hD)]
        exact e1 a o n
      · rw [upd_same, map_take_succ hx, List.map_append, hb]
        rfl
    rcases (ht x (List.mem_of_getElem? hx)).ext e1 with ⟨s, rfl⟩ | ⟨t, ty, kt, nt⟩
    · refine ⟨_, rfl, .str s, _, _, _, _, rfl, .ty "str", .base (.str s), kit_str (t := "str") (by decide), _, rfl, ?_⟩
      refine iteT ⟨_, rfl, _, rfl, d, _, rfl, DGet.k (k := .inr s) (e1 _ _ hd), fin _ ?_⟩
      rw [hk]
      rfl
    · refine ⟨_, rfl, x, _, _, _, _, rfl, .ty "str", ty, kit_str kt, _, rfl, ?_⟩
      rw [decide_eq_false nt]
      exact iteF (fin _ (isKey_no ty nt).symm)
  · rintro Hc ⟨e1, e2⟩
    refine ⟨D, _, rfl, SqL.of e2, ?_⟩
    have : ((xs.take xs.length).map (isKey hs)).all id = xs.all (isKey hs) := by
      rw [List.take_length, List.all_map]
      rfl
    rw [this]
    exact q Hc e1
end
end K1
end
-- KRoads
section
set_option Elab.async false
set_option linter.all false
set_option maxRecDepth 100000
set_option maxHeartbeats 4000000
namespace K1
open PySem PySem.Spec PyProof.Rows L2
abbrev sNR : Stmt := top 24
/-- whom one comes to, these roads joined one after another -/
def rtOf (rs : List (Str × Str)) : Str → Str := rs.foldl (fun rt e => joinRt rt e.1 e.2) fun s => s
theorem rtOf_snoc {rs : List (Str × Str)} {e : Str × Str} : rtOf (rs ++ [e]) = joinRt (rtOf rs) e.1 e.2 := by
  unfold rtOf
  rw [List.foldl_append]
  rfl
theorem rtOf_succ {rs : List (Str × Str)} {i : Nat} (h : i < rs.length) : rtOf (rs.take (i + 1)) = joinRt (rtOf (rs.take i)) rs[i].1 rs[i].2 := by
  rw [List.take_add_one, List.getElem?_eq_getElem h]
  exact rtOf_snoc
def EndsIn (ss : List Str) (rs : List (Str × Str)) : Prop := ∀ r ∈ rs, r.1 ∈ ss ∧ r.2 ∈ ss
def Forest (rs : List (Str × Str)) : Prop := ∀ i (h : i < rs.length), rtOf (rs.take i) rs[i].1 ≠ rtOf (rs.take i) rs[i].2
def PairV (H : Hp) (x : V) (r : Str × Str) : Prop := SeqV H x [.str r.1, .str r.2]
def BadRoad (K : PySem.W.Frag) (H : Hp) (ss : List Str) (rs : List (Str × Str)) (x : V) : Prop :=
  NoSeq K H x ∨ (∃ ys, SeqV H x ys ∧ ys.length ≠ 2) ∨ (∃ y z, SeqV H x [y, z] ∧ TextOr K H y ∧ TextOr K H z ∧ (isKey ss y && isKey ss z) = false) ∨
  (∃ a b, SeqV H x [.str a, .str b] ∧ a ∈ ss ∧ b ∈ ss ∧ rtOf rs a = rtOf rs b)
theorem BadRoad.ext {K : PySem.W.Frag} {H H' : Hp} {ss : List Str} {rs : List (Str × Str)} {x : V} (h : BadRoad K H ss rs x) (e : Same H H') : BadRoad K H' ss rs x := by
  rcases h with h | ⟨ys, h, n⟩ | ⟨y, z, h, a, b, c⟩ | ⟨a, b, h, q⟩
  · exact .inl (h.ext e)
  · exact .inr (.inl ⟨ys, h.ext e, n⟩)
  · exact .inr (.inr (.inl ⟨y, z, h.ext e, a.ext e, b.ext e, c⟩))
  · exact .inr (.inr (.inr ⟨a, b, h.ext e, q⟩))
theorem paired_get {α β : Type} {F : α → β → Prop} : ∀ {xs : List α} {ys : List β}, Paired F xs ys → ∀ {i : Nat} (h : i < ys.length), ∃ x, xs[i]? = some x ∧ F x ys[i]
  | _, _, .cons f r, 0, _ => ⟨_, rfl, f⟩
  | _, _, .cons f r, i + 1, h => by
    obtain ⟨x, e, q⟩ := paired_get r (i := i) (by simpa using h)
    exact ⟨x, by simpa using e, q⟩
theorem paired_imp {α β : Type} {F G : α → β → Prop} (h : ∀ a b, F a b → G a b) : ∀ {xs : List α} {ys : List β}, Paired F xs ys → Paired G xs ys
  | _, _, .nil => .nil
  | _, _, .cons f r => .cons (h _ _ f) (paired_imp h r)
theorem ixA {K : PySem.W.Frag} {H : Hp} {v y : V} {xs : List V} {i : Int} {Q : VK} (s : SeqV H v xs) (e : atI xs i = some y) (q : Q y H) : rIx K v (.int i) H Q := by
  obtain ⟨p, rfl, h | h⟩ := s
  · exact .inl ⟨p, xs, i, y, rfl, rfl, SqL.of h, e, q⟩
  · exact .inr (.inl ⟨p, xs, i, y, rfl, rfl, SqT.of h, e, q⟩)
section
variable {X : Cx}
/-- name = {..} on one line, the name a local -/
theorem ps_setDc {i : Nat} {y : Str} {py : Pos} {kx vx tg iter : Expr} {ifs : List Expr} {scope : Scope} {own : List (Str × Nat)} {pos spos : Pos} {wi : TI} {g : TG} {tt : TT} {tk tv : TE} (hc : X.calm = true) (hN : X.N.Nodup) (hy : X.N[i]? = some y) (hyl : X.env.scope.names.lookup y = some .local)
    (hsw : swapsWith (.DictComp kx vx [⟨tg, iter, ifs, 0⟩] scope pos) (some (.Name y py)) spos.line X.env = pure true) (hi : PI X tg iter wi) (ok : BlkOk X.N X.env.scope scope own)
    (hg : ∀ (s : Shared) (H : Hp) (C : Addr) (cl : List (Str × Addr)) (fp : List Addr), PG (X.blk s H scope (compEnvC scope cl C X.env) fp) tg g) (ht : ∀ (s : Shared) (H : Hp) (C : Addr) (cl : List (Str × Addr)) (fp : List Addr), PTs (X.blk s H scope (compEnvC scope cl C X.env) fp) ifs tt)
    (hk : ∀ (s : Shared) (H : Hp) (C : Addr) (cl : List (Str × Addr)) (fp : List Addr), PE (X.blk s H scope (compEnvC scope cl C X.env) fp) kx tk)
    (he : ∀ (s : Shared) (H : Hp) (C : Addr) (cl : List (Str × Addr)) (fp : List Addr), PE (X.blk s H scope (compEnvC scope cl C X.env) fp) vx tv) (hs : ∀ x, foldedSetIterable iter X.env x = pure x := by intro _; rfl) :
    PS X (.Assign [.Name y py] (.DictComp kx vx [⟨tg, iter, ifs, 0⟩] scope pos) spos) (tAsg (tDc wi g tt tk tv (own.map (·.2))) (gName i)) := by
  refine ⟨fun pins s σ H D I h => ?_⟩
  rw [exec_Assign_Name_used _ _ _ _ hsw]
  refine wpAny_bind (wpAny_standAt (wpAny_bind ?_))
  show wpAny _ X.A (do let _ ← comprehension (.DictComp kx vx [⟨tg, iter, ifs, 0⟩] scope pos) scope X.env (firstIterPos [⟨tg, iter, ifs, 0⟩] pos) newDict false (eval iter X.env) (some (assign (.Name y py) X.env))) _ _ s
  have h : tDc wi g tt tk tv (own.map (·.2)) σ H (fun x H1 => gName i x σ H1 D.nx) := h
  refine wpAny_bind (thn (dc_core (Qf := fun _ s' => SP X pins D .next s') hc hN I hi ok hg ht hk he hs h fun L C s' m H' I' q hn f => ?_) fun _ s' hq => wpAny_pure (wpAny_pure hq))
  show wpAny _ _ (assign (.Name y py) X.env (.ref L)) _ _ _
  refine wpAny_assign_Name (store_ok2 (v := V.ref L) I' hN hy (.inl hyl) rfl (fun s2 I2 ⟨a, sb, ha⟩ => ?_) (.inr hyl))
  obtain ⟨f0, f1, f2, f3, f4, f5⟩ := f
  have haC : C ≠ a := by
    rcases ha with z | z
    · rw [z]; exact f1
    · exact fun e => f4 y a z e.symm
  refine ⟨m, hn.sameBut sb haC, fun h3 sb3 => ?_⟩
  exact ⟨_, H', I2.turned (t' := s2.toks) (fun b o hb e => (sb3.2 b hb).trans e) f0 f1 f3 f4 f5, q⟩
theorem sw_trueD {kx vx : Expr} {gs : List Comprehension} {scope : Scope} {pos py : Pos} {y : Str} {l : Nat} {env : Env} (hk : env.scope.kind = .function) (hy : env.scope.names.lookup y = some .local) (hl : (py.line == pos.line) = true)
    (ha : (scope.names.any fun (n, k) => n == y && (k == .local || k == .cell)) = false) : swapsWith (.DictComp kx vx gs scope pos) (some (.Name y py)) l env = pure true := by
  have ky : env.kindOf y = some .local := hy
  have hb : env.blockKind = .function := by unfold Env.blockKind; rw [hk]; rfl
  unfold swapsWith
  simp only [hb, ky, ha, Expr.pos, hl]
  rfl
end
def spNR (K : PySem.W.Frag) (C : Addr) : Sp := fun vs H Q E => ∃ u v ss, vs = [u, v] ∧ SeqV H u (ss.map V.str) ∧ Good ss ∧ ss.length ≤ 1000 ∧
  ((NoSeq K H v ∧ Goes C 0 H E) ∨
   ∃ (vs : List V) (rs : List (Str × Str)) (tail : List V), SeqV H v (vs ++ tail) ∧ Paired (PairV H) vs rs ∧ EndsIn ss rs ∧ Forest rs ∧
    ((tail = [] ∧ rs.length + 1 = ss.length ∧ ∀ H', Same H H' → Q .non H') ∨ (tail = [] ∧ rs.length + 1 ≠ ss.length ∧ Goes C (rs.length : Nat) H E) ∨
     (∃ x rest, tail = x :: rest ∧ BadRoad K H ss rs x ∧ Goes C (rs.length : Nat) H E)))
theorem scNR : FnScope ["houses", "roads", "leads", "index", "road", "one", "other", "house"] ["houses", "roads"] (defScope sNR) := ⟨rfl, rfl, rfl, by decide +kernel, rfl, by decide +kernel, by decide +kernel⟩
section
variable {P : Program} {w : World} {K : PySem.W.Frag} {mg : Str → Option Value} {base : Heap} {CF : Addr}
theorem UF.some {hs : List Str} {kvs : List (Key × V)} {rt : Str → Str} {rk : Str → Nat} (u : UF hs kvs rt rk) (s : Str) : (valV kvs (.inr s)).isSome = decide (s ∈ hs) := by
  obtain ⟨_, ld, h1, _⟩ := u
  rw [h1]
  by_cases e : s ∈ hs
  · rw [if_pos e, decide_eq_true e]; rfl
  · rw [if_neg e, decide_eq_false e]; rfl
theorem nodup_take_not {ss : List Str} (h : ss.Nodup) {i : Nat} (hi : i < ss.length) : ¬ ss[i] ∈ ss.take i := fun hm => by
  obtain ⟨j, hj, ej⟩ := List.getElem_of_mem hm
  rw [List.length_take] at hj
  rw [List.getElem_take] at ej
  have := (List.getElem_inj h).mp ej
  omega
theorem ok_NR {f g fP fK fL fE C : Addr} {fd gd pd kd ld ed : FuncData} (F : Fun K "_need_roads" "_need_roads" sNR f fd) (B : Bl mg) (me : mg "enumerate" = none)
    (FI : Fun K "is_list" "is_list" sIsList g gd) (b : Binds K gd ["thing"] []) (m : mg "is_list" = some (.ref g))
    (FP : Fun K "is_pair" "is_pair" sIsPair fP pd) (bP : Binds K pd ["thing"] []) (mP : mg "is_pair" = some (.ref fP))
    (FK : Fun K "_are_keys" "_are_keys" sKeys fK kd) (bK : Binds K kd ["things", "table"] []) (mK : mg "_are_keys" = some (.ref fK))
    (FL : Fun K "_leader" "_leader" sLead fL ld) (bL : Binds K ld ["leads", "house"] []) (mL : mg "_leader" = some (.ref fL))
    (T : FeC K mg CF) (TC : ErC K mg "BadRoads" C fE) (FE : Fun K "__init__" "BadRoads.__init__" sIR fE ed) (bE : Binds K ed ["self", "index"] []) :
    FnOk P w K mg base (L2.CX P w) 4 f fd ["houses", "roads"] (spNR K C) := by
  have G := ok_isList (P := P) (w := w) (base := base) FI B
  have GP := ok_isPair (P := P) (w := w) (base := base) FP FI b m B
  have GK := ok_keys (P := P) (w := w) (base := base) FK B
  have GL := ok_lead (P := P) (w := w) (mg := mg) (base := base) FL
  have GE := ok_iR (P := P) (w := w) (base := base) FE T TC
  refine F.okX scNR (fun vs H Q E h => ?_) (fun cdv A outer s H vs Q E hr h => ?_)
  · obtain ⟨u, v, ss, rfl, _⟩ := h
    rfl
  obtain ⟨u, v, ss, rfl, su, good, hl, h⟩ := h
  have nd := scNR.nd
  have hu := hu_of hr
  have hr1 : Room 1 _ := hr.mono (by decide)
  have hr2 : Room 2 _ := hr.mono (by decide)
  refine ⟨_, pss_cons (by exact (ps_if (pt_not (pt_val (pe_call G hr1 rfl m FI.kp b .nil pass0 (pa_cons (pv 1) pa_nil))))
      (pss_one (by exact (ps_raise rfl (takes_of rfl rfl rfl rfl) (pmk_oex TC.ox TC.ini TC.ty GE hr2 bE .nil pass0 rfl TC.m (pa_cons pe_int pa_nil))))) pss_nil))
    (pss_cons (by exact (ps_setDc (i := 2) (own := [("house", 7)]) (g := gName 7) (tt := tYes) rfl nd rfl rfl (sw_trueD rfl rfl rfl (by decide +kernel)) (by exact pi_seqV 0 (pv 0))
        (by exact blkOk_by (N := ["houses", "roads", "leads", "index", "road", "one", "other", "house"]) (sc := defScope sNR) (by decide +kernel)) (fun _ _ _ _ _ => by exact pg_name (i := 7) nd rfl (Or.inl rfl)) (fun _ _ _ _ _ => pts_nil) (fun _ _ _ _ _ => pv 7) (fun _ _ _ _ _ => pv 7)))
    (pss_cons (by exact (ps_for (passes_of rfl) rfl (by exact pi_enumV 1 rfl me (pv 1)) (pg_tup rfl (pgs_cons (pg_name (i := 3) nd rfl (.inl rfl)) (pgs_cons (pg_name (i := 4) nd rfl (.inl rfl)) pgs_nil)))
      (pss_cons (by exact (ps_if (PW.pt (pw_or (pt_not (pt_val (pe_call GP hr2 rfl mP FP.kp bP .nil pass0 (pa_cons (pv 4) pa_nil)))) (pw_or1 (pt_not (pt_val (pe_call GK hr1 rfl mK FK.kp bK .nil pass0 (pa_cons (pv 4) (pa_cons (pv 2) pa_nil))))))))
          (pss_one (by exact (ps_raise rfl (takes_of rfl rfl rfl rfl) (pmk_oex TC.ox TC.ini TC.ty GE hr2 bE .nil pass0 rfl TC.m (pa_cons (pv 3) pa_nil))))) pss_nil))
      (pss_cons (by exact (ps_set (i := 5) nd rfl (.inl rfl) (pe_call GL hr1 rfl mL FL.kp bL .nil pass0 (pa_cons (pv 2) (pa_cons (pe_ix ix_seq (pv 4) pe_int (fun _ _ => rfl)) pa_nil)))))
      (pss_cons (by exact (ps_set (i := 6) nd rfl (.inl rfl) (pe_call GL hr1 rfl mL FL.kp bL .nil pass0 (pa_cons (pv 2) (pa_cons (pe_ix ix_seq (pv 4) pe_int (fun _ _ => rfl)) pa_nil)))))
      (pss_cons (by exact (ps_if (pt_cmpR op_eq (pv 5) (pv 6) (nomark _))
          (pss_one (by exact (ps_raise rfl (takes_of rfl rfl rfl rfl) (pmk_oex TC.ox TC.ini TC.ty GE hr2 bE .nil pass0 rfl TC.m (pa_cons (pv 3) pa_nil))))) pss_nil))
      (pss_one (by exact (ps_dput hu (pv 2) (pv 5) (pv 6) rfl)))))))))
    (pss_one (by exact (ps_if (pt_cmpR op_ne (pe_callB call_len_seq rfl B.len PySem.boot_len (pa_cons (pv 1) pa_nil)) (pe_op op_sub (pe_callB call_len_seq rfl B.len PySem.boot_len (pa_cons (pv 0) pa_nil)) pe_int) (nomark _))
          (pss_one (by exact (ps_raise rfl (takes_of rfl rfl rfl rfl) (pmk_oex TC.ox TC.ini TC.ty GE hr2 bE .nil pass0 rfl TC.m (pa_cons (pe_callB call_len_seq rfl B.len PySem.boot_len (pa_cons (pv 1) pa_nil)) pa_nil))))) pss_nil))))), ?_⟩
  rcases h with ⟨⟨t, ty, kt, nt⟩, g⟩ | ⟨vs, rs, tail, sv, prs, ends, forest, rest⟩
  · refine ⟨_, rfl, v, t, rfl, ty, kt, fun H' e => ⟨_, rfl, ?_⟩⟩
    rw [nt]
    exact iteT ⟨(by show 1 ≤ 1000; decide), raise_idx g e⟩
  obtain ⟨t, ty, kt, st⟩ := sv.ty (K := K)
  refine ⟨_, rfl, v, t, rfl, ty, kt, fun H1 e1 => ⟨_, rfl, ?_⟩⟩
  rw [st]
  refine iteF ?_
  obtain ⟨p, rfl, hp⟩ := sv.ext e1
  have sq : SqA K H1 p (vs ++ tail) := hp.imp (fun h => SqL.of h) (fun h => SqT.of h)
  obtain ⟨p2, rfl, hp2⟩ := su.ext e1
  have sq2 : SqA K H1 p2 (ss.map V.str) := hp2.imp (fun h => SqL.of h) (fun h => SqT.of h)
  have lvs : vs.length = rs.length := prs.length
  have prs1 : Paired (PairV H1) vs rs := paired_imp (fun _ _ q => SeqV.ext q e1) prs
  -- the dict of leaders
  refine ⟨p2, _, rfl, sq2, fun J G wk hG L hL => ?_⟩
  refine dc_it wk (fun i Hc => Same H1 Hc ∧ Hc L = some (.dK ((ss.take i).map fun s => ((.inr s : Key), V.str s)))) ⟨K1.Same.upd hL, upd_same⟩ (fun i Hc _ h => hG Hc fun o ho => h.1 _ _ ho) ?_ ?_
  · rintro i x Hc H' hi ⟨f1, f2⟩ ⟨rfl, hx⟩
    rw [List.length_map] at hi
    have ex : x = .str ss[i] := by
      have q : (ss.map V.str)[i]? = some x := hx
      rw [List.getElem?_map, List.getElem?_eq_getElem hi] at q
      exact (Option.some.inj q).symm
    subst ex
    refine ⟨rfl, ?_⟩
    unfold tYes
    refine iteT ?_
    refine ⟨_, rfl, _, rfl, _, .inr ss[i], rfl, f2, ?_, fun a o n => ?_, ?_⟩
    · rw [List.length_map]
      exact small1000 (Nat.le_trans (List.length_take_le _ _) (by omega))
    · rw [upd_ne (ne_of_none n hL)]
      exact f1 a o n
    · have nw : valV ((ss.take i).map fun s => ((.inr s : Key), V.str s)) (.inr ss[i]) = none := by
        have u := (UF.start (hs := ss.take i) (good.1.sublist (List.take_sublist _ _)))
        have := u.some ss[i]
        rw [decide_eq_false (nodup_take_not good.1 hi)] at this
        exact Option.not_isSome_iff_eq_none.mp (by rw [this]; exact Bool.false_ne_true)
      rw [upd_same, putK_new _ nw, map_take_succ (List.getElem?_eq_getElem hi)]
  rintro H2 ⟨f1, f2⟩
  rw [List.length_map, List.take_length] at f2
  have e2 : Same H H2 := e1.trans f1
  have hL0 : H L = none := e1.free hL
  refine ⟨p, _, rfl, SqA.same sq f1, fun J G wk hG => ?_⟩
  have xat : ∀ i (hi : i < rs.length), ∃ x, (vs ++ tail)[i]? = some x ∧ PairV H1 x rs[i] := fun i hi => by
    obtain ⟨x, a, b⟩ := paired_get prs1 hi
    exact ⟨x, by rw [List.getElem?_append_left (by omega)]; exact a, b⟩
  have lng : rs.length ≤ (vs ++ tail).length := by rw [List.length_append]; omega
  refine for_it wk (fun i σ Hc => i ≤ rs.length ∧ (∃ a b c d, σ = [some (.ref p2), some (.ref p), some (.ref L), a, b, c, d, none]) ∧ Same H1 Hc ∧ ∃ kvs rk, Hc L = some (.dK kvs) ∧ UF ss kvs (rtOf (rs.take i)) rk) ?_ ?_ ?_ ?_
  · exact ⟨Nat.zero_le _, ⟨_, _, _, _, rfl⟩, f1, _, _, f2, UF.start good.1⟩
  · rintro i σ Hc hi ⟨h1, h2, h3, h4⟩
    refine hG Hc fun o ho => ?_
    have : ∀ o', H1 p = some o' → Hc p = some o := fun o' q => by
      have q2 := f1 _ _ q
      rw [ho] at q2
      rw [Option.some.inj q2]
      exact h3 _ _ q
    exact hp.elim (this _) (this _)
  · rintro i x σ Hc H' hi ⟨h1, ⟨sa, sb, sc, sd, rfl⟩, h3, kvs, rk, h4, uf⟩ ⟨T, x1, x2, rfl, hT, rfl, e1', e2'⟩
    obtain rfl : x1 = .int (i : Nat) := (Option.some.inj e1').symm
    have e2' : (vs ++ tail)[i]? = some x2 := e2'
    have hT2 := K1.Same.upd (H := Hc) (p := T) (o := .tup [.int (i : Nat), x2]) hT
    have eT : Same H1 (upd Hc T (.tup [.int (i : Nat), x2])) := h3.trans hT2
    refine ⟨T, _, rfl, SqT.of upd_same, rfl, _, _, rfl, _, _, rfl, rfl, ?_⟩
    by_cases hlt : i < rs.length
    · obtain ⟨y, ey, py⟩ := xat i hlt
      have ex2 : x2 = y := Option.some.inj (e2'.symm.trans ey)
      subst ex2
      have ee := ends _ (List.getElem_mem hlt)
      have sx : SeqV (upd Hc T (.tup [.int (i : Nat), x2])) x2 [.str rs[i].1, .str rs[i].2] := SeqV.ext py eT
      refine ⟨_, rfl, x2, rfl, .inl ⟨_, sx, fun H3 g3 => ⟨_, rfl, ?_⟩⟩⟩
      refine iteF ⟨_, rfl, _, rfl, x2, L, _, kvs, ss, rfl, sx.ext g3, (by show 2 ≤ 1000; decide), fun z hz => ?_, g3 _ _ (hT2 _ _ h4), uf.some, fun H4 g4 => ⟨_, rfl, ?_⟩⟩
      · rcases List.mem_cons.mp hz with rfl | hz
        · exact .inl ⟨_, rfl⟩
        · rcases List.mem_cons.mp hz with rfl | hz
          · exact .inl ⟨_, rfl⟩
          · cases hz
      have z1 : ([V.str rs[i].1, V.str rs[i].2].all (isKey ss)) = true := by
        show (decide (rs[i].1 ∈ ss) && (decide (rs[i].2 ∈ ss) && true)) = true
        rw [decide_eq_true ee.1, decide_eq_true ee.2]
        rfl
      rw [z1]
      refine iteF ?_
      have s4 := (sx.ext g3).ext g4
      have L4 : H4 L = some (.dK kvs) := g4 _ _ (g3 _ _ (hT2 _ _ h4))
      have e4 : Same H1 H4 := eT.trans (g3.trans g4)
      refine ⟨_, rfl, _, rfl, ixA s4 rfl ⟨L, _, kvs, ss, _, rk, rfl, L4, uf, ee.1, hl, fun k1 u1 => ?_⟩⟩
      have xL : ∀ {o}, H1 L = some o → False := fun q => by rw [hL] at q; cases q
      have up : ∀ {Hx : Hp} {o : HO}, Same H1 Hx → Same H1 (upd Hx L o) := fun e b o n => by
        rw [upd_ne (ne_of_none n hL)]
        exact e b o n
      have s5 : SeqV (upd H4 L (.dK k1)) x2 [.str rs[i].1, .str rs[i].2] := SeqV.ext py (up e4)
      refine ⟨_, rfl, _, rfl, ixA s5 rfl ⟨L, _, k1, ss, _, rk, rfl, upd_same, u1, ee.2, hl, fun k2 u2 => ?_⟩⟩
      rw [upd_upd]
      refine ⟨_, rfl, _, rfl, rfl, _, rfl, ?_⟩
      have ne := forest i hlt
      rw [decide_eq_false (fun q => ne (V.str.inj q))]
      obtain ⟨rk', u3⟩ := u2.join ee.1 ee.2 ne
      have dp : DPut (upd H4 L (.dK k2)) L (.str (rtOf (rs.take i) rs[i].1)) (.str (rtOf (rs.take i) rs[i].2)) (upd (upd H4 L (.dK k2)) L (.dK (putK k2 (.inr (rtOf (rs.take i) rs[i].1)) (.str (rtOf (rs.take i) rs[i].2))))) := DPut.k (k := .inr _) upd_same (Nat.lt_of_le_of_lt u2.len (small1000 hl))
      rw [upd_upd] at dp
      refine iteF ⟨_, rfl, _, rfl, _, rfl, L, _, rfl, dp, hlt, ⟨_, _, _, _, rfl⟩, up e4, _, rk', upd_same, ?_⟩
      rw [rtOf_succ hlt]
      exact u3
    · have ei : i = rs.length := by omega
      subst ei
      rcases rest with ⟨rfl, _⟩ | ⟨rfl, _⟩ | ⟨x, rst, rfl, bad, g⟩
      · rw [List.append_nil] at hi
        omega
      · rw [List.append_nil] at hi
        omega
      have ex2 : x2 = x := by
        rw [List.getElem?_append_right (by omega), ← lvs, Nat.sub_self] at e2'
        exact (Option.some.inj e2').symm
      subst ex2
      have eT0 := e1.trans eT
      rcases bad.ext eT0 with bad | ⟨ys, sy, ny⟩ | ⟨y, z, sy, ty1, ty2, nk⟩ | ⟨a, b, sy, ha, hb, eq⟩
      · exact ⟨_, rfl, x2, rfl, .inr ⟨bad, fun H3 g3 => ⟨_, rfl, iteT (iteT ⟨_, rfl, (by show 1 ≤ 1000; decide), raise_idx g (eT0.trans g3)⟩)⟩⟩⟩
      · refine ⟨_, rfl, x2, rfl, .inl ⟨ys, sy, fun H3 g3 => ⟨_, rfl, ?_⟩⟩⟩
        rw [decide_eq_false ny]
        exact iteT (iteT ⟨_, rfl, (by show 1 ≤ 1000; decide), raise_idx g (eT0.trans g3)⟩)
      · refine ⟨_, rfl, x2, rfl, .inl ⟨_, sy, fun H3 g3 => ⟨_, rfl, ?_⟩⟩⟩
        refine iteF ⟨_, rfl, _, rfl, x2, L, _, kvs, ss, rfl, sy.ext g3, (by show 2 ≤ 1000; decide), fun q hq => ?_, g3 _ _ (hT2 _ _ h4), uf.some, fun H4 g4 => ⟨_, rfl, ?_⟩⟩
        · rcases List.mem_cons.mp hq with rfl | hq
          · exact ty1.ext g3
          · rcases List.mem_cons.mp hq with rfl | hq
            · exact ty2.ext g3
            · cases hq
        have z1 : ([y, z].all (isKey ss)) = false := by
          show (isKey ss y && (isKey ss z && true)) = false
          rw [Bool.and_true]
          exact nk
        rw [z1]
        exact iteT ⟨_, rfl, (by show 1 ≤ 1000; decide), raise_idx g (eT0.trans (g3.trans g4))⟩
      · refine ⟨_, rfl, x2, rfl, .inl ⟨_, sy, fun H3 g3 => ⟨_, rfl, ?_⟩⟩⟩
        refine iteF ⟨_, rfl, _, rfl, x2, L, _, kvs, ss, rfl, sy.ext g3, (by show 2 ≤ 1000; decide), fun q hq => ?_, g3 _ _ (hT2 _ _ h4), uf.some, fun H4 g4 => ⟨_, rfl, ?_⟩⟩
        · rcases List.mem_cons.mp hq with rfl | hq
          · exact .inl ⟨_, rfl⟩
          · rcases List.mem_cons.mp hq with rfl | hq
            · exact .inl ⟨_, rfl⟩
            · cases hq
        have z1 : ([V.str a, V.str b].all (isKey ss)) = true := by
          show (decide (a ∈ ss) && (decide (b ∈ ss) && true)) = true
          rw [decide_eq_true ha, decide_eq_true hb]
          rfl
        rw [z1]
        refine iteF ?_
        have s4 := (sy.ext g3).ext g4
        have L4 : H4 L = some (.dK kvs) := g4 _ _ (g3 _ _ (hT2 _ _ h4))
        have e4 : Same H H4 := eT0.trans (g3.trans g4)
        have up : ∀ {Hx : Hp} {o : HO}, Same H Hx → Same H (upd Hx L o) := fun e b o n => by
          rw [upd_ne (ne_of_none n hL0)]
          exact e b o n
        have pL : ∀ o, SeqV (upd H4 L o) x2 [.str a, .str b] := fun o => by
          obtain ⟨px, rfl, hx⟩ := s4
          have nx : px ≠ L := fun q => by
            rw [q, L4] at hx
            rcases hx with hx | hx <;> cases hx
          exact ⟨px, rfl, by rw [upd_ne nx]; exact hx⟩
        refine ⟨_, rfl, _, rfl, ixA s4 rfl ⟨L, _, kvs, ss, _, rk, rfl, L4, uf, ha, hl, fun k1 u1 => ?_⟩⟩
        refine ⟨_, rfl, _, rfl, ixA (pL _) rfl ⟨L, _, k1, ss, _, rk, rfl, upd_same, u1, hb, hl, fun k2 u2 => ?_⟩⟩
        rw [upd_upd]
        refine ⟨_, rfl, _, rfl, rfl, _, rfl, ?_⟩
        rw [List.take_length, eq, decide_eq_true rfl]
        exact iteT ⟨_, rfl, (by show 1 ≤ 1000; decide), raise_idx g (up e4)⟩
  · rintro σ Hc ⟨h1, ⟨sa, sb, sc, sd, rfl⟩, h3, kvs, rk, h4, uf⟩
    have g1 := SqA.same sq h3
    have g2 := SqA.same sq2 h3
    have e3 : Same H Hc := e1.trans h3
    refine ⟨_, rfl, p, _, rfl, g1, _, rfl, p2, _, rfl, g2, _, _, rfl, rfl, rfl, _, rfl, ?_⟩
    rcases rest with ⟨rfl, hl2, q⟩ | ⟨rfl, hl2, g⟩ | ⟨x, r, rfl, _⟩
    · have z : decide (V.int (((vs ++ []).length : Nat) : Int) = V.int ((((ss.map V.str).length : Nat) : Int) - 1)) = true := by
        rw [List.append_nil, List.length_map, lvs]
        exact decide_eq_true (by rw [← hl2]; congr 1; omega)
      rw [z]
      exact iteF (q Hc e3)
    · have z : decide (V.int (((vs ++ []).length : Nat) : Int) = V.int ((((ss.map V.str).length : Nat) : Int) - 1)) = false := by
        rw [List.append_nil, List.length_map, lvs]
        exact decide_eq_false (fun q => hl2 (by have := V.int.inj q; omega))
      rw [z]
      have ll : (vs ++ []).length = rs.length := by rw [List.append_nil, lvs]
      refine iteT ⟨_, rfl, p, _, rfl, g1, (by show 1 ≤ 1000; decide), ?_⟩
      rw [ll]
      exact raise_idx g e3
    · rw [List.length_append, List.length_cons] at h1
      omega
end
end K1
end
-- KVal
section
set_option Elab.async false
set_option linter.all false
set_option maxRecDepth 100000
set_option maxHeartbeats 4000000
namespace K1
open PySem PySem.Spec PyProof.Rows L2
abbrev sBW : Stmt := top 28
abbrev sNB : Stmt := top 29
def TupP (H : Hp) (q : Addr) (r : Str × Str) : Prop := H q = some (.tup [.str r.1, .str r.2])
theorem TupP.ext {H H' : Hp} {qs : List Addr} {rs : List (Str × Str)} (h : Paired (TupP H) qs rs) (e : Same H H') : Paired (TupP H') qs rs := paired_imp (fun _ _ q => e _ _ q) h
def spBW : Sp := fun vs H Q _ => ∃ (p : Addr) (qs : List Addr) (rs : List (Str × Str)), vs = [.ref p] ∧ H p = some (.lst (qs.map V.ref)) ∧ Paired (TupP H) qs rs ∧ rs.length ≤ 1000 ∧ ∀ r H', Same H H' → Q (.ref r) H'
theorem scBW : FnScope ["roads", "places", "place", "one", "other"] ["roads"] (defScope sBW) := ⟨rfl, rfl, rfl, by decide +kernel, rfl, by decide +kernel, by decide +kernel⟩
theorem putK_le {κ : Type} [DecidableEq κ] {kvs : List (κ × V)} {k : κ} {v : V} : (putK kvs k v).length ≤ kvs.length + 1 := by
  unfold putK
  split
  · rw [List.length_map]; exact Nat.le_succ _
  · rw [List.length_append]; exact Nat.le_refl _
section
variable {P : Program} {w : World} {K : PySem.W.Frag} {mg : Str → Option Value} {base : Heap}
theorem paired_ref {H : Hp} {qs : List Addr} {rs : List (Str × Str)} (h : Paired (TupP H) qs rs) {i : Nat} (hi : i < rs.length) {x : V} (e : (qs.map V.ref)[i]? = some x) : ∃ q, x = .ref q ∧ H q = some (.tup [.str rs[i].1, .str rs[i].2]) := by
  obtain ⟨q, eq, pq⟩ := paired_get h hi
  rw [List.getElem?_map, eq] at e
  exact ⟨q, (Option.some.inj e).symm, pq⟩
theorem ok_BW {f : Addr} {fd : FuncData} (F : Fun K "_both_ways" "_both_ways" sBW f fd) (me : mg "enumerate" = none) : FnOk P w K mg base CX0 1 f fd ["roads"] spBW := by
  refine F.ok scBW (fun vs H Q E h => ?_) (fun cdv A outer s H vs Q E hr h => ?_)
  · obtain ⟨p, qs, rs, rfl, _⟩ := h
    rfl
  obtain ⟨p, qs, rs, rfl, hp, pr, hl, q⟩ := h
  have nd := scBW.nd
  have hu := hu_of hr
  refine ⟨_, pss_cons (by exact (ps_set (i := 1) nd rfl (.inl rfl) pe_dnewT))
    (pss_cons (by exact (ps_for PassesOwn.never rfl (by exact pi_enumV 0 rfl me (pv 0)) (pg_tup rfl (pgs_cons (pg_name (i := 2) nd rfl (.inl rfl)) (pgs_cons (pg_tup rfl (pgs_cons (pg_name (i := 3) nd rfl (.inl rfl)) (pgs_cons (pg_name (i := 4) nd rfl (.inl rfl)) pgs_nil))) pgs_nil)))
      (pss_cons (by exact (ps_dput hu (pv 1) (pe_tup (pa_cons (pv 3) (pa_cons (pv 4) pa_nil))) (pv 2) rfl))
      (pss_one (by exact (ps_dput hu (pv 1) (pe_tup (pa_cons (pv 4) (pa_cons (pv 3) pa_nil))) (pv 2) rfl))))))
    (pss_one (by exact (ps_ret (pv 1))))), ?_⟩
  intro L hL
  have ep : L ≠ p := fun z => by rw [z, hp] at hL; cases hL
  have lqs : qs.length = rs.length := pr.length
  refine ⟨p, _, rfl, .inl (SqL.of (by rw [upd_ne ep.symm]; exact hp)), fun J G wk hG => ?_⟩
  refine for_it wk (fun i σ Hc => (∃ a b c, σ = [some (.ref p), some (.ref L), a, b, c]) ∧ Same H Hc ∧ ∃ kvs, Hc L = some (.dT kvs) ∧ kvs.length ≤ 2 * i) ⟨⟨_, _, _, rfl⟩, K1.Same.upd hL, _, upd_same, Nat.le_refl _⟩ (fun i σ Hc _ h => hG Hc fun o ho => ?_) ?_ ?_
  · rw [upd_ne ep.symm, hp] at ho
    rw [← Option.some.inj ho]
    exact h.2.1 _ _ hp
  · rintro i x σ Hc H' hi ⟨⟨sa, sb, sc, rfl⟩, h1, kvs, h2, h3⟩ ⟨T, x1, x2, rfl, hT, rfl, e1', e2'⟩
    rw [List.length_map, lqs] at hi
    obtain rfl : x1 = .int (i : Nat) := (Option.some.inj e1').symm
    obtain ⟨t, rfl, ht⟩ := paired_ref pr hi e2'
    have hT2 := K1.Same.upd (H := Hc) (p := T) (o := .tup [.int (i : Nat), .ref t]) hT
    have e1 : Same H (upd Hc T (.tup [.int (i : Nat), .ref t])) := h1.trans hT2
    refine ⟨T, _, rfl, SqT.of upd_same, rfl, _, _, rfl, _, _, rfl, t, _, rfl, SqT.of (e1 _ _ ht), rfl, _, _, rfl, _, _, rfl, rfl, rfl, ?_⟩
    have step : ∀ (H1 : Hp) (kv : List (List Key × V)) (a b : Str), Same H H1 → H1 L = some (.dT kv) → kv.length ≤ 2 * i + 1 → ∀ (R : Hp → Prop), (∀ H2, Same H H2 → (∃ kv', H2 L = some (.dT kv') ∧ kv'.length ≤ kv.length + 1) → R H2) →
        2 ≤ sizeLine ∧ ∀ b', H1 b' = none → ∃ a' H3, V.ref L = .ref a' ∧ DPut (upd H1 b' (.tup [.str a, .str b])) a' (.ref b') (.int (i : Nat)) H3 ∧ R H3 := by
      intro H1 kv a b f1 f2 f3 R hR
      refine ⟨by decide, fun b' hb => ⟨L, _, rfl, DPut.t (k := [.inr a, .inr b]) (by rw [upd_ne (ne_of_none f2 hb)]; exact f2) upd_same (Nat.lt_of_le_of_lt f3 (by show 2 * i + 1 < 2 ^ 24; omega)), hR _ (fun c o n => ?_) ⟨_, upd_same, putK_le⟩⟩⟩
      rw [upd_ne (ne_of_none n hL), upd_ne (ne_of_none (f1 _ _ n) hb)]
      exact f1 _ _ n
    refine ⟨_, rfl, _, rfl, _, rfl, _, rfl, ?_⟩
    refine step _ kvs rs[i].1 rs[i].2 e1 (hT2 _ _ h2) (by omega) _ ?_
    rintro H2 g1 ⟨kv1, g2, g3⟩
    refine ⟨_, rfl, _, rfl, _, rfl, _, rfl, ?_⟩
    refine step H2 kv1 rs[i].2 rs[i].1 g1 g2 (by omega) _ ?_
    rintro H3 k1 ⟨kv2, k2, k3⟩
    exact ⟨⟨_, _, _, rfl⟩, k1, kv2, k2, by omega⟩
  · rintro σ Hc ⟨⟨sa, sb, sc, rfl⟩, h1, _⟩
    exact ⟨_, rfl, q L Hc h1⟩
end
end K1
end
-- KNb
section
set_option Elab.async false
set_option linter.all false
set_option maxRecDepth 100000
set_option maxHeartbeats 4000000
namespace K1
open PySem PySem.Spec PyProof.Rows L2
def spNB : Sp := fun vs H Q _ => ∃ (p1 p2 : Addr) (ss : List Str) (qs : List Addr) (rs : List (Str × Str)), vs = [.ref p1, .ref p2] ∧ H p1 = some (.lst (ss.map V.str)) ∧ ss.length ≤ 1000 ∧ ss.Nodup ∧ H p2 = some (.lst (qs.map V.ref)) ∧ Paired (TupP H) qs rs ∧ EndsIn ss rs ∧ rs.length ≤ 1000 ∧ ∀ r H', Same H H' → Q (.ref r) H'
theorem scNB : FnScope ["houses", "roads", "found", "one", "other", "house", "far"] ["houses", "roads"] (defScope sNB) := ⟨rfl, rfl, rfl, by decide +kernel, rfl, by decide +kernel, by decide +kernel⟩
def dcScope (sc : Scope) : Stmt → Scope
  | .Return (some (.DictComp _ _ _ s _)) _ => s
  | _ => sc
/-- the dicts of the neighbours: each house has its own, found by it -/
def NbAt (H0 Hc : Hp) (D : Addr) (hs : List Str) (n : Nat) : Prop := ∃ kvs : List (Key × V), Hc D = some (.dK kvs) ∧ kvs.length ≤ hs.length ∧ ∀ s ∈ hs, ∃ d m, valV kvs (.inr s) = some (.ref d) ∧ H0 d = none ∧ d ≠ D ∧ Hc d = some (.dK m) ∧ m.length ≤ n
section
variable {P : Program} {w : World} {K : PySem.W.Frag} {mg : Str → Option Value} {base : Heap}
theorem NbAt.put {H0 Hc : Hp} {D : Addr} {hs : List Str} {n : Nat} {s : Str} {d : Addr} {m : List (Key × V)} {k : Key} {v : V} (h : NbAt H0 Hc D hs n) (hd : d ≠ D) (hm : Hc d = some (.dK m)) (hl : m.length ≤ n) : NbAt H0 (upd Hc d (.dK (putK m k v))) D hs (n + 1) := by
  obtain ⟨kvs, h1, h2, h3⟩ := h
  refine ⟨kvs, by rw [upd_ne hd.symm]; exact h1, h2, fun s hs => ?_⟩
  obtain ⟨d', m', a1, a2, a3, a4, a5⟩ := h3 s hs
  by_cases e : d' = d
  · refine ⟨d', _, a1, a2, a3, by rw [e]; exact upd_same, Nat.le_trans putK_le (by omega)⟩
  · exact ⟨d', m', a1, a2, a3, by rw [upd_ne e]; exact a4, by omega⟩
theorem NbAt.keep {H0 Hc H2 : Hp} {D : Addr} {hs : List Str} {n : Nat} (h : NbAt H0 Hc D hs n) (e : Same Hc H2) : NbAt H0 H2 D hs n := by
  obtain ⟨kvs, h1, h2, h3⟩ := h
  refine ⟨kvs, e _ _ h1, h2, fun s hs => ?_⟩
  obtain ⟨d', m', a1, a2, a3, a4, a5⟩ := h3 s hs
  exact ⟨d', m', a1, a2, a3, e _ _ a4, a5⟩
theorem ok_NB {f : Addr} {fd : FuncData} (F : Fun K "_neighbours" "_neighbours" sNB f fd) : FnOk P w K mg base CX0 1 f fd ["houses", "roads"] spNB := by
  refine F.ok scNB (fun vs H Q E h => ?_) (fun cdv A outer s H vs Q E hr h => ?_)
  · obtain ⟨p1, p2, ss, qs, rs, rfl, _⟩ := h
    rfl
  obtain ⟨p1, p2, ss, qs, rs, rfl, h1, hl, hN, h2, pr, ends, hlr, q⟩ := h
  have nd := scNB.nd
  have hu := hu_of hr
  refine ⟨_, pss_cons (by exact (ps_set (i := 2) nd rfl (.inr rfl) (pe_dc (own := [("house", 5)]) (g := gName 5) (tt := tYes) rfl nd (by exact pi_seqV 0 (pv 0))
        (by exact blkOk_by (N := ["houses", "roads", "found", "one", "other", "house", "far"]) (sc := defScope sNB) (by decide +kernel)) (fun _ _ _ _ _ => by exact pg_name (i := 5) nd rfl (Or.inl rfl)) (fun _ _ _ _ _ => pts_nil) (fun _ _ _ _ _ => pv 5) (fun _ _ _ _ _ => pe_dnewK))))
    (pss_cons (by exact (ps_for PassesOwn.never rfl (by exact pi_seqV 1 (pv 1)) (pg_tup rfl (pgs_cons (pg_name (i := 3) nd rfl (.inl rfl)) (pgs_cons (pg_name (i := 4) nd rfl (.inl rfl)) pgs_nil)))
      (pss_cons (by exact (ps_dput hu (pe_dget hu (pv 2) (pv 3) (fun _ _ => rfl)) (pv 4) pe_bl rfl))
      (pss_one (by exact (ps_dput hu (pe_dget hu (pv 2) (pv 4) (fun _ _ => rfl)) (pv 3) pe_bl rfl))))))
    (pss_one (by exact (ps_ret (pe_dc (own := [("house", 5)]) (g := gName 5) (tt := tYes) (tk := tVar 5) (tv := tLc (iSeqV K 0) (gName 6) (tB (tDIn (tVar 6) (tDGet (tVar 2) (tVar 5)))) (tVar 6) [6]) rfl nd (by exact pi_seqV 0 (pv 0))
        (by exact blkOk_by (N := ["houses", "roads", "found", "one", "other", "house", "far"]) (sc := defScope sNB) (by decide +kernel)) (fun _ _ _ _ _ => by exact pg_name (i := 5) nd rfl (Or.inr rfl)) (fun _ _ _ _ _ => pts_nil) (fun _ _ _ _ _ => by exact pv 5)
        (fun _ _ _ _ _ => by
          refine pe_lc (own := [("far", 6)]) ?_ ?_ ?_ ?_ ?_ ?_ ?_ ?_
          · rfl
          · exact nd
          · exact pi_seqV 0 (pv 0)
          · exact blkOk_by (by with_unfolding_all rfl)
          · intro _ _ _ _ _
            exact pg_name (i := 6) nd rfl (Or.inl rfl)
          · intro _ _ _ _ _
            exact pts_one (pt_cmp (pc_din hu (pv 6) (pe_dget hu (pv 2) (pv 5) (fun _ _ => rfl))) (by with_unfolding_all rfl))
          · intro _ _ _ _ _
            exact pv 6
          · intro _
            rfl)))))), ?_⟩
  have lqs : qs.length = rs.length := pr.length
  -- the dict of dicts
  refine ⟨p1, _, rfl, .inl (SqL.of h1), fun J G wk hG D hD => ?_⟩
  have up : ∀ {Hx : Hp} {d : Addr} {o : HO}, H d = none → Same H Hx → Same H (upd Hx d o) := fun n e b o nn => by
    rw [upd_ne (ne_of_none nn n)]
    exact e b o nn
  have at_ : ∀ i x, (ss.map V.str)[i]? = some x → ∃ h : i < ss.length, x = .str ss[i] := fun i x e => by
    rw [List.getElem?_map] at e
    rcases Nat.lt_or_ge i ss.length with hi | hi
    · rw [List.getElem?_eq_getElem hi] at e
      exact ⟨hi, (Option.some.inj e).symm⟩
    · rw [List.getElem?_eq_none hi] at e
      cases e
  refine dc_it wk (fun i Hc => Same H Hc ∧ NbAt H Hc D (ss.take i) 0) ⟨K1.Same.upd hD, [], upd_same, Nat.zero_le _, fun s hs => absurd hs (by simp)⟩ (fun i Hc _ h => hG Hc fun o ho => h.1 _ _ ho) ?_ ?_
  · rintro i x Hc H' hi ⟨f1, kvs, f2, f3, f4⟩ ⟨rfl, hx⟩
    obtain ⟨hi', rfl⟩ := at_ i x hx
    refine ⟨rfl, ?_⟩
    unfold tYes
    refine iteT ?_
    refine ⟨_, rfl, fun d hd => ?_⟩
    have dD : d ≠ D := fun z => by rw [z, f2] at hd; cases hd
    have d0 : H d = none := f1.free hd
    refine ⟨kvs, .inr ss[i], rfl, by rw [upd_ne dD.symm]; exact f2, Nat.lt_of_le_of_lt f3 (small1000 (Nat.le_trans (List.length_take_le _ _) (by omega))), up hD (up d0 f1), putK kvs (.inr ss[i]) (.ref d), upd_same, ?_, fun s hs => ?_⟩
    · refine Nat.le_trans putK_le ?_
      rw [List.length_take] at f3 ⊢
      omega
    · rcases (mem_take_succ hi').mp hs with hs | rfl
      · obtain ⟨d', m, a1, a2, a3, a4, a5⟩ := f4 s hs
        have ne : ¬ (Sum.inr s : Key) = .inr ss[i] := fun z => nodup_take_not hN hi' (by rw [← Sum.inr.inj z]; exact hs)
        have ne2 : d' ≠ d := fun z => by rw [z, hd] at a4; cases a4
        exact ⟨d', m, by rw [valV_put, if_neg ne]; exact a1, a2, a3, by rw [upd_ne a3, upd_ne ne2]; exact a4, a5⟩
      · exact ⟨d, [], by rw [valV_put, if_pos rfl], d0, dD, by rw [upd_ne dD, upd_same], Nat.le_refl _⟩
  rintro H1 ⟨e1, nb⟩
  have nb : NbAt H H1 D ss 0 := by
    rw [List.length_map, List.take_length] at nb
    exact nb
  -- the roads
  refine ⟨p2, _, rfl, .inl (SqL.of (e1 _ _ h2)), fun J G wk hG => ?_⟩
  refine for_it wk (fun i σ Hc => (∃ a b, σ = [some (.ref p1), some (.ref p2), some (.ref D), a, b, none, none]) ∧ Same H Hc ∧ NbAt H Hc D ss (2 * i)) ⟨⟨_, _, rfl⟩, e1, nb⟩ (fun i σ Hc _ h => hG Hc fun o ho => by
    rw [e1 _ _ h2] at ho
    rw [← Option.some.inj ho]
    exact h.2.1 _ _ h2) ?_ ?_
  · rintro i x σ Hc H' hi ⟨⟨sa, sb, rfl⟩, g1, g2⟩ ⟨rfl, hx⟩
    rw [List.length_map, lqs] at hi
    obtain ⟨t, rfl, ht⟩ := paired_ref pr hi hx
    refine ⟨t, _, rfl, SqT.of (g1 _ _ ht), rfl, _, _, rfl, _, _, rfl, rfl, ?_⟩
    have ee := ends _ (List.getElem_mem hi)
    obtain ⟨kvs, b1, b2, b3⟩ := id g2
    obtain ⟨d, m, a1, a2, a3, a4, a5⟩ := b3 rs[i].1 ee.1
    have dg1 := DGet.k (k := .inr rs[i].1) b1
    rw [a1] at dg1
    have g3 := NbAt.put (s := rs[i].1) (k := .inr rs[i].2) (v := .bl true) g2 a3 a4 a5
    have g4 : Same H (upd H' d (.dK (putK m (.inr rs[i].2) (.bl true)))) := up a2 g1
    refine ⟨_, rfl, _, rfl, D, _, rfl, dg1, _, rfl, d, _, rfl, DPut.k (k := .inr rs[i].2) a4 (by show m.length < 2 ^ 24; omega), ?_⟩
    obtain ⟨kvs', c1, c2, c3⟩ := id g3
    obtain ⟨d', m', x1, x2, x3, x4, x5⟩ := c3 rs[i].2 ee.2
    have dg2 := DGet.k (k := .inr rs[i].2) c1
    rw [x1] at dg2
    refine ⟨_, rfl, _, rfl, D, _, rfl, dg2, _, rfl, d', _, rfl, DPut.k (k := .inr rs[i].1) x4 (by show m'.length < 2 ^ 24; omega), ⟨_, _, rfl⟩, up x2 g4, ?_⟩
    exact NbAt.put (s := rs[i].2) g3 x3 x4 x5
  rintro σ H2 ⟨⟨sa, sb, rfl⟩, g1, g2⟩
  -- the dict of lists
  obtain ⟨kvs, b1, b2, b3⟩ := id g2
  refine ⟨p1, _, rfl, .inl (SqL.of (g1 _ _ h1)), fun J G wk hG D2 hD2 => ?_⟩
  have hD20 : H D2 = none := g1.free hD2
  refine dc_it wk (fun i Hc => Same H2 Hc ∧ ∃ kv, Hc D2 = some (.dK kv) ∧ kv.length ≤ i) ⟨K1.Same.upd hD2, [], upd_same, Nat.zero_le _⟩ (fun i Hc _ h => hG Hc fun o ho => h.1 _ _ ho) ?_ ?_
  · rintro i x Hc H' hi ⟨f1, kv, f2, f3⟩ ⟨rfl, hx⟩
    obtain ⟨hi', rfl⟩ := at_ i x hx
    refine ⟨rfl, ?_⟩
    unfold tYes
    refine iteT ?_
    refine ⟨_, rfl, ?_⟩
    refine ⟨p1, _, rfl, .inl (SqL.of (f1 _ _ (g1 _ _ h1))), fun J2 G2 wk2 hG2 L hL => ?_⟩
    refine lc_it wk2 (fun j Hd => Same H' Hd ∧ ∃ acc, Hd L = some (.lst acc) ∧ acc.length ≤ j) ⟨K1.Same.upd hL, [], upd_same, Nat.zero_le _⟩ (fun j Hd _ h => hG2 Hd fun o ho => h.1 _ _ ho) ?_ ?_
    · rintro j y Hd H'' hj ⟨k1, acc, k2, k3⟩ ⟨rfl, hy⟩
      rw [List.length_map] at hj
      obtain ⟨hj', rfl⟩ := at_ j y hy
      refine ⟨rfl, ?_⟩
      obtain ⟨d, m, a1, a2, a3, a4, a5⟩ := b3 ss[i] (List.getElem_mem hi')
      have dg := DGet.k (k := .inr ss[i]) (k1 _ _ (f1 _ _ b1))
      rw [a1] at dg
      refine ⟨_, rfl, _, rfl, _, rfl, D, _, rfl, dg, d, _, rfl, DGet.k (k := .inr ss[j]) (k1 _ _ (f1 _ _ a4)), _, rfl, ?_⟩
      refine ite2 (fun c => ?_) (fun c => ?_)
      · refine ⟨_, rfl, acc, k2, by show acc.length < 2 ^ 24; omega, fun b o n => ?_, _, upd_same, by rw [List.length_append]; simp; omega⟩
        rw [upd_ne (ne_of_none n hL)]
        exact k1 b o n
      · exact ⟨k1, acc, k2, by omega⟩
    · rintro Hd ⟨k1, acc, k2, k3⟩
      have LD : L ≠ D2 := fun z => by rw [z, f2] at hL; cases hL
      refine ⟨kv, .inr ss[i], rfl, k1 _ _ f2, by show kv.length < 2 ^ 24; rw [List.length_map] at hi; omega, fun b o n => ?_, _, upd_same, Nat.le_trans putK_le (by omega)⟩
      rw [upd_ne (ne_of_none n hD2)]
      exact k1 b o (f1 b o n)
  · rintro Hc ⟨f1, _⟩
    exact q D2 Hc (g1.trans f1)
end
end K1
end
-- NVal
section
set_option Elab.async false
set_option linter.all false
set_option maxRecDepth 100000
set_option maxHeartbeats 4000000
namespace K1
open PySem PySem.Spec PyProof.Rows L2
/-- the place of a road, either way round -/
def plOf (rs : List (Str × Str)) (a b : Str) : Option Nat := rs.findIdx? fun r => decide (r = (a, b) ∨ r = (b, a))
theorem joinRt_one {rt : Str → Str} {a b : Str} : joinRt rt a b a = joinRt rt a b b := by
  unfold joinRt
  by_cases e : rt a = rt b
  · simp [e]
  · simp [e]
theorem joinRt_keep {rt : Str → Str} {a b u v : Str} (h : rt u = rt v) : joinRt rt a b u = joinRt rt a b v := by
  unfold joinRt
  rw [h]
theorem rt_joined {rs : List (Str × Str)} {j : Nat} (hj : j < rs.length) : ∀ i, j < i → i ≤ rs.length → rtOf (rs.take i) rs[j].1 = rtOf (rs.take i) rs[j].2
  | 0, h, _ => absurd h (Nat.not_lt_zero j)
  | i + 1, h, hi => by
    rw [rtOf_succ hi]
    by_cases e : j = i
    · subst e
      exact joinRt_one
    · exact joinRt_keep (rt_joined hj i (by omega) (by omega))
theorem Forest.ne {rs : List (Str × Str)} (f : Forest rs) {i : Nat} (hi : i < rs.length) : rs[i].1 ≠ rs[i].2 := fun e => f i hi (by rw [e])
theorem Forest.fresh {rs : List (Str × Str)} (f : Forest rs) {i : Nat} (hi : i < rs.length) : plOf (rs.take i) rs[i].1 rs[i].2 = none := by
  unfold plOf
  rw [List.findIdx?_eq_none_iff]
  intro r hr
  obtain ⟨j, hj, rfl⟩ := List.getElem_of_mem hr
  have hj2 : j < i := by rw [List.length_take] at hj; omega
  have e := rt_joined (rs := rs) (j := j) (by omega) i hj2 (by omega)
  rw [List.getElem_take]
  refine decide_eq_false fun h => ?_
  rcases h with h | h
  · rw [h] at e; exact f i hi e
  · rw [h] at e; exact f i hi e.symm
theorem plOf_swap {rs : List (Str × Str)} {a b : Str} : plOf rs a b = plOf rs b a := by
  unfold plOf
  congr 1
  funext r
  exact decide_eq_decide.mpr ⟨Or.symm, Or.symm⟩
theorem plOf_succ {rs : List (Str × Str)} {i : Nat} (hi : i < rs.length) (a b : Str) : plOf (rs.take (i + 1)) a b = match plOf (rs.take i) a b with | some j => some j | none => if rs[i] = (a, b) ∨ rs[i] = (b, a) then some i else none := by
  unfold plOf
  rw [List.take_succ, List.getElem?_eq_getElem hi, List.findIdx?_append]
  have hl : (rs.take i).length = i := by rw [List.length_take]; omega
  cases e : (rs.take i).findIdx? fun r => decide (r = (a, b) ∨ r = (b, a)) with
  | some j => simp
  | none =>
    by_cases h : rs[i] = (a, b) ∨ rs[i] = (b, a)
    · rw [if_pos h]
      simp [List.findIdx?_cons, h, hl]
    · rw [if_neg h]
      simp [List.findIdx?_cons, h]
/-- what the dict of places tells -/
def PlacesAt (rs : List (Str × Str)) (kvs : List (List Key × V)) : Prop := ∀ a b : Str, valV kvs [.inr a, .inr b] = (plOf rs a b).map fun i => V.int (i : Nat)
theorem key2 {a b x y : Str} : ([.inr a, .inr b] : List Key) = [.inr x, .inr y] ↔ a = x ∧ b = y := by
  constructor
  · intro h
    injection h with h1 h2
    injection h2 with h3 _
    exact ⟨Sum.inr.inj h1, Sum.inr.inj h3⟩
  · rintro ⟨rfl, rfl⟩
    rfl
theorem PlacesAt.step {rs : List (Str × Str)} (f : Forest rs) {i : Nat} (hi : i < rs.length) {kvs : List (List Key × V)} (h : PlacesAt (rs.take i) kvs) :
    PlacesAt (rs.take (i + 1)) (putK (putK kvs [.inr rs[i].1, .inr rs[i].2] (.int (i : Nat))) [.inr rs[i].2, .inr rs[i].1] (.int (i : Nat))) := by
  intro a b
  rw [valV_put, valV_put, plOf_succ hi, h a b]
  have fr := f.fresh hi
  by_cases e1 : a = rs[i].2 ∧ b = rs[i].1
  · obtain ⟨rfl, rfl⟩ := e1
    rw [if_pos rfl, plOf_swap, fr]
    simp
  · rw [if_neg fun z => e1 (key2.mp z)]
    by_cases e2 : a = rs[i].1 ∧ b = rs[i].2
    · obtain ⟨rfl, rfl⟩ := e2
      rw [if_pos rfl, fr]
      simp
    · rw [if_neg fun z => e2 (key2.mp z)]
      have n : ¬ (rs[i] = (a, b) ∨ rs[i] = (b, a)) := by
        rintro (h | h)
        · exact e2 ⟨by rw [h], by rw [h]⟩
        · exact e1 ⟨by rw [h], by rw [h]⟩
      rw [if_neg n]
      cases plOf (rs.take i) a b <;> rfl
def spBW2 : Sp := fun vs H Q _ => ∃ (p : Addr) (qs : List Addr) (rs : List (Str × Str)), vs = [.ref p] ∧ H p = some (.lst (qs.map V.ref)) ∧ Paired (TupP H) qs rs ∧ Forest rs ∧ rs.length ≤ 1000 ∧
  ∀ r kvs H', Same H H' → H r = none → H' r = some (.dT kvs) → PlacesAt rs kvs → kvs.length ≤ 2 * rs.length → Q (.ref r) H'
section
variable {P : Program} {w : World} {K : PySem.W.Frag} {mg : Str → Option Value} {base : Heap}
theorem ok_BW2 {f : Addr} {fd : FuncData} (F : Fun K "_both_ways" "_both_ways" sBW f fd) (me : mg "enumerate" = none) : FnOk P w K mg base CX0 1 f fd ["roads"] spBW2 := by
  refine F.ok scBW (fun vs H Q E h => ?_) (fun cdv A outer s H vs Q E hr h => ?_)
  · obtain ⟨p, qs, rs, rfl, _⟩ := h
    rfl
  obtain ⟨p, qs, rs, rfl, hp, pr, fo, hl, q⟩ := h
  have nd := scBW.nd
  have hu := hu_of hr
  refine ⟨_, pss_cons (by exact (ps_set (i := 1) nd rfl (.inl rfl) pe_dnewT))
    (pss_cons (by exact (ps_for PassesOwn.never rfl (by exact pi_enumV 0 rfl me (pv 0)) (pg_tup rfl (pgs_cons (pg_name (i := 2) nd rfl (.inl rfl)) (pgs_cons (pg_tup rfl (pgs_cons (pg_name (i := 3) nd rfl (.inl rfl)) (pgs_cons (pg_name (i := 4) nd rfl (.inl rfl)) pgs_nil))) pgs_nil)))
      (pss_cons (by exact (ps_dput hu (pv 1) (pe_tup (pa_cons (pv 3) (pa_cons (pv 4) pa_nil))) (pv 2) rfl))
      (pss_one (by exact (ps_dput hu (pv 1) (pe_tup (pa_cons (pv 4) (pa_cons (pv 3) pa_nil))) (pv 2) rfl))))))
    (pss_one (by exact (ps_ret (pv 1))))), ?_⟩
  intro L hL
  have ep : L ≠ p := fun z => by rw [z, hp] at hL; cases hL
  have lqs : qs.length = rs.length := pr.length
  refine ⟨p, _, rfl, .inl (SqL.of (by rw [upd_ne ep.symm]; exact hp)), fun J G wk hG => ?_⟩
  refine for_it wk (fun i σ Hc => (∃ a b c, σ = [some (.ref p), some (.ref L), a, b, c]) ∧ Same H Hc ∧ ∃ kvs, Hc L = some (.dT kvs) ∧ kvs.length ≤ 2 * i ∧ PlacesAt (rs.take i) kvs) ⟨⟨_, _, _, rfl⟩, K1.Same.upd hL, _, upd_same, Nat.le_refl _, fun a b => rfl⟩ (fun i σ Hc _ h => hG Hc fun o ho => ?_) ?_ ?_
  · rw [upd_ne ep.symm, hp] at ho
    rw [← Option.some.inj ho]
    exact h.2.1 _ _ hp
  · rintro i x σ Hc H' hi ⟨⟨sa, sb, sc, rfl⟩, h1, kvs, h2, h3, h4⟩ ⟨T, x1, x2, rfl, hT, rfl, e1', e2'⟩
    rw [List.length_map, lqs] at hi
    obtain rfl : x1 = .int (i : Nat) := (Option.some.inj e1').symm
    obtain ⟨t, rfl, ht⟩ := paired_ref pr hi e2'
    have hT2 := K1.Same.upd (H := Hc) (p := T) (o := .tup [.int (i : Nat), .ref t]) hT
    have e1 : Same H (upd Hc T (.tup [.int (i : Nat), .ref t])) := h1.trans hT2
    refine ⟨T, _, rfl, SqT.of upd_same, rfl, _, _, rfl, _, _, rfl, t, _, rfl, SqT.of (e1 _ _ ht), rfl, _, _, rfl, _, _, rfl, rfl, rfl, ?_⟩
    have step : ∀ (H1 : Hp) (kv : List (List Key × V)) (a b : Str), Same H H1 → H1 L = some (.dT kv) → kv.length ≤ 2 * i + 1 → ∀ (R : Hp → Prop), (∀ H2, Same H H2 → H2 L = some (.dT (putK kv [.inr a, .inr b] (.int (i : Nat)))) → R H2) →
        2 ≤ sizeLine ∧ ∀ b', H1 b' = none → ∃ a' H3, V.ref L = .ref a' ∧ DPut (upd H1 b' (.tup [.str a, .str b])) a' (.ref b') (.int (i : Nat)) H3 ∧ R H3 := by
      intro H1 kv a b f1 f2 f3 R hR
      refine ⟨by decide, fun b' hb => ⟨L, _, rfl, DPut.t (k := [.inr a, .inr b]) (by rw [upd_ne (ne_of_none f2 hb)]; exact f2) upd_same (Nat.lt_of_le_of_lt f3 (by show 2 * i + 1 < 2 ^ 24; omega)), hR _ (fun c o n => ?_) upd_same⟩⟩
      rw [upd_ne (ne_of_none n hL), upd_ne (ne_of_none (f1 _ _ n) hb)]
      exact f1 _ _ n
    refine ⟨_, rfl, _, rfl, _, rfl, _, rfl, ?_⟩
    refine step _ kvs rs[i].1 rs[i].2 e1 (hT2 _ _ h2) (by omega) _ ?_
    rintro H2 g1 g2
    refine ⟨_, rfl, _, rfl, _, rfl, _, rfl, ?_⟩
    have l1 : (putK kvs [.inr rs[i].1, .inr rs[i].2] (V.int (i : Nat))).length ≤ kvs.length + 1 := putK_le
    refine step H2 _ rs[i].2 rs[i].1 g1 g2 (by omega) _ ?_
    rintro H3 k1 k2
    exact ⟨⟨_, _, _, rfl⟩, k1, _, k2, by have := putK_le (kvs := putK kvs [.inr rs[i].1, .inr rs[i].2] (V.int (i : Nat))) (k := [.inr rs[i].2, .inr rs[i].1]) (v := V.int (i : Nat)); omega, h4.step fo hi⟩
  · rintro σ Hc ⟨⟨sa, sb, sc, rfl⟩, h1, kvs, h2, h3, h4⟩
    rw [List.length_map, lqs] at h3 h4
    rw [List.take_length] at h4
    exact ⟨_, rfl, q L kvs Hc h1 hL h2 h4 h3⟩
end
end K1
end
-- NNb
section
set_option Elab.async false
set_option linter.all false
set_option maxRecDepth 100000
set_option maxHeartbeats 4000000
namespace K1
open PySem PySem.Spec PyProof.Rows L2
/-- whether a road joins two houses -/
def nbB (rs : List (Str × Str)) (s t : Str) : Bool := rs.any fun r => decide (r = (s, t) ∨ r = (t, s))
/-- the houses beside one, in the valley's order -/
def nbs (ss : List Str) (rs : List (Str × Str)) (s : Str) : List Str := ss.filter fun t => nbB rs s t
def addNb (nb : Str → Str → Bool) (s t : Str) : Str → Str → Bool := fun a b => nb a b || (decide (a = s) && decide (b = t))
theorem nbB_succ {rs : List (Str × Str)} {i : Nat} (hi : i < rs.length) : addNb (addNb (nbB (rs.take i)) rs[i].1 rs[i].2) rs[i].2 rs[i].1 = nbB (rs.take (i + 1)) := by
  funext a b
  unfold addNb nbB
  rw [List.take_succ, List.getElem?_eq_getElem hi, List.any_append]
  simp only [Option.toList, List.any_cons, List.any_nil, Bool.or_false, Bool.or_assoc]
  congr 1
  rw [Bool.eq_iff_iff]
  simp only [Bool.or_eq_true, Bool.and_eq_true, decide_eq_true_eq]
  constructor
  · rintro (⟨rfl, rfl⟩ | ⟨rfl, rfl⟩)
    · exact .inl rfl
    · exact .inr rfl
  · rintro (h | h)
    · exact .inl ⟨by rw [h], by rw [h]⟩
    · exact .inr ⟨by rw [h], by rw [h]⟩
/-- the dicts of the neighbours: each house has its own, with these -/
def NbS (H0 Hc : Hp) (D : Addr) (hs : List Str) (n : Nat) (nb : Str → Str → Bool) : Prop := ∃ (kvs : List (Key × V)) (own : Str → Addr), Hc D = some (.dK kvs) ∧ kvs.length ≤ hs.length ∧
  (∀ s ∈ hs, valV kvs (.inr s) = some (.ref (own s)) ∧ H0 (own s) = none ∧ own s ≠ D ∧ ∃ m, Hc (own s) = some (.dK m) ∧ m.length ≤ n ∧ ∀ t : Str, (valV m (.inr t)).isSome = nb s t) ∧ ∀ s ∈ hs, ∀ t ∈ hs, own s = own t → s = t
theorem NbS.keep {H0 Hc H2 : Hp} {D : Addr} {hs : List Str} {n : Nat} {nb : Str → Str → Bool} (h : NbS H0 Hc D hs n nb) (e : Same Hc H2) : NbS H0 H2 D hs n nb := by
  obtain ⟨kvs, own, h1, h2, h3, h4⟩ := h
  refine ⟨kvs, own, e _ _ h1, h2, fun s hs => ?_, h4⟩
  obtain ⟨a1, a2, a3, m, a4, a5⟩ := h3 s hs
  exact ⟨a1, a2, a3, m, e _ _ a4, a5⟩
/-- one neighbour more -/
theorem NbS.put {H0 Hc : Hp} {D : Addr} {hs : List Str} {n : Nat} {nb : Str → Str → Bool} (h : NbS H0 Hc D hs n nb) {s t : Str} (hs' : s ∈ hs) :
    ∃ d m kvs, Hc D = some (.dK kvs) ∧ valV kvs (.inr s) = some (.ref d) ∧ H0 d = none ∧ d ≠ D ∧ Hc d = some (.dK m) ∧ m.length ≤ n ∧ NbS H0 (upd Hc d (.dK (putK m (.inr t) (.bl true)))) D hs (n + 1) (addNb nb s t) := by
  obtain ⟨kvs, own, h1, h2, h3, h4⟩ := h
  obtain ⟨a1, a2, a3, m, a4, a5, a6⟩ := h3 s hs'
  refine ⟨own s, m, kvs, h1, a1, a2, a3, a4, a5, kvs, own, by rw [upd_ne a3.symm]; exact h1, h2, fun u hu => ?_, h4⟩
  obtain ⟨b1, b2, b3, m', b4, b5, b6⟩ := h3 u hu
  refine ⟨b1, b2, b3, ?_⟩
  by_cases e : u = s
  · subst e
    refine ⟨_, upd_same, Nat.le_trans putK_le (by omega), fun v => ?_⟩
    rw [valV_put]
    unfold addNb
    by_cases ev : v = t
    · subst ev
      rw [if_pos rfl]
      simp
    · rw [if_neg fun z => ev (Sum.inr.inj z), a6 v]
      simp [ev]
  · refine ⟨m', by rw [upd_ne fun z => e (h4 _ hu _ hs' z)]; exact b4, by omega, fun v => ?_⟩
    rw [b6 v]
    unfold addNb
    simp [e]
def spNB2 : Sp := fun vs H Q _ => ∃ (p1 p2 : Addr) (ss : List Str) (qs : List Addr) (rs : List (Str × Str)), vs = [.ref p1, .ref p2] ∧ H p1 = some (.lst (ss.map V.str)) ∧ ss.length ≤ 1000 ∧ ss.Nodup ∧ H p2 = some (.lst (qs.map V.ref)) ∧ Paired (TupP H) qs rs ∧ EndsIn ss rs ∧ rs.length ≤ 1000 ∧
  ∀ r kv H', Same H H' → H r = none → H' r = some (.dK kv) → kv.length ≤ ss.length → (∀ s ∈ ss, ∃ d, valV kv (.inr s) = some (.ref d) ∧ H d = none ∧ H' d = some (.lst ((nbs ss rs s).map V.str))) → Q (.ref r) H'
section
variable {P : Program} {w : World} {K : PySem.W.Frag} {mg : Str → Option Value} {base : Heap}
theorem ok_NB2 {f : Addr} {fd : FuncData} (F : Fun K "_neighbours" "_neighbours" sNB f fd) : FnOk P w K mg base CX0 1 f fd ["houses", "roads"] spNB2 := by
  refine F.ok scNB (fun vs H Q E h => ?_) (fun cdv A outer s H vs Q E hr h => ?_)
  · obtain ⟨p1, p2, ss, qs, rs, rfl, _⟩ := h
    rfl
  obtain ⟨p1, p2, ss, qs, rs, rfl, h1, hl, hN, h2, pr, ends, hlr, q⟩ := h
  have nd := scNB.nd
  have hu := hu_of hr
  refine ⟨_, pss_cons (by exact (ps_set (i := 2) nd rfl (.inr rfl) (pe_dc (own := [("house", 5)]) (g := gName 5) (tt := tYes) rfl nd (by exact pi_seqV 0 (pv 0))
        (by exact blkOk_by (N := ["houses", "roads", "found", "one", "other", "house", "far"]) (sc := defScope sNB) (by decide +kernel)) (fun _ _ _ _ _ => by exact pg_name (i := 5) nd rfl (Or.inl rfl)) (fun _ _ _ _ _ => pts_nil) (fun _ _ _ _ _ => pv 5) (fun _ _ _ _ _ => pe_dnewK))))
    (pss_cons (by exact (ps_for PassesOwn.never rfl (by exact pi_seqV 1 (pv 1)) (pg_tup rfl (pgs_cons (pg_name (i := 3) nd rfl (.inl rfl)) (pgs_cons (pg_name (i := 4) nd rfl (.inl rfl)) pgs_nil)))
      (pss_cons (by exact (ps_dput hu (pe_dget hu (pv 2) (pv 3) (fun _ _ => rfl)) (pv 4) pe_bl rfl))
      (pss_one (by exact (ps_dput hu (pe_dget hu (pv 2) (pv 4) (fun _ _ => rfl)) (pv 3) pe_bl rfl))))))
    (pss_one (by exact (ps_ret (pe_dc (own := [("house", 5)]) (g := gName 5) (tt := tYes) (tk := tVar 5) (tv := tLc (iSeqV K 0) (gName 6) (tB (tDIn (tVar 6) (tDGet (tVar 2) (tVar 5)))) (tVar 6) [6]) rfl nd (by exact pi_seqV 0 (pv 0))
        (by exact blkOk_by (N := ["houses", "roads", "found", "one", "other", "house", "far"]) (sc := defScope sNB) (by decide +kernel)) (fun _ _ _ _ _ => by exact pg_name (i := 5) nd rfl (Or.inr rfl)) (fun _ _ _ _ _ => pts_nil) (fun _ _ _ _ _ => by exact pv 5)
        (fun _ _ _ _ _ => by
          refine pe_lc (own := [("far", 6)]) ?_ ?_ ?_ ?_ ?_ ?_ ?_ ?_
          · rfl
          · exact nd
          · exact pi_seqV 0 (pv 0)
          · exact blkOk_by (by with_unfolding_all rfl)
          · intro _ _ _ _ _
            exact pg_name (i := 6) nd rfl (Or.inl rfl)
          · intro _ _ _ _ _
            exact pts_one (pt_cmp (pc_din hu (pv 6) (pe_dget hu (pv 2) (pv 5) (fun _ _ => rfl))) (by with_unfolding_all rfl))
          · intro _ _ _ _ _
            exact pv 6
          · intro _
            rfl)))))), ?_⟩
  have lqs : qs.length = rs.length := pr.length
  -- the dict of dicts
  refine ⟨p1, _, rfl, .inl (SqL.of h1), fun J G wk hG D hD => ?_⟩
  have up : ∀ {Hx : Hp} {d : Addr} {o : HO}, H d = none → Same H Hx → Same H (upd Hx d o) := fun n e b o nn => by
    rw [upd_ne (ne_of_none nn n)]
    exact e b o nn
  have at_ : ∀ i x, (ss.map V.str)[i]? = some x → ∃ h : i < ss.length, x = .str ss[i] := fun i x e => by
    rw [List.getElem?_map] at e
    rcases Nat.lt_or_ge i ss.length with hi | hi
    · rw [List.getElem?_eq_getElem hi] at e
      exact ⟨hi, (Option.some.inj e).symm⟩
    · rw [List.getElem?_eq_none hi] at e
      cases e
  refine dc_it wk (fun i Hc => Same H Hc ∧ NbS H Hc D (ss.take i) 0 (nbB [])) ⟨K1.Same.upd hD, [], fun _ => 0, upd_same, Nat.zero_le _, fun s hs => absurd hs (by simp), fun s hs => absurd hs (by simp)⟩ (fun i Hc _ h => hG Hc fun o ho => h.1 _ _ ho) ?_ ?_
  · rintro i x Hc H' hi ⟨f1, kvs, own, f2, f3, f4, f5⟩ ⟨rfl, hx⟩
    obtain ⟨hi', rfl⟩ := at_ i x hx
    refine ⟨rfl, ?_⟩
    unfold tYes
    refine iteT ?_
    refine ⟨_, rfl, fun d hd => ?_⟩
    have dD : d ≠ D := fun z => by rw [z, f2] at hd; cases hd
    have d0 : H d = none := f1.free hd
    have nw : ∀ s ∈ ss.take i, s ≠ ss[i] := fun s hs z => nodup_take_not hN hi' (by rw [← z]; exact hs)
    have dn : ∀ s ∈ ss.take i, own s ≠ d := fun s hs z => by
      obtain ⟨_, _, _, m, a4, _⟩ := f4 s hs
      rw [z, hd] at a4
      cases a4
    refine ⟨kvs, .inr ss[i], rfl, by rw [upd_ne dD.symm]; exact f2, Nat.lt_of_le_of_lt f3 (small1000 (Nat.le_trans (List.length_take_le _ _) (by omega))), up hD (up d0 f1), putK kvs (.inr ss[i]) (.ref d), fun s => if s = ss[i] then d else own s, upd_same, ?_, fun s hs => ?_, fun s hs t ht e => ?_⟩
    · refine Nat.le_trans putK_le ?_
      rw [List.length_take] at f3 ⊢
      omega
    · rcases (mem_take_succ hi').mp hs with hs | rfl
      · obtain ⟨a1, a2, a3, m, a4, a5, a6⟩ := f4 s hs
        have ne : ¬ (Sum.inr s : Key) = .inr ss[i] := fun z => nw s hs (Sum.inr.inj z)
        simp only [if_neg (nw s hs)]
        exact ⟨by rw [valV_put, if_neg ne]; exact a1, a2, a3, m, by rw [upd_ne a3, upd_ne (dn s hs)]; exact a4, a5, a6⟩
      · simp only [if_true]
        exact ⟨by rw [valV_put, if_pos rfl], d0, dD, [], by rw [upd_ne dD, upd_same], Nat.le_refl _, fun t => rfl⟩
    · rcases (mem_take_succ hi').mp hs with hs | rfl <;> rcases (mem_take_succ hi').mp ht with ht | rfl
      · simp only [if_neg (nw s hs), if_neg (nw t ht)] at e
        exact f5 s hs t ht e
      · simp only [if_neg (nw s hs), if_true] at e
        exact absurd e (dn s hs)
      · simp only [if_neg (nw t ht), if_true] at e
        exact absurd e.symm (dn t ht)
      · rfl
  rintro H1 ⟨e1, nb⟩
  have nb : NbS H H1 D ss 0 (nbB []) := by
    rw [List.length_map, List.take_length] at nb
    exact nb
  -- the roads
  refine ⟨p2, _, rfl, .inl (SqL.of (e1 _ _ h2)), fun J G wk hG => ?_⟩
  refine for_it wk (fun i σ Hc => (∃ a b, σ = [some (.ref p1), some (.ref p2), some (.ref D), a, b, none, none]) ∧ Same H Hc ∧ NbS H Hc D ss (2 * i) (nbB (rs.take i))) ⟨⟨_, _, rfl⟩, e1, nb⟩ (fun i σ Hc _ h => hG Hc fun o ho => by
    rw [e1 _ _ h2] at ho
    rw [← Option.some.inj ho]
    exact h.2.1 _ _ h2) ?_ ?_
  · rintro i x σ Hc H' hi ⟨⟨sa, sb, rfl⟩, g1, g2⟩ ⟨rfl, hx⟩
    rw [List.length_map, lqs] at hi
    obtain ⟨t, rfl, ht⟩ := paired_ref pr hi hx
    refine ⟨t, _, rfl, SqT.of (g1 _ _ ht), rfl, _, _, rfl, _, _, rfl, rfl, ?_⟩
    have ee := ends _ (List.getElem_mem hi)
    obtain ⟨d, m, kvs, b1, a1, a2, a3, a4, a5, g3⟩ := g2.put (t := rs[i].2) ee.1
    have dg1 := DGet.k (k := .inr rs[i].1) b1
    rw [a1] at dg1
    have g4 : Same H (upd H' d (.dK (putK m (.inr rs[i].2) (.bl true)))) := up a2 g1
    refine ⟨_, rfl, _, rfl, D, _, rfl, dg1, _, rfl, d, _, rfl, DPut.k (k := .inr rs[i].2) a4 (by show m.length < 2 ^ 24; omega), ?_⟩
    obtain ⟨d', m', kvs', c1, x1, x2, x3, x4, x5, g5⟩ := g3.put (t := rs[i].1) ee.2
    have dg2 := DGet.k (k := .inr rs[i].2) c1
    rw [x1] at dg2
    refine ⟨_, rfl, _, rfl, D, _, rfl, dg2, _, rfl, d', _, rfl, DPut.k (k := .inr rs[i].1) x4 (by show m'.length < 2 ^ 24; omega), ⟨_, _, rfl⟩, up x2 g4, ?_⟩
    rw [nbB_succ hi] at g5
    exact g5
  rintro σ H2 ⟨⟨sa, sb, rfl⟩, g1, g2⟩
  have g2 : NbS H H2 D ss (2 * rs.length) (nbB rs) := by
    rw [List.length_map, lqs, List.take_length] at g2
    exact g2
  -- the dict of lists
  obtain ⟨kvs, own, b1, b2, b3, _⟩ := id g2
  refine ⟨p1, _, rfl, .inl (SqL.of (g1 _ _ h1)), fun J G wk hG D2 hD2 => ?_⟩
  have hD20 : H D2 = none := g1.free hD2
  refine dc_it wk (fun i Hc => Same H2 Hc ∧ ∃ kv, Hc D2 = some (.dK kv) ∧ kv.length ≤ i ∧ ∀ s ∈ ss.take i, ∃ d, valV kv (.inr s) = some (.ref d) ∧ H2 d = none ∧ d ≠ D2 ∧ Hc d = some (.lst ((nbs ss rs s).map V.str))) ⟨K1.Same.upd hD2, [], upd_same, Nat.zero_le _, fun s hs => absurd hs (by simp)⟩ (fun i Hc _ h => hG Hc fun o ho => h.1 _ _ ho) ?_ ?_
  · rintro i x Hc H' hi ⟨f1, kv, f2, f3, f4⟩ ⟨rfl, hx⟩
    obtain ⟨hi', rfl⟩ := at_ i x hx
    refine ⟨rfl, ?_⟩
    unfold tYes
    refine iteT ?_
    refine ⟨_, rfl, ?_⟩
    refine ⟨p1, _, rfl, .inl (SqL.of (f1 _ _ (g1 _ _ h1))), fun J2 G2 wk2 hG2 L hL => ?_⟩
    refine lc_it wk2 (fun j Hd => Same H' Hd ∧ Hd L = some (.lst ((((ss.take j).filter fun t => nbB rs ss[i] t)).map V.str))) ⟨K1.Same.upd hL, upd_same⟩ (fun j Hd _ h => hG2 Hd fun o ho => h.1 _ _ ho) ?_ ?_
    · rintro j y Hd H'' hj ⟨k1, k2⟩ ⟨rfl, hy⟩
      rw [List.length_map] at hj
      obtain ⟨hj', rfl⟩ := at_ j y hy
      refine ⟨rfl, ?_⟩
      obtain ⟨a1, a2, a3, m, a4, a5, a6⟩ := b3 ss[i] (List.getElem_mem hi')
      have dg := DGet.k (k := .inr ss[i]) (k1 _ _ (f1 _ _ b1))
      rw [a1] at dg
      refine ⟨_, rfl, _, rfl, _, rfl, D, _, rfl, dg, own ss[i], _, rfl, DGet.k (k := .inr ss[j]) (k1 _ _ (f1 _ _ a4)), _, rfl, ?_⟩
      have tk : (ss.take (j + 1)).filter (fun t => nbB rs ss[i] t) = (ss.take j).filter (fun t => nbB rs ss[i] t) ++ if nbB rs ss[i] ss[j] = true then [ss[j]] else [] := by
        rw [List.take_succ, List.getElem?_eq_getElem hj', List.filter_append]
        congr 1
        by_cases c : nbB rs ss[i] ss[j] = true
        · simp [c]
        · simp [c]
      have ll : ((ss.take j).filter fun t => nbB rs ss[i] t).length ≤ 1000 := Nat.le_trans (List.length_filter_le _ _) (Nat.le_trans (List.length_take_le _ _) (by omega))
      refine ite2 (fun c => ?_) (fun c => ?_)
      · rw [a6] at c
        refine ⟨_, rfl, _, k2, by rw [List.length_map]; show _ < 2 ^ 24; omega, fun b o n => ?_, ?_⟩
        · rw [upd_ne (ne_of_none n hL)]
          exact k1 b o n
        · rw [upd_same, tk, if_pos c, List.map_append]
          rfl
      · rw [a6] at c
        exact ⟨k1, by rw [tk, if_neg c, List.append_nil]; exact k2⟩
    · rintro Hd ⟨k1, k2⟩
      rw [List.length_map, List.take_length] at k2
      have LD : L ≠ D2 := fun z => by rw [z, f2] at hL; cases hL
      have hL2 : H2 L = none := f1.free hL
      refine ⟨kv, .inr ss[i], rfl, k1 _ _ f2, by show kv.length < 2 ^ 24; rw [List.length_map] at hi; omega, fun b o n => ?_, _, upd_same, Nat.le_trans putK_le (by omega), fun s hs => ?_⟩
      · rw [upd_ne (ne_of_none n hD2)]
        exact k1 b o (f1 b o n)
      · rcases (mem_take_succ hi').mp hs with hs | rfl
        · obtain ⟨d, c1, c2, c3, c4⟩ := f4 s hs
          have ne : ¬ (Sum.inr s : Key) = .inr ss[i] := fun z => nodup_take_not hN hi' (by rw [← Sum.inr.inj z]; exact hs)
          exact ⟨d, by rw [valV_put, if_neg ne]; exact c1, c2, c3, by rw [upd_ne c3]; exact k1 _ _ c4⟩
        · exact ⟨L, by rw [valV_put, if_pos rfl], hL2, LD, by rw [upd_ne LD]; exact k2⟩
  · rintro Hc ⟨f1, kv, f2, f3, f4⟩
    rw [List.length_map] at f3 f4
    rw [List.take_length] at f4
    refine q D2 kv Hc (g1.trans f1) hD20 f2 f3 fun s hs => ?_
    obtain ⟨d, c1, c2, _, c4⟩ := f4 s hs
    exact ⟨d, c1, g1.free c2, c4⟩
end
end K1
end
-- KHeads
section
set_option Elab.async false
set_option linter.all false
set_option maxRecDepth 100000
set_option maxHeartbeats 4000000
namespace K1
open PySem PySem.Spec PyProof.Rows L2
abbrev sND : Stmt := top 27
/-- no head -/
def BadHead (K : PySem.W.Frag) (H : Hp) (x : V) : Prop := (∃ t, TyX K H x (.type t) ∧ t ∈ kinds ∧ t ≠ "int") ∨ ∃ i, x = .int i ∧ i < 1
theorem BadHead.ext {K : PySem.W.Frag} {H H' : Hp} {x : V} (h : BadHead K H x) (e : Same H H') : BadHead K H' x := h.imp (fun ⟨t, a, b⟩ => ⟨t, TyX.ext a e, b⟩) id
def spND (K : PySem.W.Frag) (C : Addr) : Sp := fun vs H Q E => ∃ u v hs, vs = [u, v] ∧ SeqV H u hs ∧
  ((NoSeq K H v ∧ Goes C 0 H E) ∨
   (∃ ns : List Int, SeqV H v (ns.map V.int) ∧ (∀ n ∈ ns, 1 ≤ n) ∧ ns.length = hs.length ∧ ∀ H', Same H H' → Q .non H') ∨
   (∃ ns : List Int, SeqV H v (ns.map V.int) ∧ (∀ n ∈ ns, 1 ≤ n) ∧ ns.length < hs.length ∧ Goes C (ns.length : Nat) H E) ∨
   (∃ (ns : List Int) (x : V) (rest : List V), SeqV H v (ns.map V.int ++ x :: rest) ∧ (∀ n ∈ ns, 1 ≤ n) ∧ ns.length ≤ hs.length ∧ (ns.length = hs.length ∨ BadHead K H x) ∧ Goes C (ns.length : Nat) H E))
theorem scND : FnScope ["houses", "heads", "index", "many"] ["houses", "heads"] (defScope sND) := ⟨rfl, rfl, rfl, by decide +kernel, rfl, by decide +kernel, by decide +kernel⟩
section
variable {P : Program} {w : World} {K : PySem.W.Frag} {mg : Str → Option Value} {base : Heap} {CF : Addr}
theorem ok_ND {f g fN fI fE C : Addr} {fd gd nd id' ed : FuncData} (F : Fun K "_need_heads" "_need_heads" sND f fd) (B : Bl mg) (me : mg "enumerate" = none)
    (FI : Fun K "is_list" "is_list" sIsList g gd) (b : Binds K gd ["thing"] []) (m : mg "is_list" = some (.ref g))
    (FN : Fun K "is_from_one" "is_from_one" sFromOne fN nd) (bN : Binds K nd ["thing"] []) (mN : mg "is_from_one" = some (.ref fN))
    (FJ : Fun K "is_integer" "is_integer" sIsInt fI id') (bJ : Binds K id' ["thing"] []) (mJ : mg "is_integer" = some (.ref fI))
    (T : FeC K mg CF) (TC : ErC K mg "BadHeads" C fE) (FE : Fun K "__init__" "BadHeads.__init__" sID fE ed) (bE : Binds K ed ["self", "index"] []) :
    FnOk P w K mg base (L2.CX P w) 4 f fd ["houses", "heads"] (spND K C) := by
  have G := ok_isList (P := P) (w := w) (base := base) FI B
  have GN := ok_fromOne (P := P) (w := w) (base := base) FN FJ bJ mJ B
  have GE := ok_iD (P := P) (w := w) (base := base) FE T TC
  refine F.okX scND (fun vs H Q E h => ?_) (fun cdv A outer s H vs Q E hr h => ?_)
  · obtain ⟨u, v, hs, rfl, _⟩ := h
    rfl
  obtain ⟨u, v, hs, rfl, su, h⟩ := h
  have nd := scND.nd
  have hr1 : Room 1 _ := hr.mono (by decide)
  have hr2 : Room 2 _ := hr.mono (by decide)
  refine ⟨_, pss_cons (by exact (ps_if (pt_not (pt_val (pe_call G hr1 rfl m FI.kp b .nil pass0 (pa_cons (pv 1) pa_nil))))
      (pss_one (by exact (ps_raise rfl (takes_of rfl rfl rfl rfl) (pmk_oex TC.ox TC.ini TC.ty GE hr2 bE .nil pass0 rfl TC.m (pa_cons pe_int pa_nil))))) pss_nil))
    (pss_cons (by exact (ps_for (passes_of rfl) rfl (by exact pi_enumV 1 rfl me (pv 1)) (pg_tup rfl (pgs_cons (pg_name (i := 2) nd rfl (.inl rfl)) (pgs_cons (pg_name (i := 3) nd rfl (.inl rfl)) pgs_nil)))
      (pss_one (by exact (ps_if (PW.pt (pw_or (pt_cmpR op_ge (pv 2) (pe_callB call_len_seq rfl B.len PySem.boot_len (pa_cons (pv 0) pa_nil)) (nomark _)) (pw_or1 (pt_not (pt_val (pe_call GN hr2 rfl mN FN.kp bN .nil pass0 (pa_cons (pv 3) pa_nil)))))))
          (pss_one (by exact (ps_raise rfl (takes_of rfl rfl rfl rfl) (pmk_oex TC.ox TC.ini TC.ty GE hr2 bE .nil pass0 rfl TC.m (pa_cons (pv 2) pa_nil))))) pss_nil)))))
    (pss_one (by exact (ps_if (pt_cmpR op_lt (pe_callB call_len_seq rfl B.len PySem.boot_len (pa_cons (pv 1) pa_nil)) (pe_callB call_len_seq rfl B.len PySem.boot_len (pa_cons (pv 0) pa_nil)) (nomark _))
          (pss_one (by exact (ps_raise rfl (takes_of rfl rfl rfl rfl) (pmk_oex TC.ox TC.ini TC.ty GE hr2 bE .nil pass0 rfl TC.m (pa_cons (pe_callB call_len_seq rfl B.len PySem.boot_len (pa_cons (pv 1) pa_nil)) pa_nil))))) pss_nil)))), ?_⟩
  rcases h with ⟨⟨t, ty, kt, nt⟩, g⟩ | h
  · refine ⟨_, rfl, v, t, rfl, ty, kt, fun H' e => ⟨_, rfl, ?_⟩⟩
    rw [nt]
    exact iteT ⟨(by show 1 ≤ 1000; decide), raise_idx g e⟩
  obtain ⟨ns, xs, sv, good, hle, rest⟩ : ∃ (ns : List Int) (xs : List V), SeqV H v xs ∧ (∀ n ∈ ns, 1 ≤ n) ∧ ns.length ≤ hs.length ∧
      ((xs = ns.map V.int ∧ ns.length = hs.length ∧ ∀ H', Same H H' → Q .non H') ∨ (xs = ns.map V.int ∧ ns.length < hs.length ∧ Goes C (ns.length : Nat) H E) ∨
        (∃ x r, xs = ns.map V.int ++ x :: r ∧ (ns.length = hs.length ∨ BadHead K H x) ∧ Goes C (ns.length : Nat) H E)) := by
    rcases h with ⟨ns, sv, a, b, q⟩ | ⟨ns, sv, a, b, q⟩ | ⟨ns, x, r, sv, a, b, c, q⟩
    · exact ⟨ns, _, sv, a, Nat.le_of_eq b, .inl ⟨rfl, b, q⟩⟩
    · exact ⟨ns, _, sv, a, Nat.le_of_lt b, .inr (.inl ⟨rfl, b, q⟩)⟩
    · exact ⟨ns, _, sv, a, b, .inr (.inr ⟨x, r, rfl, c, q⟩)⟩
  obtain ⟨t, ty, kt, st⟩ := sv.ty (K := K)
  refine ⟨_, rfl, v, t, rfl, ty, kt, fun H1 e1 => ⟨_, rfl, ?_⟩⟩
  rw [st]
  refine iteF ?_
  obtain ⟨p, rfl, hp⟩ := sv.ext e1
  have sq : SqA K H1 p xs := hp.imp (fun h => SqL.of h) (fun h => SqT.of h)
  obtain ⟨p2, rfl, sq2⟩ := (su.ext e1).sq (K := K)
  have sq2' : SqA K H1 p2 hs := sq2
  have xat : ∀ i (hi : i < ns.length), xs[i]? = some (.int ns[i]) := fun i hi => by
    rcases rest with ⟨rfl, _⟩ | ⟨rfl, _⟩ | ⟨x, r, rfl, _⟩
    · rw [List.getElem?_map, List.getElem?_eq_getElem hi]; rfl
    · rw [List.getElem?_map, List.getElem?_eq_getElem hi]; rfl
    · rw [List.getElem?_append_left (by rw [List.length_map]; exact hi), List.getElem?_map, List.getElem?_eq_getElem hi]; rfl
  refine ⟨p, xs, rfl, sq, fun J G wk hG => ?_⟩
  refine for_it wk (fun i σ Hc => i ≤ ns.length ∧ (∃ a b, σ = [some (.ref p2), some (.ref p), a, b]) ∧ Same H1 Hc) ⟨Nat.zero_le _, ⟨_, _, rfl⟩, Same.refl _⟩ (fun i σ Hc hi h => hG Hc fun o ho => h.2.2 _ _ ho) ?_ ?_
  · rintro i x σ Hc H' hi ⟨h1, ⟨sa, sb, rfl⟩, h3⟩ ⟨T, x1, x2, rfl, hT, rfl, e1', e2'⟩
    obtain rfl : x1 = .int (i : Nat) := (Option.some.inj e1').symm
    have e2' : xs[i]? = some x2 := e2'
    have eT : Same H1 (upd Hc T (.tup [.int (i : Nat), x2])) := h3.trans (K1.Same.upd hT)
    refine ⟨T, _, rfl, SqT.of upd_same, rfl, _, _, rfl, _, _, rfl, rfl, ?_⟩
    refine ⟨_, rfl, _, rfl, p2, hs, rfl, SqA.same sq2' eT, _, _, rfl, rfl, _, rfl, ?_⟩
    by_cases hlt : i < ns.length
    · have ex2 : x2 = .int ns[i] := by
        have q := xat i hlt
        rw [q] at e2'
        exact (Option.some.inj e2').symm
      subst ex2
      rw [decide_eq_false (show ¬ ((hs.length : Nat) : Int) ≤ ((i : Nat) : Int) by omega)]
      refine iteF ⟨_, rfl, .int ns[i], rfl, .inl ⟨ns[i], rfl, _, rfl, ?_⟩⟩
      rw [decide_eq_true (good _ (List.getElem_mem hlt))]
      exact iteF ⟨hlt, ⟨_, _, rfl⟩, eT⟩
    · obtain ⟨x, r, hxs, bad, g⟩ : ∃ x r, xs = ns.map V.int ++ x :: r ∧ (ns.length = hs.length ∨ BadHead K H x) ∧ Goes C (ns.length : Nat) H E := by
        rcases rest with ⟨rfl, _⟩ | ⟨rfl, _⟩ | q
        · rw [List.length_map] at hi
          exact absurd hi hlt
        · rw [List.length_map] at hi
          exact absurd hi hlt
        · exact q
      have ei : i = ns.length := by omega
      subst ei
      have ex2 : x2 = x := by
        rw [hxs, List.getElem?_append_right (by rw [List.length_map]; exact Nat.le_refl _), List.length_map, Nat.sub_self] at e2'
        exact (Option.some.inj e2').symm
      subst ex2
      by_cases hh : ns.length = hs.length
      · rw [decide_eq_true (show ((hs.length : Nat) : Int) ≤ ((ns.length : Nat) : Int) by omega)]
        exact iteT (iteT ⟨_, rfl, (by show 1 ≤ 1000; decide), raise_idx g (e1.trans eT)⟩)
      · rw [decide_eq_false (show ¬ ((hs.length : Nat) : Int) ≤ ((ns.length : Nat) : Int) by omega)]
        rcases bad with q | bad
        · exact absurd q hh
        rcases bad.ext (e1.trans eT) with ⟨t, ty, kt, nt⟩ | ⟨j, rfl, hj⟩
        · exact iteF ⟨_, rfl, x2, rfl, .inr ⟨t, ty, kt, nt, _, rfl, iteT ⟨_, rfl, (by show 1 ≤ 1000; decide), raise_idx g (e1.trans eT)⟩⟩⟩
        · refine iteF ⟨_, rfl, .int j, rfl, .inl ⟨j, rfl, _, rfl, ?_⟩⟩
          rw [decide_eq_false (by omega)]
          exact iteT ⟨_, rfl, (by show 1 ≤ 1000; decide), raise_idx g (e1.trans eT)⟩
  · rintro σ Hc ⟨h1, ⟨sa, sb, rfl⟩, h3⟩
    have f1 := SqA.same sq h3
    have f2 := SqA.same sq2' h3
    refine ⟨_, rfl, p, xs, rfl, f1, _, rfl, p2, hs, rfl, f2, _, _, rfl, rfl, _, rfl, ?_⟩
    rcases rest with ⟨rfl, hl, q⟩ | ⟨rfl, hl, g⟩ | ⟨x, r, rfl, _⟩
    · rw [List.length_map, hl, decide_eq_false (by omega)]
      exact iteF (q Hc (e1.trans h3))
    · rw [List.length_map, decide_eq_true (by omega)]
      refine iteT ⟨_, rfl, p, _, rfl, f1, (by show 1 ≤ 1000; decide), ?_⟩
      rw [List.length_map]
      exact raise_idx g (e1.trans h3)
    · rw [List.length_append, List.length_map, List.length_cons] at h1
      omega
end
end K1
end
-- KDraw
section
set_option Elab.async false
set_option linter.all false
set_option maxRecDepth 100000
set_option maxHeartbeats 4000000
namespace K1
open PySem PySem.Spec PyProof.Rows L2
theorem gN {i : Nat} {v : V} {σ : L2.St} {H : Hp} {Q : L2.St → Hp → Prop} (h : Q (σ.set i (some v)) H) : gName i v σ H Q := h
theorem sQ {t u : TS} {D : Ends} {σ : L2.St} {H : Hp} (h : t { D with nx := u D } σ H) : tSeq t u D σ H := h
theorem nQ {D : Ends} {σ : L2.St} {H : Hp} (h : D.nx σ H) : tNext D σ H := h
/-- the spring at a, with at most n draws by mixed numbers -/
def Spr (H : Hp) (a : Addr) (n : Nat) : Prop := ∃ x y z : Int, H a = some (.lst [.int x, .int y, .int z]) ∧ 0 ≤ x ∧ 0 ≤ y ∧ y < 2147483647 ∧ 0 ≤ z ∧ z ≤ (n : Int)
/-- all but what stands at a is as it was -/
def Kept (a : Addr) (H H' : Hp) : Prop := ∀ b o, b ≠ a → H b = some o → H' b = some o
theorem Kept.refl {a : Addr} {H : Hp} : Kept a H H := fun _ _ _ h => h
theorem Kept.trans {a : Addr} {H H1 H2 : Hp} (p : Kept a H H1) (q : Kept a H1 H2) : Kept a H H2 := fun b o n h => q b o n (p b o n h)
theorem Kept.upd {a : Addr} {H : Hp} {o : HO} : Kept a H (L2.upd H a o) := fun b u n h => by rw [upd_ne n]; exact h
theorem Kept.new {a p : Addr} {H : Hp} {o : HO} (h : H p = none) : Kept a H (L2.upd H p o) := fun b u n e => by rw [upd_ne (ne_of_none e h)]; exact e
theorem Kept.same {a : Addr} {H H1 : Hp} (e : Same H H1) : Kept a H H1 := fun b o _ h => e b o h
def spDraw : Sp := fun vs H Q _ => ∃ (a : Addr) (many : Int) (n : Nat), vs = [.ref a, .int many] ∧ Spr H a n ∧ n ≤ 1000000 ∧ 0 < many ∧ many.natAbs < 2 ^ 100 ∧
  ∀ (d : Int) (H' : Hp), 0 ≤ d → d < many → Kept a H H' → Spr H' a (n + 1) → Q (.int d) H'
section
variable {P : Program} {w : World} {K : PySem.W.Frag} {mg : Str → Option Value} {base : Heap}
end
end K1
end
-- KDraw2
section
set_option Elab.async false
set_option linter.all false
set_option maxRecDepth 100000
set_option maxHeartbeats 4000000
namespace K1
open PySem PySem.Spec PyProof.Rows L2
def spPick : Sp := fun vs H Q _ => ∃ (a p : Addr) (xs : List V) (n : Nat), vs = [.ref a, .ref p] ∧ Spr H a n ∧ n ≤ 1000000 ∧ H p = some (.lst xs) ∧ p ≠ a ∧ xs ≠ [] ∧ xs.length ≤ 1000 ∧
  ∀ (x : V) (H' : Hp), x ∈ xs → Kept a H H' → Spr H' a (n + 1) → Q x H'
def spMixed : Sp := fun vs H Q _ => ∃ (a p : Addr) (xs : List V) (n : Nat), vs = [.ref a, .ref p] ∧ Spr H a n ∧ n + 1000 ≤ 1000000 ∧ H p = some (.lst xs) ∧ p ≠ a ∧ xs.length ≤ 1000 ∧
  ∀ (r : Addr) (ys : List V) (H' : Hp), ys.Perm xs → H r = none → r ≠ a → H' r = some (.lst ys) → Kept a H H' → Spr H' a (n + xs.length) → Q (.ref r) H'
theorem Spr.kept {H : Hp} {a : Addr} {n : Nat} (h : Spr H a n) : H a ≠ none := by
  obtain ⟨x, y, z, e, _⟩ := h
  rw [e]
  exact Option.some_ne_none _
theorem Spr.upd {H : Hp} {a p : Addr} {n : Nat} {o : HO} (h : Spr H a n) (hp : p ≠ a) : Spr (L2.upd H p o) a n := by
  obtain ⟨x, y, z, e, q⟩ := h
  exact ⟨x, y, z, by rw [upd_ne hp.symm]; exact e, q⟩
theorem Spr.ne {H : Hp} {a p : Addr} {n : Nat} (h : Spr H a n) (hp : H p = none) : p ≠ a := fun e => by
  rw [e] at hp
  exact h.kept hp
theorem Spr.mono {H : Hp} {a : Addr} {n m : Nat} (h : Spr H a n) (l : n ≤ m) : Spr H a m := by
  obtain ⟨x, y, z, e, h1, h2, h3, h4, h5⟩ := h
  exact ⟨x, y, z, e, h1, h2, h3, h4, by omega⟩
theorem at_mem {xs : List V} {d : Int} (h0 : 0 ≤ d) (h1 : d < (xs.length : Int)) : ∃ x, atI xs d = some x ∧ x ∈ xs ∧ xs[d.toNat]? = some x := by
  have hk : d.toNat < xs.length := by omega
  have ek : d = ((d.toNat : Nat) : Int) := by omega
  refine ⟨xs[d.toNat], ?_, List.getElem_mem _, List.getElem?_eq_getElem hk⟩
  have q := atI_nat (xs := xs) (j := d.toNat) (v := xs[d.toNat]) (List.getElem?_eq_getElem hk)
  rwa [← ek] at q
section
variable {P : Program} {w : World} {K : PySem.W.Frag} {mg : Str → Option Value} {base : Heap} {fD : Addr} {fdD : FuncData}
theorem perm_pop {acc ls xs : List V} {i : Nat} {x : V} (h : (acc ++ ls).Perm xs) (e : ls[i]? = some x) : (acc ++ [x] ++ ls.eraseIdx i).Perm xs := by
  refine List.Perm.trans ?_ h
  rw [List.append_assoc]
  refine List.Perm.append_left acc ?_
  obtain ⟨hi, rfl⟩ := List.getElem?_eq_some_iff.mp e
  have e : ls = ls.take i ++ ls[i] :: ls.drop (i + 1) := by
    rw [← List.drop_eq_getElem_cons hi, List.take_append_drop]
  rw [List.eraseIdx_eq_take_drop_succ]
  conv => rhs; rw [e]
  exact (List.perm_middle (l₁ := ls.take i) (a := ls[i]) (l₂ := ls.drop (i + 1))).symm
def rLen (K : PySem.W.Frag) : List V → Hp → VK → Prop := fun xs H Q => ∃ p ys, xs = [.ref p] ∧ (SqL K H p ys ∨ SqT K H p ys) ∧ Q (.int (ys.length : Int)) H
theorem call_len' {X : Cx} : CallR X (.builtin "len") (rLen X.K) := call_len_seq
end
end K1
end
-- KInit
section
set_option Elab.async false
set_option linter.all false
set_option maxRecDepth 100000
set_option maxHeartbeats 4000000
namespace K1
open PySem PySem.Spec PyProof.Rows L2
abbrev sVI : Stmt := inClass (top 22) 0
def HousesBad (K : PySem.W.Frag) (H : Hp) (h : V) (i : Nat) : Prop := (NoSeq K H h ∧ i = 0) ∨ (SeqV H h [] ∧ i = 0) ∨ ∃ ss x rest, SeqV H h (ss.map V.str ++ x :: rest) ∧ ss.length ≤ 1000 ∧ Good ss ∧ BadName K H ss x ∧ i = ss.length
def HousesOk (H : Hp) (h : V) (ss : List Str) : Prop := SeqV H h (ss.map V.str) ∧ ss ≠ [] ∧ ss.length ≤ 1000 ∧ Good ss
def RoadsOk (H : Hp) (ss : List Str) (r : V) (rs : List (Str × Str)) : Prop := ∃ vs, SeqV H r vs ∧ Paired (PairV H) vs rs ∧ EndsIn ss rs ∧ Forest rs ∧ rs.length + 1 = ss.length
def RoadsBad (K : PySem.W.Frag) (H : Hp) (ss : List Str) (r : V) (i : Nat) : Prop := (NoSeq K H r ∧ i = 0) ∨ ∃ (vs : List V) (rs : List (Str × Str)) (tail : List V), SeqV H r (vs ++ tail) ∧ Paired (PairV H) vs rs ∧ EndsIn ss rs ∧ Forest rs ∧ i = rs.length ∧
  ((tail = [] ∧ rs.length + 1 ≠ ss.length) ∨ ∃ x rest, tail = x :: rest ∧ BadRoad K H ss rs x)
def HeadsOk (H : Hp) (ss : List Str) (g : V) (ns : List Int) : Prop := SeqV H g (ns.map V.int) ∧ (∀ n ∈ ns, 1 ≤ n) ∧ ns.length = ss.length
def HeadsBad (K : PySem.W.Frag) (H : Hp) (ss : List Str) (g : V) (i : Nat) : Prop := (NoSeq K H g ∧ i = 0) ∨ (∃ ns : List Int, SeqV H g (ns.map V.int) ∧ (∀ n ∈ ns, 1 ≤ n) ∧ ns.length < ss.length ∧ i = ns.length) ∨
  ∃ (ns : List Int) (x : V) (rest : List V), SeqV H g (ns.map V.int ++ x :: rest) ∧ (∀ n ∈ ns, 1 ≤ n) ∧ ns.length ≤ ss.length ∧ (ns.length = ss.length ∨ BadHead K H x) ∧ i = ns.length
/-- a Valley at x, which keeps these three lists -/
structure ValI (C : Addr) (H : Hp) (x l1 l2 l3 : Addr) (qs : List Addr) (ss : List Str) (rs : List (Str × Str)) (ns : List Int) : Prop where
  ins : ∃ dx fs, H x = some (.ins C dx fs) ∧ fs.lookup ("_houses" : Str) = some (V.ref l1) ∧ fs.lookup ("_roads" : Str) = some (V.ref l2) ∧ fs.lookup ("_heads" : Str) = some (V.ref l3) ∧ ∀ m : Str, m ≠ "_houses" → m ≠ "_roads" → m ≠ "_heads" → m ≠ "_people" → m ≠ "_places" → m ≠ "_beside" → fs.lookup m = none
  h1 : H l1 = some (.lst (ss.map V.str))
  h2 : H l2 = some (.lst (qs.map V.ref))
  pr : Paired (TupP H) qs rs
  h3 : H l3 = some (.lst (ns.map V.int))
structure VcT (K : PySem.W.Frag) (C : Addr) : Prop where
  cl : Cls K C
  n1 : NoAttr K C "_houses"
  n2 : NoAttr K C "_roads"
  n3 : NoAttr K C "_heads"
  n4 : NoAttr K C "_people"
  n5 : NoAttr K C "_places"
  n6 : NoAttr K C "_beside"
def spVI (K : PySem.W.Frag) (C CH CR CD : Addr) : Sp := fun vs H Q E => ∃ x h r g dx, vs = [.ref x, h, r, g] ∧ H x = some (.ins C dx []) ∧
  ((∃ i : Nat, HousesBad K H h i ∧ Goes CH i H E) ∨ (∃ ss, ∃ i : Nat, HousesOk H h ss ∧ RoadsBad K H ss r i ∧ Goes CR i H E) ∨ (∃ ss rs, ∃ i : Nat, HousesOk H h ss ∧ RoadsOk H ss r rs ∧ HeadsBad K H ss g i ∧ Goes CD i H E) ∨
   (∃ ss rs ns, HousesOk H h ss ∧ RoadsOk H ss r rs ∧ HeadsOk H ss g ns ∧ ∀ H' l1 l2 l3 qs, Kept x H H' → ValI C H' x l1 l2 l3 qs ss rs ns → H l1 = none → H l2 = none → H l3 = none → (∀ q ∈ qs, H q = none) → Q .non H'))
theorem scVI : FnScope ["self", "houses", "roads", "heads", "one", "other", "house", "index"] ["self", "houses", "roads", "heads"] (defScope sVI) := ⟨rfl, rfl, rfl, by decide +kernel, rfl, by decide +kernel, by decide +kernel⟩
/-- a written tuple of targets, a list or a tuple handed in -/
def gSeq (K : PySem.W.Frag) (n : Nat) (t : TGs) : TG := fun v σ H Q => ∃ a xs, v = .ref a ∧ SqA K H a xs ∧ xs.length = n ∧ t xs σ H Q
theorem pg_seq {X : Cx} {pos : Pos} {es : List Expr} {k : Nat} {t : TGs} {n : Nat} (hc : X.calm = true) (h : PGs X es t) (hn : (assignEach es X.env).length = n := by rfl) (hst : (assignEach es X.env).findIdx? (·.1) = none := by rfl) : PG X (.Tuple es k pos) (gSeq X.K n t) := by
  refine ⟨fun pins s σ H v u Q I r q => ?_⟩
  obtain ⟨a, xs, rfl, hq | hq, l, q⟩ := q
  · exact (pg_lst hc h hn hst).run pins s σ H _ u Q I r ⟨a, xs, rfl, hq, l, q⟩
  · exact (pg_tup hc h hn hst).run pins s σ H _ u Q I r ⟨a, xs, rfl, hq, l, q⟩
theorem SeqV.kept {H H' : Hp} {v : V} {xs : List V} {x C dx : Addr} {fs : List (Str × V)} (h : SeqV H v xs) (hx : H x = some (.ins C dx fs)) (k : Kept x H H') : SeqV H' v xs := by
  obtain ⟨p, rfl, h⟩ := h
  have ne : p ≠ x := fun z => by
    rw [z, hx] at h
    rcases h with h | h <;> cases h
  exact ⟨p, rfl, h.imp (k _ _ ne) (k _ _ ne)⟩
theorem PairV.kept {H H' : Hp} {vs : List V} {rs : List (Str × Str)} {x C dx : Addr} {fs : List (Str × V)} (h : Paired (PairV H) vs rs) (hx : H x = some (.ins C dx fs)) (k : Kept x H H') : Paired (PairV H') vs rs := paired_imp (fun _ _ q => SeqV.kept q hx k) h
section
variable {P : Program} {w : World} {K : PySem.W.Frag} {mg : Str → Option Value} {base : Heap} {CF C CH CR CD : Addr}
theorem ok_VI {f fN fR fD fB fG : Addr} {fd nd_ rd_ dd_ bd gd : FuncData} (F : Fun K "__init__" "Valley.__init__" sVI f fd) (B : Bl mg) (me : mg "enumerate" = none) (T : VcT K C)
    (GN : FnOk P w K mg base (L2.CX P w) 4 fN nd_ ["houses"] (spNH K CH)) (kN : PySem.W.keepIn K (.ref fN) = true) (bN : Binds K nd_ ["houses"] []) (mN : mg "_need_houses" = some (.ref fN))
    (GR : FnOk P w K mg base (L2.CX P w) 4 fR rd_ ["houses", "roads"] (spNR K CR)) (kR : PySem.W.keepIn K (.ref fR) = true) (bR : Binds K rd_ ["houses", "roads"] []) (mR : mg "_need_roads" = some (.ref fR))
    (GD : FnOk P w K mg base (L2.CX P w) 4 fD dd_ ["houses", "heads"] (spND K CD)) (kD : PySem.W.keepIn K (.ref fD) = true) (bD : Binds K dd_ ["houses", "heads"] []) (mD : mg "_need_heads" = some (.ref fD))
    (FB : Fun K "_both_ways" "_both_ways" sBW fB bd) (bB : Binds K bd ["roads"] []) (mB : mg "_both_ways" = some (.ref fB))
    (FG : Fun K "_neighbours" "_neighbours" sNB fG gd) (bG : Binds K gd ["houses", "roads"] []) (mG : mg "_neighbours" = some (.ref fG)) :
    FnOk P w K mg base (L2.CX P w) 5 f fd ["self", "houses", "roads", "heads"] (spVI K C CH CR CD) := by
  have GB := ok_BW (P := P) (w := w) (base := base) FB me
  have GG := ok_NB (P := P) (w := w) (mg := mg) (base := base) FG
  refine F.okX scVI (fun vs H Q E h => ?_) (fun cdv A outer s H vs Q E hr h => ?_)
  · obtain ⟨x, hh, r, g, dx, rfl, _⟩ := h
    rfl
  obtain ⟨x, hh, r, g, dx, rfl, hx, h⟩ := h
  have nd := scVI.nd
  have hu := hu_of hr
  have hr1 : Room 1 _ := hr.mono (by decide)
  refine ⟨_, pss_cons (by exact (ps_expr (pe_call GN hr rfl mN kN bN .nil (passes_call (takes_of rfl rfl rfl rfl) (fun _ _ _ _ h => h)) (pa_cons (pv 1) pa_nil))))
    (pss_cons (by exact (ps_expr (pe_call GR hr rfl mR kR bR .nil (passes_call (takes_of rfl rfl rfl rfl) (fun _ _ _ _ h => h)) (pa_cons (pv 1) (pa_cons (pv 2) pa_nil)))))
    (pss_cons (by exact (ps_expr (pe_call GD hr rfl mD kD bD .nil (passes_call (takes_of rfl rfl rfl rfl) (fun _ _ _ _ h => h)) (pa_cons (pv 1) (pa_cons (pv 3) pa_nil)))))
    (pss_cons (by exact (ps_fld (pv 0) (pe_callTy call_list_of rfl B.list PyProof.Rows.boot_list (pa_cons (pv 1) pa_nil)) rfl))
    (pss_cons (by exact (ps_fld (pv 0) (pe_lc (own := [("one", 4), ("other", 5)]) (g := gSeq K 2 (gCons (gName 4) (gCons (gName 5) gNil))) (tt := tYes) (te := tTup (tCons (tVar 4) (tCons (tVar 5) tNil))) rfl nd (by exact pi_seqV 2 (pv 2))
        (by exact blkOk_by (N := ["self", "houses", "roads", "heads", "one", "other", "house", "index"]) (sc := defScope sVI) (by decide +kernel)) (fun _ _ _ _ _ => by exact pg_seq rfl (pgs_cons (pg_name (i := 4) nd rfl (.inl rfl)) (pgs_cons (pg_name (i := 5) nd rfl (.inl rfl)) pgs_nil)))
        (fun _ _ _ _ _ => pts_nil) (fun _ _ _ _ _ => by exact pe_tup (pa_cons (pv 4) (pa_cons (pv 5) pa_nil)))) rfl))
    (pss_cons (by exact (ps_fld (pv 0) (pe_callTy call_list_of rfl B.list PyProof.Rows.boot_list (pa_cons (pv 3) pa_nil)) rfl))
    (pss_cons (by exact (ps_fld (pv 0) (pe_dc (own := [("house", 6), ("index", 7)]) (g := gTup K 2 (gCons (gName 7) (gCons (gName 6) gNil))) (tt := tYes) (tk := tVar 6) (tv := tOp (rIx K) (tVar 3) (tVar 7)) rfl nd (by exact pi_enumV 1 rfl me (pv 1))
        (by exact blkOk_by (N := ["self", "houses", "roads", "heads", "one", "other", "house", "index"]) (sc := defScope sVI) (by decide +kernel)) (fun _ _ _ _ _ => by exact pg_tup rfl (pgs_cons (pg_name (i := 7) nd rfl (.inl rfl)) (pgs_cons (pg_name (i := 6) nd rfl (.inl rfl)) pgs_nil)))
        (fun _ _ _ _ _ => pts_nil) (fun _ _ _ _ _ => by exact pv 6) (fun _ _ _ _ _ => by exact pe_ix ix_seq (pv 3) (pv 7) (fun _ _ => rfl))) rfl))
    (pss_cons (by exact (ps_fld (pv 0) (pe_call GB hr1 rfl mB FB.kp bB .nil pass0 (pa_cons (pe_fld (pv 0) rfl) pa_nil)) rfl))
    (pss_one (by exact (ps_fld (pv 0) (pe_call GG hr1 rfl mG FG.kp bG .nil pass0 (pa_cons (pe_fld (pv 0) rfl) (pa_cons (pe_fld (pv 0) rfl) pa_nil))) rfl)))))))))), ?_⟩
  rcases h with ⟨i, bad, go⟩ | h
  · refine ⟨_, rfl, hh, rfl, ?_⟩
    rcases bad with ⟨n, rfl⟩ | ⟨n, rfl⟩ | ⟨ss, y, rest, a1, a2, a3, a4, rfl⟩
    · exact .inl ⟨n, go⟩
    · exact .inr (.inl ⟨n, go⟩)
    · exact .inr (.inr (.inr ⟨ss, y, rest, a1, a2, a3, a4, go⟩))
  obtain ⟨ss, ⟨sh, hne, hl, good⟩, h⟩ : ∃ ss, HousesOk H hh ss ∧ ((∃ i : Nat, RoadsBad K H ss r i ∧ Goes CR i H E) ∨ (∃ rs, ∃ i : Nat, RoadsOk H ss r rs ∧ HeadsBad K H ss g i ∧ Goes CD i H E) ∨
      (∃ rs ns, RoadsOk H ss r rs ∧ HeadsOk H ss g ns ∧ ∀ H' l1 l2 l3 qs, Kept x H H' → ValI C H' x l1 l2 l3 qs ss rs ns → H l1 = none → H l2 = none → H l3 = none → (∀ q ∈ qs, H q = none) → Q .non H')) := by
    rcases h with ⟨ss, i, a, b, c⟩ | ⟨ss, rs, i, a, b, c, d⟩ | ⟨ss, rs, ns, a, b, c, d⟩
    · exact ⟨ss, a, .inl ⟨i, b, c⟩⟩
    · exact ⟨ss, a, .inr (.inl ⟨rs, i, b, c, d⟩)⟩
    · exact ⟨ss, a, .inr (.inr ⟨rs, ns, b, c, d⟩)⟩
  refine ⟨_, rfl, hh, rfl, .inr (.inr (.inl ⟨ss, sh, hne, hl, good, fun H1 e1 => ?_⟩))⟩
  rcases h with ⟨i, bad, go⟩ | h
  · refine ⟨_, rfl, _, rfl, hh, r, ss, rfl, sh.ext e1, good, hl, ?_⟩
    rcases bad with ⟨n, rfl⟩ | ⟨vs, rs, tail, a1, a2, a3, a4, rfl, a5⟩
    · exact .inl ⟨n.ext e1, go.ext e1⟩
    · refine .inr ⟨vs, rs, tail, a1.ext e1, paired_imp (fun _ _ q => SeqV.ext q e1) a2, a3, a4, ?_⟩
      rcases a5 with ⟨rfl, n⟩ | ⟨y, rest, rfl, b⟩
      · exact .inr (.inl ⟨rfl, n, go.ext e1⟩)
      · exact .inr (.inr ⟨y, rest, rfl, b.ext e1, go.ext e1⟩)
  obtain ⟨rs, ⟨vs, sr, pr, ends, forest, hrl⟩, h⟩ : ∃ rs, RoadsOk H ss r rs ∧ ((∃ i : Nat, HeadsBad K H ss g i ∧ Goes CD i H E) ∨
      (∃ ns, HeadsOk H ss g ns ∧ ∀ H' l1 l2 l3 qs, Kept x H H' → ValI C H' x l1 l2 l3 qs ss rs ns → H l1 = none → H l2 = none → H l3 = none → (∀ q ∈ qs, H q = none) → Q .non H')) := by
    rcases h with ⟨rs, i, b, c, d⟩ | ⟨rs, ns, b, c, d⟩
    · exact ⟨rs, b, .inl ⟨i, c, d⟩⟩
    · exact ⟨rs, b, .inr ⟨ns, c, d⟩⟩
  refine ⟨_, rfl, _, rfl, hh, r, ss, rfl, sh.ext e1, good, hl, .inr ⟨vs, rs, [], by rw [List.append_nil]; exact sr.ext e1, paired_imp (fun _ _ q => SeqV.ext q e1) pr, ends, forest, .inl ⟨rfl, hrl, fun H2 e2' => ?_⟩⟩⟩
  have e2 := e1.trans e2'
  rcases h with ⟨i, bad, go⟩ | ⟨ns, ⟨sg, hn1, hnl⟩, q⟩
  · refine ⟨_, rfl, _, rfl, hh, g, ss.map V.str, rfl, sh.ext e2, ?_⟩
    rcases bad with ⟨n, rfl⟩ | ⟨ns, a1, a2, a3, rfl⟩ | ⟨ns, y, rest, a1, a2, a3, a4, rfl⟩
    · exact .inl ⟨n.ext e2, go.ext e2⟩
    · exact .inr (.inr (.inl ⟨ns, a1.ext e2, a2, by rw [List.length_map]; exact a3, go.ext e2⟩))
    · exact .inr (.inr (.inr ⟨ns, y, rest, a1.ext e2, a2, by rw [List.length_map]; exact a3, by rw [List.length_map]; exact a4.imp id fun b => b.ext e2, go.ext e2⟩))
  refine ⟨_, rfl, _, rfl, hh, g, ss.map V.str, rfl, sh.ext e2, .inr (.inl ⟨ns, sg.ext e2, hn1, by rw [List.length_map]; exact hnl, fun H3 e3' => ?_⟩)⟩
  have e3 := e2.trans e3'
  have x3 := e3 _ _ hx
  have k3 : Kept x H H3 := Kept.same e3
  -- list(houses)
  obtain ⟨p1, rfl, q1⟩ := (sh.ext e3).sq (K := K)
  refine ⟨_, rfl, p1, _, rfl, q1, fun l1 hl1 => ?_⟩
  have n1 : l1 ≠ x := fun z => by rw [z, x3] at hl1; cases hl1
  have l1H : H l1 = none := e3.free hl1
  refine ⟨_, rfl, x, C, dx, [], rfl, (by rw [upd_ne n1.symm]; exact x3), T.cl, T.n1, (by decide), ?_⟩
  have k4 : Kept x H3 (upd (upd H3 l1 (.lst (ss.map V.str))) x (.ins C dx (putF "_houses" (.ref l1) []))) := (Kept.new hl1).trans Kept.upd
  have f1 : upd (upd H3 l1 (.lst (ss.map V.str))) x (.ins C dx (putF "_houses" (.ref l1) [])) l1 = some (.lst (ss.map V.str)) := by rw [upd_ne n1, upd_same]
  have x4 : upd (upd H3 l1 (.lst (ss.map V.str))) x (.ins C dx (putF "_houses" (.ref l1) [])) x = some (.ins C dx (putF "_houses" (.ref l1) [])) := upd_same
  generalize upd (upd H3 l1 (.lst (ss.map V.str))) x (.ins C dx (putF "_houses" (.ref l1) [])) = H4 at k4 f1 x4 ⊢
  have k04 := k3.trans k4
  have fr : ∀ {Hz : Hp} {l : Addr}, Kept x H Hz → Hz l = none → l ≠ x → H l = none := fun {Hz l} k n ne => by
    cases e : H l with
    | none => rfl
    | some o => rw [k _ _ ne e] at n; cases n
  -- the roads' pairs
  obtain ⟨p2, rfl, q2⟩ := sr.kept hx k04
  have sq2 : SqA K H4 p2 vs := q2.imp (fun h => SqL.of h) (fun h => SqT.of h)
  refine ⟨p2, _, rfl, sq2, fun J G wk hG l2 hl2 => ?_⟩
  have n2 : l2 ≠ x := fun z => by rw [z, x4] at hl2; cases hl2
  have lvs : vs.length = rs.length := pr.length
  refine lc_it wk (fun i Hc => Same H4 Hc ∧ ∃ qs, Hc l2 = some (.lst (qs.map V.ref)) ∧ Paired (TupP Hc) qs (rs.take i) ∧ (∀ z ∈ qs, H4 z = none ∧ z ≠ l2)) ⟨K1.Same.upd hl2, [], upd_same, .nil, fun z hz => absurd hz (by simp)⟩ (fun i Hc _ h => hG Hc fun o ho => h.1 _ _ ho) ?_ ?_
  · rintro i y Hc H' hi ⟨a1, qs, a2, a3, a4⟩ ⟨rfl, hy⟩
    rw [lvs] at hi
    obtain ⟨y', ey, py⟩ := paired_get (PairV.kept pr hx k04) hi
    have : y = y' := Option.some.inj (hy.symm.trans ey)
    subst this
    obtain ⟨py1, rfl, py2⟩ := SeqV.ext py a1
    refine ⟨py1, _, rfl, py2.imp (fun h => SqL.of h) (fun h => SqT.of h), rfl, _, _, rfl, _, _, rfl, rfl, rfl, ?_⟩
    unfold tYes
    refine iteT ?_
    refine ⟨_, rfl, _, rfl, (by show 2 ≤ sizeLine; decide), fun b hb => ?_⟩
    have bl : b ≠ l2 := fun z => by rw [z, a2] at hb; cases hb
    have lq : qs.length ≤ rs.length := by rw [a3.length, List.length_take]; omega
    have sb := K1.Same.upd (H := H') (p := b) (o := .tup [.str rs[i].1, .str rs[i].2]) hb
    refine ⟨qs.map V.ref, by rw [upd_ne bl.symm]; exact a2, by rw [List.length_map]; exact small1000 (by omega), ?_, qs ++ [b], by rw [upd_same, List.map_append]; rfl, ?_, fun z hz => ?_⟩
    · intro c o n
      rw [upd_ne (ne_of_none n hl2)]
      exact sb _ _ (a1 _ _ n)
    · have up2 : ∀ z o, z ≠ l2 → upd H' b (.tup [.str rs[i].1, .str rs[i].2]) z = some o → upd (upd H' b (.tup [.str rs[i].1, .str rs[i].2])) l2 (.lst (qs.map V.ref ++ [.ref b])) z = some o := fun z o n e => by rw [upd_ne n]; exact e
      rw [List.take_add_one, List.getElem?_eq_getElem hi]
      have pz : ∀ {as : List Addr} {bs : List (Str × Str)}, Paired (TupP H') as bs → (∀ z ∈ as, z ≠ l2) → Paired (TupP (upd (upd H' b (.tup [.str rs[i].1, .str rs[i].2])) l2 (.lst (qs.map V.ref ++ [.ref b])))) (as ++ [b]) (bs ++ [rs[i]]) := by
        intro as bs h
        induction h with
        | nil => intro _; exact .cons (up2 _ _ bl upd_same) .nil
        | cons f1 f2 ih =>
          intro nz
          exact .cons (up2 _ _ (nz _ (List.mem_cons_self ..)) (sb _ _ f1)) (ih fun z hz => nz z (List.mem_cons_of_mem _ hz))
      exact pz a3 fun z hz => (a4 z hz).2
    · rcases List.mem_append.mp hz with hz | hz
      · exact a4 z hz
      · rw [List.mem_singleton.mp hz]
        exact ⟨a1.free hb, bl⟩
  rintro H5 ⟨e5, qs, a2, a3, a4⟩
  rw [lvs, List.take_length] at a3
  have x5 := e5 _ _ x4
  refine ⟨_, rfl, x, C, dx, _, rfl, x5, T.cl, T.n2, (Nat.lt_of_le_of_lt (length_putF _ _ _) (by decide)), ?_⟩
  have k5 : Kept x H (upd H5 x (.ins C dx (putF "_roads" (.ref l2) (putF "_houses" (.ref l1) [])))) := (k04.trans (Kept.same e5)).trans Kept.upd
  have up5 : ∀ z o, z ≠ x → H5 z = some o → upd H5 x (.ins C dx (putF "_roads" (.ref l2) (putF "_houses" (.ref l1) []))) z = some o := fun z o n e => by rw [upd_ne n]; exact e
  have g1 := up5 _ _ n1 (e5 _ _ f1)
  have g2 := up5 _ _ n2 a2
  have nq : ∀ z ∈ qs, z ≠ x := fun z hz e => by rw [e] at hz; rw [(a4 x hz).1] at x4; cases x4
  have pq : ∀ {Hz : Hp}, Kept x H5 Hz → Paired (TupP Hz) qs rs := fun {Hz} k => by
    have : ∀ {as : List Addr} {bs : List (Str × Str)}, Paired (TupP H5) as bs → (∀ z ∈ as, z ≠ x) → Paired (TupP Hz) as bs := by
      intro as bs h
      induction h with
      | nil => intro _; exact .nil
      | cons f1 f2 ih => intro nz; exact .cons (k _ _ (nz _ (List.mem_cons_self ..)) f1) (ih fun z hz => nz z (List.mem_cons_of_mem _ hz))
    exact this a3 nq
  have k56 : Kept x H5 (upd H5 x (.ins C dx (putF "_roads" (.ref l2) (putF "_houses" (.ref l1) [])))) := Kept.upd
  have x6 : upd H5 x (.ins C dx (putF "_roads" (.ref l2) (putF "_houses" (.ref l1) []))) x = some (.ins C dx (putF "_roads" (.ref l2) (putF "_houses" (.ref l1) []))) := upd_same
  generalize upd H5 x (.ins C dx (putF "_roads" (.ref l2) (putF "_houses" (.ref l1) []))) = H6 at k5 g1 g2 k56 x6 ⊢
  clear up5
  -- list(heads)
  obtain ⟨p3, rfl, q3⟩ := (sg.kept hx k5).sq (K := K)
  refine ⟨_, rfl, p3, _, rfl, q3, fun l3 hl3 => ?_⟩
  have n3 : l3 ≠ x := fun z => by rw [z, x6] at hl3; cases hl3
  refine ⟨_, rfl, x, C, dx, _, rfl, (by rw [upd_ne n3.symm]; exact x6), T.cl, T.n3, (Nat.lt_of_le_of_lt (Nat.le_trans (length_putF _ _ _) (Nat.succ_le_succ (length_putF _ _ _))) (by decide)), ?_⟩
  have k67 : Kept x H6 (upd (upd H6 l3 (.lst (ns.map V.int))) x (.ins C dx (putF "_heads" (.ref l3) (putF "_roads" (.ref l2) (putF "_houses" (.ref l1) []))))) := (Kept.new hl3).trans Kept.upd
  have g3 : upd (upd H6 l3 (.lst (ns.map V.int))) x (.ins C dx (putF "_heads" (.ref l3) (putF "_roads" (.ref l2) (putF "_houses" (.ref l1) [])))) l3 = some (.lst (ns.map V.int)) := by rw [upd_ne n3, upd_same]
  have x7 : upd (upd H6 l3 (.lst (ns.map V.int))) x (.ins C dx (putF "_heads" (.ref l3) (putF "_roads" (.ref l2) (putF "_houses" (.ref l1) [])))) x = some (.ins C dx (putF "_heads" (.ref l3) (putF "_roads" (.ref l2) (putF "_houses" (.ref l1) [])))) := upd_same
  have l3H : H l3 = none := fr k5 hl3 n3
  generalize upd (upd H6 l3 (.lst (ns.map V.int))) x (.ins C dx (putF "_heads" (.ref l3) (putF "_roads" (.ref l2) (putF "_houses" (.ref l1) [])))) = H7 at k67 g3 x7 ⊢
  have k07 := k5.trans k67
  -- the people
  obtain ⟨p1', e1', q1'⟩ := sh.kept hx k07
  cases e1'
  obtain ⟨p3', e3'', q3'⟩ := sg.kept hx k07
  cases e3''
  have sq7 : SqA K H7 p1 (ss.map V.str) := q1'.imp (fun h => SqL.of h) (fun h => SqT.of h)
  refine ⟨p1, _, rfl, sq7, fun J G wk hG D hD => ?_⟩
  have nD : D ≠ x := fun z => by rw [z, x7] at hD; cases hD
  refine dc_it wk (fun i Hc => Same H7 Hc ∧ ∃ kv, Hc D = some (.dK kv) ∧ kv.length ≤ i) ⟨K1.Same.upd hD, [], upd_same, Nat.zero_le _⟩ (fun i Hc _ h => hG Hc fun o ho => h.1 _ _ ho) ?_ ?_
  · rintro i y Hc H' hi ⟨b1, kv, b2, b3⟩ ⟨Tp, x1, x2, rfl, hT, rfl, ex1, ex2⟩
    rw [List.length_map] at hi
    obtain rfl : x1 = .int (i : Nat) := (Option.some.inj ex1).symm
    have ex2 : (ss.map V.str)[i]? = some x2 := ex2
    rw [List.getElem?_map, List.getElem?_eq_getElem hi] at ex2
    obtain rfl : x2 = .str ss[i] := (Option.some.inj ex2).symm
    have hT2 := K1.Same.upd (H := Hc) (p := Tp) (o := .tup [.int (i : Nat), .str ss[i]]) hT
    refine ⟨Tp, _, rfl, SqT.of upd_same, rfl, _, _, rfl, _, _, rfl, rfl, rfl, ?_⟩
    unfold tYes
    refine iteT ?_
    have hi2 : i < ns.length := by omega
    have sv : SeqV (upd Hc Tp (.tup [.int (i : Nat), .str ss[i]])) (.ref p3) (ns.map V.int) := SeqV.ext (SeqV.ext ⟨p3, rfl, q3'⟩ b1) hT2
    refine ⟨_, rfl, _, rfl, _, rfl, ixA sv (atI_nat (j := i) (v := .int ns[i]) (by rw [List.getElem?_map, List.getElem?_eq_getElem hi2]; rfl)) ?_⟩
    refine ⟨kv, .inr ss[i], rfl, hT2 _ _ b2, small1000 (by omega), fun c o n => ?_, _, upd_same, Nat.le_trans putK_le (by omega)⟩
    rw [upd_ne (ne_of_none n hD)]
    exact hT2 _ _ (b1 _ _ n)
  rintro H8 ⟨e8, _⟩
  have x8 := e8 _ _ x7
  refine ⟨_, rfl, x, C, dx, _, rfl, x8, T.cl, T.n4, (Nat.lt_of_le_of_lt (Nat.le_trans (length_putF _ _ _) (Nat.succ_le_succ (Nat.le_trans (length_putF _ _ _) (Nat.succ_le_succ (length_putF _ _ _))))) (by decide)), ?_⟩
  have k79 : Kept x H7 (upd H8 x (.ins C dx (putF "_people" (.ref D) (putF "_heads" (.ref l3) (putF "_roads" (.ref l2) (putF "_houses" (.ref l1) [])))))) := (Kept.same e8).trans Kept.upd
  have x9 : upd H8 x (.ins C dx (putF "_people" (.ref D) (putF "_heads" (.ref l3) (putF "_roads" (.ref l2) (putF "_houses" (.ref l1) []))))) x = some (.ins C dx (putF "_people" (.ref D) (putF "_heads" (.ref l3) (putF "_roads" (.ref l2) (putF "_houses" (.ref l1) []))))) := upd_same
  generalize upd H8 x (.ins C dx (putF "_people" (.ref D) (putF "_heads" (.ref l3) (putF "_roads" (.ref l2) (putF "_houses" (.ref l1) []))))) = H9 at k79 x9 ⊢
  have k69 := k67.trans k79
  have k59 := k56.trans k69
  have o2 := k69 _ _ n2 g2
  have p9 := pq k59
  have lk2 : (putF "_people" (V.ref D) (putF "_heads" (.ref l3) (putF "_roads" (.ref l2) (putF "_houses" (.ref l1) [])))).lookup ("_roads" : Str) = some (.ref l2) := by
    rw [lookup_putF, if_neg (by decide +kernel), lookup_putF, if_neg (by decide +kernel), lookup_putF, if_pos rfl]
  refine ⟨_, rfl, x, C, dx, _, _, rfl, x9, T.cl, T.n2, lk2, l2, qs, rs, rfl, o2, p9, by omega, fun r1 H10 e10 => ?_⟩
  have x10 := e10 _ _ x9
  refine ⟨_, rfl, x, C, dx, _, rfl, x10, T.cl, T.n5, (Nat.lt_of_le_of_lt (Nat.le_trans (length_putF _ _ _) (Nat.succ_le_succ (Nat.le_trans (length_putF _ _ _) (Nat.succ_le_succ (Nat.le_trans (length_putF _ _ _) (Nat.succ_le_succ (length_putF _ _ _))))))) (by decide)), ?_⟩
  have k911 : Kept x H9 (upd H10 x (.ins C dx (putF "_places" (.ref r1) (putF "_people" (.ref D) (putF "_heads" (.ref l3) (putF "_roads" (.ref l2) (putF "_houses" (.ref l1) []))))))) := (Kept.same e10).trans Kept.upd
  have x11 : upd H10 x (.ins C dx (putF "_places" (.ref r1) (putF "_people" (.ref D) (putF "_heads" (.ref l3) (putF "_roads" (.ref l2) (putF "_houses" (.ref l1) [])))))) x = some (.ins C dx (putF "_places" (.ref r1) (putF "_people" (.ref D) (putF "_heads" (.ref l3) (putF "_roads" (.ref l2) (putF "_houses" (.ref l1) [])))))) := upd_same
  generalize upd H10 x (.ins C dx (putF "_places" (.ref r1) (putF "_people" (.ref D) (putF "_heads" (.ref l3) (putF "_roads" (.ref l2) (putF "_houses" (.ref l1) [])))))) = H11 at k911 x11 ⊢
  have k6_11 := k69.trans k911
  have k5_11 := k56.trans k6_11
  have lk1 : (putF "_places" (V.ref r1) (putF "_people" (V.ref D) (putF "_heads" (.ref l3) (putF "_roads" (.ref l2) (putF "_houses" (.ref l1) []))))).lookup ("_houses" : Str) = some (.ref l1) := by
    rw [lookup_putF, if_neg (by decide +kernel), lookup_putF, if_neg (by decide +kernel), lookup_putF, if_neg (by decide +kernel), lookup_putF, if_neg (by decide +kernel), lookup_putF, if_pos rfl]
  have lk2' : (putF "_places" (V.ref r1) (putF "_people" (V.ref D) (putF "_heads" (.ref l3) (putF "_roads" (.ref l2) (putF "_houses" (.ref l1) []))))).lookup ("_roads" : Str) = some (.ref l2) := by
    rw [lookup_putF, if_neg (by decide +kernel)]
    exact lk2
  refine ⟨_, rfl, x, C, dx, _, _, rfl, x11, T.cl, T.n1, lk1, _, rfl, x, C, dx, _, _, rfl, x11, T.cl, T.n2, lk2', l1, l2, ss, qs, rs, rfl, k6_11 _ _ n1 g1, hl, good.1, k6_11 _ _ n2 g2, pq k5_11, ends, by omega, fun r2 H12 e12 => ?_⟩
  have x12 := e12 _ _ x11
  refine ⟨_, rfl, x, C, dx, _, rfl, x12, T.cl, T.n6, (Nat.lt_of_le_of_lt (Nat.le_trans (length_putF _ _ _) (Nat.succ_le_succ (Nat.le_trans (length_putF _ _ _) (Nat.succ_le_succ (Nat.le_trans (length_putF _ _ _) (Nat.succ_le_succ (Nat.le_trans (length_putF _ _ _) (Nat.succ_le_succ (length_putF _ _ _))))))))) (by decide)), ?_⟩
  have k11_13 : Kept x H11 (upd H12 x (.ins C dx (putF "_beside" (.ref r2) (putF "_places" (.ref r1) (putF "_people" (.ref D) (putF "_heads" (.ref l3) (putF "_roads" (.ref l2) (putF "_houses" (.ref l1) [])))))))) := (Kept.same e12).trans Kept.upd
  have k6_13 := k6_11.trans k11_13
  refine q _ l1 l2 l3 qs (k5.trans k6_13) ⟨⟨dx, _, upd_same, ?_, ?_, ?_, fun m m1 m2 m3 m4 m5 m6 => ?_⟩, k6_13 _ _ n1 g1, k6_13 _ _ n2 g2, pq (k56.trans k6_13), (k79.trans (k911.trans k11_13)) _ _ n3 g3⟩ l1H (fr k04 hl2 n2) l3H (fun z hz => fr k04 (a4 z hz).1 (nq z hz))
  · rw [lookup_putF, if_neg (by decide +kernel)]
    exact lk1
  · rw [lookup_putF, if_neg (by decide +kernel)]
    exact lk2'
  · rw [lookup_putF, if_neg (by decide +kernel), lookup_putF, if_neg (by decide +kernel), lookup_putF, if_neg (by decide +kernel), lookup_putF, if_pos rfl]
  · rw [lookup_putF, if_neg m6, lookup_putF, if_neg m5, lookup_putF, if_neg m4, lookup_putF, if_neg m3, lookup_putF, if_neg m2, lookup_putF, if_neg m1]
    rfl
end
end K1
end
-- NInit
section
set_option Elab.async false
set_option linter.all false
set_option maxRecDepth 100000
set_option maxHeartbeats 4000000
namespace K1
open PySem PySem.Spec PyProof.Rows L2
/-- the dict of people, item by item -/
def peo (ss : List Str) (ns : List Int) : List (Key × V) := (ss.zip ns).map fun p => (Sum.inr p.1, V.int p.2)
theorem peo_none {s : Str} : ∀ {ss : List Str} {ns : List Int}, s ∉ ss → valV (peo ss ns) (.inr s) = none
  | [], _, _ => rfl
  | _ :: _, [], _ => rfl
  | a :: as, b :: bs, h => by
    have e : ¬ (Sum.inr a : Key) = .inr s := fun z => h (by rw [Sum.inr.inj z]; exact List.mem_cons_self ..)
    show valV ((Sum.inr a, V.int b) :: peo as bs) _ = none
    rw [valV_neg e]
    exact peo_none fun z => h (List.mem_cons_of_mem _ z)
theorem peo_some {s : Str} : ∀ {ss : List Str} {ns : List Int}, ss.length = ns.length → s ∈ ss → ∃ n, valV (peo ss ns) (.inr s) = some (.int n)
  | [], _, _, h => absurd h (by simp)
  | _ :: _, [], l, _ => by cases l
  | a :: as, b :: bs, l, h => by
    by_cases e : (Sum.inr a : Key) = .inr s
    · exact ⟨b, valV_pos (p := (Sum.inr a, V.int b)) e⟩
    · obtain ⟨n, h'⟩ := peo_some (s := s) (ss := as) (ns := bs) (Nat.succ.inj l) ((List.mem_cons.mp h).resolve_left fun z => e (by rw [z]))
      exact ⟨n, (valV_neg (p := (Sum.inr a, V.int b)) e).trans h'⟩
theorem peo_in {s : Str} {ss : List Str} {ns : List Int} (l : ss.length = ns.length) : (valV (peo ss ns) (.inr s)).isSome = decide (s ∈ ss) := by
  by_cases h : s ∈ ss
  · obtain ⟨n, e⟩ := peo_some l h
    rw [e, decide_eq_true h]
    rfl
  · rw [peo_none h, decide_eq_false h]
    rfl
theorem peo_succ {ss : List Str} {ns : List Int} {i : Nat} (hi : i < ss.length) (hj : i < ns.length) : peo (ss.take (i + 1)) ns = peo (ss.take i) ns ++ [(Sum.inr ss[i], V.int ns[i])] := by
  unfold peo
  have e : (ss.take (i + 1)).zip ns = (ss.take i).zip ns ++ [(ss[i], ns[i])] := by
    have a : ∀ (m : Nat) (ss : List Str) (ns : List Int), (ss.take m).zip ns = (ss.zip ns).take m := by
      intro m
      induction m with
      | zero => intro ss ns; simp
      | succ m ih =>
        intro ss ns
        cases ss with
        | nil => simp
        | cons a as => cases ns with
          | nil => simp
          | cons b bs => simp [ih as bs]
    rw [a, a, List.take_succ, List.getElem?_eq_getElem (by rw [List.length_zip]; omega)]
    simp
  rw [e, List.map_append]
  rfl
/-- a Valley: its lists and its dicts -/
structure ValS (C : Addr) (H : Hp) (x l1 l2 l3 d1 d2 d3 : Addr) (qs : List Addr) (bs : Str → Addr) (ss : List Str) (rs : List (Str × Str)) (ns : List Int) : Prop where
  ins : ∃ dx fs, H x = some (.ins C dx fs) ∧ fs.lookup ("_houses" : Str) = some (V.ref l1) ∧ fs.lookup ("_roads" : Str) = some (V.ref l2) ∧ fs.lookup ("_heads" : Str) = some (V.ref l3) ∧ fs.lookup ("_people" : Str) = some (V.ref d1) ∧ fs.lookup ("_places" : Str) = some (V.ref d2) ∧ fs.lookup ("_beside" : Str) = some (V.ref d3) ∧
    ∀ m : Str, m ≠ "_houses" → m ≠ "_roads" → m ≠ "_heads" → m ≠ "_people" → m ≠ "_places" → m ≠ "_beside" → fs.lookup m = none
  h1 : H l1 = some (.lst (ss.map V.str))
  h2 : H l2 = some (.lst (qs.map V.ref))
  pr : Paired (TupP H) qs rs
  h3 : H l3 = some (.lst (ns.map V.int))
  p1 : H d1 = some (.dK (peo ss ns))
  p2 : ∃ kv, H d2 = some (.dT kv) ∧ PlacesAt rs kv ∧ kv.length ≤ 2 * rs.length
  p3 : ∃ kv, H d3 = some (.dK kv) ∧ kv.length ≤ ss.length ∧ ∀ s ∈ ss, valV kv (.inr s) = some (.ref (bs s))
  nb : ∀ s ∈ ss, H (bs s) = some (.lst ((nbs ss rs s).map V.str))
theorem ValS.toI {C : Addr} {H : Hp} {x l1 l2 l3 d1 d2 d3 : Addr} {qs : List Addr} {bs : Str → Addr} {ss : List Str} {rs : List (Str × Str)} {ns : List Int} (v : ValS C H x l1 l2 l3 d1 d2 d3 qs bs ss rs ns) : ValI C H x l1 l2 l3 qs ss rs ns := by
  obtain ⟨dx, fs, a, b1, b2, b3, _, _, _, c⟩ := v.ins
  exact ⟨⟨dx, fs, a, b1, b2, b3, c⟩, v.h1, v.h2, v.pr, v.h3⟩
/-- all its objects are new -/
def NewV (H : Hp) (l1 l2 l3 d1 d2 d3 : Addr) (qs : List Addr) (bs : Str → Addr) (ss : List Str) : Prop := H l1 = none ∧ H l2 = none ∧ H l3 = none ∧ H d1 = none ∧ H d2 = none ∧ H d3 = none ∧ (∀ q ∈ qs, H q = none) ∧ ∀ s ∈ ss, H (bs s) = none
/-- a Valley's __init__, when all is as it should be -/
def spVS (K : PySem.W.Frag) (C : Addr) : Sp := fun vs H Q E => ∃ x h r g dx ss rs ns, vs = [.ref x, h, r, g] ∧ H x = some (.ins C dx []) ∧ HousesOk H h ss ∧ RoadsOk H ss r rs ∧ HeadsOk H ss g ns ∧
  ∀ H' l1 l2 l3 d1 d2 d3 qs bs, Kept x H H' → ValS C H' x l1 l2 l3 d1 d2 d3 qs bs ss rs ns → NewV H l1 l2 l3 d1 d2 d3 qs bs ss → Q .non H'
theorem choose_at {ss : List Str} {R : Str → Addr → Prop} (h : ∀ s ∈ ss, ∃ d, R s d) : ∃ f : Str → Addr, ∀ s ∈ ss, R s (f s) := by
  classical
  refine ⟨fun s => if h' : s ∈ ss then (h s h').choose else 0, fun s hs => ?_⟩
  simp only [dif_pos hs]
  exact (h s hs).choose_spec
section
variable {P : Program} {w : World} {K : PySem.W.Frag} {mg : Str → Option Value} {base : Heap} {CF C CH CR CD : Addr}
theorem ok_VS {f fN fR fD fB fG : Addr} {fd nd_ rd_ dd_ bd gd : FuncData} (F : Fun K "__init__" "Valley.__init__" sVI f fd) (B : Bl mg) (me : mg "enumerate" = none) (T : VcT K C)
    (GN : FnOk P w K mg base (L2.CX P w) 4 fN nd_ ["houses"] (spNH K CH)) (kN : PySem.W.keepIn K (.ref fN) = true) (bN : Binds K nd_ ["houses"] []) (mN : mg "_need_houses" = some (.ref fN))
    (GR : FnOk P w K mg base (L2.CX P w) 4 fR rd_ ["houses", "roads"] (spNR K CR)) (kR : PySem.W.keepIn K (.ref fR) = true) (bR : Binds K rd_ ["houses", "roads"] []) (mR : mg "_need_roads" = some (.ref fR))
    (GD : FnOk P w K mg base (L2.CX P w) 4 fD dd_ ["houses", "heads"] (spND K CD)) (kD : PySem.W.keepIn K (.ref fD) = true) (bD : Binds K dd_ ["houses", "heads"] []) (mD : mg "_need_heads" = some (.ref fD))
    (FB : Fun K "_both_ways" "_both_ways" sBW fB bd) (bB : Binds K bd ["roads"] []) (mB : mg "_both_ways" = some (.ref fB))
    (FG : Fun K "_neighbours" "_neighbours" sNB fG gd) (bG : Binds K gd ["houses", "roads"] []) (mG : mg "_neighbours" = some (.ref fG)) :
    FnOk P w K mg base (L2.CX P w) 5 f fd ["self", "houses", "roads", "heads"] (spVS K C) := by
  have GB := ok_BW2 (P := P) (w := w) (base := base) FB me
  have GG := ok_NB2 (P := P) (w := w) (mg := mg) (base := base) FG
  refine F.okX scVI (fun vs H Q E h => ?_) (fun cdv A outer s H vs Q E hr h => ?_)
  · obtain ⟨x, hh, r, g, dx, ss, rs, ns, rfl, _⟩ := h
    rfl
  obtain ⟨x, hh, r, g, dx, ss, rs, ns, rfl, hx, ⟨sh, hne, hl, good⟩, ⟨vs, sr, pr, ends, forest, hrl⟩, ⟨sg, hn1, hnl⟩, q⟩ := h
  have nd := scVI.nd
  have hu := hu_of hr
  have hr1 : Room 1 _ := hr.mono (by decide)
  refine ⟨_, pss_cons (by exact (ps_expr (pe_call GN hr rfl mN kN bN .nil (passes_call (takes_of rfl rfl rfl rfl) (fun _ _ _ _ h => h)) (pa_cons (pv 1) pa_nil))))
    (pss_cons (by exact (ps_expr (pe_call GR hr rfl mR kR bR .nil (passes_call (takes_of rfl rfl rfl rfl) (fun _ _ _ _ h => h)) (pa_cons (pv 1) (pa_cons (pv 2) pa_nil)))))
    (pss_cons (by exact (ps_expr (pe_call GD hr rfl mD kD bD .nil (passes_call (takes_of rfl rfl rfl rfl) (fun _ _ _ _ h => h)) (pa_cons (pv 1) (pa_cons (pv 3) pa_nil)))))
    (pss_cons (by exact (ps_fld (pv 0) (pe_callTy call_list_of rfl B.list PyProof.Rows.boot_list (pa_cons (pv 1) pa_nil)) rfl))
    (pss_cons (by exact (ps_fld (pv 0) (pe_lc (own := [("one", 4), ("other", 5)]) (g := gSeq K 2 (gCons (gName 4) (gCons (gName 5) gNil))) (tt := tYes) (te := tTup (tCons (tVar 4) (tCons (tVar 5) tNil))) rfl nd (by exact pi_seqV 2 (pv 2))
        (by exact blkOk_by (N := ["self", "houses", "roads", "heads", "one", "other", "house", "index"]) (sc := defScope sVI) (by decide +kernel)) (fun _ _ _ _ _ => by exact pg_seq rfl (pgs_cons (pg_name (i := 4) nd rfl (.inl rfl)) (pgs_cons (pg_name (i := 5) nd rfl (.inl rfl)) pgs_nil)))
        (fun _ _ _ _ _ => pts_nil) (fun _ _ _ _ _ => by exact pe_tup (pa_cons (pv 4) (pa_cons (pv 5) pa_nil)))) rfl))
    (pss_cons (by exact (ps_fld (pv 0) (pe_callTy call_list_of rfl B.list PyProof.Rows.boot_list (pa_cons (pv 3) pa_nil)) rfl))
    (pss_cons (by exact (ps_fld (pv 0) (pe_dc (own := [("house", 6), ("index", 7)]) (g := gTup K 2 (gCons (gName 7) (gCons (gName 6) gNil))) (tt := tYes) (tk := tVar 6) (tv := tOp (rIx K) (tVar 3) (tVar 7)) rfl nd (by exact pi_enumV 1 rfl me (pv 1))
        (by exact blkOk_by (N := ["self", "houses", "roads", "heads", "one", "other", "house", "index"]) (sc := defScope sVI) (by decide +kernel)) (fun _ _ _ _ _ => by exact pg_tup rfl (pgs_cons (pg_name (i := 7) nd rfl (.inl rfl)) (pgs_cons (pg_name (i := 6) nd rfl (.inl rfl)) pgs_nil)))
        (fun _ _ _ _ _ => pts_nil) (fun _ _ _ _ _ => by exact pv 6) (fun _ _ _ _ _ => by exact pe_ix ix_seq (pv 3) (pv 7) (fun _ _ => rfl))) rfl))
    (pss_cons (by exact (ps_fld (pv 0) (pe_call GB hr1 rfl mB FB.kp bB .nil pass0 (pa_cons (pe_fld (pv 0) rfl) pa_nil)) rfl))
    (pss_one (by exact (ps_fld (pv 0) (pe_call GG hr1 rfl mG FG.kp bG .nil pass0 (pa_cons (pe_fld (pv 0) rfl) (pa_cons (pe_fld (pv 0) rfl) pa_nil))) rfl)))))))))), ?_⟩
  refine ⟨_, rfl, hh, rfl, .inr (.inr (.inl ⟨ss, sh, hne, hl, good, fun H1 e1 => ?_⟩))⟩
  refine ⟨_, rfl, _, rfl, hh, r, ss, rfl, sh.ext e1, good, hl, .inr ⟨vs, rs, [], by rw [List.append_nil]; exact sr.ext e1, paired_imp (fun _ _ q => SeqV.ext q e1) pr, ends, forest, .inl ⟨rfl, hrl, fun H2 e2' => ?_⟩⟩⟩
  have e2 := e1.trans e2'
  refine ⟨_, rfl, _, rfl, hh, g, ss.map V.str, rfl, sh.ext e2, .inr (.inl ⟨ns, sg.ext e2, hn1, by rw [List.length_map]; exact hnl, fun H3 e3' => ?_⟩)⟩
  have e3 := e2.trans e3'
  have x3 := e3 _ _ hx
  have k3 : Kept x H H3 := Kept.same e3
  -- list(houses)
  obtain ⟨p1, rfl, q1⟩ := (sh.ext e3).sq (K := K)
  refine ⟨_, rfl, p1, _, rfl, q1, fun l1 hl1 => ?_⟩
  have n1 : l1 ≠ x := fun z => by rw [z, x3] at hl1; cases hl1
  have l1H : H l1 = none := e3.free hl1
  refine ⟨_, rfl, x, C, dx, [], rfl, (by rw [upd_ne n1.symm]; exact x3), T.cl, T.n1, (by decide), ?_⟩
  have k4 : Kept x H3 (upd (upd H3 l1 (.lst (ss.map V.str))) x (.ins C dx (putF "_houses" (.ref l1) []))) := (Kept.new hl1).trans Kept.upd
  have f1 : upd (upd H3 l1 (.lst (ss.map V.str))) x (.ins C dx (putF "_houses" (.ref l1) [])) l1 = some (.lst (ss.map V.str)) := by rw [upd_ne n1, upd_same]
  have x4 : upd (upd H3 l1 (.lst (ss.map V.str))) x (.ins C dx (putF "_houses" (.ref l1) [])) x = some (.ins C dx (putF "_houses" (.ref l1) [])) := upd_same
  generalize upd (upd H3 l1 (.lst (ss.map V.str))) x (.ins C dx (putF "_houses" (.ref l1) [])) = H4 at k4 f1 x4 ⊢
  have k04 := k3.trans k4
  have fr : ∀ {Hz : Hp} {l : Addr}, Kept x H Hz → Hz l = none → l ≠ x → H l = none := fun {Hz l} k n ne => by
    cases e : H l with
    | none => rfl
    | some o => rw [k _ _ ne e] at n; cases n
  -- the roads' pairs
  obtain ⟨p2, rfl, q2⟩ := sr.kept hx k04
  have sq2 : SqA K H4 p2 vs := q2.imp (fun h => SqL.of h) (fun h => SqT.of h)
  refine ⟨p2, _, rfl, sq2, fun J G wk hG l2 hl2 => ?_⟩
  have n2 : l2 ≠ x := fun z => by rw [z, x4] at hl2; cases hl2
  have lvs : vs.length = rs.length := pr.length
  refine lc_it wk (fun i Hc => Same H4 Hc ∧ ∃ qs, Hc l2 = some (.lst (qs.map V.ref)) ∧ Paired (TupP Hc) qs (rs.take i) ∧ (∀ z ∈ qs, H4 z = none ∧ z ≠ l2)) ⟨K1.Same.upd hl2, [], upd_same, .nil, fun z hz => absurd hz (by simp)⟩ (fun i Hc _ h => hG Hc fun o ho => h.1 _ _ ho) ?_ ?_
  · rintro i y Hc H' hi ⟨a1, qs, a2, a3, a4⟩ ⟨rfl, hy⟩
    rw [lvs] at hi
    obtain ⟨y', ey, py⟩ := paired_get (PairV.kept pr hx k04) hi
    have : y = y' := Option.some.inj (hy.symm.trans ey)
    subst this
    obtain ⟨py1, rfl, py2⟩ := SeqV.ext py a1
    refine ⟨py1, _, rfl, py2.imp (fun h => SqL.of h) (fun h => SqT.of h), rfl, _, _, rfl, _, _, rfl, rfl, rfl, ?_⟩
    unfold tYes
    refine iteT ?_
    refine ⟨_, rfl, _, rfl, (by show 2 ≤ sizeLine; decide), fun b hb => ?_⟩
    have bl : b ≠ l2 := fun z => by rw [z, a2] at hb; cases hb
    have lq : qs.length ≤ rs.length := by rw [a3.length, List.length_take]; omega
    have sb := K1.Same.upd (H := H') (p := b) (o := .tup [.str rs[i].1, .str rs[i].2]) hb
    refine ⟨qs.map V.ref, by rw [upd_ne bl.symm]; exact a2, by rw [List.length_map]; exact small1000 (by omega), ?_, qs ++ [b], by rw [upd_same, List.map_append]; rfl, ?_, fun z hz => ?_⟩
    · intro c o n
      rw [upd_ne (ne_of_none n hl2)]
      exact sb _ _ (a1 _ _ n)
    · have up2 : ∀ z o, z ≠ l2 → upd H' b (.tup [.str rs[i].1, .str rs[i].2]) z = some o → upd (upd H' b (.tup [.str rs[i].1, .str rs[i].2])) l2 (.lst (qs.map V.ref ++ [.ref b])) z = some o := fun z o n e => by rw [upd_ne n]; exact e
      rw [List.take_add_one, List.getElem?_eq_getElem hi]
      have pz : ∀ {as : List Addr} {bs : List (Str × Str)}, Paired (TupP H') as bs → (∀ z ∈ as, z ≠ l2) → Paired (TupP (upd (upd H' b (.tup [.str rs[i].1, .str rs[i].2])) l2 (.lst (qs.map V.ref ++ [.ref b])))) (as ++ [b]) (bs ++ [rs[i]]) := by
        intro as bs h
        induction h with
        | nil => intro _; exact .cons (up2 _ _ bl upd_same) .nil
        | cons f1 f2 ih =>
          intro nz
          exact .cons (up2 _ _ (nz _ (List.mem_cons_self ..)) (sb _ _ f1)) (ih fun z hz => nz z (List.mem_cons_of_mem _ hz))
      exact pz a3 fun z hz => (a4 z hz).2
    · rcases List.mem_append.mp hz with hz | hz
      · exact a4 z hz
      · rw [List.mem_singleton.mp hz]
        exact ⟨a1.free hb, bl⟩
  rintro H5 ⟨e5, qs, a2, a3, a4⟩
  rw [lvs, List.take_length] at a3
  have x5 := e5 _ _ x4
  refine ⟨_, rfl, x, C, dx, _, rfl, x5, T.cl, T.n2, (Nat.lt_of_le_of_lt (length_putF _ _ _) (by decide)), ?_⟩
  have k5 : Kept x H (upd H5 x (.ins C dx (putF "_roads" (.ref l2) (putF "_houses" (.ref l1) [])))) := (k04.trans (Kept.same e5)).trans Kept.upd
  have up5 : ∀ z o, z ≠ x → H5 z = some o → upd H5 x (.ins C dx (putF "_roads" (.ref l2) (putF "_houses" (.ref l1) []))) z = some o := fun z o n e => by rw [upd_ne n]; exact e
  have g1 := up5 _ _ n1 (e5 _ _ f1)
  have g2 := up5 _ _ n2 a2
  have nq : ∀ z ∈ qs, z ≠ x := fun z hz e => by rw [e] at hz; rw [(a4 x hz).1] at x4; cases x4
  have pq : ∀ {Hz : Hp}, Kept x H5 Hz → Paired (TupP Hz) qs rs := fun {Hz} k => by
    have : ∀ {as : List Addr} {bs : List (Str × Str)}, Paired (TupP H5) as bs → (∀ z ∈ as, z ≠ x) → Paired (TupP Hz) as bs := by
      intro as bs h
      induction h with
      | nil => intro _; exact .nil
      | cons f1 f2 ih => intro nz; exact .cons (k _ _ (nz _ (List.mem_cons_self ..)) f1) (ih fun z hz => nz z (List.mem_cons_of_mem _ hz))
    exact this a3 nq
  have k56 : Kept x H5 (upd H5 x (.ins C dx (putF "_roads" (.ref l2) (putF "_houses" (.ref l1) [])))) := Kept.upd
  have x6 : upd H5 x (.ins C dx (putF "_roads" (.ref l2) (putF "_houses" (.ref l1) []))) x = some (.ins C dx (putF "_roads" (.ref l2) (putF "_houses" (.ref l1) []))) := upd_same
  generalize upd H5 x (.ins C dx (putF "_roads" (.ref l2) (putF "_houses" (.ref l1) []))) = H6 at k5 g1 g2 k56 x6 ⊢
  clear up5
  -- list(heads)
  obtain ⟨p3, rfl, q3⟩ := (sg.kept hx k5).sq (K := K)
  refine ⟨_, rfl, p3, _, rfl, q3, fun l3 hl3 => ?_⟩
  have n3 : l3 ≠ x := fun z => by rw [z, x6] at hl3; cases hl3
  refine ⟨_, rfl, x, C, dx, _, rfl, (by rw [upd_ne n3.symm]; exact x6), T.cl, T.n3, (Nat.lt_of_le_of_lt (Nat.le_trans (length_putF _ _ _) (Nat.succ_le_succ (length_putF _ _ _))) (by decide)), ?_⟩
  have k67 : Kept x H6 (upd (upd H6 l3 (.lst (ns.map V.int))) x (.ins C dx (putF "_heads" (.ref l3) (putF "_roads" (.ref l2) (putF "_houses" (.ref l1) []))))) := (Kept.new hl3).trans Kept.upd
  have g3 : upd (upd H6 l3 (.lst (ns.map V.int))) x (.ins C dx (putF "_heads" (.ref l3) (putF "_roads" (.ref l2) (putF "_houses" (.ref l1) [])))) l3 = some (.lst (ns.map V.int)) := by rw [upd_ne n3, upd_same]
  have x7 : upd (upd H6 l3 (.lst (ns.map V.int))) x (.ins C dx (putF "_heads" (.ref l3) (putF "_roads" (.ref l2) (putF "_houses" (.ref l1) [])))) x = some (.ins C dx (putF "_heads" (.ref l3) (putF "_roads" (.ref l2) (putF "_houses" (.ref l1) [])))) := upd_same
  have l3H : H l3 = none := fr k5 hl3 n3
  generalize upd (upd H6 l3 (.lst (ns.map V.int))) x (.ins C dx (putF "_heads" (.ref l3) (putF "_roads" (.ref l2) (putF "_houses" (.ref l1) [])))) = H7 at k67 g3 x7 ⊢
  have k07 := k5.trans k67
  -- the people
  obtain ⟨p1', e1', q1'⟩ := sh.kept hx k07
  cases e1'
  obtain ⟨p3', e3'', q3'⟩ := sg.kept hx k07
  cases e3''
  have sq7 : SqA K H7 p1 (ss.map V.str) := q1'.imp (fun h => SqL.of h) (fun h => SqT.of h)
  refine ⟨p1, _, rfl, sq7, fun J G wk hG D hD => ?_⟩
  have nD : D ≠ x := fun z => by rw [z, x7] at hD; cases hD
  refine dc_it wk (fun i Hc => Same H7 Hc ∧ Hc D = some (.dK (peo (ss.take i) ns))) ⟨K1.Same.upd hD, upd_same⟩ (fun i Hc _ h => hG Hc fun o ho => h.1 _ _ ho) ?_ ?_
  · rintro i y Hc H' hi ⟨b1, b2⟩ ⟨Tp, x1, x2, rfl, hT, rfl, ex1, ex2⟩
    rw [List.length_map] at hi
    obtain rfl : x1 = .int (i : Nat) := (Option.some.inj ex1).symm
    have ex2 : (ss.map V.str)[i]? = some x2 := ex2
    rw [List.getElem?_map, List.getElem?_eq_getElem hi] at ex2
    obtain rfl : x2 = .str ss[i] := (Option.some.inj ex2).symm
    have hT2 := K1.Same.upd (H := Hc) (p := Tp) (o := .tup [.int (i : Nat), .str ss[i]]) hT
    refine ⟨Tp, _, rfl, SqT.of upd_same, rfl, _, _, rfl, _, _, rfl, rfl, rfl, ?_⟩
    unfold tYes
    refine iteT ?_
    have hi2 : i < ns.length := by omega
    have sv : SeqV (upd Hc Tp (.tup [.int (i : Nat), .str ss[i]])) (.ref p3) (ns.map V.int) := SeqV.ext (SeqV.ext ⟨p3, rfl, q3'⟩ b1) hT2
    refine ⟨_, rfl, _, rfl, _, rfl, ixA sv (atI_nat (j := i) (v := .int ns[i]) (by rw [List.getElem?_map, List.getElem?_eq_getElem hi2]; rfl)) ?_⟩
    have pl : (peo (ss.take i) ns).length ≤ 1000 := by
      unfold peo
      rw [List.length_map, List.length_zip, List.length_take]
      omega
    refine ⟨_, .inr ss[i], rfl, hT2 _ _ b2, small1000 pl, fun c o n => ?_, ?_⟩
    · rw [upd_ne (ne_of_none n hD)]
      exact hT2 _ _ (b1 _ _ n)
    · rw [upd_same, putK_new _ (peo_none fun z => nodup_take_not good.1 hi z), peo_succ hi hi2]
  rintro H8 ⟨e8, pe8⟩
  rw [List.length_map, List.take_length] at pe8
  have x8 := e8 _ _ x7
  refine ⟨_, rfl, x, C, dx, _, rfl, x8, T.cl, T.n4, (Nat.lt_of_le_of_lt (Nat.le_trans (length_putF _ _ _) (Nat.succ_le_succ (Nat.le_trans (length_putF _ _ _) (Nat.succ_le_succ (length_putF _ _ _))))) (by decide)), ?_⟩
  have k79 : Kept x H7 (upd H8 x (.ins C dx (putF "_people" (.ref D) (putF "_heads" (.ref l3) (putF "_roads" (.ref l2) (putF "_houses" (.ref l1) [])))))) := (Kept.same e8).trans Kept.upd
  have x9 : upd H8 x (.ins C dx (putF "_people" (.ref D) (putF "_heads" (.ref l3) (putF "_roads" (.ref l2) (putF "_houses" (.ref l1) []))))) x = some (.ins C dx (putF "_people" (.ref D) (putF "_heads" (.ref l3) (putF "_roads" (.ref l2) (putF "_houses" (.ref l1) []))))) := upd_same
  have pe9 : upd H8 x (.ins C dx (putF "_people" (.ref D) (putF "_heads" (.ref l3) (putF "_roads" (.ref l2) (putF "_houses" (.ref l1) []))))) D = some (.dK (peo ss ns)) := by rw [upd_ne nD]; exact pe8
  generalize upd H8 x (.ins C dx (putF "_people" (.ref D) (putF "_heads" (.ref l3) (putF "_roads" (.ref l2) (putF "_houses" (.ref l1) []))))) = H9 at k79 x9 pe9 ⊢
  have k69 := k67.trans k79
  have k59 := k56.trans k69
  have o2 := k69 _ _ n2 g2
  have p9 := pq k59
  have lk2 : (putF "_people" (V.ref D) (putF "_heads" (.ref l3) (putF "_roads" (.ref l2) (putF "_houses" (.ref l1) [])))).lookup ("_roads" : Str) = some (.ref l2) := by
    rw [lookup_putF, if_neg (by decide +kernel), lookup_putF, if_neg (by decide +kernel), lookup_putF, if_pos rfl]
  refine ⟨_, rfl, x, C, dx, _, _, rfl, x9, T.cl, T.n2, lk2, l2, qs, rs, rfl, o2, p9, forest, by omega, fun r1 kv1 H10 e10 nr1 hr1' pl1 ll1 => ?_⟩
  have x10 := e10 _ _ x9
  refine ⟨_, rfl, x, C, dx, _, rfl, x10, T.cl, T.n5, (Nat.lt_of_le_of_lt (Nat.le_trans (length_putF _ _ _) (Nat.succ_le_succ (Nat.le_trans (length_putF _ _ _) (Nat.succ_le_succ (Nat.le_trans (length_putF _ _ _) (Nat.succ_le_succ (length_putF _ _ _))))))) (by decide)), ?_⟩
  have k911 : Kept x H9 (upd H10 x (.ins C dx (putF "_places" (.ref r1) (putF "_people" (.ref D) (putF "_heads" (.ref l3) (putF "_roads" (.ref l2) (putF "_houses" (.ref l1) []))))))) := (Kept.same e10).trans Kept.upd
  have x11 : upd H10 x (.ins C dx (putF "_places" (.ref r1) (putF "_people" (.ref D) (putF "_heads" (.ref l3) (putF "_roads" (.ref l2) (putF "_houses" (.ref l1) [])))))) x = some (.ins C dx (putF "_places" (.ref r1) (putF "_people" (.ref D) (putF "_heads" (.ref l3) (putF "_roads" (.ref l2) (putF "_houses" (.ref l1) [])))))) := upd_same
  have pl11 : upd H10 x (.ins C dx (putF "_places" (.ref r1) (putF "_people" (.ref D) (putF "_heads" (.ref l3) (putF "_roads" (.ref l2) (putF "_houses" (.ref l1) [])))))) r1 = some (.dT kv1) := by rw [upd_ne fun z => by rw [z, x9] at nr1; cases nr1]; exact hr1'
  generalize upd H10 x (.ins C dx (putF "_places" (.ref r1) (putF "_people" (.ref D) (putF "_heads" (.ref l3) (putF "_roads" (.ref l2) (putF "_houses" (.ref l1) [])))))) = H11 at k911 x11 pl11 ⊢
  have k6_11 := k69.trans k911
  have k5_11 := k56.trans k6_11
  have lk1 : (putF "_places" (V.ref r1) (putF "_people" (V.ref D) (putF "_heads" (.ref l3) (putF "_roads" (.ref l2) (putF "_houses" (.ref l1) []))))).lookup ("_houses" : Str) = some (.ref l1) := by
    rw [lookup_putF, if_neg (by decide +kernel), lookup_putF, if_neg (by decide +kernel), lookup_putF, if_neg (by decide +kernel), lookup_putF, if_neg (by decide +kernel), lookup_putF, if_pos rfl]
  have lk2' : (putF "_places" (V.ref r1) (putF "_people" (V.ref D) (putF "_heads" (.ref l3) (putF "_roads" (.ref l2) (putF "_houses" (.ref l1) []))))).lookup ("_roads" : Str) = some (.ref l2) := by
    rw [lookup_putF, if_neg (by decide +kernel)]
    exact lk2
  refine ⟨_, rfl, x, C, dx, _, _, rfl, x11, T.cl, T.n1, lk1, _, rfl, x, C, dx, _, _, rfl, x11, T.cl, T.n2, lk2', l1, l2, ss, qs, rs, rfl, k6_11 _ _ n1 g1, hl, good.1, k6_11 _ _ n2 g2, pq k5_11, ends, by omega, fun r2 kv2 H12 e12 nr2 hr2' ll2 nb2 => ?_⟩
  have x12 := e12 _ _ x11
  refine ⟨_, rfl, x, C, dx, _, rfl, x12, T.cl, T.n6, (Nat.lt_of_le_of_lt (Nat.le_trans (length_putF _ _ _) (Nat.succ_le_succ (Nat.le_trans (length_putF _ _ _) (Nat.succ_le_succ (Nat.le_trans (length_putF _ _ _) (Nat.succ_le_succ (Nat.le_trans (length_putF _ _ _) (Nat.succ_le_succ (length_putF _ _ _))))))))) (by decide)), ?_⟩
  have k11_13 : Kept x H11 (upd H12 x (.ins C dx (putF "_beside" (.ref r2) (putF "_places" (.ref r1) (putF "_people" (.ref D) (putF "_heads" (.ref l3) (putF "_roads" (.ref l2) (putF "_houses" (.ref l1) [])))))))) := (Kept.same e12).trans Kept.upd
  have k6_13 := k6_11.trans k11_13
  obtain ⟨bs, hbs⟩ := choose_at nb2
  have d1x : D ≠ x := nD
  have d2x : r1 ≠ x := fun z => by rw [z, x9] at nr1; cases nr1
  have d3x : r2 ≠ x := fun z => by rw [z, x11] at nr2; cases nr2
  have bsx : ∀ s ∈ ss, bs s ≠ x := fun s hs z => by
    have := (hbs s hs).2.1
    rw [z, x11] at this
    cases this
  have k0_11 : Kept x H H11 := k5.trans k6_11
  refine q _ l1 l2 l3 D r1 r2 qs bs (k5.trans k6_13) ⟨⟨dx, _, upd_same, ?_, ?_, ?_, ?_, ?_, ?_, fun m m1 m2 m3 m4 m5 m6 => ?_⟩, k6_13 _ _ n1 g1, k6_13 _ _ n2 g2, pq (k56.trans k6_13), (k79.trans (k911.trans k11_13)) _ _ n3 g3, ?_, ⟨kv1, ?_, pl1, ll1⟩, ⟨kv2, ?_, ll2, fun s hs => (hbs s hs).1⟩, fun s hs => ?_⟩
    ⟨l1H, fr k04 hl2 n2, l3H, fr k07 hD nD, fr (k5.trans k69) nr1 d2x, fr k0_11 nr2 d3x, fun z hz => fr k04 (a4 z hz).1 (nq z hz), fun s hs => fr k0_11 (hbs s hs).2.1 (bsx s hs)⟩
  · rw [lookup_putF, if_neg (by decide +kernel)]
    exact lk1
  · rw [lookup_putF, if_neg (by decide +kernel)]
    exact lk2'
  · rw [lookup_putF, if_neg (by decide +kernel), lookup_putF, if_neg (by decide +kernel), lookup_putF, if_neg (by decide +kernel), lookup_putF, if_pos rfl]
  · rw [lookup_putF, if_neg (by decide +kernel), lookup_putF, if_neg (by decide +kernel), lookup_putF, if_pos rfl]
  · rw [lookup_putF, if_neg (by decide +kernel), lookup_putF, if_pos rfl]
  · rw [lookup_putF, if_pos rfl]
  · rw [lookup_putF, if_neg m6, lookup_putF, if_neg m5, lookup_putF, if_neg m4, lookup_putF, if_neg m3, lookup_putF, if_neg m2, lookup_putF, if_neg m1]
    rfl
  · exact (k911.trans k11_13) _ _ d1x pe9
  · exact k11_13 _ _ d2x pl11
  · rw [upd_ne d3x]
    exact hr2'
  · rw [upd_ne (bsx s hs)]
    exact (hbs s hs).2.2
end
end K1
end
-- KFun
section
set_option Elab.async false
set_option linter.all false
set_option maxRecDepth 100000
set_option maxHeartbeats 4000000
/-! isinstance of a def -/
namespace K1F
open PySem
theorem slotGa : Slot "function" "__getattribute__" "object.__getattribute__" :=
  .of (owner := "object") (n := "__getattribute__") (by rw [typeLookup_type, builtinLookup_eq_fast]; kernel_rfl) (by decide +kernel) (by decide +kernel) (by decide +kernel)
    (by first | exact .inl (by decide +kernel) | exact .inr (by decide +kernel)) (by rw [isSubtype_type]; kernel_rfl)
theorem entryGa : entryFor table "object.__getattribute__" = some Builtin.«object.__getattribute__» := entryFor_of_tree (by kernel_rfl)
theorem lkClass : typeLookup (.type "function") "__class__" = pure (some (.builtin "object.__class__")) := by rw [typeLookup_type, builtinLookup_eq_fast]; kernel_rfl
theorem ownClass : isSubtype (.type "function") (.type (".".intercalate ("object.__class__".cutAt '.').dropLast)) = pure true := by
  rw [F.owner_object_class, isSubtype_type]; kernel_rfl
theorem argsGa (a b : Value) : argsOk "object.__getattribute__" ⟨[a, b], []⟩ := by
  unfold argsOk; kernel_rfl
section
variable {prog : Program} {w : World} {A : Around} {E : Value → Shared → Prop} {h : Heap} {g : Array GenState} {d : Drawn} {t : Nat} {os : OsState} {a : Addr} {o : Obj}
theorem fnGet {R : Result → Shared → Prop} (hx : h.get? a = some o) (hc : o.cls = .type "function") (hq : R (.ok (.ret (.type "function"))) ⟨h, g, d, t, os⟩) :
    codeAny (model prog w) A (.call (.builtin "getset_descriptor.__get__") ⟨[.builtin "object.__class__", .ref a, .type "function"], []⟩) R ⟨h, g, d, t, os⟩ := by
  have z1 : (⟨h, g, d, t, os⟩ : Shared).TypeIs (.ref a) "function" := ⟨_, hx, hc⟩
  have z2 : (⟨h, g, d, t, os⟩ : Shared).TypeIs (.builtin "object.__class__") "getset_descriptor" := F.typeOf_object_class
  have z3 := ownClass
  refine codeAny_call_builtin F.slot_gs_get.plain F.entry_gs_get (F.slot_gs_get.check _ _ _ _ _ _ _ _ z2 (F.args_gs_get _ _ _) ?_)
  repeat (any_goals (first | assumption | wp_step))
  refine ⟨Code.quiet_builtin _ (by decide +kernel), codeAny_builtin F.entry_object_class ?_⟩
  repeat (any_goals (first | assumption | wp_step))
theorem fnEntry {tk : Tok} {Q : Fin → Shared → Prop} (hx : h.get? a = some o) (hc : o.cls = .type "function") (hq : Q (.done (.ret (.type "function"))) ⟨h, g, d, t, os⟩) :
    wpAny (model prog w) A (Builtin.«object.__getattribute__» ⟨[.ref a, .str "__class__" tk], []⟩) Q E ⟨h, g, d, t, os⟩ := by
  have z1 : (⟨h, g, d, t, os⟩ : Shared).TypeIs (.ref a) "function" := ⟨_, hx, hc⟩
  have z2 : (⟨h, g, d, t, os⟩ : Shared).TypeIs (.builtin "object.__class__") "getset_descriptor" := F.typeOf_object_class
  have z3 := lkClass
  have z4 := F.typeOf_object_class
  have z5 := F.slot_gs_get.lookup
  have z6 := F.slot_gs_set.lookup
  repeat (any_goals (first | assumption | wp_step))
  refine fnGet hx hc ?_
  repeat (any_goals (first | assumption | wp_step))
theorem fnCall {tk : Tok} {R : Result → Shared → Prop} (hx : h.get? a = some o) (hc : o.cls = .type "function") (hq : R (.ok (.ret (.type "function"))) ⟨h, g, d, t, os⟩) :
    codeAny (model prog w) A (.call (.builtin "object.__getattribute__") ⟨[.ref a, .str "__class__" tk], []⟩) R ⟨h, g, d, t, os⟩ :=
  codeAny_call_builtin slotGa.plain entryGa (slotGa.check _ _ _ _ _ _ _ _ (show (⟨h, g, d, t, os⟩ : Shared).TypeIs (.ref a) "function" from ⟨_, hx, hc⟩) (argsGa _ _) (fnEntry hx hc hq))
theorem fnBy {tk : Tok} {Q : Value → Shared → Prop} (hx : h.get? a = some o) (hc : o.cls = .type "function") (hq : Q (.type "function") ⟨h, g, d, t, os⟩) : wpAny (model prog w) A (getAttrBy (.ref a) (.str "__class__" tk) false) Q E ⟨h, g, d, t, os⟩ := by
  have z1 : (⟨h, g, d, t, os⟩ : Shared).TypeIs (.ref a) "function" := ⟨_, hx, hc⟩
  have z2 := slotGa.lookup
  have z3 := slotGa.bind (.ref a)
  repeat (any_goals (first | assumption | wp_step))
  refine fnCall hx hc ?_
  repeat (any_goals (first | assumption | wp_step))
theorem fnAttr {Q : Option Value → Shared → Prop} (hx : h.get? a = some o) (hc : o.cls = .type "function") (hq : Q (some (.type "function")) ⟨h, g, d, t + 1, os⟩) : wpAny (model prog w) A (getAttr? (.ref a) "__class__") Q E ⟨h, g, d, t, os⟩ := by
  unfold getAttr? getAttrBy?
  repeat (any_goals (first | assumption | with_reducible apply fnBy hx hc | wp_step))
end
theorem kitFn {K : PySem.W.Frag} {a : Addr} : PySem.W.KitX K (.ref a) (.type "function") (PySem.W.KitAt a "function") :=
  PySem.W.kitx_of PySem.W.kitAt_ty (fun {_ _ _ _ _ s} p k => by obtain ⟨h, g, d, t, os⟩ := s; obtain ⟨o, h1, h2⟩ := p; exact fnAttr h1 h2 k)
end K1F
end
-- KOwn
section
set_option Elab.async false
set_option linter.all false
set_option maxRecDepth 100000
set_option maxHeartbeats 4000000
/-! == and != by an own __eq__, whatever it says and whatever stands on the right; isinstance of a def -/
namespace K1
open PySem PySem.Spec PyProof.Rows L2
/-- as TyX, defs too -/
def TyF (K : PySem.W.Frag) (H : Hp) (x : V) (t : Value) : Prop := TyX K H x t ∨ ∃ f o, x = .ref f ∧ K.lookup f = some o ∧ o.cls = .type "function" ∧ t = .type "function"
section
variable {X : Cx} {pins : List (Addr × Obj)} {σ : L2.St} {H : Hp} {s : Shared}
theorem kit_ofF {x : V} {u t : Value} (I : Inv X pins σ H s) (rx : RelV x u) (ty : TyF X.K H x t) : ∃ P : Heap → Prop, PySem.W.KitX X.K u t P ∧ P s.heap ∧ u ≠ .builtin "__main__.__loader__#opaque" := by
  rcases ty with ty | ⟨f, o, rfl, hl, hc, rfl⟩
  · exact kit_of I rx ty
  · cases (show u = Value.ref f from rx)
    exact ⟨_, K1F.kitFn, ⟨o, I.kIn _ _ hl, hc⟩, fun z => nomatch z⟩
def rIsiF (K : PySem.W.Frag) : List V → Hp → VK → Prop := fun xs H Q => ∃ (x c : V) (t u : Value) (b : Bool), xs = [x, c] ∧ ClsV c u ∧ TyF K H x t ∧ PySem.W.kitOne K t u = some b ∧ Q (.bl b) H
theorem call_isiF : CallR X (.builtin "isinstance") (rIsiF X.K) := by
  intro pins s σ H xs us Q I r h
  obtain ⟨x, c, t, u, b, rfl, k, ty, e, q⟩ := h
  obtain ⟨u1, u2, rfl, r1, r2⟩ := vals2 r
  obtain rfl := ClsV.eq k r2
  obtain ⟨P, Z, p, hx⟩ := kit_ofF I r1 ty
  exact PySem.W.kia_one Z I.kIn p e hx fun tk => ⟨.bl b, H, I.tok tk, rfl, q⟩
/-- the own __eq__, called -/
theorem callOwn {CX : CXT} {f a : Addr} {fd : FuncData} {ps : List Str} {sp : Sp} {E : XK} {n : Nat} {A : Around} {y : V} {u : Value} {R : Bool → Hp → Prop} (F : FnOk X.prog X.w X.K X.mg X.base CX n f fd ps sp) (hb : L2.Binds X.K fd ps []) (hx : Passes CX X E)
    (hr : Room n A) (hfr : A.frames = X.A.frames) (I : Inv X pins σ H s) (ry : RelV y u) (hsp : sp [.ref a, y] H (fun v H' => ∃ b, v = .bl b ∧ R b H') E) :
    wpAny (model X.prog X.w) A (call (.ref f) [.ref a, u]) (fun r s' => ∃ b H', r = .bool b ∧ Inv X pins σ H' s' ∧ R b H') X.xe s := by
  have e0 : Env0 X.prog X.w X.K X.mg X.base A X.stack s H := by
    have e := I.env0
    exact ⟨by rw [hfr]; exact e.frames, e.mod, e.bs, e.bsz, e.funs, e.frf, e.hok, e.bare⟩
  have hl := F.len _ _ _ _ hsp
  have r2 : Vals [V.ref a, y] [Value.ref a, u] := .cons rfl (.cons ry .nil)
  refine wpAny_call (codeAny_mono (F.run A X.stack s H ⟨[.ref a, u], []⟩ [.ref a, u] [.ref a, y] _ E hr e0 (by
    have := hb s [.ref a, u] I.kIn (by simpa using hl)
    simpa using this) r2 hsp) fun r s' hq => ?_)
  cases r with
  | error e => exact hx pins σ H s e s' I hq
  | ok fl =>
    cases fl with
    | ret w =>
      obtain ⟨z, H', I', rz, b, ez, q⟩ := I.after hq
      subst ez
      cases rz
      exact ⟨b, H', rfl, I', q⟩
    | next => exact False.elim hq
    | brk => exact False.elim hq
    | cont => exact False.elim hq
def rOwn (K : PySem.W.Frag) (C : Addr) (sp : Sp) (E : XK) (g : Bool → Bool) : R2 := fun x y H Q => ∃ a dx fs t, x = .ref a ∧ H a = some (.ins C dx fs) ∧ TyF K H y t ∧ PySem.W.notFirst K C t = true ∧ sp [x, y] H (fun v H' => ∃ b, v = .bl b ∧ Q (.bl (g b)) H') E
theorem op_eqOwn {CX : CXT} {C f : Addr} {fd : FuncData} {ps : List Str} {sp : Sp} {E : XK} {n : Nat} (F : FnOk X.prog X.w X.K X.mg X.base CX n f fd ps sp)
    (hs : PySem.W.findIn X.K (.ref C) "__eq__" = some (some (.ref f))) (hf : PySem.W.isFn X.K (.ref f) = true) (hb : L2.Binds X.K fd ps []) (hx : Passes CX X E) (hr : Room n X.A) : OpR X (compareOp .Eq) (rOwn X.K C sp E id) := by
  intro pins s σ H x y v u Q I rx ry hq
  obtain ⟨a, dx, fs, t, rfl, ha, ty, nf, hsp⟩ := hq
  cases rx
  obtain ⟨mA, J, _⟩ := ins_get I.hok ha
  obtain ⟨od, J, _⟩ := J.look
  obtain ⟨P, Z, p, _⟩ := kit_ofF I ry ty
  obtain ⟨m, hF⟩ := I.fr
  show wpAny (model X.prog X.w) X.A (richCompare .Eq (.ref a) u) (EP X pins σ Q) X.xe s
  refine PySem.W.cmp_K (op := .Eq) (tb := t) hr.units0 hF I.ok.mod.kin J (Z.ty _ _ I.kIn p) nf hs hf ?_
  refine wpAny_mono (callOwn (R := fun b H' => Q (.bl b) H') F hb hx hr rfl I ry hsp) (fun r s' q => ?_) fun _ _ z => z
  obtain ⟨b, H', rfl, I', q⟩ := q
  exact ⟨.bl b, H', I', rfl, q⟩
theorem op_neOwn {CX : CXT} {C f : Addr} {fd : FuncData} {ps : List Str} {sp : Sp} {E : XK} {n : Nat} (F : FnOk X.prog X.w X.K X.mg X.base CX n f fd ps sp)
    (hs : PySem.W.findIn X.K (.ref C) "__eq__" = some (some (.ref f))) (hn : PySem.W.findIn X.K (.ref C) "__ne__" = some (some (.builtin "object.__ne__"))) (hob : PySem.W.mroIn X.K C (.type "object") = some true)
    (hf : PySem.W.isFn X.K (.ref f) = true) (hb : L2.Binds X.K fd ps []) (hx : Passes CX X E) (hr : Room (n + 1) X.A) : OpR X (compareOp .NotEq) (rOwn X.K C sp E not) := by
  intro pins s σ H x y v u Q I rx ry hq
  obtain ⟨a, dx, fs, t, rfl, ha, ty, nf, hsp⟩ := hq
  cases rx
  obtain ⟨mA, J, _⟩ := ins_get I.hok ha
  obtain ⟨od, J, _⟩ := J.look
  obtain ⟨P, Z, p, _⟩ := kit_ofF I ry ty
  have hy := Z.ty (model X.prog X.w) _ I.kIn p
  have sp1 : PySem.W.Looks (model X.prog X.w) s.heap (specialOf (.ref a) "__ne__") (some (.builtin "object.__ne__")) := J.type.andThen (PySem.W.looks_findIn I.kIn hn)
  have inst : PySem.W.Looks (model X.prog X.w) s.heap (isInstance (.ref a) (.type "object")) true := J.type.andThen (PySem.W.looks_mroIn I.kIn hob)
  have one : wpAny (model X.prog X.w) X.A (tryCompare (.ref a) "__ne__" u) (fun r s' => ∃ b H', r = some (.bool (!b)) ∧ Inv X pins σ H' s' ∧ Q (.bl (!b)) H') X.xe s := by
    unfold tryCompare
    refine wpAny_bind (NtL.csib sp1 (PySem.F.cmp_object.ne.bind _) ?_)
    refine wpAny_call (codeAny_call_builtin PySem.F.cmp_object.ne.plain PySem.F.cmpEntry_ne (@PySem.W.check_slot (model X.prog X.w) _ _ _ "object.__ne__" "object" "__ne__" (.ref a) [u] [] _ PySem.F.cmpKind_ne PySem.F.cmpSplit_ne inst (PySem.F.cmpArgs_ne _ _) ?_))
    unfold Builtin.«object.__ne__»
    have hr1 : Room n X.A.in1 := hr.in1
    show wpAny (model X.prog X.w) X.A.in1 (do
      cRoomFor "comparison" [.ref a, u]
      match ← callSpecialIfBound? (.ref a) "__eq__" [u] with
      | some .notImplemented | none => ret .notImplemented
      | some r => ret (.bool (!(← truthy r)))) _ _ s
    refine wpAny_bind (wpAny_cRoomFor hr1.units0 ?_)
    refine wpAny_bind (PySem.W.ifBound_K I.kIn J hs hf (wpAny_mono (callOwn (R := fun b H' => Q (.bl (!b)) H') F hb hx hr1 rfl I ry hsp) (fun r s' q => ?_) fun _ _ z => z))
    obtain ⟨b, H', rfl, I', q⟩ := q
    cases b
    · exact wpAny_pure (wpAny_pure ⟨false, H', rfl, I', q⟩)
    · exact wpAny_pure (wpAny_pure ⟨true, H', rfl, I', q⟩)
  show wpAny (model X.prog X.w) X.A (richCompare .NotEq (.ref a) u) (EP X pins σ Q) X.xe s
  unfold richCompare
  simp only [oneThing_ref]
  refine wpAny_holding (wpAny_bind (wpAny_cRoomFor hr.units0 ?_))
  refine wpAny_bind (J.type.here (wpAny_bind (hy.here ?_)))
  split
  · rename_i q
    have e : PySem.W.subIn X.K t (.ref C) = some false := by
      rcases Bool.or_eq_true_iff.mp nf with e | e
      · rw [beq_iff_eq.mp e] at q; simp at q
      · exact beq_iff_eq.mp e
    refine wpAny_bind ((PySem.W.looks_subIn I.kIn e).here ?_)
    simp only [Bool.false_eq_true, if_false]
    refine wpAny_bind (wpAny_mono one (fun r s' z => ?_) fun _ _ e => e)
    obtain ⟨b, H', rfl, I', hq⟩ := z
    exact wpAny_pure ⟨.bl _, H', I', rfl, hq⟩
  · refine wpAny_bind (wpAny_pure ?_)
    simp only [Bool.false_eq_true, if_false]
    refine wpAny_bind (wpAny_mono one (fun r s' z => ?_) fun _ _ e => e)
    obtain ⟨b, H', rfl, I', hq⟩ := z
    exact wpAny_pure ⟨.bl _, H', I', rfl, hq⟩
end
end K1
end
-- KEq
section
set_option Elab.async false
set_option linter.all false
set_option maxRecDepth 100000
set_option maxHeartbeats 4000000
namespace K1
open PySem PySem.Spec PyProof.Rows L2
abbrev sVE : Stmt := inClass (top 22) 1
abbrev sVH : Stmt := inClass (top 22) 2
abbrev sVR : Stmt := inClass (top 22) 3
abbrev sVD : Stmt := inClass (top 22) 4
def dN (ss : List Str) : PyData := .list (ss.map PyData.str)
def dR (rs : List (Str × Str)) : PyData := .list (rs.map fun r => .tuple [.str r.1, .str r.2])
def dI (ns : List Int) : PyData := .list (ns.map PyData.int)
theorem eqvAll_map {α : Type} [DecidableEq α] {f : α → PyData} (h : ∀ a b, PyData.eqv (f a) (f b) = decide (a = b)) : ∀ xs ys : List α, PyData.eqvAll (xs.map f) (ys.map f) = decide (xs = ys)
  | [], [] => rfl
  | [], _ :: _ => rfl
  | _ :: _, [] => rfl
  | x :: xs, y :: ys => by
    show (PyData.eqv (f x) (f y) && PyData.eqvAll (xs.map f) (ys.map f)) = _
    rw [h, eqvAll_map h xs ys, ← Bool.decide_and]
    exact decide_eq_decide.mpr (by rw [List.cons.injEq])
theorem eqv_str (a b : Str) : PyData.eqv (.str a) (.str b) = decide (a = b) := by
  show (a == b) = _
  by_cases e : a = b
  · rw [decide_eq_true e, e]; exact beq_self_eq_true b
  · rw [decide_eq_false e]; exact beq_eq_false_iff_ne.mpr e
theorem eqv_int (a b : Int) : PyData.eqv (.int a) (.int b) = decide (a = b) := by
  show (a == b) = _
  by_cases e : a = b
  · rw [decide_eq_true e, e]; exact beq_self_eq_true b
  · rw [decide_eq_false e]; exact beq_eq_false_iff_ne.mpr e
theorem eqv_pair (a b : Str × Str) : PyData.eqv (.tuple [.str a.1, .str a.2]) (.tuple [.str b.1, .str b.2]) = decide (a = b) := by
  show (PyData.eqv (.str a.1) (.str b.1) && (PyData.eqv (.str a.2) (.str b.2) && true)) = _
  rw [eqv_str, eqv_str, Bool.and_true, ← Bool.decide_and]
  exact decide_eq_decide.mpr (by rw [Prod.ext_iff])
theorem eqv_dN (a b : List Str) : PyData.eqv (dN a) (dN b) = decide (a = b) := eqvAll_map eqv_str a b
theorem eqv_dR (a b : List (Str × Str)) : PyData.eqv (dR a) (dR b) = decide (a = b) := eqvAll_map eqv_pair a b
theorem eqv_dI (a b : List Int) : PyData.eqv (dI a) (dI b) = decide (a = b) := eqvAll_map eqv_int a b
theorem strOk_of {s : Str} (h : nameOk s = true) : PyData.strOk s = true := by
  unfold nameOk at h
  have h2 := (Bool.and_eq_true_iff.mp (Bool.and_eq_true_iff.mp (Bool.and_eq_true_iff.mp h).2).2).2
  unfold PyData.strOk
  rw [← Array.all_toList]
  rw [List.all_eq_true] at h2 ⊢
  intro c hc
  have q := h2 c hc
  unfold okSign at q
  have l1 : ∀ c ∈ letters.cps.toList, c < 0x110000 := by decide +kernel
  have l2 : ∀ c ∈ figures.cps.toList, c < 0x110000 := by decide +kernel
  rcases Bool.or_eq_true_iff.mp q with q | q
  · exact decide_eq_true (l1 c (of_decide_eq_true q))
  · exact decide_eq_true (l2 c (of_decide_eq_true q))
theorem lay_map {α : Type} {f : α → PyData} : ∀ {xs : List α}, (∀ x ∈ xs, (f x).canLay0 = true) → PyData.canLayAll0 (xs.map f) = true
  | [], _ => rfl
  | x :: xs, h => by
    show ((f x).canLay0 && PyData.canLayAll0 (xs.map f)) = true
    rw [h x (List.mem_cons_self ..), lay_map fun y hy => h y (List.mem_cons_of_mem _ hy)]
    rfl
theorem dep_map {α : Type} {f : α → PyData} {n : Nat} : ∀ {xs : List α}, (∀ x ∈ xs, (f x).depth ≤ n) → PyData.depthAll (xs.map f) ≤ n
  | [], _ => Nat.zero_le _
  | x :: xs, h => by
    show max (f x).depth (PyData.depthAll (xs.map f)) ≤ n
    exact Nat.max_le.mpr ⟨h x (List.mem_cons_self ..), dep_map fun y hy => h y (List.mem_cons_of_mem _ hy)⟩
theorem shaped_list {α : Type} {f : α → PyData} {xs : List α} (h1 : ∀ x ∈ xs, (f x).canLay0 = true) (h2 : ∀ x ∈ xs, (f x).depth ≤ 5) : SeqAt.shaped (.list (xs.map f)) = true := by
  show (PyData.canLayAll0 (xs.map f) && decide (PyData.depthAll (xs.map f) + 1 ≤ 64)) = true
  have := dep_map h2
  rw [lay_map h1, decide_eq_true (by omega)]
  rfl
theorem shaped_dN {ss : List Str} (h : ∀ s ∈ ss, nameOk s = true) : SeqAt.shaped (dN ss) = true := shaped_list (fun s hs => strOk_of (h s hs)) (fun _ _ => by show 0 ≤ 5; decide)
theorem shaped_dI (ns : List Int) : SeqAt.shaped (dI ns) = true := shaped_list (fun _ _ => rfl) (fun _ _ => by show 0 ≤ 5; decide)
theorem shaped_dR {rs : List (Str × Str)} (h : ∀ r ∈ rs, nameOk r.1 = true ∧ nameOk r.2 = true) : SeqAt.shaped (dR rs) = true := shaped_list (fun r hr => by
  show (PyData.strOk r.1 && (PyData.strOk r.2 && true)) = true
  rw [strOk_of (h r hr).1, strOk_of (h r hr).2]
  rfl) (fun _ _ => by show max 0 (max 0 0) + 1 ≤ 5; decide)
theorem dpAll {α : Type} {K : PySem.W.Frag} {H : Hp} {f : α → V} {g : α → PyData} (h : ∀ x, Dp K H (f x) (g x)) : ∀ xs : List α, DpAll K H (xs.map f) (xs.map g)
  | [] => .nil
  | x :: xs => .cons (h x) (dpAll h xs)
theorem dp_dN {K : PySem.W.Frag} {H : Hp} {l : Addr} {ss : List Str} (h : H l = some (.lst (ss.map V.str))) : Dp K H (.ref l) (dN ss) := .lst (SqL.of h) (dpAll (fun s => .str s) ss)
theorem dp_dI {K : PySem.W.Frag} {H : Hp} {l : Addr} {ns : List Int} (h : H l = some (.lst (ns.map V.int))) : Dp K H (.ref l) (dI ns) := .lst (SqL.of h) (dpAll (fun s => .int s) ns)
theorem dp_dR {K : PySem.W.Frag} {H : Hp} {l : Addr} {qs : List Addr} {rs : List (Str × Str)} (h : H l = some (.lst (qs.map V.ref))) (p : Paired (TupP H) qs rs) : Dp K H (.ref l) (dR rs) := by
  refine .lst (SqL.of h) ?_
  clear h
  induction p with
  | nil => exact .nil
  | cons f1 f2 ih => exact .cons (.tup (SqT.of f1) (.cons (.str _) (.cons (.str _) .nil))) ih
/-- what the text says of Valley beyond its fields -/
structure VcE (K : PySem.W.Frag) (C : Addr) : Prop extends VcT K C where
  ha : PySem.W.findIn K (.ref C) "__class__" = some (some (.builtin "object.__class__"))
  hn : PySem.W.specialIn K (.builtin "object.__class__") "__get__" = some (some (.builtin "getset_descriptor.__get__"))
  htk : PySem.W.takesIn K (.builtin "object.__class__") = some true
  hm : PySem.W.mroIn K C (.type "object") = some true
  own : PySem.W.kitOne K (.ref C) (.ref C) = some true
  no : ∀ t ∈ kinds ++ ["function"], PySem.W.kitOne K (.type t) (.ref C) = some false
def GoodV (ss : List Str) (rs : List (Str × Str)) : Prop := (∀ s ∈ ss, nameOk s = true) ∧ EndsIn ss rs
theorem GoodV.roads {ss : List Str} {rs : List (Str × Str)} (g : GoodV ss rs) : ∀ r ∈ rs, nameOk r.1 = true ∧ nameOk r.2 = true := fun r hr => ⟨g.1 _ (g.2 r hr).1, g.1 _ (g.2 r hr).2⟩
def spVE (K : PySem.W.Frag) (C : Addr) : Sp := fun vs H Q _ => ∃ x l1 l2 l3 qs ss rs ns y, vs = [.ref x, y] ∧ ValI C H x l1 l2 l3 qs ss rs ns ∧ GoodV ss rs ∧
  ((∃ t, TyF K H y (.type t) ∧ t ∈ kinds ++ ["function"] ∧ Q (.bl false) H) ∨ (∃ z m1 m2 m3 qs' ss' rs' ns', y = .ref z ∧ ValI C H z m1 m2 m3 qs' ss' rs' ns' ∧ GoodV ss' rs' ∧ Q (.bl (decide (ss = ss' ∧ rs = rs' ∧ ns = ns'))) H))
theorem scVE : FnScope ["self", "other"] ["self", "other"] (defScope sVE) := ⟨rfl, rfl, rfl, by decide +kernel, rfl, by decide +kernel, by decide +kernel⟩
theorem scVH : FnScope ["self"] ["self"] (defScope sVH) := ⟨rfl, rfl, rfl, by decide +kernel, rfl, by decide +kernel, by decide +kernel⟩
theorem scVR : FnScope ["self"] ["self"] (defScope sVR) := ⟨rfl, rfl, rfl, by decide +kernel, rfl, by decide +kernel, by decide +kernel⟩
theorem scVD : FnScope ["self"] ["self"] (defScope sVD) := ⟨rfl, rfl, rfl, by decide +kernel, rfl, by decide +kernel, by decide +kernel⟩
def spVH (C : Addr) : Sp := fun vs H Q _ => ∃ x l1 l2 l3 qs ss rs ns, vs = [.ref x] ∧ ValI C H x l1 l2 l3 qs ss rs ns ∧ ∀ l, H l = none → Q (.ref l) (upd H l (.lst (ss.map V.str)))
def spVR (C : Addr) : Sp := fun vs H Q _ => ∃ x l1 l2 l3 qs ss rs ns, vs = [.ref x] ∧ ValI C H x l1 l2 l3 qs ss rs ns ∧ ∀ l, H l = none → Q (.ref l) (upd H l (.lst (qs.map V.ref)))
def spVD (C : Addr) : Sp := fun vs H Q _ => ∃ x l1 l2 l3 qs ss rs ns, vs = [.ref x] ∧ ValI C H x l1 l2 l3 qs ss rs ns ∧ ∀ l, H l = none → Q (.ref l) (upd H l (.lst (ns.map V.int)))
section
variable {P : Program} {w : World} {K : PySem.W.Frag} {mg : Str → Option Value} {base : Heap} {C : Addr}
theorem ok_VE {f : Addr} {fd : FuncData} (F : Fun K "__eq__" "Valley.__eq__" sVE f fd) (B : Bl mg) (T : VcE K C) (mV : mg "Valley" = some (.ref C)) : FnOk P w K mg base CX0 1 f fd ["self", "other"] (spVE K C) := by
  refine F.ok scVE (fun vs H Q E h => ?_) (fun cdv A outer s H vs Q E hr h => ?_)
  · obtain ⟨x, l1, l2, l3, qs, ss, rs, ns, y, rfl, _⟩ := h
    rfl
  obtain ⟨x, l1, l2, l3, qs, ss, rs, ns, y, rfl, vx, gx, h⟩ := h
  have hu := hr.units
  refine ⟨_, pss_cons (by exact (ps_if (pt_not (pt_val (pe_callB call_isiF rfl B.isi PyProof.Rows.boot_isinstance (pa_cons (pv 1) (pa_cons (pe_glob (v := .ref C) rfl mV rfl) pa_nil)))))
      (pss_one (ps_ret pe_bl)) pss_nil))
    (pss_one (by exact (ps_ret (pe_and (pe_cmpR (op_eqD hu) (pe_fld (pv 0) rfl) (pe_fld (pv 1) rfl) (nomark _)) (pe_and (pe_cmpR (op_eqD hu) (pe_fld (pv 0) rfl) (pe_fld (pv 1) rfl) (nomark _)) (pe_one (pe_cmpR (op_eqD hu) (pe_fld (pv 0) rfl) (pe_fld (pv 1) rfl) (nomark _)))))))), ?_⟩
  rcases h with ⟨t, ty, kt, q⟩ | ⟨z, m1, m2, m3, qs', ss', rs', ns', rfl, vz, gz, q⟩
  · exact ⟨_, rfl, y, _, _, _, _, rfl, .own C, ty, T.no t kt, _, rfl, iteT q⟩
  · obtain ⟨dz, fz, iz, z1, z2, z3, _⟩ := vz.ins
    obtain ⟨dx, fx, ix, x1, x2, x3, _⟩ := vx.ins
    refine ⟨_, rfl, .ref z, _, _, _, _, rfl, .own C, .inl (.base (.ins iz T.cl T.ha T.hn T.htk T.hm)), T.own, _, rfl, iteF ?_⟩
    refine ⟨_, rfl, x, C, dx, fx, _, rfl, ix, T.cl, T.n1, x1, _, rfl, z, C, dz, fz, _, rfl, iz, T.cl, T.n1, z1, dN ss, dN ss', dp_dN vx.h1, dp_dN vz.h1, shaped_dN gx.1, shaped_dN gz.1, _, rfl, ?_⟩
    rw [eqv_dN]
    by_cases e1 : ss = ss'
    · rw [decide_eq_true e1]
      refine iteT ⟨_, rfl, x, C, dx, fx, _, rfl, ix, T.cl, T.n2, x2, _, rfl, z, C, dz, fz, _, rfl, iz, T.cl, T.n2, z2, dR rs, dR rs', dp_dR vx.h2 vx.pr, dp_dR vz.h2 vz.pr, shaped_dR gx.roads, shaped_dR gz.roads, _, rfl, ?_⟩
      rw [eqv_dR]
      by_cases e2 : rs = rs'
      · rw [decide_eq_true e2]
        refine iteT ⟨_, rfl, x, C, dx, fx, _, rfl, ix, T.cl, T.n3, x3, _, rfl, z, C, dz, fz, _, rfl, iz, T.cl, T.n3, z3, dI ns, dI ns', dp_dI vx.h3, dp_dI vz.h3, shaped_dI ns, shaped_dI ns', ?_⟩
        rw [eqv_dI]
        have e : decide (ss = ss' ∧ rs = rs' ∧ ns = ns') = decide (ns = ns') := decide_eq_decide.mpr ⟨fun h => h.2.2, fun h => ⟨e1, e2, h⟩⟩
        rw [e] at q
        exact q
      · rw [decide_eq_false e2]
        rw [decide_eq_false (fun h => e2 h.2.1)] at q
        exact iteF q
    · rw [decide_eq_false e1]
      rw [decide_eq_false (fun h => e1 h.1)] at q
      exact iteF q
theorem ok_VH {f : Addr} {fd : FuncData} (F : Fun K "houses" "Valley.houses" sVH f fd) (B : Bl mg) (T : VcE K C) : FnOk P w K mg base CX0 1 f fd ["self"] (spVH C) := by
  refine F.ok scVH (fun vs H Q E h => ?_) (fun cdv A outer s H vs Q E hr h => ?_)
  · obtain ⟨x, l1, l2, l3, qs, ss, rs, ns, rfl, _⟩ := h
    rfl
  obtain ⟨x, l1, l2, l3, qs, ss, rs, ns, rfl, vx, q⟩ := h
  obtain ⟨dx, fx, ix, x1, x2, x3, _⟩ := vx.ins
  refine ⟨_, pss_one (by exact (ps_ret (pe_callTy call_list_of rfl B.list PyProof.Rows.boot_list (pa_cons (pe_fld (pv 0) rfl) pa_nil)))), ?_⟩
  exact ⟨_, rfl, x, C, dx, fx, _, rfl, ix, T.cl, T.n1, x1, l1, _, rfl, .inl (SqL.of vx.h1), q⟩
theorem ok_VR {f : Addr} {fd : FuncData} (F : Fun K "roads" "Valley.roads" sVR f fd) (B : Bl mg) (T : VcE K C) : FnOk P w K mg base CX0 1 f fd ["self"] (spVR C) := by
  refine F.ok scVR (fun vs H Q E h => ?_) (fun cdv A outer s H vs Q E hr h => ?_)
  · obtain ⟨x, l1, l2, l3, qs, ss, rs, ns, rfl, _⟩ := h
    rfl
  obtain ⟨x, l1, l2, l3, qs, ss, rs, ns, rfl, vx, q⟩ := h
  obtain ⟨dx, fx, ix, x1, x2, x3, _⟩ := vx.ins
  refine ⟨_, pss_one (by exact (ps_ret (pe_callTy call_list_of rfl B.list PyProof.Rows.boot_list (pa_cons (pe_fld (pv 0) rfl) pa_nil)))), ?_⟩
  exact ⟨_, rfl, x, C, dx, fx, _, rfl, ix, T.cl, T.n2, x2, l2, _, rfl, .inl (SqL.of vx.h2), q⟩
theorem ok_VD {f : Addr} {fd : FuncData} (F : Fun K "heads" "Valley.heads" sVD f fd) (B : Bl mg) (T : VcE K C) : FnOk P w K mg base CX0 1 f fd ["self"] (spVD C) := by
  refine F.ok scVD (fun vs H Q E h => ?_) (fun cdv A outer s H vs Q E hr h => ?_)
  · obtain ⟨x, l1, l2, l3, qs, ss, rs, ns, rfl, _⟩ := h
    rfl
  obtain ⟨x, l1, l2, l3, qs, ss, rs, ns, rfl, vx, q⟩ := h
  obtain ⟨dx, fx, ix, x1, x2, x3, _⟩ := vx.ins
  refine ⟨_, pss_one (by exact (ps_ret (pe_callTy call_list_of rfl B.list PyProof.Rows.boot_list (pa_cons (pe_fld (pv 0) rfl) pa_nil)))), ?_⟩
  exact ⟨_, rfl, x, C, dx, fx, _, rfl, ix, T.cl, T.n3, x3, l3, _, rfl, .inl (SqL.of vx.h3), q⟩
end
end K1
end
-- KMisc
section
set_option Elab.async false
set_option linter.all false
set_option maxRecDepth 100000
set_option maxHeartbeats 4000000
/-! d.update(d2) of keys that are ints or texts; (x, y)[::-1] -/
namespace K1
open PySem PySem.Spec PyProof.Rows L2

theorem KV_merge {kvs : List (Key × V)} {vs : List (Key × Value)} (r : KV kvs vs) : ∀ {ms : List (Key × V)} {ws : List (Key × Value)}, KV ms ws → KV (mergeK kvs ms) (merged vs ws) := by
  intro ms ws h
  induction h generalizing kvs vs with
  | nil => exact r
  | @cons x y l1 l2 f1 f2 ih =>
    obtain ⟨e1, e2⟩ := f1
    refine ih ?_
    have q := KV.put r x.1 e2
    show KV (putK kvs x.1 x.2) (stored vs y.1 y.2)
    rw [← e1]
    exact q
theorem mergeK_len (kvs ms : List (Key × V)) : (mergeK kvs ms).length ≤ kvs.length + ms.length := by
  induction ms generalizing kvs with
  | nil => exact Nat.le_refl _
  | cons m r ih =>
    have := ih (putK kvs m.1 m.2)
    have h2 := length_putK kvs m.1 m.2
    show (mergeK (putK kvs m.1 m.2) r).length ≤ _
    rw [List.length_cons]
    omega
def rUpdK : V → List V → Hp → VK → Prop := fun x xs H Q => ∃ (a b : Addr) (kvs ms : List (Key × V)), x = .ref a ∧ xs = [.ref b] ∧ a ≠ b ∧ H a = some (.dK kvs) ∧ H b = some (.dK ms) ∧ kvs.length + ms.length ≤ 100000 ∧ Q .non (upd H a (.dK (mergeK kvs ms)))
theorem mt_updK {X : Cx} : MtR X "dict.update" rUpdK := by
  intro pins s σ H x xs v us Q I rx r h
  obtain ⟨a, b, kvs, ms, rfl, rfl, ne, ha, hb, hl, q⟩ := h
  obtain ⟨u1, rfl, r1⟩ := vals1 r
  cases rx
  cases r1
  obtain ⟨z1, s1, vs, rel, d1⟩ := dk_of I.hok ha
  obtain ⟨z2, s2, ws, rel2, d2⟩ := dk_of I.hok hb
  have l1 : vs.length = kvs.length := rel.length.symm
  have l2 : ws.length = ms.length := rel2.length.symm
  refine call_meetsIn PySem.F.slot_dict_update d1.typeIs PySem.F.entry_dict_update (PySem.F.args_dict_update_2 _ _) (meets_dict_update (mixKind X.prog X.w) a b ne s2) ⟨vs, ws, d1, d2, by rw [l1, l2]; exact Nat.le_trans hl (by decide), fun h' e1 e2 sb => ?_⟩
  have he : ∃ o, h'.get? a = some o := let ⟨o, _, _, ho, _⟩ := e1; ⟨o, ho⟩
  have hln : (mergeK kvs ms).length ≤ sizeLine := Nat.le_trans (mergeK_len kvs ms) (Nat.le_trans hl (by decide))
  exact ⟨.non, _, d_write I (by rw [ha]; exact True.intro) sb he (dk_new hln s1 (KV_merge rel rel2) e1), rfl, q⟩
end K1
namespace K1S
open PySem PySem.Spec PyProof.Rows L2 HT
section
variable {prog : Program} {w : World} {A : Around} {E : Value → Shared → Prop} {s : Shared}
theorem backApplied {sl : Addr} {vl vu vs : Value} {Q : Int × Int × Nat → Shared → Prop} (hs : s.heap.IsSliceOf sl vl vu vs) (pl : IsPart vl none) (pu : IsPart vu none) (ps : IsPart vs (some (-1)))
    (h : Q (1, -1, 2) s) : wpAny (model prog w) A (Builtin.Slice.sliceApplied (.ref sl) (pure ((2 : Nat) : Int))) Q E s := by
  obtain ⟨os, hos, hcs, hds⟩ := id hs
  unfold Builtin.Slice.sliceApplied Builtin.Slice.sliceFields
  refine wpAny_bind (wpAny_bind (wpAny_field hos hds (x := vl) rfl (wpAny_bind (wpAny_field hos hds (x := vu) rfl (wpAny_bind (wpAny_field hos hds (x := vs) rfl (wpAny_pure ?_)))))))
  refine wpAny_bind (slicePart_ ps ?_)
  show wpAny _ _ (if ((-1 : Int) == 0) = true then _ else _) _ _ s
  rw [if_neg (by decide)]
  refine wpAny_bind (slicePart_ pl (wpAny_bind (slicePart_ pu (wpAny_bind (wpAny_pure ?_)))))
  exact wpAny_pure h
theorem back2 {t sl : Addr} {x y : Value} {vl vu vs : Value} {Q : Value → Shared → Prop} (ht : IsTup s.heap t #[x, y]) (hs : s.heap.IsSliceOf sl vl vu vs) (pl : IsPart vl none) (pu : IsPart vu none) (ps : IsPart vs (some (-1)))
    (h : Q (.ref s.heap.objs.size) { s with heap := s.heap.push { cls := .type "tuple", data := .seq #[y, x] } }) : wpAny (model prog w) A (getItem (.ref t) (.ref sl)) Q E s := by
  have htake : sizeOk (.seq #[y, x]) := by show 2 ≤ sizeLine; decide
  obtain ⟨os, hos, hcs, hds⟩ := id hs
  have hTs : s.TypeIs (.ref sl) "slice" := ⟨os, hos, hcs⟩
  unfold getItem
  try with_reducible refine wpAny_holding ?_
  first | refine wpAny_bind (wpAny_pure ?_) | skip
  refine wpAny_bind (wpAny_sequenceKey ht.typeIs (by decide) ?_)
  refine wpAny_bind (wpAny_callSpecial?_slot (name := Str.ofString "__getitem__") ht.typeIs PyProof.Rows.slot_tuple_getitem
    (wpAny_call_entry PyProof.Rows.slot_tuple_getitem ht.typeIs entry_tuple_getitem ?_ (args_tuple_getitem _ _)))
  show wpAny _ _ (Builtin.Tuple.tupleItemsOf (.ref t) >>= _) _ _ s
  refine wpAny_bind (tupleItemsOf_ ht ?_)
  refine wpAny_bind (wpAny_typeOf hTs ?_)
  rw [if_pos (by decide)]
  refine wpAny_bind (backApplied hs pl pu ps ?_)
  first
    | exact wpAny_bind (m := Builtin.Tuple.tupleExact _) (wpAny_newObj_type (wpAny_pure ⟨_, rfl, wpAny_pure h⟩) htake)
    | exact wpAny_bind (m := Builtin.Tuple.tupleExact _) (wpAny_newObj_type (wpAny_bind (wpAny_pure (wpAny_pure ⟨_, rfl, wpAny_pure h⟩))) htake)
    | exact wpAny_bind (wpAny_bind (m := Builtin.Tuple.tupleExact _) (wpAny_newObj_type (wpAny_pure (wpAny_pure ⟨_, rfl, wpAny_pure h⟩)) htake))
    | exact wpAny_bind (wpAny_bind (m := Builtin.Tuple.tupleExact _) (wpAny_newObj_type (wpAny_pure ⟨_, rfl, wpAny_pure h⟩) htake))
end
end K1S
namespace K1
open PySem PySem.Spec PyProof.Rows L2
def tBack (K : PySem.W.Frag) (te : TE) : TE := fun σ H Q => te σ H fun v H1 => ∃ a x y, v = .ref a ∧ SqT K H1 a [x, y] ∧ ∀ p, H1 p = none → Q (.ref p) (upd H1 p (.tup [y, x]))
theorem pe_back {X : Cx} {e : Expr} {te : TE} {k : Nat} {p1 p2 p3 pos : Pos} (he : PE X e te) : PE X (.Subscript e (.Slice none none (some (.UnaryOp .USub (.Constant (.int 1) k p1) p2)) p3) pos) (tBack X.K te) := by
  refine ⟨fun pins s σ H Q I h => ?_⟩
  refine Subscript_ (thn (he.run pins s σ H _ I h) fun v s1 ⟨v1, H1, I1, r1, q1⟩ => ?_)
  obtain ⟨a, x, y, ex, hx, q⟩ := q1
  subst ex
  cases r1
  have hst : PO X (some (.UnaryOp .USub (.Constant (.int 1) k p1) p2)) (tPart (tUn (rU fun i => .int (-i)) (tC (.int 1)))) := po_some (pe_un un_neg pe_int)
  refine wpAny_Slice (thn (po_none.run pins s1 σ H1 (fun o H2 => o = none ∧ H2 = H1) I1 ⟨rfl, rfl⟩) fun vl s2 ⟨l, H2, I2, pl, el, e2⟩ => ?_)
  subst el e2
  refine thn (po_none.run pins s2 σ H2 (fun o H3 => o = none ∧ H3 = H2) I2 ⟨rfl, rfl⟩) fun vu s3 ⟨u, H3, I3, pu, eu, e3⟩ => ?_
  subst eu e3
  refine thn (hst.run pins s3 σ H3 (fun o H4 => o = some (-1) ∧ H4 = H3) I3 ⟨1, rfl, -1, rfl, rfl, rfl⟩) fun vs s4 ⟨o, H4, I4, ps, eo, e4⟩ => ?_
  subst eo e4
  have I5 : Inv X pins σ H4 { s4 with heap := s4.heap.push { cls := .type "slice", data := .fields #[vl, vu, vs] } } := I4.kept (t' := s4.toks) fun b ob q => Heap.get?_push_of_some _ q
  obtain ⟨its, r, ht, hz⟩ := I5.tuple hx
  obtain ⟨u1, u2, rfl, ra, rb⟩ := vals2 r
  show wpAny (model X.prog X.w) X.A (subscriptTail e (.Slice none none (some (.UnaryOp .USub (.Constant (.int 1) k p1) p2)) p3) (.ref a) (.ref s4.heap.objs.size)) (EP X pins σ Q) X.xe { s4 with heap := s4.heap.push { cls := .type "slice", data := .fields #[vl, vu, vs] } }
  refine tail_any (ops := [.ref a, .ref s4.heap.objs.size]) ht.typeIs (PyProof.Rows.slot_tuple_getitem.lookup) ?_ (by with_unfolding_all rfl)
  refine K1S.back2 ht (Heap.IsSliceOf.new _ vl vu vs) pl pu ps ?_
  refine ⟨.ref _, _, I5.laid (t' := s4.toks) (o := .tup [y, x]) (fun b ob q => Heap.get?_push_of_some _ q) (Nat.le_refl _) ?_, rfl, q _ (I5.hok.fresh (Nat.le_refl _))⟩
  exact ⟨by show 2 ≤ sizeLine; decide, [u2, u1], .cons rb (.cons ra .nil), IsTup.new _ _⟩
end K1
end
-- KCut
section
set_option Elab.async false
set_option linter.all false
set_option maxRecDepth 100000
set_option maxHeartbeats 4000000
namespace K1
open PySem PySem.Spec PyProof.Rows L2
/-- each road parts its two ends, and no other road's -/
def Cut (rs : List (Str × Str)) : Prop := rs.Nodup ∧ ∀ e ∈ rs, ∃ c : Str → Bool, c e.1 ≠ c e.2 ∧ ∀ e' ∈ rs, e' ≠ e → c e'.1 = c e'.2
theorem Cut.nil : Cut [] := ⟨List.nodup_nil, fun e he => absurd he (by simp)⟩
theorem Cut.perm {as bs : List (Str × Str)} (h : Cut bs) (p : as.Perm bs) : Cut as := by
  refine ⟨p.nodup_iff.mpr h.1, fun e he => ?_⟩
  obtain ⟨c, h1, h2⟩ := h.2 e (p.mem_iff.mp he)
  exact ⟨c, h1, fun e' he' n => h2 e' (p.mem_iff.mp he') n⟩
theorem Cut.add {rs : List (Str × Str)} {u v : Str} {e0 : Str × Str} (h : Cut rs) (hv : ∀ r ∈ rs, r.1 ≠ v ∧ r.2 ≠ v) (huv : u ≠ v) (he : e0 = (u, v) ∨ e0 = (v, u)) : Cut (rs ++ [e0]) := by
  have ends : (e0.1 = u ∧ e0.2 = v) ∨ (e0.1 = v ∧ e0.2 = u) := he.imp (fun h => by rw [h]; exact ⟨rfl, rfl⟩) (fun h => by rw [h]; exact ⟨rfl, rfl⟩)
  have n0 : ¬ e0 ∈ rs := fun hm => by
    rcases ends with ⟨_, z⟩ | ⟨z, _⟩
    · exact (hv e0 hm).2 z
    · exact (hv e0 hm).1 z
  refine ⟨?_, fun e hm => ?_⟩
  · rw [List.nodup_append]
    refine ⟨h.1, by simp, fun x hx y hy => ?_⟩
    rw [List.mem_singleton.mp hy]
    intro z
    rw [z] at hx
    exact n0 hx
  · rcases List.mem_append.mp hm with hm | hm
    · obtain ⟨c, h1, h2⟩ := h.2 e hm
      refine ⟨fun s => if s = v then c u else c s, ?_, fun e' he' n => ?_⟩
      · show (if e.1 = v then c u else c e.1) ≠ (if e.2 = v then c u else c e.2)
        rw [if_neg (hv e hm).1, if_neg (hv e hm).2]
        exact h1
      · show (if e'.1 = v then c u else c e'.1) = (if e'.2 = v then c u else c e'.2)
        rcases List.mem_append.mp he' with he' | he'
        · rw [if_neg (hv e' he').1, if_neg (hv e' he').2]
          exact h2 e' he' n
        · rw [List.mem_singleton.mp he']
          rcases ends with ⟨z1, z2⟩ | ⟨z1, z2⟩
          · rw [z1, z2, if_neg huv, if_pos rfl]
          · rw [z1, z2, if_neg huv, if_pos rfl]
    · rw [List.mem_singleton.mp hm]
      refine ⟨fun s => decide (s = v), ?_, fun e' he' n => ?_⟩
      · show decide (e0.1 = v) ≠ decide (e0.2 = v)
        rcases ends with ⟨z1, z2⟩ | ⟨z1, z2⟩
        · rw [z1, z2, decide_eq_false huv, decide_eq_true rfl]; decide
        · rw [z1, z2, decide_eq_false huv, decide_eq_true rfl]; decide
      · show decide (e'.1 = v) = decide (e'.2 = v)
        rcases List.mem_append.mp he' with he' | he'
        · rw [decide_eq_false (hv e' he').1, decide_eq_false (hv e' he').2]
        · exact absurd (List.mem_singleton.mp he') n
theorem nodup_take_not' {α : Type} {ss : List α} (h : ss.Nodup) {i : Nat} (hi : i < ss.length) : ¬ ss[i] ∈ ss.take i := fun hm => by
  obtain ⟨j, hj, ej⟩ := List.getElem_of_mem hm
  rw [List.length_take] at hj
  rw [List.getElem_take] at ej
  have := (List.getElem_inj h).mp ej
  omega
theorem col_join {c : Str → Bool} {rt : Str → Str} {a b : Str} (h : ∀ s, c (rt s) = c s) (e : c a = c b) (s : Str) : c (joinRt rt a b s) = c s := by
  unfold joinRt
  by_cases z : rt s = rt a
  · rw [if_pos z, h, ← e, ← h a, ← z, h]
  · rw [if_neg z, h]
theorem col_rt {c : Str → Bool} : ∀ (n : Nat) {rs : List (Str × Str)}, rs.length = n → (∀ e ∈ rs, c e.1 = c e.2) → ∀ s, c (rtOf rs s) = c s
  | 0, rs, h0, _, s => by rw [List.length_eq_zero_iff.mp h0]; rfl
  | n + 1, rs, h0, h, s => by
    have hne : rs ≠ [] := fun z => by rw [z] at h0; cases h0
    have e := List.dropLast_concat_getLast hne
    rw [← e, rtOf_snoc]
    refine col_join (fun t => col_rt n (by rw [List.length_dropLast]; omega) (fun e he => h e ((List.dropLast_sublist _).mem he)) t) (h _ (List.getLast_mem hne)) s
theorem Cut.forest {rs : List (Str × Str)} (h : Cut rs) : Forest rs := by
  intro i hi z
  obtain ⟨c, h1, h2⟩ := h.2 rs[i] (List.getElem_mem hi)
  have hc : ∀ s, c (rtOf (rs.take i) s) = c s := col_rt _ rfl fun e he => h2 e (List.mem_of_mem_take he) (fun q => nodup_take_not' h.1 hi (by rw [← q]; exact he))
  exact h1 (by rw [← hc rs[i].1, z, hc])
theorem at4 {a0 a1 a2 a3 s : Int} (h0 : 0 ≤ s) (h1 : s < 4) : ∃ x : Int, atI [V.int a0, V.int a1, V.int a2, V.int a3] s = some (.int x) ∧ (x = a0 ∨ x = a1 ∨ x = a2 ∨ x = a3) := by
  have : s = 0 ∨ s = 1 ∨ s = 2 ∨ s = 3 := by omega
  rcases this with rfl | rfl | rfl | rfl
  · exact ⟨a0, rfl, .inl rfl⟩
  · exact ⟨a1, rfl, .inr (.inl rfl)⟩
  · exact ⟨a2, rfl, .inr (.inr (.inl rfl))⟩
  · exact ⟨a3, rfl, .inr (.inr (.inr rfl))⟩
def unR : V → Addr
  | .ref a => a
  | _ => 0
theorem paired_perm {H : Hp} {qs : List Addr} {rs : List (Str × Str)} (h : Paired (TupP H) qs rs) {ys : List V} (p : ys.Perm (qs.map V.ref)) : ∃ qs' rs', ys = qs'.map V.ref ∧ qs'.Perm qs ∧ rs'.Perm rs ∧ Paired (TupP H) qs' rs' := by
  have e1 : ys = (ys.map unR).map V.ref := by
    rw [List.map_map]
    have : ∀ y ∈ ys, (V.ref ∘ unR) y = y := fun y hy => by
      obtain ⟨s, _, rfl⟩ := List.mem_map.mp (p.mem_iff.mp hy)
      rfl
    exact (List.map_congr_left this).trans (List.map_id _) |>.symm
  have p2 : (ys.map unR).Perm qs := by
    have := p.map unR
    rw [List.map_map] at this
    exact this.trans (List.Perm.of_eq (List.map_id _))
  have key : ∀ {as bs : List Addr}, as.Perm bs → ∀ {ts : List (Str × Str)}, Paired (TupP H) bs ts → ∃ us, us.Perm ts ∧ Paired (TupP H) as us := by
    intro as bs pm
    induction pm with
    | nil => intro ts h; cases h; exact ⟨[], .nil, .nil⟩
    | cons x _ ih =>
      intro ts h
      cases h with
      | cons f r =>
        obtain ⟨us, q1, q2⟩ := ih r
        exact ⟨_ :: us, q1.cons _, .cons f q2⟩
    | swap x y l =>
      intro ts h
      cases h with
      | cons f r =>
        cases r with
        | cons f2 r2 => exact ⟨_ :: _ :: _, .swap _ _ _, .cons f2 (.cons f r2)⟩
    | trans _ _ ih1 ih2 =>
      intro ts h
      obtain ⟨us, q1, q2⟩ := ih2 h
      obtain ⟨ws, q3, q4⟩ := ih1 q2
      exact ⟨ws, q3.trans q1, q4⟩
  obtain ⟨us, q1, q2⟩ := key p2 h
  exact ⟨_, us, e1, p2, q1, q2⟩
theorem Spr.tup {H : Hp} {a q : Addr} {n : Nat} {xs : List V} (h : Spr H a n) (e : H q = some (.tup xs)) : q ≠ a := fun z => by
  obtain ⟨x, y, z2, e2, _⟩ := h
  rw [z, e2] at e
  cases e
theorem TupP.kept {H H' : Hp} {a : Addr} {n : Nat} {qs : List Addr} {rs : List (Str × Str)} (h : Paired (TupP H) qs rs) (s : Spr H a n) (k : Kept a H H') : Paired (TupP H') qs rs := paired_imp (fun _ _ q => k _ _ (s.tup q) q) h
end K1
end
-- NMath
section
set_option Elab.async false
set_option linter.all false
set_option maxRecDepth 100000
set_option maxHeartbeats 1000000
namespace K1
open PySem PySem.Spec PyProof.Rows L2
/-! trees: one root, the cut of a road, the reach of a house without another, the way -/
theorem rt_fold {ss : List Str} : ∀ (rs : List (Str × Str)) (rt : Str → Str), EndsIn ss rs → (∀ s, rt (rt s) = rt s) → (∀ s ∈ ss, rt s ∈ ss) →
    (∀ s, (rs.foldl (fun rt e => joinRt rt e.1 e.2) rt) ((rs.foldl (fun rt e => joinRt rt e.1 e.2) rt) s) = (rs.foldl (fun rt e => joinRt rt e.1 e.2) rt) s) ∧ ∀ s ∈ ss, (rs.foldl (fun rt e => joinRt rt e.1 e.2) rt) s ∈ ss
  | [], rt, _, h1, h2 => ⟨h1, h2⟩
  | e :: rs, rt, he, h1, h2 => by
    have he1 := he e (List.mem_cons_self ..)
    refine rt_fold rs (joinRt rt e.1 e.2) (fun r hr => he r (List.mem_cons_of_mem _ hr)) (fun s => ?_) (fun s hs => ?_)
    · unfold joinRt
      by_cases z : rt s = rt e.1
      · rw [if_pos z]
        by_cases z2 : rt (rt e.2) = rt e.1
        · rw [if_pos z2]
        · rw [if_neg z2, h1]
      · rw [if_neg z, if_neg (by rw [h1]; exact z), h1]
    · unfold joinRt
      by_cases z : rt s = rt e.1
      · rw [if_pos z]; exact h2 _ he1.2
      · rw [if_neg z]; exact h2 _ hs
theorem rt_idem {rs : List (Str × Str)} (s : Str) : rtOf rs (rtOf rs s) = rtOf rs s := by
  refine (rt_fold (ss := rs.map (·.1) ++ rs.map (·.2)) rs (fun s => s) (fun r hr => ⟨?_, ?_⟩) (fun _ => rfl) fun _ h => h).1 s
  · exact List.mem_append_left _ (List.mem_map.mpr ⟨r, hr, rfl⟩)
  · exact List.mem_append_right _ (List.mem_map.mpr ⟨r, hr, rfl⟩)
theorem rt_in {ss : List Str} {rs : List (Str × Str)} (he : EndsIn ss rs) {s : Str} (hs : s ∈ ss) : rtOf rs s ∈ ss := (rt_fold rs (fun s => s) he (fun _ => rfl) fun _ h => h).2 s hs
theorem filter_ne_len {α : Type} [DecidableEq α] {a : α} : ∀ {l : List α}, l.Nodup → a ∈ l → (l.filter fun x => decide (x ≠ a)).length + 1 = l.length
  | [], _, h => absurd h (by simp)
  | b :: l, nd, h => by
    have n := List.nodup_cons.mp nd
    by_cases e : b = a
    · subst e
      have : l.filter (fun x => decide (x ≠ b)) = l := List.filter_eq_self.mpr fun x hx => decide_eq_true fun z => n.1 (by rw [← z]; exact hx)
      rw [List.filter_cons, if_neg (by simp), this]
      rfl
    · rw [List.filter_cons, if_pos (decide_eq_true e), List.length_cons, List.length_cons, filter_ne_len n.2 ((List.mem_cons.mp h).resolve_left fun z => e z.symm)]
def rootsOf (ss : List Str) (rs : List (Str × Str)) : List Str := ss.filter fun s => decide (rtOf rs s = s)
theorem roots_len {ss : List Str} {rs : List (Str × Str)} (hn : ss.Nodup) (he : EndsIn ss rs) (f : Forest rs) : ∀ i, i ≤ rs.length → (rootsOf ss (rs.take i)).length + i = ss.length
  | 0, _ => by
    have : rootsOf ss (rs.take 0) = ss := List.filter_eq_self.mpr fun s _ => decide_eq_true rfl
    rw [this]
    rfl
  | i + 1, hi => by
    have ih := roots_len hn he f i (Nat.le_of_succ_le hi)
    have ee := he _ (List.getElem_mem hi)
    have et : EndsIn ss (rs.take i) := fun r hr => he r (List.mem_of_mem_take hr)
    have ne := f i hi
    have e : rootsOf ss (rs.take (i + 1)) = (rootsOf ss (rs.take i)).filter fun x => decide (x ≠ rtOf (rs.take i) rs[i].1) := by
      unfold rootsOf
      rw [List.filter_filter]
      refine List.filter_congr fun s _ => ?_
      rw [rtOf_succ hi]
      unfold joinRt
      rw [Bool.eq_iff_iff, Bool.and_eq_true, decide_eq_true_eq, decide_eq_true_eq, decide_eq_true_eq]
      by_cases z : rtOf (rs.take i) s = rtOf (rs.take i) rs[i].1
      · rw [if_pos z]
        constructor
        · intro h
          have h2 := rt_idem (rs := rs.take i) rs[i].2
          rw [h, z] at h2
          exact absurd (h2.trans h.symm) ne
        · rintro ⟨h1, h2⟩
          exact absurd (h2.symm.trans z) h1
      · rw [if_neg z]
        constructor
        · intro h
          exact ⟨fun q => z (h.trans q), h⟩
        · exact fun h => h.2
    have hm : rtOf (rs.take i) rs[i].1 ∈ rootsOf ss (rs.take i) := List.mem_filter.mpr ⟨rt_in et ee.1, decide_eq_true (rt_idem _)⟩
    have := filter_ne_len (List.Pairwise.filter _ hn) hm
    rw [e]
    unfold rootsOf at this ih ⊢
    omega
/-- what a tree of roads is here -/
structure Tree (ss : List Str) (rs : List (Str × Str)) : Prop where
  nd : ss.Nodup
  ends : EndsIn ss rs
  cut : Cut rs
  len : rs.length + 1 = ss.length
theorem Tree.root {ss : List Str} {rs : List (Str × Str)} (T : Tree ss rs) {s t : Str} (hs : s ∈ ss) (ht : t ∈ ss) : rtOf rs s = rtOf rs t := by
  have h := roots_len T.nd T.ends T.cut.forest rs.length (Nat.le_refl _)
  rw [List.take_length] at h
  have l1 : (rootsOf ss rs).length = 1 := by have := T.len; omega
  obtain ⟨r, hr⟩ := List.length_eq_one_iff.mp l1
  have a : ∀ u ∈ ss, rtOf rs u = r := fun u hu => by
    have : rtOf rs u ∈ rootsOf ss rs := List.mem_filter.mpr ⟨rt_in T.ends hu, decide_eq_true (rt_idem _)⟩
    rw [hr] at this
    exact List.mem_singleton.mp this
  rw [a s hs, a t ht]
/-- what is alike at both ends of each road is alike everywhere -/
theorem Tree.all {ss : List Str} {rs : List (Str × Str)} (T : Tree ss rs) {S : Str → Prop} (h : ∀ e ∈ rs, S e.1 ↔ S e.2) {s t : Str} (hs : s ∈ ss) (ht : t ∈ ss) (q : S s) : S t := by
  classical
  have c := col_rt (c := fun u => decide (S u)) _ (rfl : rs.length = rs.length) fun e he => decide_eq_decide.mpr (h e he)
  have e1 := c s
  have e2 := c t
  rw [T.root hs ht] at e1
  have := e1.symm.trans e2
  exact (decide_eq_decide.mp this).mp q
theorem nbB_iff {rs : List (Str × Str)} {s t : Str} : nbB rs s t = true ↔ (s, t) ∈ rs ∨ (t, s) ∈ rs := by
  unfold nbB
  rw [List.any_eq_true]
  constructor
  · rintro ⟨r, hr, h⟩
    rcases of_decide_eq_true h with h | h
    · exact .inl (h ▸ hr)
    · exact .inr (h ▸ hr)
  · rintro (h | h)
    · exact ⟨_, h, decide_eq_true (.inl rfl)⟩
    · exact ⟨_, h, decide_eq_true (.inr rfl)⟩
theorem nbB_swap {rs : List (Str × Str)} {s t : Str} : nbB rs s t = nbB rs t s := by
  rw [Bool.eq_iff_iff, nbB_iff, nbB_iff]
  exact Or.comm
theorem EndsIn.nb {ss : List Str} {rs : List (Str × Str)} (h : EndsIn ss rs) {s t : Str} (e : nbB rs s t = true) : s ∈ ss ∧ t ∈ ss := by
  rcases nbB_iff.mp e with e | e
  · exact h _ e
  · exact (h _ e).symm
theorem mem_nbs {ss : List Str} {rs : List (Str × Str)} (h : EndsIn ss rs) {s t : Str} : t ∈ nbs ss rs s ↔ nbB rs s t = true := by
  unfold nbs
  rw [List.mem_filter]
  exact ⟨fun h => h.2, fun e => ⟨(h.nb e).2, e⟩⟩
/-- the two sides of a road, as colours -/
theorem Cut.side {rs : List (Str × Str)} (h : Cut rs) {a b : Str} (e : nbB rs a b = true) : ∃ c : Str → Bool, c a ≠ c b ∧ ∀ s t, nbB rs s t = true → ¬ (s = a ∧ t = b) → ¬ (s = b ∧ t = a) → c s = c t := by
  have hx : ∀ e0 : Str × Str, e0 ∈ rs → (e0 = (a, b) ∨ e0 = (b, a)) → ∃ c : Str → Bool, c a ≠ c b ∧ ∀ s t, nbB rs s t = true → ¬ (s = a ∧ t = b) → ¬ (s = b ∧ t = a) → c s = c t := by
    intro e0 he0 w
    obtain ⟨c, h1, h2⟩ := h.2 e0 he0
    refine ⟨c, ?_, fun s t q n1 n2 => ?_⟩
    · rcases w with w | w
      · rw [w] at h1; exact h1
      · rw [w] at h1; exact h1.symm
    · have nn : ∀ x y : Str, ¬ (x = a ∧ y = b) → ¬ (x = b ∧ y = a) → (x, y) ≠ e0 := fun x y m1 m2 z => by
        rcases w with w | w
        · rw [w] at z; exact m1 ⟨congrArg Prod.fst z, congrArg Prod.snd z⟩
        · rw [w] at z; exact m2 ⟨congrArg Prod.fst z, congrArg Prod.snd z⟩
      rcases nbB_iff.mp q with q | q
      · exact h2 _ q (nn _ _ n1 n2)
      · exact (h2 _ q (nn _ _ (fun m => n2 ⟨m.2, m.1⟩) (fun m => n1 ⟨m.2, m.1⟩))).symm
  rcases nbB_iff.mp e with e | e
  · exact hx _ e (.inl rfl)
  · exact hx _ e (.inr rfl)
theorem Cut.irr {rs : List (Str × Str)} (h : Cut rs) {a b : Str} (e : nbB rs a b = true) : a ≠ b := by
  obtain ⟨c, h1, _⟩ := h.side e
  exact fun z => h1 (by rw [z])
/-- what is reached from other without coming into one -/
inductive Rch (rs : List (Str × Str)) (one other : Str) : Str → Prop
  | base : Rch rs one other other
  | step {s t : Str} : Rch rs one other s → nbB rs s t = true → t ≠ one → Rch rs one other t
theorem Rch.ne {rs : List (Str × Str)} {one other t : Str} (ne : other ≠ one) (h : Rch rs one other t) : t ≠ one := by
  cases h with
  | base => exact ne
  | step _ _ n => exact n
theorem Rch.mem {ss : List Str} {rs : List (Str × Str)} {one other t : Str} (he : EndsIn ss rs) (ho : other ∈ ss) (h : Rch rs one other t) : t ∈ ss := by
  cases h with
  | base => exact ho
  | step _ q _ => exact (he.nb q).2
theorem Rch.col {rs : List (Str × Str)} {one other t : Str} {c : Str → Bool} (ne : other ≠ one) (hc : ∀ s t, nbB rs s t = true → ¬ (s = one ∧ t = other) → ¬ (s = other ∧ t = one) → c s = c t) (h : Rch rs one other t) : c t = c other := by
  induction h with
  | base => rfl
  | @step s t h q n ih => rw [← ih]; exact (hc s t q (fun z => h.ne ne z.1) (fun z => n z.2)).symm
/-- the sides of a road: none in both, all in one of them -/
theorem Tree.sides {ss : List Str} {rs : List (Str × Str)} (T : Tree ss rs) {one other : Str} (e : nbB rs one other = true) {t : Str} (ht : t ∈ ss) : Rch rs other one t ↔ ¬ Rch rs one other t := by
  obtain ⟨c, h1, h2⟩ := T.cut.side e
  have ne : one ≠ other := T.cut.irr e
  constructor
  · intro a b
    have c1 := a.col (c := c) ne (fun s t q n1 n2 => h2 s t q n2 n1)
    have c2 := b.col (c := c) ne.symm h2
    exact h1 (c1.symm.trans c2)
  · intro nb
    refine (?_ : Rch rs one other t ∨ Rch rs other one t).resolve_left nb
    have st : ∀ a b, nbB rs a b = true → (Rch rs one other a ∨ Rch rs other one a) → (Rch rs one other b ∨ Rch rs other one b) := by
      intro a b q h
      rcases h with h | h
      · by_cases z : b = one
        · rw [z]; exact .inr .base
        · exact .inl (h.step q z)
      · by_cases z : b = other
        · rw [z]; exact .inl .base
        · exact .inr (h.step q z)
    refine T.all (S := fun u => Rch rs one other u ∨ Rch rs other one u) (fun r hr => ?_) (T.ends.nb e).2 ht (.inl .base)
    have q : nbB rs r.1 r.2 = true := nbB_iff.mpr (.inl hr)
    exact ⟨st _ _ q, st _ _ (by rw [nbB_swap]; exact q)⟩
/-- a way: no house twice -/
inductive Pt (rs : List (Str × Str)) : Str → List Str → Str → Prop
  | one (s : Str) : Pt rs s [s] s
  | cons {s u t : Str} {l : List Str} : nbB rs s u = true → Pt rs u l t → s ∉ l → Pt rs s (s :: l) t
theorem Pt.head {rs : List (Str × Str)} {s t : Str} {l : List Str} (h : Pt rs s l t) : ∃ r, l = s :: r := by
  cases h with
  | one => exact ⟨_, rfl⟩
  | cons _ _ _ => exact ⟨_, rfl⟩
theorem Pt.last {rs : List (Str × Str)} {s t : Str} {l : List Str} (h : Pt rs s l t) : l.getLast? = some t := by
  induction h with
  | one => rfl
  | cons _ h _ ih =>
    obtain ⟨r, rfl⟩ := h.head
    rw [List.getLast?_cons_cons]
    exact ih
theorem Pt.end_mem {rs : List (Str × Str)} {s t : Str} {l : List Str} (h : Pt rs s l t) : t ∈ l := List.mem_of_getLast? h.last
theorem Pt.nd {rs : List (Str × Str)} {s t : Str} {l : List Str} (h : Pt rs s l t) : l.Nodup := by
  induction h with
  | one => simp
  | cons _ _ n ih => exact List.nodup_cons.mpr ⟨n, ih⟩
theorem Pt.mem {ss : List Str} {rs : List (Str × Str)} (he : EndsIn ss rs) {s t : Str} {l : List Str} (h : Pt rs s l t) (ht : t ∈ ss) : ∀ u ∈ l, u ∈ ss := by
  induction h with
  | one => intro u hu; rw [List.mem_singleton.mp hu]; exact ht
  | cons q _ _ ih =>
    intro u hu
    rcases List.mem_cons.mp hu with rfl | hu
    · exact (he.nb q).1
    · exact ih ht u hu
/-- off a house, along a way that does not come through it, the colour stays -/
theorem Pt.col {rs : List (Str × Str)} {s t a b : Str} {l : List Str} {c : Str → Bool} (hc : ∀ s t, nbB rs s t = true → ¬ (s = a ∧ t = b) → ¬ (s = b ∧ t = a) → c s = c t) (h : Pt rs s l t) (n : a ∉ l) : c s = c t := by
  induction h with
  | one => rfl
  | @cons s u t l q h m ih =>
    have hu : u ∈ l := by
      obtain ⟨r, rfl⟩ := h.head
      exact List.mem_cons_self ..
    rw [← ih fun z => n (List.mem_cons_of_mem _ z)]
    exact hc s u q (fun z => n (by rw [z.1]; exact List.mem_cons_self ..)) (fun z => n (by rw [← z.2]; exact List.mem_cons_of_mem _ hu))
/-- there is one way at most -/
theorem Pt.uniq {rs : List (Str × Str)} (hcut : Cut rs) {s t : Str} {l : List Str} (h : Pt rs s l t) : ∀ {l' : List Str}, Pt rs s l' t → l = l' := by
  induction h with
  | one s =>
    intro l' h'
    cases h' with
    | one => rfl
    | cons _ h n => exact absurd h.end_mem n
  | @cons s u t l q h m ih =>
    intro l' h'
    cases h' with
    | one => exact absurd h.end_mem m
    | @cons _ v _ l2 q2 h2 m2 =>
      by_cases e : u = v
      · subst e
        rw [ih h2]
      · obtain ⟨c, c1, c2⟩ := hcut.side q
        have k1 := h.col (a := s) (b := u) c2 m
        have k2 := h2.col (a := s) (b := u) c2 m2
        have ne := hcut.irr q
        have k3 := c2 s v q2 (fun z => e z.2.symm) (fun z => ne z.1)
        exact absurd (k3.trans (k2.trans k1.symm)) c1
theorem Pt.tail {rs : List (Str × Str)} {s t y : Str} {l : List Str} (h : Pt rs s l t) (hy : y ∈ l) : ∃ l', Pt rs y l' t ∧ ∀ u ∈ l', u ∈ l := by
  induction h with
  | one s => rw [List.mem_singleton.mp hy]; exact ⟨_, .one s, fun _ h => h⟩
  | @cons s u t l q h m ih =>
    rcases List.mem_cons.mp hy with rfl | hy
    · exact ⟨_, .cons q h m, fun _ h => h⟩
    · obtain ⟨l', a, b⟩ := ih hy
      exact ⟨l', a, fun u hu => List.mem_cons_of_mem _ (b u hu)⟩
theorem Pt.snoc {rs : List (Str × Str)} {s x y : Str} {l : List Str} (h : Pt rs s l x) (q : nbB rs x y = true) (n : y ∉ l) : Pt rs s (l ++ [y]) y := by
  induction h with
  | one s => exact .cons q (.one y) (fun z => n (by rw [List.mem_singleton.mp z]; exact List.mem_cons_self ..))
  | @cons s u t l q2 h m ih =>
    refine .cons q2 (ih q fun z => n (List.mem_cons_of_mem _ z)) fun z => ?_
    rcases List.mem_append.mp z with z | z
    · exact m z
    · exact n (by rw [← List.mem_singleton.mp z]; exact List.mem_cons_self ..)
theorem Tree.way {ss : List Str} {rs : List (Str × Str)} (T : Tree ss rs) {s t : Str} (hs : s ∈ ss) (ht : t ∈ ss) : ∃ l, Pt rs s l t := by
  have st : ∀ a b, nbB rs a b = true → (∃ l, Pt rs a l t) → ∃ l, Pt rs b l t := by
    rintro a b q ⟨l, h⟩
    by_cases z : b ∈ l
    · obtain ⟨l', h', _⟩ := h.tail z
      exact ⟨l', h'⟩
    · exact ⟨_, .cons (by rw [nbB_swap]; exact q) h z⟩
  refine T.all (S := fun u => ∃ l, Pt rs u l t) (fun r hr => ?_) ht hs ⟨_, .one t⟩
  have q : nbB rs r.1 r.2 = true := nbB_iff.mpr (.inl hr)
  exact ⟨st _ _ q, st _ _ (by rw [nbB_swap]; exact q)⟩
end K1
end
-- NErr
section
set_option Elab.async false
set_option linter.all false
set_option maxRecDepth 100000
set_option maxHeartbeats 4000000
namespace K1
open PySem PySem.Spec PyProof.Rows L2
abbrev sIN : Stmt := inClass (top 7) 0
abbrev sIO : Stmt := inClass (top 8) 0
/-- an error's class, with these fields -/
structure ErF (K : PySem.W.Frag) (mg : Str → Option Value) (x : Str) (C f : Addr) (fs : List Str) : Prop where
  m : mg x = some (.ref C)
  ox : OexC K C
  no : ∀ n ∈ fs, PySem.W.findIn K (.ref C) n = some none
  ini : PySem.W.findIn K (.ref C) "__init__" = some (some (.ref f))
  ty : PySem.W.typeIn K (.ref f) = some (.type "function")
def spEr1 (C : Addr) (n : Str) : Sp := fun vs H Q _ => ∃ (a : Addr) (v : V), vs = [.ref a, v] ∧ H a = some (exo a C none) ∧ ∀ d, H d = none → d ≠ a → Q .non (upd (upd H d (exd d [(n, v)])) a (exo a C (some d)))
def spEr2 (C : Addr) : Sp := fun vs H Q _ => ∃ (a : Addr) (v u : V), vs = [.ref a, v, u] ∧ H a = some (exo a C none) ∧ ∀ d, H d = none → d ≠ a → Q .non (upd (upd (upd H d (exd d [("one", v)])) a (exo a C (some d))) d (exd d [("other", u), ("one", v)]))
theorem scIN : FnScope ["self", "house"] ["self", "house"] (defScope sIN) := ⟨rfl, rfl, rfl, by decide +kernel, rfl, by decide +kernel, by decide +kernel⟩
theorem scIO : FnScope ["self", "one", "other"] ["self", "one", "other"] (defScope sIO) := ⟨rfl, rfl, rfl, by decide +kernel, rfl, by decide +kernel, by decide +kernel⟩
/-- what goes out: a new error of the class, with these fields -/
def GoesF (C : Addr) (fs : List (Str × V)) (H : Hp) (E : XK) : Prop := ∀ (d : Addr) (H' : Hp), Same H H' → H d = none → H' d = some (.xd fs) → E (.ref C) (some d) H'
theorem GoesF.ext {C : Addr} {fs : List (Str × V)} {H H1 : Hp} {E : XK} (g : GoesF C fs H E) (e : Same H H1) : GoesF C fs H1 E := fun d H' e2 n h => g d H' (e.trans e2) (e.free n) h
theorem raise_one {C : Addr} {E : XK} {H0 H : Hp} {n : Str} {v : V} (g : GoesF C [(n, v)] H0 E) (e : Same H0 H) :
    ∀ a, H a = none → spEr1 C n [V.ref a, v] (upd H a (exo a C none)) (fun v H2 => v = .non ∧ ∃ (d : Addr) (fs : List (Str × V)), H2 a = some (exo a C (some d)) ∧ H2 d = some (exd d fs) ∧ H d = none ∧ E (.ref C) (some d) (upd (del H2 a) d (.xd fs))) (fun _ _ _ => False) := by
  intro a ha
  refine ⟨a, v, rfl, upd_same, fun d hd hda => ⟨rfl, d, [(n, v)], upd_same, ?_, ?_, ?_⟩⟩
  · rw [upd_ne hda, upd_same]
  · rw [upd_ne hda] at hd
    exact hd
  · rw [upd_ne hda] at hd
    refine g d _ (fun b o n => ?_) (e.free hd) upd_same
    have n1 := e b o n
    have b1 : b ≠ a := ne_of_none n1 ha
    have b2 : b ≠ d := ne_of_none n1 hd
    rw [upd_ne b2, del_ne b1, upd_ne b1, upd_ne b2, upd_ne b1]
    exact n1
theorem raise_two {C : Addr} {E : XK} {H0 H : Hp} {v u : V} (g : GoesF C [("other", u), ("one", v)] H0 E) (e : Same H0 H) :
    ∀ a, H a = none → spEr2 C [V.ref a, v, u] (upd H a (exo a C none)) (fun v H2 => v = .non ∧ ∃ (d : Addr) (fs : List (Str × V)), H2 a = some (exo a C (some d)) ∧ H2 d = some (exd d fs) ∧ H d = none ∧ E (.ref C) (some d) (upd (del H2 a) d (.xd fs))) (fun _ _ _ => False) := by
  intro a ha
  refine ⟨a, v, u, rfl, upd_same, fun d hd hda => ⟨rfl, d, [("other", u), ("one", v)], ?_, upd_same, ?_, ?_⟩⟩
  · rw [upd_ne hda.symm, upd_same]
  · rw [upd_ne hda] at hd
    exact hd
  · rw [upd_ne hda] at hd
    refine g d _ (fun b o n => ?_) (e.free hd) upd_same
    have n1 := e b o n
    have b1 : b ≠ a := ne_of_none n1 ha
    have b2 : b ≠ d := ne_of_none n1 hd
    rw [upd_ne b2, del_ne b1, upd_ne b2, upd_ne b1, upd_ne b2, upd_ne b1]
    exact n1
section
variable {P : Program} {w : World} {K : PySem.W.Frag} {mg : Str → Option Value} {base : Heap} {CF : Addr}
theorem ok_iN {f C : Addr} {fd : FuncData} (F : Fun K "__init__" "NoHouse.__init__" sIN f fd) (T : FeC K mg CF) (TC : ErF K mg "NoHouse" C f ["house"]) : FnOk P w K mg base CX0 1 f fd ["self", "house"] (spEr1 C "house") := by
  refine F.ok scIN (fun vs H Q E h => ?_) (fun cdv A outer s H vs Q E hr h => ?_)
  · obtain ⟨a, v, rfl, _⟩ := h
    rfl
  obtain ⟨a, v, rfl, ha, q⟩ := h
  refine ⟨_, pss_cons (by exact ps_expr (pe_feinit rfl T (pa_cons (pv 0) (pa_cons pe_str pa_nil)))) (pss_one (by exact ps_ost (pv 0) (pv 1))), ?_⟩
  refine ⟨_, rfl, a, C, [.str _], rfl, (by decide), TC.ox, ha, _, rfl, _, rfl, a, C, rfl, TC.ox, TC.no _ (by simp), .inl ⟨ha, fun d hd n => q d hd n⟩⟩
theorem ok_iO {f C : Addr} {fd : FuncData} (F : Fun K "__init__" "NoRoad.__init__" sIO f fd) (T : FeC K mg CF) (TC : ErF K mg "NoRoad" C f ["one", "other"]) : FnOk P w K mg base CX0 1 f fd ["self", "one", "other"] (spEr2 C) := by
  refine F.ok scIO (fun vs H Q E h => ?_) (fun cdv A outer s H vs Q E hr h => ?_)
  · obtain ⟨a, v, u, rfl, _⟩ := h
    rfl
  obtain ⟨a, v, u, rfl, ha, q⟩ := h
  refine ⟨_, pss_cons (by exact ps_expr (pe_feinit rfl T (pa_cons (pv 0) (pa_cons pe_str pa_nil)))) (pss_cons (by exact ps_ost (pv 0) (pv 1)) (pss_one (by exact ps_ost (pv 0) (pv 2)))), ?_⟩
  refine ⟨_, rfl, a, C, [.str _], rfl, (by decide), TC.ox, ha, _, rfl, _, rfl, a, C, rfl, TC.ox, TC.no _ (by simp), .inl ⟨ha, fun d hd n => ?_⟩⟩
  refine ⟨_, rfl, _, rfl, a, C, rfl, TC.ox, TC.no _ (by simp), .inr ⟨d, [("one", v)], upd_same, by rw [upd_ne n]; exact upd_same, (by show 1 ≤ 900; decide), q d hd n⟩⟩
end
end K1
end
-- NMeth
section
set_option Elab.async false
set_option linter.all false
set_option maxRecDepth 100000
set_option maxHeartbeats 4000000
namespace K1
open PySem PySem.Spec PyProof.Rows L2
abbrev sWa : Stmt := inClass (top 22) 6
abbrev sIs : Stmt := inClass (top 22) 8
abbrev sNe : Stmt := inClass (top 22) 10
abbrev sPl : Stmt := inClass (top 22) 11
abbrev sNr : Stmt := inClass (top 22) 12
/-- a Valley of these houses, roads, heads -/
def IsV (C : Addr) (H : Hp) (x : Addr) (ss : List Str) (rs : List (Str × Str)) (ns : List Int) : Prop := ss.length = ns.length ∧ ∃ l1 l2 l3 d1 d2 d3 qs bs, ValS C H x l1 l2 l3 d1 d2 d3 qs bs ss rs ns
/-- no house -/
def NoHo (K : PySem.W.Frag) (H : Hp) (ss : List Str) (v : V) : Prop := (∃ s, v = .str s ∧ s ∉ ss) ∨ ∃ t, TyX K H v (.type t) ∧ t ∈ kinds ∧ t ≠ "str"
theorem NoHo.ext {K : PySem.W.Frag} {H H' : Hp} {ss : List Str} {v : V} (h : NoHo K H ss v) (e : Same H H') : NoHo K H' ss v := h.imp id fun ⟨t, a, b⟩ => ⟨t, TyX.ext a e, b⟩
def spIs (K : PySem.W.Frag) (C : Addr) : Sp := fun vs H Q _ => ∃ x v ss rs ns, vs = [.ref x, v] ∧ IsV C H x ss rs ns ∧ ((∃ s, v = .str s ∧ s ∈ ss ∧ Q (.bl true) H) ∨ (NoHo K H ss v ∧ Q (.bl false) H))
def spNe (K : PySem.W.Frag) (C CN : Addr) : Sp := fun vs H Q E => ∃ x v ss rs ns, vs = [.ref x, v] ∧ IsV C H x ss rs ns ∧ ((∃ s, v = .str s ∧ s ∈ ss ∧ Q .non H) ∨ (NoHo K H ss v ∧ GoesF CN [("house", v)] H E))
def spPl (K : PySem.W.Frag) (C CN CO : Addr) : Sp := fun vs H Q E => ∃ x v u ss rs ns, vs = [.ref x, v, u] ∧ IsV C H x ss rs ns ∧ ((NoHo K H ss v ∧ GoesF CN [("house", v)] H E) ∨ (∃ s, v = .str s ∧ s ∈ ss ∧ ((NoHo K H ss u ∧ GoesF CN [("house", u)] H E) ∨
  (∃ t, u = .str t ∧ t ∈ ss ∧ ((plOf rs s t = none ∧ GoesF CO [("other", .str t), ("one", .str s)] H E) ∨ (∃ i : Nat, plOf rs s t = some i ∧ ∀ H', Same H H' → Q (.int (i : Nat)) H'))))))
theorem scIs : FnScope ["self", "thing"] ["self", "thing"] (defScope sIs) := ⟨rfl, rfl, rfl, by decide +kernel, rfl, by decide +kernel, by decide +kernel⟩
theorem scNe : FnScope ["self", "house"] ["self", "house"] (defScope sNe) := ⟨rfl, rfl, rfl, by decide +kernel, rfl, by decide +kernel, by decide +kernel⟩
theorem scPl : FnScope ["self", "one", "other"] ["self", "one", "other"] (defScope sPl) := ⟨rfl, rfl, rfl, by decide +kernel, rfl, by decide +kernel, by decide +kernel⟩
section
variable {P : Program} {w : World} {K : PySem.W.Frag} {mg : Str → Option Value} {base : Heap} {CF C CN CO : Addr}
theorem ok_Is {f : Addr} {fd : FuncData} (F : Fun K "is_house" "Valley.is_house" sIs f fd) (B : Bl mg) (T : VcT K C) : FnOk P w K mg base CX0 1 f fd ["self", "thing"] (spIs K C) := by
  refine F.ok scIs (fun vs H Q E h => ?_) (fun cdv A outer s H vs Q E hr h => ?_)
  · obtain ⟨x, v, ss, rs, ns, rfl, _⟩ := h
    rfl
  obtain ⟨x, v, ss, rs, ns, rfl, ⟨ln, l1, l2, l3, d1, d2, d3, qs, bs, vx⟩, h⟩ := h
  have hu := hu_of hr
  obtain ⟨dx, fx, ix, f1, f2, f3, f4, f5, f6, f0⟩ := vx.ins
  refine ⟨_, pss_one (by exact ps_ret (pe_and (pe_callB call_isi rfl B.isi PyProof.Rows.boot_isinstance (pa_cons (pv 1) (pa_cons (pe_bltn (v := .ty "str") rfl B.str PyProof.Rows.boot_str rfl) pa_nil))) (pe_one (pe_cmp (pc_din hu (pv 1) (pe_fld (pv 0) rfl)) (by with_unfolding_all rfl))))), ?_⟩
  have st : ∀ s : Str, v = .str s → Q (.bl (decide (s ∈ ss))) H → _ := fun s e q => (⟨s, e, q⟩ : ∃ s, v = .str s ∧ Q (.bl (decide (s ∈ ss))) H)
  have go : (∃ s, v = .str s ∧ Q (.bl (decide (s ∈ ss))) H) ∨ (∃ t, TyX K H v (.type t) ∧ t ∈ kinds ∧ t ≠ "str" ∧ Q (.bl false) H) := by
    rcases h with ⟨s, rfl, hs, q⟩ | ⟨⟨s, rfl, hs⟩ | ⟨t, ty, kt, nt⟩, q⟩
    · exact .inl ⟨s, rfl, by rw [decide_eq_true hs]; exact q⟩
    · exact .inl ⟨s, rfl, by rw [decide_eq_false hs]; exact q⟩
    · exact .inr ⟨t, ty, kt, nt, q⟩
  rcases go with ⟨s, rfl, q⟩ | ⟨t, ty, kt, nt, q⟩
  · refine ⟨_, rfl, .str s, _, _, _, _, rfl, .ty "str", .base (.str s), kit_str (t := "str") (by decide), _, rfl, ?_⟩
    refine iteT ⟨_, rfl, _, rfl, x, C, dx, fx, _, rfl, ix, T.cl, T.n4, f4, d1, _, rfl, DGet.k (k := .inr s) vx.p1, ?_⟩
    rw [peo_in ln]
    exact q
  · refine ⟨_, rfl, v, _, _, _, _, rfl, .ty "str", ty, kit_str kt, _, rfl, ?_⟩
    rw [decide_eq_false nt]
    exact iteF q
theorem ok_Ne {f fI fE : Addr} {fd id' ed : FuncData} (F : Fun K "need_house" "Valley.need_house" sNe f fd) (B : Bl mg) (T : VcT K C)
    (FI : Fun K "is_house" "Valley.is_house" sIs fI id') (hI : Meth K C "is_house" fI) (bI : Binds K id' ["self", "thing"] [])
    (TF : FeC K mg CF) (TC : ErF K mg "NoHouse" CN fE ["house"]) (FE : Fun K "__init__" "NoHouse.__init__" sIN fE ed) (bE : Binds K ed ["self", "house"] []) :
    FnOk P w K mg base (L2.CX P w) 3 f fd ["self", "house"] (spNe K C CN) := by
  have GI := ok_Is (P := P) (w := w) (base := base) FI B T
  have GE := ok_iN (P := P) (w := w) (base := base) FE TF TC
  refine F.okX scNe (fun vs H Q E h => ?_) (fun cdv A outer s H vs Q E hr h => ?_)
  · obtain ⟨x, v, ss, rs, ns, rfl, _⟩ := h
    rfl
  obtain ⟨x, v, ss, rs, ns, rfl, vx, h⟩ := h
  have hr1 : Room 1 _ := hr.mono (by decide)
  have hr2 : Room 2 _ := hr.mono (by decide)
  refine ⟨_, pss_one (by exact (ps_if (pt_not (pt_val (pe_meth (pv 0) T.cl hI GI hr1 bI .nil pass0 (pa_cons (pv 1) pa_nil))))
    (pss_one (by exact (ps_raise rfl (takes_of rfl rfl rfl rfl) (pmk_oex TC.ox TC.ini TC.ty GE hr2 bE .nil pass0 rfl TC.m (pa_cons (pv 1) pa_nil))))) pss_nil)), ?_⟩
  obtain ⟨dx, fx, ix, _, _, _, _, _, _, f0⟩ := vx.2.choose_spec.choose_spec.choose_spec.choose_spec.choose_spec.choose_spec.choose_spec.choose_spec.ins
  refine ⟨_, rfl, x, dx, fx, rfl, ix, f0 _ (by decide +kernel) (by decide +kernel) (by decide +kernel) (by decide +kernel) (by decide +kernel) (by decide +kernel), _, rfl, x, v, ss, rs, ns, rfl, vx, ?_⟩
  rcases h with ⟨s, rfl, hs, q⟩ | ⟨n, g⟩
  · exact .inl ⟨s, rfl, hs, _, rfl, iteF q⟩
  · exact .inr ⟨n, _, rfl, iteT ⟨_, rfl, (by show 1 ≤ 1000; decide), raise_one g (Same.refl _)⟩⟩
theorem ok_Pl {f fN fE : Addr} {fd nd_ ed : FuncData} (F : Fun K "place" "Valley.place" sPl f fd) (B : Bl mg) (T : VcT K C)
    (GN : FnOk P w K mg base (L2.CX P w) 3 fN nd_ ["self", "house"] (spNe K C CN)) (hN : Meth K C "need_house" fN) (bN : Binds K nd_ ["self", "house"] [])
    (TF : FeC K mg CF) (TC : ErF K mg "NoRoad" CO fE ["one", "other"]) (FE : Fun K "__init__" "NoRoad.__init__" sIO fE ed) (bE : Binds K ed ["self", "one", "other"] []) :
    FnOk P w K mg base (L2.CX P w) 4 f fd ["self", "one", "other"] (spPl K C CN CO) := by
  have GE := ok_iO (P := P) (w := w) (base := base) FE TF TC
  refine F.okX scPl (fun vs H Q E h => ?_) (fun cdv A outer s H vs Q E hr h => ?_)
  · obtain ⟨x, v, u, ss, rs, ns, rfl, _⟩ := h
    rfl
  obtain ⟨x, v, u, ss, rs, ns, rfl, iv, h⟩ := h
  obtain ⟨ln, l1, l2, l3, d1, d2, d3, qs, bs, vx⟩ := id iv
  obtain ⟨dx, fx, ix, f1, f2, f3, f4, f5, f6, f0⟩ := vx.ins
  have hu := hu_of hr
  have hr3 : Room 3 _ := hr.mono (by decide)
  have hr2 : Room 2 _ := hr.mono (by decide)
  have nN : fx.lookup ("need_house" : Str) = none := f0 _ (by decide +kernel) (by decide +kernel) (by decide +kernel) (by decide +kernel) (by decide +kernel) (by decide +kernel)
  refine ⟨_, pss_cons (by exact (ps_expr (pe_meth (pv 0) T.cl hN GN hr3 bN .nil (passes_call (takes_of rfl rfl rfl rfl) (fun _ _ _ _ h => h)) (pa_cons (pv 1) pa_nil))))
    (pss_cons (by exact (ps_expr (pe_meth (pv 0) T.cl hN GN hr3 bN .nil (passes_call (takes_of rfl rfl rfl rfl) (fun _ _ _ _ h => h)) (pa_cons (pv 2) pa_nil))))
    (pss_cons (by exact (ps_if (pt_cmp (pc_dnotin hu (pe_tup (pa_cons (pv 1) (pa_cons (pv 2) pa_nil))) (pe_fld (pv 0) rfl)) (by with_unfolding_all rfl))
      (pss_one (by exact (ps_raise rfl (takes_of rfl rfl rfl rfl) (pmk_oex TC.ox TC.ini TC.ty GE hr2 bE .nil pass0 rfl TC.m (pa_cons (pv 1) (pa_cons (pv 2) pa_nil)))))) pss_nil))
    (pss_one (by exact (ps_ret (pe_dget hu (pe_fld (pv 0) rfl) (pe_tup (pa_cons (pv 1) (pa_cons (pv 2) pa_nil))) (fun _ _ => rfl))))))), ?_⟩
  refine ⟨_, rfl, x, dx, fx, rfl, ix, nN, _, rfl, x, v, ss, rs, ns, rfl, iv, ?_⟩
  rcases h with ⟨n, g⟩ | ⟨s, rfl, hs, h⟩
  · exact .inr ⟨n, g⟩
  refine .inl ⟨s, rfl, hs, _, rfl, x, dx, fx, rfl, ix, nN, _, rfl, x, u, ss, rs, ns, rfl, iv, ?_⟩
  rcases h with ⟨n, g⟩ | ⟨t, rfl, ht, h⟩
  · exact .inr ⟨n, g⟩
  obtain ⟨kv, k1, k2, k3⟩ := vx.p2
  refine .inl ⟨t, rfl, ht, _, rfl, _, rfl, (by show 2 ≤ sizeLine; decide), fun b hb => ?_⟩
  have eb := K1.Same.upd (H := H) (p := b) (o := .tup [.str s, .str t]) hb
  refine ⟨_, rfl, x, C, dx, fx, _, rfl, eb _ _ ix, T.cl, T.n5, f5, d2, _, rfl, DGet.t (k := [.inr s, .inr t]) (eb _ _ k1) upd_same, ?_⟩
  rw [k2 s t]
  rcases h with ⟨n, g⟩ | ⟨i, n, q⟩
  · rw [n]
    exact ⟨_, rfl, iteT ⟨_, rfl, _, rfl, (by show 2 ≤ 1000; decide), raise_two g eb⟩⟩
  · rw [n]
    refine ⟨_, rfl, iteF ⟨_, rfl, x, C, dx, fx, _, rfl, eb _ _ ix, T.cl, T.n5, f5, _, rfl, _, rfl, (by show 2 ≤ sizeLine; decide), fun b2 hb2 => ?_⟩⟩
    have eb2 := K1.Same.upd (H := upd H b (.tup [.str s, .str t])) (p := b2) (o := .tup [.str s, .str t]) hb2
    have dg := DGet.t (k := [.inr s, .inr t]) (eb2 _ _ (eb _ _ k1)) upd_same
    rw [k2 s t, n] at dg
    exact ⟨d2, _, rfl, dg, q _ (eb.trans eb2)⟩
end
end K1
end
-- NNear
section
set_option Elab.async false
set_option linter.all false
set_option maxRecDepth 100000
set_option maxHeartbeats 4000000
namespace K1
open PySem PySem.Spec PyProof.Rows L2
theorem nodup_len {α : Type} [DecidableEq α] : ∀ {xs ys : List α}, xs.Nodup → (∀ x ∈ xs, x ∈ ys) → xs.length ≤ ys.length
  | [], _, _, _ => Nat.zero_le _
  | x :: xs, ys, n, h => by
    rw [List.nodup_cons] at n
    have hx := h x (List.mem_cons_self ..)
    have ih := nodup_len (ys := ys.erase x) n.2 fun y hy => (List.mem_erase_of_ne (fun z => n.1 (by rw [← z]; exact hy))).mpr (h y (List.mem_cons_of_mem _ hy))
    rw [List.length_erase_of_mem hx] at ih
    have := List.length_pos_of_mem hx
    rw [List.length_cons]
    omega
/-- while, with a measure that stands in the invariant -/
theorem while_gh {c : TT} {tb : TS} {D : Ends} {σ : L2.St} {H : Hp} (Pv : Nat → L2.St → Hp → Prop) (m0 : Nat) (h0 : Pv m0 σ H)
    (hs : ∀ m σ H, Pv m σ H → c σ H fun b H1 => if b = true then tb { D with nx := fun σ' H' => ∃ m', m' < m ∧ Pv m' σ' H', ct := fun σ' H' => ∃ m', m' < m ∧ Pv m' σ' H', bk := D.nx } σ H1 else D.nx σ H1)
    (mono : ∀ σ H Q Q', (∀ b H1, Q b H1 → Q' b H1) → c σ H Q → c σ H Q') : tWhile c tb D σ H := by
  refine ⟨Pv, ⟨m0, h0⟩, fun m σ H p => mono σ H _ _ (fun b H1 q => ?_) (hs m σ H p)⟩
  cases b with
  | true => exact ⟨_, fun σ' H' z => z, q⟩
  | false => exact q
/-- a search outward from a house: those gone through, those that wait, and the next house towards the start -/
structure SeaN (ss : List Str) (rs : List (Str × Str)) (o : Str) (done wt : List Str) (kvs : List (Key × V)) : Prop where
  nd : (done ++ wt).Nodup
  ins : ∀ s ∈ done ++ wt, s ∈ ss
  keys : ∀ s, (valV kvs (.inr s)).isSome = decide (s ∈ done ++ wt)
  len : kvs.length ≤ (done ++ wt).length
  st : o ∈ done ++ wt
  path : ∀ s ∈ done ++ wt, ∃ l, Pt rs s l o ∧ (∀ z ∈ l, z ∈ done ++ wt) ∧ (s ≠ o → ∃ u r, l = s :: u :: r ∧ valV kvs (.inr s) = some (.str u))
  z0 : valV kvs (.inr o) = some .non
def Clo (rs : List (Str × Str)) (all : List Str) (s : Str) : Prop := ∀ t, nbB rs s t = true → t ∈ all
theorem SeaN.le {ss : List Str} {rs : List (Str × Str)} {o : Str} {done wt : List Str} {kvs : List (Key × V)} (S : SeaN ss rs o done wt kvs) : (done ++ wt).length ≤ ss.length := nodup_len S.nd S.ins
theorem SeaN.init {ss : List Str} {rs : List (Str × Str)} {o : Str} (ho : o ∈ ss) : SeaN ss rs o [] [o] [(.inr o, .non)] := by
  refine ⟨by simp, fun s hs => by rw [List.mem_singleton.mp hs]; exact ho, fun s => ?_, Nat.le_refl _, by simp, fun s hs => ?_, ?_⟩
  · by_cases e : s = o
    · subst e
      rw [valV_pos (p := (Sum.inr s, V.non)) rfl]
      simp
    · rw [valV_neg (p := (Sum.inr o, V.non)) (fun z => e (Sum.inr.inj z).symm)]
      simp [e, valV_nil]
  · have e := List.mem_singleton.mp hs
    subst e
    exact ⟨_, .one s, fun z hz => hz, fun n => absurd rfl n⟩
  · exact valV_pos (p := (Sum.inr o, V.non)) rfl
/-- the last one that waits is taken up -/
theorem SeaN.take {ss : List Str} {rs : List (Str × Str)} {o : Str} {done wt : List Str} {h : Str} {kvs : List (Key × V)} (S : SeaN ss rs o done (wt ++ [h]) kvs) : SeaN ss rs o (done ++ [h]) wt kvs := by
  have p : (done ++ (wt ++ [h])).Perm (done ++ [h] ++ wt) := by
    rw [List.append_assoc]
    exact List.Perm.append_left _ List.perm_append_comm
  have m : ∀ z, z ∈ done ++ (wt ++ [h]) ↔ z ∈ done ++ [h] ++ wt := fun z => p.mem_iff
  refine ⟨p.nodup_iff.mp S.nd, fun s hs => S.ins s ((m s).mpr hs), fun s => ?_, by rw [← p.length_eq]; exact S.len, (m o).mp S.st, fun s hs => ?_, S.z0⟩
  · rw [S.keys s]
    exact decide_eq_decide.mpr (m s)
  · obtain ⟨l, a, b, c⟩ := S.path s ((m s).mpr hs)
    exact ⟨l, a, fun z hz => (m z).mp (b z hz), c⟩
/-- a house is found from one that was taken up -/
theorem SeaN.add {ss : List Str} {rs : List (Str × Str)} {o : Str} {done wt : List Str} {h f : Str} {kvs : List (Key × V)} (S : SeaN ss rs o done wt kvs) (hh : h ∈ done ++ wt) (he : EndsIn ss rs) (q : nbB rs h f = true) (n : f ∉ done ++ wt) :
    SeaN ss rs o done (wt ++ [f]) (putK kvs (.inr f) (.str h)) := by
  have m : ∀ z, z ∈ done ++ (wt ++ [f]) ↔ z ∈ done ++ wt ∨ z = f := fun z => by
    rw [← List.append_assoc, List.mem_append, List.mem_singleton]
  have vn : valV kvs (.inr f) = none := by
    have := S.keys f
    rw [decide_eq_false n] at this
    cases e : valV kvs (.inr f) with
    | none => rfl
    | some v => rw [e] at this; cases this
  refine ⟨?_, fun s hs => ?_, fun s => ?_, ?_, (m o).mpr (.inl S.st), fun s hs => ?_, by rw [valV_put, if_neg fun z => n (by rw [← Sum.inr.inj z]; exact S.st)]; exact S.z0⟩
  · rw [← List.append_assoc, List.nodup_append]
    exact ⟨S.nd, by simp, fun x hx y hy => by rw [List.mem_singleton.mp hy]; intro z; exact n (by rw [← z]; exact hx)⟩
  · rcases (m s).mp hs with hs | rfl
    · exact S.ins s hs
    · exact (he.nb q).2
  · rw [valV_put]
    by_cases e : s = f
    · subst e
      rw [if_pos rfl, decide_eq_true ((m s).mpr (.inr rfl))]
      rfl
    · rw [if_neg fun z => e (Sum.inr.inj z), S.keys s]
      exact decide_eq_decide.mpr ⟨fun h => (m s).mpr (.inl h), fun h => ((m s).mp h).resolve_right e⟩
  · rw [putK_new _ vn, List.length_append, ← List.append_assoc, List.length_append]
    have := S.len
    simp only [List.length_singleton]
    omega
  · rcases (m s).mp hs with hs | rfl
    · obtain ⟨l, a, b, c⟩ := S.path s hs
      refine ⟨l, a, fun z hz => (m z).mpr (.inl (b z hz)), fun ne => ?_⟩
      obtain ⟨u, r, e1, e2⟩ := c ne
      exact ⟨u, r, e1, by rw [valV_put, if_neg fun z => n (by rw [← Sum.inr.inj z]; exact hs)]; exact e2⟩
    · obtain ⟨l, a, b, c⟩ := S.path h hh
      have nl : s ∉ l := fun z => n (b s z)
      obtain ⟨r, rfl⟩ := a.head
      refine ⟨s :: h :: r, .cons (by rw [nbB_swap]; exact q) a nl, fun z hz => ?_, fun _ => ⟨h, r, rfl, by rw [valV_put, if_pos rfl]⟩⟩
      rcases List.mem_cons.mp hz with rfl | hz
      · exact (m z).mpr (.inr rfl)
      · exact (m z).mpr (.inl (b z hz))
def spNr (C : Addr) : Sp := fun vs H Q _ => ∃ x o ss rs ns, vs = [.ref x, .str o] ∧ IsV C H x ss rs ns ∧ Tree ss rs ∧ ss.length ≤ 1000 ∧ o ∈ ss ∧
  ∀ r kvs H', Same H H' → H r = none → H' r = some (.dK kvs) → (∀ s ∈ ss, s ≠ o → ∃ u l, valV kvs (.inr s) = some (.str u) ∧ Pt rs s (s :: u :: l) o) → valV kvs (.inr o) = some .non → Q (.ref r) H'
theorem scNr : FnScope ["self", "start", "found", "waiting", "house", "far"] ["self", "start"] (defScope sNr) := ⟨rfl, rfl, rfl, by decide +kernel, rfl, by decide +kernel, by decide +kernel⟩
section
variable {P : Program} {w : World} {K : PySem.W.Frag} {mg : Str → Option Value} {base : Heap} {CF C CN CO : Addr}
theorem ok_Nr {f : Addr} {fd : FuncData} (F : Fun K "nearer" "Valley.nearer" sNr f fd) (T : VcT K C) : FnOk P w K mg base CX0 1 f fd ["self", "start"] (spNr C) := by
  refine F.ok scNr (fun vs H Q E h => ?_) (fun cdv A outer s H vs Q E hr h => ?_)
  · obtain ⟨x, o, ss, rs, ns, rfl, _⟩ := h
    rfl
  obtain ⟨x, o, ss, rs, ns, rfl, ⟨ln, l1, l2, l3, d1, d2, d3, qs, bs, vx⟩, tr, hl, ho, q⟩ := h
  have nd := scNr.nd
  have hu := hu_of hr
  obtain ⟨dx, fx, ix, f1, f2, f3, f4, f5, f6, f0⟩ := vx.ins
  refine ⟨_, (pss_cons (by exact (ps_set (i := 2) nd rfl (.inl rfl) (pe_disp (pps_cons (pv 1) pe_non pps_nil) (by rfl) (by rfl) (fun z => by cases z) (by decide))))
  (pss_cons (by exact (ps_set (i := 3) nd rfl (.inl rfl) (pe_lst (pa_cons (pv 1) pa_nil))))
  (pss_cons (by exact (ps_while PassesOwn.never (pt_truth (pv 3) (fun _ => rfl)) (pss_cons (by exact (ps_set (i := 4) nd rfl (.inl rfl) (pe_bm0 PySem.F.plainAttrs_list PySem.F.slot_list_pop PySem.F.type_list_pop mt_pop (pv 3))))
  (pss_one (by exact (ps_for PassesOwn.never rfl (by exact pi_list (pe_dget hu (pe_fld (pv 0) rfl) (pv 4) (fun _ _ => rfl))) (pg_name (i := 5) nd rfl (.inl rfl)) (pss_one (by exact (ps_if (pt_cmp (pc_dnotin hu (pv 5) (pv 2)) (by with_unfolding_all rfl)) (pss_cons (by exact (ps_dput hu (pv 2) (pv 5) (pv 4) rfl))
  (pss_one (by exact (ps_expr (pe_bm PySem.F.plainAttrs_list PySem.F.slot_list_append PySem.F.type_list_append mt_append (pv 3) (pa_cons (pv 5) pa_nil)))))) pss_nil)))))))))
  (pss_one (by exact (ps_ret (pv 2))))))), ?_⟩
  intro D hD
  refine ⟨_, rfl, upd_same, [(.inr o, .non)], rfl, (by show 1 ≤ 15; decide), ?_⟩
  have eD : Same H (upd (upd H D (.dK [])) D (.dK (mergeK [] [(Sum.inr o, V.non)]))) := fun b u n => by
    rw [upd_ne (ne_of_none n hD), upd_ne (ne_of_none n hD)]
    exact n
  have gD : upd (upd H D (.dK [])) D (.dK (mergeK [] [(Sum.inr o, V.non)])) D = some (.dK [(.inr o, .non)]) := upd_same
  generalize upd (upd H D (.dK [])) D (.dK (mergeK [] [(Sum.inr o, V.non)])) = H1 at eD gD ⊢
  refine ⟨_, rfl, (by show 1 ≤ sizeLine; decide), fun W hW => ?_⟩
  have WD : W ≠ D := fun z => by rw [z, gD] at hW; cases hW
  have hW0 : H W = none := eD.free hW
  refine gN ?_
  with_reducible refine sQ ?_

  refine while_gh (fun m σ Hc => (∃ a b, σ = [some (.ref x), some (.str o), some (.ref D), some (.ref W), a, b]) ∧ Same H Hc ∧ ∃ done wt kvs, Hc D = some (.dK kvs) ∧ Hc W = some (.lst (wt.map V.str)) ∧ SeaN ss rs o done wt kvs ∧ (∀ s ∈ done, Clo rs (done ++ wt) s) ∧ m = ss.length - done.length) ss.length
    ⟨⟨_, _, rfl⟩, fun b u n => by rw [upd_ne (ne_of_none n hW0)]; exact eD b u n, [], [o], _, by rw [upd_ne WD.symm]; exact gD, upd_same, SeaN.init ho, fun s hs => absurd hs (by simp), by simp⟩ ?_ ?_
  · rintro m σ Hc ⟨⟨ya, yb, rfl⟩, e1, done, wt, kvs, g1, g2, S, C1, rfl⟩
    refine ⟨_, rfl, _, .inl ⟨_, SqL.of g2, rfl⟩, ?_⟩
    rcases List.eq_nil_or_concat wt with rfl | ⟨wt, h, rfl⟩
    · refine iteF ⟨_, rfl, q D kvs Hc e1 hD g1 (fun s hs ne => ?_) S.z0⟩
      rw [List.append_nil] at C1
      have hin : ∀ t ∈ ss, t ∈ done := fun t ht => by
        refine tr.all (S := fun u => u ∈ done) (fun e he => ?_) ho ht (by have := S.st; rw [List.append_nil] at this; exact this)
        have q1 : nbB rs e.1 e.2 = true := nbB_iff.mpr (.inl he)
        exact ⟨fun h => C1 _ h _ q1, fun h => C1 _ h _ (by rw [nbB_swap]; exact q1)⟩
      obtain ⟨l, a, _, c⟩ := S.path s (by rw [List.append_nil]; exact hin s hs)
      obtain ⟨u, r, rfl, c2⟩ := c ne
      exact ⟨u, r, c2, a⟩
    · rw [List.concat_eq_append] at g2 S C1 ⊢
      have ne : (!((wt ++ [h]).map V.str).isEmpty) = true := by cases wt <;> rfl
      rw [ne]
      refine iteT ?_
      have lt1 : done.length < ss.length := by
        have := S.le
        rw [List.length_append, List.length_append] at this
        simp only [List.length_singleton] at this
        omega
      have hlast : ((wt ++ [h]).map V.str)[((wt ++ [h]).map V.str).length - 1]? = some (.str h) := by
        rw [List.map_append]
        simp
      refine ⟨_, rfl, .inl ⟨rfl, _, SqL.of g2⟩, W, _, .str h, rfl, rfl, g2, hlast, ?_⟩
      have dl : ((wt ++ [h]).map V.str).dropLast = wt.map V.str := by rw [List.map_append]; exact List.dropLast_concat
      rw [dl]
      have S1 := S.take
      have e2 : Same H (upd Hc W (.lst (wt.map V.str))) := fun b u n => by rw [upd_ne (ne_of_none n hW0)]; exact e1 b u n
      have gD2 : upd Hc W (.lst (wt.map V.str)) D = some (.dK kvs) := by rw [upd_ne WD.symm]; exact g1
      have gW2 : upd Hc W (.lst (wt.map V.str)) W = some (.lst (wt.map V.str)) := upd_same
      generalize upd Hc W (.lst (wt.map V.str)) = Hd at e2 gD2 gW2 ⊢
      have hss : h ∈ ss := S1.ins h (by simp)
      obtain ⟨kv3, k1, k2, k3⟩ := vx.p3
      have dg := DGet.k (k := .inr h) (e2 _ _ k1)
      rw [k3 h hss] at dg
      refine gN ?_
      refine ⟨_, rfl, x, C, dx, fx, _, rfl, e2 _ _ ix, T.cl, T.n6, f6, _, rfl, d3, _, rfl, dg, bs h, rfl, ⟨_, SqL.of (e2 _ _ (vx.nb h hss))⟩, ?_⟩
      refine for_it walk_list (fun i σ Hd => (∃ b, σ = [some (.ref x), some (.str o), some (.ref D), some (.ref W), some (.str h), b]) ∧ Same H Hd ∧ ∃ wt' kvs', Hd D = some (.dK kvs') ∧ Hd W = some (.lst (wt'.map V.str)) ∧ SeaN ss rs o (done ++ [h]) wt' kvs' ∧ (∀ s ∈ done, Clo rs (done ++ [h] ++ wt') s) ∧ ∀ t ∈ (nbs ss rs h).take i, t ∈ done ++ [h] ++ wt')
        ⟨⟨_, rfl⟩, e2, wt, kvs, gD2, gW2, S1, fun s hs t ht => ?_, fun t ht => absurd ht (by simp)⟩ (fun i σ Hd _ hh => SqL.of (hh.2.1 _ _ (vx.nb h hss))) ?_ ?_
      · have := C1 s hs t ht
        simp only [List.mem_append, List.mem_singleton] at this ⊢
        rcases this with a | a | a
        · exact .inl (.inl a)
        · exact .inr a
        · exact .inl (.inr a)
      · rintro i y σ Hd' H' hi ⟨⟨b, rfl⟩, e3, wt', kvs', gD3, gW3, S3, C3, N3⟩ ⟨rfl, hy⟩
        rw [List.length_map] at hi
        rw [List.getElem?_map, List.getElem?_eq_getElem hi] at hy
        obtain rfl := Option.some.inj hy
        have hf : (nbs ss rs h)[i] ∈ nbs ss rs h := List.getElem_mem hi
        have nf := (mem_nbs tr.ends).mp hf
        have lk : (done ++ [h] ++ wt').length ≤ 1000 := Nat.le_trans S3.le hl
        refine ⟨_, rfl, _, rfl, D, _, rfl, DGet.k (k := .inr (nbs ss rs h)[i]) gD3, _, rfl, ?_⟩
        rw [S3.keys]
        refine ite2 (fun c => ?_) (fun c => ?_)
        · have c2 : (nbs ss rs h)[i] ∉ done ++ [h] ++ wt' := fun z => by rw [decide_eq_true z] at c; cases c
          refine ⟨_, rfl, _, rfl, _, rfl, D, _, rfl, DPut.k (k := .inr (nbs ss rs h)[i]) gD3 (Nat.lt_of_le_of_lt S3.len (small1000 lk)), ?_⟩
          have gW4 : upd H' D (.dK (putK kvs' (.inr (nbs ss rs h)[i]) (.str h))) W = some (.lst (wt'.map V.str)) := by rw [upd_ne WD]; exact gW3
          have lw : wt'.length ≤ 1000 := by rw [List.length_append] at lk; omega
          refine ⟨_, rfl, .inl ⟨rfl, _, SqL.of gW4⟩, _, rfl, W, _, _, rfl, rfl, gW4, by rw [List.length_map]; exact small1000 lw, ?_⟩
          refine ⟨⟨_, rfl⟩, fun b u n => ?_, wt' ++ [(nbs ss rs h)[i]], _, by rw [upd_ne WD.symm]; exact upd_same, by rw [upd_same, List.map_append]; rfl, S3.add (by simp) tr.ends nf c2, fun s hs t ht => ?_, fun t ht => ?_⟩
          · rw [upd_ne (ne_of_none n hW0), upd_ne (ne_of_none n hD)]
            exact e3 b u n
          · rw [← List.append_assoc]
            exact List.mem_append_left _ (C3 s hs t ht)
          · rw [← List.append_assoc]
            rcases (mem_take_succ hi).mp ht with ht | rfl
            · exact List.mem_append_left _ (N3 t ht)
            · exact List.mem_append_right _ (by simp)
        · have c2 : (nbs ss rs h)[i] ∈ done ++ [h] ++ wt' := by
            by_cases z : (nbs ss rs h)[i] ∈ done ++ [h] ++ wt'
            · exact z
            · rw [decide_eq_false z] at c
              exact absurd rfl c
          refine ⟨⟨_, rfl⟩, e3, wt', kvs', gD3, gW3, S3, C3, fun t ht => ?_⟩
          rcases (mem_take_succ hi).mp ht with ht | rfl
          · exact N3 t ht
          · exact c2
      · rintro σ Hd' ⟨⟨b, rfl⟩, e3, wt', kvs', gD3, gW3, S3, C3, N3⟩
        rw [List.length_map, List.take_length] at N3
        refine ⟨ss.length - (done ++ [h]).length, by rw [List.length_append, List.length_singleton]; omega, ⟨_, _, rfl⟩, e3, done ++ [h], wt', kvs', gD3, gW3, S3, fun s hs => ?_, rfl⟩
        rcases List.mem_append.mp hs with hs | hs
        · exact C3 s hs
        · rw [List.mem_singleton.mp hs]
          exact fun t ht => N3 t ((mem_nbs tr.ends).mpr ht)
  · rintro σ Hc Q1 Q2 hq ⟨v, hv, k, tk, z⟩
    exact ⟨v, hv, k, tk, hq _ _ z⟩
end
end K1
end
-- NWay
section
set_option Elab.async false
set_option linter.all false
set_option maxRecDepth 100000
set_option maxHeartbeats 4000000
namespace K1
open PySem PySem.Spec PyProof.Rows L2
/-- two houses, or which of them is none -/
def spWa (K : PySem.W.Frag) (C CN : Addr) : Sp := fun vs H Q E => ∃ x v u ss rs ns, vs = [.ref x, v, u] ∧ IsV C H x ss rs ns ∧ Tree ss rs ∧ ss.length ≤ 1000 ∧ ((NoHo K H ss v ∧ GoesF CN [("house", v)] H E) ∨ (∃ s, v = .str s ∧ s ∈ ss ∧ ((NoHo K H ss u ∧ GoesF CN [("house", u)] H E) ∨
  (∃ t, u = .str t ∧ t ∈ ss ∧ ∀ r l H', Same H H' → H r = none → Pt rs s l t → H' r = some (.lst (l.map V.str)) → Q (.ref r) H'))))
theorem scWa : FnScope ["self", "one", "other", "nearer", "through"] ["self", "one", "other"] (defScope sWa) := ⟨rfl, rfl, rfl, by decide +kernel, rfl, by decide +kernel, by decide +kernel⟩
theorem Pt.tl {rs : List (Str × Str)} {s t u : Str} {l : List Str} (h : Pt rs s (s :: u :: l) t) : Pt rs u (u :: l) t := by
  cases h with
  | cons q h n =>
    obtain ⟨r, e⟩ := h.head
    injection e with e1 e2
    subst e1
    exact h
theorem Pt.here {rs : List (Str × Str)} (hc : Cut rs) {s : Str} {r : List Str} (h : Pt rs s (s :: r) s) : r = [] := by
  have := h.uniq hc (.one s)
  injection this with _ e
theorem same_upd {H Hc : Hp} {L : Addr} {o : HO} (e : Same H Hc) (n : H L = none) : Same H (L2.upd Hc L o) := fun b u h => by
  rw [upd_ne (ne_of_none h n)]
  exact e b u h
section
variable {P : Program} {w : World} {K : PySem.W.Frag} {mg : Str → Option Value} {base : Heap} {CF C CN CO : Addr}
theorem ok_Wa {f fN fR : Addr} {fd nd_ rd_ : FuncData} (F : Fun K "way" "Valley.way" sWa f fd) (T : VcT K C)
    (GN : FnOk P w K mg base (L2.CX P w) 3 fN nd_ ["self", "house"] (spNe K C CN)) (hN : Meth K C "need_house" fN) (bN : Binds K nd_ ["self", "house"] [])
    (GR : FnOk P w K mg base CX0 1 fR rd_ ["self", "start"] (spNr C)) (hR : Meth K C "nearer" fR) (bR : Binds K rd_ ["self", "start"] []) :
    FnOk P w K mg base (L2.CX P w) 4 f fd ["self", "one", "other"] (spWa K C CN) := by
  refine F.okX scWa (fun vs H Q E h => ?_) (fun cdv A outer s H vs Q E hr h => ?_)
  · obtain ⟨x, v, u, ss, rs, ns, rfl, _⟩ := h
    rfl
  obtain ⟨x, v, u, ss, rs, ns, rfl, iv, tr, hl, h⟩ := h
  obtain ⟨ln, l1, l2, l3, d1, d2, d3, qs, bs, vx⟩ := id iv
  obtain ⟨dx, fx, ix, f1, f2, f3, f4, f5, f6, f0⟩ := vx.ins
  have nd := scWa.nd
  have hu := hu_of hr
  have hr3 : Room 3 _ := hr.mono (by decide)
  have hr1 : Room 1 _ := hr.mono (by decide)
  have nN : fx.lookup ("need_house" : Str) = none := f0 _ (by decide +kernel) (by decide +kernel) (by decide +kernel) (by decide +kernel) (by decide +kernel) (by decide +kernel)
  have nR : fx.lookup ("nearer" : Str) = none := f0 _ (by decide +kernel) (by decide +kernel) (by decide +kernel) (by decide +kernel) (by decide +kernel) (by decide +kernel)
  refine ⟨_, (pss_cons (by exact (ps_expr (pe_meth (pv 0) T.cl hN GN hr3 bN .nil (passes_call (takes_of rfl rfl rfl rfl) (fun _ _ _ _ h => h)) (pa_cons (pv 1) pa_nil))))
  (pss_cons (by exact (ps_expr (pe_meth (pv 0) T.cl hN GN hr3 bN .nil (passes_call (takes_of rfl rfl rfl rfl) (fun _ _ _ _ h => h)) (pa_cons (pv 2) pa_nil))))
  (pss_cons (by exact (ps_set (i := 3) nd rfl (.inl rfl) (pe_meth (pv 0) T.cl hR GR hr1 bR .nil pass0 (pa_cons (pv 2) pa_nil))))
  (pss_cons (by exact (ps_set (i := 4) nd rfl (.inl rfl) (pe_lst (pa_cons (pv 1) pa_nil))))
  (pss_cons (by exact (ps_while (passes_of rfl) (pt_cmpR op_ne (pe_ix ix_list (pv 4) (pe_un un_neg pe_int) (fun _ _ => rfl)) (pv 2) (nomark _)) (pss_one (by exact (ps_expr (pe_bm PySem.F.plainAttrs_list PySem.F.slot_list_append PySem.F.type_list_append mt_append (pv 4) (pa_cons (pe_dget hu (pv 3) (pe_ix ix_list (pv 4) (pe_un un_neg pe_int) (fun _ _ => rfl)) (fun _ _ => rfl)) pa_nil)))))))
  (pss_one (by exact (ps_ret (pv 4))))))))), ?_⟩
  refine ⟨_, rfl, x, dx, fx, rfl, ix, nN, _, rfl, x, v, ss, rs, ns, rfl, iv, ?_⟩
  rcases h with ⟨n, g⟩ | ⟨s, rfl, hs, h⟩
  · exact .inr ⟨n, g⟩
  refine .inl ⟨s, rfl, hs, _, rfl, x, dx, fx, rfl, ix, nN, _, rfl, x, u, ss, rs, ns, rfl, iv, ?_⟩
  rcases h with ⟨n, g⟩ | ⟨t, rfl, ht, q⟩
  · exact .inr ⟨n, g⟩
  refine .inl ⟨t, rfl, ht, _, rfl, x, dx, fx, rfl, ix, nR, _, rfl, x, t, ss, rs, ns, rfl, iv, tr, hl, ht, fun D kvs H1 e1 nD gD near _ => ?_⟩
  refine gN ?_
  refine ⟨_, rfl, (by show 1 ≤ sizeLine; decide), fun W hW => ?_⟩
  have hW0 : H W = none := e1.free hW
  have WD : W ≠ D := fun z => by rw [z, gD] at hW; cases hW
  obtain ⟨l0, p0⟩ := tr.way hs ht
  obtain ⟨r0, rfl⟩ := p0.head
  refine gN ?_
  with_reducible refine sQ ?_
  refine while_gh (fun m σ Hc => σ = [some (.ref x), some (.str s), some (.str t), some (.ref D), some (.ref W)] ∧ Same H Hc ∧ Hc D = some (.dK kvs) ∧ ∃ pre cur r, Hc W = some (.lst ((pre ++ [cur]).map V.str)) ∧ cur ∈ ss ∧ Pt rs cur (cur :: r) t ∧ Pt rs s (pre ++ cur :: r) t ∧ m = r.length) r0.length
    ⟨rfl, same_upd e1 hW0, by rw [upd_ne WD.symm]; exact gD, [], s, r0, upd_same, hs, p0, p0, rfl⟩ ?_ ?_
  · rintro m σ Hc ⟨rfl, e2, g1, pre, cur, r, g2, hc, pc, pf, rfl⟩
    have al : atI ((pre ++ [cur]).map V.str) (-1) = some (.str cur) := by rw [List.map_append]; exact atI_last _ _
    refine ⟨_, rfl, _, rfl, W, _, _, _, rfl, rfl, SqL.of g2, al, _, rfl, rfl, _, rfl, ?_⟩
    by_cases e : cur = t
    · subst e
      rw [decide_eq_true rfl]
      refine iteF ⟨_, rfl, q W _ Hc e2 hW0 pf ?_⟩
      rw [pc.here tr.cut]
      exact g2
    · have ne : (!decide (V.str cur = V.str t)) = true := by rw [decide_eq_false (fun z => e (V.str.inj z))]; rfl
      rw [ne]
      obtain ⟨u, l, n1, n2⟩ := near cur hc e
      have el := pc.uniq tr.cut n2
      injection el with _ el
      subst el
      have dg := DGet.k (k := .inr cur) g1
      rw [n1] at dg
      have ln2 : (pre ++ [cur]).length ≤ 1000 := by
        have := nodup_len pf.nd (pf.mem tr.ends ht)
        rw [List.length_append] at this ⊢
        simp only [List.length_cons, List.length_nil] at this ⊢
        omega
      refine iteT ⟨_, rfl, .inl ⟨rfl, _, SqL.of g2⟩, _, rfl, _, rfl, _, rfl, W, _, _, _, rfl, rfl, SqL.of g2, al, D, _, rfl, dg, W, _, _, rfl, rfl, g2, by rw [List.length_map]; exact small1000 ln2, ?_⟩
      refine ⟨l.length, Nat.lt_succ_self _, rfl, same_upd e2 hW0, by rw [upd_ne WD.symm]; exact g1, pre ++ [cur], u, l, by rw [upd_same, List.map_append (l₂ := [u])]; rfl, (pc.mem tr.ends ht) u (by simp), pc.tl, by rw [List.append_assoc]; exact pf, rfl⟩
  · rintro σ Hc Q1 Q2 hq ⟨v1, h1, v2, h2, p, xs, i, y, a, b, c, d, v4, h4, k5, b5, h5, z⟩
    exact ⟨v1, h1, v2, h2, p, xs, i, y, a, b, c, d, v4, h4, k5, b5, h5, hq _ _ z⟩
end
end K1
end
-- WProg1
section
set_option Elab.async false
set_option linter.all false
set_option maxRecDepth 100000
set_option maxHeartbeats 4000000
namespace K1
open PySem PySem.Spec PyProof.Rows L2 W0
abbrev sIV : Stmt := inClass (top 6) 0
abbrev sNv : Stmt := top 31
theorem scIV : FnScope ["self", "thing"] ["self", "thing"] (defScope sIV) := ⟨rfl, rfl, rfl, by decide +kernel, rfl, by decide +kernel, by decide +kernel⟩
theorem scNv : FnScope ["valley"] ["valley"] (defScope sNv) := ⟨rfl, rfl, rfl, by decide +kernel, rfl, by decide +kernel, by decide +kernel⟩
/-- what is no Valley -/
def NoV (K : PySem.W.Frag) (H : Hp) (v : V) : Prop := ∃ t, TyF K H v (.type t) ∧ t ∈ kinds ++ ["function"]
theorem NoV.ext {K : PySem.W.Frag} {H H' : Hp} {v : V} (h : NoV K H v) (e : Same H H') : NoV K H' v := by
  obtain ⟨t, a, b⟩ := h
  exact ⟨t, a.imp (fun x => TyX.ext x e) id, b⟩
def spNv (K : PySem.W.Frag) (C CV : Addr) : Sp := fun vs H Q E => ∃ v, vs = [v] ∧ ((∃ x ss rs ns, v = .ref x ∧ IsV C H x ss rs ns ∧ Q .non H) ∨ (NoV K H v ∧ GoesF CV [("thing", v)] H E))
/-- an int, or what is none -/
def NotI (K : PySem.W.Frag) (H : Hp) (v : V) : Prop := ∃ t, TyX K H v (.type t) ∧ t ∈ kinds ∧ t ≠ "int"
def spNumX (K : PySem.W.Frag) : Sp := fun vs H Q _ => ∃ (v : V), vs = [v] ∧ ((∃ i, v = .int i ∧ Q (.bl (decide (0 ≤ i))) H) ∨ (NotI K H v ∧ Q (.bl false) H))
section
variable {P : Program} {w : World} {K : PySem.W.Frag} {mg : Str → Option Value} {base : Heap} {CF : Addr}
theorem ok_iV {f C : Addr} {fd : FuncData} (F : Fun K "__init__" "BadValley.__init__" sIV f fd) (T : FeC K mg CF) (TC : ErF K mg "BadValley" C f ["thing"]) : FnOk P w K mg base CX0 1 f fd ["self", "thing"] (spEr1 C "thing") := by
  refine F.ok scIV (fun vs H Q E h => ?_) (fun cdv A outer s H vs Q E hr h => ?_)
  · obtain ⟨a, v, rfl, _⟩ := h
    rfl
  obtain ⟨a, v, rfl, ha, q⟩ := h
  refine ⟨_, pss_cons (by exact ps_expr (pe_feinit rfl T (pa_cons (pv 0) (pa_cons pe_str pa_nil)))) (pss_one (by exact ps_ost (pv 0) (pv 1))), ?_⟩
  refine ⟨_, rfl, a, C, [.str _], rfl, (by decide), TC.ox, ha, _, rfl, _, rfl, a, C, rfl, TC.ox, TC.no _ (by simp), .inl ⟨ha, fun d hd n => q d hd n⟩⟩
theorem ok_Nv {f fE C CV : Addr} {fd ed : FuncData} (F : Fun K "need_valley" "need_valley" sNv f fd) (B : Bl mg) (T : VcE K C) (mV : mg "Valley" = some (.ref C))
    (TF : FeC K mg CF) (TC : ErF K mg "BadValley" CV fE ["thing"]) (FE : Fun K "__init__" "BadValley.__init__" sIV fE ed) (bE : Binds K ed ["self", "thing"] []) : FnOk P w K mg base (L2.CX P w) 3 f fd ["valley"] (spNv K C CV) := by
  have GE := ok_iV (P := P) (w := w) (base := base) FE TF TC
  refine F.okX scNv (fun vs H Q E h => ?_) (fun cdv A outer s H vs Q E hr h => ?_)
  · obtain ⟨v, rfl, _⟩ := h
    rfl
  obtain ⟨v, rfl, h⟩ := h
  have hr2 : Room 2 _ := hr.mono (by decide)
  refine ⟨_, pss_one (by exact (ps_if (pt_not (pt_val (pe_callB call_isiF rfl B.isi PyProof.Rows.boot_isinstance (pa_cons (pv 0) (pa_cons (pe_glob (v := .ref C) rfl mV rfl) pa_nil)))))
    (pss_one (by exact (ps_raise rfl (takes_of rfl rfl rfl rfl) (pmk_oex TC.ox TC.ini TC.ty GE hr2 bE .nil pass0 rfl TC.m (pa_cons (pv 0) pa_nil))))) pss_nil)), ?_⟩
  rcases h with ⟨x, ss, rs, ns, rfl, iv, q⟩ | ⟨⟨t, ty, kt⟩, g⟩
  · obtain ⟨_, l1, l2, l3, d1, d2, d3, qs, bs, vx⟩ := iv
    obtain ⟨dx, fx, ix, _⟩ := vx.ins
    exact ⟨_, rfl, .ref x, _, _, _, _, rfl, .own C, .inl (.base (.ins ix T.cl T.ha T.hn T.htk T.hm)), T.own, _, rfl, iteF q⟩
  · exact ⟨_, rfl, v, _, _, _, _, rfl, .own C, ty, T.no t kt, _, rfl, iteT ⟨_, rfl, (by show 1 ≤ 1000; decide), raise_one g (Same.refl _)⟩⟩
end
end K1
end
-- WProg3
section
set_option Elab.async false
set_option linter.all false
set_option maxRecDepth 100000
set_option maxHeartbeats 4000000
namespace K1
open PySem PySem.Spec PyProof.Rows L2 W0
theorem upd_same' (H : Hp) (a : Addr) (o : HO) : L2.upd H a o a = some o := upd_same
theorem ValS.same {C : Addr} {H H' : Hp} {x l1 l2 l3 d1 d2 d3 : Addr} {qs : List Addr} {bs : Str → Addr} {ss : List Str} {rs : List (Str × Str)} {ns : List Int} (v : ValS C H x l1 l2 l3 d1 d2 d3 qs bs ss rs ns) (e : Same H H') : ValS C H' x l1 l2 l3 d1 d2 d3 qs bs ss rs ns := by
  obtain ⟨dx, fs, a, r⟩ := v.ins
  obtain ⟨k2, a2, b2⟩ := v.p2
  obtain ⟨k3, a3, b3⟩ := v.p3
  exact ⟨⟨dx, fs, e _ _ a, r⟩, e _ _ v.h1, e _ _ v.h2, TupP.ext v.pr e, e _ _ v.h3, e _ _ v.p1, ⟨k2, e _ _ a2, b2⟩, ⟨k3, e _ _ a3, b3⟩, fun s hs => e _ _ (v.nb s hs)⟩
theorem IsV.same {C : Addr} {H H' : Hp} {x : Addr} {ss : List Str} {rs : List (Str × Str)} {ns : List Int} (v : IsV C H x ss rs ns) (e : Same H H') : IsV C H' x ss rs ns := by
  obtain ⟨l, l1, l2, l3, d1, d2, d3, qs, bs, h⟩ := v
  exact ⟨l, l1, l2, l3, d1, d2, d3, qs, bs, h.same e⟩
/-- an instance, without fields of these names -/
theorem IsV.inst {C : Addr} {H : Hp} {x : Addr} {ss : List Str} {rs : List (Str × Str)} {ns : List Int} (v : IsV C H x ss rs ns) : ∃ dx fs, H x = some (.ins C dx fs) ∧
    ∀ m : Str, (decide (m ≠ "_houses") && (decide (m ≠ "_roads") && (decide (m ≠ "_heads") && (decide (m ≠ "_people") && (decide (m ≠ "_places") && decide (m ≠ "_beside")))))) = true → fs.lookup m = none := by
  obtain ⟨l, l1, l2, l3, d1, d2, d3, qs, bs, h⟩ := v
  obtain ⟨dx, fs, a, _, _, _, _, _, _, f0⟩ := h.ins
  refine ⟨dx, fs, a, fun m hm => ?_⟩
  simp only [Bool.and_eq_true, decide_eq_true_eq] at hm
  exact f0 m hm.1 hm.2.1 hm.2.2.1 hm.2.2.2.1 hm.2.2.2.2.1 hm.2.2.2.2.2
theorem take_snoc {α : Type} {xs : List α} {i : Nat} (hi : i < xs.length) : xs.take (i + 1) = xs.take i ++ [xs[i]] := by
  rw [List.take_succ, List.getElem?_eq_getElem hi]
  rfl
def spHo (C : Addr) : Sp := fun vs H Q _ => ∃ x ss rs ns, vs = [.ref x] ∧ IsV C H x ss rs ns ∧ ∀ l, H l = none → Q (.ref l) (L2.upd H l (.lst (ss.map V.str)))
def spRo (C : Addr) : Sp := fun vs H Q _ => ∃ x ss rs ns, vs = [.ref x] ∧ IsV C H x ss rs ns ∧ ∀ l qs, H l = none → Paired (TupP H) qs rs → Q (.ref l) (L2.upd H l (.lst (qs.map V.ref)))
def isRow (ss : List Str) (rs : List (Str × Str)) : Bool := ss.all fun s => decide ((nbs ss rs s).length ≤ 2)
def isStar (ss : List Str) (rs : List (Str × Str)) : Bool := ss.any fun s => decide ((nbs ss rs s).length = rs.length)
theorem ps_same_upd {H Hc : Hp} {L : Addr} {o : HO} (e : Same H Hc) (n : H L = none) : Same H (L2.upd Hc L o) := fun b u h => by
  rw [upd_ne (ne_of_none h n)]
  exact e b u h
section
variable {P : Program} {w : World} {K : PySem.W.Frag} {mg : Str → Option Value} {base : Heap} {C CN CV : Addr}
theorem ok_Ho {f : Addr} {fd : FuncData} (F : Fun K "houses" "Valley.houses" sVH f fd) (B : Bl mg) (T : VcT K C) : FnOk P w K mg base CX0 1 f fd ["self"] (spHo C) := by
  refine F.ok scVH (fun vs H Q E h => ?_) (fun cdv A outer s H vs Q E hr h => ?_)
  · obtain ⟨x, ss, rs, ns, rfl, _⟩ := h
    rfl
  obtain ⟨x, ss, rs, ns, rfl, iv, q⟩ := h
  obtain ⟨l, l1, l2, l3, d1, d2, d3, qs, bs, vx⟩ := iv
  obtain ⟨dx, fx, ix, x1, x2, x3, _⟩ := vx.ins
  refine ⟨_, pss_one (by exact (ps_ret (pe_callTy call_list_of rfl B.list PyProof.Rows.boot_list (pa_cons (pe_fld (pv 0) rfl) pa_nil)))), ?_⟩
  exact ⟨_, rfl, x, C, dx, fx, _, rfl, ix, T.cl, T.n1, x1, l1, _, rfl, .inl (SqL.of vx.h1), q⟩
theorem ok_Ro {f : Addr} {fd : FuncData} (F : Fun K "roads" "Valley.roads" sVR f fd) (B : Bl mg) (T : VcT K C) : FnOk P w K mg base CX0 1 f fd ["self"] (spRo C) := by
  refine F.ok scVR (fun vs H Q E h => ?_) (fun cdv A outer s H vs Q E hr h => ?_)
  · obtain ⟨x, ss, rs, ns, rfl, _⟩ := h
    rfl
  obtain ⟨x, ss, rs, ns, rfl, iv, q⟩ := h
  obtain ⟨l, l1, l2, l3, d1, d2, d3, qs, bs, vx⟩ := iv
  obtain ⟨dx, fx, ix, x1, x2, x3, _⟩ := vx.ins
  refine ⟨_, pss_one (by exact (ps_ret (pe_callTy call_list_of rfl B.list PyProof.Rows.boot_list (pa_cons (pe_fld (pv 0) rfl) pa_nil)))), ?_⟩
  exact ⟨_, rfl, x, C, dx, fx, _, rfl, ix, T.cl, T.n2, x2, l2, _, rfl, .inl (SqL.of vx.h2), fun l hl => q l qs hl vx.pr⟩
end
end K1
end
-- WRun
section
set_option Elab.async false
set_option linter.all false
set_option maxRecDepth 100000
set_option maxHeartbeats 1000000
namespace K1
open PySem PySem.Spec PyProof.Rows L2 W0
theorem ret_run {te : TE} {D : Ends} {σ : L2.St} {H : Hp} (h : te σ H D.rt) : tRet te D σ H := h
theorem cons_run {t : TE} {ta : TA} {σ : L2.St} {H : Hp} {Q : List V → Hp → Prop} (h : t σ H fun x H1 => ta σ H1 fun xs H2 => Q (x :: xs) H2) : tCons t ta σ H Q := h
theorem tup_runE {ta : TA} {σ : L2.St} {H : Hp} {Q : VK} (h : ta σ H fun xs H1 => xs.length ≤ sizeLine ∧ ∀ p, H1 p = none → Q (.ref p) (L2.upd H1 p (.tup xs))) : tTup ta σ H Q := h
theorem take_filter_succ {f : Str → Bool} {pt : List Str} {i : Nat} (hi : i < pt.length) : (pt.take (i + 1)).filter f = (pt.take i).filter f ++ if f pt[i] = true then [pt[i]] else [] := by
  rw [take_snoc hi, List.filter_append]
  congr 1
  rw [List.filter_cons, List.filter_nil]
theorem paired_snoc {α β : Type} {F : α → β → Prop} : ∀ {xs : List α} {ys : List β}, Paired F xs ys → ∀ {a : α} {b : β}, F a b → Paired F (xs ++ [a]) (ys ++ [b])
  | _, _, .nil, _, _, f => .cons f .nil
  | _, _, .cons g r, _, _, f => .cons g (paired_snoc r f)
end K1
end
-- WLaw5
section
set_option Elab.async false
set_option linter.all false
set_option maxRecDepth 100000
set_option maxHeartbeats 4000000
namespace K1
open PySem PySem.Spec PyProof.Rows L2 W0
theorem fr_kept {a : Addr} {H Hx : Hp} {z : Addr} (kx : Kept a H Hx) (hz : Hx z = none) (za : z ≠ a) : H z = none := by
  cases e : H z with
  | none => rfl
  | some o => rw [kx _ _ za e] at hz; cases hz
open Classical in
/-- the heap without these -/
noncomputable def wo (Z : Addr → Prop) (H : Hp) : Hp := fun b => if Z b then none else H b
theorem wo_some {Z : Addr → Prop} {H : Hp} {b : Addr} {o : HO} : wo Z H b = some o ↔ ¬ Z b ∧ H b = some o := by
  unfold wo
  by_cases h : Z b
  · rw [if_pos h]
    exact ⟨fun q => (by cases q), fun q => absurd h q.1⟩
  · rw [if_neg h]
    exact ⟨fun q => ⟨h, q⟩, fun q => q.2⟩
theorem wo_same {Z : Addr → Prop} {H H' : Hp} (k : ∀ b o, ¬ Z b → H b = some o → H' b = some o) : Same (wo Z H) (wo Z H') := fun b o e => by
  obtain ⟨n, e⟩ := wo_some.mp e
  exact wo_some.mpr ⟨n, k b o n e⟩
theorem wo_le {Z Z' : Addr → Prop} {H : Hp} (k : ∀ b, Z b → Z' b) : Same (wo Z' H) (wo Z H) := fun b o e => by
  obtain ⟨n, e⟩ := wo_some.mp e
  exact wo_some.mpr ⟨fun z => n (k b z), e⟩
theorem wo_out {Z : Addr → Prop} {H : Hp} : Same (wo Z H) H := fun b o e => (wo_some.mp e).2
abbrev Rel (α : Type) := Hp → V → α → Prop
def MonR {α : Type} (R : Rel α) : Prop := ∀ H H' v x, Same H H' → R H v x → R H' v x
def SeqR {α : Type} (R : Rel α) : Rel (List α) := fun H v xs => ∃ vs, SeqV H v vs ∧ xs.length ≤ 60 ∧ Paired (R H) vs xs
def Flat0 (K : PySem.W.Frag) : Rel V := fun H v x => v = x ∧ NoSeq K H v
theorem mon_flat0 {K : PySem.W.Frag} : MonR (Flat0 K) := fun H H' v x e h => ⟨h.1, h.2.ext e⟩
theorem mon_seq {α : Type} {R : Rel α} (m : MonR R) : MonR (SeqR R) := fun H H' v x e ⟨vs, a, b, c⟩ => ⟨vs, a.ext e, b, paired_imp (fun _ _ q => m _ _ _ _ e q) c⟩
def spLo {α : Type} (R : Rel α) (c : Nat) : Sp := fun vs H Q _ => ∃ (a : Addr) (v : V) (x : α) (n : Nat) (Z : Addr → Prop), vs = [.ref a, v] ∧ Spr H a n ∧ n + c ≤ 1000000 ∧ Z a ∧ (∀ z, Z z → H z ≠ none) ∧ R (wo Z H) v x ∧
  ∀ y H', Kept a H H' → Spr H' a (n + c) → R (wo Z H') y x → Q y H'
theorem Spr.same {H H' : Hp} {a : Addr} {n : Nat} (s : Spr H a n) (e : Same H H') : Spr H' a n := by
  obtain ⟨x, y, z, h, r⟩ := s
  exact ⟨x, y, z, e _ _ h, r⟩
section
variable {P : Program} {w : World} {K : PySem.W.Frag} {mg : Str → Option Value} {base : Heap} {fD : Addr} {fdD : FuncData}
end
end K1
end
-- WItT
section
set_option Elab.async false
set_option linter.all false
set_option maxRecDepth 100000
set_option maxHeartbeats 2000000
/-! list(d.items()) of a dict keyed by tuples, or by ints and texts -/
namespace WIt
open PySem PySem.W PySem.Calls PyProof.Rows PyProof.V PySem.Spec DT
section
variable {prog : Program} {w : World} {A : Around} {E : Value → Shared → Prop} {s : Shared} {r d : Addr} {es : Array DictEntry} {ep : Nat}
theorem init_items {R : Result → Shared → Prop} (hh : A.handled = none) (hv : s.heap.IsItemsView r d) (hm : Raw s.heap d es ep) (S : Addr) (hSr : S ≠ r) (hSd : d ≠ S) (hS : s.heap.get? S = some { cls := .type "list", data := .seq #[] })
    (hR : ∀ h' tk acc c as, (∀ b o, b ≠ S → s.heap.get? b = some o → h'.get? b = some o) → h'.get? S = some { cls := .type "list", dict := none, data := .seq acc c, slots := #[] } → as.length = es.size → Made es S h' as →
      acc.toList = as.map Value.ref → R (.ok (.ret .none)) { s with heap := h', toks := tk }) (hn : es.size ≤ sizeLine) :
    wpAny (model prog w) A.in1 (Builtin.«list.__init__» ⟨[.ref S, .ref r], []⟩)
      (fun fin s' => match fin with | .done f => R (.ok f) s' | .again c' => c'.quiet = true ∧ codeAny (model prog w) A c' R s') (fun e s' => R (.error e) s') s := by
  show wpAny _ _ (do let before ← Builtin.List.listItems (.ref S); Builtin.List.listUpdate (.ref S) (fun _ => #[]); letGo before.toList.reverse; Builtin.List.listExtendWith (.ref S) (.ref r) .none) _ _ s
  refine wpAny_bind ?_
  unfold Builtin.List.listItems
  refine wpAny_bind (wpAny_seqItems hS rfl (wpAny_pure ?_))
  show wpAny _ _ (updateSeq S (fun _ => #[]) >>= fun _ => letGo (#[] : Array Value).toList.reverse >>= fun _ => Builtin.List.listExtendWith (.ref S) (.ref r) .none) _ _ s
  refine wpAny_bind (wpAny_updateSeq hS rfl ?_)
  have g2 := Heap.get?_update_self (Obj.mapSeq (fun _ => (#[] : Array Value))) hS rfl
  have ot : ∀ b o, b ≠ S → s.heap.get? b = some o → (s.heap.update S (Obj.mapSeq (fun _ => (#[] : Array Value)))).get? b = some o := fun b o n e => (Heap.get?_update_other _ _ (Ne.symm n)).trans e
  refine wpAny_bind (wpAny_letGo ?_)
  refine extI (es := es) (ep := ep) hh (let ⟨o, ho, x⟩ := hv; ⟨o, ot r o hSr.symm ho, x⟩) (hm.at' fun o e => ot d o hSd e) S hSr hSd .none _ g2 (fun h' tk acc c as hk g3 hl hG hacc => ?_) hn
  exact hR h' tk acc c as (fun b o n e => hk b o n (ot b o n e)) g3 hl (hG.low (Nat.le_of_lt (Heap.lt_size g2))) hacc
theorem call_items {Q : Value → Shared → Prop} (hh : A.handled = none) (hv : s.heap.IsItemsView r d) (hm : Raw s.heap d es ep) (hn : es.size ≤ sizeLine)
    (hQ : ∀ h' tk acc c as, (∀ b o, s.heap.get? b = some o → h'.get? b = some o) → h'.get? s.heap.objs.size = some { cls := .type "list", dict := none, data := .seq acc c, slots := #[] } → as.length = es.size → Made es s.heap.objs.size h' as →
      acc.toList = as.map Value.ref → Q (.ref s.heap.objs.size) { s with heap := h', toks := tk }) :
    wpAny (model prog w) A (call (.type "list") [.ref r]) Q E s := by
  refine callType_codes (Q₁ := fun obj s₁ => obj = .ref s.heap.objs.size ∧ s₁ = { s with heap := s.heap.push { cls := .type "list", data := .seq #[] } }) PySem.F.called_list (PySem.F.typeCall_list_1 _) PySem.F.entry_list_init
    (code_list_new _ ⟨rfl, rfl⟩) fun obj s₁ h₁ => ?_
  obtain ⟨rfl, rfl⟩ := h₁
  have gS : (s.heap.push { cls := .type "list", data := .seq #[] }).get? s.heap.objs.size = some { cls := .type "list", data := .seq #[] } := Heap.get?_push_size _ rfl
  have lr : r < s.heap.objs.size := let ⟨_, ho, _⟩ := hv; Heap.lt_size ho
  have ld : d < s.heap.objs.size := hm.lt
  refine ⟨⟨_, gS, rfl⟩, PySem.F.args_list_init_2 _ _, init_items (es := es) (ep := ep) (A := A.in1) hh (let ⟨o, ho, x⟩ := hv; ⟨o, Heap.get?_push_of_some _ ho, x⟩) (hm.push _) _ (Nat.ne_of_gt lr) (Nat.ne_of_lt ld) gS (fun h' tk acc c as hk g3 hl hG hacc => ?_) hn⟩
  exact ⟨rfl, hQ h' tk acc c as (fun b o e => hk b o (Nat.ne_of_lt (Heap.lt_size e)) (Heap.get?_push_of_some _ e)) g3 hl hG hacc⟩
end
open L2 LiI
/-- the pairs tracked at their addresses -/
def putP : Hp → List Addr → List (V × V) → Hp
  | H, a :: as, p :: ps => putP (L2.upd H a (.tup [p.1, p.2])) as ps
  | H, _, _ => H
theorem putP_off {b : Addr} : ∀ (as : List Addr) (ps : List (V × V)) (H : Hp), b ∉ as → putP H as ps b = H b
  | [], _, _, _ => rfl
  | _ :: _, [], _, _ => rfl
  | a :: as, p :: ps, H, h => by
    show putP (L2.upd H a (.tup [p.1, p.2])) as ps b = H b
    rw [putP_off as ps _ (fun z => h (List.mem_cons_of_mem _ z)), upd_ne (fun z => h (by rw [z]; exact List.mem_cons_self))]
theorem putP_at : ∀ (as : List Addr) (ps : List (V × V)) (H : Hp), as.length = ps.length → as.Nodup → Paired (fun (t : Addr) (p : V × V) => putP H as ps t = some (.tup [p.1, p.2])) as ps
  | [], [], _, _, _ => .nil
  | [], _ :: _, _, h, _ => by cases h
  | _ :: _, [], _, h, _ => by cases h
  | a :: as, p :: ps, H, h, hn => by
    have hn' := List.nodup_cons.mp hn
    refine .cons ?_ (putP_at as ps (L2.upd H a (.tup [p.1, p.2])) (Nat.succ.inj h) hn'.2)
    show putP (L2.upd H a (.tup [p.1, p.2])) as ps a = some (.tup [p.1, p.2])
    rw [putP_off as ps _ hn'.1, upd_same]
/-- what the dict's keys and values are, as tracked -/
theorem dT_pairs {H : Hp} : ∀ {kvs : List (List L2.Key × V)} {xs : List (List L2.Key × Addr × Value)}, Paired (fun (p : List L2.Key × V) (q : List L2.Key × Addr × Value) => p.1 = q.1 ∧ H q.2.1 = some (.tup (p.1.map kV)) ∧ RelV p.2 q.2.2) kvs xs →
    ∃ ps : List (V × V), ps.length = xs.length ∧ Paired (fun (p : V × V) (q : List L2.Key × V) => ∃ b, p.1 = .ref b ∧ H b = some (.tup (q.1.map kV)) ∧ p.2 = q.2) ps kvs ∧ ∀ (j : Nat) (x : List L2.Key × Addr × Value), xs[j]? = some x → ∃ p, ps[j]? = some p ∧ RelV p.1 (.ref x.2.1) ∧ RelV p.2 x.2.2
  | _, _, .nil => ⟨[], rfl, .nil, fun j x e => by simp at e⟩
  | _, _, .cons (a := q) (b := x) h t => by
    obtain ⟨ps, l, pr, f⟩ := dT_pairs t
    refine ⟨(.ref x.2.1, q.2) :: ps, by simp [l], .cons ⟨_, rfl, h.2.1, rfl⟩ pr, fun j y e => ?_⟩
    cases j with
    | zero =>
      obtain rfl := Option.some.inj e
      exact ⟨_, rfl, rfl, h.2.2⟩
    | succ j =>
      obtain ⟨p, e1, e2⟩ := f j y (by simpa using e)
      exact ⟨p, by simpa using e1, e2⟩
def rItemsT2 : V → Hp → VK → Prop := fun x H Q => ∃ (d : Addr) (kvs : List (List L2.Key × V)), x = .ref d ∧ H d = some (.dT kvs) ∧
  ∀ (H' : Hp) (p : Addr) (ts : List Addr) (ps : List (V × V)), (∀ b o, H b = some o → H' b = some o) → H p = none → (∀ t ∈ ts, H t = none) → p ∉ ts → H' p = some (.lst (ts.map V.ref)) → Paired (fun (t : Addr) (q : V × V) => H' t = some (.tup [q.1, q.2])) ts ps →
    Paired (fun (p : V × V) (q : List L2.Key × V) => ∃ b, p.1 = .ref b ∧ H b = some (.tup (q.1.map kV)) ∧ p.2 = q.2) ps kvs → Q (.ref p) H'
def tItemsB (te : TE) : TE := fun σ H Q => te σ H fun x H1 => rItemsL x H1 Q ∨ rItemsT2 x H1 Q
section
variable {X : Cx} {e : Expr} {te : TE} {p apos cpos pos : Pos}
theorem items_laidT {pins : List (Addr × Obj)} {σ : L2.St} {H : Hp} {s : Shared} {h' : Heap} {tk : Nat} {es : Array DictEntry} {kvs : List (List L2.Key × V)} {xs : List (List L2.Key × Addr × Value)} {knd : HeapKind X.prog X.w (List L2.Key)} {acc : Array Value} {c : Nat} {as : List Addr} (I : Inv X pins σ H s) (hz : xs.length ≤ sizeLine)
    (kv : Paired (fun (p : List L2.Key × V) (q : List L2.Key × Addr × Value) => p.1 = q.1 ∧ H q.2.1 = some (.tup (p.1.map kV)) ∧ RelV p.2 q.2.2) kvs xs) (he : es.toList = xs.map (entryOfKey knd))
    (hk : ∀ b o, s.heap.get? b = some o → h'.get? b = some o) (hS : h'.get? s.heap.objs.size = some { cls := .type "list", dict := none, data := .seq acc c, slots := #[] }) (hl : as.length = es.size) (hG : Made es s.heap.objs.size h' as) (hacc : acc.toList = as.map Value.ref) :
    ∃ (H' : Hp) (ps : List (V × V)), (∀ b o, H b = some o → H' b = some o) ∧ H s.heap.objs.size = none ∧ (∀ t ∈ as, H t = none) ∧ s.heap.objs.size ∉ as ∧ H' s.heap.objs.size = some (.lst (as.map V.ref)) ∧ Paired (fun (t : Addr) (q : V × V) => H' t = some (.tup [q.1, q.2])) as ps ∧
      Paired (fun (p : V × V) (q : List L2.Key × V) => ∃ b, p.1 = .ref b ∧ H b = some (.tup (q.1.map kV)) ∧ p.2 = q.2) ps kvs ∧ Inv X pins σ H' { s with heap := h', toks := tk } := by
  obtain ⟨ps, lp, pr, f⟩ := dT_pairs kv
  have sz := size_of_entries he
  have hSn : s.heap.objs.size ∉ as := fun z => Nat.lt_irrefl _ (hG.above _ z)
  have nd : as.Nodup := List.Pairwise.imp (fun {a b} (h : a < b) => Nat.ne_of_lt h) hG.rise
  have new : ∀ t ∈ as, H t = none := fun t ht => I.hok.fresh (Nat.le_of_lt (hG.above t ht))
  have newS : H s.heap.objs.size = none := I.hok.fresh (Nat.le_refl _)
  have atP := putP_at as ps (L2.upd H s.heap.objs.size (.lst (as.map V.ref))) (by omega) nd
  have off : ∀ b, b ∉ as → b ≠ s.heap.objs.size → putP (L2.upd H s.heap.objs.size (.lst (as.map V.ref))) as ps b = H b := fun b h1 h2 => by rw [putP_off as ps _ h1, upd_ne h2]
  have low : ∀ b o, s.heap.get? b = some o → b ∉ as ∧ b ≠ s.heap.objs.size := fun b o e => ⟨fun z => absurd (Heap.lt_size e) (Nat.not_lt.mpr (Nat.le_of_lt (hG.above b z))), Nat.ne_of_lt (Heap.lt_size e)⟩
  have kp : ∀ b u, H b = some u → (putP (L2.upd H s.heap.objs.size (.lst (as.map V.ref))) as ps) b = some u := fun b u e => by
    rw [off b (fun z => by rw [new b z] at e; cases e) (fun z => by rw [z, newS] at e; cases e)]
    exact e
  have eS : putP (L2.upd H s.heap.objs.size (.lst (as.map V.ref))) as ps s.heap.objs.size = some (.lst (as.map V.ref)) := by rw [putP_off as ps _ hSn, upd_same]
  refine ⟨putP (L2.upd H s.heap.objs.size (.lst (as.map V.ref))) as ps, ps, kp, newS, new, hSn, eS, atP, pr, ?_⟩
  refine I.call' (ch := []) rfl ⟨fun b o q _ _ _ => hk b o q, fun b o q _ _ _ => ⟨o.slots, hk b o q⟩, fun b o q n _ => ?_, fun b o q _ => ⟨o, hk b o q⟩, fun b xs q => kp b _ q, fun b o u q => kp b _ q, fun b ps q => ⟨#[], by rw [kp b _ q]; simp⟩⟩ (fun b u q => ?_) I.bare fun b z => by simp at z
  · obtain ⟨z1, z2⟩ := low b o q
    rw [off b z1 z2]
    exact n
  · by_cases hb : b ∈ as
    · obtain ⟨j, pk, e1, e2, e3⟩ := LiI.paired_ix atP hb
      rw [e3] at q
      cases q
      obtain ⟨en, f1, f3⟩ := hG.pairs j b e1
      have hx : ∃ x, xs[j]? = some x ∧ entryOfKey knd x = en := by
        rw [entry_at he j] at f1
        obtain ⟨x, y1, y2⟩ := Option.map_eq_some_iff.mp f1
        exact ⟨x, y1, y2⟩
      obtain ⟨x, y1, y2⟩ := hx
      obtain ⟨p', g1, g2, g3⟩ := f j x y1
      rw [e2] at g1
      cases g1
      subst y2
      exact ⟨by show 2 ≤ sizeLine; decide, [.ref x.2.1, x.2.2], .cons g2 (.cons g3 .nil), ⟨_, f3, rfl, _, rfl⟩⟩
    · by_cases hb2 : b = s.heap.objs.size
      · rw [hb2] at q ⊢
        rw [eS] at q
        cases q
        refine ⟨by rw [List.length_map]; omega, acc.toList, c, by rw [hacc]; exact LiI.vals_refs as, ?_⟩
        rw [Array.toArray_toList]
        exact hS
      · rw [off b hb hb2] at q
        exact (I.hok b u q).stay (fun d v _ y => hk d v y) (fun d y => kp d _ y) fun d xs y => kp d _ y
/-- list(e.items()), of a dict of either kind -/
theorem pe_listItemsB (hc : X.calm = true) (he : PE X e te) (hg : Gl X "list") (hm : X.mg "list" = none) (hv : bootBuiltins "list" = some (.type "list")) (hbase : attributeBase e "items" X.env (eval e X.env) = eval e X.env := by rfl) (hline : (apos.endLine == cpos.line) = true := by rfl)
    (hs : starEach [.Call (.Attribute e "items" apos) [] [] cpos] X.env = (false, eval (.Call (.Attribute e "items" apos) [] [] cpos) X.env) :: starEach [] X.env := by rfl) :
    PE X (.Call (.Name "list" p) [.Call (.Attribute e "items" apos) [] [] cpos] [] pos) (tItemsB te) := by
  refine ⟨fun pins s σ H Q I hq => ?_⟩
  refine wpAny_Call_Name_kw (ld_blt I hg hm hv ?_)
  refine PyProof.Rows.callWith_type1 ?_ hs rfl
  rw [hs]
  show wpAny _ _ (spliced ((false, eval (.Call (.Attribute e "items" apos) [] [] cpos) X.env) :: backTo pos (starEach [] X.env))) _ _ s
  refine Calls.spliced_cons ?_
  refine wpAny_Call_method (T := "dict") (id := "dict.items") hbase rfl hline F.plainAttrs_dict F.slot_dict_items F.type_dict_items (thn (he.run pins s σ H _ I hq) fun u s1 ⟨x, H1, I1, rx, h⟩ => ?_)
  have I2 : ∀ d, Inv X pins σ H1 { s1 with heap := s1.heap.push { cls := .type "dict_items", data := .fields #[.ref d] } } := fun d => I1.kept (t' := s1.toks) fun b ob q => Heap.get?_push_of_some _ q
  rcases h with ⟨d, kvs, ex, hd, q⟩ | ⟨d, kvs, ex, hd, q⟩
  · subst ex
    obtain rfl : u = Value.ref d := rx
    obtain ⟨hz, hs0, vs, kv, hdo⟩ := I1.hok d _ hd
    obtain ⟨ep, hat⟩ := hdo.dictAt
    have lk : kvs.length = vs.length := Paired.length kv
    refine ⟨hdo.typeIs, hdo.mapOf.noDict, ?_⟩
    show wpAny _ _ (callWith cpos (.builtin "dict.items") [.ref d] [] []) _ X.xe s1
    refine method_meetsIn F.slot_dict_items F.entry_dict_items rfl (PySem.evalArgs_none ⟨rfl, hdo.typeIs, F.args_dict_items_1 _, _, meets_dict_items (mixKind X.prog X.w) d hs0, ⟨vs, hdo⟩, ?_⟩)
    refine Calls.spliced_nil ?_
    refine PySem.W.kdx_call (knd := mixKind X.prog X.w) (kvs := vs) (ep := ep) (I1.ok.hd hc) ⟨_, Heap.get?_push_size _ rfl, rfl, rfl⟩ (hat.push _) (by omega) fun h' tk acc c as hk hS hl hG hacc => ?_
    obtain ⟨H', k1, k2, k3, k4, k5, k6, J⟩ := items_laid (tk := tk) (I2 d) hz kv hk hS hl hG hacc
    exact ⟨.ref _, H', J, rfl, q H' _ as k1 k2 k3 k4 k5 k6⟩
  · subst ex
    obtain rfl : u = Value.ref d := rx
    obtain ⟨hz, hs0, xs, kv, o, es, ep, ho, hx, hdt, hen, hn⟩ := (show ObjOk X.prog X.w H1 s1.heap d (.dT kvs) from I1.hok d _ hd)
    have lk : kvs.length = xs.length := Paired.length kv
    have raw : Raw s1.heap d es ep := ⟨o, ho, hx, hdt⟩
    have sz := size_of_entries hen
    refine ⟨raw.typeIs, ?_, ?_⟩
    · intro a e
      cases e
      exact ⟨o, ho, hx.2.1⟩
    show wpAny _ _ (callWith cpos (.builtin "dict.items") [.ref d] [] []) _ X.xe s1
    refine method_meetsIn F.slot_dict_items F.entry_dict_items rfl (PySem.evalArgs_none ⟨rfl, raw.typeIs, F.args_dict_items_1 _, _, meetsItems (es := es) (ep := ep) hs0, raw, ?_⟩)
    refine Calls.spliced_nil ?_
    refine call_items (es := es) (ep := ep) (I1.ok.hd hc) ⟨_, Heap.get?_push_size _ rfl, rfl, rfl⟩ (raw.push _) (by omega) fun h' tk acc c as hk hS hl hG hacc => ?_
    obtain ⟨H', ps, k1, k2, k3, k4, k5, k6, k7, J⟩ := items_laidT (tk := tk) (I2 d) (by omega) kv hen hk hS hl hG hacc
    exact ⟨.ref _, H', J, rfl, q H' _ as ps k1 k2 k3 k4 k5 k6 k7⟩
end
end WIt
end
-- WSame
section
set_option Elab.async false
set_option linter.all false
set_option maxRecDepth 100000
set_option maxHeartbeats 1000000
namespace K1
open PySem PySem.Spec PyProof.Rows L2 W0
abbrev RelE := Hp → V → V → Prop
def MonE (R : RelE) : Prop := ∀ H H' x y, Same H H' → R H x y → R H' x y
def FlatE : RelE := fun _ x y => x = y ∧ ((∃ i, x = .int i) ∨ (∃ b, x = .bl b) ∨ ∃ s, x = .str s)
def SeqE (R : RelE) : RelE := fun H x y => ∃ p q xs ys, x = .ref p ∧ y = .ref q ∧ ((H p = some (.lst xs) ∧ H q = some (.lst ys)) ∨ (H p = some (.tup xs) ∧ H q = some (.tup ys))) ∧ xs.length ≤ 10000 ∧ Paired (R H) xs ys
def NextE (R : RelE) : RelE := fun H x y => FlatE H x y ∨ SeqE R H x y
theorem SeqE.mon {R : RelE} (m : MonE R) : MonE (SeqE R) := fun H H' x y e ⟨p, q, xs, ys, a, b, c, d, f⟩ => ⟨p, q, xs, ys, a, b, c.imp (fun c => ⟨e _ _ c.1, e _ _ c.2⟩) (fun c => ⟨e _ _ c.1, e _ _ c.2⟩), d, paired_imp (fun _ _ r => m _ _ _ _ e r) f⟩
theorem NextE.mon {R : RelE} (m : MonE R) : MonE (NextE R) := fun H H' x y e h => h.imp id (SeqE.mon m H H' x y e)
def spSm (R : RelE) : Sp := fun vs H Q _ => ∃ x y, vs = [x, y] ∧ R H x y ∧ ∀ H', Same H H' → Q (.bl true) H'
theorem walk_zipT {K : PySem.W.Frag} {a b : Addr} {xs ys : List V} {n : Nat} (hn : n = min xs.length ys.length) : Walk (RZ.ItzT K a b) n (fun H => SqT K H a xs ∧ SqT K H b ys) (YPair (fun i => xs[i]?) (fun i => ys[i]?)) := by
  subst hn
  refine ⟨fun i _ hi q => ?_, fun _ q => ⟨xs, ys, q.1, q.2, by omega⟩, fun i H v H' _ q y => ?_⟩
  · have z1 : i < xs.length := by omega
    have z2 : i < ys.length := by omega
    exact ⟨xs, ys, xs[i], ys[i], q.1, q.2, by simp [z1], by simp [z2]⟩
  · obtain ⟨T, x, z, e1, e2, e3, e4, e5⟩ := y
    exact ⟨T, x, z, e1, e2, e3, e4 xs q.1, e5 ys q.2⟩
section
variable {P : Program} {w : World} {K : PySem.W.Frag} {mg : Str → Option Value} {base : Heap}
theorem ok_sm_none {f : Addr} {fd : FuncData} : FnOk P w K mg base CX0 0 f fd ["found", "wanted"] (spSm fun _ _ _ => False) := by
  have no : ∀ vs H Q E, ¬ spSm (fun _ _ _ => False) vs H Q E := fun vs H Q E h => by
    obtain ⟨x, y, _, h, _⟩ := h
    exact h
  exact ⟨fun vs H Q E h => absurd h (no vs H Q E), fun A outer s H args us vs Q E _ _ _ _ h => absurd h (no vs H Q E)⟩
end
def FlatF : RelE := fun _ x y => x = y ∧ ((∃ i, x = .int i) ∨ (∃ b, x = .bl b) ∨ (∃ s, x = .str s) ∨ x = .non)
/-- two dicts that hold the same, whose items are the same by R -/
def DctE (R : RelE) : RelE := fun H x y => ∃ p q kvs kvs', x = .ref p ∧ y = .ref q ∧ H p = some (.dK kvs) ∧ H q = some (.dK kvs') ∧
  ∀ H' a b as bs, Same H H' → H' a = some (.lst (as.map V.ref)) → H' b = some (.lst (bs.map V.ref)) → Paired (fun (t : Addr) (e : Key × V) => H' t = some (.tup [kV e.1, e.2])) as kvs → Paired (fun (t : Addr) (e : Key × V) => H' t = some (.tup [kV e.1, e.2])) bs kvs' → R H' (.ref a) (.ref b)
/-- two dicts keyed by tuples that hold the same, whose items are the same by R -/
def DctT (R : RelE) : RelE := fun H x y => ∃ (p q : Addr) (kvs : List (List Key × V)), x = .ref p ∧ y = .ref q ∧ H p = some (.dT kvs) ∧ H q = some (.dT kvs) ∧
  ∀ (H' : Hp) (a b : Addr) (as bs : List Addr) (ps qs : List (V × V)), Same H H' → H' a = some (.lst (as.map V.ref)) → H' b = some (.lst (bs.map V.ref)) → Paired (fun (t : Addr) (e : V × V) => H' t = some (.tup [e.1, e.2])) as ps → Paired (fun (t : Addr) (e : V × V) => H' t = some (.tup [e.1, e.2])) bs qs →
    Paired (fun (p : V × V) (e : List Key × V) => ∃ c, p.1 = .ref c ∧ H' c = some (.tup (e.1.map kV)) ∧ p.2 = e.2) ps kvs → Paired (fun (p : V × V) (e : List Key × V) => ∃ c, p.1 = .ref c ∧ H' c = some (.tup (e.1.map kV)) ∧ p.2 = e.2) qs kvs → R H' (.ref a) (.ref b)
def NextF (R : RelE) : RelE := fun H x y => FlatF H x y ∨ SeqE R H x y ∨ DctE R H x y ∨ DctT R H x y
theorem NextF.mon {R : RelE} (m : MonE R) : MonE (NextF R) := fun H H' x y e h => h.imp id fun h => h.imp (SeqE.mon m H H' x y e) fun h => h.imp (fun ⟨p, q, kvs, kvs', a, b, c, d, f⟩ => ⟨p, q, kvs, kvs', a, b, e _ _ c, e _ _ d, fun H2 a b as bs e2 => f H2 a b as bs (e.trans e2)⟩) fun ⟨p, q, kvs, a, b, c, d, f⟩ => ⟨p, q, kvs, a, b, e _ _ c, e _ _ d, fun H2 a b as bs ps qs e2 => f H2 a b as bs ps qs (e.trans e2)⟩
theorem kit_ltd {K : PySem.W.Frag} {t : String} (h : t ∈ kinds) (n1 : t ≠ "list") (n2 : t ≠ "tuple") (n3 : t ≠ "dict") : PySem.W.kitAny K (.type t) [.type "list", .type "tuple", .type "dict"] = some false := by
  unfold PySem.W.kitAny
  rw [kit_list h, decide_eq_false n1]
  show PySem.W.kitAny K (.type t) [.type "tuple", .type "dict"] = _
  unfold PySem.W.kitAny
  rw [kit_tuple h, decide_eq_false n2]
  show PySem.W.kitAny K (.type t) [.type "dict"] = _
  unfold PySem.W.kitAny
  rw [kit_dict h, decide_eq_false n3]
  rfl
section
variable {P : Program} {w : World} {K : PySem.W.Frag} {mg : Str → Option Value} {base : Heap}
end
end K1
end
-- NTry
section
set_option Elab.async false
set_option linter.all false
set_option maxRecDepth 100000
set_option maxHeartbeats 4000000
/-! several clauses, each with a name for what came: the same slot -/
namespace K1
open PySem PySem.Spec PyProof.Rows L2
abbrev Suite := Addr → Value → Option Addr → TS
/-- a wish where the slots are as many as the names -/
def wLen (N : List Str) (W : WX) : WX := fun cls d σ H => σ.length = N.length → W cls d σ H
/-- the clauses' wish, one behind another -/
def wSome (K : PySem.W.Frag) (i : Nat) (Wout : WX) (D : Ends) : List (Value × Suite) → WX
  | [] => Wout
  | p :: r => wAs K p.1 i p.2 (wSome K i Wout D r) D
inductive HdsN (X : Cx) (n : Str) : List ExceptHandler → List (Value × Suite) → Prop
  | nil : HdsN X n [] []
  | cons {x : Str} {c : Value} {ts : Suite} {st : Stmt} {more : List Stmt} {xp hp : Pos} {hds : List ExceptHandler} {l : List (Value × Suite)} (names : Names X x c)
      (body : ∀ (a : Addr) (oe : Obj) (cls : Value) (d : Option Addr) (pn : List (Addr × Obj)), Zc cls d oe → (∃ vs, oe.data = .fields vs) → PSs (X.suite a ((a, oe) :: pn)) (st :: more) (ts a cls d)) (rest : HdsN X n hds l) :
      HdsN X n (.ExceptHandler (some (.Name x xp)) (some n) (st :: more) hp :: hds) ((c, ts) :: l)
section
variable {X : Cx} {body : List Stmt} {hd : ExceptHandler} {hds : List ExceptHandler} {l : List (Value × Suite)} {pos : Pos} {tb : WX → TS} {Wout : WX} {n : Str} {i : Nat}
theorem ps_try_some (st : X.stack = X.env :: X.outer) (fr : X.env.frame = some X.env.locals) (dup : X.N.Nodup) (at_ : X.N[i]? = some n) (loc : X.env.kindOf n = some .local) (tk : Takes X Wout)
    (hb : ∀ (W : WX) (pn : List (Addr × Obj)) (xe : Value → Shared → Prop), Takes (X.tr pn xe) W → PassesOwn (model X.prog X.w) X.A X.env xe → PSs (X.tr pn xe) body (tb W)) (clauses : HdsN X n (hd :: hds) l) :
    PS X (.Try body (hd :: hds) [] [] pos) (fun D σ H => tb (wLen X.N (wSome X.K i Wout D l)) D σ H) := by
  refine ⟨fun pins s σ H D I h => ?_⟩
  have good := I.ok; have hfr : X.A.frames = some (X.env :: X.outer) := by rw [good.frames, st]
  have hloc : Loc X.env.scope n := .inl loc
  refine wpAny_Try_except (wpAny_mono ((hb (wLen X.N (wSome X.K i Wout D l)) (X.pn ++ pins) (fun e t => wpAny (model X.prog X.w) X.A (noteFrame e X.env) (fun _ t2 => wpAny (model X.prog X.w) X.A (setFlight e none) (fun _ t3 => wpAny (model X.prog X.w) X.A (handleBy e X.env (hd :: hds)) (SP X pins D) X.xe t3) X.xe t2) X.xe t)
    (fun u t xx => ?_) PassesOwn.looking).run [] s σ H D (I.toTry _) h) (fun f t came => ?_) (fun e t z => z))
  · obtain ⟨a, B, sI, pins2, σ2, H2, cls, d, rfl, J0, nb, up, sky0, na, os, ag, wish⟩ := xx
    have J : Inv X pins σ2 H2 sI := J0.ofTry good
    have sky : Sky B (X.env :: X.outer) a (Zc cls d) X.env.locals t.heap := by rw [← st]; exact sky0
    show wpAny (model X.prog X.w) X.A (noteFrame (.ref a) X.env) _ _ _; refine Sky.land Zc.steady hfr fr sky fun g3 fly up3 => ?_
    have J3 : Inv X pins σ2 H2 { t with heap := g3 } := J.landed nb fly.1 (up.trans up3) os ag
    obtain ⟨oe3, ws3, at3, hz3, hd3⟩ := fly.there
    have nfr : a ∉ frs (X.env :: X.outer) := fun m => by
      obtain ⟨_, o2, e2, hnf⟩ := (fly.2.2.1).mem m
      rw [at3] at e2; cases e2; exact hnf _ hd3
    have nL : a ≠ X.env.locals := fun z => nfr (List.mem_filterMap.mpr ⟨X.env, List.mem_cons_self, by rw [fr, z]⟩)
    have nF : a ∉ X.fs := fun m => by obtain ⟨e, he, q⟩ := List.mem_filterMap.mp m; exact nfr (List.mem_filterMap.mpr ⟨e, List.mem_cons_of_mem _ he, q⟩)
    have S3 := J3.suite at3 hd3 na nL nF
    have go : ∀ {ks : List ExceptHandler} {m : List (Value × Suite)}, HdsN X n ks m → wSome X.K i Wout D m cls d σ2 H2 → wpAny (model X.prog X.w) X.A (handleBy (.ref a) X.env ks) (SP X pins D) X.xe { t with heap := g3 } := by
      intro ks m hk
      induction hk with
      | nil =>
        intro w; refine wpAny_handleBy_nil ?_
        obtain ⟨k1, k2, k3, oe, vs, T, oT, vs2, he, hz, hd2, h1, hr⟩ := id fly
        unfold PySem.passOn; refine wpAny_bind (wpAny_field he hd2 h1 ?_)
        rw [if_neg (show ¬ ((Value.ref T == Value.none) = true) by simp)]
        have fin : wpAny (model X.prog X.w) X.A (setFlight (.ref a) X.env.frame) (fun _ t4 => wpAny (model X.prog X.w) X.A (throw (.ref a) : Sem Flow) (SP X pins D) X.xe t4) X.xe { t with heap := g3 } := by
          rw [fr]; refine HandSPX.setFlight_upZ fly fun g4 sky4 up4 => wpAny_throw (tk _ _ ?_)
          exact ⟨a, B, sI, pins, σ2, H2, cls, d, rfl, J, nb, (up.trans up3).trans up4, .inr (.inr (by rw [st]; exact sky4)), na, os, ag, w⟩
        first | exact wpAny_bind (wpAny_pure (wpAny_bind fin)) | exact wpAny_bind fin
      | @cons x c ts s1 more xp hp2 hds2 l2 names suite rest ih =>
        intro w
        obtain ⟨b, eb, yes, no⟩ := w
        refine wpAny_handleBy_cons (codeAny_handlers_test ?_) (by intro q; cases q)
        have LM := PySem.W.exm_one (M := model X.prog X.w) (J3.kIn) (show PySem.W.Looks (model X.prog X.w) g3 (typeOf (.ref a)) cls from fun A Q E s k q => wpAny_typeOf_ref (k _ _ at3) (by rw [hz3.1]; exact q)) eb
        have test : ∀ {Q : Value → Shared → Prop} {E : Value → Shared → Prop}, Q c { t with heap := g3 } → wpAny (model X.prog X.w) (X.A.mark (some (.ref a))) (eval (.Name x xp) X.env) Q E { t with heap := g3 } := fun {Q E} q => by
          obtain ⟨hg, hdb, hm | ⟨hm, hv, hne⟩⟩ := names
          · exact ld_glob (X := X.suite a ((a, oe3) :: (X.pn ++ pins))) S3 hg hm q hdb
          · exact ld_blt (X := X.suite a ((a, oe3) :: (X.pn ++ pins))) S3 hg hm hv q hne hdb
        refine test (LM.here ?_)
        cases b with
        | false => show wpAny _ X.A (handleBy (.ref a) X.env hds2) _ _ _; exact ih (no rfl)
        | true =>
          refine codeAny_handlers_suite_as (HandSPX.lands_againZ fly fun g4 fly4 up4 => ?_)
          have J4 : Inv X pins σ2 H2 { t with heap := g4 } := J.landed nb fly4.1 ((up.trans up3).trans up4) os ag
          obtain ⟨oe4, ws4, at4, hz4, hd4⟩ := fly4.there
          refine store_ok (X := X.suite a ((a, oe4) :: (X.pn ++ pins))) (v := .ref a) (J4.suite at4 hd4 na nL nF) dup at_ hloc rfl (fun s5 S5 => ?_) (.inr loc)
          refine wpAny_mono ((suite a oe4 cls d (X.pn ++ pins) hz4 ⟨_, hd4⟩).run [] s5 _ H2 _ S5 (yes rfl a na)) (fun f s6 came => ?_) (fun _ _ z => False.elim z)
          have gone : ∀ {σ6 : L2.St} {H6 : Hp} {Q : Shared → Prop}, Inv (X.suite a ((a, oe4) :: (X.pn ++ pins))) [] σ6 H6 s6 → (∀ s7, Inv X pins (σ6.set i none) H6 s7 → Q s7) → wpAny (model X.prog X.w) X.A (do bindName X.env n .none; unbindBehindTheSuite X.env n hp2) (fun _ s7 => Q s7) X.xe s6 :=
            fun {σ6 H6 Q} S6 hq => gone_ok (S6.unsuite good) dup at_ loc hq
          cases f with
          | next => obtain ⟨σ6, H6, S6, q6⟩ := came; exact gone S6 fun s7 J7 => ⟨_, _, J7, q6⟩
          | brk => obtain ⟨σ6, H6, S6, q6⟩ := came; exact gone S6 fun s7 J7 => ⟨_, _, J7, q6⟩
          | cont => obtain ⟨σ6, H6, S6, q6⟩ := came; exact gone S6 fun s7 J7 => ⟨_, _, J7, q6⟩
          | ret u => obtain ⟨v6, σ6, H6, S6, r6, q6⟩ := came; exact gone S6 fun s7 J7 => ⟨_, _, _, J7, r6, q6⟩
    exact go clauses (wish J.len)
  · cases f with
    | next => obtain ⟨σ2, H2, J2, q⟩ := came; exact wpAny_execs_nil ⟨σ2, H2, J2.ofTry good, q⟩
    | brk => obtain ⟨σ2, H2, J2, q⟩ := came; exact ⟨σ2, H2, J2.ofTry good, q⟩
    | cont => obtain ⟨σ2, H2, J2, q⟩ := came; exact ⟨σ2, H2, J2.ofTry good, q⟩
    | ret u => obtain ⟨v, σ2, H2, J2, r, q⟩ := came; exact ⟨v, σ2, H2, J2.ofTry good, r, q⟩
end
end K1
end
-- MHs
section
set_option Elab.async false
set_option linter.all false
set_option maxRecDepth 100000
set_option maxHeartbeats 1000000
namespace K1
open PySem PySem.Spec PyProof.Rows L2
open Classical in
/-- the next house towards o -/
noncomputable def upG (rs : List (Str × Str)) (o s : Str) : Str := if h : ∃ u l, Pt rs s (s :: u :: l) o then h.choose else s
theorem upG_eq {rs : List (Str × Str)} {o s u : Str} {l : List Str} (hc : Cut rs) (h : Pt rs s (s :: u :: l) o) : upG rs o s = u := by
  have ex : ∃ u l, Pt rs s (s :: u :: l) o := ⟨u, l, h⟩
  unfold upG
  rw [dif_pos ex]
  obtain ⟨l2, h2⟩ := ex.choose_spec
  have := h2.uniq hc h
  injection this with _ e
  injection e with e _
theorem upG_is {ss : List Str} {rs : List (Str × Str)} {o s : Str} (T : Tree ss rs) (hs : s ∈ ss) (ho : o ∈ ss) (ne : s ≠ o) : ∃ l, Pt rs s (s :: upG rs o s :: l) o := by
  obtain ⟨l, h⟩ := T.way hs ho
  cases h with
  | one => exact absurd rfl ne
  | @cons _ u _ l q h n =>
    obtain ⟨r, rfl⟩ := h.head
    have h2 := Pt.cons q h n
    rw [upG_eq T.cut h2]
    exact ⟨r, h2⟩
theorem Pt.first {rs : List (Str × Str)} {s u t : Str} {l : List Str} (h : Pt rs s (s :: u :: l) t) : nbB rs s u = true ∧ Pt rs u (u :: l) t ∧ s ∉ u :: l := by
  cases h with
  | cons q h n =>
    obtain ⟨r, e⟩ := h.head
    injection e with e1 e2
    subst e1
    exact ⟨q, h, n⟩
theorem up_one {ss : List Str} {rs : List (Str × Str)} {o a b : Str} (T : Tree ss rs) (ho : o ∈ ss) (q : nbB rs a b = true) : (a ≠ o ∧ upG rs o a = b) ∨ (b ≠ o ∧ upG rs o b = a) := by
  have ha := (T.ends.nb q).1
  have hb := (T.ends.nb q).2
  have ab := T.cut.irr q
  obtain ⟨l, h⟩ := T.way hb ho
  by_cases m : a ∈ l
  · right
    have bo : b ≠ o := fun z => by
      subst z
      cases h with
      | one => exact ab (List.mem_singleton.mp m)
      | cons _ h n => exact n h.end_mem
    refine ⟨bo, ?_⟩
    obtain ⟨l2, h2⟩ := upG_is T hb ho bo
    have e := h.uniq T.cut h2
    subst e
    obtain ⟨q3, h3, n3⟩ := h2.first
    have m3 : a ∈ upG rs o b :: l2 := (List.mem_cons.mp m).resolve_left ab
    obtain ⟨l', h4, s4⟩ := h3.tail m3
    have h5 : Pt rs b (b :: l') o := .cons (by rw [nbB_swap]; exact q) h4 (fun z => n3 (s4 _ z))
    obtain ⟨r, rfl⟩ := h4.head
    exact upG_eq T.cut h5
  · left
    have ao : a ≠ o := fun z => m (by rw [z]; exact h.end_mem)
    obtain ⟨r, rfl⟩ := h.head
    exact ⟨ao, upG_eq T.cut (.cons q h m)⟩
theorem up_not {ss : List Str} {rs : List (Str × Str)} {o a b : Str} (T : Tree ss rs) (ho : o ∈ ss) (ha : a ∈ ss) (hb : b ∈ ss) (h1 : a ≠ o ∧ upG rs o a = b) (h2 : b ≠ o ∧ upG rs o b = a) : False := by
  obtain ⟨l1, p1⟩ := upG_is T ha ho h1.1
  obtain ⟨l2, p2⟩ := upG_is T hb ho h2.1
  rw [h1.2] at p1
  rw [h2.2] at p2
  obtain ⟨_, p3, n3⟩ := p1.first
  have e := p3.uniq T.cut p2
  injection e with _ e
  exact n3 (by rw [e]; simp)
/-- of a road, the house farther from o -/
noncomputable def farG (rs : List (Str × Str)) (o : Str) (e : Str × Str) : Str := if e.1 ≠ o ∧ upG rs o e.1 = e.2 then e.1 else e.2
theorem farG_is {ss : List Str} {rs : List (Str × Str)} {o : Str} (T : Tree ss rs) (ho : o ∈ ss) {e : Str × Str} (he : e ∈ rs) : farG rs o e ∈ ss ∧ farG rs o e ≠ o ∧ (e = (farG rs o e, upG rs o (farG rs o e)) ∨ e = (upG rs o (farG rs o e), farG rs o e)) := by
  have q : nbB rs e.1 e.2 = true := nbB_iff.mpr (.inl he)
  have m := T.ends.nb q
  unfold farG
  by_cases c : e.1 ≠ o ∧ upG rs o e.1 = e.2
  · rw [if_pos c]
    exact ⟨m.1, c.1, .inl (by rw [c.2])⟩
  · rw [if_neg c]
    have d := (up_one T ho q).resolve_left c
    exact ⟨m.2, d.1, .inr (by rw [d.2])⟩
theorem farG_other {ss : List Str} {rs : List (Str × Str)} {o : Str} (T : Tree ss rs) (ho : o ∈ ss) {e : Str × Str} (he : e ∈ rs) : (if e.2 ≠ o ∧ upG rs o e.2 = e.1 then e.2 else e.1) = farG rs o e := by
  have q : nbB rs e.1 e.2 = true := nbB_iff.mpr (.inl he)
  have m := T.ends.nb q
  unfold farG
  by_cases c : e.1 ≠ o ∧ upG rs o e.1 = e.2
  · rw [if_pos c, if_neg fun d => up_not T ho m.1 m.2 c d]
  · rw [if_neg c, if_pos ((up_one T ho q).resolve_left c)]
theorem no_rev {rs : List (Str × Str)} (hc : Cut rs) {a b : Str} (h1 : (a, b) ∈ rs) (h2 : (b, a) ∈ rs) : False := by
  obtain ⟨c, c1, c2⟩ := hc.2 _ h1
  have ne : ((b, a) : Str × Str) ≠ (a, b) := fun z => c1 (by have : b = a := congrArg Prod.fst z; rw [this])
  exact c1 (c2 _ h2 ne).symm
theorem farG_inj {ss : List Str} {rs : List (Str × Str)} {o : Str} (T : Tree ss rs) (ho : o ∈ ss) {e e' : Str × Str} (he : e ∈ rs) (he' : e' ∈ rs) (q : farG rs o e = farG rs o e') : e = e' := by
  have h1 := (farG_is T ho he).2.2
  have h2 := (farG_is T ho he').2.2
  rw [← q] at h2
  rcases h1 with h1 | h1 <;> rcases h2 with h2 | h2
  · rw [h1, h2]
  · rw [h1] at he; rw [h2] at he'; exact (no_rev T.cut he he').elim
  · rw [h1] at he; rw [h2] at he'; exact (no_rev T.cut he he').elim
  · rw [h1, h2]
theorem nodup_on {α β : Type} {f : α → β} : ∀ {xs : List α}, xs.Nodup → (∀ x ∈ xs, ∀ y ∈ xs, f x = f y → x = y) → (xs.map f).Nodup
  | [], _, _ => List.nodup_nil
  | x :: xs, n, h => by
    rw [List.nodup_cons] at n
    rw [List.map_cons, List.nodup_cons]
    refine ⟨fun z => ?_, nodup_on n.2 fun a ha b hb => h a (List.mem_cons_of_mem _ ha) b (List.mem_cons_of_mem _ hb)⟩
    obtain ⟨y, hy, e⟩ := List.mem_map.mp z
    have := h y (List.mem_cons_of_mem _ hy) x (List.mem_cons_self ..) e
    exact n.1 (by rw [← this]; exact hy)
theorem fars_nd {ss : List Str} {rs es : List (Str × Str)} {o : Str} (T : Tree ss rs) (ho : o ∈ ss) (n : es.Nodup) (m : ∀ e ∈ es, e ∈ rs) : (es.map (farG rs o)).Nodup :=
  nodup_on n fun x hx y hy q => farG_inj T ho (m x hx) (m y hy) q
/-- how the lists stand: of each house the nearest of its lot; the lists; what each list went through; those that handed theirs on; to whom -/
structure HS where
  lots : Str → Str
  lists : Str → List Str
  given : Str → List Str
  gone : List Str
  tk : Str → Option Str
def HS.step (up : Str → Str) (S : HS) (f : Str) : HS :=
  { lots := fun s => if S.lots s = f then S.lots (up f) else S.lots s
    lists := fun s => if s = S.lots (up f) then S.lists s ++ (S.lists f ++ [f]) else S.lists s
    given := fun s => if s ∈ S.lists f ++ [f] then S.given s ++ [S.lots (up f)] else S.given s
    gone := S.gone ++ [f]
    tk := fun s => if s = f then some (S.lots (up f)) else S.tk s }
def hs0 : HS := ⟨id, fun _ => [], fun _ => [], [], fun _ => none⟩
def hsOf (up : Str → Str) (fs : List Str) : HS := fs.foldl (HS.step up) hs0
theorem hsOf_snoc {up : Str → Str} {fs : List Str} {f : Str} : hsOf up (fs ++ [f]) = (hsOf up fs).step up f := by
  unfold hsOf
  rw [List.foldl_append]
  rfl
inductive Ch (tk : Str → Option Str) : Str → List Str → Str → Prop
  | nil (a : Str) : Ch tk a [] a
  | cons {a x b : Str} {xs : List Str} : tk a = some x → Ch tk x xs b → Ch tk a (x :: xs) b
theorem Ch.snoc {tk : Str → Option Str} {a b x : Str} {xs : List Str} (h : Ch tk a xs b) (e : tk b = some x) : Ch tk a (xs ++ [x]) x := by
  induction h with
  | nil a => exact .cons e (.nil _)
  | cons q _ ih => exact .cons q (ih e)
theorem Ch.imp {tk tk' : Str → Option Str} {a b : Str} {xs : List Str} (h : Ch tk a xs b) (i : ∀ s x, tk s = some x → tk' s = some x) : Ch tk' a xs b := by
  induction h with
  | nil a => exact .nil _
  | cons q _ ih => exact .cons (i _ _ q) ih
structure HInv (ss : List Str) (rs : List (Str × Str)) (o : Str) (S : HS) : Prop where
  way : ∀ s ∈ ss, ∃ l, Pt rs s l o ∧ S.lots s ∈ l
  out : ∀ s ∈ ss, S.lots s ∉ S.gone
  own : ∀ s ∈ ss, s ∉ S.gone → S.lots s = s
  mem : ∀ h ∈ ss, h ∉ S.gone → ∀ s, s ∈ S.lists h ++ [h] ↔ (s ∈ ss ∧ S.lots s = h)
  nd : ∀ h ∈ ss, h ∉ S.gone → (S.lists h ++ [h]).Nodup
  ch : ∀ s ∈ ss, Ch S.tk s (S.given s) (S.lots s)
  tks : ∀ s, (S.tk s).isSome = decide (s ∈ S.gone)
  len : ∀ s, (S.given s).length ≤ S.gone.length
  ins : ∀ s ∈ S.gone, s ∈ ss ∧ s ≠ o
theorem HInv.init {ss : List Str} {rs : List (Str × Str)} {o : Str} (T : Tree ss rs) (ho : o ∈ ss) : HInv ss rs o hs0 := by
  refine ⟨fun s hs => ?_, fun s hs => by simp [hs0], fun s hs _ => rfl, fun h hh _ s => ?_, fun h hh _ => by simp [hs0], fun s hs => .nil _, fun s => by simp [hs0], fun s => Nat.le_refl _, fun s hs => absurd hs (by simp [hs0])⟩
  · obtain ⟨l, h⟩ := T.way hs ho
    obtain ⟨r, rfl⟩ := h.head
    exact ⟨_, h, List.mem_cons_self ..⟩
  · show s ∈ [] ++ [h] ↔ s ∈ ss ∧ s = h
    rw [List.nil_append, List.mem_singleton]
    exact ⟨fun z => ⟨by rw [z]; exact hh, z⟩, fun z => z.2⟩
theorem HInv.lin {ss : List Str} {rs : List (Str × Str)} {o : Str} {S : HS} (I : HInv ss rs o S) (T : Tree ss rs) (ho : o ∈ ss) {s : Str} (hs : s ∈ ss) : S.lots s ∈ ss := by
  obtain ⟨l, h, m⟩ := I.way s hs
  exact h.mem T.ends ho _ m
theorem up_in {ss : List Str} {rs : List (Str × Str)} {o f : Str} (T : Tree ss rs) (ho : o ∈ ss) (hf : f ∈ ss) (fo : f ≠ o) : upG rs o f ∈ ss := by
  obtain ⟨l, h⟩ := upG_is T hf ho fo
  exact h.mem T.ends ho _ (by simp)
theorem HInv.taker {ss : List Str} {rs : List (Str × Str)} {o : Str} {S : HS} (I : HInv ss rs o S) (T : Tree ss rs) (ho : o ∈ ss) {f : Str} (hf : f ∈ ss) (fo : f ≠ o) : S.lots (upG rs o f) ≠ f := by
  obtain ⟨l, h⟩ := upG_is T hf ho fo
  obtain ⟨q, h2, n⟩ := h.first
  obtain ⟨l3, h3, m3⟩ := I.way _ (up_in T ho hf fo)
  rw [h3.uniq T.cut h2] at m3
  exact fun z => by rw [z] at m3; exact n m3
theorem HInv.step {ss : List Str} {rs : List (Str × Str)} {o : Str} {S : HS} (I : HInv ss rs o S) (T : Tree ss rs) (ho : o ∈ ss) {f : Str} (hf : f ∈ ss) (fo : f ≠ o) (nf : f ∉ S.gone) : HInv ss rs o (S.step (upG rs o) f) := by
  have hu := up_in T ho hf fo
  have tn := I.taker T ho hf fo
  have tin := I.lin T ho hu
  have tout := I.out _ hu
  have town := I.own _ tin tout
  have fown := I.own _ hf nf
  obtain ⟨t, et⟩ : ∃ t, t = S.lots (upG rs o f) := ⟨_, rfl⟩
  rw [← et] at tn tin tout town
  have mg : ∀ s, s ∈ (S.step (upG rs o) f).gone ↔ s ∈ S.gone ∨ s = f := fun s => by
    show s ∈ S.gone ++ [f] ↔ _
    rw [List.mem_append, List.mem_singleton]
  have el : ∀ s, (S.step (upG rs o) f).lots s = if S.lots s = f then t else S.lots s := fun s => by rw [et]; rfl
  have els : ∀ s, (S.step (upG rs o) f).lists s = if s = t then S.lists s ++ (S.lists f ++ [f]) else S.lists s := fun s => by rw [et]; rfl
  have ek : ∀ s, (S.step (upG rs o) f).tk s = if s = f then some t else S.tk s := fun s => by rw [et]; rfl
  have eg : ∀ s, (S.step (upG rs o) f).given s = if s ∈ S.lists f ++ [f] then S.given s ++ [t] else S.given s := fun s => by rw [et]; rfl
  refine ⟨fun s hs => ?_, fun s hs => ?_, fun s hs ns => ?_, fun h hh nh s => ?_, fun h hh nh => ?_, fun s hs => ?_, fun s => ?_, fun s => ?_, fun s hs => ?_⟩
  · obtain ⟨l, h, m⟩ := I.way s hs
    rw [el]
    by_cases c : S.lots s = f
    · rw [if_pos c]
      rw [c] at m
      obtain ⟨l', h', sub⟩ := h.tail m
      obtain ⟨l2, h2⟩ := upG_is T hf ho fo
      obtain ⟨q3, h3, n3⟩ := h2.first
      have e2 := h'.uniq T.cut h2
      obtain ⟨l4, h4, m4⟩ := I.way _ hu
      rw [h4.uniq T.cut h3, ← et] at m4
      exact ⟨l, h, sub _ (by rw [e2]; exact List.mem_cons_of_mem _ m4)⟩
    · rw [if_neg c]
      exact ⟨l, h, m⟩
  · rw [el, mg]
    by_cases c : S.lots s = f
    · rw [if_pos c]
      exact fun z => z.elim tout tn
    · rw [if_neg c]
      exact fun z => z.elim (I.out s hs) c
  · rw [mg] at ns
    rw [el, I.own s hs fun z => ns (.inl z), if_neg fun z => ns (.inr z)]
  · rw [mg] at nh
    have n1 : h ∉ S.gone := fun z => nh (.inl z)
    have n2 : h ≠ f := fun z => nh (.inr z)
    rw [els, el]
    have m1 := I.mem h hh n1 s
    have m2 := I.mem f hf nf s
    by_cases c : h = t
    · rw [if_pos c]
      have : s ∈ S.lists h ++ (S.lists f ++ [f]) ++ [h] ↔ s ∈ S.lists h ++ [h] ∨ s ∈ S.lists f ++ [f] := by
        simp only [List.mem_append, List.mem_singleton]
        constructor
        · rintro ((a | b) | a)
          · exact .inl (.inl a)
          · exact .inr b
          · exact .inl (.inr a)
        · rintro ((a | a) | b)
          · exact .inl (.inl a)
          · exact .inr a
          · exact .inl (.inr b)
      rw [this, m1, m2]
      by_cases c2 : S.lots s = f
      · rw [if_pos c2]
        exact ⟨fun z => ⟨z.elim (fun z => z.1) fun z => z.1, c.symm⟩, fun z => .inr ⟨z.1, c2⟩⟩
      · rw [if_neg c2]
        exact ⟨fun z => z.elim id fun z => absurd z.2 c2, fun z => .inl z⟩
    · rw [if_neg c, m1]
      by_cases c2 : S.lots s = f
      · rw [if_pos c2]
        exact ⟨fun z => absurd (z.2.symm.trans c2) n2, fun z => absurd z.2.symm c⟩
      · rw [if_neg c2]
  · rw [mg] at nh
    have n1 : h ∉ S.gone := fun z => nh (.inl z)
    have n2 : h ≠ f := fun z => nh (.inr z)
    have d1 := I.nd h hh n1
    rw [els]
    by_cases c : h = t
    · rw [if_pos c]
      have d2 := I.nd f hf nf
      have p : (S.lists h ++ (S.lists f ++ [f]) ++ [h]).Perm ((S.lists h ++ [h]) ++ (S.lists f ++ [f])) := by
        rw [List.append_assoc (S.lists h), List.append_assoc (S.lists h)]
        exact List.Perm.append_left _ List.perm_append_comm
      rw [p.nodup_iff, List.nodup_append]
      refine ⟨d1, d2, fun x hx y hy z => ?_⟩
      have a := ((I.mem h hh n1 x).mp hx).2
      have b := ((I.mem f hf nf y).mp hy).2
      rw [← z, a] at b
      exact n2 b
    · rw [if_neg c]
      exact d1
  · have c0 := I.ch s hs
    have nofk : ∀ x y, S.tk x = some y → (S.step (upG rs o) f).tk x = some y := fun x y q => by
      rw [ek]
      by_cases c : x = f
      · have := I.tks x
        rw [q, c, decide_eq_false nf] at this
        cases this
      · rw [if_neg c]; exact q
    rw [eg, el]
    have m2 := I.mem f hf nf s
    by_cases c : S.lots s = f
    · rw [if_pos (m2.mpr ⟨hs, c⟩), if_pos c]
      rw [c] at c0
      exact (c0.imp nofk).snoc (by rw [ek, if_pos rfl])
    · rw [if_neg fun z => c (m2.mp z).2, if_neg c]
      exact c0.imp nofk
  · rw [ek]
    by_cases c : s = f
    · rw [if_pos c]
      exact (decide_eq_true ((mg s).mpr (.inr c))).symm
    · rw [if_neg c, I.tks]
      exact decide_eq_decide.mpr ⟨fun z => (mg s).mpr (.inl z), fun z => ((mg s).mp z).resolve_right c⟩
  · rw [eg]
    have e : (S.step (upG rs o) f).gone.length = S.gone.length + 1 := by
      show (S.gone ++ [f]).length = _
      rw [List.length_append]
      rfl
    have := I.len s
    split
    · rw [List.length_append, e]
      simp only [List.length_singleton]
      omega
    · omega
  · rcases (mg s).mp hs with z | z
    · exact I.ins s z
    · rw [z]; exact ⟨hf, fo⟩
theorem hsOf_gone {up : Str → Str} : ∀ {fs : List Str} , (hsOf up fs).gone = fs := by
  have : ∀ (fs : List Str) (S : HS), (fs.foldl (HS.step up) S).gone = S.gone ++ fs := by
    intro fs
    induction fs with
    | nil => intro S; rw [List.append_nil]; rfl
    | cons f fs ih =>
      intro S
      rw [List.foldl_cons, ih]
      show S.gone ++ [f] ++ fs = _
      rw [List.append_assoc]
      rfl
  intro fs
  exact (this fs hs0).trans (List.nil_append _)
theorem hsOf_inv {ss : List Str} {rs : List (Str × Str)} {o : Str} (T : Tree ss rs) (ho : o ∈ ss) : ∀ (n : Nat) {fs : List Str}, fs.length = n → fs.Nodup → (∀ f ∈ fs, f ∈ ss ∧ f ≠ o) → HInv ss rs o (hsOf (upG rs o) fs) := by
  intro n
  induction n with
  | zero =>
    intro fs h _ _
    rw [List.eq_nil_of_length_eq_zero h]
    exact HInv.init T ho
  | succ n ih =>
    intro fs h nd m
    rcases List.eq_nil_or_concat fs with rfl | ⟨fs, f, rfl⟩
    · cases h
    · rw [List.concat_eq_append] at h nd m ⊢
      rw [hsOf_snoc]
      rw [List.nodup_append] at nd
      have I := ih (fs := fs) (by rw [List.length_append] at h; simpa using h) nd.1 fun x hx => m x (List.mem_append_left _ hx)
      have mf := m f (List.mem_append_right _ (List.mem_singleton.mpr rfl))
      exact I.step T ho mf.1 mf.2 (by rw [hsOf_gone]; exact fun z => nd.2.2 _ z _ (List.mem_singleton.mpr rfl) rfl)
/-- at the end all have been handed on to o -/
theorem all_gone {ss : List Str} {o : Str} {fs : List Str} (hn : ss.Nodup) (ho : o ∈ ss) (nd : fs.Nodup) (m : ∀ f ∈ fs, f ∈ ss ∧ f ≠ o) (l : fs.length + 1 = ss.length) : ∀ s ∈ ss, s ≠ o → s ∈ fs := by
  intro s hs so
  by_cases c : s ∈ fs
  · exact c
  · exfalso
    have : (s :: o :: fs).Nodup := by
      rw [List.nodup_cons, List.nodup_cons]
      exact ⟨fun z => (List.mem_cons.mp z).elim so c, fun z => (m o z).2 rfl, nd⟩
    have := nodup_len this fun x hx => by
      rcases List.mem_cons.mp hx with z | z
      · rw [z]; exact hs
      · rcases List.mem_cons.mp z with z | z
        · rw [z]; exact ho
        · exact (m x z).1
    rw [List.length_cons, List.length_cons] at this
    omega
end K1
end
-- ERoad
section
set_option Elab.async false
set_option linter.all false
set_option maxRecDepth 100000
set_option maxHeartbeats 1000000
namespace K1
open PySem PySem.Spec PyProof.Rows L2 W0
abbrev sRd : Stmt := inClass (top 22) 9
theorem scRd : FnScope ["self", "thing"] ["self", "thing"] (defScope sRd) := ⟨rfl, rfl, rfl, by decide +kernel, rfl, by decide +kernel, by decide +kernel⟩
def RoadV (H : Hp) (rs : List (Str × Str)) (v : V) (i : Nat) : Prop := ∃ s t : Str, SeqV H v [.str s, .str t] ∧ plOf rs s t = some i
def NoRd (K : PySem.W.Frag) (H : Hp) (ss : List Str) (rs : List (Str × Str)) (v : V) : Prop := NoSeq K H v ∨ (∃ xs, SeqV H v xs ∧ xs.length ≠ 2) ∨
  (∃ x y, SeqV H v [x, y] ∧ (NoHo K H ss x ∨ ∃ s, x = .str s ∧ s ∈ ss ∧ (NoHo K H ss y ∨ ∃ t, y = .str t ∧ t ∈ ss ∧ plOf rs s t = none)))
theorem RoadV.ext {H H' : Hp} {rs : List (Str × Str)} {v : V} {i : Nat} (h : RoadV H rs v i) (e : Same H H') : RoadV H' rs v i := by
  obtain ⟨s, t, a, b⟩ := h
  exact ⟨s, t, a.ext e, b⟩
theorem NoRd.ext {K : PySem.W.Frag} {H H' : Hp} {ss : List Str} {rs : List (Str × Str)} {v : V} (h : NoRd K H ss rs v) (e : Same H H') : NoRd K H' ss rs v := by
  rcases h with h | ⟨xs, a, b⟩ | ⟨x, y, a, h⟩
  · exact .inl (h.ext e)
  · exact .inr (.inl ⟨xs, a.ext e, b⟩)
  · refine .inr (.inr ⟨x, y, a.ext e, ?_⟩)
    rcases h with h | ⟨s, q1, q2, h⟩
    · exact .inl (h.ext e)
    · refine .inr ⟨s, q1, q2, ?_⟩
      rcases h with h | h
      · exact .inl (h.ext e)
      · exact .inr h
def spRd (K : PySem.W.Frag) (C : Addr) : Sp := fun vs H Q _ => ∃ x v ss rs ns, vs = [.ref x, v] ∧ IsV C H x ss rs ns ∧ EndsIn ss rs ∧ (((∃ i, RoadV H rs v i) ∧ ∀ H', Same H H' → Q (.bl true) H') ∨ (NoRd K H ss rs v ∧ ∀ H', Same H H' → Q (.bl false) H'))
theorem plOf_at {rs : List (Str × Str)} {s t : Str} {i : Nat} (h : plOf rs s t = some i) : ∃ hi : i < rs.length, rs[i] = (s, t) ∨ rs[i] = (t, s) := by
  unfold plOf at h
  rw [List.findIdx?_eq_some_iff_getElem] at h
  obtain ⟨hi, h, _⟩ := h
  exact ⟨hi, of_decide_eq_true h⟩
theorem plOf_in {ss : List Str} {rs : List (Str × Str)} (he : EndsIn ss rs) {s t : Str} {i : Nat} (h : plOf rs s t = some i) : s ∈ ss ∧ t ∈ ss := by
  obtain ⟨hi, h⟩ := plOf_at h
  have q := he _ (List.getElem_mem hi)
  rcases h with h | h <;> rw [h] at q
  · exact q
  · exact q.symm
theorem ixSeq {K : PySem.W.Frag} {H : Hp} {v z : V} {xs : List V} {i : Int} {Q : VK} (h : SeqV H v xs) (e : atI xs i = some z) (q : Q z H) : rIx K v (.int i) H Q := by
  obtain ⟨p, rfl, h | h⟩ := h
  · exact .inl ⟨p, xs, i, z, rfl, rfl, SqL.of h, e, q⟩
  · exact .inr (.inl ⟨p, xs, i, z, rfl, rfl, SqT.of h, e, q⟩)
section
variable {P : Program} {w : World} {K : PySem.W.Frag} {mg : Str → Option Value} {base : Heap} {CF C CN CM : Addr}
theorem ok_Rd {f fP fI : Addr} {fd pd id' : FuncData} (F : Fun K "is_road" "Valley.is_road" sRd f fd) (B : Bl mg) (T : VcT K C)
    (GP : FnOk P w K mg base CX0 2 fP pd ["thing"] (spIsPair K)) (bP : Binds K pd ["thing"] []) (kP : PySem.W.keepIn K (.ref fP) = true) (mP : mg "is_pair" = some (.ref fP))
    (GI : FnOk P w K mg base CX0 1 fI id' ["self", "thing"] (spIs K C)) (hI : Meth K C "is_house" fI) (bI : Binds K id' ["self", "thing"] []) : FnOk P w K mg base CX0 3 f fd ["self", "thing"] (spRd K C) := by
  refine F.ok scRd (fun vs H Q E h => ?_) (fun cdv A outer s H vs Q E hr h => ?_)
  · obtain ⟨x, v, ss, rs, ns, rfl, _⟩ := h
    rfl
  obtain ⟨x, v, ss, rs, ns, rfl, iv, he, h⟩ := h
  have hu := hu_of hr
  have hr1 : Room 1 _ := hr.mono (by decide)
  refine ⟨_, pss_cons (by exact (ps_if (PW.pt (pw_or (pt_not (pt_val (pe_call GP hr rfl mP kP bP .nil pass0 (pa_cons (pv 1) pa_nil)))) (pw_or (pt_not (pt_val (pe_meth (pv 0) T.cl hI GI hr1 bI .nil pass0 (pa_cons (pe_ix ix_seq (pv 1) pe_int (fun _ _ => rfl)) pa_nil)))) (pw_or1 (pt_not (pt_val (pe_meth (pv 0) T.cl hI GI hr1 bI .nil pass0 (pa_cons (pe_ix ix_seq (pv 1) pe_int (fun _ _ => rfl)) pa_nil)))))))) (pss_one (by exact (ps_ret pe_bl))) pss_nil))
    (pss_one (by exact (ps_ret (pe_cmp (pc_din hu (pe_tup (pa_cons (pe_ix ix_seq (pv 1) pe_int (fun _ _ => rfl)) (pa_cons (pe_ix ix_seq (pv 1) pe_int (fun _ _ => rfl)) pa_nil))) (pe_fld (pv 0) rfl)) (by with_unfolding_all rfl))))), ?_⟩
  obtain ⟨ln, l1, l2, l3, d1, d2, d3, qs, bs, vx⟩ := id iv
  have inst : ∀ H1, Same H H1 → ∃ dx fx, H1 x = some (.ins C dx fx) ∧ fx.lookup ("is_house" : Str) = none ∧ fx.lookup ("_places" : Str) = some (.ref d2) := fun H1 e => by
    obtain ⟨dx, fx, ix, f1, f2, f3, f4, f5, f6, f0⟩ := vx.ins
    exact ⟨dx, fx, e _ _ ix, f0 _ (by decide +kernel) (by decide +kernel) (by decide +kernel) (by decide +kernel) (by decide +kernel) (by decide +kernel), f5⟩
  have two : ∀ (s t : Str), SeqV H v [.str s, .str t] → s ∈ ss → t ∈ ss → (∀ H', Same H H' → Q (.bl (plOf rs s t).isSome) H') → _ := fun s t sv hs ht q => (⟨s, t, sv, hs, ht, q⟩ : ∃ s t : Str, SeqV H v [.str s, .str t] ∧ s ∈ ss ∧ t ∈ ss ∧ ∀ H', Same H H' → Q (.bl (plOf rs s t).isSome) H')
  have split : (∃ s t : Str, SeqV H v [.str s, .str t] ∧ s ∈ ss ∧ t ∈ ss ∧ ∀ H', Same H H' → Q (.bl (plOf rs s t).isSome) H') ∨ ((∀ H', Same H H' → Q (.bl false) H') ∧ (NoSeq K H v ∨ (∃ xs, SeqV H v xs ∧ xs.length ≠ 2) ∨ ∃ y z, SeqV H v [y, z] ∧ (NoHo K H ss y ∨ ∃ s, y = .str s ∧ s ∈ ss ∧ NoHo K H ss z))) := by
    rcases h with ⟨⟨i, s, t, sv, pl⟩, q⟩ | ⟨n, q⟩
    · obtain ⟨hs, ht⟩ := plOf_in he pl
      exact .inl (two s t sv hs ht (by rw [pl]; exact q))
    · rcases n with n | n | ⟨y, z, sv, n | ⟨s, e1, hs, n | ⟨t, e2, ht, pl⟩⟩⟩
      · exact .inr ⟨q, .inl n⟩
      · exact .inr ⟨q, .inr (.inl n)⟩
      · exact .inr ⟨q, .inr (.inr ⟨y, z, sv, .inl n⟩)⟩
      · exact .inr ⟨q, .inr (.inr ⟨y, z, sv, .inr ⟨s, e1, hs, n⟩⟩)⟩
      · subst e1 e2
        exact .inl (two s t sv hs ht (by rw [pl]; exact q))
  rcases split with ⟨s, t, sv, hs, ht, q⟩ | ⟨q, n | ⟨xs, sv, n⟩ | ⟨y, z, sv, n⟩⟩
  · refine ⟨_, rfl, v, rfl, .inl ⟨_, sv, fun H1 e1 => ⟨_, rfl, iteF ?_⟩⟩⟩
    obtain ⟨dx, fx, ix, f0, f5⟩ := inst H1 e1
    refine ⟨_, rfl, x, dx, fx, rfl, ix, f0, _, rfl, ixSeq (sv.ext e1) rfl ?_⟩
    refine ⟨x, _, ss, rs, ns, rfl, iv.same e1, .inl ⟨s, rfl, hs, _, rfl, iteF ?_⟩⟩
    refine ⟨_, rfl, x, dx, fx, rfl, ix, f0, _, rfl, ixSeq (sv.ext e1) rfl ?_⟩
    refine ⟨x, _, ss, rs, ns, rfl, iv.same e1, .inl ⟨t, rfl, ht, _, rfl, iteF ?_⟩⟩
    refine ⟨_, rfl, ixSeq (sv.ext e1) rfl ?_⟩
    refine ⟨_, rfl, ixSeq (sv.ext e1) rfl ?_⟩
    refine ⟨(by show 2 ≤ sizeLine; decide), fun b hb => ?_⟩
    have eb := K1.Same.upd (H := H1) (p := b) (o := .tup [.str s, .str t]) hb
    obtain ⟨kv, k1, k2, k3⟩ := vx.p2
    refine ⟨_, rfl, x, C, dx, fx, _, rfl, eb _ _ ix, T.cl, T.n5, f5, d2, _, rfl, DGet.t (k := [.inr s, .inr t]) (eb _ _ (e1 _ _ k1)) upd_same, ?_⟩
    rw [k2 s t]
    have := q _ (e1.trans eb)
    cases hp : plOf rs s t with
    | none => rw [hp] at this; exact this
    | some i => rw [hp] at this; exact this
  · exact ⟨_, rfl, v, rfl, .inr ⟨n, fun H1 e1 => ⟨_, rfl, iteT (iteT (q H1 e1))⟩⟩⟩
  · refine ⟨_, rfl, v, rfl, .inl ⟨_, sv, fun H1 e1 => ⟨_, rfl, ?_⟩⟩⟩
    rw [decide_eq_false n]
    exact iteT (iteT (q H1 e1))
  · refine ⟨_, rfl, v, rfl, .inl ⟨_, sv, fun H1 e1 => ⟨_, rfl, iteF ?_⟩⟩⟩
    obtain ⟨dx, fx, ix, f0, f5⟩ := inst H1 e1
    refine ⟨_, rfl, x, dx, fx, rfl, ix, f0, _, rfl, ixSeq (sv.ext e1) rfl ?_⟩
    rcases n with n | ⟨s, rfl, hs, n⟩
    · exact ⟨x, _, ss, rs, ns, rfl, iv.same e1, .inr ⟨n.ext e1, _, rfl, iteT (iteT (q H1 e1))⟩⟩
    · refine ⟨x, _, ss, rs, ns, rfl, iv.same e1, .inl ⟨s, rfl, hs, _, rfl, iteF ?_⟩⟩
      refine ⟨_, rfl, x, dx, fx, rfl, ix, f0, _, rfl, ixSeq (sv.ext e1) rfl ?_⟩
      exact ⟨x, _, ss, rs, ns, rfl, iv.same e1, .inr ⟨n.ext e1, _, rfl, iteT (q H1 e1)⟩⟩
end
end K1
end
-- EPl
section
set_option Elab.async false
set_option linter.all false
set_option maxRecDepth 100000
set_option maxHeartbeats 1000000
namespace K1
open PySem PySem.Spec PyProof.Rows L2 W0
abbrev sBg : Stmt := top 32
abbrev sCg : Stmt := top 34
abbrev sCl : Stmt := inClass (top 9) 0
abbrev sEp : Stmt := top 33
abbrev intsV (js : List Nat) : List V := js.map fun i : Nat => V.int (i : Int)
abbrev keyN (js : List Nat) : List Key := js.map fun i : Nat => (Sum.inl (i : Int) : Key)
theorem keyN_map (js : List Nat) : (keyN js).map kV = intsV js := by
  unfold keyN intsV
  rw [List.map_map]
  rfl
theorem keyN_nodup {js : List Nat} : (keyN js).Nodup ↔ js.Nodup := by
  unfold keyN
  constructor
  · intro h
    exact List.Pairwise.of_map _ (fun a b (ne : (Sum.inl (a : Int) : Key) ≠ Sum.inl (b : Int)) z => ne (by rw [z])) h
  · intro h
    refine List.Pairwise.map _ (fun a b (ne : a ≠ b) z => ne ?_) h
    have := Sum.inl.inj z
    omega
/-- a thing is judged: a road or none -/
def Jud (K : PySem.W.Frag) (H : Hp) (ss : List Str) (rs : List (Str × Str)) (v : V) (b : Bool) : Prop := (b = true ∧ ∃ i, RoadV H rs v i) ∨ (b = false ∧ NoRd K H ss rs v)
theorem Jud.ext {K : PySem.W.Frag} {H H' : Hp} {ss : List Str} {rs : List (Str × Str)} {v : V} {b : Bool} (h : Jud K H ss rs v b) (e : Same H H') : Jud K H' ss rs v b :=
  h.imp (fun ⟨q, i, z⟩ => ⟨q, i, z.ext e⟩) fun ⟨q, z⟩ => ⟨q, z.ext e⟩
/-- unlike roads, as they are opened: their places -/
def BegV (H : Hp) (rs : List (Str × Str)) (v : V) (js : List Nat) : Prop := ∃ xs, SeqV H v xs ∧ xs.length ≤ 1000 ∧ Paired (RoadV H rs) xs js ∧ js.Nodup
def NoBeg (K : PySem.W.Frag) (H : Hp) (ss : List Str) (rs : List (Str × Str)) (v : V) : Prop := NoSeq K H v ∨ (∃ xs bs, SeqV H v xs ∧ xs.length ≤ 1000 ∧ Paired (Jud K H ss rs) xs bs ∧ bs.all id = false) ∨
  (∃ xs js, SeqV H v xs ∧ xs.length ≤ 1000 ∧ Paired (RoadV H rs) xs js ∧ ¬ js.Nodup)
def spBg (K : PySem.W.Frag) (C : Addr) : Sp := fun vs H Q _ => ∃ x v ss rs ns, vs = [.ref x, v] ∧ IsV C H x ss rs ns ∧ EndsIn ss rs ∧
  ((∃ js, BegV H rs v js ∧ ∀ p H', Same H H' → H p = none → H' p = some (.lst (intsV js)) → Q (.ref p) H') ∨ (NoBeg K H ss rs v ∧ ∀ H', Same H H' → Q .non H'))
def EvV (H : Hp) (rs : List (Str × Str)) (v : V) (js : List Nat) : Prop := BegV H rs v js ∧ js.length = rs.length
def NoEv (K : PySem.W.Frag) (H : Hp) (ss : List Str) (rs : List (Str × Str)) (v : V) : Prop := NoBeg K H ss rs v ∨ ∃ js, BegV H rs v js ∧ js.length ≠ rs.length
def spEp (K : PySem.W.Frag) (C : Addr) : Sp := fun vs H Q _ => ∃ x v ss rs ns, vs = [.ref x, v] ∧ IsV C H x ss rs ns ∧ EndsIn ss rs ∧
  ((∃ js, EvV H rs v js ∧ ∀ p H', Same H H' → H p = none → H' p = some (.lst (intsV js)) → Q (.ref p) H') ∨ (NoEv K H ss rs v ∧ ∀ H', Same H H' → Q .non H'))
def spCg (K : PySem.W.Frag) (C CC : Addr) : Sp := fun vs H Q E => ∃ x v ss rs ns, vs = [.ref x, v] ∧ IsV C H x ss rs ns ∧ EndsIn ss rs ∧
  ((∃ js, EvV H rs v js ∧ ∀ p H', Same H H' → H p = none → H' p = some (.lst (intsV js)) → Q (.ref p) H') ∨ (NoEv K H ss rs v ∧ GoesF CC [("evening", v)] H E))
theorem scEp : FnScope ["valley", "thing", "places"] ["valley", "thing"] (defScope sEp) := ⟨rfl, rfl, rfl, by decide +kernel, rfl, by decide +kernel, by decide +kernel⟩
theorem scCg : FnScope ["valley", "evening", "places"] ["valley", "evening"] (defScope sCg) := ⟨rfl, rfl, rfl, by decide +kernel, rfl, by decide +kernel, by decide +kernel⟩
theorem scBg : FnScope ["valley", "thing", "road", "places"] ["valley", "thing"] (defScope sBg) := ⟨rfl, rfl, rfl, by decide +kernel, rfl, by decide +kernel, by decide +kernel⟩
theorem paired_true {H : Hp} {K : PySem.W.Frag} {ss : List Str} {rs : List (Str × Str)} {xs : List V} {js : List Nat} (h : Paired (RoadV H rs) xs js) : Paired (Jud K H ss rs) xs (js.map fun _ => true) := by
  induction h with
  | nil => exact .nil
  | cons a _ ih => exact .cons (.inl ⟨rfl, _, a⟩) ih
section
variable {P : Program} {w : World} {K : PySem.W.Frag} {mg : Str → Option Value} {base : Heap} {CF C CN CO CC : Addr}
theorem ok_Bg {f fL fR fP : Addr} {fd ld rd pd : FuncData} (F : Fun K "begun_places" "begun_places" sBg f fd) (B : Bl mg) (T : VcT K C) (ms : mg "set" = none)
    (GL : FnOk P w K mg base CX0 1 fL ld ["thing"] (spIsList K)) (bL : Binds K ld ["thing"] []) (kL : PySem.W.keepIn K (.ref fL) = true) (mL : mg "is_list" = some (.ref fL))
    (GR : FnOk P w K mg base CX0 3 fR rd ["self", "thing"] (spRd K C)) (hR : Meth K C "is_road" fR) (bR : Binds K rd ["self", "thing"] [])
    (GP : FnOk P w K mg base (L2.CX P w) 4 fP pd ["self", "one", "other"] (spPl K C CN CO)) (hP : Meth K C "place" fP) (bP : Binds K pd ["self", "one", "other"] []) : FnOk P w K mg base CX0 5 f fd ["valley", "thing"] (spBg K C) := by
  refine F.ok scBg (fun vs H Q E h => ?_) (fun cdv A outer s H vs Q E hr h => ?_)
  · obtain ⟨x, v, ss, rs, ns, rfl, _⟩ := h
    rfl
  obtain ⟨x, v, ss, rs, ns, rfl, iv, he, h⟩ := h
  have nd := scBg.nd
  have hr1 : Room 1 _ := hr.mono (by decide)
  have hr3 : Room 3 _ := hr.mono (by decide)
  have hr4 : Room 4 _ := hr.mono (by decide)
  refine ⟨_, (pss_cons (by exact (ps_if (PW.pt (pw_or (pt_not (pt_val (pe_call GL hr1 rfl mL kL bL .nil pass0 (pa_cons (pv 1) pa_nil)))) (pw_or1 (pt_not (pt_val (pe_callB (cr_all rfl) rfl B.all PyProof.Rows.boot_all (pa_cons (pe_lc (own := [("road", 2)]) (g := gName 2) (tt := tYes) (te := tMeth C "is_road" (spRd K C) [] E0 (tVar 0) (tCons (tVar 2) tNil)) rfl nd (by exact pi_seqV 1 (pv 1)) (by exact blkOk_by (N := ["valley", "thing", "road", "places"]) (sc := defScope sBg) (by decide +kernel)) (fun _ _ _ _ _ => by exact (pg_name (i := 2) nd rfl (.inl rfl))) (fun _ _ _ _ _ => by exact pts_nil) (fun _ _ _ _ _ => by exact (pe_meth (pv 0) T.cl hR GR hr3 bR .nil pass0 (pa_cons (pv 2) pa_nil)))) pa_nil))))))) (pss_one (by exact (ps_ret pe_non))) pss_nil))
  (pss_cons (by exact (ps_setLc (i := 3) (own := [("road", 2)]) (g := gName 2) (tt := tYes) (te := tMeth C "place" (spPl K C CN CO) [] E0 (tVar 0) (tCons (tOp (rIx K) (tVar 2) (tC (.int 0))) (tCons (tOp (rIx K) (tVar 2) (tC (.int 1))) tNil))) rfl nd rfl rfl (sw_true rfl rfl rfl (by decide +kernel)) (by exact pi_seqV 1 (pv 1)) (by exact blkOk_by (N := ["valley", "thing", "road", "places"]) (sc := defScope sBg) (by decide +kernel)) (fun _ _ _ _ _ => by exact (pg_name (i := 2) nd rfl (.inl rfl))) (fun _ _ _ _ _ => by exact pts_nil) (fun _ _ _ _ _ => by exact (pe_meth (pv 0) T.cl hP GP hr4 bP .nil passL (pa_cons (pe_ix ix_seq (pv 2) pe_int (fun _ _ => rfl)) (pa_cons (pe_ix ix_seq (pv 2) pe_int (fun _ _ => rfl)) pa_nil))))))
  (pss_cons (by exact (ps_if (pt_cmpR op_ne (pe_callB (r := rLenS P w) cr_lenS rfl B.len PySem.boot_len (pa_cons (pe_callTy (r := rSetL K P w) (cr_setL rfl) rfl ms PyProof.Rows.boot_set (pa_cons (pv 3) pa_nil)) pa_nil)) (pe_callB call_len_seq rfl B.len PySem.boot_len (pa_cons (pv 3) pa_nil)) (nomark _)) (pss_one (by exact (ps_ret pe_non))) pss_nil))
  (pss_one (by exact (ps_ret (pv 3))))))), ?_⟩
  have inst : ∀ H1, Same H H1 → ∃ dx fx, H1 x = some (.ins C dx fx) ∧ fx.lookup ("is_road" : Str) = none ∧ fx.lookup ("place" : Str) = none := fun H1 e => by
    obtain ⟨dx, fx, ix, f0⟩ := iv.inst
    exact ⟨dx, fx, e _ _ ix, f0 _ (by decide +kernel), f0 _ (by decide +kernel)⟩
  -- the first list: what is a road
  have judge : ∀ (H1 : Hp) (xs : List V) (bs : List Bool) (QQ : VK), Same H H1 → SeqV H v xs → xs.length ≤ 1000 → Paired (Jud K H ss rs) xs bs → (∀ D H2, Same H1 H2 → H2 D = some (.lst (bs.map V.bl)) → QQ (.ref D) H2) →
      tLc (iSeqV K 1) (gName 2) tYes (tMeth C "is_road" (spRd K C) [] E0 (tVar 0) (tCons (tVar 2) tNil)) [2] [some (.ref x), some v, none, none] H1 QQ := by
    intro H1 xs bs QQ e1 sv lx pr qq
    obtain ⟨p, rfl, hp⟩ := sv
    have hp1 : H1 p = some (.lst xs) ∨ H1 p = some (.tup xs) := hp.imp (e1 _ _) (e1 _ _)
    have lb : xs.length = bs.length := pr.length
    refine ⟨p, xs, rfl, hp1.imp (fun h => SqL.of h) (fun h => SqT.of h), fun J G wk hG D hD => ?_⟩
    refine lc_it wk (fun i Hc => Same H1 Hc ∧ Hc D = some (.lst ((bs.take i).map V.bl))) ⟨K1.Same.upd hD, upd_same⟩ (fun i Hc _ h => hG Hc fun o ho => h.1 _ _ ho) ?_ ?_
    · rintro i y Hc H' hi ⟨c1, c2⟩ ⟨rfl, hy⟩
      have hi2 : i < bs.length := by omega
      obtain ⟨y', ey, ry⟩ := paired_get pr hi2
      obtain rfl : y' = y := Option.some.inj (ey.symm.trans hy)
      refine ⟨rfl, ?_⟩
      unfold tYes
      refine iteT ?_
      obtain ⟨dx, fx, ix, f1, _⟩ := inst H' (e1.trans c1)
      refine ⟨_, rfl, x, dx, fx, rfl, ix, f1, _, rfl, x, y', ss, rs, ns, rfl, iv.same (e1.trans c1), he, ?_⟩
      have us := take_snoc (xs := bs) hi2
      have fin : ∀ b, b = bs[i] → ∀ H2, Same H' H2 → ∃ acc, H2 D = some (.lst acc) ∧ acc.length < sizeLine ∧ (Same H1 (L2.upd H2 D (.lst (acc ++ [V.bl b]))) ∧ L2.upd H2 D (.lst (acc ++ [V.bl b])) D = some (.lst ((bs.take (i + 1)).map V.bl))) := by
        rintro b rfl H2 e2
        refine ⟨_, e2 _ _ c2, by rw [List.length_map, List.length_take]; exact small1000 (by omega), ps_same_upd (c1.trans e2) hD, ?_⟩
        rw [upd_same, us, List.map_append]
        rfl
      rcases ry with ⟨eb, z⟩ | ⟨eb, z⟩
      · obtain ⟨j, z⟩ := z
        exact .inl ⟨⟨j, z.ext (e1.trans c1)⟩, fin true eb.symm⟩
      · exact .inr ⟨z.ext (e1.trans c1), fin false eb.symm⟩
    · rintro Hc ⟨c1, c2⟩
      rw [lb, List.take_length] at c2
      exact qq D Hc c1 c2
  -- the second list: the places
  have plac : ∀ (H1 : Hp) (xs : List V) (js : List Nat) (QQ : VK), Same H H1 → SeqV H v xs → xs.length ≤ 1000 → Paired (RoadV H rs) xs js → (∀ D H2, Same H1 H2 → H1 D = none → H2 D = some (.lst (intsV js)) → QQ (.ref D) H2) →
      tLc (iSeqV K 1) (gName 2) tYes (tMeth C "place" (spPl K C CN CO) [] E0 (tVar 0) (tCons (tOp (rIx K) (tVar 2) (tC (.int 0))) (tCons (tOp (rIx K) (tVar 2) (tC (.int 1))) tNil))) [2] [some (.ref x), some v, none, none] H1 QQ := by
    intro H1 xs js QQ e1 sv lx pr qq
    obtain ⟨p, rfl, hp⟩ := sv
    have hp1 : H1 p = some (.lst xs) ∨ H1 p = some (.tup xs) := hp.imp (e1 _ _) (e1 _ _)
    have lb : xs.length = js.length := pr.length
    refine ⟨p, xs, rfl, hp1.imp (fun h => SqL.of h) (fun h => SqT.of h), fun J G wk hG D hD => ?_⟩
    refine lc_it wk (fun i Hc => Same H1 Hc ∧ Hc D = some (.lst (intsV (js.take i)))) ⟨K1.Same.upd hD, upd_same⟩ (fun i Hc _ h => hG Hc fun o ho => h.1 _ _ ho) ?_ ?_
    · rintro i y Hc H' hi ⟨c1, c2⟩ ⟨rfl, hy⟩
      have hi2 : i < js.length := by omega
      obtain ⟨y', ey, s, t, sv, pl⟩ := paired_get pr hi2
      obtain rfl : y' = y := Option.some.inj (ey.symm.trans hy)
      refine ⟨rfl, ?_⟩
      unfold tYes
      refine iteT ?_
      have e2 := e1.trans c1
      obtain ⟨dx, fx, ix, _, f1⟩ := inst H' e2
      obtain ⟨hs, ht⟩ := plOf_in he pl
      refine ⟨_, rfl, x, dx, fx, rfl, ix, f1, _, rfl, ixSeq (sv.ext e2) rfl ?_⟩
      refine ⟨_, rfl, ixSeq (sv.ext e2) rfl ?_⟩
      refine ⟨x, _, _, ss, rs, ns, rfl, iv.same e2, .inr ⟨s, rfl, hs, .inr ⟨t, rfl, ht, .inr ⟨js[i], pl, fun H2 e3 => ?_⟩⟩⟩⟩
      have us := take_snoc (xs := js) hi2
      refine ⟨_, e3 _ _ c2, by unfold intsV; rw [List.length_map, List.length_take]; exact small1000 (by omega), ps_same_upd (c1.trans e3) hD, ?_⟩
      unfold intsV
      rw [upd_same, us, List.map_append]
      rfl
    · rintro Hc ⟨c1, c2⟩
      rw [lb, List.take_length] at c2
      exact qq D Hc c1 hD c2
  have go : (∃ xs js, SeqV H v xs ∧ xs.length ≤ 1000 ∧ Paired (RoadV H rs) xs js ∧ ∀ p H3, Same H H3 → H p = none → H3 p = some (.lst (intsV js)) → ∀ H4, Same H3 H4 → if js.Nodup then Q (.ref p) H4 else Q .non H4) ∨ ((∀ H', Same H H' → Q .non H') ∧ (NoSeq K H v ∨ ∃ xs bs, SeqV H v xs ∧ xs.length ≤ 1000 ∧ Paired (Jud K H ss rs) xs bs ∧ bs.all id = false)) := by
    rcases h with ⟨js, ⟨xs, sv, lx, pr, ndj⟩, q⟩ | ⟨n | n | ⟨xs, js, sv, lx, pr, ndj⟩, q⟩
    · exact .inl ⟨xs, js, sv, lx, pr, fun p H3 e3 np gp H4 e4 => by rw [if_pos ndj]; exact q p H4 (e3.trans e4) np (e4 _ _ gp)⟩
    · exact .inr ⟨q, .inl n⟩
    · exact .inr ⟨q, .inr n⟩
    · exact .inl ⟨xs, js, sv, lx, pr, fun p H3 e3 np gp H4 e4 => by rw [if_neg ndj]; exact q H4 (e3.trans e4)⟩
  rcases go with ⟨xs, js, sv, lx, pr, z⟩ | ⟨q, n | ⟨xs, bs, sv, lx, pr, al⟩⟩
  · obtain ⟨t, ty, kt, st⟩ := sv.ty (K := K)
    refine ⟨_, rfl, v, t, rfl, ty, kt, fun H1 e1 => ⟨_, rfl, ?_⟩⟩
    rw [st]
    refine iteF ?_
    unfold tNot tB tCB
    refine cons_run ?_
    refine judge H1 xs (js.map fun _ => true) _ e1 sv lx (paired_true pr) fun D H2 e2 gD => ?_
    refine ⟨D, _, rfl, SqL.of gD, _, rfl, ?_⟩
    have al : (js.map fun _ => true).all id = true := by simp
    rw [al]
    refine iteF ?_
    have e12 := e1.trans e2
    refine nQ ?_
    with_reducible refine sQ ?_
    unfold tAsg
    refine plac H2 xs js _ e12 sv lx pr fun p H3 e3 np gp => ?_
    refine K1.gN ?_
    have lj : js.length ≤ 1000 := by rw [← pr.length]; exact lx
    refine ⟨_, rfl, p, keyN js, rfl, SqL.of (by rw [keyN_map]; exact gp), by unfold keyN; rw [List.length_map]; exact lj, fun m hm => ?_⟩
    have e4 := K1.Same.upd (H := H3) (p := m) (o := setOn P w m (keyN js)) hm
    have gm := upd_same' H3 m (setOn P w m (keyN js))
    generalize L2.upd H3 m (setOn P w m (keyN js)) = H4 at e4 gm ⊢
    have lk : (keyN js).length = js.length := by unfold keyN; rw [List.length_map]
    have lo : (once [] (keyN js)).length ≤ 1000 := by have := once_len (keyN js) []; simp only [List.length_nil] at this; omega
    refine ⟨m, _, _, rfl, gm, lo, ?_⟩
    refine ⟨_, rfl, p, _, rfl, .inl (SqL.of (e4 _ _ gp)), ?_⟩
    have z4 := z p H3 (e12.trans e3) (e12.free np) gp H4 e4
    have ne : decide (V.int ((once [] (keyN js)).length : Int) = V.int ((intsV js).length : Int)) = decide js.Nodup := by
      refine decide_eq_decide.mpr ?_
      have li : (intsV js).length = js.length := List.length_map ..
      rw [li, ← keyN_nodup, ← once_full, lk]
      exact ⟨fun q => by have := V.int.inj q; omega, fun q => by rw [q]⟩
    refine ⟨rfl, _, congrArg (fun b => V.bl (!b)) ne, ?_⟩
    by_cases nj : js.Nodup
    · rw [if_pos nj] at z4
      rw [decide_eq_true nj]
      exact iteF ⟨_, rfl, z4⟩
    · rw [if_neg nj] at z4
      rw [decide_eq_false nj]
      exact iteT z4
  · obtain ⟨t, ty, kt, st⟩ := n
    refine ⟨_, rfl, v, t, rfl, ty, kt, fun H1 e1 => ⟨_, rfl, ?_⟩⟩
    rw [st]
    exact iteT (iteT (q H1 e1))
  · obtain ⟨t, ty, kt, st⟩ := sv.ty (K := K)
    refine ⟨_, rfl, v, t, rfl, ty, kt, fun H1 e1 => ⟨_, rfl, ?_⟩⟩
    rw [st]
    refine iteF ?_
    unfold tNot tB tCB
    refine cons_run ?_
    refine judge H1 xs bs _ e1 sv lx pr fun D H2 e2 gD => ?_
    refine ⟨D, bs, rfl, SqL.of gD, _, rfl, ?_⟩
    rw [al]
    exact iteT (q H2 (e1.trans e2))
end
end K1
end
-- VWord
section
set_option Elab.async false
set_option linter.all false
set_option maxRecDepth 100000
set_option maxHeartbeats 1000000
namespace K1
open PySem PySem.Spec PyProof PyProof.Rows L2 PySem.W
theorem refs_are : ∀ {ps : List Addr} {us : List Value}, Vals (ps.map V.ref) us → us = ps.map Value.ref
  | [], us, r => by cases r; rfl
  | p :: ps, us, r => by
    rw [List.map_cons] at r
    cases r with
    | cons h t => cases h; rw [List.map_cons, refs_are t]
/-- pairs whose first is a tuple of keys -/
def PrK (K : PySem.W.Frag) (H : Hp) (p : Addr) (e : List Key × Addr × V) : Prop := SqT K H p [.ref e.2.1, e.2.2] ∧ H e.2.1 = some (.tup (e.1.map kV))
theorem prk_of {X : Cx} {pins : List (Addr × Obj)} {σ : L2.St} {H : Hp} {s : Shared} (I : Inv X pins σ H s) : ∀ {ps : List Addr} {es : List (List Key × Addr × V)}, Paired (PrK X.K H) ps es →
    ∃ qs : List (List Key × Addr × Value), qs.length = ps.length ∧ Paired (fun (p : List Key × V) (q : List Key × Addr × Value) => p.1 = q.1 ∧ H q.2.1 = some (.tup (p.1.map kV)) ∧ RelV p.2 q.2.2) (es.map fun e => (e.1, e.2.2)) qs ∧
      (qs.map (·.1)) = es.map (·.1) ∧ ∀ (j : Nat) (q : List Key × Addr × Value), qs[j]? = some q → ∃ b, ps[j]? = some b ∧ IsTup s.heap b #[.ref q.2.1, q.2.2]
  | _, _, .nil => ⟨[], rfl, .nil, rfl, fun j q e => by simp at e⟩
  | p :: _, e :: _, .cons h t => by
    obtain ⟨qs, l, r, ks, hq⟩ := prk_of I t
    obtain ⟨its, rv, ht, _⟩ := I.tuple h.1
    obtain ⟨u, y, ei, ru, ry⟩ := vals2 rv
    cases ru
    subst ei
    refine ⟨(e.1, e.2.1, y) :: qs, by simp [l], .cons ⟨rfl, h.2, ry⟩ r, by simp [ks], fun j q z => ?_⟩
    cases j with
    | zero =>
      obtain rfl : (e.1, e.2.1, y) = q := Option.some.inj z
      exact ⟨p, rfl, ht⟩
    | succ j =>
      obtain ⟨b, z1, z2⟩ := hq j q (by simpa using z)
      exact ⟨b, by simpa using z1, z2⟩
theorem stored_all {K : Type} [DecidableEq K] : ∀ (ps xs : List (K × Addr × Value)), ((xs ++ ps).map (·.1)).Nodup → storedAllH xs ps = xs ++ ps
  | [], xs, _ => (List.append_nil xs).symm
  | q :: ps, xs, n => by
    have hq : q.1 ∉ xs.map (·.1) := fun h => by
      rw [List.map_append, List.map_cons] at n
      exact (List.nodup_append.mp n).2.2 _ h _ (List.mem_cons_self ..) rfl
    have ha : atKey xs q.1 = none := by
      cases e : atKey xs q.1 with
      | none => rfl
      | some z =>
        exfalso
        refine hq ?_
        clear hq n
        induction xs with
        | nil => cases e
        | cons x xs ih =>
          by_cases h : x.1 = q.1
          · rw [List.map_cons, h]
            exact List.mem_cons_self ..
          · refine List.mem_cons_of_mem _ (ih ?_)
            unfold atKey at e ⊢
            rw [List.find?_cons, decide_eq_false (fun z => h z)] at e
            exact e
    show storedAllH (storedH xs q.1 q.2.1 q.2.2) ps = _
    rw [storedH_new ha, stored_all ps (xs ++ [q]) (by rw [List.append_assoc]; exact n), List.append_assoc]
    rfl
/-- dict(xs) of pairs whose first is a tuple of keys, no two of them alike -/
theorem call_dictT {X : Cx} (calm : X.calm = true) (hu : X.A.units + 2 < cLine) : CallR X (.type "dict") (fun xs H Q => ∃ (a : Addr) (ps : List Addr) (es : List (List Key × Addr × V)), xs = [V.ref a] ∧ SqL X.K H a (ps.map V.ref) ∧ Paired (PrK X.K H) ps es ∧ (es.map (·.1)).Nodup ∧
    ∀ p, H p = none → Q (.ref p) (L2.upd H p (.dT (es.map fun e => (e.1, e.2.2))))) := by
  intro pins s σ H xs us Q I r q
  obtain ⟨a, ps, es, ex, hq, hp, nk, q⟩ := q
  subst ex
  obtain ⟨u, eu, rx⟩ := vals1 r
  subst eu
  cases rx
  obtain ⟨its, rv, pl, hz⟩ := I.list hq
  have ei := refs_are rv
  subst ei
  rw [List.length_map] at hz
  obtain ⟨qs, lq, kt, ks, hqs⟩ := prk_of I hp
  have lp : ps.length = es.length := hp.length
  have hsm : (s.heap.objs.size == sysModules) = false := beq_eq_false_iff_ne.mpr (Nat.ne_of_gt I.big)
  have keyH : ∀ x ∈ qs, H x.2.1 = some (.tup (x.1.map kV)) := fun x hx => by
    obtain ⟨j, hj, rfl⟩ := List.mem_iff_getElem.mp hx
    obtain ⟨y, h1, h2, h3, h4⟩ := paired_get kt hj
    rw [← h2]
    exact h3
  refine call_dict_pairsH (knd := tupleKind (mixKind X.prog X.w)) (ps := qs) (PairArg.list a (ps.map Value.ref).toArray (fun j => ps.getD j 0) (qs.map fun x => (Value.ref x.2.1, x.2.2))) (I.ok.hd calm) ?room ⟨?plain, ?items⟩ ⟨?len, ?have_⟩ ?stay ?size fun h' tk hd' hk => ?fin
  case room => exact hu
  case plain =>
    obtain ⟨o, n, ho, hc, hd, hdat⟩ := pl
    exact ⟨o, n, ho, hc, hd, hdat⟩
  case items =>
    refine ⟨by simp [lq], fun j k v hj => ?_⟩
    rw [List.getElem?_map] at hj
    obtain ⟨x, hx, he⟩ := Option.map_eq_some_iff.mp hj
    cases he
    obtain ⟨b, z1, z2⟩ := hqs j x hx
    have z3 : ps.getD j 0 = b := by rw [List.getD_eq_getElem?_getD, z1]; rfl
    refine ⟨by simp [z1], ?_⟩
    show PairAt s.heap (ps.getD j 0) _ _
    rw [z3]
    exact .inl z2
  case len => simp
  case have_ =>
    intro i key v hj
    have hj : (qs.map fun x => (Value.ref x.2.1, x.2.2))[i]? = some (key, v) := hj
    rw [List.getElem?_map] at hj
    obtain ⟨x, hx, he⟩ := Option.map_eq_some_iff.mp hj
    cases he
    exact ⟨x.1, x.2.1, hx, rfl⟩
  case stay =>
    intro h' keep x hx
    obtain ⟨_, its, r', o, h1, h2, n, h3⟩ := (show ObjOk X.prog X.w H s.heap x.2.1 (.tup (x.1.map kV)) from I.hok _ _ (keyH x hx))
    exact ⟨o, its.toArray, n, keep _ _ (Nat.ne_of_lt (Heap.lt_size h1)) (by simp) h1, h2, h3, by simpa using items_are r'⟩
  case size => rw [List.length_map, lq]; exact hz
  case fin =>
    have sa := stored_all qs [] (by rw [List.nil_append, ks]; exact nk)
    rw [List.nil_append] at sa
    rw [sa] at hd'
    obtain ⟨o, es', ep, g1, g2, g3, g4, g5, g6⟩ := hd'
    have fr : ∀ b u, H b = some u → b ≠ s.heap.objs.size := fun b u e z => by
      rw [z, I.hok.fresh (Nat.le_refl _)] at e
      cases e
    refine ⟨.ref s.heap.objs.size, L2.upd H s.heap.objs.size (.dT (es.map fun e => (e.1, e.2.2))), I.laid (t' := tk) (fun b u e => hk b u (by simp) e) (Nat.le_refl _) (show ObjOk X.prog X.w _ _ _ (.dT (es.map fun e => (e.1, e.2.2))) from ⟨by rw [List.length_map, ← lp]; exact hz, hsm, qs, ?_, o, es', ep, g1, g2, g3, g4, g6⟩), rfl, q _ (I.hok.fresh (Nat.le_refl _))⟩
    exact paired_imp (fun p x z => ⟨z.1, by rw [upd_ne (fr _ _ z.2.1)]; exact z.2.1, z.2.2⟩) kt
end K1
end
-- VSame
section
set_option Elab.async false
set_option linter.all false
set_option maxRecDepth 100000
set_option maxHeartbeats 1000000
namespace K1
open PySem PySem.Spec PyProof PyProof.Rows L2 PySem.W PySem.SeqAt
open AutoSeq1 (wpAny_loadPart')
open MeetsSeq MeetsSeq2 MeetsSeq3 SeqRoads2
section
variable {prog : Program} {w : World} {K : Type} [DecidableEq K] {knd : HeapKind prog w K} {A : Around} {E : Value → Shared → Prop} {s : Shared}
theorem all_drop {e : Nat → Bool} {n i : Nat} (hi : i < n) : ((List.range n).drop i).all e = (e i && ((List.range n).drop (i + 1)).all e) := by
  rw [List.drop_eq_getElem_cons (by simpa using hi), List.all_cons]
  simp
/-- two dicts with the same keys (tuples) at the same places -/
theorem same_keyed {nm : String} {a b : Addr} {ka kb : List (K × Addr × Value)} {e : Nat → Bool} {Q : Bool → Shared → Prop} (hu : knd.room A) (ha : (a == sysModules) = false) (hb : (b == sysModules) = false)
    (da : s.heap.DictOfH knd a ka) (db : s.heap.DictOfH knd b kb) (ln : ka.length = kb.length) (ks : ∀ i x y, ka[i]? = some x → kb[i]? = some y → x.1 = y.1 ∧ EqP prog w A s x.2.2 y.2.2 (e i)) (h : Q ((List.range ka.length).all e) s) :
    wpAny (model prog w) A (Builtin.Dict.samePairs nm a b) Q E s := by
  obtain ⟨oa, es, ep, hoa, _, hda, hka, hia, _⟩ := da
  obtain ⟨ob, fs, ep', hob, _, hdb, hkb, hib, hnb⟩ := db
  have za := size_of_entries hka
  have zb := size_of_entries hkb
  unfold Builtin.Dict.samePairs Builtin.Dict.showsAll
  rw [if_neg (show ¬ (a == sysModules) = true by rw [ha]; exact Bool.false_ne_true), if_neg (show ¬ (b == sysModules) = true by rw [hb]; exact Bool.false_ne_true)]
  refine wpAny_bind (wpAny_pure (wpAny_bind (wpAny_pure ?_)))
  refine wpAny_bind (wpAny_dictEntries hoa hda ?_)
  dsimp only
  refine wpAny_bind (wpAny_dictEntries hob hdb ?_)
  rw [if_neg (by rw [za, zb, ln]; simp)]
  refine wpAny_bind (wpAny_dictEpoch hoa hda ?_)
  refine wpAny_bind ?_
  rw [Std.Legacy.Range.forIn_eq_forIn_range']
  simp only [Std.Legacy.Range.size, Nat.sub_zero, Nat.add_sub_cancel, Nat.div_one]
  refine wpAny_forIn_list _ (fun rest q s' => s' = s ∧ q = (none, ()) ∧ ∃ i, rest = List.range' i (es.size - i) ∧ i ≤ es.size ∧ ((List.range ka.length).all e) = ((List.range ka.length).drop i).all e) _ ?_ ?_ _ _ ⟨rfl, rfl, 0, by simp, Nat.zero_le _, by simp⟩
  · rintro x rest q s' ⟨rfl, rfl, i, hr, hi, hpre⟩
    have hlt : i < es.size := by
      rcases Nat.lt_or_ge i es.size with h | h
      · exact h
      · rw [Nat.sub_eq_zero_of_le h] at hr; simp at hr
    obtain ⟨rfl, hrest⟩ : x = i ∧ rest = List.range' (i + 1) (es.size - (i + 1)) := by
      have e : es.size - i = (es.size - (i + 1)) + 1 := by omega
      rw [e, List.range'_succ] at hr
      injection hr with h1 h2
      exact ⟨h1, h2⟩
    have la : x < ka.length := by omega
    have lb : x < kb.length := by omega
    obtain ⟨ke, ve⟩ := ks x _ _ (List.getElem?_eq_getElem la) (List.getElem?_eq_getElem lb)
    refine wpAny_bind (wpAny_dictEntries hoa hda ?_)
    rw [entry_at hka x, List.getElem?_eq_getElem la]
    show wpAny _ _ (holding [Value.ref ka[x].2.1, ka[x].2.2] _ >>= _) _ _ _
    have key := hia _ (List.getElem_mem la)
    rw [all_drop la] at hpre
    refine wpAny_bind (wpAny_holding (wpAny_bind (wpAny_dictFind_heap hu key hob hdb hkb hib hnb ?_ ?_)))
    · intro hno
      exact absurd (show kb[x]? = some (ka[x].1, kb[x].2) by rw [List.getElem?_eq_getElem lb, ke]) (hno x _)
    · intro j p hj
      obtain ⟨jl, je⟩ := List.getElem?_eq_some_iff.mp hj
      obtain rfl : j = x := idxH_unique hnb hj (show kb[x]? = some (ka[x].1, kb[x].2) by rw [List.getElem?_eq_getElem lb, ke])
      refine wpAny_bind (wpAny_dictEntries hob hdb ?_)
      rw [entry_at hkb j, List.getElem?_eq_getElem lb]
      refine wpAny_holding (ve _ _ ?_)
      cases ee : e j with
      | false =>
        rw [ee, Bool.false_and] at hpre
        rw [hpre] at h
        show wpAny _ _ (if (!false) = true then _ else _) _ _ _
        rw [if_pos (by decide)]
        exact wpAny_pure (wpAny_pure h)
      | true =>
        rw [ee, Bool.true_and] at hpre
        show wpAny _ _ (if (!true) = true then _ else _) _ _ _
        rw [if_neg (by decide)]
        refine wpAny_bind (wpAny_dictEpoch hoa hda ?_)
        rw [if_neg (by simp)]
        exact wpAny_pure ⟨rfl, rfl, j + 1, hrest, hlt, hpre⟩
  · rintro q s' ⟨rfl, rfl, i, hr, hi, hpre⟩
    have hin : i = es.size := by
      rcases Nat.lt_or_ge i es.size with h | h
      · have e : es.size - i = (es.size - (i + 1)) + 1 := by omega
        rw [e, List.range'_succ] at hr; exact nomatch hr
      · exact Nat.le_antisymm hi h
    refine wpAny_pure ?_
    rw [hpre, hin, za, show (List.range ka.length).drop ka.length = [] by simp] at h
    exact h
/-- == of two dicts with the same keys (tuples) at the same places -/
theorem eq_keyed {a b : Addr} {ka kb : List (K × Addr × Value)} {e : Nat → Bool} (hu : knd.room A.in1) (hr : A.units < cLine) (ha : (a == sysModules) = false) (hb : (b == sysModules) = false) (ne : a ≠ b)
    (da : s.heap.DictOfH knd a ka) (db : s.heap.DictOfH knd b kb) (ln : ka.length = kb.length) (ks : ∀ i x y, ka[i]? = some x → kb[i]? = some y → x.1 = y.1 ∧ EqP prog w A.in1 s x.2.2 y.2.2 (e i)) : EqP prog w A s (.ref a) (.ref b) ((List.range ka.length).all e) := by
  refine eqP_refs ne fun E Q h => ?_
  refine wpAny_richCompare_same_room (op := .Eq) da.typeIs db.typeIs PySem.F.slot_dict_eq (wpAny_call_entry PySem.F.slot_dict_eq da.typeIs PySem.F.entry_dict_eq ?_ (PySem.F.args_dict_eq_2 _ _)) hr
  show wpAny _ _ (Builtin.Dict.dictSlotArgs "__eq__" ⟨[.ref a, .ref b], []⟩ >>= _) _ _ s
  refine wpAny_bind ?_
  unfold Builtin.Dict.dictSlotArgs
  refine wpAny_bind (wpAny_notOrdered_dict da.typeIs ?_)
  show wpAny _ _ (pure (Value.ref a, Value.ref b)) _ _ s
  refine wpAny_pure ?_
  refine wpAny_bind (wpAny_isInstance (T := "dict") db.typeIs PySem.F.sub_dict_dict ?_)
  simp only [Bool.not_true, Bool.false_eq_true, if_false]
  refine wpAny_bind (wpAny_pure (wpAny_bind (wpAny_pure ?_)))
  refine wpAny_bind (same_keyed hu ha hb da db ln ks ?_)
  refine wpAny_pure ⟨_, rfl, ?_, ?_⟩
  · exact fun x => nomatch x
  · simpa using h
end
section
variable {prog : Program} {w : World}
/-- a list's walk for an equal item, each comparison told -/
theorem has_loop (l : Addr) (items : Array Value) (n : Nat) (dd : Option Addr) (sl : Array (Option Value)) (x : Value) (e : Nat → Bool) : ∀ k i : Nat, items.size - i = k →
    MeetsIn prog w (Builtin.«list.__contains__.loop» ⟨[.ref l, x, rawInt i], []⟩) fun A R s => s.heap.get? l = some { cls := .type "list", dict := dd, data := .seq items n, slots := sl } ∧
      (∀ j (hj : j < items.size), EqP prog w A.in1 s items[j] x (e j)) ∧ R (.ok (.ret (.bool (((List.range items.size).drop i).any e)))) s
  | 0, i, hk => by
    intro A R s h
    obtain ⟨hp, g, d, tk, os⟩ := s
    obtain ⟨hl, he, h⟩ := h
    wp_walk using wpAny_loadPart' hl
    have h0 : items[((i : Nat) : Int).toNat]? = none := by simp; omega
    have h1 : (List.range items.size).drop i = [] := by simp; omega
    rw [h1] at h
    rw [h0]
    wp_walk
    exact h
  | k + 1, i, hk => by
    intro A R s h
    obtain ⟨hp, g, d, tk, os⟩ := s
    obtain ⟨hl, he, h⟩ := h
    wp_walk using wpAny_loadPart' hl
    have lt : i < items.size := by omega
    have h0 : items[((i : Nat) : Int).toNat]? = some items[i] := by simp [lt]
    have h1 : (List.range items.size).drop i = i :: (List.range items.size).drop (i + 1) := by simp [List.drop_eq_getElem_cons, lt]
    rw [h1, List.any_cons] at h
    rw [h0]
    refine wpAny_bind (he i lt _ _ ?_)
    cases eb : e i with
    | true =>
      rw [eb] at h
      wp_walk
      exact h
    | false =>
      rw [eb] at h
      wp_walk
      rw [show ((i : Int) + 1) = ((i + 1 : Nat) : Int) by push_cast; rfl]
      exact ⟨plainId_quiet plain_contains_loop _, codeAny_builtin entry_contains_loop (by
        rw [Around.under_plainId plain_contains_loop _]
        exact has_loop l items n dd sl x e k (i + 1) (by omega) A R _ ⟨hl, he, by simpa using h⟩)⟩
theorem has_list (l : Addr) (items : Array Value) (n : Nat) (dd : Option Addr) (sl : Array (Option Value)) (x : Value) (e : Nat → Bool) :
    MeetsIn prog w (Builtin.«list.__contains__» ⟨[.ref l, x], []⟩) fun A R s => s.heap.get? l = some { cls := .type "list", dict := dd, data := .seq items n, slots := sl } ∧
      (∀ j (hj : j < items.size), EqP prog w A.in1 s items[j] x (e j)) ∧ R (.ok (.ret (.bool ((List.range items.size).any e)))) s := by
  intro A R s h
  obtain ⟨hp, g, d, tk, os⟩ := s
  obtain ⟨hl, he, h⟩ := h
  wp_walk using wpAny_loadPart' hl
  exact ⟨plainId_quiet plain_contains_loop _, codeAny_builtin entry_contains_loop (by
    rw [Around.under_plainId plain_contains_loop _]
    exact has_loop l items n dd sl x e _ 0 rfl A R _ ⟨hl, he, by simpa using h⟩)⟩
theorem not_in {A : Around} {E : Value → Shared → Prop} {s : Shared} {l : Addr} {items : Array Value} {x : Value} {e : Nat → Bool} {Q : Value → Shared → Prop} (hl : s.heap.IsList l items) (he : ∀ j (hj : j < items.size), EqP prog w A.in1 s items[j] x (e j))
    (h : Q (.bool (!((List.range items.size).any e))) s) : wpAny (model prog w) A (compareOp .NotIn x (.ref l)) Q E s := by
  obtain ⟨⟨cls, dd, data, sl⟩, ho, hc, n, hd⟩ := id hl
  simp only at hc hd
  subst hc hd
  show wpAny _ A (do return .bool (!(← contains (.ref l) x))) Q E s
  have run : wpAny (model prog w) A (call (.builtin "list.__contains__") [.ref l, x]) (fun v s' => ∃ b, v = .bool b ∧ Q (.bool (!b)) s') E s :=
    call_meetsIn PySem.F.slot_list_contains ⟨_, ho, rfl⟩ PySem.F.entry_list_contains (PySem.F.args_list_contains_2 _ _) (has_list l items n dd sl x e) ⟨ho, he, _, rfl, h⟩
  refine wpAny_bind (wpAny_contains_slot (T := "list") ⟨_, ho, rfl⟩ PySem.F.slot_list_contains (wpAny_mono run (fun v s' hv => ?_) fun _ _ z => z))
  obtain ⟨b, rfl, hq⟩ := hv
  exact wpAny_truthy_bool (wpAny_pure hq)
end
end K1
end
-- VNotIn
section
set_option Elab.async false
set_option linter.all false
set_option maxRecDepth 100000
set_option maxHeartbeats 1000000
namespace K1
open PySem PySem.Spec PyProof PyProof.Rows L2 PySem.W PySem.SeqAt
/-- a road as a key -/
def keyR (e : Str × Str) : List Key := [.inr e.1, .inr e.2]
theorem keyR_inj {a b : Str × Str} (h : keyR a = keyR b) : a = b := by
  unfold keyR at h
  simp at h
  exact Prod.ext h.1 h.2
/-- a dict that tells of each of these roads a list of names -/
def VecD (H : Hp) (a : Addr) (rs : List (Str × Str)) (gs : List (List Str)) : Prop := ∃ ls : List Addr, H a = some (.dT ((rs.zip ls).map fun e => (keyR e.1, V.ref e.2))) ∧ ls.length = rs.length ∧ Paired (fun (l : Addr) (g : List Str) => H l = some (.lst (g.map V.str))) ls gs
theorem VecD.len {H : Hp} {a : Addr} {rs : List (Str × Str)} {gs : List (List Str)} (h : VecD H a rs gs) : gs.length = rs.length := by
  obtain ⟨ls, _, l, p⟩ := h
  rw [← l]
  exact p.length.symm
section
variable {X : Cx} {pins : List (Addr × Obj)} {σ : L2.St} {H : Hp} {s : Shared} {A : Around}
theorem strs_vals : ∀ {g : List Str} {us : List Value}, Vals (g.map V.str) us → us.length = g.length ∧ ∀ (i : Nat) (x : Str), g[i]? = some x → ∃ t, us[i]? = some (.str x t)
  | [], us, r => by cases r; exact ⟨rfl, fun i x h => by simp at h⟩
  | y :: g, us, r => by
    rw [List.map_cons] at r
    cases r with
    | cons h t =>
      obtain ⟨tk, rfl⟩ := h
      obtain ⟨l, f⟩ := strs_vals t
      refine ⟨by simp [l], fun i x h => ?_⟩
      cases i with
      | zero =>
        obtain rfl : y = x := Option.some.inj h
        exact ⟨tk, rfl⟩
      | succ i => exact f i x (by simpa using h)
/-- two lists of names -/
theorem eq_strs (I : Inv X pins σ H s) {P : Program} {w : World} {a b : Addr} {g g' : List Str} (hu : A.units < cLine) (ha : H a = some (.lst (g.map V.str))) (hb : H b = some (.lst (g'.map V.str))) : EqP P w A s (.ref a) (.ref b) (decide (g = g')) := by
  by_cases ne : a = b
  · subst ne
    rw [ha] at hb
    have : g.map V.str = g'.map V.str := by
      have := Option.some.inj hb
      injection this
    have e : g = g' := by
      have h2 := congrArg (List.map fun v : V => match v with | .str x => x | _ => "") this
      simpa [List.map_map, Function.comp_def] using h2
    rw [decide_eq_true e]
    exact (EqAt.same _).eqP
  obtain ⟨_, us, n, r1, o1⟩ := (show ObjOk X.prog X.w H s.heap a (.lst (g.map V.str)) from I.hok _ _ ha)
  obtain ⟨_, ws, m, r2, o2⟩ := (show ObjOk X.prog X.w H s.heap b (.lst (g'.map V.str)) from I.hok _ _ hb)
  obtain ⟨l1, f1⟩ := strs_vals r1
  obtain ⟨l2, f2⟩ := strs_vals r2
  have i1 : s.heap.IsList a us.toArray := ⟨_, o1, rfl, n, rfl⟩
  have i2 : s.heap.IsList b ws.toArray := ⟨_, o2, rfl, m, rfl⟩
  by_cases hl : g.length = g'.length
  · have key : decide (g = g') = (List.range us.toArray.size).all fun i => decide (g[i]? = g'[i]?) := by
      rw [Bool.eq_iff_iff, decide_eq_true_eq, List.all_eq_true]
      constructor
      · rintro rfl i _
        exact decide_eq_true rfl
      · intro h
        refine List.ext_getElem? fun i => ?_
        by_cases hi : i < g.length
        · exact of_decide_eq_true (h i (List.mem_range.mpr (by simp [l1]; exact hi)))
        · rw [List.getElem?_eq_none (by omega), List.getElem?_eq_none (by omega)]
    rw [key]
    refine eqP_refs ne fun E Q h => rcP_lists i1 i2 (by simp [l1, l2, hl]) hu (fun j h1 h2 => ?_) E Q h
    have j1 : j < g.length := by simp [l1] at h1; exact h1
    have j2 : j < g'.length := by omega
    obtain ⟨t, e1⟩ := f1 j _ (List.getElem?_eq_getElem j1)
    obtain ⟨t', e2⟩ := f2 j _ (List.getElem?_eq_getElem j2)
    have q1 : us.toArray[j] = .str g[j] t := by
      have := (List.getElem?_eq_some_iff.mp e1).2
      simpa using this
    have q2 : ws.toArray[j] = .str g'[j] t' := by
      have := (List.getElem?_eq_some_iff.mp e2).2
      simpa using this
    rw [q1, q2]
    have := ((SeqRoads2.EqGives.str g[j] g'[j] t t').at A.in1 s).eqP (prog := P) (w := w)
    have e : (g[j].cps.toList == g'[j].cps.toList) = decide (g[j]? = g'[j]?) := by
      rw [List.getElem?_eq_getElem j1, List.getElem?_eq_getElem j2, Bool.eq_iff_iff, beq_iff_eq, decide_eq_true_eq, Option.some.injEq]
      constructor
      · intro h
        have : g[j].cps = g'[j].cps := Array.toList_inj.mp h
        cases hx : g[j]
        cases hy : g'[j]
        rw [hx, hy] at this
        simpa using this
      · intro h; rw [h]
    rw [e] at this
    exact this
  · rw [decide_eq_false fun z => hl (by rw [z])]
    refine eqP_refs ne fun E Q h => ?_
    exact RcAt.lists_lengths i1 i2 (by simp [l1, l2]; exact hl) hu P w E Q h
/-- what stands at a place of such a dict -/
theorem vec_at (I : Inv X pins σ H s) {a : Addr} {rs : List (Str × Str)} {gs : List (List Str)} (h : VecD H a rs gs) : ∃ xs : List (List Key × Addr × Value), (a == sysModules) = false ∧ s.heap.DictOfH (tupleKind (mixKind X.prog X.w)) a xs ∧ xs.length = rs.length ∧
    ∀ (i : Nat) (e : Str × Str), rs[i]? = some e → ∃ (k l : Addr) (g : List Str), xs[i]? = some (keyR e, k, .ref l) ∧ gs[i]? = some g ∧ H l = some (.lst (g.map V.str)) := by
  obtain ⟨ls, hd, ll, pr⟩ := h
  obtain ⟨_, hs, xs, kt, dd⟩ := dt_of I.hok hd
  have lx : xs.length = rs.length := by
    have := kt.length
    rw [List.length_map, List.length_zip, ll, Nat.min_self] at this
    exact this.symm
  refine ⟨xs, hs, dd, lx, fun i e he => ?_⟩
  obtain ⟨hi, he2⟩ := List.getElem?_eq_some_iff.mp he
  obtain ⟨p, h1, h2, h3, h4⟩ := paired_get kt (i := i) (by omega)
  have hl : i < ls.length := by omega
  have hg : i < gs.length := by have := pr.length; omega
  have hp : ((rs.zip ls).map fun e => (keyR e.1, V.ref e.2))[i]? = some (keyR e, V.ref ls[i]) := by
    rw [List.getElem?_map, List.getElem?_zip_eq_some (z := (e, ls[i])).mpr ⟨he, List.getElem?_eq_getElem hl⟩]
    rfl
  rw [hp] at h1
  cases h1
  have h4 : xs[i].2.2 = Value.ref ls[i] := h4
  obtain ⟨l, q1, q2⟩ := paired_get pr (i := i) hg
  rw [List.getElem?_eq_getElem hl] at q1
  cases q1
  refine ⟨xs[i].2.1, ls[i], gs[i], ?_, List.getElem?_eq_getElem hg, q2⟩
  rw [List.getElem?_eq_getElem (by omega)]
  show some xs[i] = some (keyR e, xs[i].2.1, Value.ref ls[i])
  rw [← h4]
  have h2 : keyR e = xs[i].1 := h2
  rw [h2]
theorem eq_vecs (I : Inv X pins σ H s) {a b : Addr} {rs : List (Str × Str)} {gs gs' : List (List Str)} (hu : A.units + 2 < cLine) (ne : a ≠ b) (ha : VecD H a rs gs) (hb : VecD H b rs gs') : EqP X.prog X.w A s (.ref a) (.ref b) (decide (gs = gs')) := by
  have la := ha.len
  have lb := hb.len
  obtain ⟨xs, sa, da, lx, fx⟩ := vec_at I ha
  obtain ⟨ys, sb, db, ly, fy⟩ := vec_at I hb
  have key : decide (gs = gs') = (List.range xs.length).all fun i => decide (gs[i]? = gs'[i]?) := by
    rw [Bool.eq_iff_iff, decide_eq_true_eq, List.all_eq_true]
    constructor
    · rintro rfl i _
      exact decide_eq_true rfl
    · intro h
      refine List.ext_getElem? fun i => ?_
      by_cases hi : i < xs.length
      · exact of_decide_eq_true (h i (List.mem_range.mpr hi))
      · rw [List.getElem?_eq_none (by omega), List.getElem?_eq_none (by omega)]
  rw [key]
  refine eq_keyed (knd := tupleKind (mixKind X.prog X.w)) (by show A.units + 1 < cLine; omega) (by omega) sa sb ne da db (by omega) fun i x y hx hy => ?_
  have hi : i < rs.length := by
    have := (List.getElem?_eq_some_iff.mp hx).1
    omega
  obtain ⟨k, l, g, e1, e2, e3⟩ := fx i _ (List.getElem?_eq_getElem hi)
  obtain ⟨k', l', g', e1', e2', e3'⟩ := fy i _ (List.getElem?_eq_getElem hi)
  rw [hx] at e1
  rw [hy] at e1'
  cases e1
  cases e1'
  refine ⟨rfl, ?_⟩
  have := eq_strs I (P := X.prog) (w := X.w) (A := A.in1) (by show A.units + 1 < cLine; omega) e3 e3'
  rw [e2, e2']
  rw [show decide (some g = some g') = decide (g = g') from decide_eq_decide.mpr ⟨Option.some.inj, fun z => by rw [z]⟩]
  exact this
/-- not in: a dict of that kind, a list of such dicts -/
def rNotInV : R2 := fun x y H Q => ∃ (a m : Addr) (as : List Addr) (rs : List (Str × Str)) (gs : List (List Str)) (Gs : List (List (List Str))), x = .ref a ∧ y = .ref m ∧ H m = some (.lst (as.map V.ref)) ∧ a ∉ as ∧ VecD H a rs gs ∧ Paired (fun (b : Addr) (g : List (List Str)) => VecD H b rs g) as Gs ∧ Q (.bl (decide (gs ∉ Gs))) H
theorem op_notInV (hu : X.A.units + 3 < cLine) : OpR X (compareOp .NotIn) rNotInV := by
  intro pins s σ H x y v u Q I rx ry h
  obtain ⟨a, m, as, rs, gs, Gs, rfl, rfl, hm, ha, vd, pr, q⟩ := h
  cases rx
  cases ry
  obtain ⟨_, us, n, r1, o1⟩ := (show ObjOk X.prog X.w H s.heap m (.lst (as.map V.ref)) from I.hok _ _ hm)
  have ei := refs_are r1
  subst ei
  have lG : as.length = Gs.length := pr.length
  refine not_in (e := fun j => decide (Gs[j]? = some gs)) (items := (as.map Value.ref).toArray) ⟨_, o1, rfl, n, rfl⟩ (fun j hj => ?_) ?_
  · have hj2 : j < as.length := by simpa using hj
    obtain ⟨b, e1, e2⟩ := paired_get pr (i := j) (by omega)
    rw [List.getElem?_eq_getElem hj2] at e1
    cases e1
    have ne : as[j] ≠ a := fun z => ha (z ▸ List.getElem_mem hj2)
    have := eq_vecs I (A := X.A.in1) (by show X.A.units + 1 + 2 < cLine; omega) ne e2 vd
    rw [List.getElem?_eq_getElem (show j < Gs.length by omega)]
    rw [show decide (some Gs[j] = some gs) = decide (Gs[j] = gs) from decide_eq_decide.mpr ⟨Option.some.inj, fun z => by rw [z]⟩]
    simpa using this
  · have e : (!((List.range (as.map Value.ref).toArray.size).any fun j => decide (Gs[j]? = some gs))) = decide (gs ∉ Gs) := by
      rw [Bool.eq_iff_iff, Bool.not_eq_true', decide_eq_true_eq, List.any_eq_false]
      constructor
      · intro h hg
        obtain ⟨j, hj, e⟩ := List.mem_iff_getElem.mp hg
        exact h j (List.mem_range.mpr (by simp; omega)) (decide_eq_true (by rw [List.getElem?_eq_getElem hj, e]))
      · intro h j _ z
        obtain ⟨hj, e⟩ := List.getElem?_eq_some_iff.mp (of_decide_eq_true z)
        exact h (e ▸ List.getElem_mem hj)
    rw [e]
    exact ⟨.bl _, H, I, rfl, q⟩
end
end K1
end
-- VMath
section
set_option Elab.async false
set_option linter.all false
set_option maxRecDepth 100000
set_option maxHeartbeats 1000000
namespace K1
open PySem PySem.Spec PyProof.Rows L2 W0
/-- the houses that are joined to one by some roads -/
def comp (ss : List Str) (es : List (Str × Str)) (s : Str) : List Str := ss.filter fun t => decide (rtOf es t = rtOf es s)
/-- the roads at these places -/
def esOf (rs : List (Str × Str)) (js : List Nat) : List (Str × Str) := js.filterMap fun j => rs[j]?
theorem esOf_snoc {rs : List (Str × Str)} {js : List Nat} {j : Nat} (hj : j < rs.length) : esOf rs (js ++ [j]) = esOf rs js ++ [rs[j]] := by
  unfold esOf
  rw [List.filterMap_append, List.filterMap_cons, List.filterMap_nil, List.getElem?_eq_getElem hj]
theorem joinRt_iff {rt : Str → Str} {a b s t : Str} : joinRt rt a b t = joinRt rt a b s ↔ rt t = rt s ∨ ((rt t = rt a ∨ rt t = rt b) ∧ (rt s = rt a ∨ rt s = rt b)) := by
  unfold joinRt
  by_cases h1 : rt t = rt a <;> by_cases h2 : rt s = rt a
  · rw [if_pos h1, if_pos h2]
    exact ⟨fun _ => .inl (h1.trans h2.symm), fun _ => rfl⟩
  · rw [if_pos h1, if_neg h2]
    constructor
    · exact fun q => .inr ⟨.inl h1, .inr q.symm⟩
    · rintro (q | ⟨_, q | q⟩)
      · exact absurd (q.symm.trans h1) h2
      · exact absurd q h2
      · exact q.symm
  · rw [if_neg h1, if_pos h2]
    constructor
    · exact fun q => .inr ⟨.inr q, .inl h2⟩
    · rintro (q | ⟨q | q, _⟩)
      · exact absurd (q.trans h2) h1
      · exact absurd q h1
      · exact q
  · rw [if_neg h1, if_neg h2]
    constructor
    · exact .inl
    · rintro (q | ⟨q | q, q2 | q2⟩)
      · exact q
      · exact absurd q h1
      · exact absurd q h1
      · exact absurd q2 h2
      · exact q.trans q2.symm
theorem mem_comp {ss : List Str} {es : List (Str × Str)} {s t : Str} : t ∈ comp ss es s ↔ t ∈ ss ∧ rtOf es t = rtOf es s := by
  unfold comp
  rw [List.mem_filter, decide_eq_true_eq]
theorem comp_nil {ss : List Str} (nd : ss.Nodup) {s : Str} (hs : s ∈ ss) : comp ss [] s = [s] := by
  unfold comp
  show ss.filter (fun t => decide (t = s)) = [s]
  induction ss with
  | nil => cases hs
  | cons a r ih =>
    have n := List.nodup_cons.mp nd
    rcases List.mem_cons.mp hs with rfl | h
    · rw [List.filter_cons, if_pos (decide_eq_true rfl)]
      have : r.filter (fun t => decide (t = s)) = [] := List.filter_eq_nil_iff.mpr fun x hx => by
        rw [decide_eq_true_eq]
        exact fun z => n.1 (by rw [← z]; exact hx)
      rw [this]
    · rw [List.filter_cons, if_neg (by rw [decide_eq_true_eq]; exact fun z => n.1 (by rw [z]; exact h)), ih n.2 h]
theorem comp_len {ss : List Str} {es : List (Str × Str)} {s : Str} : (comp ss es s).length ≤ ss.length := List.length_filter_le _ _
/-- a road more: who lies at one of its ends -/
theorem comp_new {ss : List Str} {es : List (Str × Str)} {e : Str × Str} {s : Str} (h : rtOf es s = rtOf es e.1 ∨ rtOf es s = rtOf es e.2) : comp ss (es ++ [e]) s = ss.filter fun t => decide (t ∈ comp ss es e.1 ++ comp ss es e.2) := by
  refine List.filter_congr fun t ht => decide_eq_decide.mpr ?_
  rw [rtOf_snoc, joinRt_iff, List.mem_append, mem_comp, mem_comp]
  constructor
  · rintro (q | ⟨q, _⟩)
    · rw [q]
      exact h.imp (fun z => ⟨ht, z⟩) fun z => ⟨ht, z⟩
    · exact q.imp (fun z => ⟨ht, z⟩) fun z => ⟨ht, z⟩
  · exact fun q => .inr ⟨q.imp And.right And.right, h⟩
theorem comp_old {ss : List Str} {es : List (Str × Str)} {e : Str × Str} {s : Str} (h : ¬ (rtOf es s = rtOf es e.1 ∨ rtOf es s = rtOf es e.2)) : comp ss (es ++ [e]) s = comp ss es s := by
  refine List.filter_congr fun t ht => decide_eq_decide.mpr ?_
  rw [rtOf_snoc, joinRt_iff]
  exact ⟨fun q => q.resolve_right fun z => h z.2, .inl⟩
theorem mem_new {ss : List Str} {es : List (Str × Str)} {e : Str × Str} {s : Str} (hs : s ∈ ss) : s ∈ (ss.filter fun t => decide (t ∈ comp ss es e.1 ++ comp ss es e.2)) ↔ rtOf es s = rtOf es e.1 ∨ rtOf es s = rtOf es e.2 := by
  rw [List.mem_filter, decide_eq_true_eq, List.mem_append, mem_comp, mem_comp]
  exact ⟨fun q => q.2.imp And.right And.right, fun q => ⟨hs, q.imp (fun z => ⟨hs, z⟩) fun z => ⟨hs, z⟩⟩⟩
end K1
end
-- WLaw6
section
set_option Elab.async false
set_option linter.all false
set_option maxRecDepth 100000
set_option maxHeartbeats 1000000
namespace K1
open PySem PySem.Spec PyProof.Rows L2 W0
/-- the law's own valley: a triple of three lists -/
structure VAt (a : Addr) (H : Hp) (t p1 p2 p3 : Addr) (qs : List Addr) (ss : List Str) (rs : List (Str × Str)) (ns : List Int) : Prop where
  t0 : H t = some (.tup [.ref p1, .ref p2, .ref p3])
  h1 : H p1 = some (.lst (ss.map V.str))
  h2 : H p2 = some (.lst (qs.map V.ref))
  pr : Paired (TupP H) qs rs
  h3 : H p3 = some (.lst (ns.map V.int))
  n0 : t ≠ a
  n1 : p1 ≠ a
  n2 : p2 ≠ a
  n3 : p3 ≠ a
structure VOk (ss : List Str) (rs : List (Str × Str)) (ns : List Int) : Prop where
  good : Good ss
  pos : 1 ≤ ss.length
  le : ss.length ≤ 60
  cut : Cut rs
  ends : EndsIn ss rs
  rl : rs.length + 1 = ss.length
  nl : ns.length = ss.length
  ge : ∀ n ∈ ns, 1 ≤ n
  nob : ("no1" : Str) ∉ ss
theorem VAt.kept {a : Addr} {H H' : Hp} {t p1 p2 p3 : Addr} {qs : List Addr} {ss : List Str} {rs : List (Str × Str)} {ns : List Int} {n : Nat} (v : VAt a H t p1 p2 p3 qs ss rs ns) (s : Spr H a n) (k : Kept a H H') : VAt a H' t p1 p2 p3 qs ss rs ns :=
  ⟨k _ _ v.n0 v.t0, k _ _ v.n1 v.h1, k _ _ v.n2 v.h2, TupP.kept v.pr s k, k _ _ v.n3 v.h3, v.n0, v.n1, v.n2, v.n3⟩
theorem flat_str {K : PySem.W.Frag} {H : Hp} (s : Str) : Flat0 K H (.str s) (.str s) := ⟨rfl, "str", .base (.str s), by decide, by decide⟩
theorem flat_int {K : PySem.W.Frag} {H : Hp} (s : Int) : Flat0 K H (.int s) (.int s) := ⟨rfl, "int", .base (.int s), by decide, by decide⟩
theorem paired_same {α : Type} {F : α → α → Prop} : ∀ {xs : List α}, (∀ x ∈ xs, F x x) → Paired F xs xs
  | [], _ => .nil
  | x :: xs, h => .cons (h x (List.mem_cons_self ..)) (paired_same fun y hy => h y (List.mem_cons_of_mem _ hy))
theorem flat_eq {K : PySem.W.Frag} {H : Hp} : ∀ {vs xs : List V}, Paired (Flat0 K H) vs xs → vs = xs
  | _, _, .nil => rfl
  | _, _, .cons f r => by rw [f.1, flat_eq r]
theorem paired_map {α β γ : Type} {F : α → β → Prop} {g : γ → β} : ∀ {xs : List α} {ys : List γ}, Paired F xs (ys.map g) → Paired (fun x y => F x (g y)) xs ys
  | _, [], .nil => .nil
  | _, _ :: _, .cons f r => .cons f (paired_map r)
theorem map_paired {α β γ : Type} {F : α → β → Prop} {g : γ → α} : ∀ {xs : List γ} {ys : List β}, Paired (fun x y => F (g x) y) xs ys → Paired F (xs.map g) ys
  | _, _, .nil => .nil
  | _, _, .cons f r => .cons f (map_paired r)
def prV (r : Str × Str) : List V := [.str r.1, .str r.2]
theorem same_make {H : Hp} {x dx C : Addr} (nx : H x = none) (nd : H dx = none) : Same H (L2.upd (L2.upd H dx (.own x)) x (.ins C dx [])) := fun b o e => by
  rw [upd_ne (ne_of_none e nx), upd_ne (ne_of_none e nd)]
  exact e
theorem Spr.keptx {H H' : Hp} {a x : Addr} {n : Nat} (s : Spr H a n) (ne : a ≠ x) (k : Kept x H H') : Spr H' a n := by
  obtain ⟨u, y, z, e, r⟩ := s
  exact ⟨u, y, z, k _ _ ne e, r⟩
/-- the Valley's lists are not the spring -/
def OffV (a l1 l2 l3 : Addr) (bs : Str → Addr) (ss : List Str) : Prop := l1 ≠ a ∧ l2 ≠ a ∧ l3 ≠ a ∧ ∀ s ∈ ss, bs s ≠ a
theorem ValS.kept {C a : Addr} {H H' : Hp} {x l1 l2 l3 d1 d2 d3 : Addr} {qs : List Addr} {bs : Str → Addr} {ss : List Str} {rs : List (Str × Str)} {ns : List Int} {n : Nat} (v : ValS C H x l1 l2 l3 d1 d2 d3 qs bs ss rs ns) (o : OffV a l1 l2 l3 bs ss) (s : Spr H a n) (k : Kept a H H') : ValS C H' x l1 l2 l3 d1 d2 d3 qs bs ss rs ns := by
  obtain ⟨dx, fs, h, r⟩ := v.ins
  obtain ⟨k2, a2, b2⟩ := v.p2
  obtain ⟨k3, a3, b3⟩ := v.p3
  obtain ⟨u, y, z, es, _⟩ := s
  have off : ∀ b o, H b = some o → (∀ xs, o ≠ .lst xs) → b ≠ a := fun b o e n z => by
    rw [z, es] at e
    exact n _ (Option.some.inj e).symm
  exact ⟨⟨dx, fs, k _ _ (off _ _ h fun _ z => by cases z) h, r⟩, k _ _ o.1 v.h1, k _ _ o.2.1 v.h2, paired_imp (fun _ _ q => k _ _ (off _ _ q fun _ z => by cases z) q) v.pr, k _ _ o.2.2.1 v.h3, k _ _ (off _ _ v.p1 fun _ z => by cases z) v.p1, ⟨k2, k _ _ (off _ _ a2 fun _ z => by cases z) a2, b2⟩, ⟨k3, k _ _ (off _ _ a3 fun _ z => by cases z) a3, b3⟩, fun s hs => k _ _ (o.2.2.2 s hs) (v.nb s hs)⟩
def spMd (C : Addr) : Sp := fun vs H Q _ => ∃ (a t p1 p2 p3 : Addr) (qs : List Addr) (ss : List Str) (rs : List (Str × Str)) (ns : List Int) (n : Nat), vs = [.ref a, .ref t] ∧ Spr H a n ∧ n + 200 ≤ 1000000 ∧ VAt a H t p1 p2 p3 qs ss rs ns ∧ VOk ss rs ns ∧
  ∀ x l1 l2 l3 d1 d2 d3 qs' bs H', Kept a H H' → Spr H' a (n + 200) → ValS C H' x l1 l2 l3 d1 d2 d3 qs' bs ss rs ns → OffV a l1 l2 l3 bs ss → Q (.ref x) H'
/-- the three lists, handed in some way, make a Valley -/
theorem made_ofS {K : PySem.W.Frag} {C a x dx : Addr} {H H3 : Hp} {Q : VK} {E : XK} {y1 y2 y3 : V} {ss : List Str} {rs : List (Str × Str)} {ns : List Int} {n : Nat} (ok : VOk ss rs ns) (s3 : Spr H3 a n) (k3 : Kept a H H3) (s0 : H a ≠ none) (nx : H3 x = none) (ndx : H3 dx = none)
    (v1 : SeqV H3 y1 (ss.map V.str)) (v2 : ∃ vs, SeqV H3 y2 vs ∧ Paired (PairV H3) vs rs) (v3 : SeqV H3 y3 (ns.map V.int))
    (q : ∀ l1 l2 l3 d1 d2 d3 qs' bs H', Kept a H H' → Spr H' a n → ValS C H' x l1 l2 l3 d1 d2 d3 qs' bs ss rs ns → OffV a l1 l2 l3 bs ss → Same H3 H' → Q .non H') :
    spVS K C ([.ref x, y1, y2, y3]) (L2.upd (L2.upd H3 dx (.own x)) x (.ins C dx [])) Q E := by
  have e := same_make (C := C) nx ndx
  obtain ⟨vs, a1, a2⟩ := v2
  have hne : ss ≠ [] := fun z => by have := ok.pos; rw [z] at this; simp at this
  refine ⟨x, y1, y2, y3, dx, ss, rs, ns, rfl, upd_same, ⟨v1.ext e, hne, by have := ok.le; omega, ok.good⟩, ⟨vs, a1.ext e, paired_imp (fun _ _ q => SeqV.ext q e) a2, ok.ends, ok.cut.forest, ok.rl⟩, ⟨v3.ext e, ok.ge, ok.nl⟩, fun H' l1 l2 l3 d1 d2 d3 qs bs k v nv => ?_⟩
  have ax : a ≠ x := fun z => by
    rw [← z] at nx
    exact s3.kept nx
  have back : ∀ {z}, L2.upd (L2.upd H3 dx (.own x)) x (.ins C dx []) z = none → H3 z = none := fun {z} hz => by
    cases q : H3 z with
    | none => rfl
    | some o => rw [e _ _ q] at hz; cases hz
  have sm : Same H3 H' := fun b o eb => k b o (ne_of_none eb nx) (e b o eb)
  exact q l1 l2 l3 d1 d2 d3 qs bs H' (k3.trans (Kept.same sm)) (s3.same sm) v ⟨s3.ne (back nv.1), s3.ne (back nv.2.1), s3.ne (back nv.2.2.1), fun s hs => s3.ne (back (nv.2.2.2.2.2.2.2 s hs))⟩ sm
section
variable {P : Program} {w : World} {K : PySem.W.Frag} {mg : Str → Option Value} {base : Heap} {C fL fV : Addr} {fdL fdV : FuncData}
end
end K1
end
-- UFrm
section
set_option Elab.async false
set_option linter.all false
set_option maxRecDepth 100000
set_option maxHeartbeats 1000000
namespace K1
open PySem PySem.Spec PyProof.Rows L2 W0
theorem putK_new {kvs : List (Key × V)} {k : Key} {v : V} (h : k ∉ kvs.map (·.1)) : putK kvs k v = kvs ++ [(k, v)] := by
  unfold putK
  rw [if_neg]
  intro z
  rw [List.any_eq_true] at z
  obtain ⟨e, he, hk⟩ := z
  exact h (List.mem_map.mpr ⟨e, he, of_decide_eq_true hk⟩)
theorem str_at {ss : List Str} {i : Nat} {x : V} (e : (ss.map V.str)[i]? = some x) : ∃ h : i < ss.length, x = .str ss[i] := by
  rw [List.getElem?_map] at e
  rcases Nat.lt_or_ge i ss.length with hi | hi
  · rw [List.getElem?_eq_getElem hi] at e
    exact ⟨hi, (Option.some.inj e).symm⟩
  · rw [List.getElem?_eq_none hi] at e
    cases e
theorem snoc_paired {α β : Type} {F G : α → β → Prop} {a : α} {b : β} (h : G a b) : ∀ {xs : List α} {ys : List β}, Paired F xs ys → (∀ x y, x ∈ xs → F x y → G x y) → Paired G (xs ++ [a]) (ys ++ [b])
  | _, _, .nil, _ => .cons h .nil
  | _, _, .cons f r, k => .cons (k _ _ (List.mem_cons_self ..) f) (snoc_paired h r fun x y hx => k x y (List.mem_cons_of_mem _ hx))
theorem merge_new : ∀ {ps : List (Key × V)} {acc : List (Key × V)}, (∀ p ∈ ps, p.1 ∉ acc.map (·.1)) → (ps.map (·.1)).Nodup → mergeK acc ps = acc ++ ps
  | [], acc, _, _ => by
    show acc = acc ++ []
    rw [List.append_nil]
  | p :: ps, acc, h1, h2 => by
    rw [List.map_cons, List.nodup_cons] at h2
    have h0 := h1 p (List.mem_cons_self ..)
    show mergeK (putK acc p.1 p.2) ps = _
    rw [putK_new h0, merge_new (fun q hq => ?_) h2.2, List.append_assoc]
    · rfl
    · rw [List.map_append, List.mem_append]
      rintro (z | z)
      · exact h1 q (List.mem_cons_of_mem _ hq) z
      · have z : q.1 = p.1 := List.mem_singleton.mp z
        exact h2.1 (List.mem_map.mpr ⟨q, hq, z⟩)
structure Frm (H : Hp) (t p1 p2 : Addr) (x3 : V) (qs : List Addr) (ss : List Str) (rs : List (Str × Str)) : Prop where
  t0 : H t = some (.tup [.ref p1, .ref p2, x3])
  h1 : H p1 = some (.lst (ss.map V.str))
  h2 : H p2 = some (.lst (qs.map V.ref))
  pr : Paired (TupP H) qs rs
  tr : Tree ss rs
  ls : ss.length ≤ 60
  ok : ∀ s ∈ ss, nameOk s = true
theorem Frm.lr {H : Hp} {t p1 p2 : Addr} {x3 : V} {qs : List Addr} {ss : List Str} {rs : List (Str × Str)} (f : Frm H t p1 p2 x3 qs ss rs) : rs.length ≤ 60 := by
  have := f.tr.len
  have := f.ls
  omega
theorem Frm.same {H H' : Hp} {t p1 p2 : Addr} {x3 : V} {qs : List Addr} {ss : List Str} {rs : List (Str × Str)} (f : Frm H t p1 p2 x3 qs ss rs) (e : Same H H') : Frm H' t p1 p2 x3 qs ss rs :=
  ⟨e _ _ f.t0, e _ _ f.h1, e _ _ f.h2, TupP.ext f.pr e, f.tr, f.ls, f.ok⟩
theorem valV_no {kvs : List (Key × V)} {k : Key} (h : k ∉ kvs.map (·.1)) : valV kvs k = none := by
  unfold valV
  rw [List.find?_eq_none.mpr]
  · rfl
  · intro p hp z
    exact h (List.mem_map.mpr ⟨p, hp, of_decide_eq_true z⟩)
theorem asg_run {te : TE} {g : TG} {D : Ends} {σ : L2.St} {H : Hp} (h : te σ H fun x H1 => g x σ H1 D.nx) : tAsg te g D σ H := h
theorem cb_run {r : List V → Hp → VK → Prop} {t : TA} {σ : L2.St} {H : Hp} {Q : VK} (h : t σ H fun vs H1 => r vs H1 Q) : tCB r t σ H Q := h
theorem call_run {sp : Sp} {dvs : List V} {E : XK} {t : TA} {σ : L2.St} {H : Hp} {Q : VK} (h : t σ H fun vs H1 => sp (vs ++ dvs) H1 Q E) : tCall sp dvs E t σ H Q := h
end K1
end
-- VParts
section
set_option Elab.async false
set_option linter.all false
set_option maxRecDepth 100000
set_option maxHeartbeats 2000000
namespace K1
open PySem PySem.Spec PyProof.Rows L2 W0
def rLst (K : PySem.W.Frag) : List V → Hp → VK → Prop := fun xs H Q => ∃ p ys, xs = [V.ref p] ∧ (SqL K H p ys ∨ SqT K H p ys) ∧ ∀ l, H l = none → Q (.ref l) (L2.upd H l (.lst ys))
def LotsS (H0 Hc : Hp) (Z : Addr → Prop) (ss : List Str) (es : List (Str × Str)) (kvs : List (Key × V)) : Prop := ∀ s ∈ ss, ∃ d, valV kvs (.inr s) = some (.ref d) ∧ ¬ Z d ∧ H0 d = none ∧ Hc d = some (.lst ((comp ss es s).map V.str))
theorem LotsS.keep {H0 Hc H2 : Hp} {Z : Addr → Prop} {ss : List Str} {es : List (Str × Str)} {kvs : List (Key × V)} (h : LotsS H0 Hc Z ss es kvs) (e : Same (wo Z Hc) H2) : LotsS H0 H2 Z ss es kvs := fun s hs => by
  obtain ⟨d, a, b, c, g⟩ := h s hs
  exact ⟨d, a, b, c, e _ _ (wo_some.mpr ⟨b, g⟩)⟩
/-- the part that a road's place in an order joins -/
def partAt (ss : List Str) (es : List (Str × Str)) (k : Nat) : List Str := comp ss (es.take (k + 1)) ((es[k]?).getD ("", "")).1
/-- what is found so far: of each road walked, its part -/
def FoundS (H0 Hc : Hp) (Z : Addr → Prop) (ss : List Str) (es : List (Str × Str)) (i : Nat) (kvs : List (List Key × V)) : Prop :=
  ∃ ls : List Addr, kvs = ((es.take i).zip ls).map (fun e => (keyR e.1, V.ref e.2)) ∧ ls.length = i ∧ ∀ k l, ls[k]? = some l → ¬ Z l ∧ H0 l = none ∧ Hc l = some (.lst ((partAt ss es k).map V.str))
theorem mem_take_one {xs : List Str} {i : Nat} (hi : i < xs.length) {t : Str} : t ∈ xs.take (i + 1) ↔ t ∈ xs.take i ∨ t = xs[i] := by
  rw [take_snoc hi, List.mem_append, List.mem_singleton]
/-- the part that a road joins, in an order of the roads -/
def partOf (ss : List Str) (es : List (Str × Str)) (e : Str × Str) : List Str := partAt ss es (es.idxOf e)
theorem merge_some (j : Key) : ∀ (ps acc : List (Key × V)), (valV (mergeK acc ps) j).isSome = ((valV acc j).isSome || ps.any fun p => decide (p.1 = j))
  | [], acc => by
    rw [List.any_nil, Bool.or_false]
    rfl
  | p :: ps, acc => by
    show (valV (mergeK (putK acc p.1 p.2) ps) j).isSome = _
    rw [merge_some j ps, valV_put, List.any_cons]
    by_cases h : j = p.1
    · rw [if_pos h, decide_eq_true h.symm]
      simp
    · rw [if_neg h, decide_eq_false fun z => h z.symm, Bool.false_or]
/-- the first lots: each name alone -/
theorem lots_first {K : PySem.W.Frag} {H0 Hc : Hp} {D : Addr} : ∀ {ss : List Str} {zs : List (Addr × Addr)}, ss.Nodup → Paired (fun (z : Addr × Addr) (s : Str) => H0 z.2 = none ∧ z.2 ≠ D ∧ z.1 ≠ D ∧ Hc z.1 = some (.tup [.str s, .ref z.2]) ∧ Hc z.2 = some (.lst [.str s])) zs ss →
    ∃ kvs : List (Key × V), Paired (fun p kv => SqT K Hc p [kV kv.1, kv.2]) (zs.map (·.1)) kvs ∧ kvs.map (·.1) = ss.map Sum.inr ∧ ∀ s ∈ ss, ∃ d, valV kvs (.inr s) = some (.ref d) ∧ H0 d = none ∧ d ≠ D ∧ Hc d = some (.lst [.str s])
  | [], _, _, .nil => ⟨[], .nil, rfl, fun s h => by cases h⟩
  | s :: ss, _, n, .cons (a := z) h t => by
    obtain ⟨n1, n2⟩ := List.nodup_cons.mp n
    obtain ⟨kvs, p1, p2, p3⟩ := lots_first (K := K) n2 t
    refine ⟨(.inr s, .ref z.2) :: kvs, .cons (SqT.of h.2.2.2.1) p1, by simp [p2], fun x hx => ?_⟩
    by_cases e : x = s
    · subst e
      exact ⟨z.2, by unfold valV; simp, h.1, h.2.1, h.2.2.2.2⟩
    · rcases List.mem_cons.mp hx with hx | hx
      · exact absurd hx e
      · obtain ⟨d, d1, d2⟩ := p3 x hx
        exact ⟨d, by rw [show valV ((Sum.inr s, V.ref z.2) :: kvs) (Sum.inr x) = valV kvs (Sum.inr x) from by unfold valV; rw [List.find?_cons, decide_eq_false fun y => e (Sum.inr.inj y).symm]]; exact d1, d2⟩
theorem val_none {κ : Type} [DecidableEq κ] {kvs : List (κ × V)} {k : κ} (h : ∀ y ∈ kvs, y.1 ≠ k) : valV kvs k = none := by
  unfold valV
  rw [List.find?_eq_none.mpr fun y hy => by rw [decide_eq_true_eq]; exact h y hy]
  rfl
theorem val_road : ∀ {es : List (Str × Str)} {ls : List Addr} {j : Nat} {e : Str × Str} {l : Addr}, es.Nodup → es[j]? = some e → ls[j]? = some l → valV ((es.zip ls).map fun e => (keyR e.1, V.ref e.2)) (keyR e) = some (.ref l)
  | [], _, _, _, _, _, h, _ => by simp at h
  | _ :: _, [], _, _, _, _, _, h => by simp at h
  | a :: es, b :: ls, j, e, l, n, h1, h2 => by
    obtain ⟨n1, n2⟩ := List.nodup_cons.mp n
    rw [List.zip_cons_cons, List.map_cons]
    cases j with
    | zero =>
      obtain rfl : a = e := Option.some.inj h1
      obtain rfl : b = l := Option.some.inj h2
      unfold valV
      simp
    | succ j =>
      have ih := val_road n2 (show es[j]? = some e by simpa using h1) (show ls[j]? = some l by simpa using h2)
      have ne : keyR a ≠ keyR e := fun z => n1 (by rw [keyR_inj z]; exact List.mem_of_getElem? (show es[j]? = some e by simpa using h1))
      unfold valV at ih ⊢
      rw [List.find?_cons, decide_eq_false ne]
      exact ih
def LastP (Hd : Hp) (D : Addr) (F : Str × Str → List Str) (z : Addr × Addr × Addr) (e : Str × Str) : Prop := z.1 ≠ D ∧ z.2.1 ≠ D ∧ z.2.2 ≠ D ∧ Hd z.1 = some (.tup [.ref z.2.1, .ref z.2.2]) ∧ Hd z.2.1 = some (.tup [.str e.1, .str e.2]) ∧ Hd z.2.2 = some (.lst ((F e).map V.str))
theorem last_dict {K : PySem.W.Frag} {Hd : Hp} {D : Addr} {F : Str × Str → List Str} : ∀ {zs : List (Addr × Addr × Addr)} {rs : List (Str × Str)}, Paired (LastP Hd D F) zs rs →
    ∃ es : List (List Key × Addr × V), Paired (PrK K Hd) (zs.map (·.1)) es ∧ es.map (·.1) = rs.map keyR ∧ es.map (fun e => (e.1, e.2.2)) = (rs.zip (zs.map (·.2.2))).map fun e => (keyR e.1, V.ref e.2)
  | _, _, .nil => ⟨[], .nil, rfl, rfl⟩
  | _, _, .cons (a := z) (b := e) h t => by
    obtain ⟨es, p1, p2, p3⟩ := last_dict (K := K) t
    refine ⟨(keyR e, z.2.1, .ref z.2.2) :: es, .cons ⟨SqT.of h.2.2.2.1, h.2.2.2.2.1⟩ p1, by simp [p2], ?_⟩
    rw [List.map_cons, p3]
    rfl
theorem paired_maps {α β γ δ : Type} {f : α → γ} {g : β → δ} {F : γ → δ → Prop} : ∀ {xs : List α} {ys : List β}, Paired (fun x y => F (f x) (g y)) xs ys → Paired F (xs.map f) (ys.map g)
  | _, _, .nil => .nil
  | _, _, .cons h t => .cons h (paired_maps t)
end K1
end
-- MHo
section
set_option Elab.async false
set_option linter.all false
set_option maxRecDepth 100000
set_option maxHeartbeats 4000000
namespace K1
open PySem PySem.Spec PyProof.Rows L2 W0
abbrev sHn : Stmt := top 40
def NmD (kvs : List (Key × V)) (ss : List Str) (f : Str → Str) : Prop := ∀ s ∈ ss, valV kvs (.inr s) = some (.str (f s))
/-- a dict of lists, by name, but of those that are gone -/
structure LsD (H0 H : Hp) (kvs : List (Key × V)) (ss gone : List Str) (ad : Str → Addr) (F : Str → List Str) : Prop where
  no : ∀ s ∈ ss, s ∈ gone → valV kvs (.inr s) = none
  yes : ∀ s ∈ ss, s ∉ gone → valV kvs (.inr s) = some (.ref (ad s)) ∧ H0 (ad s) = none ∧ H (ad s) = some (.lst ((F s).map V.str))
  inj : ∀ s ∈ ss, ∀ t ∈ ss, s ∉ gone → t ∉ gone → ad s = ad t → s = t
theorem LsD.same {H0 H H' : Hp} {kvs : List (Key × V)} {ss gone : List Str} {ad : Str → Addr} {F : Str → List Str} (h : LsD H0 H kvs ss gone ad F) (e : Same H H') : LsD H0 H' kvs ss gone ad F :=
  ⟨h.no, fun s hs n => ⟨(h.yes s hs n).1, (h.yes s hs n).2.1, e _ _ (h.yes s hs n).2.2⟩, h.inj⟩
def roadAt (rs : List (Str × Str)) (j : Nat) : Str × Str := (rs[j]?).getD ("", "")
noncomputable def farsOf (rs : List (Str × Str)) (o : Str) (js : List Nat) : List Str := js.map fun j => farG rs o (roadAt rs j)
def UpD (kvs : List (Key × V)) (ss : List Str) (rs : List (Str × Str)) (o : Str) : Prop := valV kvs (.inr o) = some .non ∧ ∀ s ∈ ss, s ≠ o → valV kvs (.inr s) = some (.str (upG rs o s))
theorem UpD.of {kvs : List (Key × V)} {ss : List Str} {rs : List (Str × Str)} {o : Str} (T : Tree ss rs) (h : ∀ s ∈ ss, s ≠ o → ∃ u l, valV kvs (.inr s) = some (.str u) ∧ Pt rs s (s :: u :: l) o) (z : valV kvs (.inr o) = some .non) : UpD kvs ss rs o :=
  ⟨z, fun s hs n => by obtain ⟨u, l, a, b⟩ := h s hs n; rw [a, upG_eq T.cut b]⟩
theorem roadAt_mem {rs : List (Str × Str)} {j : Nat} (h : j < rs.length) : roadAt rs j = rs[j] ∧ roadAt rs j ∈ rs := by
  unfold roadAt
  rw [List.getElem?_eq_getElem h]
  exact ⟨rfl, List.getElem_mem h⟩
theorem roads_nd {rs : List (Str × Str)} {js : List Nat} (hc : rs.Nodup) (n : js.Nodup) (l : ∀ j ∈ js, j < rs.length) : (js.map (roadAt rs)).Nodup :=
  nodup_on n fun x hx y hy q => by
    rw [(roadAt_mem (l x hx)).1, (roadAt_mem (l y hy)).1] at q
    exact (List.getElem_inj hc).mp q
def HnR (H H' : Hp) (k1 k2 : List (Key × V)) (ss : List Str) (ad : Str → Addr) (S : HS) : Prop := LsD H H' k1 ss S.gone ad S.lists ∧ ∀ s, valV k2 (.inr s) = (S.tk s).map V.str
def spHn (C : Addr) : Sp := fun vs H Q _ => ∃ (x p : Addr) (o : Str) (ss : List Str) (rs : List (Str × Str)) (ns : List Int) (js : List Nat), vs = [.ref x, .ref p, .str o] ∧ IsV C H x ss rs ns ∧ Tree ss rs ∧ ss.length ≤ 500 ∧ o ∈ ss ∧ H p = some (.lst (intsV js)) ∧ js.Nodup ∧ (∀ j ∈ js, j < rs.length) ∧
  ∀ (t d1 d2 : Addr) (k1 k2 : List (Key × V)) (ad : Str → Addr) (H' : Hp), Same H H' → H t = none → H' t = some (.tup [.ref d1, .ref d2]) → H' d1 = some (.dK k1) → H' d2 = some (.dK k2) → HnR H H' k1 k2 ss ad (hsOf (upG rs o) (farsOf rs o js)) → Q (.ref t) H'
theorem scHn : FnScope ["valley", "places", "gate", "nearer", "house", "nearest", "lists", "takers", "roads", "place", "one", "other", "giver", "taker"] ["valley", "places", "gate"] (defScope sHn) := ⟨rfl, rfl, rfl, by decide +kernel, rfl, by decide +kernel, by decide +kernel⟩
theorem val_drop (kvs : List (Key × V)) (k j : Key) : valV (dropK kvs k) j = if j = k then none else valV kvs j := by
  induction kvs with
  | nil => split <;> rfl
  | cons p r ih =>
    by_cases e : p.1 = k
    · rw [dropK_pos e, ih]
      by_cases c : j = k
      · rw [if_pos c, if_pos c]
      · rw [if_neg c, if_neg c, valV_neg fun z => c (z.symm.trans e)]
    · rw [dropK_neg e]
      by_cases c : p.1 = j
      · rw [valV_pos c, valV_pos c, if_neg fun z => e (c.trans z)]
      · rw [valV_neg c, valV_neg c, ih]
theorem pick_var {b : Bool} {i j : Nat} {σ : L2.St} {H : Hp} {Q : VK} {v w u : V} (hi : σ[i]? = some (some v)) (hj : σ[j]? = some (some w)) (e1 : b = true → v = u) (e2 : b = false → w = u) (q : Q u H) : if b = true then tVar i σ H Q else tVar j σ H Q := by
  cases b with
  | true => rw [if_pos rfl]; exact ⟨v, hi, by rw [e1 rfl]; exact q⟩
  | false => rw [if_neg (by decide)]; exact ⟨w, hj, by rw [e2 rfl]; exact q⟩
theorem LsD.step {H0 Hc Hd : Hp} {kl : List (Key × V)} {ss gone : List Str} {ad : Str → Addr} {F : Str → List Str} {G : List Str} {f t : Str} (h : LsD H0 Hc kl ss gone ad F) (ht : t ∈ ss) (nt : t ∉ gone) (hd : Hd (ad t) = some (.lst ((F t ++ G).map V.str))) (hk : ∀ b o, b ≠ ad t → Hc b = some o → Hd b = some o) :
    LsD H0 Hd (dropK kl (.inr f)) ss (gone ++ [f]) ad fun s => if s = t then F s ++ G else F s := by
  refine ⟨fun s hs hg => ?_, fun s hs hg => ?_, fun s hs u hu n1 n2 => h.inj s hs u hu (fun z => n1 (List.mem_append_left _ z)) (fun z => n2 (List.mem_append_left _ z))⟩
  · rw [val_drop]
    by_cases c : s = f
    · rw [c, if_pos rfl]
    · rw [if_neg fun z => c (Sum.inr.inj z)]
      refine h.no s hs ?_
      rcases List.mem_append.mp hg with z | z
      · exact z
      · exact absurd (List.mem_singleton.mp z) c
  · have n1 : s ∉ gone := fun z => hg (List.mem_append_left _ z)
    have n2 : s ≠ f := fun z => hg (List.mem_append_right _ (List.mem_singleton.mpr z))
    obtain ⟨a, b, c⟩ := h.yes s hs n1
    refine ⟨by rw [val_drop, if_neg fun z => n2 (Sum.inr.inj z)]; exact a, b, ?_⟩
    by_cases e : s = t
    · simp only [e, if_true]
      exact hd
    · simp only [if_neg e]
      exact hk _ _ (fun z => e (h.inj s hs t ht n1 nt z)) c
section
variable {P : Program} {w : World} {K : PySem.W.Frag} {mg : Str → Option Value} {base : Heap} {C fN fH fR : Addr} {fdN fdH fdR : FuncData}
theorem ok_Hn {f : Addr} {fd : FuncData} (F : Fun K "_hand_on" "_hand_on" sHn f fd) (T : VcT K C)
    (GN : FnOk P w K mg base CX0 1 fN fdN ["self", "start"] (spNr C)) (hN : Meth K C "nearer" fN) (bN : Binds K fdN ["self", "start"] [])
    (GH : FnOk P w K mg base CX0 1 fH fdH ["self"] (spHo C)) (hH : Meth K C "houses" fH) (bH : Binds K fdH ["self"] [])
    (GR : FnOk P w K mg base CX0 1 fR fdR ["self"] (spRo C)) (hR : Meth K C "roads" fR) (bR : Binds K fdR ["self"] []) :
    FnOk P w K mg base CX0 2 f fd ["valley", "places", "gate"] (spHn C) := by
  refine F.ok scHn (fun vs H Q E h => ?_) (fun cdv A outer s H vs Q E hr h => ?_)
  · obtain ⟨x, p, o, ss, rs, ns, js, rfl, _⟩ := h
    rfl
  obtain ⟨x, p, o, ss, rs, ns, js, rfl, iv, tr, hl, ho, hp, ndj, lj, q⟩ := h
  have nd := scHn.nd
  have hu := hu_of hr
  have hr1 : Room 1 _ := hr.mono (by decide)
  refine ⟨_, (pss_cons (by exact (ps_set (i := 3) nd rfl (.inl rfl) (pe_meth (pv 0) T.cl hN GN hr1 bN .nil pass0 (pa_cons (pv 2) pa_nil))))
  (pss_cons (by exact (ps_setDc (i := 5) (own := [("house", 4)]) (g := gName 4) (tt := tYes) (tk := tVar 4) (tv := tVar 4) rfl nd rfl rfl (sw_trueD rfl rfl rfl (by decide +kernel)) (by exact pi_list (pe_meth0 (pv 0) T.cl hH GH hr1 bH .nil pass0)) (by exact blkOk_by (N := ["valley", "places", "gate", "nearer", "house", "nearest", "lists", "takers", "roads", "place", "one", "other", "giver", "taker"]) (sc := defScope sHn) (by decide +kernel)) (fun _ _ _ _ _ => by exact (pg_name (i := 4) nd rfl (.inl rfl))) (fun _ _ _ _ _ => by exact pts_nil) (fun _ _ _ _ _ => by exact (pv 4)) (fun _ _ _ _ _ => by exact (pv 4))))
  (pss_cons (by exact (ps_setDc (i := 6) (own := [("house", 4)]) (g := gName 4) (tt := tYes) (tk := tVar 4) (tv := tLst tNil) rfl nd rfl rfl (sw_trueD rfl rfl rfl (by decide +kernel)) (by exact pi_list (pe_meth0 (pv 0) T.cl hH GH hr1 bH .nil pass0)) (by exact blkOk_by (N := ["valley", "places", "gate", "nearer", "house", "nearest", "lists", "takers", "roads", "place", "one", "other", "giver", "taker"]) (sc := defScope sHn) (by decide +kernel)) (fun _ _ _ _ _ => by exact (pg_name (i := 4) nd rfl (.inl rfl))) (fun _ _ _ _ _ => by exact pts_nil) (fun _ _ _ _ _ => by exact (pv 4)) (fun _ _ _ _ _ => by exact (pe_lst pa_nil))))
  (pss_cons (by exact (ps_set (i := 7) nd rfl (.inl rfl) pe_dnewK))
  (pss_cons (by exact (ps_set (i := 8) nd rfl (.inl rfl) (pe_meth0 (pv 0) T.cl hR GR hr1 bR .nil pass0)))
  (pss_cons (by exact (ps_for PassesOwn.never rfl (by exact pi_list (pv 1)) (pg_name (i := 9) nd rfl (.inl rfl)) (pss_cons (by exact (ps_asg (pe_ix ix_list (pv 8) (pv 9) (fun _ _ => rfl)) (pg_tup rfl (pgs_cons (pg_name (i := 10) nd rfl (.inl rfl)) (pgs_cons (pg_name (i := 11) nd rfl (.inl rfl)) pgs_nil)))))
  (pss_cons (by exact (ps_set (i := 12) nd rfl (.inl rfl) (pe_ifExp (pt_cmpR op_eq (pe_dget hu (pv 3) (pv 10) (fun _ _ => rfl)) (pv 11) (nomark _)) (pv 10) (pv 11))))
  (pss_cons (by exact (ps_set (i := 13) nd rfl (.inl rfl) (pe_dget hu (pv 5) (pe_dget hu (pv 3) (pv 12) (fun _ _ => rfl)) (fun _ _ => rfl))))
  (pss_cons (by exact (ps_expr (pe_bm PySem.F.plainAttrs_list PySem.F.slot_list_extend PySem.F.type_list_extend mt_extend (pe_dget hu (pv 6) (pv 13) (fun _ _ => rfl)) (pa_cons (pe_op op_cat (pe_dget hu (pv 6) (pv 12) (fun _ _ => rfl)) (pe_lst (pa_cons (pv 12) pa_nil))) pa_nil))))
  (pss_cons (by exact (ps_ddel (pv 6) (pv 12)))
  (pss_cons (by exact (ps_dput hu (pv 7) (pv 12) (pv 13) rfl))
  (pss_one (by exact (ps_for PassesOwn.never rfl (by exact pi_list (pe_meth0 (pv 0) T.cl hH GH hr1 bH .nil pass0)) (pg_name (i := 4) nd rfl (.inl rfl)) (pss_one (by exact (ps_if (pt_cmpR op_eq (pe_dget hu (pv 5) (pv 4) (fun _ _ => rfl)) (pv 12) (nomark _)) (pss_one (by exact (ps_dput hu (pv 5) (pv 4) (pv 13) rfl))) pss_nil))))))))))))))
  (pss_one (by exact (ps_ret (pe_tup (pa_cons (pv 6) (pa_cons (pv 7) pa_nil)))))))))))), ?_⟩
  obtain ⟨dx, fx, ix, f0⟩ := iv.inst
  have m1 := f0 "nearer" (by decide +kernel)
  have m2 := f0 "houses" (by decide +kernel)
  have m3 := f0 "roads" (by decide +kernel)
  with_reducible refine sQ ?_
  refine ⟨_, rfl, x, dx, fx, rfl, ix, m1, _, rfl, x, o, ss, rs, ns, rfl, iv, tr, by omega, ho, fun dN kN H1 e1 nN gN1 near z0 => ?_⟩
  have up1 := UpD.of tr near z0
  refine K1.gN ?_
  with_reducible refine sQ ?_
  -- nearest
  refine ⟨_, rfl, x, dx, fx, rfl, e1 _ _ ix, m2, x, ss, rs, ns, rfl, iv.same e1, fun l1 hl1 => ?_⟩
  have g1 := upd_same' H1 l1 (.lst (ss.map V.str))
  have e2 : Same H1 (L2.upd H1 l1 (.lst (ss.map V.str))) := K1.Same.upd hl1
  generalize L2.upd H1 l1 (.lst (ss.map V.str)) = H2 at g1 e2 ⊢
  have e12 := e1.trans e2
  refine ⟨l1, rfl, ⟨_, SqL.of g1⟩, fun dn hdn => ?_⟩
  have at_ : ∀ i v, (ss.map V.str)[i]? = some v → ∃ h : i < ss.length, v = .str ss[i] := fun i v e => by
    rw [List.getElem?_map] at e
    rcases Nat.lt_or_ge i ss.length with hi | hi
    · rw [List.getElem?_eq_getElem hi] at e
      exact ⟨hi, (Option.some.inj e).symm⟩
    · rw [List.getElem?_eq_none hi] at e
      cases e
  have hdn0 := e12.free hdn
  refine dc_it walk_list (fun i Hc => Same H2 Hc ∧ ∃ kvs, Hc dn = some (.dK kvs) ∧ kvs.length ≤ i ∧ NmD kvs (ss.take i) id) ⟨K1.Same.upd hdn, [], upd_same, Nat.zero_le _, fun s hs => absurd hs (by simp)⟩ (fun i Hc _ h => SqL.of (h.1 _ _ g1)) ?_ ?_
  · rintro i v Hc H' hi ⟨c1, kvs, c2, c3, c4⟩ ⟨rfl, hv⟩
    obtain ⟨hi', rfl⟩ := at_ i v hv
    refine ⟨rfl, ?_⟩
    unfold tYes
    refine iteT ?_
    refine ⟨_, rfl, _, rfl, kvs, .inr ss[i], rfl, c2, small1000 (by omega), ps_same_upd c1 hdn, _, upd_same, ?_, fun s hs => ?_⟩
    · exact Nat.le_trans putK_le (by omega)
    · rw [valV_put]
      rcases (mem_take_succ hi').mp hs with hs | rfl
      · have ne : ¬ (Sum.inr s : Key) = .inr ss[i] := fun z => nodup_take_not tr.nd hi' (by rw [← Sum.inr.inj z]; exact hs)
        rw [if_neg ne]
        exact c4 s hs
      · rw [if_pos rfl]
        rfl
  rintro H3 ⟨e3, kn, gn3, ln3, nm3⟩
  rw [List.length_map] at ln3
  rw [List.length_map, List.take_length] at nm3
  have e13 := e12.trans e3
  refine K1.gN ?_
  with_reducible refine sQ ?_
  -- lists
  refine ⟨_, rfl, x, dx, fx, rfl, e13 _ _ ix, m2, x, ss, rs, ns, rfl, iv.same e13, fun l2 hl2 => ?_⟩
  have g2 := upd_same' H3 l2 (.lst (ss.map V.str))
  have e4 : Same H3 (L2.upd H3 l2 (.lst (ss.map V.str))) := K1.Same.upd hl2
  generalize L2.upd H3 l2 (.lst (ss.map V.str)) = H4 at g2 e4 ⊢
  have e14 := e13.trans e4
  refine ⟨l2, rfl, ⟨_, SqL.of g2⟩, fun dl hdl => ?_⟩
  have hdl0 := e14.free hdl
  refine dc_it walk_list (fun i Hc => Same H4 Hc ∧ ∃ kvs ad, Hc dl = some (.dK kvs) ∧ kvs.length ≤ i ∧ LsD H4 Hc kvs (ss.take i) [] ad fun _ => []) ⟨K1.Same.upd hdl, [], fun _ => 0, upd_same, Nat.zero_le _, fun s hs => absurd hs (by simp), fun s hs => absurd hs (by simp), fun s hs => absurd hs (by simp)⟩ (fun i Hc _ h => SqL.of (h.1 _ _ g2)) ?_ ?_
  · rintro i v Hc H' hi ⟨c1, kvs, ad, c2, c3, c4⟩ ⟨rfl, hv⟩
    obtain ⟨hi', rfl⟩ := at_ i v hv
    refine ⟨rfl, ?_⟩
    unfold tYes
    refine iteT ?_
    refine ⟨_, rfl, (by show 0 ≤ sizeLine; decide), fun d hd => ?_⟩
    have nw : ∀ s ∈ ss.take i, s ≠ ss[i] := fun s hs z => nodup_take_not tr.nd hi' (by rw [← z]; exact hs)
    have d0 := c1.free hd
    have ddl : d ≠ dl := fun z => by rw [z, c2] at hd; cases hd
    have gd : L2.upd H' d (.lst []) dl = some (.dK kvs) := by rw [upd_ne ddl.symm]; exact c2
    refine ⟨kvs, .inr ss[i], rfl, gd, small1000 (by omega), ps_same_upd (ps_same_upd c1 d0) hdl, _, fun s => if s = ss[i] then d else ad s, upd_same, Nat.le_trans putK_le (by omega), fun s _ h => absurd h (by simp), fun s hs _ => ?_, fun s hs t ht _ _ z => ?_⟩
    · rw [valV_put]
      rcases (mem_take_succ hi').mp hs with hs | rfl
      · have ne : ¬ (Sum.inr s : Key) = .inr ss[i] := fun z => nw s hs (Sum.inr.inj z)
        rw [if_neg ne]
        simp only [if_neg (nw s hs)]
        obtain ⟨a1, a2, a3⟩ := c4.yes s hs (by simp)
        refine ⟨a1, a2, ?_⟩
        rw [upd_ne, upd_ne]
        · exact a3
        · exact fun z => by rw [z, hd] at a3; cases a3
        · exact fun z => by rw [z, c2] at a3; cases a3
      · rw [if_pos rfl]
        simp only [if_true]
        exact ⟨trivial, d0, by rw [upd_ne ddl]; exact upd_same⟩
    · have old : ∀ s ∈ ss.take i, ad s ≠ d := fun s hs z => by
        have := (c4.yes s hs (by simp)).2.2
        rw [z, hd] at this
        cases this
      rcases (mem_take_succ hi').mp hs with hs | rfl <;> rcases (mem_take_succ hi').mp ht with ht | rfl
      · simp only [if_neg (nw s hs), if_neg (nw t ht)] at z
        exact c4.inj s hs t ht (by simp) (by simp) z
      · simp only [if_neg (nw s hs), if_true] at z
        exact absurd z (old s hs)
      · simp only [if_neg (nw t ht), if_true] at z
        exact absurd z.symm (old t ht)
      · rfl
  rintro H5 ⟨e5, kl, ad, gl5, ll5, ls5⟩
  rw [List.length_map, List.take_length] at ls5
  have e15 := e14.trans e5
  refine K1.gN ?_
  with_reducible refine sQ ?_
  -- takers
  intro dt hdt
  have e6 : Same H5 (L2.upd H5 dt (.dK [])) := K1.Same.upd hdt
  have gt6 := upd_same' H5 dt (.dK [])
  generalize L2.upd H5 dt (.dK []) = H6 at e6 gt6 ⊢
  have e16 := e15.trans e6
  have hdt0 := e15.free hdt
  refine K1.gN ?_
  with_reducible refine sQ ?_
  refine ⟨_, rfl, x, dx, fx, rfl, e16 _ _ ix, m3, x, ss, rs, ns, rfl, iv.same e16, fun lR qs hlR prR => ?_⟩
  have e7 : Same H6 (L2.upd H6 lR (.lst (qs.map V.ref))) := K1.Same.upd hlR
  have gR7 := upd_same' H6 lR (.lst (qs.map V.ref))
  have prR7 := TupP.ext prR e7
  generalize L2.upd H6 lR (.lst (qs.map V.ref)) = H7 at e7 gR7 prR7 ⊢
  have e17 := e16.trans e7
  have hlR0 := e16.free hlR
  refine K1.gN ?_
  with_reducible refine sQ ?_
  refine ⟨_, rfl, p, rfl, ⟨_, SqL.of (e17 _ _ hp)⟩, ?_⟩
  have ls7 : LsD H H7 kl ss [] ad fun _ => [] := by
    have l := (ls5.same (e6.trans e7))
    exact ⟨l.no, fun s hs n => ⟨(l.yes s hs n).1, e14.free (l.yes s hs n).2.1, (l.yes s hs n).2.2⟩, l.inj⟩
  have gN4 : H4 dN = some (.dK kN) := e4 _ _ (e3 _ _ (e2 _ _ gN1))
  have Nn : dN ≠ dn := ne_of_none (e2 _ _ gN1) hdn
  have nl : dn ≠ dl := ne_of_none (e4 _ _ gn3) hdl
  have Nl : dN ≠ dl := ne_of_none gN4 hdl
  have nt : dn ≠ dt := ne_of_none (e5 _ _ (e4 _ _ gn3)) hdt
  have lt : dl ≠ dt := ne_of_none gl5 hdt
  have Nt : dN ≠ dt := ne_of_none (e5 _ _ gN4) hdt
  have offR : ∀ s ∈ ss, ad s ≠ lR := fun s hs z => by
    have := (e6 _ _ (ls5.yes s hs (by simp)).2.2)
    rw [z, hlR] at this
    cases this
  have lfs : ∀ {js' : List Nat}, js'.Nodup → (∀ j ∈ js', j < rs.length) → HInv ss rs o (hsOf (upG rs o) (farsOf rs o js')) := fun {js'} n l => by
    have e : farsOf rs o js' = (js'.map (roadAt rs)).map (farG rs o) := by unfold farsOf; rw [List.map_map]; rfl
    rw [e]
    refine hsOf_inv tr ho _ rfl (fars_nd tr ho (roads_nd tr.cut.1 n l) ?_) fun f hf => ?_
    · intro e he
      obtain ⟨j, hj, rfl⟩ := List.mem_map.mp he
      exact (roadAt_mem (l j hj)).2
    · obtain ⟨e, he, rfl⟩ := List.mem_map.mp hf
      obtain ⟨j, hj, rfl⟩ := List.mem_map.mp he
      have := farG_is tr ho (roadAt_mem (l j hj)).2
      exact ⟨this.1, this.2.1⟩
  refine for_it (walk_list (xs := intsV js)) (fun i σ Hc => (∃ a4 a9 a10 a11 a12 a13, σ = [some (.ref x), some (.ref p), some (.str o), some (.ref dN), a4, some (.ref dn), some (.ref dl), some (.ref dt), some (.ref lR), a9, a10, a11, a12, a13]) ∧ Same H Hc ∧ Hc dN = some (.dK kN) ∧ Hc lR = some (.lst (qs.map V.ref)) ∧ Paired (TupP Hc) qs rs ∧
    ∃ kn kl kt, Hc dn = some (.dK kn) ∧ kn.length ≤ ss.length ∧ NmD kn ss (hsOf (upG rs o) (farsOf rs o (js.take i))).lots ∧ Hc dl = some (.dK kl) ∧ Hc dt = some (.dK kt) ∧ kt.length ≤ i ∧ HnR H Hc kl kt ss ad (hsOf (upG rs o) (farsOf rs o (js.take i)))) ?_ ?_ ?_ ?_
  · exact ⟨⟨_, _, _, _, _, _, rfl⟩, e17, e7 _ _ (e6 _ _ (e5 _ _ (e4 _ _ (e3 _ _ (e2 _ _ gN1))))), gR7, prR7, kn, kl, [], e7 _ _ (e6 _ _ (e5 _ _ (e4 _ _ gn3))), ln3, nm3, e7 _ _ (e6 _ _ gl5), e7 _ _ gt6, Nat.zero_le _, ls7, fun s => rfl⟩
  · exact fun i σ Hc _ h => SqL.of (h.2.1 _ _ hp)
  · rintro i v σ Hc H' hi ⟨⟨a4, a9, a10, a11, a12, a13, rfl⟩, c1, c2, c3, c4, kn, kl, kt, c5, c6, c7, c8, c9, c10, c11, c12⟩ ⟨rfl, hv⟩
    have hi' : i < js.length := by unfold intsV at hi; rwa [List.length_map] at hi
    have ev : v = .int ((js[i] : Nat) : Int) := by
      have q2 : (intsV js)[i]? = some v := hv
      unfold intsV at q2
      rw [List.getElem?_map, List.getElem?_eq_getElem hi'] at q2
      exact (Option.some.inj q2).symm
    subst ev
    have hj : js[i] < rs.length := lj _ (List.getElem_mem hi')
    obtain ⟨er, em⟩ := roadAt_mem hj
    obtain ⟨e, ee⟩ : ∃ e, e = roadAt rs js[i] := ⟨_, rfl⟩
    rw [← ee] at er em
    have I := lfs (ndj.sublist (List.take_sublist i js)) fun j hj => lj j (List.mem_of_mem_take hj)
    have snoc : farsOf rs o (js.take (i + 1)) = farsOf rs o (js.take i) ++ [farG rs o e] := by
      unfold farsOf
      rw [take_snoc hi', List.map_append, ee]
      rfl
    have I2 := lfs (ndj.sublist (List.take_sublist (i + 1) js)) fun j hj => lj j (List.mem_of_mem_take hj)
    obtain ⟨fin, fo, fe⟩ := farG_is tr ho em
    have nf : farG rs o e ∉ farsOf rs o (js.take i) := by
      have e2 : farsOf rs o (js.take (i + 1)) = ((js.take (i + 1)).map (roadAt rs)).map (farG rs o) := by unfold farsOf; rw [List.map_map]; rfl
      have n2 := fars_nd tr ho (roads_nd tr.cut.1 (ndj.sublist (List.take_sublist (i + 1) js)) fun j hj => lj j (List.mem_of_mem_take hj)) (fun e he => by
        obtain ⟨j, hj, rfl⟩ := List.mem_map.mp he
        exact (roadAt_mem (lj j (List.mem_of_mem_take hj))).2)
      rw [← e2, snoc, List.nodup_append] at n2
      exact fun z => n2.2.2 _ z _ (List.mem_singleton.mpr rfl) rfl
    rw [snoc, hsOf_snoc] at I2 ⊢
    obtain ⟨S, eS⟩ : ∃ S, S = hsOf (upG rs o) (farsOf rs o (js.take i)) := ⟨_, rfl⟩
    have gS : S.gone = farsOf rs o (js.take i) := by rw [eS, hsOf_gone]
    rw [← eS] at I I2 c7 c11 c12 ⊢
    rw [← gS] at nf
    obtain ⟨f, ef⟩ : ∃ f, f = farG rs o e := ⟨_, rfl⟩
    rw [← ef] at fin fo fe nf I2 ⊢
    have hu2 := up_in tr ho fin fo
    have tn := I.taker tr ho fin fo
    have tin := I.lin tr ho hu2
    have tout := I.out _ hu2
    obtain ⟨t, et⟩ : ∃ t, t = S.lots (upG rs o f) := ⟨_, rfl⟩
    rw [← et] at tn tin tout
    -- one, other
    refine K1.gN ?_
    with_reducible refine sQ ?_
    obtain ⟨T, eT, gT⟩ := paired_ref c4 hj (show (qs.map V.ref)[js[i]]? = some (.ref (qs[js[i]]'(by rw [c4.length]; exact hj))) by rw [List.getElem?_map, List.getElem?_eq_getElem (by rw [c4.length]; exact hj)]; rfl)
    rw [← er] at gT
    have aT : atI (qs.map V.ref) ((js[i] : Nat) : Int) = some (.ref T) := atI_nat (by rw [← eT]; rw [List.getElem?_map, List.getElem?_eq_getElem (by rw [c4.length]; exact hj)]; rfl)
    refine ⟨_, rfl, _, rfl, lR, _, _, _, rfl, rfl, SqL.of c3, aT, T, _, rfl, SqT.of gT, rfl, _, _, rfl, _, _, rfl, rfl, ?_⟩
    dsimp only
    with_reducible refine sQ ?_
    -- giver
    obtain ⟨u1, hu1, sc1, de1⟩ : ∃ u1, valV kN (.inr e.1) = some u1 ∧ scal u1 (.str e.2) = true ∧ (decide (u1 = .str e.2) = true ↔ (e.1 ≠ o ∧ upG rs o e.1 = e.2)) := by
      by_cases c : e.1 = o
      · exact ⟨.non, by rw [c]; exact up1.1, rfl, Iff.intro (fun z => by cases (of_decide_eq_true z)) (fun z => absurd c z.1)⟩
      · exact ⟨_, up1.2 _ (tr.ends e em).1 c, rfl, Iff.intro (fun z => ⟨c, V.str.inj (of_decide_eq_true z)⟩) (fun z => decide_eq_true (by rw [z.2]))⟩
    have dg1 := DGet.k (k := .inr e.1) c2
    rw [hu1] at dg1
    refine ⟨_, rfl, _, rfl, dN, u1, rfl, dg1, _, rfl, sc1, _, rfl, ?_⟩
    refine pick_var (u := .str f) rfl rfl (fun z => ?_) (fun z => ?_) ?_
    · rw [ef]
      unfold farG
      rw [if_pos (de1.mp z)]
    · rw [ef]
      unfold farG
      rw [if_neg fun d => by rw [de1.mpr d] at z; cases z]
    refine K1.gN ?_
    with_reducible refine sQ ?_
    -- taker
    have dg2 := DGet.k (k := .inr f) c2
    rw [up1.2 f fin fo] at dg2
    have dg3 := DGet.k (k := .inr (upG rs o f)) c5
    rw [c7 _ hu2, ← et] at dg3
    refine ⟨_, rfl, _, rfl, _, rfl, dN, _, rfl, dg2, dn, _, rfl, dg3, ?_⟩
    refine K1.gN ?_
    with_reducible refine sQ ?_
    -- lists
    obtain ⟨y1, y2, y3⟩ := c11.yes t tin tout
    obtain ⟨z1, z2, z3⟩ := c11.yes f fin nf
    have dg4 := DGet.k (k := .inr t) c8
    rw [y1] at dg4
    have dg5 := DGet.k (k := .inr f) c8
    rw [z1] at dg5
    have len1 : ∀ h ∈ ss, h ∉ S.gone → (S.lists h).length + 1 ≤ 500 := fun h hh n => by
      have l := nodup_len (I.nd h hh n) fun x hx => ((I.mem h hh n x).mp hx).1
      rw [List.length_append, List.length_singleton] at l
      omega
    refine ⟨_, rfl, _, rfl, dl, _, rfl, dg4, .inl ⟨rfl, _, SqL.of y3⟩, ?_⟩
    refine ⟨_, rfl, _, rfl, dl, _, rfl, dg5, _, rfl, (by show 1 ≤ sizeLine; decide), fun l hl => ?_⟩
    have e8 : Same H' (L2.upd H' l (.lst [.str f])) := K1.Same.upd hl
    have g8 := upd_same' H' l (.lst [.str f])
    generalize L2.upd H' l (.lst [.str f]) = H8 at e8 g8 ⊢
    refine ⟨ad f, l, _, [.str f], rfl, rfl, e8 _ _ z3, g8, Nat.le_of_lt (small1000 (by rw [List.length_map]; exact Nat.le_trans (len1 f fin nf) (by decide))), fun m hm => ?_⟩
    have e9 : Same H8 (L2.upd H8 m (.lst ((S.lists f).map V.str ++ [.str f]))) := K1.Same.upd hm
    have g9 := upd_same' H8 m (.lst ((S.lists f).map V.str ++ [.str f]))
    generalize L2.upd H8 m (.lst ((S.lists f).map V.str ++ [.str f])) = H9 at e9 g9 ⊢
    have e89 := e8.trans e9
    refine ⟨ad t, m, _, _, rfl, rfl, e89 _ _ y3, g9, Nat.le_of_lt (small1000 ?_), ?_⟩
    · rw [List.length_map, List.length_append, List.length_map, List.length_singleton]
      have := len1 t tin tout
      have := len1 f fin nf
      omega
    have g10 := upd_same' H9 (ad t) (.lst ((S.lists t).map V.str ++ ((S.lists f).map V.str ++ [.str f])))
    have k10 : ∀ b o, b ≠ ad t → H' b = some o → L2.upd H9 (ad t) (.lst ((S.lists t).map V.str ++ ((S.lists f).map V.str ++ [.str f]))) b = some o := fun b o n h => by rw [upd_ne n]; exact e89 _ _ h
    generalize L2.upd H9 (ad t) (.lst ((S.lists t).map V.str ++ ((S.lists f).map V.str ++ [.str f]))) = H10 at g10 k10 ⊢
    dsimp only
    with_reducible refine sQ ?_
    have tdl : ad t ≠ dl := fun z => by rw [z, c8] at y3; cases y3
    have tdn : ad t ≠ dn := fun z => by rw [z, c5] at y3; cases y3
    have tdt : ad t ≠ dt := fun z => by rw [z, c9] at y3; cases y3
    have tdN : ad t ≠ dN := fun z => by rw [z, c2] at y3; cases y3
    refine ⟨_, rfl, _, rfl, dl, kl, .inr f, rfl, k10 _ _ tdl.symm c8, rfl, by rw [z1]; rfl, ?_⟩
    have g11 := upd_same' H10 dl (.dK (dropK kl (.inr f)))
    have k11 : ∀ b o, b ≠ ad t → b ≠ dl → H' b = some o → L2.upd H10 dl (.dK (dropK kl (.inr f))) b = some o := fun b o n n2 h => by rw [upd_ne n2]; exact k10 _ _ n h
    have gt11 : L2.upd H10 dl (.dK (dropK kl (.inr f))) (ad t) = some (.lst ((S.lists t).map V.str ++ ((S.lists f).map V.str ++ [.str f]))) := by rw [upd_ne tdl]; exact g10
    generalize L2.upd H10 dl (.dK (dropK kl (.inr f))) = H11 at g11 k11 gt11 ⊢
    dsimp only
    with_reducible refine sQ ?_
    have lkt : kt.length ≤ 1000 := by
      have : i < js.length := hi'
      have l2 := nodup_len ndj (ys := List.range rs.length) fun j hj => List.mem_range.mpr (lj j hj)
      rw [List.length_range] at l2
      have := tr.len
      omega
    refine ⟨_, rfl, _, rfl, _, rfl, dt, _, rfl, DPut.k (k := .inr f) (k11 _ _ tdt.symm lt.symm c9) (small1000 lkt), ?_⟩
    have g12 := upd_same' H11 dt (.dK (putK kt (.inr f) (.str t)))
    have k12 : ∀ b o, b ≠ ad t → b ≠ dl → b ≠ dt → H' b = some o → L2.upd H11 dt (.dK (putK kt (.inr f) (.str t))) b = some o := fun b o n n2 n3 h => by rw [upd_ne n3]; exact k11 _ _ n n2 h
    have gt12 : L2.upd H11 dt (.dK (putK kt (.inr f) (.str t))) (ad t) = some (.lst ((S.lists t).map V.str ++ ((S.lists f).map V.str ++ [.str f]))) := by rw [upd_ne tdt]; exact gt11
    have gl12 : L2.upd H11 dt (.dK (putK kt (.inr f) (.str t))) dl = some (.dK (dropK kl (.inr f))) := by rw [upd_ne lt]; exact g11
    generalize L2.upd H11 dt (.dK (putK kt (.inr f) (.str t))) = H12 at g12 k12 gt12 gl12 ⊢
    have e12b : Same H H12 := fun b o hb => k12 b o (fun z => by rw [z, y2] at hb; cases hb) (fun z => by rw [z, hdl0] at hb; cases hb) (fun z => by rw [z, hdt0] at hb; cases hb) (c1 b o hb)
    have ls12 : LsD H H12 (dropK kl (.inr f)) ss (S.gone ++ [f]) ad fun s => if s = t then S.lists s ++ (S.lists f ++ [f]) else S.lists s := by
      have gt' : H12 (ad t) = some (.lst ((S.lists t ++ (S.lists f ++ [f])).map V.str)) := by rw [gt12, List.map_append, List.map_append]; rfl
      refine ⟨fun s hs hg => ?_, fun s hs hg => ?_, fun s hs u hu n1 n2 => c11.inj s hs u hu (fun z => n1 (List.mem_append_left _ z)) (fun z => n2 (List.mem_append_left _ z))⟩
      · rw [val_drop]
        by_cases c : s = f
        · rw [c, if_pos rfl]
        · rw [if_neg fun z => c (Sum.inr.inj z)]
          refine c11.no s hs ?_
          rcases List.mem_append.mp hg with z | z
          · exact z
          · exact absurd (List.mem_singleton.mp z) c
      · have n1 : s ∉ S.gone := fun z => hg (List.mem_append_left _ z)
        have n2 : s ≠ f := fun z => hg (List.mem_append_right _ (List.mem_singleton.mpr z))
        obtain ⟨q1, q2, q3⟩ := c11.yes s hs n1
        refine ⟨by rw [val_drop, if_neg fun z => n2 (Sum.inr.inj z)]; exact q1, q2, ?_⟩
        by_cases e : s = t
        · simp only [e, if_true]
          exact gt'
        · simp only [if_neg e]
          exact k12 _ _ (fun z => e (c11.inj s hs t tin n1 tout z)) (fun z => by rw [z, c8] at q3; cases q3) (fun z => by rw [z, c9] at q3; cases q3) q3
    dsimp only
    -- for house
    refine ⟨_, rfl, x, dx, fx, rfl, e12b _ _ ix, m2, x, ss, rs, ns, rfl, iv.same e12b, fun l3 hl3 => ?_⟩
    have e13b : Same H12 (L2.upd H12 l3 (.lst (ss.map V.str))) := K1.Same.upd hl3
    have g13 := upd_same' H12 l3 (.lst (ss.map V.str))
    generalize L2.upd H12 l3 (.lst (ss.map V.str)) = H13 at e13b g13 ⊢
    refine ⟨l3, rfl, ⟨_, SqL.of g13⟩, ?_⟩
    have gn13 : H13 dn = some (.dK kn) := e13b _ _ (k12 _ _ tdn.symm nl nt c5)
    have l3n : l3 ≠ dn := fun z => by rw [z, gn13] at g13; cases g13
    refine for_it (walk_list (xs := ss.map V.str)) (fun k σ Hx => (∃ a4, σ = [some (.ref x), some (.ref p), some (.str o), some (.ref dN), a4, some (.ref dn), some (.ref dl), some (.ref dt), some (.ref lR), some (.int ((js[i] : Nat) : Int)), some (.str e.1), some (.str e.2), some (.str f), some (.str t)]) ∧ Kept dn H13 Hx ∧
      ∃ kn', Hx dn = some (.dK kn') ∧ kn'.length ≤ ss.length ∧ ∀ s ∈ ss, valV kn' (.inr s) = some (.str (if s ∈ ss.take k ∧ S.lots s = f then t else S.lots s))) ?_ ?_ ?_ ?_
    · exact ⟨⟨_, rfl⟩, Kept.refl, kn, gn13, c6, fun s hs => by rw [if_neg fun z => absurd z.1 (by simp)]; exact c7 s hs⟩
    · exact fun k σ Hx _ h => SqL.of (h.2.1 _ _ l3n g13)
    · rintro k v σ Hx Hy hk ⟨⟨a4, rfl⟩, x1, kn', x2, x3, x4⟩ ⟨rfl, hv⟩
      obtain ⟨hk', rfl⟩ := at_ k v hv
      refine K1.gN ?_
      have hm := List.getElem_mem hk'
      have dgk := DGet.k (k := .inr ss[k]) x2
      rw [x4 _ hm, if_neg fun z => nodup_take_not tr.nd hk' z.1] at dgk
      refine ⟨_, rfl, _, rfl, dn, _, rfl, dgk, _, rfl, rfl, _, rfl, ?_⟩
      refine ite2 (fun c => ?_) (fun c => ?_)
      · have cf : S.lots ss[k] = f := V.str.inj (of_decide_eq_true c)
        refine ⟨_, rfl, _, rfl, _, rfl, dn, _, rfl, DPut.k (k := .inr ss[k]) x2 (small1000 (by omega)), ?_⟩
        dsimp only
        refine ⟨⟨_, rfl⟩, x1.trans Kept.upd, _, upd_same, ?_, fun s hs => ?_⟩
        · rw [putK_len (by rw [x4 _ hm]; rfl)]
          exact x3
        · rw [valV_put]
          by_cases cs : s = ss[k]
          · rw [cs, if_pos rfl, if_pos ⟨(mem_take_succ hk').mpr (.inr rfl), cf⟩]
          · rw [if_neg fun z => cs (Sum.inr.inj z), x4 s hs]
            have : (s ∈ ss.take (k + 1) ∧ S.lots s = f) ↔ (s ∈ ss.take k ∧ S.lots s = f) := by
              rw [mem_take_succ hk']
              exact ⟨fun z => ⟨z.1.resolve_right cs, z.2⟩, fun z => ⟨.inl z.1, z.2⟩⟩
            simp only [this]
      · have cf : S.lots ss[k] ≠ f := fun z => by exact c (decide_eq_true (by rw [z]))
        refine nQ ?_
        refine ⟨⟨_, rfl⟩, x1, kn', x2, x3, fun s hs => ?_⟩
        rw [x4 s hs]
        have : (s ∈ ss.take (k + 1) ∧ S.lots s = f) ↔ (s ∈ ss.take k ∧ S.lots s = f) := by
          rw [mem_take_succ hk']
          exact ⟨fun z => ⟨z.1.resolve_right fun y => cf (by rw [← y]; exact z.2), z.2⟩, fun z => ⟨.inl z.1, z.2⟩⟩
        simp only [this]
    · rintro σ Hx ⟨⟨a4, rfl⟩, x1, kn', x2, x3, x4⟩
      rw [List.length_map] at x4
      simp only [List.take_length] at x4
      have eHx : Same H Hx := fun b o hb => x1 b o (fun z => by rw [z, hdn0] at hb; cases hb) (e13b _ _ (e12b _ _ hb))
      have kx : ∀ b o, b ≠ ad t → b ≠ dl → b ≠ dt → b ≠ dn → H' b = some o → Hx b = some o := fun b o n1 n2 n3 n4 h => x1 b o n4 (e13b _ _ (k12 b o n1 n2 n3 h))
      have kx2 : ∀ b o, b ≠ dn → H12 b = some o → Hx b = some o := fun b o n4 h => x1 b o n4 (e13b _ _ h)
      refine ⟨⟨_, _, _, _, _, _, rfl⟩, eHx, kx _ _ tdN.symm Nl Nt Nn c2, kx _ _ (fun z => offR t tin z.symm) (fun z => by rw [z, c8] at c3; cases c3) (fun z => by rw [z, c9] at c3; cases c3) (fun z => by rw [z, c5] at c3; cases c3) c3, paired_imp (fun b r hb => kx _ _ (fun z => by have hb : H' b = _ := hb; rw [z, y3] at hb; cases hb) (fun z => by have hb : H' b = _ := hb; rw [z, c8] at hb; cases hb) (fun z => by have hb : H' b = _ := hb; rw [z, c9] at hb; cases hb) (fun z => by have hb : H' b = _ := hb; rw [z, c5] at hb; cases hb) hb) c4, kn', _, _, x2, x3, fun s hs => ?_, kx2 _ _ nl.symm gl12, kx2 _ _ nt.symm g12, Nat.le_trans putK_le (by omega), ⟨?_, fun s => ?_⟩⟩
      · rw [x4 s hs]
        show some (V.str (if s ∈ ss ∧ S.lots s = f then t else S.lots s)) = some (.str (if S.lots s = f then S.lots (upG rs o f) else S.lots s))
        rw [← et]
        by_cases c : S.lots s = f
        · rw [if_pos ⟨hs, c⟩, if_pos c]
        · rw [if_neg fun z => c z.2, if_neg c]
      · have : (HS.step (upG rs o) S f).lists = fun s => if s = t then S.lists s ++ (S.lists f ++ [f]) else S.lists s := by rw [et]; rfl
        rw [this]
        show LsD H Hx _ ss (S.gone ++ [f]) ad _
        exact ⟨ls12.no, fun s hs n => ⟨(ls12.yes s hs n).1, (ls12.yes s hs n).2.1, kx2 _ _ (fun z => by have := (ls12.yes s hs n).2.1; rw [z] at this; have h3 := x2; have h4 := (ls12.yes s hs n).2.2; rw [z] at h4; have h5 : H12 dn = some (.dK kn) := k12 _ _ tdn.symm nl nt c5; rw [h5] at h4; cases h4) (ls12.yes s hs n).2.2⟩, ls12.inj⟩
      · rw [valV_put]
        show _ = (if s = f then some (S.lots (upG rs o f)) else S.tk s).map V.str
        rw [← et]
        by_cases c : s = f
        · rw [c, if_pos rfl, if_pos rfl]
          rfl
        · rw [if_neg fun z => c (Sum.inr.inj z), if_neg c]
          exact c12 s
  · rintro σ Hc ⟨⟨a4, a9, a10, a11, a12, a13, rfl⟩, c1, c2, c3, c4, kn, kl, kt, c5, c6, c7, c8, c9, c10, c11⟩
    have lt : (intsV js).length = js.length := by unfold intsV; rw [List.length_map]
    rw [lt, List.take_length] at c11
    refine ⟨_, rfl, _, rfl, (by show 2 ≤ sizeLine; decide), fun T hT => ?_⟩
    have eT := K1.Same.upd (H := Hc) (p := T) (o := .tup [.ref dl, .ref dt]) hT
    exact q T dl dt kl kt ad _ (c1.trans eT) (c1.free hT) upd_same (eT _ _ c8) (eT _ _ c9) ⟨c11.1.same eT, c11.2⟩
end
end K1
end
-- MNum
section
set_option Elab.async false
set_option linter.all false
set_option maxRecDepth 100000
set_option maxHeartbeats 1000000
namespace K1
open PySem PySem.Spec PyProof.Rows L2 W0
abbrev sIM : Stmt := inClass (top 10) 0
abbrev sNum : Stmt := top 16
abbrev sNm : Stmt := top 35
theorem scIM : FnScope ["self", "many"] ["self", "many"] (defScope sIM) := ⟨rfl, rfl, rfl, by decide +kernel, rfl, by decide +kernel, by decide +kernel⟩
theorem scNum : FnScope ["thing"] ["thing"] (defScope sNum) := ⟨rfl, rfl, rfl, by decide +kernel, rfl, by decide +kernel, by decide +kernel⟩
theorem scNm : FnScope ["valley", "many"] ["valley", "many"] (defScope sNm) := ⟨rfl, rfl, rfl, by decide +kernel, rfl, by decide +kernel, by decide +kernel⟩
def spNum (K : PySem.W.Frag) : Sp := fun vs H Q _ => ∃ (v : V), vs = [v] ∧ ((∃ i, v = .int i ∧ Q (.bl (decide (0 ≤ i))) H) ∨ (NotI K H v ∧ Q (.bl false) H))
def spNm (K : PySem.W.Frag) (C CM : Addr) : Sp := fun vs H Q E => ∃ x ss rs ns v, vs = [.ref x, v] ∧ IsV C H x ss rs ns ∧ ((∃ m : Nat, v = .int (m : Int) ∧ m ≤ rs.length ∧ ∀ H', Same H H' → Q .non H') ∨
  (((∃ i : Int, v = .int i ∧ (i < 0 ∨ (rs.length : Int) < i)) ∨ NotI K H v) ∧ GoesF CM [("many", v)] H E))
section
variable {P : Program} {w : World} {K : PySem.W.Frag} {mg : Str → Option Value} {base : Heap} {CF C CN CM : Addr}
theorem ok_iM {f C : Addr} {fd : FuncData} (F : Fun K "__init__" "BadMany.__init__" sIM f fd) (T : FeC K mg CF) (TC : ErF K mg "BadMany" C f ["many"]) : FnOk P w K mg base CX0 1 f fd ["self", "many"] (spEr1 C "many") := by
  refine F.ok scIM (fun vs H Q E h => ?_) (fun cdv A outer s H vs Q E hr h => ?_)
  · obtain ⟨a, v, rfl, _⟩ := h
    rfl
  obtain ⟨a, v, rfl, ha, q⟩ := h
  refine ⟨_, pss_cons (by exact ps_expr (pe_feinit rfl T (pa_cons (pv 0) (pa_cons pe_str pa_nil)))) (pss_one (by exact ps_ost (pv 0) (pv 1))), ?_⟩
  refine ⟨_, rfl, a, C, [.str _], rfl, (by decide), TC.ox, ha, _, rfl, _, rfl, a, C, rfl, TC.ox, TC.no _ (by simp), .inl ⟨ha, fun d hd n => q d hd n⟩⟩
theorem ok_number {f g : Addr} {fd gd : FuncData} (F : Fun K "is_number" "is_number" sNum f fd) (FI : Fun K "is_integer" "is_integer" sIsInt g gd) (b : Binds K gd ["thing"] []) (m : mg "is_integer" = some (.ref g)) (B : Bl mg) :
    FnOk P w K mg base CX0 2 f fd ["thing"] (spNum K) := by
  have G := ok_isInt (P := P) (w := w) (base := base) FI B
  refine F.ok scNum (fun vs H Q E h => ?_) (fun cdv A outer s H vs Q E hr h => ?_)
  · obtain ⟨v, rfl, _⟩ := h
    rfl
  obtain ⟨v, rfl, h⟩ := h
  refine ⟨_, pss_one (by exact ps_ret (pe_and (pe_call G hr rfl m FI.kp b .nil pass0 (pa_cons (pv 0) pa_nil)) (pe_one (pe_cmpR op_ge (pv 0) pe_int (nomark _))))), ?_⟩
  rcases h with ⟨i, rfl, q⟩ | ⟨⟨t, ty, kt, nt⟩, q⟩
  · exact ⟨_, rfl, .int i, "int", rfl, .base (.int i), by decide, _, rfl, iteT ⟨_, rfl, i, 0, rfl, rfl, q⟩⟩
  · refine ⟨_, rfl, v, t, rfl, ty, kt, _, rfl, ?_⟩
    rw [decide_eq_false nt]
    exact iteF q
theorem ok_Nm {f fN fR fE : Addr} {fd nd_ rd ed : FuncData} (F : Fun K "need_many" "need_many" sNm f fd) (B : Bl mg) (T : VcT K C) (GN : FnOk P w K mg base CX0 2 fN nd_ ["thing"] (spNum K)) (bN : Binds K nd_ ["thing"] []) (kN : PySem.W.keepIn K (.ref fN) = true) (mN : mg "is_number" = some (.ref fN))
    (GR : FnOk P w K mg base CX0 1 fR rd ["self"] (spRo C)) (hR : Meth K C "roads" fR) (bR : Binds K rd ["self"] [])
    (TF : FeC K mg CF) (TC : ErF K mg "BadMany" CM fE ["many"]) (FE : Fun K "__init__" "BadMany.__init__" sIM fE ed) (bE : Binds K ed ["self", "many"] []) : FnOk P w K mg base (L2.CX P w) 3 f fd ["valley", "many"] (spNm K C CM) := by
  have GE := ok_iM (P := P) (w := w) (base := base) FE TF TC
  refine F.okX scNm (fun vs H Q E h => ?_) (fun cdv A outer s H vs Q E hr h => ?_)
  · obtain ⟨x, ss, rs, ns, v, rfl, _⟩ := h
    rfl
  obtain ⟨x, ss, rs, ns, v, rfl, iv, h⟩ := h
  have hr2 : Room 2 _ := hr.mono (by decide)
  have hr1 : Room 1 _ := hr.mono (by decide)
  refine ⟨_, pss_one (by exact (ps_if (PW.pt (pw_or (pt_not (pt_val (pe_call GN hr2 rfl mN kN bN .nil pass0 (pa_cons (pv 1) pa_nil)))) (pw_or1 (pt_cmpR op_gt (pv 1) (pe_callB call_len_seq rfl B.len PySem.boot_len (pa_cons (pe_meth0 (pv 0) T.cl hR GR hr1 bR .nil pass0) pa_nil)) (nomark _)))))
    (pss_one (by exact (ps_raise rfl (takes_of rfl rfl rfl rfl) (pmk_oex TC.ox TC.ini TC.ty GE hr2 bE .nil pass0 rfl TC.m (pa_cons (pv 1) pa_nil))))) pss_nil)), ?_⟩
  obtain ⟨dx, fx, ix, f0⟩ := iv.inst
  rcases h with ⟨m, rfl, hm, q⟩ | ⟨⟨i, rfl, hi⟩ | n, g⟩
  · refine ⟨_, rfl, _, rfl, .inl ⟨_, rfl, ?_⟩⟩
    rw [decide_eq_true (by omega : (0 : Int) ≤ (m : Int))]
    refine ⟨_, rfl, iteF ⟨_, rfl, _, rfl, x, dx, fx, rfl, ix, f0 _ (by decide +kernel), x, ss, rs, ns, rfl, iv, fun l qs hl pq => ?_⟩⟩
    have e1 := K1.Same.upd (H := H) (p := l) (o := .lst (qs.map V.ref)) hl
    have gl := upd_same' H l (.lst (qs.map V.ref))
    generalize L2.upd H l (.lst (qs.map V.ref)) = H1 at e1 gl ⊢
    have lq : (qs.map V.ref).length = rs.length := by rw [List.length_map, pq.length]
    refine ⟨l, _, rfl, .inl (SqL.of gl), (m : Int), _, rfl, rfl, ?_⟩
    rw [lq]
    exact ⟨false, congrArg V.bl (decide_eq_false (by omega)), iteF (q H1 e1)⟩
  · refine ⟨_, rfl, _, rfl, .inl ⟨i, rfl, ?_⟩⟩
    by_cases h0 : 0 ≤ i
    · rw [decide_eq_true h0]
      refine ⟨_, rfl, iteF ⟨_, rfl, _, rfl, x, dx, fx, rfl, ix, f0 _ (by decide +kernel), x, ss, rs, ns, rfl, iv, fun l qs hl pq => ?_⟩⟩
      have e1 := K1.Same.upd (H := H) (p := l) (o := .lst (qs.map V.ref)) hl
      have gl := upd_same' H l (.lst (qs.map V.ref))
      generalize L2.upd H l (.lst (qs.map V.ref)) = H1 at e1 gl ⊢
      have lq : (qs.map V.ref).length = rs.length := by rw [List.length_map, pq.length]
      refine ⟨l, _, rfl, .inl (SqL.of gl), i, _, rfl, rfl, ?_⟩
      rw [lq]
      exact ⟨true, congrArg V.bl (decide_eq_true (by omega)), iteT ⟨_, rfl, (by show 1 ≤ 1000; decide), raise_one g e1⟩⟩
    · rw [decide_eq_false h0]
      exact ⟨_, rfl, iteT ⟨_, rfl, (by show 1 ≤ 1000; decide), raise_one g (Same.refl _)⟩⟩
  · exact ⟨_, rfl, _, rfl, .inr ⟨n, _, rfl, iteT ⟨_, rfl, (by show 1 ≤ 1000; decide), raise_one g (Same.refl _)⟩⟩⟩
end
end K1
end
-- BSrc
section
set_option Elab.async false
set_option linter.all false
set_option maxRecDepth 100000
set_option maxHeartbeats 4000000
namespace K1
open PySem PySem.Spec PyProof.Rows L2
def spCell (K : PySem.W.Frag) : Sp := fun vs H Q _ => ∃ (a : Addr) (t : Int) (ns : List Int), vs = [.ref a, .int t] ∧ SqL K H a (ns.map V.int) ∧ 0 ≤ t ∧ t ≤ 1000 ∧ ns.length ≤ 1000 ∧ ∀ c, Q (.int c) H
def spSrc (K : PySem.W.Frag) : Sp := fun vs H Q _ => ∃ (a : Addr) (t : Int) (ns : List Int), vs = [.ref a, .int t] ∧ SqL K H a (ns.map V.int) ∧ 0 ≤ t ∧ t ≤ 1000 ∧ ns.length ≤ 1000 ∧ ∀ p H', Same H H' → H p = none → Spr H' p 0 → Q (.ref p) H'
theorem atI_map {ns : List Int} {t : Int} (h0 : 0 ≤ t) (h1 : t < (ns.length : Int)) : ∃ n : Int, atI (ns.map V.int) t = some (.int n) := by
  have hk : t.toNat < ns.length := by omega
  have q : atI (ns.map V.int) ((t.toNat : Nat) : Int) = some (.int ns[t.toNat]) := atI_nat (by rw [List.getElem?_map, List.getElem?_eq_getElem hk]; rfl)
  rw [show ((t.toNat : Nat) : Int) = t by omega] at q
  exact ⟨_, q⟩
section
variable {P : Program} {w : World} {K : PySem.W.Frag} {mg : Str → Option Value} {base : Heap}
end
end K1
end
-- BNm
section
set_option Elab.async false
set_option linter.all false
set_option maxRecDepth 100000
set_option maxHeartbeats 1000000
namespace K1
open PySem PySem.Spec PyProof.Rows L2 W0
def names10 : List Str := ["a", "bo", "c7", "dora", "eightsig", "f", "g2", "hal", "i", "jo"]
def nameK (k : Nat) : Str := ("h" : Str) ++ Str.ofString (toString ((0 : Int) + (k : Int)))
def names50 : List Str := (List.range 50).map nameK
def names60 : List Str := names10 ++ names50
def goodB (ss : List Str) : Bool := ss.Nodup && ss.all fun s => nameOk s && decide (s.length ≤ 1000)
theorem good_of {ss : List Str} (h : decide ss.Nodup = true) (h2 : (ss.all fun s => nameOk s && decide (s.length ≤ 1000)) = true) : Good ss := by
  refine ⟨of_decide_eq_true h, fun s hs => ?_⟩
  have := List.all_eq_true.mp h2 s hs
  exact ⟨(Bool.and_eq_true_iff.mp this).1, of_decide_eq_true (Bool.and_eq_true_iff.mp this).2⟩
theorem good60 : Good names60 := good_of (by decide +kernel) (by decide +kernel)
/-- no1 is none of them -/
def NoBody (ss : List Str) : Prop := ("no1" : Str) ∉ ss
theorem nobody60 : NoBody names60 := by unfold NoBody; decide +kernel
theorem NoBody.perm {as bs : List Str} (g : NoBody bs) (p : as.Perm bs) : NoBody as := fun h => g (p.mem_iff.mp h)
theorem NoBody.take {as : List Str} (g : NoBody as) (n : Nat) : NoBody (as.take n) := fun h => g (List.mem_of_mem_take h)
theorem Good.perm {as bs : List Str} (g : Good bs) (p : as.Perm bs) : Good as := ⟨p.nodup_iff.mpr g.1, fun s hs => g.2 s (p.mem_iff.mp hs)⟩
theorem Good.take {as : List Str} (g : Good as) (n : Nat) : Good (as.take n) := ⟨g.1.sublist (List.take_sublist _ _), fun s hs => g.2 s (List.mem_of_mem_take hs)⟩
def unS : V → Str
  | .str s => s
  | _ => ""
theorem unS_map (ss : List Str) : (ss.map V.str).map unS = ss := by
  rw [List.map_map]
  exact List.map_id _
theorem perm_str {ys : List V} {ss : List Str} (p : ys.Perm (ss.map V.str)) : ∃ ts : List Str, ys = ts.map V.str ∧ ts.Perm ss := by
  refine ⟨ys.map unS, ?_, by have := p.map unS; rwa [unS_map] at this⟩
  rw [List.map_map]
  have : ∀ y ∈ ys, (V.str ∘ unS) y = y := fun y hy => by
    obtain ⟨s, _, rfl⟩ := List.mem_map.mp (p.mem_iff.mp hy)
    rfl
  exact (List.map_congr_left this).trans (List.map_id _) |>.symm
theorem cut_to (xs : List V) (k : Nat) : cutV xs none (some (k : Int)) = xs.take k := by
  unfold cutV
  rw [HT.sIx_none, HT.sIx_nat, List.drop_zero, Nat.sub_zero]
  by_cases h : k ≤ xs.length
  · rw [Nat.min_eq_left h]
  · rw [Nat.min_eq_right (by omega), List.take_length, List.take_of_length_le (by omega)]
def spVN : Sp := fun vs H Q _ => ∃ (a : Addr) (m n : Nat), vs = [.ref a, .int (m : Int)] ∧ Spr H a n ∧ n + 2000 ≤ 1000000 ∧ 1 ≤ m ∧ m ≤ 60 ∧
  ∀ (r : Addr) (ss : List Str) (H' : Hp), H r = none → r ≠ a → Kept a H H' → Spr H' a (n + 60) → H' r = some (.lst (ss.map V.str)) → (Good ss ∧ NoBody ss) → ss.length = m → Q (.ref r) H'
section
variable {P : Program} {w : World} {K : PySem.W.Frag} {mg : Str → Option Value} {base : Heap} {fM : Addr} {fdM : FuncData}
end
end K1
end
-- MGl
section
set_option Elab.async false
set_option linter.all false
set_option maxRecDepth 100000
set_option maxHeartbeats 4000000
namespace K1
open PySem PySem.Spec PyProof.Rows L2 W0
abbrev sGl : Stmt := top 37
abbrev sLb : Stmt := top 38
abbrev sHs : Stmt := top 39
theorem scGl : FnScope ["valley", "evening", "gate", "places", "lists", "_"] ["valley", "evening", "gate"] (defScope sGl) := ⟨rfl, rfl, rfl, by decide +kernel, rfl, by decide +kernel, by decide +kernel⟩
theorem scLb : FnScope ["valley", "evening", "gate", "many", "places", "lists", "_", "house"] ["valley", "evening", "gate", "many"] (defScope sLb) := ⟨rfl, rfl, rfl, by decide +kernel, rfl, by decide +kernel, by decide +kernel⟩
theorem scHs : FnScope ["valley", "evening", "gate", "house", "places", "_", "takers", "through"] ["valley", "evening", "gate", "house"] (defScope sHs) := ⟨rfl, rfl, rfl, by decide +kernel, rfl, by decide +kernel, by decide +kernel⟩
/-- what an asker of an evening and a gate refuses first; else how the lists stand -/
def AskG (K : PySem.W.Frag) (C CV CE CN : Addr) (v u g : V) (H : Hp) (E : XK) (A : Addr → List Str → List (Str × Str) → List Int → Str → List Nat → Prop) : Prop :=
  (NoV K H v ∧ GoesF CV [("thing", v)] H E) ∨ ∃ x ss rs ns, v = .ref x ∧ IsV C H x ss rs ns ∧ Tree ss rs ∧ ss.length ≤ 60 ∧
  ((NoEv K H ss rs u ∧ GoesF CE [("evening", u)] H E) ∨ ∃ js, EvV H rs u js ∧ ((NoHo K H ss g ∧ GoesF CN [("house", g)] H E) ∨ ∃ o, g = .str o ∧ o ∈ ss ∧ A x ss rs ns o js))
noncomputable def hsA (rs : List (Str × Str)) (o : Str) (js : List Nat) : HS := hsOf (upG rs o) (farsOf rs o js)
def spGl (K : PySem.W.Frag) (C CV CE CN : Addr) : Sp := fun vs H Q E => ∃ v u g, vs = [v, u, g] ∧ AskG K C CV CE CN v u g H E fun x ss rs ns o js =>
  ∀ r H', Same H H' → H r = none → H' r = some (.lst (((hsA rs o js).lists o).map V.str)) → Q (.ref r) H'
def spLb9 (K : PySem.W.Frag) (C CV CE CN CM : Addr) : Sp := fun vs H Q E => ∃ v u g m, vs = [v, u, g, m] ∧ AskG K C CV CE CN v u g H E fun x ss rs ns o js =>
  ((((∃ i : Int, m = .int i ∧ (i < 0 ∨ (rs.length : Int) < i)) ∨ NotI K H m) ∧ GoesF CM [("many", m)] H E) ∨ ∃ n : Nat, m = .int (n : Int) ∧ n ≤ rs.length ∧
  ∀ (r : Addr) (ad : Str → Addr) (H' : Hp), Same H H' → H r = none → H' r = some (.dK ((ss.filter fun s => decide (s ∉ (hsA rs o (js.take n)).gone)).map fun s => ((.inr s : Key), V.ref (ad s)))) →
    (∀ s ∈ ss, s ∉ (hsA rs o (js.take n)).gone → H (ad s) = none ∧ H' (ad s) = some (.lst (((hsA rs o (js.take n)).lists s).map V.str))) →
    (∀ s ∈ ss, ∀ t ∈ ss, s ∉ (hsA rs o (js.take n)).gone → t ∉ (hsA rs o (js.take n)).gone → ad s = ad t → s = t) → Q (.ref r) H')
def spHs9 (K : PySem.W.Frag) (C CV CE CN : Addr) : Sp := fun vs H Q E => ∃ v u g h, vs = [v, u, g, h] ∧ AskG K C CV CE CN v u g H E fun x ss rs ns o js =>
  ((NoHo K H ss h ∧ GoesF CN [("house", h)] H E) ∨ ∃ s, h = .str s ∧ s ∈ ss ∧ ∀ r H', Same H H' → H r = none → H' r = some (.lst (((hsA rs o js).given s).map V.str)) → Q (.ref r) H')
theorem evv_lt {H : Hp} {rs : List (Str × Str)} {u : V} {js : List Nat} (h : EvV H rs u js) : js.length = rs.length ∧ js.Nodup ∧ ∀ j ∈ js, j < rs.length := by
  obtain ⟨⟨xs, sv, lx, pr, n⟩, l⟩ := h
  refine ⟨l, n, fun j hj => ?_⟩
  obtain ⟨i, hi, rfl⟩ := List.getElem_of_mem hj
  obtain ⟨y, ey, s, t, sv, pl⟩ := paired_get pr hi
  exact (plOf_at pl).1
theorem hsA_inv {ss : List Str} {rs : List (Str × Str)} {o : Str} {js : List Nat} (tr : Tree ss rs) (ho : o ∈ ss) (n : js.Nodup) (l : ∀ j ∈ js, j < rs.length) : HInv ss rs o (hsA rs o js) ∧ (farsOf rs o js).Nodup ∧ ∀ f ∈ farsOf rs o js, f ∈ ss ∧ f ≠ o := by
  have e : farsOf rs o js = (js.map (roadAt rs)).map (farG rs o) := by unfold farsOf; rw [List.map_map]; rfl
  have h1 : (farsOf rs o js).Nodup := by
    rw [e]
    refine fars_nd tr ho (roads_nd tr.cut.1 n l) ?_
    intro e he
    obtain ⟨j, hj, rfl⟩ := List.mem_map.mp he
    exact (roadAt_mem (l j hj)).2
  have h2 : ∀ f ∈ farsOf rs o js, f ∈ ss ∧ f ≠ o := fun f hf => by
    rw [e] at hf
    obtain ⟨e, he, rfl⟩ := List.mem_map.mp hf
    obtain ⟨j, hj, rfl⟩ := List.mem_map.mp he
    have := farG_is tr ho (roadAt_mem (l j hj)).2
    exact ⟨this.1, this.2.1⟩
  exact ⟨hsOf_inv tr ho _ rfl h1 h2, h1, h2⟩
theorem hsA_all {ss : List Str} {rs : List (Str × Str)} {o : Str} {js : List Nat} (tr : Tree ss rs) (ho : o ∈ ss) (n : js.Nodup) (l : ∀ j ∈ js, j < rs.length) (lj : js.length = rs.length) : ∀ s ∈ ss, (hsA rs o js).lots s = o := by
  intro s hs
  obtain ⟨I, h1, h2⟩ := hsA_inv tr ho n l
  by_cases c : (hsA rs o js).lots s = o
  · exact c
  · have := all_gone tr.nd ho h1 h2 (by unfold farsOf; rw [List.length_map, lj]; exact tr.len) _ (I.lin tr ho hs) c
    have no := I.out s hs
    unfold hsA at no
    rw [hsOf_gone] at no
    exact absurd this no
theorem hsA_gone {rs : List (Str × Str)} {o : Str} {js : List Nat} : (hsA rs o js).gone = farsOf rs o js := hsOf_gone
section
variable {P : Program} {w : World} {K : PySem.W.Frag} {mg : Str → Option Value} {base : Heap} {C CV CE CN CM fV fE fN fM fH fHo : Addr} {fdV fdE fdN fdM fdH fdHo : FuncData}
theorem ok_Gl {f : Addr} {fd : FuncData} (F : Fun K "gate_list" "gate_list" sGl f fd) (T : VcT K C)
    (GV : FnOk P w K mg base (L2.CX P w) 3 fV fdV ["valley"] (spNv K C CV)) (bV : Binds K fdV ["valley"] []) (kV : PySem.W.keepIn K (.ref fV) = true) (mV : mg "need_valley" = some (.ref fV))
    (GE : FnOk P w K mg base (L2.CX P w) 7 fE fdE ["valley", "evening"] (spCg K C CE)) (bE : Binds K fdE ["valley", "evening"] []) (kE : PySem.W.keepIn K (.ref fE) = true) (mE : mg "need_evening" = some (.ref fE))
    (GN : FnOk P w K mg base (L2.CX P w) 3 fN fdN ["self", "house"] (spNe K C CN)) (hN : Meth K C "need_house" fN) (bN : Binds K fdN ["self", "house"] [])
    (GH : FnOk P w K mg base CX0 2 fH fdH ["valley", "places", "gate"] (spHn C)) (bH : Binds K fdH ["valley", "places", "gate"] []) (kH : PySem.W.keepIn K (.ref fH) = true) (mH : mg "_hand_on" = some (.ref fH)) :
    FnOk P w K mg base (L2.CX P w) 8 f fd ["valley", "evening", "gate"] (spGl K C CV CE CN) := by
  refine F.okX scGl (fun vs H Q E h => ?_) (fun cdv A outer s H vs Q E hr h => ?_)
  · obtain ⟨v, u, g, rfl, _⟩ := h
    rfl
  obtain ⟨v, u, g, rfl, h⟩ := h
  have nd := scGl.nd
  have hu := hu_of hr
  have hr2 : Room 2 _ := hr.mono (by decide)
  have hr3 : Room 3 _ := hr.mono (by decide)
  have hr7 : Room 7 _ := hr.mono (by decide)
  refine ⟨_, (pss_cons (by exact (ps_expr (pe_call GV hr3 rfl mV kV bV .nil (passes_call (takes_of rfl rfl rfl rfl) (fun _ _ _ _ h => h)) (pa_cons (pv 0) pa_nil))))
  (pss_cons (by exact (ps_set (i := 3) nd rfl (.inl rfl) (pe_call GE hr7 rfl mE kE bE .nil (passes_call (takes_of rfl rfl rfl rfl) (fun _ _ _ _ h => h)) (pa_cons (pv 0) (pa_cons (pv 1) pa_nil)))))
  (pss_cons (by exact (ps_expr (pe_meth (pv 0) T.cl hN GN hr3 bN .nil (passes_call (takes_of rfl rfl rfl rfl) (fun _ _ _ _ h => h)) (pa_cons (pv 2) pa_nil))))
  (pss_cons (by exact (ps_asg (pe_call GH hr2 rfl mH kH bH .nil pass0 (pa_cons (pv 0) (pa_cons (pv 3) (pa_cons (pv 2) pa_nil)))) (pg_tup rfl (pgs_cons (pg_name (i := 4) nd rfl (.inl rfl)) (pgs_cons (pg_name (i := 5) nd rfl (.inl rfl)) pgs_nil)))))
  (pss_one (by exact (ps_ret (pe_dget hu (pv 4) (pv 2) (fun _ _ => rfl))))))))), ?_⟩
  rcases h with ⟨n, g⟩ | ⟨x, ss, rs, ns, rfl, iv, tr, lss, h⟩
  · exact ⟨_, rfl, v, rfl, .inr ⟨n, g⟩⟩
  refine ⟨_, rfl, .ref x, rfl, .inl ⟨x, ss, rs, ns, rfl, iv, ?_⟩⟩
  dsimp only
  with_reducible refine sQ ?_
  rcases h with ⟨n, g⟩ | ⟨js, ev, h⟩
  · exact ⟨_, rfl, _, rfl, x, u, ss, rs, ns, rfl, iv, tr.ends, .inr ⟨n, g⟩⟩
  obtain ⟨h1, h2, h3⟩ := evv_lt ev
  refine ⟨_, rfl, _, rfl, x, u, ss, rs, ns, rfl, iv, tr.ends, .inl ⟨js, ev, fun p H1 e1 np gp => ?_⟩⟩
  obtain ⟨dx, fx, ix, f0⟩ := iv.inst
  have m1 := f0 "need_house" (by decide +kernel)
  refine K1.gN ?_
  with_reducible refine sQ ?_
  rcases h with ⟨n, g2⟩ | ⟨o, rfl, ho, q⟩
  · exact ⟨_, rfl, x, dx, fx, rfl, e1 _ _ ix, m1, _, rfl, x, g, ss, rs, ns, rfl, iv.same e1, .inr ⟨n.ext e1, GoesF.ext g2 e1⟩⟩
  refine ⟨_, rfl, x, dx, fx, rfl, e1 _ _ ix, m1, _, rfl, x, .str o, ss, rs, ns, rfl, iv.same e1, .inl ⟨o, rfl, ho, ?_⟩⟩
  dsimp only
  with_reducible refine sQ ?_
  refine ⟨_, rfl, _, rfl, _, rfl, x, p, o, ss, rs, ns, js, rfl, iv.same e1, tr, by omega, ho, gp, h2, h3, fun t d1 d2 k1 k2 ad H2 e2 nt gt g1 g2 hn => ?_⟩
  refine ⟨t, _, rfl, SqT.of gt, rfl, _, _, rfl, _, _, rfl, rfl, ?_⟩
  dsimp only
  obtain ⟨I, _, _⟩ := hsA_inv tr ho h2 h3
  have no : o ∉ (hsA rs o js).gone := fun z => (I.ins o z).2 rfl
  obtain ⟨y1, y2, y3⟩ := hn.1.yes o ho no
  have dg := DGet.k (k := .inr o) g1
  rw [y1] at dg
  exact ⟨_, rfl, _, rfl, d1, _, rfl, dg, q _ _ (e1.trans e2) (e1.free y2) y3⟩
theorem ok_Lb {f : Addr} {fd : FuncData} (F : Fun K "lists_behind" "lists_behind" sLb f fd) (T : VcT K C)
    (GV : FnOk P w K mg base (L2.CX P w) 3 fV fdV ["valley"] (spNv K C CV)) (bV : Binds K fdV ["valley"] []) (kV : PySem.W.keepIn K (.ref fV) = true) (mV : mg "need_valley" = some (.ref fV))
    (GE : FnOk P w K mg base (L2.CX P w) 7 fE fdE ["valley", "evening"] (spCg K C CE)) (bE : Binds K fdE ["valley", "evening"] []) (kE : PySem.W.keepIn K (.ref fE) = true) (mE : mg "need_evening" = some (.ref fE))
    (GN : FnOk P w K mg base (L2.CX P w) 3 fN fdN ["self", "house"] (spNe K C CN)) (hN : Meth K C "need_house" fN) (bN : Binds K fdN ["self", "house"] [])
    (GM : FnOk P w K mg base (L2.CX P w) 3 fM fdM ["valley", "many"] (spNm K C CM)) (bM : Binds K fdM ["valley", "many"] []) (kM : PySem.W.keepIn K (.ref fM) = true) (mM : mg "need_many" = some (.ref fM))
    (GH : FnOk P w K mg base CX0 2 fH fdH ["valley", "places", "gate"] (spHn C)) (bH : Binds K fdH ["valley", "places", "gate"] []) (kH : PySem.W.keepIn K (.ref fH) = true) (mH : mg "_hand_on" = some (.ref fH))
    (GO : FnOk P w K mg base CX0 1 fHo fdHo ["self"] (spHo C)) (hO : Meth K C "houses" fHo) (bO : Binds K fdHo ["self"] []) :
    FnOk P w K mg base (L2.CX P w) 8 f fd ["valley", "evening", "gate", "many"] (spLb9 K C CV CE CN CM) := by
  refine F.okX scLb (fun vs H Q E h => ?_) (fun cdv A outer s H vs Q E hr h => ?_)
  · obtain ⟨v, u, g, m, rfl, _⟩ := h
    rfl
  obtain ⟨v, u, g, m, rfl, h⟩ := h
  have nd := scLb.nd
  have hu := hu_of hr
  have hr1 : Room 1 _ := hr.mono (by decide)
  have hr2 : Room 2 _ := hr.mono (by decide)
  have hr3 : Room 3 _ := hr.mono (by decide)
  have hr7 : Room 7 _ := hr.mono (by decide)
  refine ⟨_, (pss_cons (by exact (ps_expr (pe_call GV hr3 rfl mV kV bV .nil (passes_call (takes_of rfl rfl rfl rfl) (fun _ _ _ _ h => h)) (pa_cons (pv 0) pa_nil))))
  (pss_cons (by exact (ps_set (i := 4) nd rfl (.inl rfl) (pe_call GE hr7 rfl mE kE bE .nil (passes_call (takes_of rfl rfl rfl rfl) (fun _ _ _ _ h => h)) (pa_cons (pv 0) (pa_cons (pv 1) pa_nil)))))
  (pss_cons (by exact (ps_expr (pe_meth (pv 0) T.cl hN GN hr3 bN .nil (passes_call (takes_of rfl rfl rfl rfl) (fun _ _ _ _ h => h)) (pa_cons (pv 2) pa_nil))))
  (pss_cons (by exact (ps_expr (pe_call GM hr3 rfl mM kM bM .nil (passes_call (takes_of rfl rfl rfl rfl) (fun _ _ _ _ h => h)) (pa_cons (pv 0) (pa_cons (pv 3) pa_nil)))))
  (pss_cons (by exact (ps_asg (pe_call GH hr2 rfl mH kH bH .nil pass0 (pa_cons (pv 0) (pa_cons (pe_slice sl_list (pv 4) po_none (po_some (pv 3))) (pa_cons (pv 2) pa_nil)))) (pg_tup rfl (pgs_cons (pg_name (i := 5) nd rfl (.inr rfl)) (pgs_cons (pg_name (i := 6) nd rfl (.inl rfl)) pgs_nil)))))
  (pss_one (by exact (ps_ret (pe_dc (own := [("house", 7)]) (g := gName 7) (tt := tB (tDIn (tVar 7) (tVar 5))) (tk := tVar 7) (tv := tDGet (tVar 5) (tVar 7)) rfl nd (by exact pi_list (pe_meth0 (pv 0) T.cl hO GO hr1 bO .nil pass0)) (by exact blkOk_by (N := ["valley", "evening", "gate", "many", "places", "lists", "_", "house"]) (sc := defScope sLb) (by decide +kernel)) (fun _ _ _ _ _ => by exact (pg_name (i := 7) nd rfl (.inl rfl))) (fun _ _ _ _ _ => by exact (pts_one (pt_cmp (pc_din hu (pv 7) (pv 5)) (by with_unfolding_all rfl)))) (fun _ _ _ _ _ => by exact (pv 7)) (fun _ _ _ _ _ => by exact (pe_dget hu (pv 5) (pv 7) (fun _ _ => rfl)))))))))))), ?_⟩
  rcases h with ⟨n, g⟩ | ⟨x, ss, rs, ns, rfl, iv, tr, lss, h⟩
  · exact ⟨_, rfl, v, rfl, .inr ⟨n, g⟩⟩
  refine ⟨_, rfl, .ref x, rfl, .inl ⟨x, ss, rs, ns, rfl, iv, ?_⟩⟩
  dsimp only
  with_reducible refine sQ ?_
  rcases h with ⟨n, g⟩ | ⟨js, ev, h⟩
  · exact ⟨_, rfl, _, rfl, x, u, ss, rs, ns, rfl, iv, tr.ends, .inr ⟨n, g⟩⟩
  obtain ⟨h1, h2, h3⟩ := evv_lt ev
  refine ⟨_, rfl, _, rfl, x, u, ss, rs, ns, rfl, iv, tr.ends, .inl ⟨js, ev, fun p H1 e1 np gp => ?_⟩⟩
  obtain ⟨dx, fx, ix, f0⟩ := iv.inst
  have m1 := f0 "need_house" (by decide +kernel)
  have m2 := f0 "houses" (by decide +kernel)
  refine K1.gN ?_
  with_reducible refine sQ ?_
  rcases h with ⟨n, g2⟩ | ⟨o, rfl, ho, h⟩
  · exact ⟨_, rfl, x, dx, fx, rfl, e1 _ _ ix, m1, _, rfl, x, g, ss, rs, ns, rfl, iv.same e1, .inr ⟨n.ext e1, GoesF.ext g2 e1⟩⟩
  refine ⟨_, rfl, x, dx, fx, rfl, e1 _ _ ix, m1, _, rfl, x, .str o, ss, rs, ns, rfl, iv.same e1, .inl ⟨o, rfl, ho, ?_⟩⟩
  dsimp only
  with_reducible refine sQ ?_
  rcases h with ⟨n, g2⟩ | ⟨k, rfl, hk, q⟩
  · exact ⟨_, rfl, _, rfl, x, ss, rs, ns, m, rfl, iv.same e1, .inr ⟨n.imp id fun ⟨t, a, b⟩ => ⟨t, TyX.ext a e1, b⟩, GoesF.ext g2 e1⟩⟩
  refine ⟨_, rfl, _, rfl, x, ss, rs, ns, .int (k : Int), rfl, iv.same e1, .inl ⟨k, rfl, hk, fun H2 e2 => ?_⟩⟩
  have e12 := e1.trans e2
  dsimp only
  with_reducible refine sQ ?_
  have gp2 := e2 _ _ gp
  refine ⟨_, rfl, _, rfl, _, rfl, _, rfl, p, _, rfl, SqL.of gp2, fun z hz => ?_⟩
  have ec : cutV (intsV js) none (some (k : Int)) = intsV (js.take k) := by
    unfold intsV
    rw [cut_to, ← List.map_take]
  rw [ec]
  have e3 : Same H2 (L2.upd H2 z (.lst (intsV (js.take k)))) := K1.Same.upd hz
  have gz := upd_same' H2 z (.lst (intsV (js.take k)))
  generalize L2.upd H2 z (.lst (intsV (js.take k))) = H3 at e3 gz ⊢
  have e13 := e12.trans e3
  have t2 : (js.take k).Nodup := h2.sublist (List.take_sublist k js)
  have t3 : ∀ j ∈ js.take k, j < rs.length := fun j hj => h3 j (List.mem_of_mem_take hj)
  refine ⟨_, rfl, x, z, o, ss, rs, ns, js.take k, rfl, iv.same e13, tr, by omega, ho, gz, t2, t3, fun t d1 d2 k1 k2 ad H4 e4 nt gt g1 g2 hn => ?_⟩
  refine ⟨t, _, rfl, SqT.of gt, rfl, _, _, rfl, _, _, rfl, rfl, ?_⟩
  have e14 := e13.trans e4
  dsimp only
  refine ⟨_, rfl, x, dx, fx, rfl, e14 _ _ ix, m2, x, ss, rs, ns, rfl, iv.same e14, fun l hl => ?_⟩
  have e5 : Same H4 (L2.upd H4 l (.lst (ss.map V.str))) := K1.Same.upd hl
  have gl := upd_same' H4 l (.lst (ss.map V.str))
  generalize L2.upd H4 l (.lst (ss.map V.str)) = H5 at e5 gl ⊢
  have e15 := e14.trans e5
  refine ⟨l, rfl, ⟨_, SqL.of gl⟩, fun D hD => ?_⟩
  have D0 := e15.free hD
  obtain ⟨S, eS⟩ : ∃ S, S = hsA rs o (js.take k) := ⟨_, rfl⟩
  have hn : HnR H3 H4 k1 k2 ss ad S := by rw [eS]; exact hn
  rw [← eS] at q
  have at_ : ∀ i v, (ss.map V.str)[i]? = some v → ∃ h : i < ss.length, v = .str ss[i] := fun i v e => by
    rw [List.getElem?_map] at e
    rcases Nat.lt_or_ge i ss.length with hi | hi
    · rw [List.getElem?_eq_getElem hi] at e
      exact ⟨hi, (Option.some.inj e).symm⟩
    · rw [List.getElem?_eq_none hi] at e
      cases e
  refine dc_it (Qd := _) (walk_list (xs := ss.map V.str)) (fun i Hc => Same H5 Hc ∧ Hc D = some (.dK (((ss.take i).filter fun s => decide (s ∉ S.gone)).map fun s => ((.inr s : Key), V.ref (ad s))))) ⟨K1.Same.upd hD, upd_same⟩ (fun i Hc _ h => SqL.of (h.1 _ _ gl)) ?_ ?_
  · rintro i v Hc H' hi ⟨c1, c2⟩ ⟨rfl, hv⟩
    obtain ⟨hi', rfl⟩ := at_ i v hv
    have hm := List.getElem_mem hi'
    refine ⟨rfl, ?_⟩
    have gd := c1 _ _ (e5 _ _ g1)
    have dg := DGet.k (k := .inr ss[i]) gd
    have stp : (ss.take (i + 1)).filter (fun s => decide (s ∉ S.gone)) = (ss.take i).filter (fun s => decide (s ∉ S.gone)) ++ if decide (ss[i] ∉ S.gone) = true then [ss[i]] else [] := by
      rw [take_snoc hi', List.filter_append]
      by_cases z : decide (ss[i] ∉ S.gone) = true
      · rw [if_pos z, List.filter_cons, if_pos z]; rfl
      · rw [if_neg z, List.filter_cons, if_neg z]; rfl
    have isS : (valV k1 (.inr ss[i])).isSome = decide (ss[i] ∉ S.gone) := by
      by_cases c : ss[i] ∈ S.gone
      · rw [hn.1.no _ hm c, decide_eq_false fun z => z c]; rfl
      · rw [(hn.1.yes _ hm c).1, decide_eq_true c]; rfl
    refine ⟨_, rfl, _, rfl, d1, _, rfl, dg, _, rfl, ?_⟩
    rw [isS]
    refine ite2 (fun c => ?_) (fun c => ?_)
    · have c' := of_decide_eq_true c
      rw [(hn.1.yes _ hm c').1] at dg
      refine ⟨_, rfl, _, rfl, _, rfl, d1, _, rfl, dg, _, .inr ss[i], rfl, c2, small1000 ?_, ps_same_upd c1 hD, ?_⟩
      · rw [List.length_map]
        exact Nat.le_trans (List.length_filter_le _ _) (by rw [List.length_take]; omega)
      · have nw : valV (((ss.take i).filter fun s => decide (s ∉ S.gone)).map fun s => ((.inr s : Key), V.ref (ad s))) (.inr ss[i]) = none := val_none fun y hy z => by
          obtain ⟨s, hs, rfl⟩ := List.mem_map.mp hy
          have : s = ss[i] := Sum.inr.inj z
          exact nodup_take_not tr.nd hi' (by rw [← this]; exact (List.mem_filter.mp hs).1)
        rw [upd_same, L2.putK_new _ nw, stp, if_pos c, List.map_append]
        rfl
    · rw [stp, if_neg c, List.append_nil]
      exact ⟨c1, c2⟩
  · rintro Hc ⟨c1, c2⟩
    rw [List.length_map, List.take_length] at c2
    exact q D ad Hc (e15.trans c1) D0 c2 (fun s hs n => ⟨e13.free (hn.1.yes s hs n).2.1, c1 _ _ (e5 _ _ (hn.1.yes s hs n).2.2)⟩) (fun s hs t ht n1 n2 z => hn.1.inj s hs t ht n1 n2 z)
theorem ok_Hs {f : Addr} {fd : FuncData} (F : Fun K "hands" "hands" sHs f fd) (T : VcT K C)
    (GV : FnOk P w K mg base (L2.CX P w) 3 fV fdV ["valley"] (spNv K C CV)) (bV : Binds K fdV ["valley"] []) (kV : PySem.W.keepIn K (.ref fV) = true) (mV : mg "need_valley" = some (.ref fV))
    (GE : FnOk P w K mg base (L2.CX P w) 7 fE fdE ["valley", "evening"] (spCg K C CE)) (bE : Binds K fdE ["valley", "evening"] []) (kE : PySem.W.keepIn K (.ref fE) = true) (mE : mg "need_evening" = some (.ref fE))
    (GN : FnOk P w K mg base (L2.CX P w) 3 fN fdN ["self", "house"] (spNe K C CN)) (hN : Meth K C "need_house" fN) (bN : Binds K fdN ["self", "house"] [])
    (GH : FnOk P w K mg base CX0 2 fH fdH ["valley", "places", "gate"] (spHn C)) (bH : Binds K fdH ["valley", "places", "gate"] []) (kH : PySem.W.keepIn K (.ref fH) = true) (mH : mg "_hand_on" = some (.ref fH)) :
    FnOk P w K mg base (L2.CX P w) 8 f fd ["valley", "evening", "gate", "house"] (spHs9 K C CV CE CN) := by
  refine F.okX scHs (fun vs H Q E h => ?_) (fun cdv A outer s H vs Q E hr h => ?_)
  · obtain ⟨v, u, g, m, rfl, _⟩ := h
    rfl
  obtain ⟨v, u, g, m, rfl, h⟩ := h
  have nd := scHs.nd
  have hu := hu_of hr
  have hr1 : Room 1 _ := hr.mono (by decide)
  have hr2 : Room 2 _ := hr.mono (by decide)
  have hr3 : Room 3 _ := hr.mono (by decide)
  have hr7 : Room 7 _ := hr.mono (by decide)
  refine ⟨_, (pss_cons (by exact (ps_expr (pe_call GV hr3 rfl mV kV bV .nil (passes_call (takes_of rfl rfl rfl rfl) (fun _ _ _ _ h => h)) (pa_cons (pv 0) pa_nil))))
  (pss_cons (by exact (ps_set (i := 4) nd rfl (.inl rfl) (pe_call GE hr7 rfl mE kE bE .nil (passes_call (takes_of rfl rfl rfl rfl) (fun _ _ _ _ h => h)) (pa_cons (pv 0) (pa_cons (pv 1) pa_nil)))))
  (pss_cons (by exact (ps_expr (pe_meth (pv 0) T.cl hN GN hr3 bN .nil (passes_call (takes_of rfl rfl rfl rfl) (fun _ _ _ _ h => h)) (pa_cons (pv 2) pa_nil))))
  (pss_cons (by exact (ps_expr (pe_meth (pv 0) T.cl hN GN hr3 bN .nil (passes_call (takes_of rfl rfl rfl rfl) (fun _ _ _ _ h => h)) (pa_cons (pv 3) pa_nil))))
  (pss_cons (by exact (ps_asg (pe_call GH hr2 rfl mH kH bH .nil pass0 (pa_cons (pv 0) (pa_cons (pv 4) (pa_cons (pv 2) pa_nil)))) (pg_tup rfl (pgs_cons (pg_name (i := 5) nd rfl (.inl rfl)) (pgs_cons (pg_name (i := 6) nd rfl (.inl rfl)) pgs_nil)))))
  (pss_cons (by exact (ps_set (i := 7) nd rfl (.inl rfl) (pe_lst pa_nil)))
  (pss_cons (by exact (ps_while (passes_of rfl) (pt_cmpR op_ne (pv 3) (pv 2) (nomark _)) (pss_cons (by exact (ps_set (i := 3) nd rfl (.inl rfl) (pe_dget hu (pv 6) (pv 3) (fun _ _ => rfl))))
  (pss_one (by exact (ps_expr (pe_bm PySem.F.plainAttrs_list PySem.F.slot_list_append PySem.F.type_list_append mt_append (pv 7) (pa_cons (pv 3) pa_nil))))))))
  (pss_one (by exact (ps_ret (pv 7))))))))))), ?_⟩
  rcases h with ⟨n, g⟩ | ⟨x, ss, rs, ns, rfl, iv, tr, lss, h⟩
  · exact ⟨_, rfl, v, rfl, .inr ⟨n, g⟩⟩
  refine ⟨_, rfl, .ref x, rfl, .inl ⟨x, ss, rs, ns, rfl, iv, ?_⟩⟩
  dsimp only
  with_reducible refine sQ ?_
  rcases h with ⟨n, g⟩ | ⟨js, ev, h⟩
  · exact ⟨_, rfl, _, rfl, x, u, ss, rs, ns, rfl, iv, tr.ends, .inr ⟨n, g⟩⟩
  obtain ⟨h1, h2, h3⟩ := evv_lt ev
  refine ⟨_, rfl, _, rfl, x, u, ss, rs, ns, rfl, iv, tr.ends, .inl ⟨js, ev, fun p H1 e1 np gp => ?_⟩⟩
  obtain ⟨dx, fx, ix, f0⟩ := iv.inst
  have m1 := f0 "need_house" (by decide +kernel)
  refine K1.gN ?_
  with_reducible refine sQ ?_
  rcases h with ⟨n, g2⟩ | ⟨o, rfl, ho, h⟩
  · exact ⟨_, rfl, x, dx, fx, rfl, e1 _ _ ix, m1, _, rfl, x, g, ss, rs, ns, rfl, iv.same e1, .inr ⟨n.ext e1, GoesF.ext g2 e1⟩⟩
  refine ⟨_, rfl, x, dx, fx, rfl, e1 _ _ ix, m1, _, rfl, x, .str o, ss, rs, ns, rfl, iv.same e1, .inl ⟨o, rfl, ho, ?_⟩⟩
  dsimp only
  with_reducible refine sQ ?_
  rcases h with ⟨n, g2⟩ | ⟨s0, rfl, hs0', q⟩
  · exact ⟨_, rfl, x, dx, fx, rfl, e1 _ _ ix, m1, _, rfl, x, m, ss, rs, ns, rfl, iv.same e1, .inr ⟨n.ext e1, GoesF.ext g2 e1⟩⟩
  refine ⟨_, rfl, x, dx, fx, rfl, e1 _ _ ix, m1, _, rfl, x, .str s0, ss, rs, ns, rfl, iv.same e1, .inl ⟨s0, rfl, hs0', ?_⟩⟩
  dsimp only
  with_reducible refine sQ ?_
  refine ⟨_, rfl, _, rfl, _, rfl, x, p, o, ss, rs, ns, js, rfl, iv.same e1, tr, by omega, ho, gp, h2, h3, fun t d1 d2 k1 k2 ad H2 e2 nt gt g1 g2 hn => ?_⟩
  refine ⟨t, _, rfl, SqT.of gt, rfl, _, _, rfl, _, _, rfl, rfl, ?_⟩
  dsimp only
  with_reducible refine sQ ?_
  obtain ⟨I, _, _⟩ := hsA_inv tr ho h2 h3
  have al := hsA_all tr ho h2 h3 h1
  have hk2 := hn.2
  obtain ⟨S, eS⟩ : ∃ S, S = hsA rs o js := ⟨_, rfl⟩
  have hk2 : ∀ s, valV k2 (.inr s) = (S.tk s).map V.str := by rw [eS]; exact hk2
  rw [← eS] at I al q
  have e12 := e1.trans e2
  refine ⟨(by show 0 ≤ sizeLine; decide), fun l hl => ?_⟩
  have ll0 := e12.free hl
  have lgs : (S.given s0).length ≤ 60 := by
    have a := I.len s0
    have b : S.gone.length ≤ 60 := by rw [eS, hsA_gone]; unfold farsOf; rw [List.length_map, h1]; have := tr.len; omega
    omega
  refine K1.gN ?_
  with_reducible refine sQ ?_
  refine while_gh (fun m σ Hc => ∃ cur pre suf a5, σ = [some (.ref x), some u, some (.str o), some (.str cur), some (.ref p), a5, some (.ref d2), some (.ref l)] ∧ Same H2 Hc ∧ Hc l = some (.lst (pre.map V.str)) ∧ Ch S.tk cur suf o ∧ S.given s0 = pre ++ suf ∧ m = suf.length) (S.given s0).length ?_ ?_ ?_
  · refine ⟨s0, [], S.given s0, _, rfl, K1.Same.upd hl, upd_same, ?_, rfl, rfl⟩
    have := I.ch s0 hs0'
    rwa [al s0 hs0'] at this
  · rintro m σ Hc ⟨cur, pre, suf, a5, rfl, c1, c2, ch, eq, rfl⟩
    refine ⟨_, rfl, _, rfl, rfl, _, rfl, ?_⟩
    cases ch with
    | nil =>
      rw [decide_eq_true rfl]
      refine iteF ⟨_, rfl, q l Hc (e12.trans c1) ll0 ?_⟩
      rw [eq, List.append_nil]
      exact c2
    | @cons _ y _ ys q1 ch =>
      have cg : cur ∈ S.gone := by
        have := I.tks cur
        rw [q1] at this
        exact of_decide_eq_true this.symm
      have ne := (I.ins cur cg).2
      have nb : (!decide (V.str cur = V.str o)) = true := by rw [decide_eq_false fun z => ne (V.str.inj z)]; rfl
      rw [nb]
      have dg := DGet.k (k := .inr cur) (c1 _ _ g2)
      rw [hk2, q1] at dg
      have lp : pre.length ≤ 1000 := by
        rw [eq, List.length_append] at lgs
        omega
      refine iteT ⟨_, rfl, _, rfl, d2, _, rfl, dg, ?_⟩
      refine K1.gN ?_
      refine ⟨_, rfl, .inl ⟨rfl, _, SqL.of c2⟩, _, rfl, l, _, _, rfl, rfl, c2, by rw [List.length_map]; exact small1000 lp, ?_⟩
      refine ⟨ys.length, Nat.lt_succ_self _, y, pre ++ [y], ys, _, rfl, ps_same_upd c1 hl, by rw [upd_same, List.map_append]; rfl, ch, by rw [eq, List.append_assoc]; rfl, rfl⟩
  · rintro σ Hc Q1 Q2 hq ⟨v1, h1, v2, h2, sc, k5, b5, z⟩
    exact ⟨v1, h1, v2, h2, sc, k5, b5, hq _ _ z⟩
end
end K1
end
-- WKw
section
set_option Elab.async false
set_option linter.all false
set_option maxRecDepth 100000
set_option maxHeartbeats 1000000
namespace K1
open PySem PySem.Spec PyProof.Rows L2 W0
section
variable {X : Cx} {CX : CXT} {k n : Nat} {f C : Addr} {fd : FuncData} {ps ks : List Str} {sp : Sp} {E : XK} {x m : Str} {p pos apos : Pos} {e o : Expr} {es : List Expr} {kws : List Keyword} {ta : TE} {t tk : TA} {g : List Value → List Value → List Value} {gV : List V → List V → List V}
/-- the callee runs, its parameters given by name -/
theorem run_fnN {pins : List (Addr × Obj)} {σ : L2.St} {H : Hp} {s : Shared} {Q : VK} {us ws : List Value} {vs zs : List V} (F : FnOk X.prog X.w X.K X.mg X.base CX k f fd ps sp) (hr : Room k X.A) (hb : KBn X.K fd ps n ks g gV) (hx : Passes CX X E)
    (I : Inv X pins σ H s) (r : Vals vs us) (rz : Vals zs ws) (l1 : vs.length = n) (l2 : zs.length = ks.length)
    (h : sp (gV vs zs) H Q E) : wpAny (model X.prog X.w) X.A (call (.ref f) us (ks.zip ws)) (EP X pins σ Q) X.xe s := by
  have r2 := hb.rel r rz
  have go := F.run X.A X.stack s H ⟨us, ks.zip ws⟩ (g us ws) (gV vs zs) Q E
  refine wpAny_call (codeAny_mono (go hr I.env0 (hb.to s us ws I.kIn (r.length.symm.trans l1) (rz.length.symm.trans l2)) r2 h) fun r s' hq => ?_)
  cases r with
  | error e => exact hx pins σ H s e s' I hq
  | ok fl =>
    cases fl with
    | ret u => exact I.after hq
    | next => exact False.elim hq
    | brk => exact False.elim hq
    | cont => exact False.elim hq
def tCallN (k : Nat) (sp : Sp) (gV : List V → List V → List V) (E : XK) (tk : TA) : TE := fun σ H Q => tk σ H fun zs H2 => zs.length = k ∧ sp (gV [] zs) H2 Q E
/-- f(k = v, ..), every parameter by name -/
theorem pe_callN (F : FnOk X.prog X.w X.K X.mg X.base CX k f fd ps sp) (hr : Room k X.A) (hg : Gl X x) (hm : X.mg x = some (.ref f)) (hk : PySem.W.keepIn X.K (.ref f) = true) (hb : KBn X.K fd ps 0 ks g gV) (hx : Passes CX X E) (hkw : PK X kws tk)
    (hall : (backToKw pos (keywordEach kws X.env)).all (·.1.isSome) = true := by rfl) (hks : (backToKw pos (keywordEach kws X.env)).filterMap (·.1) = ks := by rfl)
    (hdb : (x == ("__debug__" : Str)) = false := by decide)
    (hpl : ((backTo pos (starEach [] X.env)).any (·.1) || (backToKw pos (keywordEach kws X.env)).any (·.1.isNone)) = false := by rfl) :
    PE X (.Call (.Name x p) [] kws pos) (tCallN ks.length sp gV E tk) := by
  refine ⟨fun pins s σ H Q I h => ?_⟩
  refine wpAny_Call_Name_kw (ld_glob I hg hm ?_ hdb)
  refine PySem.W.callWith_KW0 (first := []) (h₀ := X.base) I.ok.mod.kin hk hall ?_ hpl
  refine thn (hkw.run pos pins s σ H _ I h) fun ws s2 ⟨zs, H2, I2, rz, l2, q2⟩ => ⟨I2.kIn, ?_⟩
  rw [hks]
  exact run_fnN (us := []) (vs := []) F hr hb hx I2 .nil rz rfl l2 q2
end
end K1
end
-- EKw
section
set_option Elab.async false
set_option linter.all false
set_option maxRecDepth 100000
set_option maxHeartbeats 1000000
namespace K1
open PySem PySem.Spec PyProof.Rows L2 W0
/-! what is the same, to a depth -/
def RF : Nat → RelE
  | 0 => fun _ _ _ => False
  | n + 1 => NextF (RF n)
theorem r_str {R : RelE} {H : Hp} (s : Str) : NextF R H (.str s) (.str s) := .inl ⟨rfl, .inr (.inr (.inl ⟨s, rfl⟩))⟩
theorem r_int {R : RelE} {H : Hp} (i : Int) : NextF R H (.int i) (.int i) := .inl ⟨rfl, .inl ⟨i, rfl⟩⟩
theorem r_bl {R : RelE} {H : Hp} (b : Bool) : NextF R H (.bl b) (.bl b) := .inl ⟨rfl, .inr (.inl ⟨b, rfl⟩)⟩
theorem r_strs {R : RelE} {H : Hp} : ∀ ss : List Str, Paired (NextF R H) (ss.map V.str) (ss.map V.str)
  | [] => .nil
  | s :: ss => .cons (r_str s) (r_strs ss)
theorem r_ints {R : RelE} {H : Hp} : ∀ ss : List Int, Paired (NextF R H) (ss.map V.int) (ss.map V.int)
  | [] => .nil
  | s :: ss => .cons (r_int s) (r_ints ss)
theorem r_lists {R : RelE} {H : Hp} {p q : Addr} {xs ys : List V} (h1 : H p = some (.lst xs)) (h2 : H q = some (.lst ys)) (l : xs.length ≤ 10000) (r : Paired (R H) xs ys) : NextF R H (.ref p) (.ref q) := .inr (.inl ⟨p, q, xs, ys, rfl, rfl, .inl ⟨h1, h2⟩, l, r⟩)
theorem r_tups {R : RelE} {H : Hp} {p q : Addr} {xs ys : List V} (h1 : H p = some (.tup xs)) (h2 : H q = some (.tup ys)) (l : xs.length ≤ 10000) (r : Paired (R H) xs ys) : NextF R H (.ref p) (.ref q) := .inr (.inl ⟨p, q, xs, ys, rfl, rfl, .inr ⟨h1, h2⟩, l, r⟩)
theorem r_pairs {R : RelE} {H : Hp} : ∀ {as bs : List Addr} {rs : List (Str × Str)}, Paired (TupP H) as rs → Paired (TupP H) bs rs → Paired (NextF (NextF R) H) (as.map V.ref) (bs.map V.ref)
  | _, _, _, .nil, .nil => .nil
  | _, _, _, .cons f1 g1, .cons f2 g2 => .cons (r_tups f1 f2 (by show 2 ≤ 10000; decide) (.cons (r_str _) (.cons (r_str _) .nil))) (r_pairs g1 g2)
theorem r_non {R : RelE} {H : Hp} : NextF R H .non .non := .inl ⟨rfl, .inr (.inr (.inr rfl))⟩
theorem vals_at {vs : List V} {us : List Value} (h : Vals vs us) : ∀ i, RelV (vs.getD i .non) (us.getD i .none) := by
  induction h with
  | nil => intro i; exact rfl
  | cons a r ih =>
    intro i
    cases i with
    | zero => exact a
    | succ i => exact ih i

/-- two parameters by name, the last one first -/
def kwR2 : List V → List V → List V := fun _ zs => [zs.getD 1 .non, zs.getD 0 .non]
def kwR2v : List Value → List Value → List Value := fun _ zs => [zs.getD 1 .none, zs.getD 0 .none]
/-- a Valley that is off the spring -/
def IsVO (C a : Addr) (H : Hp) (x : Addr) (ss : List Str) (rs : List (Str × Str)) (ns : List Int) : Prop := ss.length = ns.length ∧ ∃ l1 l2 l3 d1 d2 d3 qs bs, ValS C H x l1 l2 l3 d1 d2 d3 qs bs ss rs ns ∧ OffV a l1 l2 l3 bs ss
theorem IsVO.kept {C a : Addr} {H H' : Hp} {x : Addr} {ss : List Str} {rs : List (Str × Str)} {ns : List Int} {n : Nat} (v : IsVO C a H x ss rs ns) (s : Spr H a n) (k : Kept a H H') : IsVO C a H' x ss rs ns := by
  obtain ⟨l, l1, l2, l3, d1, d2, d3, qs, bs, vs, o⟩ := v
  exact ⟨l, l1, l2, l3, d1, d2, d3, qs, bs, vs.kept o s k, o⟩
theorem IsVO.is {C a : Addr} {H : Hp} {x : Addr} {ss : List Str} {rs : List (Str × Str)} {ns : List Int} (v : IsVO C a H x ss rs ns) : IsV C H x ss rs ns := by
  obtain ⟨l, l1, l2, l3, d1, d2, d3, qs, bs, vs, o⟩ := v
  exact ⟨l, l1, l2, l3, d1, d2, d3, qs, bs, vs⟩
theorem VOk.tree {ss : List Str} {rs : List (Str × Str)} {ns : List Int} (v : VOk ss rs ns) : Tree ss rs := ⟨v.good.1, v.ends, v.cut, v.rl⟩
end K1
end
-- EMt
section
set_option Elab.async false
set_option linter.all false
set_option maxRecDepth 100000
set_option maxHeartbeats 1000000
namespace K1
open PySem PySem.Spec PyProof.Rows L2 W0
abbrev sMt : Stmt := top 60
structure MetU (K : PySem.W.Frag) (mg : Str → Option Value) (CV CN CO CM : Addr) : Prop where
  mV : mg "BadValley" = some (.ref CV)
  mN : mg "BadEvening" = some (.ref CN)
  vv : PySem.W.exmOne K (.ref CV) (.ref CV) = some true
  nv : PySem.W.exmOne K (.ref CN) (.ref CV) = some false
  nn : PySem.W.exmOne K (.ref CN) (.ref CN) = some true
  xV : XfC K CV
  xN : XfC K CN
  iV : PySem.W.findIn K (.ref CV) "thing" = some none
  iN : PySem.W.findIn K (.ref CN) "evening" = some none
  mO : mg "NoHouse" = some (.ref CO)
  ov : PySem.W.exmOne K (.ref CO) (.ref CV) = some false
  on : PySem.W.exmOne K (.ref CO) (.ref CN) = some false
  oo : PySem.W.exmOne K (.ref CO) (.ref CO) = some true
  xO : XfC K CO
  iO : PySem.W.findIn K (.ref CO) "house" = some none
  mM : mg "BadMany" = some (.ref CM)
  mv : PySem.W.exmOne K (.ref CM) (.ref CV) = some false
  mn : PySem.W.exmOne K (.ref CM) (.ref CN) = some false
  mo : PySem.W.exmOne K (.ref CM) (.ref CO) = some false
  mm : PySem.W.exmOne K (.ref CM) (.ref CM) = some true
  xM : XfC K CM
  iM : PySem.W.findIn K (.ref CM) "many" = some none
/-- what an asker is told, or how it is refused -/
def XMet (CV CN CO CM : Addr) (Q : VK) : XK := fun cls d H' => (cls = .ref CV ∧ ∃ dd v, d = some dd ∧ H' dd = some (.xd [("thing", v)]) ∧ ∀ p, H' p = none → Q (.ref p) (upd H' p (.tup [.str "valley", v]))) ∨
  (cls = .ref CN ∧ ∃ dd v, d = some dd ∧ H' dd = some (.xd [("evening", v)]) ∧ ∀ p, H' p = none → Q (.ref p) (upd H' p (.tup [.str "evening", v]))) ∨
  (cls = .ref CO ∧ ∃ dd v, d = some dd ∧ H' dd = some (.xd [("house", v)]) ∧ ∀ p, H' p = none → Q (.ref p) (upd H' p (.tup [.str "house", v]))) ∨
  (cls = .ref CM ∧ ∃ dd v, d = some dd ∧ H' dd = some (.xd [("many", v)]) ∧ ∀ p, H' p = none → Q (.ref p) (upd H' p (.tup [.str "many", v])))
def TMt (CV CN CO CM : Addr) : (XK → Hp → VK → Prop) → Hp → VK → Prop := fun tl H Q =>
  tl (XMet CV CN CO CM Q) H (fun v H1 => [V.str "told", v].length ≤ sizeLine ∧ ∀ p, H1 p = none → Q (.ref p) (upd H1 p (.tup [.str "told", v])))
theorem scMt : FnScope ["ask", "e"] ["ask"] (defScope sMt) := ⟨rfl, rfl, rfl, by decide +kernel, rfl, by decide +kernel, by decide +kernel⟩
theorem set_get {α : Type} {l : List α} {i : Nat} {x : α} (h : i < l.length) : (l.set i x)[i]? = some x := by rw [List.getElem?_set_self h]
theorem mt_gives {X : Cx} {g CV CN CO CM : Addr} {cdg : Value} {q : Str} (F : MetU X.K X.mg CV CN CO CM) : LamX.GivesTo X ["ask", "e"] "_law_met" (defScope sMt) g cdg (defBody sMt) "ask" q (TMt CV CN CO CM) := by
  intro f c' s H Q tl act hc h
  have nd := scMt.nd
  refine ⟨_, pss_one (ps_try_some (i := 1) (X := (cxOf C8.CX0 X.prog X.w X.K X.mg X.base ["ask", "e"] "_law_met" (defScope sMt) g cdg X.A X.stack s H C8.E0).nox)
      (l := [(.ref CV, fun a cls d => tRet (tTup (tCons (tC (.str "valley")) (tCons (tXf a cls d CV "thing" (tVar 1)) tNil)))), (.ref CN, fun a cls d => tRet (tTup (tCons (tC (.str "evening")) (tCons (tXf a cls d CN "evening" (tVar 1)) tNil)))), (.ref CO, fun a cls d => tRet (tTup (tCons (tC (.str "house")) (tCons (tXf a cls d CO "house" (tVar 1)) tNil)))), (.ref CM, fun a cls d => tRet (tTup (tCons (tC (.str "many")) (tCons (tXf a cls d CM "many" (tVar 1)) tNil))))])
      (tb := fun W D σ H => ∃ Ech : XK, (∀ cls d σ' H', Ech cls d H' → W cls d σ' H') ∧ σ[0]? = some (some (.ref f)) ∧ H c' = some (LamX.CodeO c' q) ∧ tl Ech H (fun v H1 => [V.str "told", v].length ≤ sizeLine ∧ ∀ p, H1 p = none → D.rt (.ref p) (upd H1 p (.tup [.str "told", v]))))
      rfl rfl nd rfl rfl LamX.takes0 (fun W pn xe tk _ => ?_)
      (.cons ⟨rfl, by decide, .inl F.mV⟩ (fun a oe cls d pn hz hf => pss_one (by exact ps_ret (pe_tup (pa_cons pe_str (pa_cons (pe_xf F.xV F.iV hz hf (pv 1)) pa_nil)))))
        (.cons ⟨rfl, by decide, .inl F.mN⟩ (fun a oe cls d pn hz hf => pss_one (by exact ps_ret (pe_tup (pa_cons pe_str (pa_cons (pe_xf F.xN F.iN hz hf (pv 1)) pa_nil)))))
        (.cons ⟨rfl, by decide, .inl F.mO⟩ (fun a oe cls d pn hz hf => pss_one (by exact ps_ret (pe_tup (pa_cons pe_str (pa_cons (pe_xf F.xO F.iO hz hf (pv 1)) pa_nil)))))
        (.cons ⟨rfl, by decide, .inl F.mM⟩ (fun a oe cls d pn hz hf => pss_one (by exact ps_ret (pe_tup (pa_cons pe_str (pa_cons (pe_xf F.xM F.iM hz hf (pv 1)) pa_nil))))) .nil))))), ?_⟩
  · refine ⟨fun pins s' σ H' D I h' => ?_⟩
    obtain ⟨Ech, hW, h1, h2, h3⟩ := h'
    exact (pss_one (ps_ret (pe_tup (pa_cons pe_str (pa_cons (act W pn xe Ech _ _ tk hW) pa_nil))))).run pins s' σ H' D I ⟨h1, h2, h3⟩
  · refine ⟨_, fun cls d σ' H' hE hl => ?_, rfl, hc, h⟩
    have s1 : ∀ a : Addr, (σ'.set 1 (some (V.ref a)))[1]? = some (some (V.ref a)) := fun a => set_get (by rw [hl]; exact (by decide : 1 < 2))
    rcases hE with ⟨rfl, dd, v, rfl, hx, qq⟩ | ⟨rfl, dd, v, rfl, hx, qq⟩ | ⟨rfl, dd, v, rfl, hx, qq⟩ | ⟨rfl, dd, v, rfl, hx, qq⟩
    · refine ⟨true, F.vv, And.intro (fun _ a _ => ?_) (fun z => Bool.noConfusion z)⟩
      exact ⟨_, s1 a, rfl, rfl, dd, _, v, rfl, hx, rfl, (by show 2 ≤ sizeLine; decide), qq⟩
    · refine ⟨false, F.nv, And.intro (fun z => Bool.noConfusion z) (fun _ => ⟨true, F.nn, And.intro (fun _ a _ => ?_) (fun z => Bool.noConfusion z)⟩)⟩
      exact ⟨_, s1 a, rfl, rfl, dd, _, v, rfl, hx, rfl, (by show 2 ≤ sizeLine; decide), qq⟩
    · refine ⟨false, F.ov, And.intro (fun z => Bool.noConfusion z) (fun _ => ⟨false, F.on, And.intro (fun z => Bool.noConfusion z) (fun _ => ⟨true, F.oo, And.intro (fun _ a _ => ?_) (fun z => Bool.noConfusion z)⟩)⟩)⟩
      exact ⟨_, s1 a, rfl, rfl, dd, _, v, rfl, hx, rfl, (by show 2 ≤ sizeLine; decide), qq⟩
    · refine ⟨false, F.mv, And.intro (fun z => Bool.noConfusion z) (fun _ => ⟨false, F.mn, And.intro (fun z => Bool.noConfusion z) (fun _ => ⟨false, F.mo, And.intro (fun z => Bool.noConfusion z) (fun _ => ⟨true, F.mm, And.intro (fun _ a _ => ?_) (fun z => Bool.noConfusion z)⟩)⟩)⟩)⟩
      exact ⟨_, s1 a, rfl, rfl, dd, _, v, rfl, hx, rfl, (by show 2 ≤ sizeLine; decide), qq⟩
end K1
end
-- MDraw
section
set_option Elab.async false
set_option linter.all false
set_option maxRecDepth 100000
set_option maxHeartbeats 4000000
namespace K1
open PySem PySem.Spec PyProof.Rows L2
abbrev sDraw : Stmt := top 43
abbrev sPick : Stmt := top 44
abbrev sMixed : Stmt := top 45
theorem scDraw : FnScope ["draws", "many", "found", "seed"] ["draws", "many"] (defScope sDraw) := ⟨rfl, rfl, rfl, by decide +kernel, rfl, by decide +kernel, by decide +kernel⟩
section
variable {P : Program} {w : World} {K : PySem.W.Frag} {mg : Str → Option Value} {base : Heap}
theorem ok_draw {f : Addr} {fd : FuncData} (F : Fun K "_law_draw" "_law_draw" sDraw f fd) (mI : mg "int" = none) : FnOk P w K mg base CX0 1 f fd ["draws", "many"] spDraw := by
  refine F.ok scDraw (fun vs H Q E h => ?_) (fun cdv A outer s H vs Q E hr h => ?_)
  · obtain ⟨a, many, n, rfl, _⟩ := h
    rfl
  obtain ⟨a, many, n, rfl, ⟨x, y, z, ha, hx, hy, hy2, hz, hz2⟩, hn, hm, hm2, q⟩ := h
  have nd := scDraw.nd
  refine ⟨_, pss_cons (ps_if (pt_cmpR op_gt (pe_ix ix_list (pv 0) pe_int (fun _ _ => rfl)) pe_int (nomark _))
      (pss_cons (ps_set (i := 2) nd rfl (.inl rfl) (pe_op op_mod (pe_callTy call_int1 rfl mI PyProof.Rows.boot_int (pa_cons (pe_ix ix_list (pv 0) pe_int (fun _ _ => rfl)) pa_nil)) (pv 1)))
      (pss_cons (ps_asg (by exact pe_op op_fdivW (pe_ix ix_list (pv 0) pe_int (fun _ _ => rfl)) (pv 1)) (by exact pg_sub (pv 0) pe_int set_list))
      (pss_one (ps_ret (pv 2))))) pss_nil)
    (pss_cons (by exact ps_asg (by exact pe_op op_add (pe_ix ix_list (pv 0) pe_int (fun _ _ => rfl)) pe_int) (by exact pg_sub (pv 0) pe_int set_list))
    (pss_cons (by exact ps_set (i := 3) nd rfl (.inl rfl) (pe_op op_mod (pe_op op_pow (pe_callTy call_int1 rfl mI PyProof.Rows.boot_int (pa_cons
        (pe_op op_add (pe_ix ix_list (pv 0) pe_int (fun _ _ => rfl)) (pe_op op_mul pe_int (pe_ix ix_list (pv 0) pe_int (fun _ _ => rfl)))) pa_nil)) pe_int) pe_int))
    (pss_one (by exact ps_ret (pe_op op_mod (pe_op op_fdiv (pe_op op_mod (pe_callTy call_int1 rfl mI PyProof.Rows.boot_int (pa_cons
        (pe_op op_mul (pe_op op_add (pv 3) (pe_ix ix_list (pv 0) pe_int (fun _ _ => rfl))) pe_int) pa_nil)) pe_int) pe_int) (pv 1)))))), ?_⟩
  have at0 : atI ([.int x, .int y, .int z] : List V) 0 = some (.int x) := rfl
  have at1 : atI ([.int x, .int y, .int z] : List V) 1 = some (.int y) := rfl
  have at2 : atI ([.int x, .int y, .int z] : List V) 2 = some (.int z) := rfl
  refine ⟨_, rfl, a, _, _, _, rfl, rfl, SqL.of ha, at0, _, _, rfl, rfl, _, rfl, ?_⟩
  refine ite2 (fun c => ?_) (fun c => ?_)
  · have c' : x > 0 := of_decide_eq_true c
    refine ⟨_, rfl, a, _, _, _, rfl, rfl, SqL.of ha, at0, .inl ⟨_, rfl, _, rfl, _, _, rfl, rfl, hm, ?_⟩⟩
    refine ⟨_, rfl, a, _, _, _, rfl, rfl, SqL.of ha, at0, _, rfl, _, _, rfl, rfl, wide_div hm hm2 (by decide) (by decide), _, rfl, a, _, _, _, rfl, rfl, ha, rfl, ?_⟩
    refine ⟨_, rfl, q _ _ (Int.emod_nonneg _ (by omega)) (Int.emod_lt_of_pos _ hm) Kept.upd ?_⟩
    exact ⟨x / many, y, z, upd_same, Int.ediv_nonneg hx (by omega), hy, hy2, hz, by omega⟩
  · have ha1 : upd H a (.lst [.int x, .int y, .int (z + 1)]) a = some (.lst [.int x, .int y, .int (z + 1)]) := upd_same
    have e0 : atI ([.int x, .int y, .int (z + 1)] : List V) 1 = some (.int y) := rfl
    have e2 : atI ([.int x, .int y, .int (z + 1)] : List V) 2 = some (.int (z + 1)) := rfl
    refine ⟨_, rfl, a, _, _, _, rfl, rfl, SqL.of ha, at2, _, _, rfl, rfl, _, rfl, a, _, _, _, rfl, rfl, ha, rfl, ?_⟩
    refine ⟨_, rfl, a, _, _, _, rfl, rfl, SqL.of ha1, e0, _, rfl, a, _, _, _, rfl, rfl, SqL.of ha1, e2, _, _, rfl, rfl, .inl (by constructor <;> decide), _, _, rfl, rfl,
      .inl ⟨_, rfl, ?_⟩⟩
    refine ⟨_, _, rfl, rfl, ⟨by decide, by decide, by omega⟩, _, _, rfl, rfl, (by show (0 : Int) < 2147483647; decide), ?_⟩
    generalize hg : (y + 7919 * (z + 1)) ^ ((5 : Int).toNat) = g
    have g1 := Int.emod_nonneg g (show (2147483647 : Int) ≠ 0 by decide)
    have g2 := Int.emod_lt_of_pos g (show (0 : Int) < 2147483647 by decide)
    generalize g % 2147483647 = v at g1 g2 ⊢
    refine ⟨_, rfl, _, rfl, a, _, _, _, rfl, rfl, SqL.of ha1, e2, _, _, rfl, rfl, _, _, rfl, rfl, .inr (by constructor <;> decide), .inl ⟨_, rfl, _, _, rfl, rfl, (by show (0 : Int) < 2147483629; decide), _, _, rfl, rfl, (by constructor <;> decide), _, rfl, _, _, rfl, rfl, hm, ?_⟩⟩
    exact q _ _ (Int.emod_nonneg _ (by omega)) (Int.emod_lt_of_pos _ hm) Kept.upd ⟨x, y, z + 1, upd_same, hx, hy, hy2, by omega, by omega⟩
end
end K1
end
-- WRepr
section
set_option Elab.async false
set_option linter.all false
set_option maxRecDepth 100000
set_option maxHeartbeats 4000000
/-! repr of data of any depth: it is asked where nothing else is being shown; so the defs from the law down to it promise with that premise (FnG) -/
namespace Wr
open PySem PySem.Spec PyProof.Rows L2
abbrev Bare0 (A : Around) : Prop := A.guards = some []
structure FnG (P : Program) (w : World) (K : PySem.W.Frag) (mg : Str → Option Value) (base : Heap) (CX : CXT) (k : Nat) (f : Addr) (fd : FuncData) (ps : List Str) (sp : Sp) : Prop where
  ln : ∀ xs H Q E, sp xs H Q E → xs.length = ps.length
  go : ∀ (A : Around) (out : List Env) (s : Shared) (H : Hp) (ar : Args) (us : List Value) (xs : List V) (Q : VK) (E : XK), Bare0 A → Room k A → Env0 P w K mg base A out s H → BindsTo s fd ar (ps.zip us) → Vals xs us → sp xs H Q E → codeAny (model P w) A (.call (.ref f) ar) (CR CX out P w H s Q E) s
theorem FnG.of {P : Program} {w : World} {K : PySem.W.Frag} {mg : Str → Option Value} {base : Heap} {CX : CXT} {k : Nat} {f : Addr} {fd : FuncData} {ps : List Str} {sp : Sp} (F : FnOk P w K mg base CX k f fd ps sp) : FnG P w K mg base CX k f fd ps sp :=
  ⟨F.len, fun A out s H ar us xs Q E _ hr => F.run A out s H ar us xs Q E hr⟩
theorem FnG.mono {P : Program} {w : World} {K : PySem.W.Frag} {mg : Str → Option Value} {base : Heap} {CX : CXT} {j k : Nat} {f : Addr} {fd : FuncData} {ps : List Str} {sp : Sp} (F : FnG P w K mg base CX j f fd ps sp) (h : j ≤ k) : FnG P w K mg base CX k f fd ps sp :=
  ⟨F.ln, fun A out s H ar us xs Q E hb hr => F.go A out s H ar us xs Q E hb (hr.mono h)⟩
section
variable {K : PySem.W.Frag} {P : Program} {w : World} {base : Heap} {mg : Str → Option Value}
theorem fnG_of {CX : CXT} {k : Nat} {f : Addr} {nm qu : Str} {pa : Arguments} {bd : List Stmt} {sc : Scope} {dV kV doc pm cv ct oc : Value} {an od : Option Addr} {osl : Array (Option Value)} {N ps : List Str} {sp : Sp}
    (lk : K.lookup f = some ⟨oc, od, .func (PySem.W.fnOf nm qu pa bd sc dV kV doc pm an cv ct), osl⟩) (hc : PySem.W.codeIn K cv qu = true) (S : FnScope N ps sc) (ln : ∀ xs H Q E, sp xs H Q E → xs.length = ps.length)
    (hb : ∀ (A : Around) (out : List Env) (s : Shared) (H : Hp) (xs : List V) (Q : VK) (E : XK), Bare0 A → Room k (A.deeper (envOfC qu sc s.heap.objs.size f cv)) → sp xs H Q E →
      ∃ t, PSs (cxOf CX P w K mg base N qu sc f cv A out s H E) bd t ∧ t { nx := fun _ H2 => Q .non H2, rt := Q } (start N xs) H) : FnG P w K mg base CX (k + 1) f (PySem.W.fnOf nm qu pa bd sc dV kV doc pm an cv ct) ps sp := by
  refine ⟨ln, fun A out s H ar us xs Q E hA hr e0 hbi r hsp => ?_⟩
  have hl := ln _ _ _ _ hsp
  have KI : K.In s.heap := e0.mod.kin.keeps fun c o e => (e0.bs c o e).1
  have li : s.heap.NoLimit := e0.mod.nolimit.keeps fun c o e => (e0.bs c o e).1
  have hk : ∀ y ∈ ps.zip us, sc.names.lookup y.1 = some .local ∨ (sc.names.lookup y.1 = some .cell ∧ ((cellsFrom (s.heap.objs.size + 1) sc.names []).lookup y.1).isSome = true) := by
    rintro ⟨n, v⟩ hy
    exact (S.par n (List.of_mem_zip hy).1).imp id fun q => ⟨q, PySem.W.cellsFrom_some _ _ _ (.inl q)⟩
  refine codeAny_call_function hr.depth (KI _ _ lk) rfl S.co S.gen rfl (PySem.W.codeRec_of KI hc) (hbi _ _ _ _ ?_)
  refine wpAny_newFunctionEnv_cells S.kind hk fun en he s1 z => ?_
  subst he
  refine ⟨li.keeps z.toInCall.keep, codeAny_func ?_⟩
  obtain ⟨t, ht, hq⟩ := hb A out s H xs Q E hA (hr.deeper _) hsp
  have I : Inv (cxOf CX P w K mg base N qu sc f cv A out s H E) [] (start N xs) H s1 := inv_start S hr.hd e0 hl r z
  have fi : ∀ {τ : L2.St} {H2 : Hp} {v : V} {u : Value} {s2 : Shared}, Inv (cxOf CX P w K mg base N qu sc f cv A out s H E) [] τ H2 s2 → RelV v u → Q v H2 → CE out P w H s Q u s2 := fun {τ H2 v u s2} J rv q => ⟨v, H2, J.os, J.bare, J.base, J.hok, rv, q⟩
  refine wpAny_mono (ht.run [] s1 (start N xs) H _ I hq) (fun fl s2 hs => ?_) fun e s2 hs => hs
  cases fl with
  | ret u =>
    obtain ⟨v, τ, H2, J, rv, q⟩ := hs
    exact fi J rv q
  | next =>
    obtain ⟨τ, H2, J, q⟩ := hs
    exact fi (v := V.non) (u := Value.none) J rfl q
  | brk =>
    obtain ⟨_, _, _, q⟩ := hs
    exact q.elim
  | cont =>
    obtain ⟨_, _, _, q⟩ := hs
    exact q.elim
/-- Fun.ok with the premise -/
theorem okG {x qu : Str} {st : Stmt} {f : Addr} {fd : FuncData} {N ps : List Str} {k : Nat} {sp : Sp} (F : Fun K x qu st f fd) (S : FnScope N ps (defScope st)) (ln : ∀ xs H Q E, sp xs H Q E → xs.length = ps.length)
    (hb : ∀ (cv : Value) (A : Around) (out : List Env) (s : Shared) (H : Hp) (xs : List V) (Q : VK) (E : XK), Bare0 A → Room k (A.deeper (envOfC qu (defScope st) s.heap.objs.size f cv)) → sp xs H Q E →
      ∃ t, PSs (cxOf CX0 P w K mg base N qu (defScope st) f cv A out s H E).nox (defBody st) t ∧ t { nx := fun _ H2 => Q .non H2, rt := Q } (start N xs) H) : FnG P w K mg base CX0 (k + 1) f fd ps sp := by
  obtain ⟨oc, od, kV, doc, pm, an, cv, ct, osl, rfl, lk, hc⟩ := F.ex
  exact fnG_of lk hc S ln fun A out s H xs Q E hA hr hsp => by
    obtain ⟨t, h, q⟩ := hb cv A out s H xs Q E hA hr hsp
    exact ⟨t, h.nox, q⟩
end
section
variable {X : Cx} {CX : CXT} {k : Nat} {f : Addr} {fd : FuncData} {ps : List Str} {sp : Sp} {dvs : List V} {ds : List Value} {E : XK} {x : Str} {p pos : Pos} {e : Expr} {es : List Expr} {t : TA}
theorem runG {pins : List (Addr × Obj)} {σ : L2.St} {H : Hp} {s : Shared} {Q : VK} {us : List Value} {vs : List V} (hA : Bare0 X.A) (F : FnG X.prog X.w X.K X.mg X.base CX k f fd ps sp) (hr : Room k X.A) (hb : Binds X.K fd ps ds) (hd : Vals dvs ds) (hx : Passes CX X E)
    (I : Inv X pins σ H s) (rV : Vals vs us) (h : sp (vs ++ dvs) H Q E) : wpAny (model X.prog X.w) X.A (call (.ref f) us) (EP X pins σ Q) X.xe s := by
  have r3 : Vals (vs ++ dvs) (us ++ ds) := rV.append hd
  have hl : (us ++ ds).length = ps.length := by rw [← r3.length]; exact F.ln _ _ _ _ h
  refine wpAny_call (codeAny_mono (F.go X.A X.stack s H ⟨us, []⟩ (us ++ ds) (vs ++ dvs) Q E hA hr I.env0 (hb s us I.kIn hl) r3 h) fun z s2 hq => ?_)
  cases z with
  | error e => exact hx pins σ H s e s2 I hq
  | ok fl =>
    cases fl with
    | ret u => exact I.after hq
    | next => exact hq.elim
    | brk => exact hq.elim
    | cont => exact hq.elim
theorem pe_callG (hA : Bare0 X.A) (F : FnG X.prog X.w X.K X.mg X.base CX k f fd ps sp) (hr : Room k X.A) (hg : Gl X x) (hm : X.mg x = some (.ref f)) (hk : PySem.W.keepIn X.K (.ref f) = true) (hb : Binds X.K fd ps ds) (hd : Vals dvs ds) (hx : Passes CX X E)
    (ha : PA X (e :: es) t) (hdb : (x == ("__debug__" : Str)) = false := by decide) (he : starEach (e :: es) X.env = (false, eval e X.env) :: starEach es X.env := by rfl) (hpl : (backTo pos (starEach es X.env)).any (·.1) = false := by rfl) : PE X (.Call (.Name x p) (e :: es) [] pos) (tCall sp dvs E t) := by
  refine ⟨fun pins s σ H Q I h => wpAny_Call_Name_kw (ld_glob I hg hm ?_ hdb)⟩
  refine PySem.W.callWith_K (h₀ := X.base) I.ok.mod.kin hk (thn (ha.run pos pins s σ H _ I h) fun us s2 ⟨vs, H2, J, r, q⟩ => ⟨J.kIn, ?_⟩) he hpl
  exact runG hA F hr hb hd hx J r q
/-- repr(x) of lists, tuples at any depth -/
def rRepr (K : PySem.W.Frag) : List V → Hp → VK → Prop := fun vs H Q => ∃ (a : Addr) (d : PyData), vs = [.ref a] ∧ Dp K H (.ref a) d ∧ d.showable = true ∧ d.hasDict = false ∧ d.depth ≤ 60 ∧ d.shown.length ≤ sizeLine ∧ Q (.str d.shown) H
theorem cr_repr (hA : Bare0 X.A) (hu : X.A.units + 64 < cLine) : CallR X (.builtin "repr") (rRepr X.K) := by
  rintro pins s σ H xs us Q I r ⟨a, d, rfl, hd, h1, h2, h3, h4, q⟩
  cases r with
  | cons r0 rt =>
    cases rt
    cases r0
    obtain ⟨as, rd⟩ := Dp.reads I d (.ref a) (.ref a) hd rfl
    exact repr_of_reads' rd h1 (PyData.noDict_hsm h2) hA (by omega) (fun _ _ e => e) (fun h' u tk hk => ⟨.str d.shown, H, I.kept hk, ⟨u, rfl⟩, q⟩) h4
end
end Wr
end
-- WLam
section
set_option Elab.async false
set_option linter.all false
set_option maxRecDepth 100000
set_option maxHeartbeats 2000000
/-! a lambda with parameters that is handed to a def and called there; what it captured lies in its maker's frame -/
namespace LamP
open PySem PySem.Spec PyProof.Rows L2 LamX NdefX Wr
/-- a lambda's words, the cells that it captured, its code object -/
structure LF where
  q : Str
  pa : Arguments
  bd : Expr
  sc : Scope
  cl : List (Str × Addr)
  c : Addr
/-- the same as a nested def's words: the context of its body -/
def LF.nf (F : LF) : NF := ⟨"<lambda>", F.q, F.pa, [], F.sc, F.cl, F.c⟩
abbrev LF.ob (F : LF) (pm ctv : Value) : Obj := PySem.W.kla_obj "<lambda>" F.q F.pa F.bd F.sc F.cl pm F.c ctv
def LamAt (h : Heap) (f : Addr) (F : LF) : Prop := ∃ pm ctv : Value, h.get? f = some (F.ob pm ctv)
theorem LamAt.fn {h : Heap} {f : Addr} {F : LF} (l : LamAt h f F) : PySem.W.FnAt f h := by
  obtain ⟨pm, ctv, e⟩ := l
  exact ⟨_, _, _, _, e⟩
/-- the promise of the lambda F at f: ws what it captured -/
structure LOk (P : Program) (w : World) (K : PySem.W.Frag) (mg : Str → Option Value) (base : Heap) (CX : CXT) (k : Nat) (f : Addr) (F : LF) (ps fr : List Str) (sp : List (Option V) → Sp) : Prop where
  ln : ∀ ws xs H Q E, sp ws xs H Q E → xs.length = ps.length
  go : ∀ (A : Around) (out : List Env) (s : Shared) (H : Hp) (us : List Value) (xs : List V) (ws : List (Option V)) (Q : VK) (E : XK), Room k A → Env0 P w K mg base A out s H → LamAt s.heap f F → H F.c = some (CodeO F.c F.q) → CellsAt F.cl fr ws s.heap H → Vals xs us →
    sp ws xs H Q E → codeAny (model P w) A (.call (.ref f) ⟨us, []⟩) (CR CX out P w H s Q E) s
section
variable {CX : CXT} {P : Program} {w : World} {K : PySem.W.Frag} {mg : Str → Option Value} {base : Heap} {N ps fr : List Str} {F : LF} {f : Addr} {k j : Nat} {sp sp2 : List (Option V) → Sp}
theorem LOk.mono (o : LOk P w K mg base CX j f F ps fr sp) (le : j ≤ k) : LOk P w K mg base CX k f F ps fr sp := ⟨o.ln, fun A out s H us xs ws Q E r => o.go A out s H us xs ws Q E (r.mono le)⟩
/-- a lambda by its body -/
theorem lok_of (S : NScope N ps fr F.sc) (bnd : ∀ (pm ctv : Value) (us : List Value), us.length = ps.length → bindArgs (PySem.W.kla_fn "<lambda>" F.q F.pa F.bd F.sc F.cl pm (.ref F.c) ctv) ⟨us, []⟩ = pure (ps.zip us)) (ln : ∀ ws xs H Q E, sp ws xs H Q E → xs.length = ps.length)
    (body : ∀ (A : Around) (out : List Env) (s : Shared) (H : Hp) (xs : List V) (ws : List (Option V)) (Q : VK) (E : XK), Room k (A.deeper (envF F.nf f s.heap.objs.size)) → ws.length = fr.length → sp ws xs H Q E → ∃ t, PE (ncx CX P w K mg base N F.nf f A out s H E) F.bd t ∧ t (startF N xs ws) H Q) :
    LOk P w K mg base CX (k + 1) f F ps fr sp := by
  refine ⟨ln, ?_⟩
  intro A out s H us xs ws Q E rm e0 la hc C rv hsp
  obtain ⟨pm, ctv, ho⟩ := la
  have limit : s.heap.NoLimit := e0.mod.nolimit.keeps fun b o e => (e0.bs b o e).1
  refine PySem.W.kla_callFunE rm.depth ho rfl S.co S.gen rfl (codeO_at e0.hok hc) ?_
  rw [bnd pm ctv us (rv.length.symm.trans (ln _ _ _ _ _ hsp))]
  refine wpAny_pure (wpAny_newFunctionEnv S.nocell (fun y hy => S.par y.1 (List.of_mem_zip (show (y.1, y.2) ∈ ps.zip us from hy)).1) (fun h2 ns sb => ⟨limit.fresh _ sb, ?_⟩) S.kind)
  obtain ⟨t, ht, q⟩ := body A out s H xs ws Q E (rm.deeper _) C.len hsp
  have stays : ∀ b o, s.heap.get? b = some o → h2.get? b = some o := fun b o e => sb.extBut b o (fun z => Nat.lt_irrefl _ (z ▸ Heap.lt_size e)) (Heap.get?_push_of_some _ e)
  have I := inv_startN (CX := CX) (N := N) (F := F.nf) (f := f) (E := E) (tk := s.toks + (ps.zip us).length) S rm.hd e0 (ln _ _ _ _ _ hsp) rv C ns stays
  refine PySem.W.kla_codeExpr (wpAny_mono (ht.run [] _ _ H Q I q) (fun v t2 z => ?_) fun _ _ z => z)
  obtain ⟨v2, H2, J, r2, q2⟩ := z
  exact ⟨v2, H2, J.os, J.bare, J.base, J.hok, r2, q2⟩
end
/-- a lambda as a def finds it that was handed it: its object is no callers' frame, what it captured lies in none that is written meanwhile -/
structure Handed (fr : List Str) (out : List Env) (s : Shared) (H : Hp) (g : Addr) (L : LF) (ws : List (Option V)) : Prop where
  la : LamAt s.heap g L
  un : H g = none
  off : g ∉ frs out
  cells : CellsAt L.cl fr ws s.heap H
  apart : ∀ y c, L.cl.lookup y = some c → c ∉ frs out
/-- the promise of a def that is handed a lambda -/
structure FnA (P : Program) (w : World) (K : PySem.W.Frag) (mg : Str → Option Value) (base : Heap) (CX : CXT) (k : Nat) (f : Addr) (fd : FuncData) (ps fr : List Str) (sp : Addr → LF → List (Option V) → Sp) : Prop where
  ln : ∀ g L ws xs H Q E, sp g L ws xs H Q E → xs.length = ps.length
  go : ∀ (A : Around) (out : List Env) (s : Shared) (H : Hp) (ar : Args) (us : List Value) (xs : List V) (g : Addr) (L : LF) (ws : List (Option V)) (Q : VK) (E : XK), Bare0 A → Room k A → Env0 P w K mg base A out s H → BindsTo s fd ar (ps.zip us) → Vals xs us →
    Handed fr out s H g L ws → sp g L ws xs H Q E → codeAny (model P w) A (.call (.ref f) ar) (CR CX out P w H s Q E) s
theorem okA {K : PySem.W.Frag} {P : Program} {w : World} {base : Heap} {mg : Str → Option Value} {x qu : Str} {st : Stmt} {f : Addr} {fd : FuncData} {N ps fr : List Str} {k : Nat} {sp : Addr → LF → List (Option V) → Sp} (F : Fun K x qu st f fd) (S : FnScope N ps (defScope st))
    (ln : ∀ g L ws xs H Q E, sp g L ws xs H Q E → xs.length = ps.length)
    (hb : ∀ (cv : Value) (A : Around) (out : List Env) (s : Shared) (H : Hp) (xs : List V) (g : Addr) (L : LF) (ws : List (Option V)) (Q : VK) (E : XK), Bare0 A → Room k (A.deeper (envOfC qu (defScope st) s.heap.objs.size f cv)) → Handed fr out s H g L ws → sp g L ws xs H Q E →
      ∃ t, PSs (cxOf CX0 P w K mg base N qu (defScope st) f cv A out s H E).nox (defBody st) t ∧ t { nx := fun _ H2 => Q .non H2, rt := Q } (start N xs) H) : FnA P w K mg base CX0 (k + 1) f fd ps fr sp := by
  obtain ⟨oc, od, kV, doc, pm, an, cv, ct, osl, rfl, lk, hc⟩ := F.ex
  refine ⟨ln, fun A out s H ar us xs g L ws Q E bare rm e0 bnd rv hd q => run_ofS lk hc S rm e0 bnd rv (ln _ _ _ _ _ _ _ q) fun rm2 => ?_⟩
  obtain ⟨t, ht, z⟩ := hb cv A out s H xs g L ws Q E bare rm2 hd q
  exact ⟨t, ht.nox, z⟩
/-- a(..), a the slot that holds the lambda -/
def tAsk (i : Nat) (g : Addr) (F : LF) (ws : List (Option V)) (sp : List (Option V) → Sp) (E : XK) (t : TA) : TE := fun σ H Q => σ[i]? = some (some (.ref g)) ∧ t σ H fun xs H1 => H1 F.c = some (CodeO F.c F.q) ∧ sp ws xs H1 Q E
section
variable {X : Cx} {CX : CXT} {F : LF} {g : Addr} {ps fr : List Str} {ws : List (Option V)} {i k : Nat} {x : Str} {sp : List (Option V) → Sp} {E : XK} {t : TA} {e : Expr} {es : List Expr} {p pos : Pos}
theorem pe_ask (Fn : LOk X.prog X.w X.K X.mg X.base CX k g F ps fr sp) (hd : Handed fr X.outer X.s_0 X.H_0 g F ws) (noex : X.ex = []) (rm : Room k X.A) (hx : Passes CX X E) (hN : X.N[i]? = some x) (hv : Vis X.env.scope x) (ha : PA X (e :: es) t)
    (d1 : (x == ("__debug__" : Str)) = false := by decide) (d2 : (x == ("__classdict__" : Str)) = false := by decide)
    (he : starEach (e :: es) X.env = (false, eval e X.env) :: starEach es X.env := by rfl) (hpl : (backTo pos (starEach es X.env)).any (·.1) = false := by rfl) :
    PE X (.Call (.Name x p) (e :: es) [] pos) (tAsk i g F ws sp E t) := by
  have none_ex : ∀ b : Addr, b ∉ X.ex := fun b z => by
    rw [noex] at z
    cases z
  have there : ∀ {pins : List (Addr × Obj)} {σ : L2.St} {H : Hp} {s : Shared}, Inv X pins σ H s → LamAt s.heap g F := fun {pins σ H s} I => by
    obtain ⟨pm, ctv, ho⟩ := hd.la
    exact ⟨pm, ctv, I.base.keep g _ ho hd.un hd.off (none_ex g)⟩
  constructor
  rintro pins s σ H Q I ⟨hs, ht⟩
  refine wpAny_Call_Name_kw (thn ((pe_var (pos := p) hN hv d1 d2).run pins s σ H (fun v H1 => v = .ref g ∧ H1 = H) I ⟨.ref g, hs, rfl, rfl⟩) ?_)
  rintro u s1 ⟨v, H1, I1, r1, rfl, rfl⟩
  obtain rfl : u = Value.ref g := r1
  refine PySem.W.callWith_F (first := []) (there I1).fn (thn (ha.run pos pins s1 σ H1 _ I1 ht) ?_) he hpl
  rintro us s2 ⟨xs, H2, I2, rv, hc, q⟩
  refine ⟨(there I2).fn, ?_⟩
  refine wpAny_call (codeAny_mono (Fn.go X.A X.stack s2 H2 us xs ws Q E rm I2.env0 (there I2) hc (hd.cells.later hd.apart (fun _ c _ => none_ex c) I2) rv q) fun z s3 hz => ?_)
  match z, hz with
  | .error e, hz => exact hx pins σ H2 s2 e s3 I2 hz
  | .ok (.ret u), hz => exact I2.after hz
end
/-- f(lambda.., ..): made and handed -/
def tCallA (T : List (Addr × Str)) (mk : Addr → LF) (js : List Nat) (sp : Addr → LF → List (Option V) → Sp) (E : XK) (t : TA) : TE := fun σ H Q => Tabs T H ∧ ∀ (f c : Addr) (H1 : Hp), ExtN H H1 → Tabs T H1 → H1 c = some (CodeO c (mk c).q) →
  t σ H1 fun xs H2 => sp f (mk c) (js.map (slotAt σ)) (.ref f :: xs) H2 Q E
section
variable {X : Cx} {CX : CXT} {k : Nat} {f : Addr} {fd : FuncData} {ps fr : List Str} {js : List Nat} {sp : Addr → LF → List (Option V) → Sp} {E : XK} {x : Str} {p lp pos : Pos} {es : List Expr} {t : TA} {T : List (Addr × Str)} {c P : Addr} {pa : Arguments} {bd : Expr} {sc : Scope}
theorem pe_callA (bare : Bare0 X.A) (F : FnA X.prog X.w X.K X.mg X.base CX k f fd ps fr sp) (rm : Room k X.A) (hg : Gl X x) (hm : X.mg x = some (.ref f)) (hk : PySem.W.keepIn X.K (.ref f) = true) (hb : Binds X.K fd ps []) (hx : Passes CX X E)
    (TB : TabB X.base X.mg c P) (hcode : X.env.code = .ref c) (hmT : (P, X.env.qual ++ "<lambda>") ∈ T) (hu : ∀ p ∈ T, p.1 = P → p.2 = X.env.qual ++ "<lambda>") (hdef : defaultsOf pa X.env = ([], []))
    (hfree : ∀ y ∈ sc.names, y.2 = .free → X.env.scope.names.lookup y.1 = some .cell ∨ X.env.scope.names.lookup y.1 = some .free) (hfr : ∀ y ∈ fr, (y, NameKind.free) ∈ sc.names) (hjs : js.map (fun j => X.N[j]?) = fr.map some) (own : ∀ y, X.fn y = true)
    (ha : PA X es t) (hdb : (x == ("__debug__" : Str)) = false := by decide) (he : starEach (.Lambda pa bd sc lp :: es) X.env = (false, eval (.Lambda pa bd sc lp) X.env) :: starEach es X.env := by rfl) (hpl : (backTo pos (starEach es X.env)).any (·.1) = false := by rfl) :
    PE X (.Call (.Name x p) (.Lambda pa bd sc lp :: es) [] pos) (tCallA T (fun c => ⟨X.env.qual ++ "<lambda>", pa, bd, sc, cloFrom X.env.cells sc.names [], c⟩) js sp E t) := by
  constructor
  rintro pins s σ H Q I ⟨hT, h⟩
  refine wpAny_Call_Name_kw (ld_glob I hg hm ?_ hdb)
  refine PySem.W.callWith_K (h₀ := X.base) I.ok.mod.kin hk ?_ he hpl
  rw [he]
  show wpAny _ _ (spliced ((false, eval (.Lambda pa bd sc lp) X.env) :: backTo pos (starEach es X.env))) _ _ s
  refine Calls.spliced_cons (lam_make2 I TB hcode hmT hu hT hdef (fun y hy e => (hfree y hy e).elim (fun z => I.ok.has _ (.inl z)) fun z => I.ok.has _ (.inr z)) ?_)
  intro g c2 pm ctv H1 s1 I1 eN T1 hg1 un1 off1 hc2
  -- the lambda's object is kept an eye on while the other arguments are worked out
  have nl : g ≠ X.env.locals := fun z => by
    obtain ⟨m, ⟨o, es', ep, e1, e2, _⟩, _⟩ := I1.loc
    rw [← z, hg1] at e1
    cases e1
    cases e2
  have nfs : g ∉ X.fs := fun z => off1 (by
    rcases I1.ok.stk with e | ⟨e, hf⟩
    · rw [e]
      exact z
    · rw [e]
      unfold frs
      rw [List.filterMap_cons, hf]
      exact List.mem_cons_of_mem _ z)
  generalize hob : PySem.W.kla_obj "<lambda>" (X.env.qual ++ "<lambda>") pa bd sc (cloFrom X.env.cells sc.names []) pm c2 ctv = ob at hg1
  have pins2 : ∀ q ∈ X.pn ++ (pins ++ [(g, ob)]), s1.heap.get? q.1 = some q.2 ∧ H1 q.1 = none ∧ q.1 ≠ X.env.locals ∧ q.1 ∉ X.fs ∧ ∀ v, q.2.data ≠ .cell v := by
    intro q hq
    rcases List.mem_append.mp hq with hq | hq
    · exact I1.pin q (List.mem_append_left _ hq)
    · rcases List.mem_append.mp hq with hq | hq
      · exact I1.pin q (List.mem_append_right _ hq)
      · rw [List.mem_singleton.mp hq]
        exact ⟨hg1, un1, nl, nfs, fun v z => by rw [← hob] at z; cases z⟩
  have I2 : Inv X (pins ++ [(g, ob)]) σ H1 s1 := ⟨I1.ok, I1.os, I1.bare, I1.base, I1.loc, I1.cell, I1.free, I1.freeC, pins2, I1.hok, I1.len⟩
  refine thn (ha.run pos _ s1 σ H1 _ I2 (h g c2 H1 eN T1 hc2)) ?_
  rintro us s2 ⟨xs, H2, J, rv, q⟩
  have hp := J.pin (g, _) (List.mem_append_right _ (List.mem_append_right _ (List.mem_singleton.mpr rfl)))
  have J2 : Inv X pins σ H2 s2 := J.unpinned
  refine ⟨J2.kIn, ?_⟩
  have cp := Caps.made (fr := fr) (js := js) J2.ok hfree hfr hjs
  have hd : Handed fr X.stack s2 H2 g ⟨X.env.qual ++ "<lambda>", pa, bd, sc, cloFrom X.env.cells sc.names [], c2⟩ (js.map (slotAt σ)) := by
    refine ⟨⟨pm, ctv, hp.1.trans (congrArg some hob.symm)⟩, hp.2.1, off1, cells_of J2 cp, fun y d hy z => ?_⟩
    have hy' := cp.sub y d hy
    rcases List.mem_cons.mp (J2.stkSub d z) with e | e
    · exact J2.cne y d hy' e
    · obtain ⟨_, o, ho, _⟩ := J2.ok.funs.mem e
      exact Nat.lt_irrefl _ (Nat.lt_of_lt_of_le (Heap.lt_size ho) (J2.ok.cab y d (own y) hy'))
  have b := hb s2 (.ref g :: us) J2.kIn (by rw [List.append_nil, List.length_cons, ← rv.length]; exact F.ln _ _ _ _ _ _ _ q)
  rw [List.append_nil] at b
  refine wpAny_call (codeAny_mono (F.go X.A X.stack s2 H2 ⟨.ref g :: us, []⟩ (.ref g :: us) (.ref g :: xs) g _ _ Q E bare rm J2.env0 b (.cons rfl rv) hd q) fun z s3 hz => ?_)
  match z, hz with
  | .error e, hz => exact hx pins σ H2 s2 e s3 J2 hz
  | .ok (.ret u), hz => exact J2.after hz
end
end LamP
end
-- WNeLen
section
set_option Elab.async false
set_option linter.all false
set_option maxRecDepth 100000
/-! a != b: two lists, one longer than the other, whatever stands in them -/
namespace NeLen
open PySem PySem.Spec PyProof.Rows L2
def rNeLen (K : PySem.W.Frag) : R2 := fun x y H Q => ∃ p q xs ys, x = .ref p ∧ y = .ref q ∧ SqL K H p xs ∧ SqL K H q ys ∧ xs.length ≠ ys.length ∧ Q (.bl true) H
theorem op_neLen {X : Cx} (hu : X.A.units < cLine) : OpR X (compareOp .NotEq) (rNeLen X.K) := by
  intro pins s σ H x y v u Q I rx ry h
  obtain ⟨p, q, xs, ys, rfl, rfl, hp, hq, ne, k⟩ := h
  cases rx
  cases ry
  obtain ⟨is1, r1, l1, _⟩ := I.list hp
  obtain ⟨is2, r2, l2, _⟩ := I.list hq
  have e1 := r1.length
  have e2 := r2.length
  exact SeqAt.RcNeAt.lists_lengths l1.isList l2.isList (by simp; omega) hu _ _ _ _ ⟨.bl true, H, I, rfl, k⟩
end NeLen
end
-- WNeNil
section
set_option Elab.async false
set_option linter.all false
set_option maxRecDepth 100000
set_option maxHeartbeats 1000000
/-! a != []: a list, whatever stands in it -/
namespace NeLen
open PySem PySem.Spec PyProof.Rows L2
def rNeNil (K : PySem.W.Frag) : R2 := fun x y H Q => ∃ p q xs, x = .ref p ∧ y = .ref q ∧ SqL K H p xs ∧ SqL K H q [] ∧ Q (.bl (!xs.isEmpty)) H
theorem op_neNil {X : Cx} (hu : X.A.units + 64 < cLine) : OpR X (compareOp .NotEq) (rNeNil X.K) := by
  intro pins s σ H x y v u Q I rx ry h
  obtain ⟨p, q, xs, rfl, rfl, hp, hq, k⟩ := h
  cases xs with
  | nil => exact op_neD hu pins s σ H _ _ v u Q I rx ry ⟨.list [], .list [], .lst hp .nil, .lst hq .nil, rfl, rfl, k⟩
  | cons x xs => exact op_neLen (by omega) pins s σ H _ _ v u Q I rx ry ⟨p, q, _, _, rfl, rfl, hp, hq, by simp, k⟩
/-- while a != [] -/
def tNeNil (K : PySem.W.Frag) (i : Nat) : TT := tTest (tOp (rNeNil K) (tVar i) (tLst tNil))
theorem neNil_mono {K : PySem.W.Frag} {i : Nat} : ∀ (σ : L2.St) (H : Hp) (Q Q' : Bool → Hp → Prop), (∀ b H1, Q b H1 → Q' b H1) → tNeNil K i σ H Q → tNeNil K i σ H Q' := by
  intro σ H Q Q' h hc
  obtain ⟨v, hv, hl, hc⟩ := hc
  refine ⟨v, hv, hl, fun l nl => ?_⟩
  obtain ⟨p, q, xs, a, b, c, d, k, e, z⟩ := hc l nl
  exact ⟨p, q, xs, a, b, c, d, k, e, h _ _ z⟩
theorem neNil_run {K : PySem.W.Frag} {i : Nat} {σ : L2.St} {H : Hp} {Q : Bool → Hp → Prop} {p : Addr} {xs : List V} (hv : σ[i]? = some (some (.ref p))) (hp : SqL K H p xs) (ext : ∀ l, H l = none → SqL K (upd H l (.lst [])) p xs) (q : ∀ l, H l = none → Q (!xs.isEmpty) (upd H l (.lst []))) : tNeNil K i σ H Q :=
  ⟨_, hv, Nat.zero_le _, fun l nl => ⟨p, l, xs, rfl, rfl, ext l nl, SqL.of upd_same, _, rfl, q l nl⟩⟩
end NeLen
end
-- MMix
section
set_option Elab.async false
set_option linter.all false
set_option maxRecDepth 100000
set_option maxHeartbeats 4000000
namespace K1
open PySem PySem.Spec PyProof.Rows L2
theorem scPick : FnScope ["draws", "some"] ["draws", "some"] (defScope sPick) := ⟨rfl, rfl, rfl, by decide +kernel, rfl, by decide +kernel, by decide +kernel⟩
theorem scMixed : FnScope ["draws", "some", "rest", "found"] ["draws", "some"] (defScope sMixed) := ⟨rfl, rfl, rfl, by decide +kernel, rfl, by decide +kernel, by decide +kernel⟩
section
variable {P : Program} {w : World} {K : PySem.W.Frag} {mg : Str → Option Value} {base : Heap} {fD : Addr} {fdD : FuncData}
theorem ok_pick {f : Addr} {fd : FuncData} (F : Fun K "_law_pick" "_law_pick" sPick f fd) (G : FnOk P w K mg base CX0 1 fD fdD ["draws", "many"] spDraw) (b : Binds K fdD ["draws", "many"] []) (k : PySem.W.keepIn K (.ref fD) = true) (m : mg "_law_draw" = some (.ref fD)) (ml : mg "len" = none) :
    FnOk P w K mg base CX0 2 f fd ["draws", "some"] spPick := by
  refine F.ok scPick (fun vs H Q E h => ?_) (fun cdv A outer s H vs Q E hr h => ?_)
  · obtain ⟨a, p, xs, n, rfl, _⟩ := h
    rfl
  obtain ⟨a, p, xs, n, rfl, hs, hn, hp, hpa, hne, hlen, q⟩ := h
  refine ⟨_, pss_one (by exact ps_ret (pe_ix ix_list (pv 1) (pe_call G hr rfl m k b .nil pass0 (pa_cons (pv 0) (pa_cons (pe_callB call_len_seq rfl ml PySem.boot_len (pa_cons (pv 1) pa_nil)) pa_nil))) (fun _ _ => rfl))), ?_⟩
  have hpos : 0 < xs.length := List.length_pos_iff.mpr hne
  refine ⟨_, rfl, _, rfl, _, rfl, p, _, rfl, .inl (SqL.of hp), a, _, n, rfl, hs, hn, by omega, ?_, fun d H' h0 h1 kp s' => ?_⟩
  · show ((xs.length : Nat) : Int).natAbs < 2 ^ 100
    rw [Int.natAbs_natCast]
    exact Nat.lt_of_le_of_lt hlen (by decide)
  obtain ⟨x, e1, e2, _⟩ := at_mem h0 h1
  exact ⟨p, xs, d, x, rfl, rfl, SqL.of (kp p _ hpa hp), e1, q x H' e2 kp s'⟩
theorem ok_mixed {f : Addr} {fd : FuncData} (F : Fun K "_law_mixed" "_law_mixed" sMixed f fd) (G : FnOk P w K mg base CX0 1 fD fdD ["draws", "many"] spDraw) (b : Binds K fdD ["draws", "many"] []) (k : PySem.W.keepIn K (.ref fD) = true) (m : mg "_law_draw" = some (.ref fD)) (ml : mg "len" = none) (mL : mg "list" = none) :
    FnOk P w K mg base CX0 2 f fd ["draws", "some"] spMixed := by
  refine F.ok scMixed (fun vs H Q E h => ?_) (fun cdv A outer s H vs Q E hr h => ?_)
  · obtain ⟨a, p, xs, n, rfl, _⟩ := h
    rfl
  obtain ⟨a, p, xs, n, rfl, hs, hn, hp, hpa, hlen, q⟩ := h
  have nd := scMixed.nd
  have hu64 : (A.deeper (envOfC "_law_mixed" (defScope sMixed) s.heap.objs.size f cdv)).units + 64 < cLine := by have := hr.un; omega
  refine ⟨_, (pss_cons (by exact (ps_par (i := 2) (j := 3) rfl nd rfl rfl (by decide) rfl rfl (pa_cons (pe_callTy call_list_of rfl mL PyProof.Rows.boot_list (pa_cons (pv 1) pa_nil)) (pa_cons (pe_lst pa_nil) pa_nil)) (by rfl)))
    (pss_cons (by exact (ps_while PassesOwn.never (pt_cmpR (NeLen.op_neNil hu64) (pv 2) (pe_lst pa_nil) (nomark _)) (pss_one (by exact (ps_expr (pe_bm PySem.F.plainAttrs_list PySem.F.slot_list_append PySem.F.type_list_append mt_append (pv 3) (pa_cons (pe_bm PySem.F.plainAttrs_list PySem.F.slot_list_pop PySem.F.type_list_pop mt_popAt (pv 2) (by exact pa_cons (pe_call G hr rfl m k b .nil pass0 (pa_cons (pv 0) (pa_cons (pe_callB call_len_seq rfl ml PySem.boot_len (pa_cons (pv 2) pa_nil)) pa_nil))) pa_nil)) pa_nil)))))))
    (pss_one (by exact (ps_ret (pv 3)))))), ?_⟩
  refine ⟨_, rfl, p, xs, rfl, .inl (SqL.of hp), fun l hl => ?_⟩
  have hla := hs.ne hl
  have hl1 : L2.upd H l (.lst xs) l = some (.lst xs) := upd_same
  refine ⟨(by show 0 ≤ sizeLine; decide), fun D hD => ⟨_, _, rfl, ?_⟩⟩
  have hDl : D ≠ l := fun e => by rw [e, upd_same] at hD; cases hD
  have hDH : H D = none := by rw [upd_ne hDl] at hD; exact hD
  have hDa := hs.ne hDH
  refine nQ ?_
  with_reducible refine sQ ?_
  refine while_gh (fun mm σ Hc => σ = [some (.ref a), some (.ref p), some (.ref l), some (.ref D)] ∧ ∃ ls acc : List V, Hc l = some (.lst ls) ∧ Hc D = some (.lst acc) ∧ (acc ++ ls).Perm xs ∧ mm = ls.length ∧ Kept a H Hc ∧ Spr Hc a (n + acc.length)) xs.length
    ⟨rfl, xs, [], by rw [upd_ne hDl.symm]; exact hl1, upd_same, List.Perm.refl _, rfl, (Kept.new hl).trans (Kept.new hD), (hs.upd hla).upd hDa⟩ ?_ NeLen.neNil_mono
  rintro mm σ Hc ⟨rfl, ls, acc, h1, h2, h3, rfl, h5, h6⟩
  have hlen2 : acc.length + ls.length = xs.length := by rw [← List.length_append]; exact h3.length_eq
  refine NeLen.neNil_run rfl (SqL.of h1) (fun t nt => SqL.of (by rw [upd_ne (ne_of_none h1 nt)]; exact h1)) fun t nt => ?_
  have h1' : L2.upd Hc t (.lst []) l = some (.lst ls) := by rw [upd_ne (ne_of_none h1 nt)]; exact h1
  have h2' : L2.upd Hc t (.lst []) D = some (.lst acc) := by rw [upd_ne (ne_of_none h2 nt)]; exact h2
  have h5' : Kept a H (L2.upd Hc t (.lst [])) := h5.trans (Kept.new nt)
  have h6' := h6.upd (o := .lst []) (h6.ne nt)
  generalize L2.upd Hc t (.lst []) = Hd at h1' h2' h5' h6' ⊢
  cases ls with
  | nil =>
    refine iteF ?_
    rw [List.append_nil] at h3
    refine ⟨_, rfl, q D acc Hd h3 hDH hDa h2' h5' ?_⟩
    simp at hlen2
    rw [← hlen2]
    exact h6'
  | cons l0 ls =>
    refine iteT ?_
    refine ⟨_, rfl, .inl ⟨rfl, _, SqL.of h2'⟩, ?_⟩
    refine ⟨_, rfl, .inl ⟨rfl, _, SqL.of h1'⟩, _, rfl, _, rfl, l, _, rfl, .inl (SqL.of h1'), a, _, n + acc.length, rfl, h6', by omega, by simp, ?_, fun d H' g0 g1 kp s' => ?_⟩
    · show (((l0 :: ls).length : Nat) : Int).natAbs < 2 ^ 100
      rw [Int.natAbs_natCast]
      exact Nat.lt_of_le_of_lt (show (l0 :: ls).length ≤ 1000 by omega) (by decide)
    obtain ⟨x, e1, e2, e3⟩ := at_mem g0 g1
    have hl2 : H' l = some (.lst (l0 :: ls)) := kp l _ hla h1'
    have hD2 : H' D = some (.lst acc) := kp D _ hDa h2'
    refine ⟨l, (l0 :: ls), d, d.toNat, x, rfl, rfl, hl2, by omega, by omega, ?_, e3, D, acc, _, rfl, rfl, by rw [upd_ne hDl]; exact hD2, small1000 (by omega), (l0 :: ls).length - 1, by simp, rfl, ?_⟩
    · have hneg : ¬ d < 0 := by omega
      unfold seqIndex?
      simp [hneg, g0]
      simp at g1
      exact g1
    · have hd : d.toNat < (l0 :: ls).length := by omega
      refine ⟨(l0 :: ls).eraseIdx d.toNat, acc ++ [x], by rw [upd_ne hDl.symm, upd_same], upd_same, perm_pop h3 e3, (List.length_eraseIdx_of_lt hd).symm, fun c o n1 n2 => ?_, ?_⟩
      · have c1 : c ≠ l := fun z => by rw [z, hl] at n2; cases n2
        have c2 : c ≠ D := fun z => by rw [z, hDH] at n2; cases n2
        rw [upd_ne c2, upd_ne c1]
        exact kp c o n1 (h5' c o n1 n2)
      · rw [List.length_append]
        exact (s'.upd hla).upd hDa
end
end K1
end
-- MSrc
section
set_option Elab.async false
set_option linter.all false
set_option maxRecDepth 100000
set_option maxHeartbeats 4000000
namespace K1
open PySem PySem.Spec PyProof.Rows L2 W0
abbrev sSrc : Stmt := top 42
theorem scSrc : FnScope ["script", "place", "cell", "seed", "other"] ["script", "place"] (defScope sSrc) := ⟨rfl, rfl, rfl, by decide +kernel, rfl, by decide +kernel, by decide +kernel⟩
def rIntA : List V → Hp → VK → Prop := fun xs H Q => (∃ i, xs = [V.int i] ∧ Q (V.int i) H) ∨ ∃ k, xs = [V.bl k] ∧ Q (V.int (if k = true then 1 else 0)) H
def tCell (K : PySem.W.Frag) : TE := tIf (tTest (tOp (rI0 fun i j => .bl (decide (i < j))) (tVar 1) (tCB (rLen K) (tCons (tVar 0) tNil)))) (tOp (rIxL K) (tVar 0) (tVar 1)) (tOp (rI0 fun i j => .int (i + j)) (tOp (rI0 fun i j => .int (i + j)) (tOp (rI (fun x j => 0 < j) fun i j => .int (i % j)) (tCB rIntA (tCons (tCB (rSum K) (tCons (tSl (rSlL K) (tVar 0) tNoPart (tPart (tC (.int 1)))) tNil)) tNil)) (tC (.int 1000003))) (tOp (rI CMul fun i j => .int (i * j)) (tC (.int 13)) (tVar 1))) (tC (.int 3)))
theorem cell_run {K : PySem.W.Frag} {σ : L2.St} {H : Hp} {Q : VK} {a : Addr} {t : Int} {ns : List Int} (h0 : σ[0]? = some (some (.ref a))) (h1 : σ[1]? = some (some (.int t))) (hS : SqL K H a (ns.map V.int)) (t0 : 0 ≤ t) (q : ∀ (c : Int) (H' : Hp), Same H H' → Q (.int c) H') : tCell K σ H Q := by
  have hlen : (ns.map V.int).length = ns.length := List.length_map _
  refine ⟨_, h1, _, h0, a, _, rfl, .inl hS, _, _, rfl, rfl, _, rfl, ?_⟩
  refine ite2 (fun c => ?_) (fun c => ?_)
  · have c' : t < (((ns.map V.int).length : Nat) : Int) := of_decide_eq_true c
    rw [hlen] at c'
    obtain ⟨cell, ec⟩ := atI_map t0 c'
    exact ⟨_, h0, _, h1, a, _, _, _, rfl, rfl, hS, ec, q cell H (Same.refl _)⟩
  · refine ⟨_, h0, 1, rfl, a, _, rfl, hS, fun p hp => ?_⟩
    have e : cutV (ns.map V.int) none (some 1) = (ns.take 1).map V.int := by
      rw [show (1 : Int) = ((1 : Nat) : Int) from rfl, cut_to, ← List.map_take]
    rw [e]
    have e1 := K1.Same.upd (H := H) (p := p) (o := .lst ((ns.take 1).map V.int)) hp
    refine ⟨p, ns.take 1, rfl, SqL.of upd_same, .inl ⟨_, rfl, _, _, rfl, rfl, (by show (0 : Int) < 1000003; decide), ?_⟩⟩
    exact ⟨_, h1, _, _, rfl, rfl, .inl (by constructor <;> decide), _, _, rfl, rfl, _, _, rfl, rfl, q _ _ e1⟩
section
variable {P : Program} {w : World} {K : PySem.W.Frag} {mg : Str → Option Value} {base : Heap}
theorem ok_source {f : Addr} {fd : FuncData} (F : Fun K "_law_source" "_law_source" sSrc f fd) (B : Bl mg) (ms : mg "sum" = none) : FnOk P w K mg base CX0 1 f fd ["script", "place"] (spSrc K) := by
  refine F.ok scSrc (fun vs H Q E h => ?_) (fun cdv A outer s H vs Q E hr h => ?_)
  · obtain ⟨a, t, ns, rfl, _⟩ := h
    rfl
  obtain ⟨a, t, ns, rfl, hS, t0, t1, hl, q⟩ := h
  have nd := scSrc.nd
  refine ⟨_, pss_cons (by exact (ps_set (i := 2) nd rfl (.inl rfl) (pe_ifExp (pt_cmpR op_lt (pv 1) (pe_callB call_len_seq rfl B.len PySem.boot_len (pa_cons (pv 0) pa_nil)) (nomark _)) (pe_ix ix_list (pv 0) (pv 1) (fun _ _ => rfl)) (pe_op op_add (pe_op op_add (pe_op op_mod (pe_callTy call_int1 rfl B.int PyProof.Rows.boot_int (pa_cons (pe_callB (cr_sum rfl) rfl ms PyProof.Rows.boot_sum (pa_cons (pe_slice sl_list (pv 0) po_none (po_some pe_int)) pa_nil)) pa_nil)) pe_int) (pe_op op_mul pe_int (pv 1))) pe_int))))
    (pss_cons (by exact (ps_set (i := 3) nd rfl (.inl rfl) (pe_op op_add (pe_op op_mul pe_int (pv 1)) pe_int)))
    (pss_cons (by exact (ps_for PassesOwn.never rfl (by exact pi_list (pv 0)) (pg_name (i := 4) nd rfl (.inl rfl)) (pss_one (by exact (ps_set (i := 3) nd rfl (.inl rfl) (pe_op op_mod (pe_callTy call_int1 rfl B.int PyProof.Rows.boot_int (pa_cons (pe_op op_add (pe_op op_mul (pv 3) pe_int) (pv 4)) pa_nil)) pe_int))))))
    (pss_one (by exact (ps_ret (pe_lst (pa_cons (pe_ifExp (pt_cmpR op_ge (pv 2) (pe_op op_pow pe_int pe_int) (nomark _)) (pv 2) pe_int) (pa_cons (pe_op op_mod (pe_callTy call_int1 rfl B.int PyProof.Rows.boot_int (pa_cons (pe_op op_add (pv 3) (pe_op op_mul pe_int (pv 2))) pa_nil)) pe_int) (pa_cons pe_int pa_nil))))))))), ?_⟩
  have hlen : (ns.map V.int).length = ns.length := List.length_map _
  have seqS : ∀ {Hx : Hp}, Same H Hx → SqL K Hx a (ns.map V.int) := fun {Hx} e => by
    rcases hS with (h | ⟨o, h⟩) | h
    · exact .inl (.inl (e _ _ h))
    · exact .inl (.inr ⟨o, e _ _ h⟩)
    · exact .inr h
  with_reducible refine sQ (asg_run ?_)
  refine cell_run rfl rfl hS t0 fun c H1 e1 => ?_
  refine K1.gN ?_
  with_reducible refine sQ ?_
  refine ⟨_, rfl, _, _, rfl, rfl, .inl (by constructor <;> decide), _, _, rfl, rfl, ?_⟩
  refine K1.gN ?_
  with_reducible refine sQ ?_
  refine ⟨_, rfl, a, rfl, ⟨_, seqS e1⟩, ?_⟩
  refine for_it (walk_list (xs := ns.map V.int)) (fun i σ Hc => (∃ (m : Int) (sb : Option V), σ = [some (.ref a), some (.int t), some (.int c), some (.int m), sb] ∧ 0 ≤ m ∧ m < 1000000000000) ∧ Same H Hc) ⟨⟨_, _, rfl, by omega, by omega⟩, e1⟩ (fun i σ Hc _ h => seqS h.2) ?_ ?_
  · rintro i x σ Hc H' hi ⟨⟨m, sb, rfl, m0, m1⟩, h1⟩ ⟨rfl, e2'⟩
    obtain ⟨n, _, rfl⟩ := List.mem_map.mp (List.mem_of_getElem? e2')
    refine K1.gN ?_
    refine ⟨_, rfl, _, _, rfl, rfl, .inl ⟨by omega, by omega⟩, ?_⟩
    refine ⟨_, rfl, _, _, rfl, rfl, .inl ⟨_, rfl, _, _, rfl, rfl, (by show (0 : Int) < 2147483629; decide), ?_⟩⟩
    refine ⟨⟨_, _, rfl, Int.emod_nonneg _ (by decide), ?_⟩, h1⟩
    have := Int.emod_lt_of_pos (m * 37 + n) (show (0 : Int) < 2147483629 by decide)
    omega
  · rintro σ Hc ⟨⟨m, sb, rfl, m0, m1⟩, h1⟩
    refine ⟨_, rfl, _, _, rfl, rfl, ⟨by decide, by decide, by decide⟩, _, _, rfl, rfl, _, rfl, ?_⟩
    have y0 := Int.emod_nonneg (m + 48271 * c) (show (2147483629 : Int) ≠ 0 by decide)
    have y1 := Int.emod_lt_of_pos (m + 48271 * c) (show (0 : Int) < 2147483629 by decide)
    refine ite2 (fun c2 => ?_) (fun c2 => ?_)
    · have c3 : c ≥ 10 ^ ((18 : Int).toNat) := of_decide_eq_true c2
      refine ⟨_, rfl, _, rfl, _, rfl, _, _, rfl, rfl, .inl (by constructor <;> decide), _, _, rfl, rfl, .inl ⟨_, rfl, _, _, rfl, rfl, (by show (0 : Int) < 2147483629; decide), (by show 3 ≤ sizeLine; decide), fun l hl => ?_⟩⟩
      exact q l _ (h1.trans (K1.Same.upd hl)) (h1.free hl) ⟨c, _, 0, upd_same, Int.le_trans (by decide) c3, y0, by omega, Int.le_refl 0, Int.le_refl 0⟩
    · refine ⟨_, rfl, _, rfl, _, _, rfl, rfl, .inl (by constructor <;> decide), _, _, rfl, rfl, .inl ⟨_, rfl, _, _, rfl, rfl, (by show (0 : Int) < 2147483629; decide), (by show 3 ≤ sizeLine; decide), fun l hl => ?_⟩⟩
      exact q l _ (h1.trans (K1.Same.upd hl)) (h1.free hl) ⟨0, _, 0, upd_same, Int.le_refl 0, y0, by omega, Int.le_refl 0, Int.le_refl 0⟩
end
end K1
end
-- MNm
section
set_option Elab.async false
set_option linter.all false
set_option maxRecDepth 100000
set_option maxHeartbeats 1000000
namespace K1
open PySem PySem.Spec PyProof.Rows L2 W0
abbrev sVN : Stmt := top 48
def names12 : List Str := ["a", "bo", "c9", "zoe", "eightsgn", "m", "k2", "ann", "x", "b", "q7", "last"]
def nameW (k : Nat) : Str := ("w" : Str) ++ Str.ofString (toString ((0 : Int) + (k : Int)))
def names48 : List Str := (List.range 48).map nameW
def namesC : List Str := names12 ++ names48
theorem goodC : Good namesC := good_of (by decide +kernel) (by decide +kernel)
/-- nobody and none are none of them -/
def NoBodyC (ss : List Str) : Prop := ("nobody" : Str) ∉ ss ∧ ("none" : Str) ∉ ss ∧ ("no1" : Str) ∉ ss
theorem nobodyC : NoBodyC namesC := by unfold NoBodyC; decide +kernel
theorem NoBodyC.perm {as bs : List Str} (g : NoBodyC bs) (p : as.Perm bs) : NoBodyC as := ⟨fun h => g.1 (p.mem_iff.mp h), fun h => g.2.1 (p.mem_iff.mp h), fun h => g.2.2 (p.mem_iff.mp h)⟩
theorem NoBodyC.take {as : List Str} (g : NoBodyC as) (n : Nat) : NoBodyC (as.take n) := ⟨fun h => g.1 (List.mem_of_mem_take h), fun h => g.2.1 (List.mem_of_mem_take h), fun h => g.2.2 (List.mem_of_mem_take h)⟩
def spVNc : Sp := fun vs H Q _ => ∃ (a : Addr) (m n : Nat), vs = [.ref a, .int (m : Int)] ∧ Spr H a n ∧ n + 2000 ≤ 1000000 ∧ 1 ≤ m ∧ m ≤ 60 ∧
  ∀ (r : Addr) (ss : List Str) (H' : Hp), H r = none → r ≠ a → Kept a H H' → Spr H' a (n + 60) → H' r = some (.lst (ss.map V.str)) → (Good ss ∧ NoBodyC ss) → ss.length = m → Q (.ref r) H'
theorem scVN : FnScope ["draws", "many", "some", "k"] ["draws", "many"] (defScope sVN) := ⟨rfl, rfl, rfl, by decide +kernel, rfl, by decide +kernel, by decide +kernel⟩
section
variable {P : Program} {w : World} {K : PySem.W.Frag} {mg : Str → Option Value} {base : Heap} {fM : Addr} {fdM : FuncData}
theorem ok_VN {f : Addr} {fd : FuncData} (F : Fun K "_law_names" "_law_names" sVN f fd) (B : Bl mg) (mr : mg "range" = none) (mx : mg "max" = none)
    (GM : FnOk P w K mg base CX0 2 fM fdM ["draws", "some"] spMixed) (bM : Binds K fdM ["draws", "some"] []) (kM : PySem.W.keepIn K (.ref fM) = true) (mM : mg "_law_mixed" = some (.ref fM)) :
    FnOk P w K mg base CX0 3 f fd ["draws", "many"] spVNc := by
  refine F.ok scVN (fun vs H Q E h => ?_) (fun cdv A outer s H vs Q E hr h => ?_)
  · obtain ⟨a, m, n, rfl, _⟩ := h
    rfl
  obtain ⟨a, m, n, rfl, hs, hn, hl, hm, q⟩ := h
  have nd := scVN.nd
  refine ⟨_, (pss_cons (by exact (ps_set (i := 2) nd rfl (.inl rfl) (pe_lst (pa_cons pe_str (pa_cons pe_str (pa_cons pe_str (pa_cons pe_str (pa_cons pe_str (pa_cons pe_str (pa_cons pe_str (pa_cons pe_str (pa_cons pe_str (pa_cons pe_str (pa_cons pe_str (pa_cons pe_str pa_nil)))))))))))))))
  (pss_one (by exact (ps_ret (pe_slice sl_list (pe_call GM hr rfl mM kM bM .nil pass0 (pa_cons (pv 0) (pa_cons (pe_op op_cat (pv 2) (pe_lc (own := [("k", 3)]) (g := gName 3) (tt := tYes) (te := _) rfl nd (by exact pi_range1 rfl mr (pa_cons (pe_callB (call_max2 rfl) rfl mx (by decide +kernel) (pa_cons pe_int (pa_cons (pe_op op_sub (pv 1) (pe_callB call_len_seq rfl B.len PySem.boot_len (pa_cons (pv 2) pa_nil))) pa_nil))) pa_nil)) (by exact blkOk_by (N := ["draws", "many", "some", "k"]) (sc := defScope sVN) (by decide +kernel)) (fun _ _ _ _ _ => by exact (pg_name (i := 3) nd rfl (.inl rfl))) (fun _ _ _ _ _ => by exact pts_nil) (fun _ _ _ _ _ => by exact (pe_op op_add_str pe_str (pe_callTy call_str_int rfl B.str PyProof.Rows.boot_str (pa_cons (pv 3) pa_nil)))))) pa_nil))) po_none (po_some (pv 1))))))), ?_⟩
  refine ⟨(by show 12 ≤ sizeLine; decide), fun L hL => ?_⟩
  generalize hU : L2.upd H L _ = H1
  have e1 : Same H H1 := by rw [← hU]; exact K1.Same.upd hL
  have gL : H1 L = some (.lst (names12.map V.str)) := by rw [← hU]; exact upd_same
  have l12 : names12.length = 12 := by decide +kernel
  refine K1.gN ?_
  obtain ⟨ex, hex⟩ : ∃ ex : Nat, ex = m - 12 := ⟨_, rfl⟩
  have emx : (if (m : Int) - ((names12.map V.str).length : Int) > 0 then (m : Int) - ((names12.map V.str).length : Int) else 0) = (ex : Int) := by
    rw [List.length_map, l12, hex]
    by_cases c : (m : Int) - ((12 : Nat) : Int) > 0
    · rw [if_pos c]; omega
    · rw [if_neg c]; omega
  refine ⟨_, rfl, _, rfl, _, rfl, _, rfl, L, _, rfl, .inl (SqL.of gL), _, _, rfl, rfl, _, _, rfl, ?_⟩
  rw [emx]
  refine ⟨(ex : Int), rfl, by omega, by omega, fun D hD => ?_⟩
  refine lc_range (fun i Hc => Same H1 Hc ∧ Hc D = some (.lst (((List.range i).map nameW).map V.str))) ⟨K1.Same.upd hD, upd_same⟩ ?_ ?_
  · rintro i Hc hi ⟨f1, f2⟩
    refine ⟨rfl, ?_⟩
    unfold tYes
    refine iteT ?_
    have hi2 : i < 48 := by omega
    refine ⟨_, rfl, _, rfl, ?_, _, _, rfl, rfl, ?_, _, f2, ?_, ps_same_upd f1 hD, ?_⟩
    · have : ((0 : Int) + (i : Int)).natAbs < 64 := by omega
      exact Nat.lt_of_le_of_lt (Nat.log2_le_self _) (by omega)
    · have mem : nameW i ∈ namesC := List.mem_append_right _ (List.mem_map.mpr ⟨i, List.mem_range.mpr hi2, rfl⟩)
      have := (goodC.2 (nameW i) mem).2
      unfold nameW at this
      have e : (("w" : Str) ++ Str.ofString (toString ((0 : Int) + (i : Int)))).length = ("w" : Str).length + (Str.ofString (toString ((0 : Int) + (i : Int)))).length := Array.size_append
      rw [e] at this
      exact Nat.le_trans this (by decide)
    · rw [List.length_map, List.length_map, List.length_range]
      exact small1000 (by omega)
    · rw [upd_same, List.range_succ, List.map_append, List.map_append]
      rfl
  · rintro Hc ⟨f1, f2⟩
    rw [Int.toNat_natCast] at f2
    refine ⟨L, D, names12.map V.str, ((List.range ex).map nameW).map V.str, rfl, rfl, f1 _ _ gL, f2, (by rw [List.length_map, List.length_map, List.length_map, List.length_range, l12]; exact Nat.le_trans (show 12 + ex ≤ 100 by omega) (by decide)), fun p2 hp2 => ?_⟩
    rw [← List.map_append]
    obtain ⟨nm, hnm⟩ : ∃ nm, nm = names12 ++ (List.range ex).map nameW := ⟨_, rfl⟩
    rw [← hnm]
    have eq : nm = namesC.take (12 + ex) := by
      rw [hnm]
      unfold namesC names48
      rw [List.take_append, l12, List.take_of_length_le (by rw [l12]; omega), show 12 + ex - 12 = ex by omega, ← List.map_take, List.take_range, Nat.min_eq_left (by omega)]
    have lnm : nm.length = 12 + ex := by rw [hnm, List.length_append, l12, List.length_map, List.length_range]
    have e4 := K1.Same.upd (H := Hc) (p := p2) (o := .lst (nm.map V.str)) hp2
    have g4 := upd_same' Hc p2 (.lst (nm.map V.str))
    generalize L2.upd Hc p2 (.lst (nm.map V.str)) = H4 at e4 g4 ⊢
    have all : Same H H4 := e1.trans (f1.trans e4)
    have s4 : Spr H4 a n := hs.same all
    have pa : p2 ≠ a := (hs.same (e1.trans f1)).ne hp2
    refine ⟨a, p2, nm.map V.str, n, rfl, s4, by omega, g4, pa, by rw [List.length_map, lnm]; omega, fun r ys H6 pm rn ra hr6 k6 s6 => ?_⟩
    obtain ⟨us, rfl, pu⟩ := perm_str pm
    refine ⟨_, rfl, _, rfl, r, _, rfl, SqL.of hr6, fun z hz => ?_⟩
    have za := s6.ne hz
    have k7 : Kept a H H6 := (Kept.same all).trans k6
    have zH : H z = none := by
      cases e : H z with
      | none => rfl
      | some o => rw [k7 _ _ za e] at hz; cases hz
    have e : cutV (us.map V.str) none (some (m : Int)) = (us.take m).map V.str := by
      rw [cut_to, ← List.map_take]
    have lu := pu.length_eq
    rw [lnm] at lu
    refine q z (us.take m) _ zH za (k7.trans (Kept.new hz)) ((s6.upd za).mono (by rw [List.length_map, lnm]; omega)) (by rw [upd_same, e]) ⟨((goodC.take (12 + ex)).perm (by rw [← eq]; exact pu)).take _, ((nobodyC.take (12 + ex)).perm (by rw [← eq]; exact pu)).take _⟩ ?_
    rw [List.length_take]
    omega
end
end K1
end
-- BFm
section
set_option Elab.async false
set_option linter.all false
set_option maxRecDepth 100000
set_option maxHeartbeats 1000000
namespace K1
open PySem PySem.Spec PyProof.Rows L2 W0
def spFm : Sp := fun vs H Q _ => ∃ (a : Addr) (m n : Nat) (way : Int), vs = [.ref a, .int (m : Int), .int way] ∧ Spr H a n ∧ n + 5000 ≤ 1000000 ∧ 1 ≤ m ∧ m ≤ 60 ∧ 0 ≤ way ∧ way < 4 ∧
  ∀ (t p1 p2 p3 : Addr) (qs : List Addr) (ss : List Str) (rs : List (Str × Str)) (ns : List Int) (H' : Hp), Kept a H H' → Spr H' a (n + 1000) → VAt a H' t p1 p2 p3 qs ss rs ns → VOk ss rs ns → (∀ z ∈ ns, z ≤ 1000000) → ss.length = m → Q (.ref t) H'
def spSl : Sp := fun vs H Q _ => ∃ (a : Addr) (lo hi n : Nat), vs = [.ref a, .int (lo : Int), .int (hi : Int)] ∧ Spr H a n ∧ n + 6000 ≤ 1000000 ∧ 1 ≤ lo ∧ lo ≤ hi ∧ hi ≤ 60 ∧
  ∀ (t p1 p2 p3 : Addr) (qs : List Addr) (ss : List Str) (rs : List (Str × Str)) (ns : List Int) (H' : Hp), Kept a H H' → Spr H' a (n + 1002) → VAt a H' t p1 p2 p3 qs ss rs ns → VOk ss rs ns → (∀ z ∈ ns, z ≤ 1000000) → lo ≤ ss.length → ss.length ≤ hi → Q (.ref t) H'
theorem atWay {x y : Int} {i : Nat} {s : Int} (h0 : 0 ≤ s) (h1 : s < 4) (x0 : 0 ≤ x) (x1 : x < 1 + (i : Int)) (y0 : 0 ≤ y) : ∃ j : Nat, atI [V.int x, V.int (1 + (i : Int) - 1), V.int 0, V.int (if 1 + (i : Int) - 1 - y > 0 then 1 + (i : Int) - 1 - y else 0)] s = some (.int (j : Int)) ∧ j ≤ i := by
  have : s = 0 ∨ s = 1 ∨ s = 2 ∨ s = 3 := by omega
  rcases this with rfl | rfl | rfl | rfl
  · exact ⟨x.toNat, by rw [show ((x.toNat : Nat) : Int) = x by omega]; rfl, by omega⟩
  · refine ⟨i, ?_, Nat.le_refl _⟩
    show some (V.int (1 + (i : Int) - 1)) = _
    rw [show 1 + (i : Int) - 1 = (i : Int) by omega]
  · exact ⟨0, rfl, by omega⟩
  · by_cases c : 1 + (i : Int) - 1 - y > 0
    · refine ⟨(1 + (i : Int) - 1 - y).toNat, ?_, by omega⟩
      rw [if_pos c]
      show some (V.int (1 + (i : Int) - 1 - y)) = _
      rw [show (((1 + (i : Int) - 1 - y).toNat : Nat) : Int) = 1 + (i : Int) - 1 - y by omega]
    · exact ⟨0, by rw [if_neg c]; rfl, by omega⟩
theorem at_str {ss : List Str} {x : Int} {j : Nat} (e : x = (j : Int)) (hj : j < ss.length) : atI (ss.map V.str) x = some (.str ss[j]) := by
  rw [e]
  exact atI_nat (by rw [List.getElem?_map, List.getElem?_eq_getElem hj]; rfl)
section
variable {P : Program} {w : World} {K : PySem.W.Frag} {mg : Str → Option Value} {base : Heap} {fD fM fN fP fF : Addr} {fdD fdM fdN fdP fdF : FuncData}
end
end K1
end
-- MRd
section
set_option Elab.async false
set_option linter.all false
set_option maxRecDepth 100000
set_option maxHeartbeats 4000000
namespace K1
open PySem PySem.Spec PyProof.Rows L2 W0
abbrev sRo5 : Stmt := top 49
abbrev sHe5 : Stmt := top 50
theorem scRo5 : FnScope ["draws", "names", "kind", "found", "k", "back", "pair"] ["draws", "names"] (defScope sRo5) := ⟨rfl, rfl, rfl, by decide +kernel, rfl, by decide +kernel, by decide +kernel⟩
theorem scHe5 : FnScope ["draws", "names", "most", "name"] ["draws", "names"] (defScope sHe5) := ⟨rfl, rfl, rfl, by decide +kernel, rfl, by decide +kernel, by decide +kernel⟩
def spRo5 : Sp := fun vs H Q _ => ∃ (a p : Addr) (ss : List Str) (n : Nat), vs = [.ref a, .ref p] ∧ Spr H a n ∧ n + 2000 ≤ 1000000 ∧ H p = some (.lst (ss.map V.str)) ∧ p ≠ a ∧ ss.Nodup ∧ 1 ≤ ss.length ∧ ss.length ≤ 60 ∧
  ∀ (r : Addr) (qs : List Addr) (rs : List (Str × Str)) (H' : Hp), H r = none → r ≠ a → Kept a H H' → Spr H' a (n + 400) → H' r = some (.lst (qs.map V.ref)) → Paired (TupP H') qs rs → Cut rs → EndsIn ss rs → rs.length + 1 = ss.length → Q (.ref r) H'
def spHe5 : Sp := fun vs H Q _ => ∃ (a p : Addr) (ss : List Str) (n : Nat), vs = [.ref a, .ref p] ∧ Spr H a n ∧ n + 2000 ≤ 1000000 ∧ H p = some (.lst (ss.map V.str)) ∧ p ≠ a ∧ ss.length ≤ 60 ∧
  ∀ (r : Addr) (ns : List Int) (H' : Hp), H r = none → r ≠ a → Kept a H H' → Spr H' a (n + 70) → H' r = some (.lst (ns.map V.int)) → ns.length = ss.length → (∀ z ∈ ns, 1 ≤ z) → Q (.ref r) H'
theorem atWay5 {x y : Int} {i : Nat} {s : Int} (h0 : 0 ≤ s) (h1 : s < 5) (x0 : 0 ≤ x) (x1 : x < 1 + (i : Int)) (y0 : 0 ≤ y) : ∃ j : Nat, atI [V.int (1 + (i : Int) - 1), V.int 0, V.int ((1 + (i : Int) - 1) / 2), V.int x, V.int (if 1 + (i : Int) - 1 - y > 0 then 1 + (i : Int) - 1 - y else 0)] s = some (.int (j : Int)) ∧ j ≤ i := by
  have : s = 0 ∨ s = 1 ∨ s = 2 ∨ s = 3 ∨ s = 4 := by omega
  rcases this with rfl | rfl | rfl | rfl | rfl
  · refine ⟨i, ?_, Nat.le_refl _⟩
    show some (V.int (1 + (i : Int) - 1)) = _
    rw [show 1 + (i : Int) - 1 = (i : Int) by omega]
  · exact ⟨0, rfl, by omega⟩
  · refine ⟨i / 2, ?_, Nat.div_le_self _ _⟩
    show some (V.int ((1 + (i : Int) - 1) / 2)) = _
    rw [show (1 + (i : Int) - 1) / 2 = ((i / 2 : Nat) : Int) by omega]
  · exact ⟨x.toNat, by rw [show ((x.toNat : Nat) : Int) = x by omega]; rfl, by omega⟩
  · by_cases c : 1 + (i : Int) - 1 - y > 0
    · refine ⟨(1 + (i : Int) - 1 - y).toNat, ?_, by omega⟩
      rw [if_pos c]
      show some (V.int (1 + (i : Int) - 1 - y)) = _
      rw [show (((1 + (i : Int) - 1 - y).toNat : Nat) : Int) = 1 + (i : Int) - 1 - y by omega]
    · exact ⟨0, by rw [if_neg c]; rfl, by omega⟩
section
variable {P : Program} {w : World} {K : PySem.W.Frag} {mg : Str → Option Value} {base : Heap} {fD fM fP : Addr} {fdD fdM fdP : FuncData}
theorem ok_Ro5 {f : Addr} {fd : FuncData} (F : Fun K "_law_roads" "_law_roads" sRo5 f fd) (B : Bl mg) (mr : mg "range" = none) (mx : mg "max" = none)
    (G : FnOk P w K mg base CX0 1 fD fdD ["draws", "many"] spDraw) (b : Binds K fdD ["draws", "many"] []) (k : PySem.W.keepIn K (.ref fD) = true) (m : mg "_law_draw" = some (.ref fD))
    (GM : FnOk P w K mg base CX0 2 fM fdM ["draws", "some"] spMixed) (bM : Binds K fdM ["draws", "some"] []) (kM : PySem.W.keepIn K (.ref fM) = true) (mM : mg "_law_mixed" = some (.ref fM)) :
    FnOk P w K mg base CX0 3 f fd ["draws", "names"] spRo5 := by
  refine F.ok scRo5 (fun vs H Q E h => ?_) (fun cdv A outer s H vs Q E hr h => ?_)
  · obtain ⟨a, p, ss, n, rfl, _⟩ := h
    rfl
  obtain ⟨a, p, ss0, n, rfl, hs, hn, hp, pa, nds, hm1, hm, q⟩ := h
  have nd := scRo5.nd
  have hr1 : Room 1 _ := hr.mono (by decide)
  refine ⟨_, (pss_cons (by exact (ps_par (i := 2) (j := 3) rfl nd rfl rfl (by decide) rfl rfl (pa_cons (pe_call G hr1 rfl m k b .nil pass0 (pa_cons (pv 0) (pa_cons pe_int pa_nil))) (pa_cons (pe_lst pa_nil) pa_nil)) (by rfl)))
  (pss_cons (by exact (ps_for PassesOwn.never rfl (by exact pi_range2 rfl mr (pa_cons pe_int (pa_cons (pe_callB call_len_seq rfl B.len PySem.boot_len (pa_cons (pv 1) pa_nil)) pa_nil))) (pg_name (i := 4) nd rfl (.inl rfl)) (pss_cons (by exact (ps_set (i := 5) nd rfl (.inl rfl) (pe_ix ix_list (pe_lst (pa_cons (pe_op op_sub (pv 4) pe_int) (pa_cons pe_int (pa_cons (pe_op op_fdiv (pe_op op_sub (pv 4) pe_int) pe_int) (pa_cons (pe_call G hr1 rfl m k b .nil pass0 (pa_cons (pv 0) (pa_cons (pv 4) pa_nil))) (pa_cons (pe_callB (call_max2 rfl) rfl mx (by decide +kernel) (pa_cons pe_int (pa_cons (pe_op op_sub (pe_op op_sub (pv 4) pe_int) (pe_call G hr1 rfl m k b .nil pass0 (pa_cons (pv 0) (pa_cons pe_int pa_nil)))) pa_nil))) pa_nil)))))) (pv 2) (fun _ _ => rfl))))
  (pss_cons (by exact (ps_set (i := 6) nd rfl (.inl rfl) (pe_tup (pa_cons (pe_ix ix_list (pv 1) (pv 5) (fun _ _ => rfl)) (pa_cons (pe_ix ix_list (pv 1) (pv 4) (fun _ _ => rfl)) pa_nil)))))
  (pss_one (by exact (ps_expr (pe_bm PySem.F.plainAttrs_list PySem.F.slot_list_append PySem.F.type_list_append mt_append (pv 3) (pa_cons (pe_ifExp (pt_cmpR op_eq (pe_call G hr1 rfl m k b .nil pass0 (pa_cons (pv 0) (pa_cons pe_int pa_nil))) pe_int (nomark _)) (pv 6) (pe_back (pv 6))) pa_nil)))))))))
  (pss_one (by exact (ps_ret (pe_call GM hr rfl mM kM bM .nil pass0 (pa_cons (pv 0) (pa_cons (pv 3) pa_nil)))))))), ?_⟩
  have cons_run' : True := trivial
  refine ⟨_, rfl, a, 5, n, rfl, hs, by omega, by decide, by decide, fun way H1 w0 w1 k1 s1 => ?_⟩
  refine ⟨Nat.zero_le _, fun L hL => ?_⟩
  refine ⟨_, _, rfl, ?_⟩
  have La := s1.ne hL
  have hp1 := k1 _ _ pa hp
  have pL := ne_of_none hp1 hL
  have LH := fr_kept k1 hL La
  refine nQ ?_
  with_reducible refine sQ ?_
  have hp1' : L2.upd H1 L (.lst []) p = some (.lst (ss0.map V.str)) := by rw [upd_ne pL]; exact hp1
  refine ⟨_, rfl, p, _, rfl, .inl (SqL.of hp1'), _, _, rfl, ⟨by decide, by decide, by rw [List.length_map]; omega, by rw [List.length_map]; omega⟩, ?_⟩
  rw [List.length_map]
  have hN : (((ss0.length : Nat) : Int) - 1).toNat = ss0.length - 1 := by omega
  rw [hN]
  refine for_range (lo := 1) (n := ss0.length - 1) (fun i σ Hc => (∃ x6 x7 x8, σ = [some (.ref a), some (.ref p), some (.int way), some (.ref L), x6, x7, x8]) ∧ Kept a H1 Hc ∧ Spr Hc a (n + 61 + 3 * i) ∧ Hc p = some (.lst (ss0.map V.str)) ∧ ∃ qs rs, Hc L = some (.lst (qs.map V.ref)) ∧ Paired (TupP Hc) qs rs ∧ Cut rs ∧ EndsIn (ss0.take (i + 1)) rs ∧ rs.length = i) ?_ ?_ ?_
  · exact ⟨⟨_, _, _, rfl⟩, Kept.new hL, (s1.upd La).mono (by omega), hp1', [], [], upd_same, .nil, Cut.nil, fun r hr => absurd hr (by simp), rfl⟩
  · rintro i σ Hc hi ⟨⟨x6, x7, x8, rfl⟩, c1, sc, cp, qs, rs, gL, pr, cut, ends, lrs⟩
    have i59 : i < 60 := by omega
    have hik : i + 1 < ss0.length := by omega
    have hi0 : i < ss0.length := by omega
    refine K1.gN ?_
    refine ⟨_, rfl, _, _, rfl, rfl, ?_⟩
    refine ⟨_, rfl, _, _, rfl, rfl, _, _, rfl, rfl, (by constructor <;> decide), ?_⟩
    refine ⟨_, rfl, _, rfl, a, 1 + (i : Int), _, rfl, sc, by omega, by omega, Nat.lt_of_le_of_lt (show (1 + (i : Int)).natAbs ≤ 100 by omega) (by decide), fun d H3 d0 d1 k3 s3 => ?_⟩
    refine ⟨_, rfl, _, _, rfl, rfl, ?_⟩
    refine ⟨_, rfl, a, 3, _, rfl, s3, by omega, (by decide), (by decide), fun y H4 y0 y1 k4 s4 => ?_⟩
    refine ⟨_, _, rfl, rfl, _, _, rfl, (by show 5 ≤ sizeLine; decide), fun l4 hl4 => ?_⟩
    obtain ⟨j, e4, lj⟩ := atWay5 (i := i) w0 w1 d0 d1 y0
    have k34 := k3.trans k4
    have k45 : Kept a Hc (L2.upd H4 l4 (.lst [V.int (1 + (i : Int) - 1), V.int 0, V.int ((1 + (i : Int) - 1) / 2), V.int d, V.int (if 1 + (i : Int) - 1 - y > 0 then 1 + (i : Int) - 1 - y else 0)])) := k34.trans (Kept.new hl4)
    have s5 := s4.upd (o := .lst [V.int (1 + (i : Int) - 1), V.int 0, V.int ((1 + (i : Int) - 1) / 2), V.int d, V.int (if 1 + (i : Int) - 1 - y > 0 then 1 + (i : Int) - 1 - y else 0)]) (s4.ne hl4)
    refine ⟨_, rfl, l4, _, way, _, rfl, rfl, SqL.of upd_same, e4, ?_⟩
    generalize L2.upd H4 l4 (.lst [V.int (1 + (i : Int) - 1), V.int 0, V.int ((1 + (i : Int) - 1) / 2), V.int d, V.int (if 1 + (i : Int) - 1 - y > 0 then 1 + (i : Int) - 1 - y else 0)]) = H5 at k45 s5 ⊢
    have hj : j < ss0.length := by omega
    have hp5 := k45 _ _ pa cp
    have gL5 := k45 _ _ La gL
    have ek : atI (ss0.map V.str) (1 + (i : Int)) = some (.str ss0[i + 1]) := at_str (j := i + 1) (by omega) hik
    have ej : atI (ss0.map V.str) (j : Int) = some (.str ss0[j]) := at_str (j := j) rfl hj
    refine K1.gN ?_
    refine ⟨_, rfl, _, rfl, p, _, _, _, rfl, rfl, SqL.of hp5, ej, _, rfl, _, rfl, p, _, _, _, rfl, rfl, SqL.of hp5, ek, (by show 2 ≤ sizeLine; decide), fun T hT => ?_⟩
    have Ta := s5.ne hT
    have k5T : Kept a Hc (L2.upd H5 T (.tup [.str ss0[j], .str ss0[i + 1]])) := k45.trans (Kept.new hT)
    have sT := s5.upd (o := .tup [.str ss0[j], .str ss0[i + 1]]) Ta
    have gT := upd_same' H5 T (.tup [.str ss0[j], .str ss0[i + 1]])
    generalize L2.upd H5 T (.tup [.str ss0[j], .str ss0[i + 1]]) = H6' at k5T sT gT ⊢
    refine K1.gN ?_
    have gL6' := k5T _ _ La gL
    refine ⟨_, rfl, .inl ⟨rfl, _, SqL.of gL6'⟩, ?_⟩
    dsimp only
    refine cons_run ⟨_, rfl, a, 2, _, rfl, sT, by omega, by decide, by decide, fun d6 H6 d60 d61 k6 s6 => ⟨rfl, _, rfl, ?_⟩⟩
    have k46 := k5T.trans k6
    have hp6 := k46 _ _ pa cp
    have gL6 := k46 _ _ La gL
    have pr6 := TupP.kept pr sc k46
    have gT6 := k6 _ _ Ta gT
    have nv : ¬ ss0[i + 1] ∈ ss0.take (i + 1) := nodup_take_not nds hik
    have mv : ss0[j] ∈ ss0.take (i + 1) := List.mem_take_iff_getElem.mpr ⟨j, by omega, rfl⟩
    have ends2 : ∀ r ∈ rs, r.1 ≠ ss0[i + 1] ∧ r.2 ≠ ss0[i + 1] := fun r hr => ⟨fun z => nv (by rw [← z]; exact (ends r hr).1), fun z => nv (by rw [← z]; exact (ends r hr).2)⟩
    have huv : ss0[j] ≠ ss0[i + 1] := fun z => nv (by rw [← z]; exact mv)
    have up1 : ∀ s ∈ ss0.take (i + 1), s ∈ ss0.take (i + 1 + 1) := fun s hs => (mem_take_succ hik).mpr (.inl hs)
    have lq : qs.length = rs.length := pr.length
    have fin : ∀ (H7 : Hp) (t : Addr) (e0 : Str × Str), (e0 = (ss0[j], ss0[i + 1]) ∨ e0 = (ss0[i + 1], ss0[j])) → Same H6 H7 → TupP H7 t e0 →
        ∃ l xs y, V.ref L = .ref l ∧ [V.ref t] = [y] ∧ H7 l = some (.lst xs) ∧ xs.length < sizeLine ∧ ((∃ x6 x7 x8, ([some (.ref a), some (.ref p), some (.int way), some (.ref L), some (.int (1 + (i : Int))), some (.int (j : Int)), some (.ref T)] : L2.St) = [some (.ref a), some (.ref p), some (.int way), some (.ref L), x6, x7, x8]) ∧
          Kept a H1 (L2.upd H7 l (.lst (xs ++ [y]))) ∧ Spr (L2.upd H7 l (.lst (xs ++ [y]))) a (n + 61 + 3 * (i + 1)) ∧ L2.upd H7 l (.lst (xs ++ [y])) p = some (.lst (ss0.map V.str)) ∧
          ∃ qs rs, L2.upd H7 l (.lst (xs ++ [y])) L = some (.lst (qs.map V.ref)) ∧ Paired (TupP (L2.upd H7 l (.lst (xs ++ [y])))) qs rs ∧ Cut rs ∧ EndsIn (ss0.take (i + 1 + 1)) rs ∧ rs.length = i + 1) := by
      intro H7 t e0 he e7 g7
      have s7 := s6.same e7
      have gL7 := e7 _ _ gL6
      have pr7 := TupP.ext pr6 e7
      have kx : Kept a H1 H7 := c1.trans (k46.trans (Kept.same e7))
      have keepT : ∀ q r, TupP H7 q r → TupP (L2.upd H7 L (.lst (qs.map V.ref ++ [.ref t]))) q r := fun q r e => by
        have ne : q ≠ L := fun z => by
          have e' : H7 q = _ := e
          rw [z, gL7] at e'
          cases e'
        show L2.upd H7 L _ q = _
        rw [upd_ne ne]
        exact e
      refine ⟨L, _, _, rfl, rfl, gL7, by rw [List.length_map]; exact small1000 (by omega), ⟨_, _, _, rfl⟩, fun b o nb e => ?_, (s7.upd La).mono (by omega), by rw [upd_ne pL]; exact e7 _ _ hp6, qs ++ [t], rs ++ [e0], ?_, ?_, cut.add ends2 huv he, fun r hr => ?_, by rw [List.length_append, lrs]; rfl⟩
      · rw [upd_ne (ne_of_none e hL)]
        exact kx b o nb e
      · rw [upd_same, List.map_append]
        rfl
      · exact paired_snoc (paired_imp (fun _ _ q => keepT _ _ q) pr7) (keepT _ _ g7)
      · rcases List.mem_append.mp hr with hr | hr
        · exact ⟨up1 _ (ends r hr).1, up1 _ (ends r hr).2⟩
        · rw [List.mem_singleton.mp hr]
          have m2 : ss0[i + 1] ∈ ss0.take (i + 1 + 1) := (mem_take_succ hik).mpr (.inr rfl)
          rcases he with rfl | rfl
          · exact ⟨up1 _ mv, m2⟩
          · exact ⟨m2, up1 _ mv⟩
    refine ite2 (fun cc => ?_) (fun cc => ?_)
    · exact ⟨_, rfl, fin H6 T (ss0[j], ss0[i + 1]) (.inl rfl) (Same.refl _) gT6⟩
    · refine ⟨_, rfl, T, _, _, rfl, SqT.of gT6, fun u hu => ?_⟩
      exact fin _ u (ss0[i + 1], ss0[j]) (.inr rfl) (K1.Same.upd hu) upd_same
  · rintro σ Hc ⟨⟨x6, x7, x8, rfl⟩, c1, sc, cp, qs, rs, gL, pr, cut, ends, lrs⟩
    have take0 : EndsIn ss0 rs := fun r hr => ⟨List.mem_of_mem_take (ends r hr).1, List.mem_of_mem_take (ends r hr).2⟩
    have lq : qs.length = rs.length := pr.length
    refine ⟨_, rfl, _, rfl, a, L, qs.map V.ref, _, rfl, sc, by omega, gL, La, by rw [List.length_map]; omega, fun r2 ys2 H5 pm2 rn2 ra2 hr2' k5 s5 => ?_⟩
    rw [List.length_map] at s5
    obtain ⟨qs', rs', rfl, pq', prs', pr5⟩ := paired_perm (TupP.kept pr sc k5) pm2
    have lrs' := prs'.length_eq
    have kH5 : Kept a H H5 := k1.trans (c1.trans k5)
    exact q r2 qs' rs' H5 (fr_kept (k1.trans c1) rn2 ra2) ra2 kH5 (s5.mono (by omega)) hr2' pr5 (cut.perm prs') (fun r hr => take0 r (prs'.mem_iff.mp hr)) (by omega)
theorem ok_He5 {f : Addr} {fd : FuncData} (F : Fun K "_law_heads" "_law_heads" sHe5 f fd)
    (G : FnOk P w K mg base CX0 1 fD fdD ["draws", "many"] spDraw) (b : Binds K fdD ["draws", "many"] []) (k : PySem.W.keepIn K (.ref fD) = true) (m : mg "_law_draw" = some (.ref fD))
    (GP : FnOk P w K mg base CX0 2 fP fdP ["draws", "some"] spPick) (bP : Binds K fdP ["draws", "some"] []) (kP : PySem.W.keepIn K (.ref fP) = true) (mP : mg "_law_pick" = some (.ref fP)) :
    FnOk P w K mg base CX0 3 f fd ["draws", "names"] spHe5 := by
  refine F.ok scHe5 (fun vs H Q E h => ?_) (fun cdv A outer s H vs Q E hr h => ?_)
  · obtain ⟨a, p, ss, n, rfl, _⟩ := h
    rfl
  obtain ⟨a, p, ss0, n, rfl, hs, hn, hp, pa, hm, q⟩ := h
  have nd := scHe5.nd
  have hr1 : Room 1 _ := hr.mono (by decide)
  refine ⟨_, (pss_cons (by exact (ps_set (i := 2) nd rfl (.inr rfl) (pe_call GP hr rfl mP kP bP .nil pass0 (pa_cons (pv 0) (pa_cons (pe_lst (pa_cons pe_int (pa_cons pe_int (pa_cons pe_int (pa_cons pe_int (pa_cons (pe_op op_pow pe_int pe_int) pa_nil)))))) pa_nil)))))
  (pss_one (by exact (ps_ret (pe_lc (own := [("name", 3)]) (g := gName 3) (tt := tYes) (te := tOp (rI0 fun i j => V.int (i + j)) (tC (V.int 1)) (tCall spDraw [] E0 (tCons (tVar 0) (tCons (tVar 2) tNil)))) rfl nd (by exact pi_list (pv 1)) (by exact blkOk_by (N := ["draws", "names", "most", "name"]) (sc := defScope sHe5) (by decide +kernel)) (fun _ _ _ _ _ => by exact (pg_name (i := 3) nd rfl (.inl rfl))) (fun _ _ _ _ _ => by exact pts_nil) (fun _ _ _ _ _ => by exact (pe_op op_add pe_int (pe_call G hr1 rfl m k b .nil pass0 (pa_cons (pv 0) (pa_cons (pv 2) pa_nil)))))))))), ?_⟩
  refine ⟨_, rfl, ?_⟩
  refine ⟨_, _, rfl, rfl, ⟨by decide, by decide, by decide⟩, (by show 5 ≤ sizeLine; decide), fun l3 hl3 => ?_⟩
  have l3a := hs.ne hl3
  refine ⟨a, l3, [V.int 1, V.int 1, V.int 3, V.int 40, V.int (10 ^ 15)], _, rfl, hs.upd l3a, by omega, upd_same, l3a, by simp, (by show 5 ≤ 1000; decide), fun x H5 hx k5 s5 => ?_⟩
  obtain ⟨big, rfl, b0, b1⟩ : ∃ big : Int, x = .int big ∧ 0 < big ∧ big ≤ 10 ^ 15 := by
    simp only [List.mem_cons, List.not_mem_nil, or_false] at hx
    rcases hx with rfl | rfl | rfl | rfl | rfl
    · exact ⟨1, rfl, by decide, by decide⟩
    · exact ⟨1, rfl, by decide, by decide⟩
    · exact ⟨3, rfl, by decide, by decide⟩
    · exact ⟨40, rfl, by decide, by decide⟩
    · exact ⟨10 ^ 15, rfl, by decide, by decide⟩
  have k1 : Kept a H H5 := (Kept.new hl3).trans k5
  have cp := k1 _ _ pa hp
  refine K1.gN ?_
  refine ⟨_, rfl, p, rfl, ⟨_, SqL.of cp⟩, fun D hD => ?_⟩
  have Da := s5.ne hD
  refine lc_it (Qd := _) walk_list (fun i Hd => Kept a H5 Hd ∧ Spr Hd a (n + 1 + i) ∧ ∃ ns : List Int, Hd D = some (.lst (ns.map V.int)) ∧ ns.length = i ∧ ∀ z ∈ ns, 1 ≤ z) ⟨Kept.new hD, s5.upd Da, [], upd_same, rfl, fun z hz => absurd hz (by simp)⟩ (fun i Hd _ h => SqL.of (h.1 _ _ pa cp)) ?_ ?_
  · rintro i y Hd H' hi ⟨d1, d2, ns, d3, d4, d5⟩ ⟨rfl, hy⟩
    rw [List.length_map] at hi
    refine ⟨rfl, ?_⟩
    unfold tYes
    refine iteT ?_
    refine ⟨_, rfl, _, rfl, a, big, _, rfl, d2, by omega, b0, Nat.lt_of_le_of_lt (show big.natAbs ≤ 10 ^ 15 by omega) (by decide), fun d H6 e0 e1 k6 s6 => ?_⟩
    have d3' := k6 _ _ Da d3
    refine ⟨_, _, rfl, rfl, _, d3', by rw [List.length_map]; exact small1000 (by omega), fun b o nb e => ?_, s6.upd Da, ns ++ [1 + d], by rw [upd_same, List.map_append]; rfl, by rw [List.length_append, d4]; rfl, fun z hz => ?_⟩
    · rw [upd_ne (ne_of_none e hD)]
      exact k6 b o nb (d1 b o nb e)
    · rcases List.mem_append.mp hz with hz | hz
      · exact d5 z hz
      · rw [List.mem_singleton.mp hz]
        omega
  · rintro Hd ⟨d1, d2, ns, d3, d4, d5⟩
    rw [List.length_map] at d2 d4
    exact q D ns Hd (fr_kept k1 hD Da) Da (k1.trans d1) (d2.mono (by omega)) d3 d4 d5
end
end K1
end
-- MCs
section
set_option Elab.async false
set_option linter.all false
set_option maxRecDepth 100000
set_option maxHeartbeats 4000000
namespace K1
open PySem PySem.Spec PyProof.Rows L2 W0
abbrev sCs : Stmt := top 51
abbrev sVM : Stmt := top 52
theorem scCs : FnScope ["draws", "most", "many", "names", "roads"] ["draws", "most"] (defScope sCs) := ⟨rfl, rfl, rfl, by decide +kernel, rfl, by decide +kernel, by decide +kernel⟩
theorem scVM : FnScope ["draws", "case", "names", "roads", "heads"] ["draws", "case"] (defScope sVM) := ⟨rfl, rfl, rfl, by decide +kernel, rfl, by decide +kernel, by decide +kernel⟩
def spCs : Sp := fun vs H Q _ => ∃ (a : Addr) (mx n : Nat), vs = [.ref a, .int (mx : Int)] ∧ Spr H a n ∧ n + 5000 ≤ 1000000 ∧ 1 ≤ mx ∧ mx ≤ 60 ∧
  ∀ (t p1 p2 p3 : Addr) (qs : List Addr) (ss : List Str) (rs : List (Str × Str)) (ns : List Int) (H' : Hp), Kept a H H' → Spr H' a (n + 1000) → VAt a H' t p1 p2 p3 qs ss rs ns → VOk ss rs ns → NoBodyC ss → Q (.ref t) H'
section
variable {P : Program} {w : World} {K : PySem.W.Frag} {mg : Str → Option Value} {base : Heap} {fD fM fN fR fH fL fV C : Addr} {fdD fdM fdN fdR fdH fdL fdV : FuncData}
theorem ok_Cs {f : Addr} {fd : FuncData} (F : Fun K "_law_case" "_law_case" sCs f fd) (mn : mg "min" = none)
    (G : FnOk P w K mg base CX0 1 fD fdD ["draws", "many"] spDraw) (b : Binds K fdD ["draws", "many"] []) (k : PySem.W.keepIn K (.ref fD) = true) (m : mg "_law_draw" = some (.ref fD))
    (GM : FnOk P w K mg base CX0 2 fM fdM ["draws", "some"] spMixed) (bM : Binds K fdM ["draws", "some"] []) (kM : PySem.W.keepIn K (.ref fM) = true) (mM : mg "_law_mixed" = some (.ref fM))
    (GN : FnOk P w K mg base CX0 3 fN fdN ["draws", "many"] spVNc) (bN : Binds K fdN ["draws", "many"] []) (kN : PySem.W.keepIn K (.ref fN) = true) (mN : mg "_law_names" = some (.ref fN))
    (GR : FnOk P w K mg base CX0 3 fR fdR ["draws", "names"] spRo5) (bR : Binds K fdR ["draws", "names"] []) (kR : PySem.W.keepIn K (.ref fR) = true) (mR : mg "_law_roads" = some (.ref fR))
    (GH : FnOk P w K mg base CX0 3 fH fdH ["draws", "names"] spHe5) (bH : Binds K fdH ["draws", "names"] []) (kH : PySem.W.keepIn K (.ref fH) = true) (mH : mg "_law_heads" = some (.ref fH)) :
    FnOk P w K mg base CX0 4 f fd ["draws", "most"] spCs := by
  refine F.ok scCs (fun vs H Q E h => ?_) (fun cdv A outer s H vs Q E hr h => ?_)
  · obtain ⟨a, mx, n, rfl, _⟩ := h
    rfl
  obtain ⟨a, mx, n, rfl, hs, hn, m1, m2, q⟩ := h
  have nd := scCs.nd
  have hr1 : Room 1 _ := hr.mono (by decide)
  have hr2 : Room 2 _ := hr.mono (by decide)
  have hr3 : Room 3 _ := hr
  refine ⟨_, (pss_cons (by exact (ps_set (i := 2) nd rfl (.inl rfl) (pe_ifExp (PW.pt (pw_and (pt_cmpR op_gt (pv 1) pe_int (nomark _)) (pw_and1 (pt_cmpR op_eq (pe_call G hr1 rfl m k b .nil pass0 (pa_cons (pv 0) (pa_cons pe_int pa_nil))) pe_int (nomark _))))) (pv 1) (pe_op op_add pe_int (pe_call G hr1 rfl m k b .nil pass0 (pa_cons (pv 0) (pa_cons (pe_callB (call_min2 rfl) rfl mn (by decide +kernel) (pa_cons (pv 1) (pa_cons pe_int pa_nil))) pa_nil)))))))
  (pss_cons (by exact (ps_set (i := 3) nd rfl (.inl rfl) (pe_call GN hr3 rfl mN kN bN .nil pass0 (pa_cons (pv 0) (pa_cons (pv 2) pa_nil)))))
  (pss_cons (by exact (ps_set (i := 4) nd rfl (.inl rfl) (pe_call GR hr3 rfl mR kR bR .nil pass0 (pa_cons (pv 0) (pa_cons (pv 3) pa_nil)))))
  (pss_one (by exact (ps_ret (pe_tup (pa_cons (pe_call GM hr2 rfl mM kM bM .nil pass0 (pa_cons (pv 0) (pa_cons (pv 3) pa_nil))) (pa_cons (pv 4) (pa_cons (pe_call GH hr3 rfl mH kH bH .nil pass0 (pa_cons (pv 0) (pa_cons (pv 3) pa_nil))) pa_nil)))))))))), ?_⟩
  have rest : ∀ (mm : Nat) (H1 : Hp), 1 ≤ mm → mm ≤ 60 → Kept a H H1 → Spr H1 a (n + 2) → 
      gName 2 (.int (mm : Int)) (L2.start ["draws", "most", "many", "names", "roads"] [.ref a, .int mx]) H1 fun σ H' => tSeq (tAsg (tCall spVNc [] E0 (tCons (tVar 0) (tCons (tVar 2) tNil))) (gName 3)) (tSeq (tAsg (tCall spRo5 [] E0 (tCons (tVar 0) (tCons (tVar 3) tNil))) (gName 4))
        (tRet (tTup (tCons (tCall spMixed [] E0 (tCons (tVar 0) (tCons (tVar 3) tNil))) (tCons (tVar 4) (tCons (tCall spHe5 [] E0 (tCons (tVar 0) (tCons (tVar 3) tNil))) tNil)))))) { nx := fun x H' => Q V.non H', rt := Q } σ H' := by
    intro mm H1 g1 g2 k1 s1
    refine K1.gN ?_
    with_reducible refine sQ ?_
    refine ⟨_, rfl, _, rfl, a, mm, _, rfl, s1, by omega, g1, g2, fun r ss0 H2 rn ra k2 s2 hr2' ⟨good, nob⟩ ls => ?_⟩
    refine K1.gN ?_
    with_reducible refine sQ ?_
    refine ⟨_, rfl, _, rfl, a, r, ss0, _, rfl, s2, by omega, hr2', ra, good.1, by omega, by omega, fun p2 qs rs H3 pn2 pa2 k3 s3 h2 pr cut ends rl => ?_⟩
    refine K1.gN ?_
    have r3 := k3 _ _ ra hr2'
    refine ⟨_, rfl, _, rfl, a, r, ss0.map V.str, _, rfl, s3, by omega, r3, ra, by rw [List.length_map]; omega, fun p1 ys H4 pm pn1 pa1 h1 k4 s4 => ?_⟩
    rw [List.length_map] at s4
    obtain ⟨ss, rfl, ps⟩ := perm_str pm
    have lss := ps.length_eq
    have r4 := k4 _ _ ra r3
    have h24 := k4 _ _ pa2 h2
    have pr4 := TupP.kept pr s3 k4
    refine ⟨_, rfl, _, rfl, _, rfl, a, r, ss0, _, rfl, s4, by omega, r4, ra, by omega, fun p3 ns H5 pn3 pa3 k5 s5 h3 nl ge => ?_⟩
    refine ⟨(by show 3 ≤ sizeLine; decide), fun t ht => ?_⟩
    have ta := s5.ne ht
    have kk : Kept a H5 (L2.upd H5 t (.tup [.ref p1, .ref p2, .ref p3])) := Kept.new ht
    refine q t p1 p2 p3 qs ss rs ns _ (k1.trans (k2.trans (k3.trans (k4.trans (k5.trans kk))))) ((s5.upd ta).mono (by omega))
        ⟨upd_same, kk _ _ pa1 (k5 _ _ pa1 h1), kk _ _ pa2 (k5 _ _ pa2 h24), TupP.kept (TupP.kept pr4 s4 k5) s5 kk, kk _ _ pa3 h3, ta, pa1, pa2, pa3⟩
        ⟨good.perm ps, by omega, by omega, cut, fun r hr => ⟨ps.mem_iff.mpr (ends r hr).1, ps.mem_iff.mpr (ends r hr).2⟩, by omega, by omega, ge, (nob.perm ps).2.2⟩ (nob.perm ps)
  have low : ∀ (H1 : Hp), Kept a H H1 → Spr H1 a (n + 1) → tOp (rI0 fun i j => V.int (i + j)) (tC (V.int 1)) (tCall spDraw [] E0 (tCons (tVar 0) (tCons (tCB (fun xs H Q => ∃ i j, xs = [V.int i, V.int j] ∧ Q (V.int (if j < i then j else i)) H) (tCons (tVar 1) (tCons (tC (V.int 9)) tNil))) tNil))) (L2.start ["draws", "most", "many", "names", "roads"] [.ref a, .int mx]) H1 fun v H' => gName 2 v (L2.start ["draws", "most", "many", "names", "roads"] [.ref a, .int mx]) H' fun σ H' => tSeq (tAsg (tCall spVNc [] E0 (tCons (tVar 0) (tCons (tVar 2) tNil))) (gName 3)) (tSeq (tAsg (tCall spRo5 [] E0 (tCons (tVar 0) (tCons (tVar 3) tNil))) (gName 4))
        (tRet (tTup (tCons (tCall spMixed [] E0 (tCons (tVar 0) (tCons (tVar 3) tNil))) (tCons (tVar 4) (tCons (tCall spHe5 [] E0 (tCons (tVar 0) (tCons (tVar 3) tNil))) tNil)))))) { nx := fun x H' => Q V.non H', rt := Q } σ H' := by
    intro H1 k1 s1
    have e : (if (9 : Int) < (mx : Int) then (9 : Int) else (mx : Int)) = ((min mx 9 : Nat) : Int) := by split <;> omega
    refine ⟨_, rfl, _, rfl, _, _, rfl, ?_⟩
    rw [e]
    refine ⟨a, ((min mx 9 : Nat) : Int), _, rfl, s1, by omega, by omega, Nat.lt_of_le_of_lt (show (((min mx 9 : Nat) : Int)).natAbs ≤ 100 by omega) (by decide), fun d H2 d0 d1 k2 s2 => ?_⟩
    refine ⟨_, _, rfl, rfl, ?_⟩
    dsimp only
    rw [show (1 : Int) + d = (((1 + d.toNat : Nat)) : Int) by omega]
    exact rest (1 + d.toNat) H2 (by omega) (by omega) (k1.trans k2) s2
  with_reducible refine sQ ?_
  refine ⟨_, rfl, _, _, rfl, rfl, _, rfl, ?_⟩
  refine ite2 (fun c => ?_) (fun c => ?_)
  · refine ⟨_, rfl, a, 5, n, rfl, hs, by omega, by decide, by decide, fun d H1 d0 d1 k1 s1 => ⟨rfl, _, rfl, ?_⟩⟩
    refine ite2 (fun c2 => ?_) (fun c2 => ?_)
    · exact ⟨_, rfl, rest mx H1 m1 m2 k1 (s1.mono (by omega))⟩
    · exact low H1 k1 s1
  · exact low H .refl (hs.mono (by omega))
theorem ok_Md {f : Addr} {fd : FuncData} (F : Fun K "_law_made" "_law_made" sVM f fd) (mV : mg "Valley" = some (.ref C)) (M : Mk K C fV)
    (GV : FnOk P w K mg base (L2.CX P w) 5 fV fdV ["self", "houses", "roads", "heads"] (spVS K C)) (bV : Binds K fdV ["self", "houses", "roads", "heads"] [])
    (GL1 : FnOk P w K mg base CX0 2 fL fdL ["draws", "thing"] (spLo (SeqR (Flat0 K)) 1)) (GL2 : FnOk P w K mg base CX0 3 fL fdL ["draws", "thing"] (spLo (SeqR (SeqR (Flat0 K))) 61))
    (bL : Binds K fdL ["draws", "thing"] []) (kL : PySem.W.keepIn K (.ref fL) = true) (mL : mg "_law_loose" = some (.ref fL)) :
    FnOk P w K mg base CX0 7 f fd ["draws", "case"] (spMd C) := by
  refine F.ok scVM (fun vs H Q E h => ?_) (fun cdv A outer s H vs Q E hr h => ?_)
  · obtain ⟨a, t, p1, p2, p3, qs, ss, rs, ns, n, rfl, _⟩ := h
    rfl
  obtain ⟨a, t, p1, p2, p3, qs, ss, rs, ns, n, rfl, hs, hn, v, ok, q⟩ := h
  have hrA : Room 2 _ := hr.mono (by decide)
  have hrB : Room 3 _ := hr.mono (by decide)
  have nd := scVM.nd
  refine ⟨_, (pss_cons (by exact (ps_asg (pv 1) (pg_tup rfl (pgs_cons (pg_name (i := 2) nd rfl (.inl rfl)) (pgs_cons (pg_name (i := 3) nd rfl (.inl rfl)) (pgs_cons (pg_name (i := 4) nd rfl (.inl rfl)) pgs_nil))))))
  (pss_one (by exact (ps_ret (pe_make M GV hr rfl mV bV .nil passL (pa_cons (pe_call GL1 hrA rfl mL kL bL .nil pass0 (pa_cons (pv 0) (pa_cons (pv 2) pa_nil))) (pa_cons (pe_call GL2 hrB rfl mL kL bL .nil pass0 (pa_cons (pv 0) (pa_cons (pv 3) pa_nil))) (pa_cons (pe_call GL1 hrA rfl mL kL bL .nil pass0 (pa_cons (pv 0) (pa_cons (pv 4) pa_nil))) pa_nil)))))))), ?_⟩
  have zz : ∀ {Hx : Hp} {m : Nat}, Spr Hx a m → ∀ z, z = a → Hx z ≠ none := fun s z e => by rw [e]; exact s.kept
  have i0 : atI [V.ref p1, V.ref p2, V.ref p3] 0 = some (.ref p1) := rfl
  have i1 : atI [V.ref p1, V.ref p2, V.ref p3] 1 = some (.ref p2) := rfl
  have i2 : atI [V.ref p1, V.ref p2, V.ref p3] 2 = some (.ref p3) := rfl
  have pl := ok.le
  refine ⟨_, rfl, t, _, rfl, SqT.of v.t0, rfl, _, _, rfl, _, _, rfl, _, _, rfl, rfl, ?_⟩
  dsimp only
  refine ⟨_, rfl, _, rfl, a, _, ss.map V.str, n, fun z => z = a, rfl, hs, by omega, rfl, zz hs, ⟨ss.map V.str, ⟨p1, rfl, .inl (wo_some.mpr ⟨v.n1, v.h1⟩)⟩, by rw [List.length_map]; exact pl, paired_same fun x hx => ?_⟩, fun y1 H1 k1 s1 r1 => ?_⟩
  · obtain ⟨s, _, rfl⟩ := List.mem_map.mp hx
    exact flat_str s
  have v1 := v.kept hs k1
  refine ⟨_, rfl, _, rfl, a, _, rs.map prV, _, fun z => z = a, rfl, s1, by omega, rfl, zz s1, ⟨qs.map V.ref, ⟨p2, rfl, .inl (wo_some.mpr ⟨v.n2, v1.h2⟩)⟩, by rw [List.length_map]; have := ok.rl; omega, ?_⟩, fun y2 H2 k2 s2 r2 => ?_⟩
  · have : Paired (fun (q : Addr) (r : Str × Str) => SeqR (Flat0 K) (wo (fun z => z = a) H1) (.ref q) (prV r)) qs rs := paired_imp (fun qq r e => ⟨prV r, ⟨qq, rfl, .inr (wo_some.mpr ⟨s1.tup e, e⟩)⟩, by show 2 ≤ 60; decide, .cons (flat_str _) (.cons (flat_str _) .nil)⟩) v1.pr
    have h2 : ∀ {as : List Addr} {bs : List (Str × Str)}, Paired (fun (q : Addr) (r : Str × Str) => SeqR (Flat0 K) (wo (fun z => z = a) H1) (.ref q) (prV r)) as bs → Paired (SeqR (Flat0 K) (wo (fun z => z = a) H1)) (as.map V.ref) (bs.map prV) := by
      intro as bs h
      induction h with
      | nil => exact .nil
      | cons f1 f2 ih => exact .cons f1 ih
    exact h2 this
  have v2 := v1.kept s1 k2
  refine ⟨_, rfl, _, rfl, a, _, ns.map V.int, _, fun z => z = a, rfl, s2, by omega, rfl, zz s2, ⟨ns.map V.int, ⟨p3, rfl, .inl (wo_some.mpr ⟨v.n3, v2.h3⟩)⟩, by rw [List.length_map, ok.nl]; exact pl, paired_same fun x hx => ?_⟩, fun y3 H3 k3 s3 r3 => ?_⟩
  · obtain ⟨s, _, rfl⟩ := List.mem_map.mp hx
    exact flat_int s
  have w1 : Same (wo (fun z => z = a) H1) H3 := Same.trans (wo_same fun b o nb e => k2 b o nb e) (Same.trans (wo_same fun b o nb e => k3 b o nb e) wo_out)
  have w2 : Same (wo (fun z => z = a) H2) H3 := Same.trans (wo_same fun b o nb e => k3 b o nb e) wo_out
  obtain ⟨vs1, sv1, _, q1⟩ := r1
  obtain ⟨vs2, sv2, _, q2⟩ := r2
  obtain ⟨vs3, sv3, _, q3⟩ := r3
  rw [flat_eq q1] at sv1
  rw [flat_eq q3] at sv3
  intro x dx nx ndx nex
  refine made_ofS ok s3 (k1.trans (k2.trans k3)) hs.kept nx ndx (sv1.ext w1) ⟨vs2, sv2.ext w2, ?_⟩ (sv3.ext wo_out) fun l1 l2 l3 d1 d2 d3 qs' bs H' kk ss' vv ov sm => ⟨rfl, ?_⟩
  · refine paired_imp (fun x r h => ?_) (paired_map q2)
    obtain ⟨us, su, _, qu⟩ := h
    rw [flat_eq qu] at su
    exact SeqV.ext su w2
  · exact q x l1 l2 l3 d1 d2 d3 qs' bs H' kk (ss'.mono (by omega)) vv ov
end
end K1
end
-- MHa
section
set_option Elab.async false
set_option linter.all false
set_option maxRecDepth 100000
set_option maxHeartbeats 1000000
namespace K1
open PySem PySem.Spec PyProof.Rows L2 W0
abbrev sHd : Stmt := top 53
/-- the same roads, some the other way round -/
def Turned : List (Str × Str) → List (Str × Str) → Prop := Paired fun e' e => e' = e ∨ e' = (e.2, e.1)
/-- roads as they may be handed: lists, tuples, either way round; not at Z -/
def HandV (K : PySem.W.Frag) (H : Hp) (Z : Addr → Prop) (y : V) (es : List (Str × Str)) : Prop := ∃ es', Turned es' es ∧ SeqR (SeqR (Flat0 K)) (wo Z H) y (es'.map prV)
def spHd (K : PySem.W.Frag) : Sp := fun vs H Q _ => ∃ (a p : Addr) (qs : List Addr) (es : List (Str × Str)) (n : Nat) (Z : Addr → Prop), vs = [.ref a, .ref p] ∧ Spr H a n ∧ n + 200 ≤ 1000000 ∧ Z a ∧ (∀ z, Z z → H z ≠ none) ∧ H p = some (.lst (qs.map V.ref)) ∧ p ≠ a ∧ Paired (TupP (wo Z H)) qs es ∧ es.length ≤ 59 ∧
  ∀ y H', Kept a H H' → Spr H' a (n + 200) → HandV K H' Z y es → Q y H'
theorem scHd : FnScope ["draws", "roads", "road", "some"] ["draws", "roads"] (defScope sHd) := ⟨rfl, rfl, rfl, by decide +kernel, rfl, by decide +kernel, by decide +kernel⟩
theorem two_maps {α β γ δ : Type} {R : γ → δ → Prop} {f : α → γ} {g : β → δ} : ∀ {xs : List α} {ys : List β}, Paired (fun x y => R (f x) (g y)) xs ys → Paired R (xs.map f) (ys.map g)
  | _, _, .nil => .nil
  | _, _, .cons a r => .cons a (two_maps r)
section
variable {P : Program} {w : World} {K : PySem.W.Frag} {mg : Str → Option Value} {base : Heap} {fD fL : Addr} {fdD fdL : FuncData}
theorem ok_Hd {f : Addr} {fd : FuncData} (F : Fun K "_law_turned" "_law_turned" sHd f fd)
    (G : FnOk P w K mg base CX0 1 fD fdD ["draws", "many"] spDraw) (b : Binds K fdD ["draws", "many"] []) (k : PySem.W.keepIn K (.ref fD) = true) (m : mg "_law_draw" = some (.ref fD))
    (GL : FnOk P w K mg base CX0 3 fL fdL ["draws", "thing"] (spLo (SeqR (SeqR (Flat0 K))) 61)) (bL : Binds K fdL ["draws", "thing"] []) (kL : PySem.W.keepIn K (.ref fL) = true) (mL : mg "_law_loose" = some (.ref fL)) : FnOk P w K mg base CX0 4 f fd ["draws", "roads"] (spHd K) := by
  refine F.ok scHd (fun vs H Q E h => ?_) (fun cdv A outer s H vs Q E hr h => ?_)
  · obtain ⟨a, p, qs, es, n, Z, rfl, _⟩ := h
    rfl
  obtain ⟨a, p, qs, es, n, Z, rfl, hs, hn, za, hZ, hp, pa, prZ, le, q⟩ := h
  have pr : Paired (TupP H) qs es := paired_imp (fun _ _ h => (wo_some.mp h).2) prZ
  have hZc : ∀ {Hc : Hp} {m : Nat}, Kept a H Hc → Spr Hc a m → ∀ z, Z z → Hc z ≠ none := fun k s z hz => by
    by_cases e : z = a
    · rw [e]; exact s.kept
    · cases q : H z with
      | none => exact absurd q (hZ z hz)
      | some o => rw [k _ _ e q]; exact Option.some_ne_none _
  have nd := scHd.nd
  have hr2 : Room 1 _ := hr.mono (by decide)
  refine ⟨_, (pss_cons (by exact (ps_setLc (i := 3) (own := [("road", 2)]) (g := gName 2) (tt := tYes) (te := tIf (tTest (tOp rEq (tCall spDraw [] E0 (tCons (tVar 0) (tCons (tC (.int 2)) tNil))) (tC (.int 0)))) (tVar 2) (tBack K (tVar 2))) rfl nd rfl rfl (sw_true rfl rfl rfl (by decide +kernel)) (by exact pi_list (pv 1)) (by exact blkOk_by (N := ["draws", "roads", "road", "some"]) (sc := defScope sHd) (by decide +kernel)) (fun _ _ _ _ _ => by exact (pg_name (i := 2) nd rfl (.inl rfl))) (fun _ _ _ _ _ => by exact pts_nil) (fun _ _ _ _ _ => by exact (pe_ifExp (pt_cmpR op_eq (pe_call G hr2 rfl m k b .nil pass0 (pa_cons (pv 0) (pa_cons pe_int pa_nil))) pe_int (nomark _)) (pv 2) (pe_back (pv 2))))))
  (pss_one (by exact (ps_ret (pe_call GL hr rfl mL kL bL .nil pass0 (pa_cons (pv 0) (pa_cons (pv 3) pa_nil))))))), ?_⟩
  with_reducible refine sQ ?_
  refine ⟨_, rfl, p, rfl, ⟨_, SqL.of hp⟩, fun D hD => ?_⟩
  have Da := hs.ne hD
  have lq : qs.length = es.length := pr.length
  have lm : (qs.map V.ref).length = es.length := by rw [List.length_map, lq]
  refine lc_it (Qd := _) walk_list (fun i Hc => Kept a H Hc ∧ Spr Hc a (n + i) ∧ ∃ (qs' : List Addr) (es' : List (Str × Str)), Hc D = some (.lst (qs'.map V.ref)) ∧ qs'.length = i ∧ Paired (TupP (wo (fun z => Z z ∨ z = D) Hc)) qs' es' ∧ Turned es' (es.take i))
    ⟨Kept.new hD, hs.upd Da, [], [], upd_same, rfl, .nil, .nil⟩ (fun i Hc _ h => SqL.of (h.1 _ _ pa hp)) ?_ ?_
  · rintro i v Hc H' hi ⟨c1, c2, qs', es', c3, c4, c5, c6⟩ ⟨rfl, hv⟩
    rw [lm] at hi
    have hq : (qs.map V.ref)[i]? = some (.ref (qs[i]'(by omega))) := by rw [List.getElem?_map, List.getElem?_eq_getElem (by omega)]; rfl
    obtain ⟨t, et, ht⟩ := paired_ref pr hi hq
    have ev : v = .ref t := by rw [hq, et] at hv; exact (Option.some.inj hv).symm
    subst ev
    have tZ : ¬ Z t := by
      obtain ⟨t', et', ht'⟩ := paired_ref prZ hi hq
      have : t' = t := by rw [et] at et'; exact (V.ref.inj et').symm
      rw [← this]
      exact (wo_some.mp ht').1
    refine ⟨rfl, ?_⟩
    unfold tYes
    refine iteT ?_
    have ta : t ≠ a := fun z => by
      obtain ⟨x, y, z0, e0, _⟩ := hs
      rw [z, e0] at ht
      cases ht
    have ht1 : H' t = some (.tup [.str es[i].1, .str es[i].2]) := c1 _ _ ta ht
    refine ⟨_, rfl, a, 2, n + i, rfl, c2, by omega, (by decide), (by decide), fun d H3 d0 d1 k3 s3 => ?_⟩
    have kk : Kept a H' H3 := k3
    have ht3 : H3 t = some (.tup [.str es[i].1, .str es[i].2]) := k3 _ _ ta ht1
    have fin : ∀ (Hz : Hp), Same H3 Hz → ∀ (t2 : Addr) (e2 : Str × Str), ¬ Z t2 → (e2 = es[i] ∨ e2 = (es[i].2, es[i].1)) → Hz t2 = some (.tup [.str e2.1, .str e2.2]) →
        ∃ acc, Hz D = some (.lst acc) ∧ acc.length < sizeLine ∧ (Kept a H (L2.upd Hz D (.lst (acc ++ [V.ref t2]))) ∧ Spr (L2.upd Hz D (.lst (acc ++ [V.ref t2]))) a (n + (i + 1)) ∧ ∃ (qs' : List Addr) (es' : List (Str × Str)), L2.upd Hz D (.lst (acc ++ [V.ref t2])) D = some (.lst (qs'.map V.ref)) ∧ qs'.length = i + 1 ∧ Paired (TupP (wo (fun z => Z z ∨ z = D) (L2.upd Hz D (.lst (acc ++ [V.ref t2]))))) qs' es' ∧ Turned es' (es.take (i + 1))) := by
      intro Hz ez t2 e2 t2a he2 g3
      have D3 := ez _ _ (kk _ _ Da c3)
      have sz := s3.same ez
      have t2D : t2 ≠ D := fun z => by rw [z, D3] at g3; cases g3
      have sm : Same (wo (fun z => Z z ∨ z = D) H') (wo (fun z => Z z ∨ z = D) (L2.upd Hz D (.lst (qs'.map V.ref ++ [V.ref t2])))) := wo_same fun c o nb eb => by
        rw [upd_ne fun z => nb (.inr z)]
        exact ez _ _ (kk _ _ (fun z => nb (.inl (z ▸ za))) eb)
      refine ⟨_, D3, by rw [List.length_map, c4]; exact small1000 (by omega), fun c o nb eb => ?_, (sz.upd Da).mono (by omega), qs' ++ [t2], es' ++ [e2], by rw [upd_same, List.map_append]; rfl, by rw [List.length_append, c4]; rfl, ?_, ?_⟩
      · rw [upd_ne (ne_of_none eb hD)]
        exact ez _ _ (kk _ _ nb (c1 _ _ nb eb))
      · refine K1.paired_snoc (TupP.ext c5 sm) ?_
        exact wo_some.mpr ⟨fun z => z.elim t2a t2D, by rw [upd_ne t2D]; exact g3⟩
      · rw [take_snoc hi]
        exact K1.paired_snoc c6 he2
    refine ⟨rfl, _, rfl, ?_⟩
    refine ite2 (fun _ => ?_) (fun _ => ?_)
    · exact ⟨_, rfl, fin H3 (Same.refl _) t es[i] tZ (.inl rfl) ht3⟩
    · refine ⟨_, rfl, t, _, _, rfl, SqT.of ht3, fun u hu => ?_⟩
      exact fin _ (K1.Same.upd hu) u (es[i].2, es[i].1) (fun z => hZc (c1.trans kk) s3 u z hu) (.inr rfl) upd_same
  · rintro Hc ⟨c1, c2, qs', es', c3, c4, c5, c6⟩
    rw [lm] at c2
    rw [lm, List.take_length] at c6
    have les : es'.length = es.length := c6.length
    refine K1.gN ?_
    refine ⟨_, rfl, _, rfl, a, .ref D, es'.map prV, n + es.length, Z, rfl, c2, by omega, za, hZc c1 c2, ⟨qs'.map V.ref, ⟨D, rfl, .inl (wo_some.mpr ⟨fun z => hZ D z hD, c3⟩)⟩, by rw [List.length_map]; omega, ?_⟩, fun y H6 k6 s6 r6 => q y H6 (c1.trans k6) (s6.mono (by omega)) ⟨es', c6, r6⟩⟩
    exact two_maps (paired_imp (fun t e ht => ⟨prV e, ⟨t, rfl, .inr (wo_some.mpr ⟨fun z => (wo_some.mp ht).1 (.inl z), (wo_some.mp ht).2⟩)⟩, (by show 2 ≤ 60; decide), .cons (flat_str _) (.cons (flat_str _) .nil)⟩) c5)
end
end K1
end
-- EEv
section
set_option Elab.async false
set_option linter.all false
set_option maxRecDepth 100000
set_option maxHeartbeats 1000000
namespace K1
open PySem PySem.Spec PyProof.Rows L2 W0
/-- what may be shown: texts in lists and tuples -/
structure ShowD (n k : Nat) (d : PyData) : Prop where
  lay : d.canLay0 = true
  dep : d.depth ≤ n
  wt : d.weight ≤ k
  sh : d.showable = true
  sm : d.intsShort 8 = true
theorem show_str {s : Str} (h : nameOk s = true) : ShowD 0 8 (.str s) := by
  refine ⟨strOk_of h, Nat.le_refl _, ?_, rfl, by show PyData.intsShort 8 (.str s) = true; simp [PyData.intsShort]⟩
  unfold nameOk at h
  exact of_decide_eq_true (Bool.and_eq_true_iff.mp (Bool.and_eq_true_iff.mp h).2).1
theorem show_all {n k : Nat} : ∀ {ds : List PyData}, (∀ d ∈ ds, ShowD n k d) → PyData.canLayAll0 ds = true ∧ PyData.depthAll ds ≤ n ∧ PyData.weightAll ds ≤ (k + 1) * ds.length ∧ PyData.showableAll ds = true ∧ PyData.intsShortAll 8 ds = true
  | [], _ => ⟨rfl, Nat.zero_le _, Nat.zero_le _, rfl, by simp [PyData.intsShortAll]⟩
  | d :: ds, h => by
    obtain ⟨a1, a2, a3, a4, a5⟩ := h d (List.mem_cons_self ..)
    obtain ⟨b1, b2, b3, b4, b5⟩ := show_all fun x hx => h x (List.mem_cons_of_mem _ hx)
    refine ⟨?_, ?_, ?_, ?_, ?_⟩
    · show (d.canLay0 && PyData.canLayAll0 ds) = true
      rw [a1, b1]; rfl
    · show max d.depth (PyData.depthAll ds) ≤ n
      exact Nat.max_le.mpr ⟨a2, b2⟩
    · show d.weight + 1 + PyData.weightAll ds ≤ (k + 1) * (ds.length + 1)
      rw [Nat.mul_add]
      omega
    · show (d.showable && PyData.showableAll ds) = true
      rw [a4, b4]; rfl
    · simp only [PyData.intsShortAll, a5, b5, Bool.and_self]
theorem show_list {n k m : Nat} {ds : List PyData} (h : ∀ d ∈ ds, ShowD n k d) (l : ds.length ≤ m) : ShowD (n + 1) ((k + 1) * m) (.list ds) ∧ ShowD (n + 1) ((k + 1) * m) (.tuple ds) := by
  obtain ⟨b1, b2, b3, b4, b5⟩ := show_all h
  have wt : PyData.weightAll ds ≤ (k + 1) * m := Nat.le_trans b3 (Nat.mul_le_mul_left _ l)
  exact ⟨⟨b1, Nat.succ_le_succ b2, wt, b4, by simp only [PyData.intsShort, b5]⟩, ⟨b1, Nat.succ_le_succ b2, wt, b4, by simp only [PyData.intsShort, b5]⟩⟩
/-- lists and tuples of what may be shown -/
theorem seq_show {K : PySem.W.Frag} {H : Hp} {v : V} {vs : List V} {n k m : Nat} (sv : SeqV H v vs) (h : ∃ ds, (∀ d ∈ ds, ShowD n k d) ∧ ds.length ≤ m ∧ ∀ H', Same H H' → DpAll K H' vs ds) : ∃ d, ShowD (n + 1) ((k + 1) * m) d ∧ ∀ H', Same H H' → Dp K H' v d := by
  obtain ⟨p, rfl, hp⟩ := sv
  obtain ⟨ds, g, l, dp⟩ := h
  obtain ⟨s1, s2⟩ := show_list g l
  rcases hp with hp | hp
  · exact ⟨.list ds, s1, fun H' e => .lst (SqL.of (e _ _ hp)) (dp H' e)⟩
  · exact ⟨.tuple ds, s2, fun H' e => .tup (SqT.of (e _ _ hp)) (dp H' e)⟩
theorem pairs_show {K : PySem.W.Frag} {H : Hp} : ∀ {vs : List V} {es : List (Str × Str)}, Paired (SeqR (Flat0 K) H) vs (es.map prV) → (∀ e ∈ es, nameOk e.1 = true ∧ nameOk e.2 = true) → ∃ ds, (∀ d ∈ ds, ShowD 1 18 d) ∧ ds.length ≤ es.length ∧ ∀ H', Same H H' → DpAll K H' vs ds
  | _, [], .nil, _ => ⟨[], fun d hd => absurd hd (by simp), Nat.le_refl _, fun _ _ => .nil⟩
  | _, e :: es, .cons a r, h => by
    obtain ⟨ds, g, l, dp⟩ := pairs_show r fun x hx => h x (List.mem_cons_of_mem _ hx)
    obtain ⟨vs, sv, _, pr⟩ := a
    have ev := flat_eq pr
    subst ev
    obtain ⟨h1, h2⟩ := h e (List.mem_cons_self ..)
    obtain ⟨d, sd, dd⟩ := seq_show (K := K) (n := 0) (k := 8) (m := 2) sv ⟨[.str e.1, .str e.2], fun d hd => by
      simp only [List.mem_cons, List.not_mem_nil, or_false] at hd
      rcases hd with rfl | rfl
      · exact show_str h1
      · exact show_str h2, Nat.le_refl _, fun H' _ => .cons (.str _) (.cons (.str _) .nil)⟩
    refine ⟨d :: ds, fun x hx => ?_, Nat.succ_le_succ l, fun H' e' => .cons (dd H' e') (dp H' e')⟩
    rcases List.mem_cons.mp hx with rfl | hx
    · exact sd
    · exact g x hx
theorem turned_names {es' es : List (Str × Str)} (t : Turned es' es) (h : ∀ e ∈ es, nameOk e.1 = true ∧ nameOk e.2 = true) : ∀ e ∈ es', nameOk e.1 = true ∧ nameOk e.2 = true := by
  induction t with
  | nil => intro e he; cases he
  | cons a _ ih =>
    intro e he
    rcases List.mem_cons.mp he with rfl | he
    · have q := h _ (List.mem_cons_self ..)
      rcases a with rfl | rfl
      · exact q
      · exact q.symm
    · exact ih (fun x hx => h x (List.mem_cons_of_mem _ hx)) e he
/-- roads that were handed: what repr tells of them -/
theorem hand_show {K : PySem.W.Frag} {H : Hp} {Z : Addr → Prop} {y : V} {es : List (Str × Str)} (h : HandV K H Z y es) (g : ∀ e ∈ es, nameOk e.1 = true ∧ nameOk e.2 = true) (l : es.length ≤ 59) :
    ∃ (b : Addr) (d : PyData), y = .ref b ∧ d.showable = true ∧ d.hasDict = false ∧ d.depth ≤ 60 ∧ d.shown.length ≤ sizeLine ∧ ∀ H', Same (wo Z H) H' → Dp K H' y d := by
  obtain ⟨es', t, vs, sv, _, pr⟩ := h
  have les : es'.length = es.length := t.length
  obtain ⟨ds, g2, l2, dp⟩ := pairs_show pr (turned_names t g)
  obtain ⟨d, sd, dd⟩ := seq_show (m := 59) sv ⟨ds, g2, by omega, dp⟩
  obtain ⟨b, rfl, _⟩ := sv
  refine ⟨b, d, rfl, sd.sh, PyData.hasDict_of_canLay d sd.lay, Nat.le_trans sd.dep (by decide), ?_, dd⟩
  refine PyData.shown_fits_of_layable0 (B := 8) (by decide) (by decide) ?_ sd.sm
  show (d.canLay0 && decide (d.depth ≤ 64) && decide (d.weight ≤ 2 ^ 20)) = true
  have h1 := sd.dep
  have h2 := sd.wt
  rw [sd.lay, decide_eq_true (by omega), decide_eq_true (by omega)]
  rfl
/-- the place of a road is where it stands -/
theorem plOf_of {rs : List (Str × Str)} (f : Forest rs) {j : Nat} (hj : j < rs.length) : plOf rs rs[j].1 rs[j].2 = some j := by
  have fr := f.fresh hj
  unfold plOf at fr ⊢
  rw [List.findIdx?_eq_some_iff_getElem]
  refine ⟨hj, decide_eq_true (.inl rfl), fun i hi => ?_⟩
  rw [List.findIdx?_eq_none_iff] at fr
  have := fr rs[i] (List.mem_take_iff_getElem.mpr ⟨i, by omega, rfl⟩)
  rw [this]
  exact Bool.false_ne_true
/-- an evening as the law has it: roads, and their places -/
def AtPl (rs : List (Str × Str)) (js : List Nat) (es : List (Str × Str)) : Prop := Paired (fun j e => rs[j]? = some e) js es
theorem hand_roads {K : PySem.W.Frag} {H : Hp} {rs : List (Str × Str)} (f : Forest rs) : ∀ {vs : List V} {es' es : List (Str × Str)} {js : List Nat}, Paired (SeqR (Flat0 K) H) vs (es'.map prV) → Turned es' es → AtPl rs js es → Paired (RoadV H rs) vs js
  | _, [], _, [], .nil, .nil, _ => .nil
  | _, [], _, _ :: _, .nil, .nil, h => by cases h
  | _, e' :: es', e :: es, j :: js, .cons a r, .cons t ts, .cons h hs => by
    refine .cons ?_ (hand_roads f r ts hs)
    obtain ⟨vs, sv, _, pr⟩ := a
    have ev := flat_eq pr
    subst ev
    obtain ⟨hj, rfl⟩ := List.getElem?_eq_some_iff.mp h
    have pl := plOf_of f hj
    rcases t with rfl | rfl
    · exact ⟨_, _, sv, pl⟩
    · exact ⟨_, _, sv, by rw [plOf_swap]; exact pl⟩
theorem hand_bg {K : PySem.W.Frag} {H H' : Hp} {Z : Addr → Prop} {y : V} {rs es : List (Str × Str)} {js : List Nat} (f : Forest rs) (h : HandV K H Z y es) (at_ : AtPl rs js es) (nd : js.Nodup) (l : es.length ≤ 59) (e : Same (wo Z H) H') : BegV H' rs y js := by
  obtain ⟨es', t, vs, sv, _, pr⟩ := h
  have lv : vs.length = (es'.map prV).length := pr.length
  have lt : es'.length = es.length := t.length
  exact ⟨vs, sv.ext e, by rw [lv, List.length_map]; omega, hand_roads f (paired_imp (fun x y q => mon_seq mon_flat0 _ _ _ _ e q) pr) t at_, nd⟩
end K1
end
-- EOd
section
set_option Elab.async false
set_option linter.all false
set_option maxRecDepth 100000
set_option maxHeartbeats 2000000
namespace K1
open PySem PySem.Spec PyProof.Rows L2 W0
/-! displays, over a heap that is known: what they make is new, all else stays -/
abbrev PV := Hp → V → Prop
structure Mr (H0 : Hp) (t : TE) (σ : L2.St) (P : PV) : Prop where
  mono : ∀ H H' v, Same H H' → P H v → P H' v
  run : ∀ H, Same H0 H → ∀ Q : VK, (∀ v H', Same H H' → P H' v → Q v H') → t σ H Q
structure MrA (H0 : Hp) (t : TA) (σ : L2.St) (Ps : List PV) : Prop where
  mono : ∀ P ∈ Ps, ∀ H H' v, Same H H' → P H v → P H' v
  run : ∀ H, Same H0 H → ∀ Q : List V → Hp → Prop, (∀ vs H', Same H H' → Paired (fun v P => P H' v) vs Ps → Q vs H') → t σ H Q
abbrev eqP (x : V) : PV := fun _ v => v = x
def tupP (Ps : List PV) : PV := fun H v => ∃ p xs, v = .ref p ∧ H p = some (.tup xs) ∧ Paired (fun v P => P H v) xs Ps
def lstP (Ps : List PV) : PV := fun H v => ∃ p xs, v = .ref p ∧ H p = some (.lst xs) ∧ Paired (fun v P => P H v) xs Ps
def dicP : PV := fun H v => ∃ p, v = .ref p ∧ H p = some (.dK [])
section
variable {H0 : Hp} {σ : L2.St} {t : TE} {ta : TA} {P : PV} {Ps : List PV}
theorem mr_c (x : V) : Mr H0 (tC x) σ (eqP x) := ⟨fun _ _ _ _ h => h, fun H _ Q q => q x H (Same.refl _) rfl⟩
theorem mr_v {i : Nat} {x : V} (h : σ[i]? = some (some x) := by rfl) : Mr H0 (tVar i) σ (eqP x) := ⟨fun _ _ _ _ h => h, fun H _ Q q => ⟨x, h, q x H (Same.refl _) rfl⟩⟩
theorem mr_ix {K : PySem.W.Frag} {i : Nat} {p : Addr} {xs : List V} {x : V} (h : σ[i]? = some (some (.ref p))) (hp : H0 p = some (.lst xs)) (hx : atI xs 0 = some x) : Mr H0 (tOp (rIxL K) (tVar i) (tC (.int 0))) σ (eqP x) :=
  ⟨fun _ _ _ _ h => h, fun H e Q q => ⟨_, h, p, xs, 0, x, rfl, rfl, SqL.of (e _ _ hp), hx, q x H (Same.refl _) rfl⟩⟩
theorem mr_nil : MrA H0 tNil σ [] := ⟨fun P h => absurd h (by simp), fun H _ Q q => q [] H (Same.refl _) .nil⟩
theorem mr_cons (h1 : Mr H0 t σ P) (h2 : MrA H0 ta σ Ps) : MrA H0 (tCons t ta) σ (P :: Ps) := by
  refine ⟨fun P' h => ?_, fun H e Q q => h1.run H e _ fun v H1 e1 p1 => h2.run H1 (e.trans e1) _ fun vs H2 e2 p2 => q _ H2 (e1.trans e2) (.cons (h1.mono _ _ _ e2 p1) p2)⟩
  rcases List.mem_cons.mp h with rfl | h
  · exact h1.mono
  · exact h2.mono P' h
theorem paired_mono {H H' : Hp} (e : Same H H') : ∀ {xs : List V} {Ps : List PV}, (∀ P ∈ Ps, ∀ H H' v, Same H H' → P H v → P H' v) → Paired (fun v P => P H v) xs Ps → Paired (fun v P => P H' v) xs Ps
  | _, _, _, .nil => .nil
  | _, _, m, .cons f r => .cons (m _ (List.mem_cons_self ..) _ _ _ e f) (paired_mono e (fun P h => m P (List.mem_cons_of_mem _ h)) r)
theorem mr_tup (h : MrA H0 ta σ Ps) (l : Ps.length ≤ 1000 := by exact Nat.le_of_ble_eq_true rfl) : Mr H0 (tTup ta) σ (tupP Ps) := by
  refine ⟨fun H H' v e ⟨p, xs, a, b, c⟩ => ⟨p, xs, a, e _ _ b, paired_mono e h.mono c⟩, fun H e0 Q q => h.run H e0 _ fun vs H1 e1 p1 => ⟨?_, fun p hp => ?_⟩⟩
  · rw [p1.length]
    exact Nat.le_trans l (by decide)
  · have e := K1.Same.upd (H := H1) (p := p) (o := .tup vs) hp
    exact q _ _ (e1.trans e) ⟨p, vs, rfl, upd_same, paired_mono e h.mono p1⟩
theorem mr_lst (h : MrA H0 ta σ Ps) (l : Ps.length ≤ 1000 := by exact Nat.le_of_ble_eq_true rfl) : Mr H0 (tLst ta) σ (lstP Ps) := by
  refine ⟨fun H H' v e ⟨p, xs, a, b, c⟩ => ⟨p, xs, a, e _ _ b, paired_mono e h.mono c⟩, fun H e0 Q q => h.run H e0 _ fun vs H1 e1 p1 => ⟨?_, fun p hp => ?_⟩⟩
  · rw [p1.length]
    exact Nat.le_trans l (by decide)
  · have e := K1.Same.upd (H := H1) (p := p) (o := .lst vs) hp
    exact q _ _ (e1.trans e) ⟨p, vs, rfl, upd_same, paired_mono e h.mono p1⟩
theorem mr_dict : Mr H0 tDNewK σ dicP := ⟨fun H H' v e ⟨p, a, b⟩ => ⟨p, a, e _ _ b⟩, fun H _ Q q => fun p hp => q _ _ (K1.Same.upd hp) ⟨p, rfl, upd_same⟩⟩
end
/-! the heap without tables -/
noncomputable def nt (H : Hp) : Hp := fun b => match H b with | some (.tbl _) => none | o => o
theorem nt_some {H : Hp} {b : Addr} {o : HO} : nt H b = some o ↔ H b = some o ∧ ∀ ps, o ≠ .tbl ps := by
  unfold nt
  constructor
  · intro h
    split at h
    · cases h
    · rename_i x y
      refine ⟨h, fun ps z => y ps ?_⟩
      rw [h, z]
  · intro ⟨h, n⟩
    rw [h]
    split
    · rename_i x ps e
      exact absurd (Option.some.inj e) (n ps)
    · rfl
theorem nt_same {H H' : Hp} (e : LamX.ExtN H H') : Same (nt H) (nt H') := fun b o h => by
  obtain ⟨h1, h2⟩ := nt_some.mp h
  exact nt_some.mpr ⟨e b o h1 h2, h2⟩
theorem nt_out {H : Hp} : Same (nt H) H := fun b o h => (nt_some.mp h).1
theorem nt_to {H H' : Hp} (e : LamX.ExtN H H') : Same (nt H) H' := (nt_same e).trans nt_out
theorem nt_mono {H H' : Hp} (e : Same H H') : Same (nt H) (nt H') := nt_same (LamX.ExtN.of e)
theorem nt_l {H : Hp} {p : Addr} {xs : List V} (h : H p = some (.lst xs)) : nt H p = some (.lst xs) := nt_some.mpr ⟨h, fun _ z => by cases z⟩
theorem nt_t {H : Hp} {p : Addr} {xs : List V} (h : H p = some (.tup xs)) : nt H p = some (.tup xs) := nt_some.mpr ⟨h, fun _ z => by cases z⟩
theorem nt_d {H : Hp} {p : Addr} {xs : List (Key × V)} (h : H p = some (.dK xs)) : nt H p = some (.dK xs) := nt_some.mpr ⟨h, fun _ z => by cases z⟩
/-- no begun evening, and the same as itself -/
def OddE (K : PySem.W.Frag) (ss : List Str) (rs : List (Str × Str)) (G : Hp) (y : V) : Prop := NoBeg K G ss rs y ∧ RF 5 G y y
theorem RF.mon : ∀ n, MonE (RF n)
  | 0 => fun _ _ _ _ _ h => h
  | n + 1 => NextF.mon (RF.mon n)
theorem NoBeg.ext {K : PySem.W.Frag} {H H' : Hp} {ss : List Str} {rs : List (Str × Str)} {v : V} (h : NoBeg K H ss rs v) (e : Same H H') : NoBeg K H' ss rs v := by
  rcases h with h | ⟨xs, bs, a, b, c, d⟩ | ⟨xs, js, a, b, c, d⟩
  · exact .inl (h.ext e)
  · exact .inr (.inl ⟨xs, bs, a.ext e, b, paired_imp (fun _ _ z => z.ext e) c, d⟩)
  · exact .inr (.inr ⟨xs, js, a.ext e, b, paired_imp (fun _ _ z => z.ext e) c, d⟩)
theorem BegV.ext {H H' : Hp} {rs : List (Str × Str)} {v : V} {js : List Nat} (h : BegV H rs v js) (e : Same H H') : BegV H' rs v js := by
  obtain ⟨xs, a, b, c, d⟩ := h
  exact ⟨xs, a.ext e, b, paired_imp (fun _ _ z => z.ext e) c, d⟩
theorem NoEv.ext {K : PySem.W.Frag} {H H' : Hp} {ss : List Str} {rs : List (Str × Str)} {v : V} (h : NoEv K H ss rs v) (e : Same H H') : NoEv K H' ss rs v := by
  rcases h with h | ⟨js, a, b⟩
  · exact .inl (h.ext e)
  · exact .inr ⟨js, a.ext e, b⟩
theorem OddE.ext {K : PySem.W.Frag} {ss : List Str} {rs : List (Str × Str)} {G G' : Hp} {y : V} (h : OddE K ss rs G y) (e : Same G G') : OddE K ss rs G' y := ⟨h.1.ext e, RF.mon 5 _ _ _ _ e h.2⟩
/-! what is the same as itself -/
theorem self_lst {n : Nat} {G : Hp} {p : Addr} {xs : List V} (h : G p = some (.lst xs)) (l : xs.length ≤ 10000) (r : ∀ x ∈ xs, RF n G x x) : RF (n + 1) G (.ref p) (.ref p) := r_lists h h l (paired_same r)
theorem self_tup {n : Nat} {G : Hp} {p : Addr} {xs : List V} (h : G p = some (.tup xs)) (l : xs.length ≤ 10000) (r : ∀ x ∈ xs, RF n G x x) : RF (n + 1) G (.ref p) (.ref p) := r_tups h h l (paired_same r)
theorem RF.up {n : Nat} {G : Hp} {x y : V} (h : RF n G x y) : RF (n + 1) G x y := by
  induction n generalizing G x y with
  | zero => exact h.elim
  | succ n ih =>
    rcases h with h | ⟨p, q, xs, ys, a, b, c, d, e⟩ | ⟨p, q, kvs, kvs', a, b, c, d, f⟩ | ⟨p, q, kvs, a, b, c, d, f⟩
    · exact .inl h
    · exact .inr (.inl ⟨p, q, xs, ys, a, b, c, d, paired_imp (fun _ _ z => ih z) e⟩)
    · exact .inr (.inr (.inl ⟨p, q, kvs, kvs', a, b, c, d, fun H2 a2 b2 as bs e2 h1 h2 h3 h4 => ih (f H2 a2 b2 as bs e2 h1 h2 h3 h4)⟩))
    · exact .inr (.inr (.inr ⟨p, q, kvs, a, b, c, d, fun H2 a2 b2 as bs ps qs e2 h1 h2 h3 h4 h5 h6 => ih (f H2 a2 b2 as bs ps qs e2 h1 h2 h3 h4 h5 h6)⟩))
/-- a list or tuple of things of which one is no road -/
theorem no_list {K : PySem.W.Frag} {G : Hp} {ss : List Str} {rs : List (Str × Str)} {v : V} {xs ys : List V} {z : V} {js1 js2 : List Nat} (sv : SeqV G v (xs ++ z :: ys)) (l : (xs ++ z :: ys).length ≤ 1000) (h1 : Paired (RoadV G rs) xs js1) (h2 : Paired (RoadV G rs) ys js2) (hz : NoRd K G ss rs z) : NoBeg K G ss rs v := by
  have ap : ∀ {as cs : List V} {bs ds : List Bool}, Paired (Jud K G ss rs) as bs → Paired (Jud K G ss rs) cs ds → Paired (Jud K G ss rs) (as ++ cs) (bs ++ ds) := by
    intro as cs bs ds h
    induction h with
    | nil => exact id
    | cons a _ ih => exact fun q => .cons a (ih q)
  refine .inr (.inl ⟨_, _, sv, l, ap (paired_true h1) (.cons (.inr ⟨rfl, hz⟩) (paired_true h2)), ?_⟩)
  rw [List.all_append, List.all_cons]
  simp
/-- one twice -/
theorem no_perm {K : PySem.W.Frag} {G : Hp} {ss : List Str} {rs : List (Str × Str)} {v : V} {xs : List V} {js : List Nat} (sv : SeqV G v xs) (l : xs.length ≤ 1000) (h : Paired (RoadV G rs) xs js) (bad : ¬ js.Nodup) : NoBeg K G ss rs v := .inr (.inr ⟨xs, js, sv, l, h, bad⟩)
def dctP (kvs : List (Key × V)) : PV := fun H v => ∃ p, v = .ref p ∧ H p = some (.dK (mergeK [] kvs))
theorem mr_dctP {K : PySem.W.Frag} {H0 : Hp} {σ : L2.St} {i : Nat} {R : Addr} {cq : List Addr} {kvs : List (Key × V)} (h : σ[i]? = some (some (.ref R))) (hR : H0 R = some (.lst (cq.map V.ref))) (pr : Paired (fun (p : Addr) (kv : Key × V) => H0 p = some (.tup [kV kv.1, kv.2])) cq kvs) :
    Mr H0 (tCB (fun xs H Q => ∃ (a : Addr) (ps : List Addr) (kvs : List (Key × V)), xs = [.ref a] ∧ SqL K H a (ps.map V.ref) ∧ Paired (fun p kv => SqT K H p [kV kv.1, kv.2]) ps kvs ∧ ∀ p, H p = none → Q (.ref p) (upd H p (.dK (mergeK [] kvs)))) (tCons (tVar i) tNil)) σ (dctP kvs) :=
  ⟨fun H H' v e ⟨p, a, b⟩ => ⟨p, a, e _ _ b⟩, fun H e Q q => ⟨_, h, R, cq, kvs, rfl, SqL.of (e _ _ hR), paired_imp (fun p kv z => SqT.of (e _ _ z)) pr, fun p hp => q _ _ (K1.Same.upd hp) ⟨p, rfl, upd_same⟩⟩⟩
def kvOf (es : List (Str × Str)) : List (Key × V) := es.map fun e => ((Sum.inr e.1 : Key), V.str e.2)
theorem noSeq_ty {K : PySem.W.Frag} {G : Hp} {v : V} {t : String} (h : TyX K G v (.type t)) (k : t ∈ kinds) (s : isSeqT t = false) : NoSeq K G v := ⟨t, h, k, s⟩
theorem putK_flat {R : RelE} {kvs : List (Key × V)} {k : Key} {v : V} (h : ∀ e ∈ kvs, (∃ s : Str, e.1 = .inr s) ∧ ∃ s : Str, e.2 = .str s) (hk : ∃ s : Str, k = .inr s) (hv : ∃ s : Str, v = .str s) : ∀ e ∈ putK kvs k v, (∃ s : Str, e.1 = .inr s) ∧ ∃ s : Str, e.2 = .str s := by
  intro e he
  unfold putK at he
  split at he
  · obtain ⟨x, hx, rfl⟩ := List.mem_map.mp he
    have := h x hx
    split
    · exact ⟨this.1, hv⟩
    · exact this
  · rcases List.mem_append.mp he with he | he
    · exact h e he
    · rw [List.mem_singleton.mp he]
      exact ⟨hk, hv⟩
theorem kvOf_flat : ∀ {es : List (Str × Str)} {acc : List (Key × V)}, (∀ e ∈ acc, (∃ s : Str, e.1 = .inr s) ∧ ∃ s : Str, e.2 = .str s) → ∀ e ∈ mergeK acc (kvOf es), (∃ s : Str, e.1 = .inr s) ∧ ∃ s : Str, e.2 = .str s
  | [], acc, h => h
  | x :: es, acc, h => kvOf_flat (es := es) (acc := putK acc (.inr x.1) (.str x.2)) (putK_flat (R := fun _ _ _ => True) h ⟨_, rfl⟩ ⟨_, rfl⟩)
theorem roads_go {G : Hp} {rs : List (Str × Str)} (f : Forest rs) {cq : List Addr} {es : List (Str × Str)} {js : List Nat} (h1 : Paired (TupP G) cq es) : AtPl rs js es → Paired (RoadV G rs) (cq.map V.ref) js := by
  induction h1 generalizing js with
  | nil => intro h2; cases h2; exact .nil
  | cons a _ ih =>
    intro h2
    cases h2 with
    | cons b r =>
      obtain ⟨hj, rfl⟩ := List.getElem?_eq_some_iff.mp b
      exact .cons ⟨_, _, ⟨_, rfl, .inr a⟩, plOf_of f hj⟩ (ih r)
theorem paired_take {α β : Type} {R : α → β → Prop} : ∀ (m : Nat) {xs : List α} {ys : List β}, Paired R xs ys → Paired R (xs.take m) (ys.take m)
  | 0, _, _, _ => .nil
  | _ + 1, _, _, .nil => .nil
  | m + 1, _, _, .cons a r => .cons a (paired_take m r)
end K1
end
-- EFnd
section
set_option Elab.async false
set_option linter.all false
set_option maxRecDepth 100000
set_option maxHeartbeats 1000000
namespace K1
open PySem PySem.Spec PyProof.Rows L2 W0
theorem tabs_same {T : List (Addr × Str)} {H H' : Hp} (t : LamX.Tabs T H) (e : Same H H') : LamX.Tabs T H' := t.ext e
theorem tabs_kept {T : List (Addr × Str)} {H H' : Hp} {D : Addr} {xs : List V} (t : LamX.Tabs T H) (hD : H D = some (.lst xs)) (k : Kept D H H') : LamX.Tabs T H' := fun p hp => by
  obtain ⟨ps, h1, h2, h3⟩ := t p hp
  refine ⟨ps, k _ _ (fun z => by rw [z, hD] at h1; cases h1) h1, h2, fun pos cv hc => ?_⟩
  obtain ⟨c, e1, e2⟩ := h3 pos cv hc
  refine ⟨c, e1, k _ _ (fun z => ?_) e2⟩
  rw [z, hD] at e2
  have : HO.lst xs = LamX.CodeO D p.2 := Option.some.inj e2
  unfold LamX.CodeO at this
  cases this
/-- a refusal's word, its field, its class -/
def MetBy (CV CN CO CM : Addr) (tg fld : Str) (C : Addr) : Prop := (tg = "valley" ∧ fld = "thing" ∧ C = CV) ∨ (tg = "evening" ∧ fld = "evening" ∧ C = CN) ∨ (tg = "house" ∧ fld = "house" ∧ C = CO) ∨ (tg = "many" ∧ fld = "many" ∧ C = CM)
theorem met_by {TT : List (Addr × Str)} {CV CN CO CM CR : Addr} {tg fld : Str} {t : XK → TE} {σ : L2.St} {H : Hp} {Q : VK} {v : V} (mb : MetBy CV CN CO CM tg fld CR) (tb : LamX.Tabs TT H) (hg : ∀ H1, LamX.ExtN H H1 → ∀ (E : XK) (Q' : VK), GoesF CR [(fld, v)] H1 E → t E σ H1 Q')
    (hq : ∀ p H', LamX.ExtN H H' → LamX.Tabs TT H' → (∀ o, H p = some o → ∃ ps, o = .tbl ps) → H' p = some (.tup [.str tg, v]) → Q (.ref p) H') : LamX.tLam TT (TMt CV CN CO CM) t σ H Q := by
  refine ⟨tb, fun H1 eN T1 => hg H1 eN _ _ fun d H2 e nd hx => ?_⟩
  have fin : ∀ p, H2 p = none → Q (.ref p) (upd H2 p (.tup [.str tg, v])) := fun p hp => by
    refine hq p _ ?_ ?_ (fun o ho => ?_) upd_same
    · exact eN.trans (LamX.ExtN.of (e.trans (K1.Same.upd hp)))
    · exact T1.ext (e.trans (K1.Same.upd hp))
    · cases o with
      | tbl ps => exact ⟨ps, rfl⟩
      | _ =>
        have h2 := e _ _ (eN p _ ho fun ps z => by cases z)
        rw [hp] at h2
        cases h2
  rcases mb with ⟨rfl, rfl, rfl⟩ | ⟨rfl, rfl, rfl⟩ | ⟨rfl, rfl, rfl⟩ | ⟨rfl, rfl, rfl⟩
  · exact .inl ⟨rfl, d, v, rfl, hx, fin⟩
  · exact .inr (.inl ⟨rfl, d, v, rfl, hx, fin⟩)
  · exact .inr (.inr (.inl ⟨rfl, d, v, rfl, hx, fin⟩))
  · exact .inr (.inr (.inr ⟨rfl, d, v, rfl, hx, fin⟩))
/-- how one was refused: a pair, with what was refused -/
def TagP (tg : Str) (H : Hp) (z v : V) : Prop := ∃ p, z = .ref p ∧ H p = some (.tup [.str tg, v])
/-- a list of what was refused, in a heap that has grown since H0 -/
structure Fnd (tg : Str) (TT : List (Addr × Str)) (H0 H : Hp) (Fd : Addr) (zs vs : List V) : Prop where
  ext : LamX.ExtN H0 H
  tb : LamX.Tabs TT H
  lst : H Fd = some (.lst zs)
  new : ∀ o, H0 Fd = some o → ∃ ps, o = .tbl ps
  prs : Paired (TagP tg H) zs vs
theorem extN_upd2 {H0 H : Hp} {Fd : Addr} {o : HO} (e : LamX.ExtN H0 H) (n : ∀ o, H0 Fd = some o → ∃ ps, o = .tbl ps) : LamX.ExtN H0 (L2.upd H Fd o) := fun b u h nt => by
  have bF : b ≠ Fd := fun z => by
    obtain ⟨ps, e2⟩ := n u (by rw [← z]; exact h)
    exact nt ps e2
  rw [upd_ne bF]
  exact e b u h nt
theorem TagP.upd {H : Hp} {Fd : Addr} {xs zs : List V} {tg : Str} {z v : V} (g : H Fd = some (.lst xs)) (h : TagP tg H z v) : TagP tg (L2.upd H Fd (.lst zs)) z v := by
  obtain ⟨p, rfl, hp⟩ := h
  exact ⟨p, rfl, by rw [upd_ne (fun e => by rw [e, g] at hp; cases hp)]; exact hp⟩
theorem TagP.updD {H : Hp} {Fd : Addr} {xs zs : List (Key × V)} {tg : Str} {z v : V} (g : H Fd = some (.dK xs)) (h : TagP tg H z v) : TagP tg (L2.upd H Fd (.dK zs)) z v := by
  obtain ⟨p, rfl, hp⟩ := h
  exact ⟨p, rfl, by rw [upd_ne (fun e => by rw [e, g] at hp; cases hp)]; exact hp⟩
theorem tabs_keptD {T : List (Addr × Str)} {H H' : Hp} {D : Addr} {xs : List (Key × V)} (t : LamX.Tabs T H) (hD : H D = some (.dK xs)) (k : Kept D H H') : LamX.Tabs T H' := fun p hp => by
  obtain ⟨ps, h1, h2, h3⟩ := t p hp
  refine ⟨ps, k _ _ (fun z => by rw [z, hD] at h1; cases h1) h1, h2, fun pos cv hc => ?_⟩
  obtain ⟨c, e1, e2⟩ := h3 pos cv hc
  refine ⟨c, e1, k _ _ (fun z => ?_) e2⟩
  rw [z, hD] at e2
  have : HO.dK xs = LamX.CodeO D p.2 := Option.some.inj e2
  unfold LamX.CodeO at this
  cases this
theorem TagP.ext {H H' : Hp} {tg : Str} {z v : V} (h : TagP tg H z v) (e : LamX.ExtN H H') : TagP tg H' z v := by
  obtain ⟨p, rfl, hp⟩ := h
  exact ⟨p, rfl, e _ _ hp (fun _ z => by cases z)⟩
section
variable {TT : List (Addr × Str)} {CV CN CO CM CR : Addr} {tg fld : Str} {t : XK → TE} {σ : L2.St} {H0 H : Hp} {Q : VK} {v : V} {K : PySem.W.Frag}
theorem fnd_first (mb : MetBy CV CN CO CM tg fld CR) (tb : LamX.Tabs TT H) (hg : ∀ H1, LamX.ExtN H H1 → ∀ (E : XK) (Q' : VK), GoesF CR [(fld, v)] H1 E → t E σ H1 Q')
    (q : ∀ Fd z H', Fnd tg TT H H' Fd [z] [v] → Q (.ref Fd) H') : tLst (tCons (LamX.tLam TT (TMt CV CN CO CM) t) tNil) σ H Q := by
  refine met_by mb tb hg fun p H' e T fr gp => ⟨(by show 1 ≤ sizeLine; decide), fun Fd hFd => ?_⟩
  have s := K1.Same.upd (H := H') (p := Fd) (o := .lst [.ref p]) hFd
  refine q Fd (.ref p) _ ⟨e.trans (LamX.ExtN.of s), tabs_same T s, upd_same, fun o ho => ?_, .cons ⟨p, rfl, s _ _ gp⟩ .nil⟩
  cases o with
  | tbl ps => exact ⟨ps, rfl⟩
  | _ =>
    have h2 := e _ _ ho fun ps z => by cases z
    rw [hFd] at h2
    cases h2
theorem fnd_app {Fd : Addr} {zs vs : List V} {i : Nat} (mb : MetBy CV CN CO CM tg fld CR) (f : Fnd tg TT H0 H Fd zs vs) (l : vs.length ≤ 100) (hσ : σ[i]? = some (some (.ref Fd)))
    (hg : ∀ H1, LamX.ExtN H0 H1 → ∀ (E : XK) (Q' : VK), GoesF CR [(fld, v)] H1 E → t E σ H1 Q')
    (q : ∀ z H', Fnd tg TT H0 H' Fd (zs ++ [z]) (vs ++ [v]) → Q .non H') : tBM K "list" rAppend (tVar i) (tCons (LamX.tLam TT (TMt CV CN CO CM) t) tNil) σ H Q := by
  refine ⟨_, hσ, .inl ⟨rfl, _, SqL.of f.lst⟩, met_by mb f.tb (fun H1 e1 => hg H1 (f.ext.trans e1)) fun p H' e T fr gp => ?_⟩
  have gF := e _ _ f.lst (fun _ z => by cases z)
  have Fp : p ≠ Fd := fun z => by rw [z, gF] at gp; cases gp
  have ll := f.prs.length
  refine ⟨Fd, _, _, rfl, rfl, gF, small1000 (by omega), q (.ref p) _ ⟨extN_upd2 (f.ext.trans e) f.new, tabs_kept T gF Kept.upd, upd_same, f.new, ?_⟩⟩
  exact paired_snoc (paired_imp (fun _ _ h => (h.ext e).upd gF) f.prs) ⟨p, rfl, by rw [upd_ne Fp]; exact gp⟩
end
theorem ValS.nt {C : Addr} {H : Hp} {x l1 l2 l3 d1 d2 d3 : Addr} {qs : List Addr} {bs : Str → Addr} {ss : List Str} {rs : List (Str × Str)} {ns : List Int} (v : ValS C H x l1 l2 l3 d1 d2 d3 qs bs ss rs ns) : ValS C (nt H) x l1 l2 l3 d1 d2 d3 qs bs ss rs ns := by
  obtain ⟨dx, fs, a, r⟩ := v.ins
  obtain ⟨k2, a2, b2⟩ := v.p2
  obtain ⟨k3, a3, b3⟩ := v.p3
  exact ⟨⟨dx, fs, nt_some.mpr ⟨a, fun _ z => by cases z⟩, r⟩, nt_l v.h1, nt_l v.h2, paired_imp (fun _ _ h => nt_t h) v.pr, nt_l v.h3, nt_d v.p1, ⟨k2, nt_some.mpr ⟨a2, fun _ z => by cases z⟩, b2⟩, ⟨k3, nt_d a3, b3⟩, fun s hs => nt_l (v.nb s hs)⟩
theorem IsV.nt {C : Addr} {H : Hp} {x : Addr} {ss : List Str} {rs : List (Str × Str)} {ns : List Int} (v : IsV C H x ss rs ns) : IsV C (nt H) x ss rs ns := by
  obtain ⟨l, l1, l2, l3, d1, d2, d3, qs, bs, h⟩ := v
  exact ⟨l, l1, l2, l3, d1, d2, d3, qs, bs, h.nt⟩
end K1
end
-- MLg
section
set_option Elab.async false
set_option linter.all false
set_option maxRecDepth 100000
set_option maxHeartbeats 2000000
namespace K1
open PySem PySem.Spec PyProof.Rows L2 W0
abbrev sLg : Stmt := top 59
theorem scLg : FnScope ["thing"] ["thing"] (defScope sLg) := ⟨rfl, rfl, rfl, by decide +kernel, rfl, by decide +kernel, by decide +kernel⟩
/-- what longer makes of a thing -/
def spLg (K : PySem.W.Frag) : Sp := fun vs H Q _ => ∃ v, vs = [v] ∧ ((∃ t, TyX K H v (.type t) ∧ t ∈ kinds ∧ t ≠ "dict" ∧ t ≠ "list" ∧ Q v H) ∨ (∃ p, v = .ref p ∧ H p = some (.dK []) ∧ Q v (L2.upd H p (.dK [(.inr "late", .int 1)]))) ∨
  (∃ p xs, v = .ref p ∧ H p = some (.lst xs) ∧ xs.length ≤ 1000 ∧ Q v (L2.upd H p (.lst (xs ++ [.str "late"])))))
section
variable {P : Program} {w : World} {K : PySem.W.Frag} {mg : Str → Option Value} {base : Heap}
theorem ok_Lg {f : Addr} {fd : FuncData} (F : Fun K "_law_longer" "_law_longer" sLg f fd) (B : Bl mg) : FnOk P w K mg base CX0 1 f fd ["thing"] (spLg K) := by
  refine F.ok scLg (fun vs H Q E h => ?_) (fun cdv A outer s0 H vs Q E hr h => ?_)
  · obtain ⟨v, rfl, _⟩ := h
    rfl
  obtain ⟨v, rfl, h⟩ := h
  have hu := hu_of hr
  refine ⟨_, (pss_cons (by exact (ps_if (pt_val (pe_callB call_isi rfl B.isi PyProof.Rows.boot_isinstance (pa_cons (pv 0) (pa_cons (pe_bltn (v := .ty "dict") rfl B.dict PyProof.Rows.boot_dict rfl) pa_nil)))) (pss_one (by exact (ps_dput hu (pv 0) pe_str pe_int rfl))) pss_nil))
  (pss_cons (by exact (ps_if (pt_val (pe_callB call_isi rfl B.isi PyProof.Rows.boot_isinstance (pa_cons (pv 0) (pa_cons (pe_bltn (v := .ty "list") rfl B.list PyProof.Rows.boot_list rfl) pa_nil)))) (pss_one (by exact (ps_expr (pe_bm PySem.F.plainAttrs_list PySem.F.slot_list_append PySem.F.type_list_append mt_append (pv 0) (pa_cons pe_str pa_nil))))) pss_nil))
  (pss_one (by exact (ps_ret (pv 0)))))), ?_⟩
  rcases h with ⟨t, ty, tk, n1, n2, q⟩ | ⟨p, rfl, hp, q⟩ | ⟨p, xs, rfl, hp, lx, q⟩
  · refine ⟨_, rfl, v, _, _, _, _, rfl, .ty "dict", ty, kit_dict tk, _, rfl, ?_⟩
    rw [decide_eq_false n1]
    refine iteF ?_
    refine ⟨_, rfl, v, _, _, _, _, rfl, .ty "list", ty, kit_list tk, _, rfl, ?_⟩
    rw [decide_eq_false n2]
    exact iteF ⟨_, rfl, q⟩
  · refine ⟨_, rfl, .ref p, _, _, _, _, rfl, .ty "dict", .base (.dK hp), kit_dict (t := "dict") (by decide), _, rfl, ?_⟩
    rw [show decide (("dict" : String) = "dict") = true from rfl]
    refine iteT ⟨_, rfl, p, _, rfl, DPut.k (k := .inr "late") hp (by show 0 < sizeLine; decide), ?_⟩
    have g1 := upd_same' H p (.dK (putK [] (.inr "late") (.int 1)))
    dsimp only
    refine ⟨_, rfl, .ref p, _, _, _, _, rfl, .ty "list", .base (.dK g1), kit_list (t := "dict") (by decide), _, rfl, ?_⟩
    rw [show decide (("dict" : String) = "list") = false from rfl]
    exact iteF ⟨_, rfl, q⟩
  · refine ⟨_, rfl, .ref p, _, _, _, _, rfl, .ty "dict", .base (.lst hp), kit_dict (t := "list") (by decide), _, rfl, ?_⟩
    rw [show decide (("list" : String) = "dict") = false from rfl]
    refine iteF ?_
    refine ⟨_, rfl, .ref p, _, _, _, _, rfl, .ty "list", .base (.lst hp), kit_list (t := "list") (by decide), _, rfl, ?_⟩
    rw [show decide (("list" : String) = "list") = true from rfl]
    exact iteT ⟨_, rfl, .inl ⟨rfl, _, SqL.of hp⟩, p, xs, _, rfl, rfl, hp, small1000 lx, ⟨_, rfl, q⟩⟩
end
end K1
end
-- MSame
section
set_option Elab.async false
set_option linter.all false
set_option maxRecDepth 100000
set_option maxHeartbeats 1000000
namespace K1
open PySem PySem.Spec PyProof.Rows L2 W0
abbrev sSm : Stmt := top 46
theorem scSm : FnScope ["found", "due", "x", "y"] ["found", "due"] (defScope sSm) := ⟨rfl, rfl, rfl, by decide +kernel, rfl, by decide +kernel, by decide +kernel⟩
theorem kit_iltd {K : PySem.W.Frag} {t : String} (h : t ∈ kinds) (n1 : t ≠ "int") (n2 : t ≠ "bool") (n3 : t ≠ "list") (n4 : t ≠ "tuple") (n5 : t ≠ "dict") : PySem.W.kitAny K (.type t) [.type "int", .type "list", .type "tuple", .type "dict"] = some false := by
  have := kit_ltd (K := K) h n3 n4 n5
  unfold PySem.W.kitAny
  rw [kit_int h, decide_eq_false fun z => z.elim n1 n2]
  exact this
section
variable {P : Program} {w : World} {K : PySem.W.Frag} {mg : Str → Option Value} {base : Heap}
theorem ok_sm0 {f : Addr} {fd : FuncData} : FnOk P w K mg base CX0 0 f fd ["found", "due"] (spSm fun _ _ _ => False) := by
  have no : ∀ vs H Q E, ¬ spSm (fun _ _ _ => False) vs H Q E := fun vs H Q E h => by
    obtain ⟨x, y, _, h, _⟩ := h
    exact h
  exact ⟨fun vs H Q E h => absurd h (no vs H Q E), fun A outer s H args us vs Q E _ _ _ _ h => absurd h (no vs H Q E)⟩
theorem ok_smF {R : RelE} {k : Nat} {f : Addr} {fd : FuncData} (mon : MonE R) (F : Fun K "_law_same" "_law_same" sSm f fd) (B : Bl mg) (mz : mg "zip" = none) (mF : mg "_law_same" = some (.ref f)) (b : Binds K fd ["found", "due"] [])
    (G : FnOk P w K mg base CX0 k f fd ["found", "due"] (spSm R)) : FnOk P w K mg base CX0 (k + 1) f fd ["found", "due"] (spSm (NextF R)) := by
  refine F.ok scSm (fun vs H Q E h => ?_) (fun cdv A outer s H vs Q E hr h => ?_)
  · obtain ⟨x, y, rfl, _⟩ := h
    rfl
  obtain ⟨x, y, rfl, h, q⟩ := h
  have nd := scSm.nd
  refine ⟨_, (pss_cons (by exact (ps_if (pt_val (pe_callB call_isiT rfl B.isi PyProof.Rows.boot_isinstance (pa_cons (pv 1) (pa_cons (pe_tup (pa_cons (pe_bltn (v := .ty "list") rfl B.list PyProof.Rows.boot_list rfl) (pa_cons (pe_bltn (v := .ty "tuple") rfl B.tuple PyProof.Rows.boot_tuple rfl) pa_nil))) pa_nil)))) (pss_cons (by exact (ps_if (PW.pt (pw_or (pt_cmpR op_ne (pe_callB call_isi rfl B.isi PyProof.Rows.boot_isinstance (pa_cons (pv 0) (pa_cons (pe_bltn (v := .ty "list") rfl B.list PyProof.Rows.boot_list rfl) pa_nil))) (pe_callB call_isi rfl B.isi PyProof.Rows.boot_isinstance (pa_cons (pv 1) (pa_cons (pe_bltn (v := .ty "list") rfl B.list PyProof.Rows.boot_list rfl) pa_nil))) (nomark _)) (pw_or1 (pt_cmpR op_ne (pe_callB call_isi rfl B.isi PyProof.Rows.boot_isinstance (pa_cons (pv 0) (pa_cons (pe_bltn (v := .ty "tuple") rfl B.tuple PyProof.Rows.boot_tuple rfl) pa_nil))) (pe_callB call_isi rfl B.isi PyProof.Rows.boot_isinstance (pa_cons (pv 1) (pa_cons (pe_bltn (v := .ty "tuple") rfl B.tuple PyProof.Rows.boot_tuple rfl) pa_nil))) (nomark _))))) (pss_one (by exact (ps_ret pe_bl))) pss_nil))
  (pss_one (by exact (ps_ret (pe_and (pe_cmpR op_eq (pe_callB call_len_seq rfl B.len PySem.boot_len (pa_cons (pv 0) pa_nil)) (pe_callB call_len_seq rfl B.len PySem.boot_len (pa_cons (pv 1) pa_nil)) (nomark _)) (pe_one (pe_callB (cr_all rfl) rfl B.all PyProof.Rows.boot_all (pa_cons (pe_lc (own := [("x", 2), ("y", 3)]) (g := gTup K 2 (gCons (gName 2) (gCons (gName 3) gNil))) (tt := tYes) (te := tCall (spSm R) [] E0 (tCons (tVar 2) (tCons (tVar 3) tNil))) rfl nd (by exact RZ.pi_zipA rfl mz (pa_cons (pv 0) (pa_cons (pv 1) pa_nil))) (by exact blkOk_by (N := ["found", "due", "x", "y"]) (sc := defScope sSm) (by decide +kernel)) (fun _ _ _ _ _ => by exact (pg_tup rfl (pgs_cons (pg_name (i := 2) nd rfl (.inl rfl)) (pgs_cons (pg_name (i := 3) nd rfl (.inl rfl)) pgs_nil)))) (fun _ _ _ _ _ => by exact pts_nil) (fun _ _ _ _ _ => by exact (pe_call G hr rfl mF F.kp b .nil pass0 (pa_cons (pv 2) (pa_cons (pv 3) pa_nil))))) pa_nil)))))))) pss_nil))
  (pss_cons (by exact (ps_if (pt_val (pe_callB call_isi rfl B.isi PyProof.Rows.boot_isinstance (pa_cons (pv 1) (pa_cons (pe_bltn (v := .ty "dict") rfl B.dict PyProof.Rows.boot_dict rfl) pa_nil)))) (pss_one (by exact (ps_ret (pe_and (pe_callB call_isi rfl B.isi PyProof.Rows.boot_isinstance (pa_cons (pv 0) (pa_cons (pe_bltn (v := .ty "dict") rfl B.dict PyProof.Rows.boot_dict rfl) pa_nil))) (pe_one (pe_call G hr rfl mF F.kp b .nil pass0 (pa_cons (WIt.pe_listItemsB rfl (pv 0) rfl B.list PyProof.Rows.boot_list) (pa_cons (WIt.pe_listItemsB rfl (pv 1) rfl B.list PyProof.Rows.boot_list) pa_nil)))))))) pss_nil))
  (pss_cons (by exact (ps_if (pt_val (pe_callB call_isi rfl B.isi PyProof.Rows.boot_isinstance (pa_cons (pv 1) (pa_cons (pe_bltn (v := .ty "int") rfl B.int PyProof.Rows.boot_int rfl) pa_nil)))) (pss_one (by exact (ps_ret (pe_and (pe_callB call_isi rfl B.isi PyProof.Rows.boot_isinstance (pa_cons (pv 0) (pa_cons (pe_bltn (v := .ty "int") rfl B.int PyProof.Rows.boot_int rfl) pa_nil))) (pe_and (pe_cmpR op_eq (pe_callB call_isi rfl B.isi PyProof.Rows.boot_isinstance (pa_cons (pv 0) (pa_cons (pe_bltn (v := .ty "bool") rfl B.bool PyProof.Rows.boot_bool rfl) pa_nil))) (pe_callB call_isi rfl B.isi PyProof.Rows.boot_isinstance (pa_cons (pv 1) (pa_cons (pe_bltn (v := .ty "bool") rfl B.bool PyProof.Rows.boot_bool rfl) pa_nil))) (nomark _)) (pe_one (pe_cmpR op_eq (pv 0) (pv 1) (nomark _)))))))) pss_nil))
  (pss_one (by exact (ps_ret (pe_and (pe_not (pe_callB call_isiT rfl B.isi PyProof.Rows.boot_isinstance (pa_cons (pv 0) (pa_cons (pe_tup (pa_cons (pe_bltn (v := .ty "int") rfl B.int PyProof.Rows.boot_int rfl) (pa_cons (pe_bltn (v := .ty "list") rfl B.list PyProof.Rows.boot_list rfl) (pa_cons (pe_bltn (v := .ty "tuple") rfl B.tuple PyProof.Rows.boot_tuple rfl) (pa_cons (pe_bltn (v := .ty "dict") rfl B.dict PyProof.Rows.boot_dict rfl) pa_nil))))) pa_nil)))) (pe_one (pe_cmpR op_eq (pv 0) (pv 1) (nomark _)))))))))), ?_⟩
  rcases h with ⟨rfl, fl⟩ | ⟨p, r, xs, ys, rfl, rfl, kinds2, hl, pr⟩ | ⟨p, r, kvs, kvs2, rfl, rfl, dp, dr, hD⟩ | ⟨p, r, kvs, rfl, rfl, dp, dr, hD⟩
  · obtain ⟨t, ty, tk⟩ : ∃ t, TyOf K H x (.type t) ∧ (t = "int" ∨ t = "bool" ∨ t = "str" ∨ t = "NoneType") := by
      rcases fl with ⟨i, rfl⟩ | ⟨i, rfl⟩ | ⟨i, rfl⟩ | rfl
      · exact ⟨"int", .int i, .inl rfl⟩
      · exact ⟨"bool", .bl i, .inr (.inl rfl)⟩
      · exact ⟨"str", .str i, .inr (.inr (.inl rfl))⟩
      · exact ⟨"NoneType", .non, .inr (.inr (.inr rfl))⟩
    have kt : t ∈ kinds := by rcases tk with rfl | rfl | rfl | rfl <;> decide
    have nD : decide (t = "dict") = false := by rcases tk with rfl | rfl | rfl | rfl <;> decide
    have nS : isSeqT t = false := by rcases tk with rfl | rfl | rfl | rfl <;> decide
    have tx : ∀ {Hx}, TyX K Hx x (.type t) := fun {Hx} => by
      rcases fl with ⟨i, rfl⟩ | ⟨i, rfl⟩ | ⟨i, rfl⟩ | rfl <;> cases ty
      · exact .base (.int i)
      · exact .base (.bl i)
      · exact .base (.str i)
      · exact .base .non
    refine ⟨_, rfl, (by show 2 ≤ sizeLine; decide), fun u1 hu1 => ?_⟩
    refine ⟨x, u1, _, _, _, _, rfl, upd_same, .cons (.ty "list") (.cons (.ty "tuple") .nil), tx, kit_seq kt, _, rfl, ?_⟩
    rw [nS]
    refine iteF ?_
    have e1 := K1.Same.upd (H := H) (p := u1) (o := .tup [.ty "list", .ty "tuple"]) hu1
    refine ⟨_, rfl, x, _, _, _, _, rfl, .ty "dict", tx, kit_dict kt, _, rfl, ?_⟩
    rw [nD]
    refine iteF ?_
    refine ⟨_, rfl, x, _, _, _, _, rfl, .ty "int", tx, kit_int kt, _, rfl, ?_⟩
    have fin : ∀ Hx, Same H Hx → Q (.bl true) Hx := q
    have flx : flatV x = true := by rcases fl with ⟨i, rfl⟩ | ⟨i, rfl⟩ | ⟨i, rfl⟩ | rfl <;> rfl
    by_cases tb : t = "int" ∨ t = "bool"
    · rw [decide_eq_true tb]
      refine iteT ?_
      refine ⟨_, rfl, x, _, _, _, _, rfl, .ty "int", tx, kit_int kt, true, by rw [decide_eq_true tb], iteT ?_⟩
      refine ⟨_, rfl, x, _, _, _, _, rfl, .ty "bool", tx, kit_bool kt, _, rfl, x, _, _, _, _, rfl, .ty "bool", tx, kit_bool kt, rfl, true, by rw [decide_eq_true rfl], iteT ?_⟩
      rcases fl with ⟨i, rfl⟩ | ⟨i, rfl⟩ | ⟨i, rfl⟩ | rfl
      · refine ⟨_, rfl, _, rfl, rfl, ?_⟩
        rw [decide_eq_true rfl]
        exact q _ e1
      · refine ⟨_, rfl, _, rfl, rfl, ?_⟩
        rw [decide_eq_true rfl]
        exact q _ e1
      · cases ty; exact absurd tb (by decide)
      · cases ty; exact absurd tb (by decide)
    · rw [decide_eq_false tb]
      refine iteF ?_
      refine ⟨_, rfl, (by show 4 ≤ sizeLine; decide), fun u2 hu2 => ?_⟩
      refine ⟨x, u2, _, _, _, _, rfl, upd_same, .cons (.ty "int") (.cons (.ty "list") (.cons (.ty "tuple") (.cons (.ty "dict") .nil))), tx, kit_iltd kt (fun z => tb (.inl z)) (fun z => tb (.inr z)) (by rcases tk with rfl | rfl | rfl | rfl <;> decide) (by rcases tk with rfl | rfl | rfl | rfl <;> decide) (by rcases tk with rfl | rfl | rfl | rfl <;> decide), _, rfl, ?_⟩
      refine ⟨_, rfl, iteT ?_⟩
      have e2 := e1.trans (K1.Same.upd (o := .tup [.ty "int", .ty "list", .ty "tuple", .ty "dict"]) hu2)
      rcases fl with ⟨i, rfl⟩ | ⟨i, rfl⟩ | ⟨i, rfl⟩ | rfl
      · refine ⟨_, rfl, _, rfl, rfl, ?_⟩
        rw [decide_eq_true rfl]
        exact q _ e2
      · refine ⟨_, rfl, _, rfl, rfl, ?_⟩
        rw [decide_eq_true rfl]
        exact q _ e2
      · refine ⟨_, rfl, _, rfl, rfl, ?_⟩
        rw [decide_eq_true rfl]
        exact q _ e2
      · refine ⟨_, rfl, _, rfl, rfl, ?_⟩
        rw [decide_eq_true rfl]
        exact q _ e2
  · obtain ⟨t, kt, nD, nS, tx, ty⟩ : ∃ t, t ∈ kinds ∧ decide (t = "dict") = false ∧ isSeqT t = true ∧ (∀ Hx, Same H Hx → TyX K Hx (.ref p) (.type t)) ∧ (∀ Hx, Same H Hx → TyX K Hx (.ref r) (.type t)) := by
      rcases kinds2 with ⟨h1, h2⟩ | ⟨h1, h2⟩
      · exact ⟨"list", by decide, by decide, by decide, fun Hx e => .base (.lst (e _ _ h1)), fun Hx e => .base (.lst (e _ _ h2))⟩
      · exact ⟨"tuple", by decide, by decide, by decide, fun Hx e => .base (.tup (e _ _ h1)), fun Hx e => .base (.tup (e _ _ h2))⟩
    refine ⟨_, rfl, (by show 2 ≤ sizeLine; decide), fun u1 hu1 => ?_⟩
    have e1 := K1.Same.upd (H := H) (p := u1) (o := .tup [.ty "list", .ty "tuple"]) hu1
    refine ⟨_, u1, _, _, _, _, rfl, upd_same, .cons (.ty "list") (.cons (.ty "tuple") .nil), ty _ e1, kit_seq kt, _, rfl, ?_⟩
    rw [nS]
    refine iteT ?_
    generalize L2.upd H u1 (.tup [.ty "list", .ty "tuple"]) = H1 at e1 ⊢
    refine ⟨_, rfl, _, _, _, _, _, rfl, .ty "list", tx _ e1, kit_list kt, _, rfl, _, _, _, _, _, rfl, .ty "list", ty _ e1, kit_list kt, rfl, _, rfl, ?_⟩
    rw [decide_eq_true rfl]
    refine iteF ?_
    refine ⟨_, rfl, _, _, _, _, _, rfl, .ty "tuple", tx _ e1, kit_tuple kt, _, rfl, _, _, _, _, _, rfl, .ty "tuple", ty _ e1, kit_tuple kt, rfl, _, rfl, ?_⟩
    rw [decide_eq_true rfl]
    refine iteF ?_
    have ll := pr.length
    have sp : SqA K H1 p xs := kinds2.imp (fun h => SqL.of (e1 _ _ h.1)) (fun h => SqT.of (e1 _ _ h.1))
    have sr : SqA K H1 r ys := kinds2.imp (fun h => SqL.of (e1 _ _ h.2)) (fun h => SqT.of (e1 _ _ h.2))
    refine ⟨_, rfl, p, xs, rfl, sp, _, rfl, r, ys, rfl, sr, rfl, _, rfl, ?_⟩
    rw [ll, decide_eq_true rfl]
    refine iteT ?_
    have pr1 : Paired (R H1) xs ys := paired_imp (fun _ _ z => mon _ _ _ _ e1 z) pr
    -- the walk over both
    have main : ∀ (J : It) (G0 : Hp → Prop), Walk J xs.length G0 (YPair (fun i => xs[i]?) (fun i => ys[i]?)) → (∀ Hx, Same H1 Hx → G0 Hx) → ∀ (D : Addr), H1 D = none → ∃ W : Nat → Nat → Hp → Prop, (∃ m, W 0 m (L2.upd H1 D (.lst []))) ∧ ∀ i m Hc, W i m Hc →
        (J.stop i Hc ∧ ∃ (a : Addr) (bs : List Bool), [V.ref D] = [V.ref a] ∧ SqL K Hc a (bs.map V.bl) ∧ Q (.bl (bs.all id)) Hc) ∨ (J.go i Hc ∧ ∃ Nx : Hp → Prop, (∀ H', Nx H' → ∃ m', m' < m ∧ W (i + 1) m' H') ∧ ∀ v H', J.yld i Hc v H' →
          gTup K 2 (gCons (gName 2) (gCons (gName 3) gNil)) v (wipe (L2.start ["found", "due", "x", "y"] [.ref p, .ref r]) [2, 3]) H' fun σ2 H2 => wipe σ2 [2, 3] = wipe (L2.start ["found", "due", "x", "y"] [.ref p, .ref r]) [2, 3] ∧ tYes σ2 H2 fun b H3 =>
            if b = true then tCall (spSm R) [] E0 (tCons (tVar 2) (tCons (tVar 3) tNil)) σ2 H3 fun y H4 => ∃ acc, H4 D = some (.lst acc) ∧ acc.length < sizeLine ∧ Nx (L2.upd H4 D (.lst (acc ++ [y]))) else Nx H3) := by
      intro J G0 wk hG D hD
      refine lc_it (Qd := fun Hc => ∃ (a : Addr) (bs : List Bool), [V.ref D] = [V.ref a] ∧ SqL K Hc a (bs.map V.bl) ∧ Q (.bl (bs.all id)) Hc) wk (fun i Hc => Same H1 Hc ∧ Hc D = some (.lst ((List.replicate i true).map V.bl))) ⟨K1.Same.upd hD, upd_same⟩ (fun i Hc _ h => hG Hc h.1) ?_ ?_
      · rintro i v Hc H' hi ⟨c1, c2⟩ ⟨T, x1, x2, rfl, hT, rfl, ex1, ex2⟩
        have ex1 : xs[i]? = some x1 := ex1
        have ex2 : ys[i]? = some x2 := ex2
        have hT2 := K1.Same.upd (H := Hc) (p := T) (o := .tup [x1, x2]) hT
        refine ⟨T, _, rfl, SqT.of upd_same, rfl, _, _, rfl, _, _, rfl, rfl, rfl, ?_⟩
        unfold tYes
        refine iteT ?_
        have hi2 : i < ys.length := by omega
        obtain ⟨x1', e3, r3⟩ := paired_get pr1 hi2
        have z1 : x1' = x1 := Option.some.inj (e3.symm.trans ex1)
        have z2 : ys[i] = x2 := Option.some.inj ((List.getElem?_eq_getElem hi2).symm.trans ex2)
        rw [z1, z2] at r3
        refine ⟨_, rfl, _, rfl, x1, x2, rfl, mon _ _ _ _ (c1.trans hT2) r3, fun H6 e6 => ?_⟩
        refine ⟨_, e6 _ _ (hT2 _ _ c2), by rw [List.length_map, List.length_replicate, sizeLine_eq]; omega, fun c o n => ?_, ?_⟩
        · rw [upd_ne (ne_of_none n hD)]
          exact e6 _ _ (hT2 _ _ (c1 _ _ n))
        · rw [upd_same, List.replicate_succ', List.map_append]
          rfl
      · rintro Hc ⟨c1, c2⟩
        refine ⟨D, _, rfl, SqL.of c2, ?_⟩
        have : ((List.replicate xs.length true).all id) = true := by
          rw [List.all_replicate]
          split <;> rfl
        rw [this]
        exact q Hc (e1.trans c1)
    refine ⟨_, rfl, _, rfl, p, r, xs, ys, rfl, ?_⟩
    rcases kinds2 with ⟨h1, h2⟩ | ⟨h1, h2⟩
    · exact .inl ⟨SqL.of (e1 _ _ h1), SqL.of (e1 _ _ h2), fun D hD => main _ _ (walk_zip (by omega)) (fun Hx e => ⟨SqL.of (e _ _ (e1 _ _ h1)), SqL.of (e _ _ (e1 _ _ h2))⟩) D hD⟩
    · exact .inr ⟨SqT.of (e1 _ _ h1), SqT.of (e1 _ _ h2), fun D hD => main _ _ (walk_zipT (by omega)) (fun Hx e => ⟨SqT.of (e _ _ (e1 _ _ h1)), SqT.of (e _ _ (e1 _ _ h2))⟩) D hD⟩
  · -- two dicts
    have tx : ∀ {Hx}, Same H Hx → TyX K Hx (.ref p) (.type "dict") := fun {Hx} e => .base (.dK (e _ _ dp))
    have ty : ∀ {Hx}, Same H Hx → TyX K Hx (.ref r) (.type "dict") := fun {Hx} e => .base (.dK (e _ _ dr))
    refine ⟨_, rfl, (by show 2 ≤ sizeLine; decide), fun u1 hu1 => ?_⟩
    have f1 := K1.Same.upd (H := H) (p := u1) (o := .tup [.ty "list", .ty "tuple"]) hu1
    refine ⟨_, u1, _, _, _, _, rfl, upd_same, .cons (.ty "list") (.cons (.ty "tuple") .nil), ty f1, kit_seq (t := "dict") (by decide), _, rfl, ?_⟩
    refine iteF ?_
    generalize L2.upd H u1 (.tup [.ty "list", .ty "tuple"]) = H0 at f1 ⊢
    refine ⟨_, rfl, .ref r, _, _, _, _, rfl, .ty "dict", ty f1, kit_dict (t := "dict") (by decide), _, rfl, ?_⟩
    refine iteT ?_
    refine ⟨_, rfl, .ref p, _, _, _, _, rfl, .ty "dict", tx f1, kit_dict (t := "dict") (by decide), _, rfl, ?_⟩
    refine iteT ⟨_, rfl, .inl ⟨p, kvs, rfl, f1 _ _ dp, fun H1 a as e1 na nas npa g1 pa => ⟨_, rfl, .inl ⟨r, kvs2, rfl, e1 _ _ (f1 _ _ dr), fun H2 c cs e2 nc ncs npc g2 pc => ⟨_, _, rfl, ?_, fun H3 e3 => ?_⟩⟩⟩⟩⟩
    · exact hD H2 a c as cs (fun b o h => e2 _ _ (e1 _ _ (f1 _ _ h))) (e2 _ _ g1) g2 (paired_imp (fun _ _ z => e2 _ _ z) pa) pc
    · exact q H3 fun b o h => e3 _ _ (e2 _ _ (e1 _ _ (f1 _ _ h)))
  · -- two dicts keyed by tuples
    have tx : ∀ {Hx}, Same H Hx → TyX K Hx (.ref p) (.type "dict") := fun {Hx} e => .base (.dT (e _ _ dp))
    have ty : ∀ {Hx}, Same H Hx → TyX K Hx (.ref r) (.type "dict") := fun {Hx} e => .base (.dT (e _ _ dr))
    refine ⟨_, rfl, (by show 2 ≤ sizeLine; decide), fun u1 hu1 => ?_⟩
    have f1 := K1.Same.upd (H := H) (p := u1) (o := .tup [.ty "list", .ty "tuple"]) hu1
    refine ⟨_, u1, _, _, _, _, rfl, upd_same, .cons (.ty "list") (.cons (.ty "tuple") .nil), ty f1, kit_seq (t := "dict") (by decide), _, rfl, ?_⟩
    refine iteF ?_
    generalize L2.upd H u1 (.tup [.ty "list", .ty "tuple"]) = H0 at f1 ⊢
    refine ⟨_, rfl, .ref r, _, _, _, _, rfl, .ty "dict", ty f1, kit_dict (t := "dict") (by decide), _, rfl, ?_⟩
    refine iteT ?_
    refine ⟨_, rfl, .ref p, _, _, _, _, rfl, .ty "dict", tx f1, kit_dict (t := "dict") (by decide), _, rfl, ?_⟩
    refine iteT ⟨_, rfl, .inr ⟨p, kvs, rfl, f1 _ _ dp, fun H1 a as ps e1 na nas npa g1 pa ka => ⟨_, rfl, .inr ⟨r, kvs, rfl, e1 _ _ (f1 _ _ dr), fun H2 c cs qs e2 nc ncs npc g2 pc kc => ⟨_, _, rfl, ?_, fun H3 e3 => ?_⟩⟩⟩⟩⟩
    · exact hD H2 a c as cs ps qs (fun b o h => e2 _ _ (e1 _ _ (f1 _ _ h))) (e2 _ _ g1) g2 (paired_imp (fun _ _ z => e2 _ _ z) pa) pc (paired_imp (fun _ _ ⟨b, z1, z2, z3⟩ => ⟨b, z1, e2 _ _ (e1 _ _ z2), z3⟩) ka) (paired_imp (fun _ _ ⟨b, z1, z2, z3⟩ => ⟨b, z1, e2 _ _ z2, z3⟩) kc)
    · exact q H3 fun b o h => e3 _ _ (e2 _ _ (e1 _ _ (f1 _ _ h)))

end
end K1
end
-- MOf
section
set_option Elab.async false
set_option linter.all false
set_option maxRecDepth 100000
set_option maxHeartbeats 2000000
namespace K1
open PySem PySem.Spec PyProof.Rows L2 W0
/-! odd things that may be changed: each new, each by itself -/
def FlatKV (R : RelE) (e : Key × V) : Prop := ∀ H, R H (kV e.1) (kV e.1) ∧ R H e.2 e.2
theorem r_items {R : RelE} {H : Hp} : ∀ {as bs : List Addr} {kvs : List (Key × V)}, (∀ e ∈ kvs, FlatKV R e) → Paired (fun (t : Addr) (e : Key × V) => H t = some (.tup [kV e.1, e.2])) as kvs → Paired (fun (t : Addr) (e : Key × V) => H t = some (.tup [kV e.1, e.2])) bs kvs → Paired (NextF R H) (as.map V.ref) (bs.map V.ref)
  | _, _, _, _, .nil, .nil => .nil
  | _, _, _, h, .cons f1 g1, .cons f2 g2 => .cons (r_tups f1 f2 (by show 2 ≤ 10000; decide) (.cons (h _ (List.mem_cons_self ..) H).1 (.cons (h _ (List.mem_cons_self ..) H).2 .nil))) (r_items (fun e he => h e (List.mem_cons_of_mem _ he)) g1 g2)
theorem r_dct {R : RelE} {H : Hp} {p q : Addr} {kvs : List (Key × V)} (h1 : H p = some (.dK kvs)) (h2 : H q = some (.dK kvs)) (l : kvs.length ≤ 10000) (fl : ∀ e ∈ kvs, FlatKV R e) : NextF (NextF (NextF R)) H (.ref p) (.ref q) :=
  .inr (.inr (.inl ⟨p, q, kvs, kvs, rfl, rfl, h1, h2, fun H' a b as bs e ha hb pa pb => r_lists ha hb (by rw [List.length_map, pa.length]; exact l) (r_items fl pa pb)⟩))
theorem flat_si {R : RelE} (s : Str) (i : Int) : FlatKV (NextF R) ((.inr s, .int i) : Key × V) := fun H => ⟨r_str s, r_int i⟩
/-- refused by R; the same as itself, also when it is made longer -/
def OddM (K : PySem.W.Frag) (R : PV) : PV := fun G v => R G v ∧ ((∃ t, TyX K G v (.type t) ∧ t ∈ kinds ∧ t ≠ "dict" ∧ t ≠ "list" ∧ RF 4 G v v) ∨ (∃ p, v = .ref p ∧ G p = some (.dK [])) ∨
  (∃ p xs, v = .ref p ∧ G p = some (.lst xs) ∧ xs.length ≤ 100 ∧ ∀ x ∈ xs, RF 3 (wo (fun b => b = p) G) x x))
def MonP (R : PV) : Prop := ∀ H H' v, Same H H' → R H v → R H' v
theorem OddM.mon {K : PySem.W.Frag} {R : PV} (m : MonP R) : MonP (OddM K R) := fun H H' v e ⟨r, h⟩ => by
  refine ⟨m _ _ _ e r, ?_⟩
  rcases h with ⟨t, a, b, c, d, f⟩ | ⟨p, a, b⟩ | ⟨p, xs, a, b, c, d⟩
  · exact .inl ⟨t, TyX.ext a e, b, c, d, RF.mon 4 _ _ _ _ e f⟩
  · exact .inr (.inl ⟨p, a, e _ _ b⟩)
  · exact .inr (.inr ⟨p, xs, a, e _ _ b, c, fun x hx => RF.mon 3 _ _ _ _ (wo_same fun b o _ h => e b o h) (d x hx)⟩)
/-- all but v is as it was -/
def OffV1 (v : V) (H H' : Hp) : Prop := ∀ b o, v ≠ .ref b → H b = some o → H' b = some o
theorem odd_longer {K : PySem.W.Frag} {R : PV} {G H : Hp} {v : V} {σ : L2.St} {j : Nat} {Qv : VK} {TT : List (Addr × Str)} (o : OddM K R G v) (e : Same G H) (tb : LamX.Tabs TT H) (hσ : σ[j]? = some (some v)) (q : ∀ H', OffV1 v H H' → (∀ b o, H b = some o → (G b = none ∨ ∃ xs, o = .tup xs) → H' b = some o) → RF 4 H' v v → LamX.Tabs TT H' → Qv v H') : tCall (spLg K) [] E0 (tCons (tVar j) tNil) σ H Qv := by
  rcases o.2 with ⟨t, a, b, c, d, f⟩ | ⟨p, rfl, b⟩ | ⟨p, xs, rfl, b, c, d⟩
  · exact ⟨_, hσ, v, rfl, .inl ⟨t, TyX.ext a e, b, c, d, q H (fun _ _ _ h => h) (fun _ _ h _ => h) (RF.mon 4 _ _ _ _ e f) tb⟩⟩
  · refine ⟨_, hσ, _, rfl, .inr (.inl ⟨p, rfl, e _ _ b, ?_⟩)⟩
    have g := upd_same' H p (.dK [((Sum.inr "late" : Key), V.int 1)])
    refine q _ (fun x o n h => by rw [upd_ne fun z => n (by rw [z])]; exact h) (fun x o h1 h2 => by
      rw [upd_ne fun z => ?_]
      · exact h1
      · rw [z] at h1 h2
        rcases h2 with h2 | ⟨xs, rfl⟩
        · rw [b] at h2; cases h2
        · rw [e _ _ b] at h1; cases h1) ?_ (tabs_keptD tb (e _ _ b) Kept.upd)
    exact r_dct g g (by show 1 ≤ 10000; decide) fun x hx => by rw [List.mem_singleton.mp hx]; exact flat_si _ _
  · refine ⟨_, hσ, _, rfl, .inr (.inr ⟨p, xs, rfl, e _ _ b, by omega, ?_⟩)⟩
    have g := upd_same' H p (.lst (xs ++ [.str "late"]))
    have k : Same (wo (fun b => b = p) G) (L2.upd H p (.lst (xs ++ [.str "late"]))) := fun x o h => by
      obtain ⟨n, h⟩ := wo_some.mp h
      rw [upd_ne n]
      exact e _ _ h
    refine q _ (fun x o n h => by rw [upd_ne fun z => n (by rw [z])]; exact h) (fun x o h1 h2 => by
      rw [upd_ne fun z => ?_]
      · exact h1
      · rw [z] at h1 h2
        rcases h2 with h2 | ⟨xs, rfl⟩
        · rw [b] at h2; cases h2
        · rw [e _ _ b] at h1; cases h1) ?_ (tabs_kept tb (e _ _ b) Kept.upd)
    refine r_lists g g (by rw [List.length_append]; show xs.length + 1 ≤ 10000; omega) (paired_same fun x hx => ?_)
    rcases List.mem_append.mp hx with hx | hx
    · exact RF.mon 3 _ _ _ _ k (d x hx)
    · rw [List.mem_singleton.mp hx]
      exact r_str _
/-- all of vs, made between Hb and Ha: each by itself, off Z -/
def AllF (Z : Addr → Prop) (P : PV) (Hb Ha : Hp) (vs : List V) : Prop := (∀ v ∈ vs, P (wo (fun b => Z b ∨ (V.ref b ∈ vs ∧ v ≠ .ref b)) (nt Ha)) v ∧ ∀ p, v = .ref p → Hb p = none ∧ Ha p ≠ none) ∧ vs.Pairwise fun v w => ∀ p, v = .ref p → w ≠ .ref p
structure MF (H0 : Hp) (t : TE) (σ : L2.St) (P : PV) : Prop where
  run : ∀ Hb, Same H0 Hb → ∀ Q : VK, (∀ v Ha, Same Hb Ha → P (wo (fun b => H0 b = none ∧ Hb b ≠ none) (nt Ha)) v → (∀ p, v = .ref p → Hb p = none ∧ Ha p ≠ none) → Q v Ha) → t σ Hb Q
structure MFA (H0 : Hp) (t : TA) (σ : L2.St) (P : PV) (n : Nat) : Prop where
  run : ∀ Hb, Same H0 Hb → ∀ Q : List V → Hp → Prop, (∀ vs Ha, Same Hb Ha → vs.length = n → AllF (fun b => H0 b = none ∧ Hb b ≠ none) P Hb Ha vs → Q vs Ha) → t σ Hb Q
section
variable {H0 : Hp} {σ : L2.St} {t : TE} {ta : TA} {P : PV} {n : Nat}
theorem mf_nil : MFA H0 tNil σ P 0 := ⟨fun Hb _ Q q => q [] Hb (Same.refl _) rfl ⟨fun v h => absurd h (by simp), .nil⟩⟩
theorem mf_cons (m : MonP P) (h1 : MF H0 t σ P) (h2 : MFA H0 ta σ P n) : MFA H0 (tCons t ta) σ P (n + 1) := by
  refine ⟨fun Hb e Q q => h1.run Hb e _ fun v H1 e1 p1 f1 => h2.run H1 (e.trans e1) _ fun vs H2 e2 l2 ⟨a2, w2⟩ => q _ H2 (e1.trans e2) (by rw [List.length_cons, l2]) ⟨fun x hx => ?_, List.pairwise_cons.mpr ⟨fun x hx p hp z => ?_, w2⟩⟩⟩
  · rcases List.mem_cons.mp hx with rfl | hx
    · refine ⟨m _ _ _ (fun b o h => ?_) p1, fun p hp => ⟨(f1 p hp).1, fun z => ?_⟩⟩
      · obtain ⟨n1, h⟩ := wo_some.mp h
        refine wo_some.mpr ⟨fun z => ?_, nt_mono e2 _ _ h⟩
        rcases z with z | ⟨z, z2⟩
        · exact n1 z
        · rcases List.mem_cons.mp z with z | z
          · exact z2 z.symm
          · have := ((a2 _ z).2 b rfl).1
            rw [(nt_some.mp h).1] at this
            cases this
      · cases q2 : H1 p with
        | none => exact (f1 p hp).2 q2
        | some o => rw [e2 _ _ q2] at z; cases z
    · obtain ⟨a, b⟩ := a2 x hx
      refine ⟨m _ _ _ (fun c o h => ?_) a, fun p hp => ⟨e1.free (b p hp).1, (b p hp).2⟩⟩
      obtain ⟨n1, h⟩ := wo_some.mp h
      refine wo_some.mpr ⟨fun z => ?_, h⟩
      rcases z with z | ⟨z, z2⟩
      · refine n1 (.inl ⟨z.1, fun y => ?_⟩)
        cases q2 : Hb c with
        | none => exact z.2 q2
        | some o => rw [e1 _ _ q2] at y; cases y
      · rcases List.mem_cons.mp z with z | z
        · have f := f1 c z.symm
          exact n1 (.inl ⟨e.free f.1, f.2⟩)
        · exact n1 (.inr ⟨z, z2⟩)
  · subst hp
    have f := f1 p rfl
    have g := (a2 _ hx).2 p z
    exact f.2 g.1
theorem mf_c {x : V} (h : ∀ G, P G x) (n : ∀ p, x ≠ .ref p) : MF H0 (tC x) σ P := ⟨fun Hb _ Q q => q x Hb (Same.refl _) (h _) fun p z => absurd z (n p)⟩
theorem mf_new (h : ∀ Hb, Same H0 Hb → ∀ Q : VK, (∀ p Ha, Same Hb Ha → Hb p = none → Ha p ≠ none → (∀ G, (∀ b o, (H0 b ≠ none ∨ Hb b = none) → nt Ha b = some o → G b = some o) → P G (.ref p)) → Q (.ref p) Ha) → t σ Hb Q) : MF H0 t σ P := by
  refine ⟨fun Hb e Q q => h Hb e Q fun p Ha e1 n1 n2 g => q _ Ha e1 (g _ fun b o c hb => wo_some.mpr ⟨fun z => ?_, hb⟩) fun p' z => by cases z; exact ⟨n1, n2⟩⟩
  exact c.elim (fun c => c z.1) fun c => z.2 c
theorem mf_dict (h : ∀ G p, G p = some (.dK []) → P G (.ref p)) : MF H0 tDNewK σ P := mf_new fun Hb e Q q p hp => q p _ (K1.Same.upd hp) hp (by rw [upd_same' Hb p]; exact Option.some_ne_none _) fun G g => h G p (g _ _ (.inr hp) (nt_d (upd_same' Hb p _)))
/-- a list display of what is new -/
theorem mf_lst {Q : VK} {Hb : Hp} (h : MFA H0 ta σ P n) (l : n ≤ 1000) (e : Same H0 Hb) (q : ∀ r vs Ha H', Same Hb Ha → vs.length = n → AllF (fun b => H0 b = none ∧ Hb b ≠ none) P Hb Ha vs → Ha r = none → H' = L2.upd Ha r (.lst vs) → Q (.ref r) H') : tLst ta σ Hb Q := by
  refine h.run Hb e _ fun vs Ha e1 l1 a => ⟨?_, fun p hp => q p vs Ha _ e1 l1 a hp rfl⟩
  rw [l1]
  exact Nat.le_trans l (by decide)
theorem mf_tup {Q : VK} {Hb : Hp} (h : MFA H0 ta σ P n) (l : n ≤ 1000) (e : Same H0 Hb) (q : ∀ r vs Ha H', Same Hb Ha → vs.length = n → AllF (fun b => H0 b = none ∧ Hb b ≠ none) P Hb Ha vs → Ha r = none → H' = L2.upd Ha r (.tup vs) → Q (.ref r) H') : tTup ta σ Hb Q := by
  refine h.run Hb e _ fun vs Ha e1 l1 a => ⟨?_, fun p hp => q p vs Ha _ e1 l1 a hp rfl⟩
  rw [l1]
  exact Nat.le_trans l (by decide)
end
/-- the odd things ys, in a heap in which those before k have been changed -/
def OffK (ys : List V) (k : Nat) (H H' : Hp) : Prop := ∀ b o, V.ref b ∉ ys.take k → nt H b = some o → H' b = some o
theorem AllF.at {P : PV} (m : MonP P) {H0 H Hc : Hp} {ys : List V} {k : Nat} {Z : Addr → Prop} (hz : ∀ b, ¬ Z b) (a : AllF Z P H0 H ys) (o : OffK ys k H Hc) (hk : k < ys.length) : ∃ G, P G ys[k] ∧ Same G (nt Hc) ∧ (∀ b o, G b = some o → V.ref b ∉ ys ∨ V.ref b = ys[k]) := by
  have hm := List.getElem_mem hk
  refine ⟨_, (a.1 _ hm).1, fun b o' h => ?_, fun b o' h => ?_⟩
  · obtain ⟨n, h⟩ := wo_some.mp h
    refine nt_some.mpr ⟨o b o' (fun z => ?_) h, (nt_some.mp h).2⟩
    obtain ⟨j, hj, e⟩ := List.getElem_of_mem z
    rw [List.length_take] at hj
    rw [List.getElem_take] at e
    refine n (.inr ⟨List.mem_of_mem_take z, fun y => ?_⟩)
    exact List.pairwise_iff_getElem.mp a.2 j k (by omega) hk (by omega) b e y
  · obtain ⟨n, h⟩ := wo_some.mp h
    by_cases c : V.ref b ∈ ys
    · by_cases c2 : ys[k] = .ref b
      · exact .inr c2.symm
      · exact absurd (.inr ⟨c, c2⟩) n
    · exact .inl c
theorem AllF.same {Z : Addr → Prop} {P : PV} (m : MonP P) {Hb Ha H' : Hp} {vs : List V} (a : AllF Z P Hb Ha vs) (e : Same Ha H') : AllF Z P Hb H' vs :=
  ⟨fun v hv => ⟨m _ _ _ (wo_same fun b o _ h => nt_mono e b o h) (a.1 v hv).1, fun p hp => ⟨((a.1 v hv).2 p hp).1, fun z => by
    cases q2 : Ha p with
    | none => exact ((a.1 v hv).2 p hp).2 q2
    | some o => rw [e _ _ q2] at z; cases z⟩⟩, a.2⟩
theorem AllF.weak {Z Z' : Addr → Prop} {P : PV} (m : MonP P) {Hb Ha : Hp} {vs : List V} (a : AllF Z P Hb Ha vs) (e : ∀ b, Z' b → Z b) : AllF Z' P Hb Ha vs :=
  ⟨fun v hv => ⟨m _ _ _ (wo_le fun b z => z.imp (e b) id) (a.1 v hv).1, (a.1 v hv).2⟩, a.2⟩
theorem AllF.app {r : Addr} {P : PV} (m : MonP P) {H0 H1 H2 H3 : Hp} {vs ws : List V} (a : AllF (fun b => b = r) P H0 H1 vs) (b : AllF (fun b => H0 b = none ∧ H1 b ≠ none) P H1 H2 ws) (e0 : Same H0 H1) (e1 : Same H1 H2) (r0 : H0 r = none) (r1 : H1 r ≠ none) (k : Kept r H2 H3) (r3 : H3 r ≠ none) : AllF (fun b => b = r) P H0 H3 (vs ++ ws) := by
  have to3 : ∀ p, H2 p ≠ none → H3 p ≠ none := fun p hp z => by
    by_cases c : p = r
    · rw [c] at z; exact r3 z
    · cases q2 : H2 p with
      | none => exact hp q2
      | some o => rw [k _ _ c q2] at z; cases z
  refine ⟨fun v hv => ?_, List.pairwise_append.mpr ⟨a.2, b.2, fun v hv w hw p hp z => ?_⟩⟩
  · rcases List.mem_append.mp hv with hv | hv
    · obtain ⟨a1, a2⟩ := a.1 v hv
      refine ⟨m _ _ _ (fun c o h => ?_) a1, fun p hp => ⟨(a2 p hp).1, to3 p fun z => ?_⟩⟩
      · obtain ⟨n, h⟩ := wo_some.mp h
        refine wo_some.mpr ⟨fun z => ?_, ?_⟩
        · rcases z with z | ⟨z, z2⟩
          · exact n (.inl z)
          · rcases List.mem_append.mp z with z | z
            · exact n (.inr ⟨z, z2⟩)
            · have := ((b.1 _ z).2 c rfl).1
              rw [(nt_some.mp h).1] at this
              cases this
        · exact nt_some.mpr ⟨k _ _ (fun z => n (.inl z)) (e1 _ _ (nt_some.mp h).1), (nt_some.mp h).2⟩
      · cases q2 : H1 p with
        | none => exact (a2 p hp).2 q2
        | some o => rw [e1 _ _ q2] at z; cases z
    · obtain ⟨a1, a2⟩ := b.1 v hv
      refine ⟨m _ _ _ (fun c o h => ?_) a1, fun p hp => ⟨e0.free (a2 p hp).1, to3 p (a2 p hp).2⟩⟩
      obtain ⟨n, h⟩ := wo_some.mp h
      have cr : c ≠ r := fun z => n (.inl (by rw [z]; exact ⟨r0, r1⟩))
      refine wo_some.mpr ⟨fun z => ?_, nt_some.mpr ⟨k _ _ cr (nt_some.mp h).1, (nt_some.mp h).2⟩⟩
      rcases z with z | ⟨z, z2⟩
      · exact cr z
      · rcases List.mem_append.mp z with z | z
        · exact n (.inl ((a.1 _ z).2 c rfl))
        · exact n (.inr ⟨z, z2⟩)
  · subst hp
    exact ((a.1 _ hv).2 p rfl).2 ((b.1 _ hw).2 p z).1
end K1
end
-- MNv
section
set_option Elab.async false
set_option linter.all false
set_option maxRecDepth 100000
set_option maxHeartbeats 2000000
namespace K1
open PySem PySem.Spec PyProof.Rows L2 W0
abbrev sNv9 : Stmt := top 57
theorem scNv9 : FnScope ["names"] ["names"] (defScope sNv9) := ⟨rfl, rfl, rfl, by decide +kernel, rfl, by decide +kernel, by decide +kernel⟩
def NvP (K : PySem.W.Frag) : PV := OddM K fun G v => NoV K G v
theorem nvP_mon {K : PySem.W.Frag} : MonP (NvP K) := OddM.mon fun _ _ _ e h => h.ext e
def spNv9 (K : PySem.W.Frag) : Sp := fun vs H Q _ => ∃ (p1 : Addr) (ss : List Str), vs = [.ref p1] ∧ H p1 = some (.lst (ss.map V.str)) ∧ ss.length ≤ 60 ∧
  ∀ r ys H', Same H H' → H r = none → H' r = some (.lst ys) → V.ref r ∉ ys → AllF (fun _ => False) (NvP K) H H' ys → Q (.ref r) H'
theorem odd_flat {K : PySem.W.Frag} {R : PV} {G : Hp} {v : V} {t : String} (r : R G v) (ty : TyX K G v (.type t)) (k : t ∈ kinds) (n1 : t ≠ "dict") (n2 : t ≠ "list") (f : RF 4 G v v) : OddM K R G v := ⟨r, .inl ⟨t, ty, k, n1, n2, f⟩⟩
section
variable {P : Program} {w : World} {K : PySem.W.Frag} {mg : Str → Option Value} {base : Heap}
theorem ok_Nv9 {f : Addr} {fd : FuncData} (F : Fun K "_law_no_valleys" "_law_no_valleys" sNv9 f fd) (B : Bl mg) : FnOk P w K mg base CX0 1 f fd ["names"] (spNv9 K) := by
  refine F.ok scNv9 (fun vs H Q E h => ?_) (fun cdv A outer s H vs Q E hr h => ?_)
  · obtain ⟨p1, ss, rfl, _⟩ := h
    rfl
  obtain ⟨p1, ss, rfl, h1, ls, q⟩ := h
  refine ⟨_, (pss_one (by exact (ps_ret (pe_lst (pa_cons pe_non (pa_cons pe_int (pa_cons pe_str (pa_cons (pe_lst pa_nil) (pa_cons (pe_callTy (r := rLst K) call_list_of rfl B.list PyProof.Rows.boot_list (pa_cons (pv 0) pa_nil)) (pa_cons pe_dnewK (pa_cons pe_bl (pa_cons (pe_tup (pa_cons (pv 0) (pa_cons (pe_lst pa_nil) (pa_cons (pe_lst pa_nil) pa_nil)))) pa_nil)))))))))))), ?_⟩
  refine mf_lst (P := NvP K) (n := 8) (H0 := H) ?_ (by decide) (Same.refl _) fun r vs Ha H' e1 l1 a nr eH => ?_
  · have m := nvP_mon (K := K)
    refine mf_cons m (mf_c (fun G => odd_flat ⟨"NoneType", .inl (.base .non), by decide⟩ (.base .non) (by decide) (by decide) (by decide) r_non) (fun p z => by cases z)) (mf_cons m (mf_c (fun G => odd_flat ⟨"int", .inl (.base (.int _)), by decide⟩ (.base (.int _)) (by decide) (by decide) (by decide) (r_int _)) (fun p z => by cases z)) (mf_cons m (mf_c (fun G => odd_flat ⟨"str", .inl (.base (.str _)), by decide⟩ (.base (.str _)) (by decide) (by decide) (by decide) (r_str _)) (fun p z => by cases z))
      (mf_cons m (mf_new fun Hb e Q q => ?_) (mf_cons m (mf_new fun Hb e Q q => ?_) (mf_cons m (mf_dict fun G p g => ⟨⟨"dict", .inl (.base (.dK g)), by decide⟩, .inr (.inl ⟨p, rfl, g⟩)⟩) (mf_cons m (mf_c (fun G => odd_flat ⟨"bool", .inl (.base (.bl _)), by decide⟩ (.base (.bl _)) (by decide) (by decide) (by decide) (r_bl _)) (fun p z => by cases z)) (mf_cons m (mf_new fun Hb e Q q => ?_) mf_nil)))))))
    · refine ⟨by decide, fun p hp => q p _ (K1.Same.upd hp) hp (by rw [upd_same' Hb p]; exact Option.some_ne_none _) fun G g => ?_⟩
      have gp := g _ _ (.inr hp) (nt_l (upd_same' Hb p _))
      exact ⟨⟨"list", .inl (.base (.lst gp)), by decide⟩, .inr (.inr ⟨p, [], rfl, gp, by decide, fun x hx => by cases hx⟩)⟩
    · refine ⟨_, rfl, p1, _, rfl, .inl (SqL.of (e _ _ h1)), fun p hp => q p _ (K1.Same.upd hp) hp (by rw [upd_same' Hb p]; exact Option.some_ne_none _) fun G g => ?_⟩
      have gp := g _ _ (.inr hp) (nt_l (upd_same' Hb p _))
      exact ⟨⟨"list", .inl (.base (.lst gp)), by decide⟩, .inr (.inr ⟨p, _, rfl, gp, by rw [List.length_map]; omega, fun x hx => by
        obtain ⟨s, _, rfl⟩ := List.mem_map.mp hx
        exact r_str _⟩)⟩
    · refine ⟨_, rfl, by decide, fun x hx => ⟨by decide, fun y hy => ?_⟩⟩
      have e1 := K1.Same.upd (H := Hb) (p := x) (o := .lst []) hx
      have gx := upd_same' Hb x (.lst [])
      generalize L2.upd Hb x (.lst []) = H1 at e1 gx hy ⊢
      have e2 := K1.Same.upd (H := H1) (p := y) (o := .lst []) hy
      have gy := upd_same' H1 y (.lst [])
      generalize L2.upd H1 y (.lst []) = H2 at e2 gy ⊢
      dsimp only [tNil]
      refine ⟨(by show 3 ≤ sizeLine; decide), fun p hp => ?_⟩
      have e3 := K1.Same.upd (H := H2) (p := p) (o := .tup [.ref p1, .ref x, .ref y]) hp
      have gp := upd_same' H2 p (.tup [.ref p1, .ref x, .ref y])
      generalize L2.upd H2 p (.tup [.ref p1, .ref x, .ref y]) = H3 at e3 gp ⊢
      refine q p _ (e1.trans (e2.trans e3)) ((e1.trans e2).free hp) (by rw [gp]; exact Option.some_ne_none _) fun G g => ?_
      have g1 := g _ _ (.inl (by rw [h1]; exact Option.some_ne_none _)) (nt_l (e3 _ _ (e2 _ _ (e1 _ _ (e _ _ h1)))))
      have g2 := g _ _ (.inr hx) (nt_l (e3 _ _ (e2 _ _ gx)))
      have g3 := g _ _ (.inr (e1.free hy)) (nt_l (e3 _ _ gy))
      have g4 := g _ _ (.inr ((e1.trans e2).free hp)) (nt_t gp)
      refine odd_flat ⟨"tuple", .inl (.base (.tup g4)), by decide⟩ (.base (.tup g4)) (by decide) (by decide) (by decide) (self_tup g4 (by show 3 ≤ 10000; decide) fun z hz => ?_)
      simp only [List.mem_cons, List.not_mem_nil, or_false] at hz
      rcases hz with rfl | rfl | rfl
      · exact self_lst g1 (by rw [List.length_map]; omega) fun x hx => by
          obtain ⟨s, _, rfl⟩ := List.mem_map.mp hx
          exact r_str _
      · exact self_lst g2 (by show 0 ≤ 10000; decide) fun x hx => by cases hx
      · exact self_lst g3 (by show 0 ≤ 10000; decide) fun x hx => by cases hx
  · subst eH
    have er := K1.Same.upd (H := Ha) (p := r) (o := .lst vs) nr
    refine q r vs _ (e1.trans er) (e1.free nr) (upd_same' Ha r _) (fun z => ?_) ((a.same nvP_mon er).weak nvP_mon fun b z => z.elim)
    exact ((a.1 _ z).2 r rfl).2 nr
end
end K1
end
-- MNo
section
set_option Elab.async false
set_option linter.all false
set_option maxRecDepth 100000
set_option maxHeartbeats 4000000
namespace K1
open PySem PySem.Spec PyProof.Rows L2 W0
abbrev sNo9 : Stmt := top 58
theorem scNo9 : FnScope ["roads", "found"] ["roads"] (defScope sNo9) := ⟨rfl, rfl, rfl, by decide +kernel, rfl, by decide +kernel, by decide +kernel⟩
def EvP (K : PySem.W.Frag) (ss : List Str) (rs : List (Str × Str)) : PV := OddM K fun G v => NoEv K G ss rs v
theorem evP_mon {K : PySem.W.Frag} {ss : List Str} {rs : List (Str × Str)} : MonP (EvP K ss rs) := OddM.mon fun _ _ _ e h => h.ext e
theorem plOf_same9 {rs : List (Str × Str)} (f : Forest rs) (s : Str) : plOf rs s s = none := by
  cases h : plOf rs s s with
  | none => rfl
  | some i =>
    obtain ⟨hi, e⟩ := plOf_at h
    have e : rs[i] = (s, s) := e.elim id id
    have := f i hi
    rw [e] at this
    exact absurd rfl this
theorem cut_fromO9 (xs : List V) (k : Nat) : cutV xs (some (k : Int)) none = xs.drop k := by
  unfold cutV
  rw [HT.sIx_none, HT.sIx_nat]
  by_cases h : k ≤ xs.length
  · rw [Nat.min_eq_left h, List.take_of_length_le (by rw [List.length_drop]; exact Nat.le_refl _)]
  · rw [Nat.min_eq_right (by omega), Nat.sub_self, List.take_zero, List.drop_of_length_le (by omega)]
def aV (qs : List Addr) (j : Nat) : V := .ref (qs.getD j 0)
theorem q_map {qs : List Addr} : qs.map V.ref = (List.range qs.length).map (aV qs) := by
  refine List.ext_getElem (by simp) fun i h1 h2 => ?_
  rw [List.length_map] at h1
  rw [List.getElem_map, List.getElem_map, List.getElem_range]
  unfold aV
  rw [List.getD_eq_getElem?_getD, List.getElem?_eq_getElem h1]
  rfl
theorem aV_tup {G : Hp} {qs : List Addr} {rs : List (Str × Str)} (pr : Paired (TupP G) qs rs) {j : Nat} (hj : j < rs.length) : ∃ u, aV qs j = .ref u ∧ G u = some (.tup [.str rs[j].1, .str rs[j].2]) := by
  obtain ⟨u, e, t⟩ := paired_get pr hj
  refine ⟨u, ?_, t⟩
  unfold aV
  rw [List.getD_eq_getElem?_getD, e]
  rfl
theorem road_js {G : Hp} {qs : List Addr} {rs : List (Str × Str)} (f : Forest rs) (pr : Paired (TupP G) qs rs) : ∀ {js : List Nat}, (∀ j ∈ js, j < rs.length) → Paired (RoadV G rs) (js.map (aV qs)) js
  | [], _ => .nil
  | j :: js, h => by
    obtain ⟨u, e, t⟩ := aV_tup pr (h j (List.mem_cons_self ..))
    exact .cons ⟨_, _, ⟨u, e, .inr t⟩, plOf_of f (h j (List.mem_cons_self ..))⟩ (road_js f pr fun x hx => h x (List.mem_cons_of_mem _ hx))
theorem ev_js {K : PySem.W.Frag} {G : Hp} {p : Addr} {qs : List Addr} {ss : List Str} {rs : List (Str × Str)} {js : List Nat} {zs : List V} (f : Forest rs) (pr : Paired (TupP G) qs rs) (gp : G p = some (.lst (js.map (aV qs) ++ zs))) (lj : ∀ j ∈ js, j < rs.length) (l : js.length + zs.length ≤ 100)
    (hz : ∀ z ∈ zs, RF 3 (wo (fun b => b = p) G) z z) (ne : (zs = [] ∧ (js.length ≠ rs.length ∧ js.Nodup ∨ ¬ js.Nodup)) ∨ (∃ z, zs = [z] ∧ (NoRd K G ss rs z ∨ ∃ i ∈ js, RoadV G rs z i))) : EvP K ss rs G (.ref p) := by
  have rj := road_js f pr lj
  have sv : SeqV G (.ref p) (js.map (aV qs) ++ zs) := ⟨p, rfl, .inl gp⟩
  have ll : (js.map (aV qs) ++ zs).length ≤ 100 := by rw [List.length_append, List.length_map]; exact l
  refine ⟨?_, .inr (.inr ⟨p, _, rfl, gp, ll, fun x hx => ?_⟩)⟩
  · rcases ne with ⟨rfl, h⟩ | ⟨z, rfl, h⟩
    · rw [List.append_nil] at sv ll
      rcases h with ⟨h1, h2⟩ | h
      · exact .inr ⟨js, ⟨_, sv, by omega, rj, h2⟩, h1⟩
      · exact .inl (no_perm sv (by omega) rj h)
    · rcases h with h | ⟨i, hi, h⟩
      · exact .inl (no_list (js2 := []) sv (by omega) rj .nil h)
      · exact .inl (no_perm (js := js ++ [i]) sv (by omega) (K1.paired_snoc rj h) fun n => (List.nodup_append.mp n).2.2 _ hi _ (List.mem_singleton.mpr rfl) rfl)
  · rcases List.mem_append.mp hx with hx | hx
    · obtain ⟨j, hj, rfl⟩ := List.mem_map.mp hx
      obtain ⟨u, e, t⟩ := aV_tup pr (lj j hj)
      rw [e]
      refine self_tup (wo_some.mpr ⟨(fun z => by rw [z, gp] at t; cases t), t⟩) (by show 2 ≤ 10000; decide) fun y hy => ?_
      simp only [List.mem_cons, List.not_mem_nil, or_false] at hy
      rcases hy with rfl | rfl <;> exact r_str _
    · exact hz x hx
theorem cut_neg {xs : List V} (h : 1 ≤ xs.length) : cutV xs none (some (-1)) = xs.take (xs.length - 1) := by
  unfold cutV
  rw [HT.sIx_none]
  have : HT.sIx xs.length xs.length (some (-1)) = xs.length - 1 := by
    show (if (-1 : Int) < 0 then ((-1 : Int) + (xs.length : Int)).toNat else min (-1 : Int).toNat xs.length) = _
    rw [if_pos (by decide)]
    omega
  rw [this, List.drop_zero, Nat.sub_zero]
theorem cut_12 {xs : List V} (h : 2 ≤ xs.length) : cutV xs (some 1) (some 2) = (xs.drop 1).take 1 := by
  unfold cutV
  rw [show (1 : Int) = ((1 : Nat) : Int) from rfl, show (2 : Int) = ((2 : Nat) : Int) from rfl, HT.sIx_nat, HT.sIx_nat, show min 1 xs.length = 1 by omega, show min 2 xs.length = 2 by omega]
theorem cut_1n {xs : List V} : cutV xs (some 1) none = xs.drop 1 := by
  rw [show (1 : Int) = ((1 : Nat) : Int) from rfl]
  exact cut_fromO9 xs 1
theorem cut_01 {xs : List V} : cutV xs none (some 1) = xs.take 1 := by
  rw [show (1 : Int) = ((1 : Nat) : Int) from rfl]
  exact cut_to xs 1
def spNo9 (K : PySem.W.Frag) : Sp := fun vs H Q _ => ∃ (p2 : Addr) (qs : List Addr) (ss : List Str) (rs : List (Str × Str)), vs = [.ref p2] ∧ H p2 = some (.lst (qs.map V.ref)) ∧ Paired (TupP H) qs rs ∧ Tree ss rs ∧ ss.length ≤ 60 ∧ NoBodyC ss ∧
  ∀ r ys H', Same H H' → H r = none → H' r = some (.lst ys) → V.ref r ∉ ys → AllF (fun _ => False) (EvP K ss rs) H H' ys → Q (.ref r) H'
section
variable {P : Program} {w : World} {K : PySem.W.Frag} {mg : Str → Option Value} {base : Heap}
theorem ok_No9 {f : Addr} {fd : FuncData} (F : Fun K "_law_no_evenings" "_law_no_evenings" sNo9 f fd) (B : Bl mg) : FnOk P w K mg base CX0 1 f fd ["roads"] (spNo9 K) := by
  refine F.ok scNo9 (fun vs H Q E h => ?_) (fun cdv A outer s H vs Q E hr h => ?_)
  · obtain ⟨p2, qs, ss, rs, rfl, _⟩ := h
    rfl
  obtain ⟨p2, qs, ss, rs, rfl, h2, pr, tr, ls, nb, q⟩ := h
  have nd := scNo9.nd
  refine ⟨_, (pss_cons (by exact (ps_set (i := 1) nd rfl (.inl rfl) (pe_lst (pa_cons pe_non (pa_cons pe_int (pa_cons pe_str (pa_cons pe_dnewK (pa_cons pe_bl (pa_cons (pe_op op_cat (pv 0) (pe_lst (pa_cons (pe_tup (pa_cons pe_str (pa_cons pe_str pa_nil))) pa_nil))) (pa_cons (pe_op op_cat (pe_slice sl_list (pv 0) (po_some pe_int) po_none) (pe_lst (pa_cons (pe_tup (pa_cons pe_str (pa_cons pe_str pa_nil))) pa_nil))) pa_nil))))))))))
  (pss_cons (by exact (ps_expr (pe_bm PySem.F.plainAttrs_list PySem.F.slot_list_extend PySem.F.type_list_extend mt_extend (pv 1) (pa_cons (pe_ifExp (pt_cmpR op_gt (pe_callB call_len_seq rfl B.len PySem.boot_len (pa_cons (pv 0) pa_nil)) pe_int (nomark _)) (pe_lst (pa_cons (pe_slice sl_list (pv 0) po_none (po_some (pe_un un_neg pe_int))) (pa_cons (pe_op op_cat (pv 0) (pe_slice sl_list (pv 0) po_none (po_some pe_int))) (pa_cons (pe_op op_cat (pe_slice sl_list (pv 0) (po_some pe_int) po_none) (pe_slice sl_list (pv 0) (po_some pe_int) (po_some pe_int))) pa_nil)))) (pe_lst (pa_cons (pe_lst (pa_cons (pe_tup (pa_cons pe_str (pa_cons pe_str pa_nil))) pa_nil)) pa_nil))) pa_nil))))
  (pss_cons (by exact (ps_if (pt_cmpR op_gt (pe_callB call_len_seq rfl B.len PySem.boot_len (pa_cons (pv 0) pa_nil)) pe_int (nomark _)) (pss_cons (by exact (ps_expr (pe_bm PySem.F.plainAttrs_list PySem.F.slot_list_extend PySem.F.type_list_extend mt_extend (pv 1) (pa_cons (pe_lst (pa_cons (pe_op op_cat (pe_slice sl_list (pv 0) (po_some pe_int) po_none) (pe_lst (pa_cons (pe_back (pe_ix ix_list (pv 0) pe_int (fun _ _ => rfl))) pa_nil))) (pa_cons (pe_op op_cat (pe_slice sl_list (pv 0) po_none (po_some (pe_un un_neg pe_int))) (pe_lst (pa_cons pe_non pa_nil))) (pa_cons (pe_op op_cat (pe_slice sl_list (pv 0) po_none (po_some (pe_un un_neg pe_int))) (pe_lst (pa_cons (pe_slice sl_tup (pe_ix ix_list (pv 0) (pe_un un_neg pe_int) (fun _ _ => rfl)) po_none (po_some pe_int)) pa_nil))) pa_nil)))) pa_nil))))
  (pss_one (by exact (ps_expr (pe_bm PySem.F.plainAttrs_list PySem.F.slot_list_append PySem.F.type_list_append mt_append (pv 1) (pa_cons (pe_op op_cat (pe_slice sl_list (pv 0) po_none (po_some (pe_un un_neg pe_int))) (pe_lst (pa_cons (pe_tup (pa_cons (pe_ix ix_tup (pe_ix ix_list (pv 0) (pe_un un_neg pe_int) (fun _ _ => rfl)) pe_int (fun _ _ => rfl)) (pa_cons (pe_ix ix_tup (pe_ix ix_list (pv 0) (pe_un un_neg pe_int) (fun _ _ => rfl)) pe_int (fun _ _ => rfl)) pa_nil))) pa_nil))) pa_nil)))))) pss_nil))
  (pss_one (by exact (ps_ret (pv 1))))))), ?_⟩
  have frs := tr.cut.forest
  have lq : qs.length = rs.length := pr.length
  have lr : rs.length ≤ 59 := by have := tr.len; omega
  have lm : (qs.map V.ref).length = rs.length := by rw [List.length_map, lq]
  have m := evP_mon (K := K) (ss := ss) (rs := rs)
  have qm : qs.map V.ref = (List.range rs.length).map (aV qs) := by rw [q_map, lq]
  have nR : (List.range rs.length).Nodup := List.nodup_range
  have ltR : ∀ j ∈ List.range rs.length, j < rs.length := fun j hj => List.mem_range.mp hj
  have h2n : H p2 ≠ none := by rw [h2]; exact Option.some_ne_none _
  have prG : ∀ {Ha G : Hp}, Same H Ha → (∀ b o, (H b ≠ none) → nt Ha b = some o → G b = some o) → Paired (TupP G) qs rs := fun e g => paired_imp (fun b r (hb : _ = _) => g _ _ (by rw [hb]; exact Option.some_ne_none _) (nt_t (e _ _ hb))) pr
  -- a list of roads and one tuple more
  have one : ∀ (Hb Hy : Hp) (e : Same H Hb) (e1 : Same Hb Hy) (T p : Addr) (xs : List V) (js : List Nat) (Q : VK), Hb T = none → Hy T = some (.tup xs) → (∀ x ∈ xs, ∃ s, x = .str s) → xs.length ≤ 2 → (∀ j ∈ js, j < rs.length) → js.length ≤ 59 → Hy p = none →
      (∀ G, G T = some (.tup xs) → NoRd K G ss rs (.ref T) ∨ ∃ i ∈ js, RoadV G rs (.ref T) i) → (∀ p Ha, Same Hb Ha → Hb p = none → Ha p ≠ none → (∀ G, (∀ b o, (H b ≠ none ∨ Hb b = none) → nt Ha b = some o → G b = some o) → EvP K ss rs G (.ref p)) → Q (.ref p) Ha) → Q (.ref p) (L2.upd Hy p (.lst (js.map (aV qs) ++ [.ref T]))) := by
    intro Hb Hy e e1 T p xs js Q hT gT hx lx lj l59 hp bad qq
    have e3 := K1.Same.upd (H := Hy) (p := p) (o := .lst (js.map (aV qs) ++ [.ref T])) hp
    have gp := upd_same' Hy p (.lst (js.map (aV qs) ++ [.ref T]))
    generalize L2.upd Hy p (.lst (js.map (aV qs) ++ [.ref T])) = H3 at e3 gp ⊢
    refine qq p H3 (e1.trans e3) (e1.free hp) (by rw [gp]; exact Option.some_ne_none _) fun G g => ?_
    have g1 := g _ _ (.inr (e1.free hp)) (nt_l gp)
    have g2 := g _ _ (.inr hT) (nt_t (e3 _ _ gT))
    refine ev_js frs (prG (e.trans (e1.trans e3)) fun b o n h => g b o (.inl n) h) g1 lj (by show js.length + 1 ≤ 100; omega) (fun z hz => ?_) (.inr ⟨_, rfl, bad G g2⟩)
    rw [List.mem_singleton.mp hz]
    refine self_tup (wo_some.mpr ⟨(fun z => by rw [z, g1] at g2; cases g2), g2⟩) (by omega) fun y hy => ?_
    obtain ⟨s, rfl⟩ := hx y hy
    exact r_str _
  -- a list of roads, and no more
  have noz : ∀ (Hb Hy : Hp) (e : Same H Hb) (e1 : Same Hb Hy) (p : Addr) (js : List Nat) (Q : VK), (∀ j ∈ js, j < rs.length) → js.length ≤ 99 → Hy p = none → (js.length ≠ rs.length ∧ js.Nodup ∨ ¬ js.Nodup) →
      (∀ p Ha, Same Hb Ha → Hb p = none → Ha p ≠ none → (∀ G, (∀ b o, (H b ≠ none ∨ Hb b = none) → nt Ha b = some o → G b = some o) → EvP K ss rs G (.ref p)) → Q (.ref p) Ha) → Q (.ref p) (L2.upd Hy p (.lst (js.map (aV qs)))) := by
    intro Hb Hy e e1 p js Q lj l99 hp bad qq
    have e3 := K1.Same.upd (H := Hy) (p := p) (o := .lst (js.map (aV qs))) hp
    have gp := upd_same' Hy p (.lst (js.map (aV qs)))
    generalize L2.upd Hy p (.lst (js.map (aV qs))) = H3 at e3 gp ⊢
    refine qq p H3 (e1.trans e3) (e1.free hp) (by rw [gp]; exact Option.some_ne_none _) fun G g => ?_
    have g1 := g _ _ (.inr (e1.free hp)) (nt_l gp)
    exact ev_js (zs := []) frs (prG (e.trans (e1.trans e3)) fun b o n h => g b o (.inl n) h) (by rw [List.append_nil]; exact g1) lj (by show js.length + 0 ≤ 100; omega) (fun z hz => by cases hz) (.inl ⟨rfl, bad⟩)
  have nobody : ∀ (G : Hp) (T : Addr), G T = some (.tup [.str "nobody", .str "none"]) → NoRd K G ss rs (.ref T) := fun G T g => .inr (.inr ⟨_, _, ⟨T, rfl, .inr g⟩, .inl (.inl ⟨_, rfl, nb.1⟩)⟩)
  have s1 : cutV (qs.map V.ref) (some 1) none = ((List.range rs.length).drop 1).map (aV qs) := by rw [cut_1n, qm, List.map_drop]
  have sm1 : 1 ≤ rs.length → cutV (qs.map V.ref) none (some (-1)) = ((List.range rs.length).take (rs.length - 1)).map (aV qs) := fun h => by rw [cut_neg (by rw [lm]; exact h), lm, qm, List.map_take]
  have s01 : cutV (qs.map V.ref) none (some 1) = ((List.range rs.length).take 1).map (aV qs) := by rw [cut_01, qm, List.map_take]
  have s12 : 2 ≤ rs.length → cutV (qs.map V.ref) (some 1) (some 2) = (((List.range rs.length).drop 1).take 1).map (aV qs) := fun h => by rw [cut_12 (by rw [lm]; exact h), qm, List.map_take, List.map_drop]
  have mD : ∀ k, ∀ j ∈ (List.range rs.length).drop k, j < rs.length := fun k j hj => ltR j (List.mem_of_mem_drop hj)
  have mT : ∀ k, ∀ j ∈ (List.range rs.length).take k, j < rs.length := fun k j hj => ltR j (List.mem_of_mem_take hj)
  have lR : (List.range rs.length).length = rs.length := List.length_range
  with_reducible refine sQ ?_
  refine mf_lst (P := EvP K ss rs) (n := 7) (H0 := H) ?_ (by decide) (Same.refl _) fun r vs H1 H1' e1 l1 a1 nr eH => ?_
  · refine mf_cons m (mf_c (fun G => odd_flat (.inl (.inl ⟨"NoneType", .base .non, by decide, rfl⟩)) (.base .non) (by decide) (by decide) (by decide) r_non) (fun p z => by cases z)) (mf_cons m (mf_c (fun G => odd_flat (.inl (.inl ⟨"int", .base (.int _), by decide, rfl⟩)) (.base (.int _)) (by decide) (by decide) (by decide) (r_int _)) (fun p z => by cases z)) (mf_cons m (mf_c (fun G => odd_flat (.inl (.inl ⟨"str", .base (.str _), by decide, rfl⟩)) (.base (.str _)) (by decide) (by decide) (by decide) (r_str _)) (fun p z => by cases z))
      (mf_cons m (mf_dict fun G p g => ⟨.inl (.inl ⟨"dict", .base (.dK g), by decide, rfl⟩), .inr (.inl ⟨p, rfl, g⟩)⟩) (mf_cons m (mf_c (fun G => odd_flat (.inl (.inl ⟨"bool", .base (.bl _), by decide, rfl⟩)) (.base (.bl _)) (by decide) (by decide) (by decide) (r_bl _)) (fun p z => by cases z)) (mf_cons m (mf_new fun Hb e Q q => ?_) (mf_cons m (mf_new fun Hb e Q q => ?_) mf_nil))))))
    · refine ⟨_, rfl, (by show 2 ≤ sizeLine; decide), fun T hT => ⟨(by show 1 ≤ sizeLine; decide), fun L hL => ?_⟩⟩
      have x1 := K1.Same.upd (H := Hb) (p := T) (o := .tup [.str "nobody", .str "none"]) hT
      have gT := upd_same' Hb T (.tup [.str "nobody", .str "none"])
      generalize L2.upd Hb T (.tup [.str "nobody", .str "none"]) = Hx at x1 gT hL ⊢
      have x2 := K1.Same.upd (H := Hx) (p := L) (o := .lst [.ref T]) hL
      have gL := upd_same' Hx L (.lst [.ref T])
      generalize L2.upd Hx L (.lst [.ref T]) = Hy at x2 gL ⊢
      refine ⟨p2, L, _, _, rfl, rfl, x2 _ _ (x1 _ _ (e _ _ h2)), gL, by rw [lm]; exact Nat.le_trans (show rs.length + 1 ≤ 60 by omega) (by decide), fun p hp => ?_⟩
      rw [qm]
      exact one Hb Hy e (x1.trans x2) T p _ _ Q hT (x2 _ _ gT) (fun x hx => by
        simp only [List.mem_cons, List.not_mem_nil, or_false] at hx
        rcases hx with rfl | rfl <;> exact ⟨_, rfl⟩) (by show 2 ≤ 2; decide) ltR (by omega) hp (fun G g => .inl (nobody G T g)) q
    · refine ⟨_, rfl, (1 : Int), rfl, p2, _, rfl, SqL.of (e _ _ h2), fun A hA => ?_⟩
      rw [s1]
      have x0 := K1.Same.upd (H := Hb) (p := A) (o := .lst (((List.range rs.length).drop 1).map (aV qs))) hA
      have gA := upd_same' Hb A (.lst (((List.range rs.length).drop 1).map (aV qs)))
      generalize L2.upd Hb A (.lst (((List.range rs.length).drop 1).map (aV qs))) = Hw at x0 gA ⊢
      refine ⟨(by show 2 ≤ sizeLine; decide), fun T hT => ⟨(by show 1 ≤ sizeLine; decide), fun L hL => ?_⟩⟩
      have x1 := K1.Same.upd (H := Hw) (p := T) (o := .tup [.str "nobody", .str "none"]) hT
      have gT := upd_same' Hw T (.tup [.str "nobody", .str "none"])
      generalize L2.upd Hw T (.tup [.str "nobody", .str "none"]) = Hx at x1 gT hL ⊢
      have x2 := K1.Same.upd (H := Hx) (p := L) (o := .lst [.ref T]) hL
      have gL := upd_same' Hx L (.lst [.ref T])
      generalize L2.upd Hx L (.lst [.ref T]) = Hy at x2 gL ⊢
      refine ⟨A, L, _, _, rfl, rfl, x2 _ _ (x1 _ _ gA), gL, by rw [List.length_map, List.length_drop, lR]; exact Nat.le_trans (show rs.length - 1 + 1 ≤ 60 by omega) (by decide), fun p hp => ?_⟩
      exact one Hb Hy e (x0.trans (x1.trans x2)) T p _ _ Q (x0.free hT) (x2 _ _ gT) (fun x hx => by
        simp only [List.mem_cons, List.not_mem_nil, or_false] at hx
        rcases hx with rfl | rfl <;> exact ⟨_, rfl⟩) (by show 2 ≤ 2; decide) (mD 1) (by rw [List.length_drop]; omega) hp (fun G g => .inl (nobody G T g)) q
  subst eH
  have er := K1.Same.upd (H := H1) (p := r) (o := .lst vs) nr
  have gr := upd_same' H1 r (.lst vs)
  have rvs : V.ref r ∉ vs := fun z => ((a1.1 _ z).2 r rfl).2 nr
  have a1' : AllF (fun b => b = r) (EvP K ss rs) H (L2.upd H1 r (.lst vs)) vs := by
    refine ⟨fun v hv => ⟨m _ _ _ (fun b o h => ?_) (a1.1 v hv).1, fun p hp => ⟨((a1.1 v hv).2 p hp).1, fun z => ?_⟩⟩, a1.2⟩
    · obtain ⟨n, h⟩ := wo_some.mp h
      refine wo_some.mpr ⟨fun z => ?_, nt_mono er _ _ h⟩
      rcases z with z | z
      · rw [z] at h
        have := (nt_some.mp h).1
        rw [nr] at this
        cases this
      · exact n (.inr z)
    · cases q2 : H1 p with
      | none => exact ((a1.1 v hv).2 p hp).2 q2
      | some o => rw [er _ _ q2] at z; cases z
  have e1r := e1.trans er
  have r0 : H r = none := e1.free nr
  generalize L2.upd H1 r (.lst vs) = H2 at er gr a1' e1r ⊢
  refine K1.gN ?_
  with_reducible refine sQ ?_
  have h2r : p2 ≠ r := fun z => by rw [z, r0] at h2; cases h2
  have h22 := e1r _ _ h2
  have fin : ∀ (H9 : Hp) (ys : List V), Same H H9 → H9 r = some (.lst ys) → V.ref r ∉ ys → AllF (fun b => b = r) (EvP K ss rs) H H9 ys → Q (.ref r) H9 := fun H9 ys e g rn a => q r ys H9 e r0 g rn (a.weak m fun b z => z.elim)
  have notin : ∀ {Hx Hy : Hp} {zs : List V}, Hx r ≠ none → AllF (fun b => H b = none ∧ Hx b ≠ none) (EvP K ss rs) Hx Hy zs → V.ref r ∉ zs := fun n a z => n ((a.1 _ z).2 r rfl).1
  have lvs : vs.length = 7 := l1
  refine ⟨_, rfl, .inl ⟨rfl, _, SqL.of gr⟩, ?_⟩
  refine cons_run ⟨_, rfl, p2, _, rfl, .inl (SqL.of h22), _, _, rfl, rfl, _, rfl, ?_⟩
  rw [lm]
  have test : ∀ {Hx : Hp}, True := fun {_} => trivial
  refine ite2 (fun c => ?_) (fun c => ?_)
  · have l2 : 2 ≤ rs.length := by have := of_decide_eq_true c; omega
    refine mf_lst (P := EvP K ss rs) (n := 3) (H0 := H) ?_ (by decide) e1r fun D ws H3 H3' e3 l3 a3 nD eH3 => ?_
    · refine mf_cons m (mf_new fun Hb e Q q => ?_) (mf_cons m (mf_new fun Hb e Q q => ?_) (mf_cons m (mf_new fun Hb e Q q => ?_) mf_nil))
      · refine ⟨_, rfl, _, rfl, (-1 : Int), rfl, p2, _, rfl, SqL.of (e _ _ h2), fun p hp => ?_⟩
        rw [sm1 (by omega)]
        exact noz Hb Hb e (Same.refl _) p _ Q (mT _) (by rw [List.length_take]; omega) hp (.inl ⟨by rw [List.length_take, lR]; omega, nR.sublist (List.take_sublist _ _)⟩) q
      · refine ⟨_, rfl, _, rfl, (1 : Int), rfl, p2, _, rfl, SqL.of (e _ _ h2), fun A hA => ?_⟩
        rw [s01]
        have x0 := K1.Same.upd (H := Hb) (p := A) (o := .lst (((List.range rs.length).take 1).map (aV qs))) hA
        have gA := upd_same' Hb A (.lst (((List.range rs.length).take 1).map (aV qs)))
        generalize L2.upd Hb A (.lst (((List.range rs.length).take 1).map (aV qs))) = Hw at x0 gA ⊢
        refine ⟨p2, A, _, _, rfl, rfl, x0 _ _ (e _ _ h2), gA, by rw [lm, List.length_map, List.length_take, lR]; exact Nat.le_trans (show rs.length + min 1 rs.length ≤ 60 by omega) (by decide), fun p hp => ?_⟩
        rw [qm, ← List.map_append]
        refine noz Hb Hw e x0 p _ Q (fun j hj => (List.mem_append.mp hj).elim (ltR j) (mT 1 j)) (by rw [List.length_append, List.length_take, lR]; omega) hp (.inr fun n => ?_) q
        have z0 : 0 ∈ (List.range rs.length).take 1 := List.mem_take_iff_getElem.mpr ⟨0, by rw [lR]; omega, by rw [List.getElem_range]⟩
        exact (List.nodup_append.mp n).2.2 0 (List.mem_range.mpr (by omega)) 0 z0 rfl
      · refine ⟨_, rfl, (1 : Int), rfl, p2, _, rfl, SqL.of (e _ _ h2), fun A hA => ?_⟩
        rw [s1]
        have x0 := K1.Same.upd (H := Hb) (p := A) (o := .lst (((List.range rs.length).drop 1).map (aV qs))) hA
        have gA := upd_same' Hb A (.lst (((List.range rs.length).drop 1).map (aV qs)))
        generalize L2.upd Hb A (.lst (((List.range rs.length).drop 1).map (aV qs))) = Hw at x0 gA ⊢
        refine ⟨_, rfl, (1 : Int), rfl, (2 : Int), rfl, p2, _, rfl, SqL.of (x0 _ _ (e _ _ h2)), fun A2 hA2 => ?_⟩
        rw [s12 l2]
        have x1 := K1.Same.upd (H := Hw) (p := A2) (o := .lst ((((List.range rs.length).drop 1).take 1).map (aV qs))) hA2
        have gA2 := upd_same' Hw A2 (.lst ((((List.range rs.length).drop 1).take 1).map (aV qs)))
        generalize L2.upd Hw A2 (.lst ((((List.range rs.length).drop 1).take 1).map (aV qs))) = Hx at x1 gA2 ⊢
        refine ⟨A, A2, _, _, rfl, rfl, x1 _ _ gA, gA2, by rw [List.length_map, List.length_map, List.length_take, List.length_drop, lR]; exact Nat.le_trans (show rs.length - 1 + min 1 (rs.length - 1) ≤ 60 by omega) (by decide), fun p hp => ?_⟩
        rw [← List.map_append]
        refine noz Hb Hx e (x0.trans x1) p _ Q (fun j hj => (List.mem_append.mp hj).elim (mD 1 j) fun h => mD 1 j (List.mem_of_mem_take h)) (by rw [List.length_append, List.length_take, List.length_drop, lR]; omega) hp (.inr fun n => ?_) q
        have ld : ((List.range rs.length).drop 1).length = rs.length - 1 := by rw [List.length_drop, lR]
        have z1 : 1 ∈ (List.range rs.length).drop 1 := List.mem_drop_iff_getElem.mpr ⟨0, by rw [lR]; omega, by rw [List.getElem_range]⟩
        have z2 : 1 ∈ ((List.range rs.length).drop 1).take 1 := List.mem_take_iff_getElem.mpr ⟨0, by rw [ld]; omega, by rw [List.getElem_drop, List.getElem_range]⟩
        exact (List.nodup_append.mp n).2.2 1 z1 1 z2 rfl
    subst eH3
    have eD := K1.Same.upd (H := H3) (p := D) (o := .lst ws) nD
    have gD := upd_same' H3 D (.lst ws)
    have a3' := a3.same m eD
    generalize L2.upd H3 D (.lst ws) = H4 at eD gD a3' ⊢
    have e24 := e3.trans eD
    have gr4 := e24 _ _ gr
    have rn : H2 r ≠ none := by rw [gr]; exact Option.some_ne_none _
    refine ⟨r, D, vs, ws, rfl, rfl, gr4, gD, by rw [lvs, l3]; decide, ?_⟩
    have k5 : Kept r H4 (L2.upd H4 r (.lst (vs ++ ws))) := Kept.upd
    have g5 := upd_same' H4 r (.lst (vs ++ ws))
    generalize L2.upd H4 r (.lst (vs ++ ws)) = H5 at k5 g5 ⊢
    have rn5 : H5 r ≠ none := by rw [g5]; exact Option.some_ne_none _
    have a5 := a1'.app m a3' e1r e24 r0 rn k5 rn5
    have n5 : V.ref r ∉ vs ++ ws := fun z => (List.mem_append.mp z).elim rvs (notin rn a3')
    have e5 : Same H H5 := fun b o h => k5 b o (fun z => by rw [z, r0] at h; cases h) (e24 _ _ (e1r _ _ h))
    have l5 : (vs ++ ws).length = 10 := by rw [List.length_append, lvs, l3]
    generalize vs ++ ws = vs5 at g5 a5 n5 l5
    dsimp only
    with_reducible refine sQ ?_
    have h25 := e5 _ _ h2
    refine ⟨_, rfl, p2, _, rfl, .inl (SqL.of h25), _, _, rfl, rfl, _, rfl, ?_⟩
    rw [lm, c]
    refine iteT ?_
    with_reducible refine sQ ?_
    refine ⟨_, rfl, .inl ⟨rfl, _, SqL.of g5⟩, ?_⟩
    have al : atI (qs.map V.ref) (-1) = some (aV qs (rs.length - 1)) := by
      obtain ⟨k, hk⟩ : ∃ k, rs.length = k + 1 := ⟨rs.length - 1, by omega⟩
      rw [qm, hk, List.range_succ, List.map_append]
      exact atI_last _ _
    have a1x : atI (qs.map V.ref) 1 = some (aV qs 1) := atI_nat (j := 1) (by rw [qm, List.getElem?_map, List.getElem?_range (by omega)]; rfl)
    obtain ⟨u1, eu1, gu1⟩ := aV_tup pr (show 1 < rs.length by omega)
    obtain ⟨u2, eu2, gu2⟩ := aV_tup pr (show rs.length - 1 < rs.length by omega)
    rw [eu1] at a1x
    rw [eu2] at al
    refine cons_run ?_
    refine mf_lst (P := EvP K ss rs) (n := 3) (H0 := H) ?_ (by decide) e5 fun D2 ws2 H6 H6' e6 l6 a6 nD2 eH6 => ?_
    · refine mf_cons m (mf_new fun Hb e Q q => ?_) (mf_cons m (mf_new fun Hb e Q q => ?_) (mf_cons m (mf_new fun Hb e Q q => ?_) mf_nil))
      · refine ⟨_, rfl, (1 : Int), rfl, p2, _, rfl, SqL.of (e _ _ h2), fun A hA => ?_⟩
        rw [s1]
        have x0 := K1.Same.upd (H := Hb) (p := A) (o := .lst (((List.range rs.length).drop 1).map (aV qs))) hA
        have gA := upd_same' Hb A (.lst (((List.range rs.length).drop 1).map (aV qs)))
        generalize L2.upd Hb A (.lst (((List.range rs.length).drop 1).map (aV qs))) = Hw at x0 gA ⊢
        refine ⟨_, rfl, p2, _, (1 : Int), .ref u1, rfl, rfl, SqL.of (x0 _ _ (e _ _ h2)), a1x, u1, _, _, rfl, SqT.of (x0 _ _ (e _ _ gu1)), fun T hT => ?_⟩
        have x1 := K1.Same.upd (H := Hw) (p := T) (o := .tup [.str rs[1].2, .str rs[1].1]) hT
        have gT := upd_same' Hw T (.tup [.str rs[1].2, .str rs[1].1])
        generalize L2.upd Hw T (.tup [.str rs[1].2, .str rs[1].1]) = Hx at x1 gT ⊢
        refine ⟨(by show 1 ≤ sizeLine; decide), fun L hL => ?_⟩
        have x2 := K1.Same.upd (H := Hx) (p := L) (o := .lst [.ref T]) hL
        have gL := upd_same' Hx L (.lst [.ref T])
        generalize L2.upd Hx L (.lst [.ref T]) = Hy at x2 gL ⊢
        refine ⟨A, L, _, _, rfl, rfl, x2 _ _ (x1 _ _ gA), gL, by rw [List.length_map, List.length_drop, lR]; exact Nat.le_trans (show rs.length - 1 + 1 ≤ 60 by omega) (by decide), fun p hp => ?_⟩
        refine one Hb Hy e (x0.trans (x1.trans x2)) T p _ _ Q (x0.free hT) (x2 _ _ gT) (fun x hx => by
          simp only [List.mem_cons, List.not_mem_nil, or_false] at hx
          rcases hx with rfl | rfl <;> exact ⟨_, rfl⟩) (by show 2 ≤ 2; decide) (mD 1) (by rw [List.length_drop]; omega) hp (fun G g => .inr ⟨1, ?_, _, _, ⟨T, rfl, .inr g⟩, ?_⟩) q
        · exact List.mem_drop_iff_getElem.mpr ⟨0, by rw [lR]; omega, by rw [List.getElem_range]⟩
        · rw [plOf_swap]
          exact plOf_of frs (by omega)
      · refine ⟨_, rfl, _, rfl, (-1 : Int), rfl, p2, _, rfl, SqL.of (e _ _ h2), fun A hA => ?_⟩
        rw [sm1 (by omega)]
        have x0 := K1.Same.upd (H := Hb) (p := A) (o := .lst (((List.range rs.length).take (rs.length - 1)).map (aV qs))) hA
        have gA := upd_same' Hb A (.lst (((List.range rs.length).take (rs.length - 1)).map (aV qs)))
        generalize L2.upd Hb A (.lst (((List.range rs.length).take (rs.length - 1)).map (aV qs))) = Hw at x0 gA ⊢
        refine ⟨(by show 1 ≤ sizeLine; decide), fun L hL => ?_⟩
        have x2 := K1.Same.upd (H := Hw) (p := L) (o := .lst [.non]) hL
        have gL := upd_same' Hw L (.lst [.non])
        generalize L2.upd Hw L (.lst [.non]) = Hy at x2 gL ⊢
        refine ⟨A, L, _, _, rfl, rfl, x2 _ _ gA, gL, by rw [List.length_map, List.length_take, lR]; exact Nat.le_trans (show min (rs.length - 1) rs.length + 1 ≤ 60 by omega) (by decide), fun p hp => ?_⟩
        have x3 := K1.Same.upd (H := Hy) (p := p) (o := .lst (((List.range rs.length).take (rs.length - 1)).map (aV qs) ++ [.non])) hp
        have gp := upd_same' Hy p (.lst (((List.range rs.length).take (rs.length - 1)).map (aV qs) ++ [.non]))
        generalize L2.upd Hy p (.lst (((List.range rs.length).take (rs.length - 1)).map (aV qs) ++ [.non])) = Hz at x3 gp ⊢
        refine q p Hz (x0.trans (x2.trans x3)) ((x0.trans x2).free hp) (by rw [gp]; exact Option.some_ne_none _) fun G g => ?_
        have g1 := g _ _ (.inr ((x0.trans x2).free hp)) (nt_l gp)
        refine ev_js frs (prG (e.trans (x0.trans (x2.trans x3))) fun b o n h => g b o (.inl n) h) g1 (mT _) (by rw [List.length_take, lR]; show min (rs.length - 1) rs.length + 1 ≤ 100; omega) (fun z hz => ?_) (.inr ⟨_, rfl, .inl (.inl ⟨"NoneType", .base .non, by decide, rfl⟩)⟩)
        rw [List.mem_singleton.mp hz]
        exact r_non
      · refine ⟨_, rfl, _, rfl, (-1 : Int), rfl, p2, _, rfl, SqL.of (e _ _ h2), fun A hA => ?_⟩
        rw [sm1 (by omega)]
        have x0 := K1.Same.upd (H := Hb) (p := A) (o := .lst (((List.range rs.length).take (rs.length - 1)).map (aV qs))) hA
        have gA := upd_same' Hb A (.lst (((List.range rs.length).take (rs.length - 1)).map (aV qs)))
        generalize L2.upd Hb A (.lst (((List.range rs.length).take (rs.length - 1)).map (aV qs))) = Hw at x0 gA ⊢
        refine ⟨_, rfl, _, rfl, p2, _, (-1 : Int), .ref u2, rfl, rfl, SqL.of (x0 _ _ (e _ _ h2)), al, (1 : Int), rfl, u2, _, rfl, SqT.of (x0 _ _ (e _ _ gu2)), (fun z => by have := z.2; exact absurd this (by show ¬ (min 1 2 = 2); decide)), fun T hT => ?_⟩
        have ec : cutV [V.str rs[rs.length - 1].1, .str rs[rs.length - 1].2] none (some 1) = [.str rs[rs.length - 1].1] := rfl
        rw [ec]
        have x1 := K1.Same.upd (H := Hw) (p := T) (o := .tup [.str rs[rs.length - 1].1]) hT
        have gT := upd_same' Hw T (.tup [.str rs[rs.length - 1].1])
        generalize L2.upd Hw T (.tup [.str rs[rs.length - 1].1]) = Hx at x1 gT ⊢
        refine ⟨(by show 1 ≤ sizeLine; decide), fun L hL => ?_⟩
        have x2 := K1.Same.upd (H := Hx) (p := L) (o := .lst [.ref T]) hL
        have gL := upd_same' Hx L (.lst [.ref T])
        generalize L2.upd Hx L (.lst [.ref T]) = Hy at x2 gL ⊢
        refine ⟨A, L, _, _, rfl, rfl, x2 _ _ (x1 _ _ gA), gL, by rw [List.length_map, List.length_take, lR]; exact Nat.le_trans (show min (rs.length - 1) rs.length + 1 ≤ 60 by omega) (by decide), fun p hp => ?_⟩
        exact one Hb Hy e (x0.trans (x1.trans x2)) T p _ _ Q (x0.free hT) (x2 _ _ gT) (fun x hx => ⟨_, List.mem_singleton.mp hx⟩) (by show 1 ≤ 2; decide) (mT _) (by rw [List.length_take]; omega) hp (fun G g => .inl (.inr (.inl ⟨_, ⟨T, rfl, .inr g⟩, by show 1 ≠ 2; decide⟩))) q
    subst eH6
    have eD2 := K1.Same.upd (H := H6) (p := D2) (o := .lst ws2) nD2
    have gD2 := upd_same' H6 D2 (.lst ws2)
    have a6' := a6.same m eD2
    generalize L2.upd H6 D2 (.lst ws2) = H7 at eD2 gD2 a6' ⊢
    have e57 := e6.trans eD2
    have g57 := e57 _ _ g5
    refine ⟨r, D2, vs5, ws2, rfl, rfl, g57, gD2, by rw [l5, l6]; decide, ?_⟩
    have k8 : Kept r H7 (L2.upd H7 r (.lst (vs5 ++ ws2))) := Kept.upd
    have g8 := upd_same' H7 r (.lst (vs5 ++ ws2))
    generalize L2.upd H7 r (.lst (vs5 ++ ws2)) = H8 at k8 g8 ⊢
    have rn8 : H8 r ≠ none := by rw [g8]; exact Option.some_ne_none _
    have a8 := a5.app m a6' e5 e57 r0 rn5 k8 rn8
    have n8 : V.ref r ∉ vs5 ++ ws2 := fun z => (List.mem_append.mp z).elim n5 (notin rn5 a6')
    have e8 : Same H H8 := fun b o h => k8 b o (fun z => by rw [z, r0] at h; cases h) (e57 _ _ (e5 _ _ h))
    have l8 : (vs5 ++ ws2).length = 13 := by rw [List.length_append, l5, l6]
    generalize vs5 ++ ws2 = vs8 at g8 a8 n8 l8
    dsimp only
    refine ⟨_, rfl, .inl ⟨rfl, _, SqL.of g8⟩, ?_⟩
    refine (mf_cons (P := EvP K ss rs) (n := 0) (H0 := H) m (mf_new fun Hb e Q q => ?_) mf_nil).run H8 e8 _ fun ws3 H9 e9 l9 a9 => ?_
    · skip
      refine ⟨_, rfl, _, rfl, (-1 : Int), rfl, p2, _, rfl, SqL.of (e _ _ h2), fun A hA => ?_⟩
      rw [sm1 (by omega)]
      have x0 := K1.Same.upd (H := Hb) (p := A) (o := .lst (((List.range rs.length).take (rs.length - 1)).map (aV qs))) hA
      have gA := upd_same' Hb A (.lst (((List.range rs.length).take (rs.length - 1)).map (aV qs)))
      generalize L2.upd Hb A (.lst (((List.range rs.length).take (rs.length - 1)).map (aV qs))) = Hw at x0 gA ⊢
      refine ⟨_, rfl, _, rfl, p2, _, (-1 : Int), .ref u2, rfl, rfl, SqL.of (x0 _ _ (e _ _ h2)), al, u2, _, (0 : Int), _, rfl, rfl, SqT.of (x0 _ _ (e _ _ gu2)), rfl, _, rfl, _, rfl, p2, _, (-1 : Int), .ref u2, rfl, rfl, SqL.of (x0 _ _ (e _ _ h2)), al, u2, _, (0 : Int), _, rfl, rfl, SqT.of (x0 _ _ (e _ _ gu2)), rfl, (by show 2 ≤ sizeLine; decide), fun T hT => ?_⟩
      have x1 := K1.Same.upd (H := Hw) (p := T) (o := .tup [.str rs[rs.length - 1].1, .str rs[rs.length - 1].1]) hT
      have gT := upd_same' Hw T (.tup [.str rs[rs.length - 1].1, .str rs[rs.length - 1].1])
      generalize L2.upd Hw T (.tup [.str rs[rs.length - 1].1, .str rs[rs.length - 1].1]) = Hx at x1 gT ⊢
      refine ⟨(by show 1 ≤ sizeLine; decide), fun L hL => ?_⟩
      have x2 := K1.Same.upd (H := Hx) (p := L) (o := .lst [.ref T]) hL
      have gL := upd_same' Hx L (.lst [.ref T])
      generalize L2.upd Hx L (.lst [.ref T]) = Hy at x2 gL ⊢
      refine ⟨A, L, _, _, rfl, rfl, x2 _ _ (x1 _ _ gA), gL, by rw [List.length_map, List.length_take, lR]; exact Nat.le_trans (show min (rs.length - 1) rs.length + 1 ≤ 60 by omega) (by decide), fun p hp => ?_⟩
      exact one Hb Hy e (x0.trans (x1.trans x2)) T p _ _ Q (x0.free hT) (x2 _ _ gT) (fun x hx => by
        simp only [List.mem_cons, List.not_mem_nil, or_false] at hx
        rcases hx with rfl | rfl <;> exact ⟨_, rfl⟩) (by show 2 ≤ 2; decide) (mT _) (by rw [List.length_take]; omega) hp (fun G g => .inl (.inr (.inr ⟨_, _, ⟨T, rfl, .inr g⟩, .inr ⟨_, rfl, (tr.ends _ (List.getElem_mem _)).1, .inr ⟨_, rfl, (tr.ends _ (List.getElem_mem _)).1, plOf_same9 frs _⟩⟩⟩))) q
    obtain ⟨w0, rfl⟩ : ∃ w0, ws3 = [w0] := List.length_eq_one_iff.mp l9
    refine ⟨r, vs8, w0, rfl, rfl, e9 _ _ g8, by rw [l8]; decide, ?_⟩
    have k10 : Kept r H9 (L2.upd H9 r (.lst (vs8 ++ [w0]))) := Kept.upd
    have g10 := upd_same' H9 r (.lst (vs8 ++ [w0]))
    generalize L2.upd H9 r (.lst (vs8 ++ [w0])) = H10 at k10 g10 ⊢
    refine ⟨_, rfl, fin H10 (vs8 ++ [w0]) (fun b o h => k10 b o (fun z => by rw [z, r0] at h; cases h) (e9 _ _ (e8 _ _ h))) g10 (fun z => (List.mem_append.mp z).elim n8 (notin rn8 a9)) (a8.app m a9 e8 e9 r0 rn8 k10 (by rw [g10]; exact Option.some_ne_none _))⟩
  · refine mf_lst (P := EvP K ss rs) (n := 1) (H0 := H) ?_ (by decide) e1r fun D ws H3 H3' e3 l3 a3 nD eH3 => ?_
    · refine mf_cons m (mf_new fun Hb e Q q => ?_) mf_nil
      refine ⟨(by show 2 ≤ sizeLine; decide), fun T hT => ⟨(by show 1 ≤ sizeLine; decide), fun p hp => ?_⟩⟩
      have x1 := K1.Same.upd (H := Hb) (p := T) (o := .tup [.str "a", .str "a"]) hT
      have gT := upd_same' Hb T (.tup [.str "a", .str "a"])
      generalize L2.upd Hb T (.tup [.str "a", .str "a"]) = Hx at x1 gT hp ⊢
      refine one Hb Hx e x1 T p [.str "a", .str "a"] [] Q hT gT (fun x hx => by
        simp only [List.mem_cons, List.not_mem_nil, or_false] at hx
        rcases hx with rfl | rfl <;> exact ⟨_, rfl⟩) (by show 2 ≤ 2; decide) (fun j hj => by cases hj) (by show 0 ≤ 59; decide) hp (fun G g => .inl (.inr (.inr ⟨_, _, ⟨T, rfl, .inr g⟩, ?_⟩))) q
      by_cases ca : ("a" : Str) ∈ ss
      · exact .inr ⟨_, rfl, ca, .inr ⟨_, rfl, ca, plOf_same9 frs _⟩⟩
      · exact .inl (.inl ⟨_, rfl, ca⟩)
    subst eH3
    have eD := K1.Same.upd (H := H3) (p := D) (o := .lst ws) nD
    have gD := upd_same' H3 D (.lst ws)
    have a3' := a3.same m eD
    generalize L2.upd H3 D (.lst ws) = H4 at eD gD a3' ⊢
    have e24 := e3.trans eD
    have gr4 := e24 _ _ gr
    have rn : H2 r ≠ none := by rw [gr]; exact Option.some_ne_none _
    refine ⟨r, D, vs, ws, rfl, rfl, gr4, gD, by rw [lvs, l3]; decide, ?_⟩
    have k5 : Kept r H4 (L2.upd H4 r (.lst (vs ++ ws))) := Kept.upd
    have g5 := upd_same' H4 r (.lst (vs ++ ws))
    generalize L2.upd H4 r (.lst (vs ++ ws)) = H5 at k5 g5 ⊢
    have e5 : Same H H5 := fun b o h => k5 b o (fun z => by rw [z, r0] at h; cases h) (e24 _ _ (e1r _ _ h))
    dsimp only
    with_reducible refine sQ ?_
    refine ⟨_, rfl, p2, _, rfl, .inl (SqL.of (e5 _ _ h2)), _, _, rfl, rfl, _, rfl, ?_⟩
    rw [lm]
    refine ite2 (fun c2 => absurd c2 c) (fun _ => ?_)
    refine nQ ?_
    exact ⟨_, rfl, fin H5 (vs ++ ws) e5 g5 (fun z => (List.mem_append.mp z).elim rvs (notin rn a3')) (a1'.app m a3' e1r e24 r0 rn k5 (by rw [g5]; exact Option.some_ne_none _))⟩
end
end K1
end
-- MRf
section
set_option Elab.async false
set_option linter.all false
set_option maxRecDepth 100000
set_option maxHeartbeats 4000000
namespace K1
open PySem PySem.Spec PyProof.Rows L2 W0
abbrev sRr : Stmt := top 62
def qRef : Str := "_law_refused_right.<locals>." ++ "<lambda>"
theorem scRr : FnScope ["made", "names", "roads", "evening", "gate", "odd", "found"] ["made", "names", "roads", "evening"] (defScope sRr) := ⟨rfl, rfl, rfl, by decide +kernel, rfl, by decide +kernel, by decide +kernel⟩
theorem same_reps {H : Hp} {tg : Str} {y : V} {W : Addr} (hW : H W = some (.tup [.str tg, y])) (r : (RF 5) H y y) : ∀ (n : Nat) {zs : List V}, Paired (TagP tg H) zs (List.replicate n y) → Paired (RF 6 H) zs (List.replicate n (.ref W))
  | 0, _, .nil => .nil
  | n + 1, _, .cons ⟨p, e, hp⟩ t => .cons (by subst e; exact r_tups hp hW (by show 2 ≤ 10000; decide) (.cons (r_str _) (.cons r .nil))) (same_reps hW r n t)
theorem flat_rep {α : Type} {x : α} : ∀ n : Nat, (List.replicate n [x]).flatten = List.replicate n x
  | 0 => rfl
  | n + 1 => by
    rw [List.replicate_succ, List.flatten_cons, List.replicate_succ, flat_rep n]
    rfl
/-- what was refused is told as it is, though it has been made longer since -/
theorem rep9 {K : PySem.W.Frag} {R : PV} {G : Hp} {TT : List (Addr × Str)} {Qv : VK} {σ : L2.St} {H0 H : Hp} {Fd : Addr} {tg : Str} {y : V} {zs : List V} {i j : Nat} (n : Nat) (hn : n ≤ 10) (h1 : σ[i]? = some (some (.ref Fd))) (h0 : σ[j]? = some (some y)) (f : Fnd tg TT H0 H Fd zs (List.replicate n y)) (o : OddM K R G y) (e : Same G (nt H0))
    (q : ∀ H' Hm, OffV1 y H Hm → Same Hm H' → LamX.Tabs TT H' → Qv (.bl true) H') :
    tCall (spSm (RF 7)) [] E0 (tCons (tVar i) (tCons (tOp rRep (tLst (tCons (tTup (tCons (tC (.str tg)) (tCons (tCall (spLg K) [] E0 (tCons (tVar j) tNil)) tNil))) tNil)) (tC (.int (n : Int)))) tNil)) σ H Qv := by
  have eGH : Same G H := e.trans (nt_to f.ext)
  have gF : G Fd = none := by
    cases q2 : G Fd with
    | none => rfl
    | some o' =>
      have a := nt_some.mp (e _ _ q2)
      obtain ⟨ps, hps⟩ := f.new _ a.1
      exact absurd hps (a.2 ps)
  refine ⟨_, h1, ?_⟩
  refine odd_longer o eGH f.tb h0 fun H2 off kp rf t2 => ?_
  refine ⟨(by show 2 ≤ sizeLine; decide), fun W hW => ⟨(by show 1 ≤ sizeLine; decide), fun L hL => ⟨L, (n : Int), _, rfl, rfl, upd_same, by omega, by omega, ?_, fun M hM => ?_⟩⟩⟩
  · show 1 * (n : Int).toNat ≤ 2 ^ 24
    omega
  have s1 := K1.Same.upd (H := H2) (p := W) (o := .tup [.str tg, y]) hW
  have gW := upd_same' H2 W (.tup [.str tg, y])
  generalize L2.upd H2 W (.tup [.str tg, y]) = H7 at s1 gW hL hM ⊢
  have s2 := K1.Same.upd (H := H7) (p := L) (o := .lst [.ref W]) hL
  generalize L2.upd H7 L (.lst [.ref W]) = H8 at s2 hM ⊢
  have s3 := K1.Same.upd (H := H8) (p := M) (o := .lst (List.replicate (n : Int).toNat [V.ref W]).flatten) hM
  have gM : L2.upd H8 M (.lst (List.replicate (n : Int).toNat [V.ref W]).flatten) M = some (.lst (List.replicate n (V.ref W))) := by
    rw [upd_same, Int.toNat_natCast]
    rw [flat_rep]
  generalize L2.upd H8 M (.lst (List.replicate (n : Int).toNat [V.ref W]).flatten) = H9 at s3 gM ⊢
  have s29 : Same H2 H9 := s1.trans (s2.trans s3)
  have lz : zs.length = n := by rw [f.prs.length, List.length_replicate]
  have pp : Paired (RF 6 H9) zs (List.replicate n (.ref W)) := same_reps (s3 _ _ (s2 _ _ gW)) (RF.up (RF.mon 4 _ _ _ _ s29 rf)) n (paired_imp (fun a b ⟨x, e, hx⟩ => ⟨x, e, s29 _ _ (kp _ _ hx (.inr ⟨_, rfl⟩))⟩) f.prs)
  exact ⟨_, _, rfl, show NextF (RF 6) H9 (.ref Fd) (.ref M) from r_lists (s29 _ _ (kp _ _ f.lst (.inl gF))) gM (by omega) pp, fun H10 e10 => q H10 H2 off (s29.trans e10) (tabs_same t2 (s29.trans e10))⟩
/-- one that was refused -/
theorem one9 {K : PySem.W.Frag} {R : PV} {G : Hp} {TT : List (Addr × Str)} {CV CN CO CM CR : Addr} {tg fld : Str} {t : XK → TE} {Qv : VK} {σ : L2.St} {H0 H : Hp} {z : V} {y : V} {i j : Nat} (h1 : σ[i]? = some (some z)) (h0 : σ[j]? = some (some y)) (tz : TagP tg H z y) (tb : LamX.Tabs TT H) (o : OddM K R G y) (e : Same G H)
    (q : ∀ H' Hm, OffV1 y H Hm → Same Hm H' → LamX.Tabs TT H' → Qv (.bl true) H') :
    tCall (spSm (RF 7)) [] E0 (tCons (tVar i) (tCons (tTup (tCons (tC (.str tg)) (tCons (tCall (spLg K) [] E0 (tCons (tVar j) tNil)) tNil))) tNil)) σ H Qv := by
  refine ⟨_, h1, ?_⟩
  refine odd_longer o e tb h0 fun H2 off kp rf t2 => ?_
  refine ⟨(by show 2 ≤ sizeLine; decide), fun W hW => ?_⟩
  have s1 := K1.Same.upd (H := H2) (p := W) (o := .tup [.str tg, y]) hW
  have gW := upd_same' H2 W (.tup [.str tg, y])
  generalize L2.upd H2 W (.tup [.str tg, y]) = H7 at s1 gW ⊢
  obtain ⟨p, rfl, hp⟩ := tz
  have r6 : RF 6 H7 (.ref p) (.ref W) := r_tups (s1 _ _ (kp _ _ hp (.inr ⟨_, rfl⟩))) gW (by show 2 ≤ 10000; decide) (.cons (r_str _) (.cons (RF.up (RF.mon 4 _ _ _ _ s1 rf)) .nil))
  exact ⟨_, _, rfl, RF.up r6, fun H10 e10 => q H10 H2 off (s1.trans e10) (tabs_same t2 (s1.trans e10))⟩
theorem OffK.step {ys : List V} {k : Nat} {H Hc Hd Hm He : Hp} (o : OffK ys k H Hc) (hk : k < ys.length) (e : LamX.ExtN Hc Hd) (off : OffV1 ys[k] Hd Hm) (e2 : Same Hm He) : OffK ys (k + 1) H He := fun b o' n h => by
  rw [take_snoc hk] at n
  have n1 : V.ref b ∉ ys.take k := fun z => n (List.mem_append_left _ z)
  have n2 : ys[k] ≠ .ref b := fun z => n (List.mem_append_right _ (List.mem_singleton.mpr z.symm))
  exact e2 _ _ (off _ _ n2 (e _ _ (o b o' n1 h) (nt_some.mp h).2))
theorem iTup_run {K : PySem.W.Frag} {te : TE} {g : TG} {tb : TS} {D : Ends} {σ : L2.St} {H : Hp} (h : te σ H fun x H1 => ∃ a, x = .ref a ∧ (∃ xs, SqT K H1 a xs) ∧ ∃ W : Nat → Nat → L2.St → Hp → Prop, (∃ m, W 0 m σ H1) ∧ ∀ i m σ H, W i m σ H →
  ((Itt K a).stop i H ∧ D.nx σ H) ∨ ((Itt K a).go i H ∧ ∃ N : L2.St → Hp → Prop, (∀ σ' H', N σ' H' → ∃ m', m' < m ∧ W (i + 1) m' σ' H') ∧ ∀ x H', (Itt K a).yld i H x H' → g x σ H' fun σ2 H2 => tb { D with nx := N, ct := N, bk := D.nx } σ2 H2)) : tFor (iTup K te) g tb D σ H := h
theorem mf_val {H0 : Hp} {σ : L2.St} {t : TE} {P : PV} {x : V} (h : ∀ Hb, Same H0 Hb → ∀ Q : VK, Q x Hb → t σ Hb Q) (g : ∀ G, P G x) (n : ∀ p, x ≠ .ref p) : MF H0 t σ P := ⟨fun Hb e Q q => h Hb e Q (q x Hb (Same.refl _) (g _) fun p z => absurd z (n p))⟩
def HoP (K : PySem.W.Frag) (ss : List Str) : PV := OddM K fun G v => NoHo K G ss v
theorem hoP_mon {K : PySem.W.Frag} {ss : List Str} : MonP (HoP K ss) := OddM.mon fun _ _ _ e h => h.ext e
def MnP (K : PySem.W.Frag) (n : Nat) : PV := OddM K fun G v => (∃ i : Int, v = .int i ∧ (i < 0 ∨ (n : Int) < i)) ∨ NotI K G v
theorem mnP_mon {K : PySem.W.Frag} {n : Nat} : MonP (MnP K n) := OddM.mon fun _ _ _ e h => h.imp id fun ⟨t, a, b⟩ => ⟨t, TyX.ext a e, b⟩
theorem ext_off {H Hc Hd Hm He : Hp} {y : V} (a : LamX.ExtN H Hc) (b : LamX.ExtN Hc Hd) (off : OffV1 y Hd Hm) (e : Same Hm He) (n : ∀ p, y = .ref p → H p = none) : LamX.ExtN H He := fun x o h t => by
  refine e _ _ (off _ _ (fun z => ?_) (b _ _ (a _ _ h t) t))
  rw [n x z] at h
  cases h
def spRr9 (C : Addr) (TT : List (Addr × Str)) : Sp := fun vs H Q _ => ∃ (x p1 p2 r : Addr) (qs us : List Addr) (ss : List Str) (rs es : List (Str × Str)) (ns : List Int), vs = [.ref x, .ref p1, .ref p2, .ref r] ∧ IsV C (nt H) x ss rs ns ∧ Tree ss rs ∧ ss.length ≤ 60 ∧ NoBodyC ss ∧ Good ss ∧ 1 ≤ ss.length ∧
  H p1 = some (.lst (ss.map V.str)) ∧ H p2 = some (.lst (qs.map V.ref)) ∧ Paired (TupP H) qs rs ∧ H r = some (.lst (us.map V.ref)) ∧ Paired (TupP H) us es ∧ es.Perm rs ∧ LamX.Tabs TT H ∧ ∀ H', LamX.ExtN H H' → LamX.Tabs TT H' → Q (.bl true) H'
theorem perm_js {rs es : List (Str × Str)} (p : es.Perm rs) (n : rs.Nodup) : ∃ js : List Nat, js.Nodup ∧ (∀ j ∈ js, j < rs.length) ∧ js.length = rs.length ∧ es = js.map (roadAt rs) := by
  have at_ : ∀ e ∈ es, rs.idxOf e < rs.length ∧ roadAt rs (rs.idxOf e) = e := fun e he => by
    have h := List.idxOf_lt_length_of_mem (p.mem_iff.mp he)
    refine ⟨h, ?_⟩
    unfold roadAt
    rw [List.getElem?_eq_getElem h, List.getElem_idxOf]
    rfl
  refine ⟨es.map rs.idxOf, nodup_on (p.nodup_iff.mpr n) fun x hx y hy z => ?_, fun j hj => ?_, by rw [List.length_map, p.length_eq], ?_⟩
  · rw [← (at_ x hx).2, z, (at_ y hy).2]
  · obtain ⟨e, he, rfl⟩ := List.mem_map.mp hj
    exact (at_ e he).1
  · rw [List.map_map]
    conv => lhs; rw [← List.map_id es]
    exact List.map_congr_left fun e he => ((at_ e he).2).symm
theorem atpl_map {rs : List (Str × Str)} : ∀ {js : List Nat}, (∀ j ∈ js, j < rs.length) → AtPl rs js (js.map (roadAt rs))
  | [], _ => .nil
  | j :: js, h => by
    have hj := h j (List.mem_cons_self ..)
    refine .cons ?_ (atpl_map fun x hx => h x (List.mem_cons_of_mem _ hx))
    rw [(roadAt_mem hj).1, List.getElem?_eq_getElem hj]
theorem ev_of {G : Hp} {r : Addr} {us : List Addr} {rs : List (Str × Str)} {js : List Nat} (f : Forest rs) (hr : G r = some (.lst (us.map V.ref))) (pr : Paired (TupP G) us (js.map (roadAt rs))) (n : js.Nodup) (l : ∀ j ∈ js, j < rs.length) (lj : js.length = rs.length) (l60 : rs.length ≤ 60) : EvV G rs (.ref r) js := by
  have lu := pr.length
  rw [List.length_map] at lu
  exact ⟨⟨_, ⟨r, rfl, .inl hr⟩, by rw [List.length_map]; omega, roads_go f pr (atpl_map l), n⟩, lj⟩
section
variable {P : Program} {w : World} {K : PySem.W.Frag} {mg : Str → Option Value} {base : Heap} {C CV CE CN CM : Addr}
theorem ok_Rr {f c TP fm fO fD fG fL fZ fU fQ : Addr} {fdm od_ dd gd ld zd ud qd : FuncData} {oc kVx doc pm ct : Value} {od an : Option Addr} {osl : Array (Option Value)} (B : Bl mg) (lk : K.lookup f = some ⟨oc, od, .func (PySem.W.fnOf "_law_refused_right" "_law_refused_right" (defArgs sRr) (defBody sRr) (defScope sRr) .none kVx doc pm an (.ref c) ct), osl⟩) (hcd : PySem.W.codeIn K (.ref c) "_law_refused_right" = true)
    (MG : MetU K mg CV CE CN CM) (Fm : Fun K "_law_met" "_law_met" sMt fm fdm) (bm : Binds K fdm ["ask"] []) (mm : mg "_law_met" = some (.ref fm)) (TB : LamX.TabB base mg c TP) {TT : List (Addr × Str)} (hT : (TP, qRef) ∈ TT) (hU : ∀ p ∈ TT, p.1 = TP → p.2 = qRef)
    (GO : FnOk P w K mg base CX0 1 fO od_ ["names"] (spNv9 K)) (bO : Binds K od_ ["names"] []) (kO : PySem.W.keepIn K (.ref fO) = true) (mO : mg "_law_no_valleys" = some (.ref fO))
    (GD : FnOk P w K mg base CX0 1 fD dd ["roads"] (spNo9 K)) (bD : Binds K dd ["roads"] []) (kD : PySem.W.keepIn K (.ref fD) = true) (mD : mg "_law_no_evenings" = some (.ref fD))
    (GG : FnOk P w K mg base (L2.CX P w) 8 fG gd ["valley", "evening", "gate"] (spGl K C CV CE CN)) (bG : Binds K gd ["valley", "evening", "gate"] []) (kG : PySem.W.keepIn K (.ref fG) = true) (mG : mg "gate_list" = some (.ref fG))
    (GL : FnOk P w K mg base (L2.CX P w) 8 fL ld ["valley", "evening", "gate", "many"] (spLb9 K C CV CE CN CM)) (bL : Binds K ld ["valley", "evening", "gate", "many"] []) (kL : PySem.W.keepIn K (.ref fL) = true) (mL : mg "lists_behind" = some (.ref fL))
    (GZ : FnOk P w K mg base (L2.CX P w) 8 fZ zd ["valley", "evening", "gate", "house"] (spHs9 K C CV CE CN)) (bZ : Binds K zd ["valley", "evening", "gate", "house"] []) (kZ : PySem.W.keepIn K (.ref fZ) = true) (mZ : mg "hands" = some (.ref fZ))
    (GU : FnOk P w K mg base CX0 1 fU ud ["thing"] (spLg K)) (bU : Binds K ud ["thing"] []) (kU : PySem.W.keepIn K (.ref fU) = true) (mU : mg "_law_longer" = some (.ref fU))
    (GQ : FnOk P w K mg base CX0 7 fQ qd ["found", "due"] (spSm (RF 7))) (bQ : Binds K qd ["found", "due"] []) (kQ : PySem.W.keepIn K (.ref fQ) = true) (mQ : mg "_law_same" = some (.ref fQ)) :
    FnOk P w K mg base CX0 11 f (PySem.W.fnOf "_law_refused_right" "_law_refused_right" (defArgs sRr) (defBody sRr) (defScope sRr) .none kVx doc pm an (.ref c) ct) ["made", "names", "roads", "evening"] (spRr9 C TT) := by
  obtain ⟨ocm, odm, kVm, docm, pmm, anm, cdvm, ctm, oslm, rfl, lkm, hcm⟩ := Fm.ex
  have km := Fm.kp
  refine fn_of lk hcd scRr (fun vs H Q E h => ?_) (fun A outer s0 H vs Q E hrL h => ?_)
  · obtain ⟨x, p1, p2, r, qs, us, ss, rs, es, ns, rfl, _⟩ := h
    rfl
  obtain ⟨x, p1, p2, r, qs, us, ss, rs, es, ns, rfl, iv, tr, ls, nb, good, l1, h1, h2, pr, h3, pu, pe, tb, q⟩ := h
  suffices hh : ∃ t0, PSs (cxOf CX0 P w K mg base ["made", "names", "roads", "evening", "gate", "odd", "found"] "_law_refused_right" (defScope sRr) f (.ref c) A outer s0 H E).nox (defBody sRr) t0 ∧ t0 { nx := fun _ H' => Q .non H', rt := Q } (L2.start ["made", "names", "roads", "evening", "gate", "odd", "found"] [.ref x, .ref p1, .ref p2, .ref r]) H by
    obtain ⟨t0, h1, h2⟩ := hh
    exact ⟨t0, h1.nox, h2⟩
  have nd := scRr.nd
  have hu := hu_of hrL
  have hr1 : Room 1 _ := hrL.mono (by decide)
  have hr7 : Room 7 _ := hrL.mono (by decide)
  refine ⟨_, (pss_cons (by exact (ps_set (i := 4) nd rfl (.inr rfl) (pe_ix ix_list (pv 1) pe_int (fun _ _ => rfl))))
  (pss_cons (by exact (ps_for PassesOwn.never rfl (by exact pi_list (pe_call GO hr1 rfl mO kO bO .nil pass0 (pa_cons (pv 1) pa_nil))) (pg_name (i := 5) nd rfl (.inr rfl)) (pss_cons (by exact (ps_set (i := 6) nd rfl (.inl rfl) (pe_lst (pa_cons (LamX.pe_lamcall (k := 8) (t := fun E => tCall (spGl K C CV CE CN) [] E (tCons (tVar 5) (tCons (tC .non) (tCons (tC .non) tNil)))) rfl mm km lkm hcm bm scMt rfl (.inl rfl) (mt_gives MG) TB rfl hT hU (by exact hrL) (LamX.lamS_by (by with_unfolding_all rfl)) rfl (fun _ _ _ _ _ => rfl) (fun A outer s H E f c' hz => by exact (pe_call GG (hz.mono (by decide)) rfl mG kG bG .nil (passes_call (takes_of rfl rfl rfl rfl) (fun _ _ _ _ h => h)) (pa_cons (pv 5) (pa_cons pe_non (pa_cons pe_non pa_nil)))))) pa_nil))))
  (pss_cons (by exact (ps_expr (pe_bm PySem.F.plainAttrs_list PySem.F.slot_list_append PySem.F.type_list_append mt_append (pv 6) (pa_cons (LamX.pe_lamcall (k := 8) (t := fun E => tCall (spLb9 K C CV CE CN CM) [] E (tCons (tVar 5) (tCons (tC .non) (tCons (tC .non) (tCons (tC .non) tNil))))) rfl mm km lkm hcm bm scMt rfl (.inl rfl) (mt_gives MG) TB rfl hT hU (by exact hrL) (LamX.lamS_by (by with_unfolding_all rfl)) rfl (fun _ _ _ _ _ => rfl) (fun A outer s H E f c' hz => by exact (pe_call GL (hz.mono (by decide)) rfl mL kL bL .nil (passes_call (takes_of rfl rfl rfl rfl) (fun _ _ _ _ h => h)) (pa_cons (pv 5) (pa_cons pe_non (pa_cons pe_non (pa_cons pe_non pa_nil))))))) pa_nil))))
  (pss_cons (by exact (ps_expr (pe_bm PySem.F.plainAttrs_list PySem.F.slot_list_append PySem.F.type_list_append mt_append (pv 6) (pa_cons (LamX.pe_lamcall (k := 8) (t := fun E => tCall (spHs9 K C CV CE CN) [] E (tCons (tVar 5) (tCons (tC .non) (tCons (tC .non) (tCons (tC .non) tNil))))) rfl mm km lkm hcm bm scMt rfl (.inl rfl) (mt_gives MG) TB rfl hT hU (by exact hrL) (LamX.lamS_by (by with_unfolding_all rfl)) rfl (fun _ _ _ _ _ => rfl) (fun A outer s H E f c' hz => by exact (pe_call GZ (hz.mono (by decide)) rfl mZ kZ bZ .nil (passes_call (takes_of rfl rfl rfl rfl) (fun _ _ _ _ h => h)) (pa_cons (pv 5) (pa_cons pe_non (pa_cons pe_non (pa_cons pe_non pa_nil))))))) pa_nil))))
  (pss_one (by exact (ps_if (pt_not (pt_val (pe_call GQ hr7 rfl mQ kQ bQ .nil pass0 (pa_cons (pv 6) (pa_cons (pe_op op_rep (pe_lst (pa_cons (pe_tup (pa_cons pe_str (pa_cons (pe_call GU hr1 rfl mU kU bU .nil pass0 (pa_cons (pv 5) pa_nil)) pa_nil))) pa_nil)) pe_int) pa_nil))))) (pss_one (by exact (ps_ret pe_bl))) pss_nil))))))))
  (pss_cons (by exact (ps_for PassesOwn.never rfl (by exact pi_list (pe_call GD hr1 rfl mD kD bD .nil pass0 (pa_cons (pv 2) pa_nil))) (pg_name (i := 5) nd rfl (.inr rfl)) (pss_cons (by exact (ps_set (i := 6) nd rfl (.inl rfl) (pe_lst (pa_cons (LamX.pe_lamcall (k := 8) (t := fun E => tCall (spGl K C CV CE CN) [] E (tCons (tVar 0) (tCons (tVar 5) (tCons (tC .non) tNil)))) rfl mm km lkm hcm bm scMt rfl (.inl rfl) (mt_gives MG) TB rfl hT hU (by exact hrL) (LamX.lamS_by (by with_unfolding_all rfl)) rfl (fun _ _ _ _ _ => rfl) (fun A outer s H E f c' hz => by exact (pe_call GG (hz.mono (by decide)) rfl mG kG bG .nil (passes_call (takes_of rfl rfl rfl rfl) (fun _ _ _ _ h => h)) (pa_cons (pv 0) (pa_cons (pv 5) (pa_cons pe_non pa_nil)))))) pa_nil))))
  (pss_cons (by exact (ps_expr (pe_bm PySem.F.plainAttrs_list PySem.F.slot_list_append PySem.F.type_list_append mt_append (pv 6) (pa_cons (LamX.pe_lamcall (k := 8) (t := fun E => tCall (spLb9 K C CV CE CN CM) [] E (tCons (tVar 0) (tCons (tVar 5) (tCons (tC .non) (tCons (tC .non) tNil))))) rfl mm km lkm hcm bm scMt rfl (.inl rfl) (mt_gives MG) TB rfl hT hU (by exact hrL) (LamX.lamS_by (by with_unfolding_all rfl)) rfl (fun _ _ _ _ _ => rfl) (fun A outer s H E f c' hz => by exact (pe_call GL (hz.mono (by decide)) rfl mL kL bL .nil (passes_call (takes_of rfl rfl rfl rfl) (fun _ _ _ _ h => h)) (pa_cons (pv 0) (pa_cons (pv 5) (pa_cons pe_non (pa_cons pe_non pa_nil))))))) pa_nil))))
  (pss_cons (by exact (ps_expr (pe_bm PySem.F.plainAttrs_list PySem.F.slot_list_append PySem.F.type_list_append mt_append (pv 6) (pa_cons (LamX.pe_lamcall (k := 8) (t := fun E => tCall (spHs9 K C CV CE CN) [] E (tCons (tVar 0) (tCons (tVar 5) (tCons (tC .non) (tCons (tC .non) tNil))))) rfl mm km lkm hcm bm scMt rfl (.inl rfl) (mt_gives MG) TB rfl hT hU (by exact hrL) (LamX.lamS_by (by with_unfolding_all rfl)) rfl (fun _ _ _ _ _ => rfl) (fun A outer s H E f c' hz => by exact (pe_call GZ (hz.mono (by decide)) rfl mZ kZ bZ .nil (passes_call (takes_of rfl rfl rfl rfl) (fun _ _ _ _ h => h)) (pa_cons (pv 0) (pa_cons (pv 5) (pa_cons pe_non (pa_cons pe_non pa_nil))))))) pa_nil))))
  (pss_one (by exact (ps_if (pt_not (pt_val (pe_call GQ hr7 rfl mQ kQ bQ .nil pass0 (pa_cons (pv 6) (pa_cons (pe_op op_rep (pe_lst (pa_cons (pe_tup (pa_cons pe_str (pa_cons (pe_call GU hr1 rfl mU kU bU .nil pass0 (pa_cons (pv 5) pa_nil)) pa_nil))) pa_nil)) pe_int) pa_nil))))) (pss_one (by exact (ps_ret pe_bl))) pss_nil))))))))
  (pss_cons (by exact (ps_for PassesOwn.never rfl (by exact pi_tup (pe_tup (pa_cons pe_non (pa_cons pe_int (pa_cons pe_str (pa_cons pe_str (pa_cons pe_bl (pa_cons (pe_lst (pa_cons (pv 4) pa_nil)) (pa_cons (pe_tup (pa_cons (pv 4) pa_nil)) (pa_cons pe_dnewK pa_nil)))))))))) (pg_name (i := 5) nd rfl (.inr rfl)) (pss_cons (by exact (ps_set (i := 6) nd rfl (.inl rfl) (pe_lst (pa_cons (LamX.pe_lamcall (k := 8) (t := fun E => tCall (spGl K C CV CE CN) [] E (tCons (tVar 0) (tCons (tVar 3) (tCons (tVar 5) tNil)))) rfl mm km lkm hcm bm scMt rfl (.inl rfl) (mt_gives MG) TB rfl hT hU (by exact hrL) (LamX.lamS_by (by with_unfolding_all rfl)) rfl (fun _ _ _ _ _ => rfl) (fun A outer s H E f c' hz => by exact (pe_call GG (hz.mono (by decide)) rfl mG kG bG .nil (passes_call (takes_of rfl rfl rfl rfl) (fun _ _ _ _ h => h)) (pa_cons (pv 0) (pa_cons (pv 3) (pa_cons (pv 5) pa_nil)))))) pa_nil))))
  (pss_cons (by exact (ps_expr (pe_bm PySem.F.plainAttrs_list PySem.F.slot_list_append PySem.F.type_list_append mt_append (pv 6) (pa_cons (LamX.pe_lamcall (k := 8) (t := fun E => tCall (spLb9 K C CV CE CN CM) [] E (tCons (tVar 0) (tCons (tVar 3) (tCons (tVar 5) (tCons (tC .non) tNil))))) rfl mm km lkm hcm bm scMt rfl (.inl rfl) (mt_gives MG) TB rfl hT hU (by exact hrL) (LamX.lamS_by (by with_unfolding_all rfl)) rfl (fun _ _ _ _ _ => rfl) (fun A outer s H E f c' hz => by exact (pe_call GL (hz.mono (by decide)) rfl mL kL bL .nil (passes_call (takes_of rfl rfl rfl rfl) (fun _ _ _ _ h => h)) (pa_cons (pv 0) (pa_cons (pv 3) (pa_cons (pv 5) (pa_cons pe_non pa_nil))))))) pa_nil))))
  (pss_cons (by exact (ps_expr (pe_bm PySem.F.plainAttrs_list PySem.F.slot_list_append PySem.F.type_list_append mt_append (pv 6) (pa_cons (LamX.pe_lamcall (k := 8) (t := fun E => tCall (spHs9 K C CV CE CN) [] E (tCons (tVar 0) (tCons (tVar 3) (tCons (tVar 5) (tCons (tC .non) tNil))))) rfl mm km lkm hcm bm scMt rfl (.inl rfl) (mt_gives MG) TB rfl hT hU (by exact hrL) (LamX.lamS_by (by with_unfolding_all rfl)) rfl (fun _ _ _ _ _ => rfl) (fun A outer s H E f c' hz => by exact (pe_call GZ (hz.mono (by decide)) rfl mZ kZ bZ .nil (passes_call (takes_of rfl rfl rfl rfl) (fun _ _ _ _ h => h)) (pa_cons (pv 0) (pa_cons (pv 3) (pa_cons (pv 5) (pa_cons pe_non pa_nil))))))) pa_nil))))
  (pss_cons (by exact (ps_expr (pe_bm PySem.F.plainAttrs_list PySem.F.slot_list_append PySem.F.type_list_append mt_append (pv 6) (pa_cons (LamX.pe_lamcall (k := 8) (t := fun E => tCall (spHs9 K C CV CE CN) [] E (tCons (tVar 0) (tCons (tVar 3) (tCons (tVar 4) (tCons (tVar 5) tNil))))) rfl mm km lkm hcm bm scMt rfl (.inl rfl) (mt_gives MG) TB rfl hT hU (by exact hrL) (LamX.lamS_by (by with_unfolding_all rfl)) rfl (fun _ _ _ _ _ => rfl) (fun A outer s H E f c' hz => by exact (pe_call GZ (hz.mono (by decide)) rfl mZ kZ bZ .nil (passes_call (takes_of rfl rfl rfl rfl) (fun _ _ _ _ h => h)) (pa_cons (pv 0) (pa_cons (pv 3) (pa_cons (pv 4) (pa_cons (pv 5) pa_nil))))))) pa_nil))))
  (pss_one (by exact (ps_if (pt_not (pt_val (pe_call GQ hr7 rfl mQ kQ bQ .nil pass0 (pa_cons (pv 6) (pa_cons (pe_op op_rep (pe_lst (pa_cons (pe_tup (pa_cons pe_str (pa_cons (pe_call GU hr1 rfl mU kU bU .nil pass0 (pa_cons (pv 5) pa_nil)) pa_nil))) pa_nil)) pe_int) pa_nil))))) (pss_one (by exact (ps_ret pe_bl))) pss_nil)))))))))
  (pss_cons (by exact (ps_for PassesOwn.never rfl (by exact pi_tup (pe_tup (pa_cons pe_non (pa_cons (pe_un un_neg pe_int) (pa_cons pe_bl (pa_cons pe_str (pa_cons (pe_lst (pa_cons pe_int pa_nil)) (pa_cons pe_dnewK (pa_cons (pe_op op_add (pe_callB call_len_seq rfl B.len PySem.boot_len (pa_cons (pv 2) pa_nil)) pe_int) pa_nil))))))))) (pg_name (i := 5) nd rfl (.inr rfl)) (pss_cons (by exact (ps_set (i := 6) nd rfl (.inl rfl) (LamX.pe_lamcall (k := 8) (t := fun E => tCall (spLb9 K C CV CE CN CM) [] E (tCons (tVar 0) (tCons (tVar 3) (tCons (tVar 4) (tCons (tVar 5) tNil))))) rfl mm km lkm hcm bm scMt rfl (.inl rfl) (mt_gives MG) TB rfl hT hU (by exact hrL) (LamX.lamS_by (by with_unfolding_all rfl)) rfl (fun _ _ _ _ _ => rfl) (fun A outer s H E f c' hz => by exact (pe_call GL (hz.mono (by decide)) rfl mL kL bL .nil (passes_call (takes_of rfl rfl rfl rfl) (fun _ _ _ _ h => h)) (pa_cons (pv 0) (pa_cons (pv 3) (pa_cons (pv 4) (pa_cons (pv 5) pa_nil)))))))))
  (pss_one (by exact (ps_if (pt_not (pt_val (pe_call GQ hr7 rfl mQ kQ bQ .nil pass0 (pa_cons (pv 6) (pa_cons (pe_tup (pa_cons pe_str (pa_cons (pe_call GU hr1 rfl mU kU bU .nil pass0 (pa_cons (pv 5) pa_nil)) pa_nil))) pa_nil))))) (pss_one (by exact (ps_ret pe_bl))) pss_nil))))))
  (pss_one (by exact (ps_ret pe_bl)))))))), ?_⟩
  have mbV : MetBy CV CE CN CM "valley" "thing" CV := .inl ⟨rfl, rfl, rfl⟩
  have mbE : MetBy CV CE CN CM "evening" "evening" CE := .inr (.inl ⟨rfl, rfl, rfl⟩)
  have mbO : MetBy CV CE CN CM "house" "house" CN := .inr (.inr (.inl ⟨rfl, rfl, rfl⟩))
  have mbM : MetBy CV CE CN CM "many" "many" CM := .inr (.inr (.inr ⟨rfl, rfl, rfl⟩))
  obtain ⟨g0, hg0, eg0⟩ : ∃ g0, g0 ∈ ss ∧ (ss.map V.str)[0]? = some (.str g0) := ⟨ss[0], List.getElem_mem (by omega), by rw [List.getElem?_map, List.getElem?_eq_getElem (by omega)]; rfl⟩
  obtain ⟨js, nj, lj, jl, ees⟩ := perm_js pe tr.cut.1
  have lr : rs.length ≤ 59 := by have := tr.len; omega
  have ev0 : EvV (nt H) rs (.ref r) js := ev_of tr.cut.forest (nt_l h3) (by rw [← ees]; exact paired_imp (fun _ _ h => nt_t h) pu) nj lj jl (by omega)
  have evx : ∀ {Ha : Hp}, LamX.ExtN H Ha → EvV Ha rs (.ref r) js := fun e => ⟨ev0.1.ext (nt_to e), ev0.2⟩
  have ivx : ∀ {Ha : Hp}, LamX.ExtN H Ha → IsV C Ha x ss rs ns := fun e => iv.same (nt_to e)
  with_reducible refine sQ ?_
  refine ⟨_, rfl, p1, _, (0 : Int), .str g0, rfl, rfl, SqL.of h1, atI_nat (j := 0) eg0, ?_⟩
  refine K1.gN ?_
  with_reducible refine sQ ?_
  -- no valley
  refine ⟨_, rfl, p1, ss, rfl, h1, ls, fun r1 ys H7 e7 n7 g7 ry a7 => ?_⟩
  refine ⟨r1, rfl, ⟨_, SqL.of g7⟩, ?_⟩
  refine for_it (walk_list (xs := ys)) (fun k σ Hc => (∃ y5 y6, σ = [some (.ref x), some (.ref p1), some (.ref p2), some (.ref r), some (.str g0), y5, y6]) ∧ LamX.ExtN H Hc ∧ OffK ys k H7 Hc ∧ LamX.Tabs TT Hc) ⟨⟨_, _, rfl⟩, LamX.ExtN.of e7, fun b o _ h => (nt_some.mp h).1, tabs_same tb e7⟩
    (fun k σ Hc _ h => SqL.of (h.2.2.1 _ _ (fun z => ry (List.mem_of_mem_take z)) (nt_l g7))) ?_ ?_
  · rintro k y σ Hc H'' hk ⟨⟨y5, y6, rfl⟩, x1, x2, x3⟩ ⟨rfl, hy⟩
    obtain rfl : ys[k] = y := Option.some.inj ((List.getElem?_eq_getElem hk).symm.trans hy)
    obtain ⟨G, pG, eG, _⟩ := a7.at nvP_mon (fun _ z => z) x2 hk
    have fr := ((a7.1 _ (List.getElem_mem hk)).2)
    refine K1.gN ?_
    with_reducible refine sQ ?_
    refine fnd_first mbV x3 (fun Ha ea E' Q' g => ⟨_, rfl, ys[k], .non, .non, rfl, .inl ⟨pG.1.ext (eG.trans (nt_to ea)), g⟩⟩) fun Fd z1 H6 f1 => ?_
    refine K1.gN ?_
    with_reducible refine sQ ?_
    refine fnd_app (v := ys[k]) mbV f1 (by simp) rfl (fun Ha ea E' Q' g => ⟨_, rfl, ys[k], .non, .non, .non, rfl, .inl ⟨pG.1.ext (eG.trans (nt_to ea)), g⟩⟩) fun z2 H7' f2 => ?_
    with_reducible refine sQ ?_
    refine fnd_app (v := ys[k]) mbV f2 (by simp) rfl (fun Ha ea E' Q' g => ⟨_, rfl, ys[k], .non, .non, .non, rfl, .inl ⟨pG.1.ext (eG.trans (nt_to ea)), g⟩⟩) fun z3 H8 f3 => ?_
    refine rep9 (tg := "valley") (y := ys[k]) (i := 6) (j := 5) 3 (by decide) rfl rfl f3 pG eG fun H9 Hm off eM tm => ⟨_, rfl, iteF ?_⟩
    exact ⟨⟨_, _, rfl⟩, ext_off x1 f3.ext off eM (fun p hp => (fr p hp).1), x2.step hk f3.ext off eM, tm⟩
  rintro σ H10 ⟨⟨y5, y6, rfl⟩, x10, _, t10⟩
  with_reducible refine sQ ?_
  -- no evening
  have h2x : H10 p2 = some (.lst (qs.map V.ref)) := x10 _ _ h2 (fun _ z => by cases z)
  have prx : Paired (TupP H10) qs rs := paired_imp (fun _ _ h => x10 _ _ h (fun _ z => by cases z)) pr
  refine ⟨_, rfl, p2, qs, ss, rs, rfl, h2x, prx, tr, ls, nb, fun r2 ys2 H11 e11 n11 g11 ry2 a11 => ?_⟩
  refine ⟨r2, rfl, ⟨_, SqL.of g11⟩, ?_⟩
  refine for_it (walk_list (xs := ys2)) (fun k σ Hc => (∃ y5 y6, σ = [some (.ref x), some (.ref p1), some (.ref p2), some (.ref r), some (.str g0), y5, y6]) ∧ LamX.ExtN H10 Hc ∧ OffK ys2 k H11 Hc ∧ LamX.Tabs TT Hc) ⟨⟨_, _, rfl⟩, LamX.ExtN.of e11, fun b o _ h => (nt_some.mp h).1, tabs_same t10 e11⟩
    (fun k σ Hc _ h => SqL.of (h.2.2.1 _ _ (fun z => ry2 (List.mem_of_mem_take z)) (nt_l g11))) ?_ ?_
  · rintro k y σ Hc H'' hk ⟨⟨y5, y6, rfl⟩, x1, x2, x3⟩ ⟨rfl, hy⟩
    obtain rfl : ys2[k] = y := Option.some.inj ((List.getElem?_eq_getElem hk).symm.trans hy)
    obtain ⟨G, pG, eG, _⟩ := a11.at evP_mon (fun _ z => z) x2 hk
    have fr := ((a11.1 _ (List.getElem_mem hk)).2)
    have x0 := x10.trans x1
    refine K1.gN ?_
    with_reducible refine sQ ?_
    refine fnd_first mbE x3 (fun Ha ea E' Q' g => ⟨_, rfl, _, rfl, .ref x, ys2[k], .non, rfl, .inr ⟨x, ss, rs, ns, rfl, ivx (x0.trans ea), tr, ls, .inl ⟨pG.1.ext (eG.trans (nt_to ea)), g⟩⟩⟩) fun Fd z1 H6 f1 => ?_
    refine K1.gN ?_
    with_reducible refine sQ ?_
    refine fnd_app (v := ys2[k]) mbE f1 (by simp) rfl (fun Ha ea E' Q' g => ⟨_, rfl, _, rfl, .ref x, ys2[k], .non, .non, rfl, .inr ⟨x, ss, rs, ns, rfl, ivx (x0.trans ea), tr, ls, .inl ⟨pG.1.ext (eG.trans (nt_to ea)), g⟩⟩⟩) fun z2 H7' f2 => ?_
    with_reducible refine sQ ?_
    refine fnd_app (v := ys2[k]) mbE f2 (by simp) rfl (fun Ha ea E' Q' g => ⟨_, rfl, _, rfl, .ref x, ys2[k], .non, .non, rfl, .inr ⟨x, ss, rs, ns, rfl, ivx (x0.trans ea), tr, ls, .inl ⟨pG.1.ext (eG.trans (nt_to ea)), g⟩⟩⟩) fun z3 H8 f3 => ?_
    refine rep9 (tg := "evening") (y := ys2[k]) (i := 6) (j := 5) 3 (by decide) rfl rfl f3 pG eG fun H9 Hm off eM tm => ⟨_, rfl, iteF ?_⟩
    exact ⟨⟨_, _, rfl⟩, ext_off x1 f3.ext off eM (fun p hp => (fr p hp).1), x2.step hk f3.ext off eM, tm⟩
  rintro σ H12 ⟨⟨y5, y6, rfl⟩, x12, _, t12⟩
  have x012 := x10.trans x12
  with_reducible refine sQ ?_
  -- no house
  have mH := hoP_mon (K := K) (ss := ss)
  refine iTup_run ?_
  refine mf_tup (P := HoP K ss) (n := 8) (H0 := H12) ?_ (by decide) (Same.refl _) fun r3 ys3 H13 H13' e13 l3 a13 n13 eH13 => ?_
  · refine mf_cons mH (mf_c (fun G => odd_flat (.inr ⟨"NoneType", .base .non, by decide, by decide⟩) (.base .non) (by decide) (by decide) (by decide) r_non) (fun p z => by cases z)) (mf_cons mH (mf_c (fun G => odd_flat (.inr ⟨"int", .base (.int _), by decide, by decide⟩) (.base (.int _)) (by decide) (by decide) (by decide) (r_int _)) (fun p z => by cases z)) (mf_cons mH (mf_c (fun G => odd_flat (.inl ⟨_, rfl, nb.1⟩) (.base (.str _)) (by decide) (by decide) (by decide) (r_str _)) (fun p z => by cases z))
      (mf_cons mH (mf_c (fun G => odd_flat (.inl ⟨_, rfl, fun z => ?_⟩) (.base (.str _)) (by decide) (by decide) (by decide) (r_str _)) (fun p z => by cases z)) (mf_cons mH (mf_c (fun G => odd_flat (.inr ⟨"bool", .base (.bl _), by decide, by decide⟩) (.base (.bl _)) (by decide) (by decide) (by decide) (r_bl _)) (fun p z => by cases z)) (mf_cons mH (mf_new fun Hb e Q q => ?_) (mf_cons mH (mf_new fun Hb e Q q => ?_) (mf_cons mH (mf_dict fun G p g => ⟨.inr ⟨"dict", .base (.dK g), by decide, by decide⟩, .inr (.inl ⟨p, rfl, g⟩)⟩) mf_nil)))))))
    · have := (good.2 _ z).1
      revert this
      decide
    · refine ⟨_, rfl, (by show 1 ≤ sizeLine; decide), fun p hp => q p _ (K1.Same.upd hp) hp (by rw [upd_same' Hb p]; exact Option.some_ne_none _) fun G g => ?_⟩
      have gp := g _ _ (.inr hp) (nt_l (upd_same' Hb p _))
      exact ⟨.inr ⟨"list", .base (.lst gp), by decide, by decide⟩, .inr (.inr ⟨p, _, rfl, gp, by show 1 ≤ 100; decide, fun x hx => by rw [List.mem_singleton.mp hx]; exact r_str _⟩)⟩
    · refine ⟨_, rfl, (by show 1 ≤ sizeLine; decide), fun p hp => q p _ (K1.Same.upd hp) hp (by rw [upd_same' Hb p]; exact Option.some_ne_none _) fun G g => ?_⟩
      have gp := g _ _ (.inr hp) (nt_t (upd_same' Hb p _))
      exact odd_flat (.inr ⟨"tuple", .base (.tup gp), by decide, by decide⟩) (.base (.tup gp)) (by decide) (by decide) (by decide) (self_tup gp (by show 1 ≤ 10000; decide) fun x hx => by rw [List.mem_singleton.mp hx]; exact r_str _)
  subst eH13
  have er3 := K1.Same.upd (H := H13) (p := r3) (o := .tup ys3) n13
  have gr3 := upd_same' H13 r3 (.tup ys3)
  have ry3 : V.ref r3 ∉ ys3 := fun z => ((a13.1 _ z).2 r3 rfl).2 n13
  have a13' := (a13.same mH er3).weak (Z' := fun _ => False) mH fun b z => z.elim
  generalize L2.upd H13 r3 (.tup ys3) = H14 at er3 gr3 a13' ⊢
  have e14 := e13.trans er3
  refine ⟨r3, rfl, ⟨_, SqT.of gr3⟩, ?_⟩
  refine for_it (walk_tup (xs := ys3)) (fun k σ Hc => (∃ y5 y6, σ = [some (.ref x), some (.ref p1), some (.ref p2), some (.ref r), some (.str g0), y5, y6]) ∧ LamX.ExtN H12 Hc ∧ OffK ys3 k H14 Hc ∧ LamX.Tabs TT Hc) ⟨⟨_, _, rfl⟩, LamX.ExtN.of e14, fun b o _ h => (nt_some.mp h).1, tabs_same t12 e14⟩
    (fun k σ Hc _ h => SqT.of (h.2.2.1 _ _ (fun z => ry3 (List.mem_of_mem_take z)) (nt_t gr3))) ?_ ?_
  · rintro k y σ Hc H'' hk ⟨⟨y5, y6, rfl⟩, x1, x2, x3⟩ ⟨rfl, hy⟩
    obtain rfl : ys3[k] = y := Option.some.inj ((List.getElem?_eq_getElem hk).symm.trans hy)
    obtain ⟨G, pG, eG, _⟩ := a13'.at mH (fun _ z => z) x2 hk
    have fr := ((a13'.1 _ (List.getElem_mem hk)).2)
    have x0 := x012.trans x1
    refine K1.gN ?_
    with_reducible refine sQ ?_
    refine fnd_first mbO x3 (fun Ha ea E' Q' g => ⟨_, rfl, _, rfl, _, rfl, .ref x, .ref r, ys3[k], rfl, .inr ⟨x, ss, rs, ns, rfl, ivx (x0.trans ea), tr, ls, .inr ⟨js, evx (x0.trans ea), .inl ⟨pG.1.ext (eG.trans (nt_to ea)), g⟩⟩⟩⟩) fun Fd z1 H6 f1 => ?_
    refine K1.gN ?_
    with_reducible refine sQ ?_
    refine fnd_app (v := ys3[k]) mbO f1 (by simp) rfl (fun Ha ea E' Q' g => ⟨_, rfl, _, rfl, _, rfl, .ref x, .ref r, ys3[k], .non, rfl, .inr ⟨x, ss, rs, ns, rfl, ivx (x0.trans ea), tr, ls, .inr ⟨js, evx (x0.trans ea), .inl ⟨pG.1.ext (eG.trans (nt_to ea)), g⟩⟩⟩⟩) fun z2 H7' f2 => ?_
    with_reducible refine sQ ?_
    refine fnd_app (v := ys3[k]) mbO f2 (by simp) rfl (fun Ha ea E' Q' g => ⟨_, rfl, _, rfl, _, rfl, .ref x, .ref r, ys3[k], .non, rfl, .inr ⟨x, ss, rs, ns, rfl, ivx (x0.trans ea), tr, ls, .inr ⟨js, evx (x0.trans ea), .inl ⟨pG.1.ext (eG.trans (nt_to ea)), g⟩⟩⟩⟩) fun z3 H8 f3 => ?_
    with_reducible refine sQ ?_
    refine fnd_app (v := ys3[k]) mbO f3 (by simp) rfl (fun Ha ea E' Q' g => ⟨_, rfl, _, rfl, _, rfl, _, rfl, .ref x, .ref r, .str g0, ys3[k], rfl, .inr ⟨x, ss, rs, ns, rfl, ivx (x0.trans ea), tr, ls, .inr ⟨js, evx (x0.trans ea), .inr ⟨g0, rfl, hg0, .inl ⟨pG.1.ext (eG.trans (nt_to ea)), g⟩⟩⟩⟩⟩) fun z4 H8' f4 => ?_
    refine rep9 (tg := "house") (y := ys3[k]) (i := 6) (j := 5) 4 (by decide) rfl rfl f4 pG eG fun H9 Hm off eM tm => ⟨_, rfl, iteF ?_⟩
    exact ⟨⟨_, _, rfl⟩, ext_off x1 f4.ext off eM (fun p hp => (fr p hp).1), x2.step hk f4.ext off eM, tm⟩
  rintro σ H15 ⟨⟨y5, y6, rfl⟩, x15, _, t15⟩
  have x015 := x012.trans x15
  with_reducible refine sQ ?_
  -- no number of roads
  have mM := mnP_mon (K := K) (n := rs.length)
  have h215 : H15 p2 = some (.lst (qs.map V.ref)) := x015 _ _ h2 (fun _ z => by cases z)
  have lm : (qs.map V.ref).length = rs.length := by rw [List.length_map, pr.length]
  refine iTup_run ?_
  refine mf_tup (P := MnP K rs.length) (n := 7) (H0 := H15) ?_ (by decide) (Same.refl _) fun r4 ys4 H16 H16' e16 l4 a16 n16 eH16 => ?_
  · refine mf_cons mM (mf_c (fun G => odd_flat (.inr ⟨"NoneType", .base .non, by decide, by decide⟩) (.base .non) (by decide) (by decide) (by decide) r_non) (fun p z => by cases z)) (mf_cons mM (mf_val (x := .int (-1)) (fun Hb e Q q => ⟨_, rfl, q⟩) (fun G => odd_flat (.inl ⟨-1, rfl, .inl (by decide)⟩) (.base (.int _)) (by decide) (by decide) (by decide) (r_int _)) (fun p z => by cases z)) (mf_cons mM (mf_c (fun G => odd_flat (.inr ⟨"bool", .base (.bl _), by decide, by decide⟩) (.base (.bl _)) (by decide) (by decide) (by decide) (r_bl _)) (fun p z => by cases z))
      (mf_cons mM (mf_c (fun G => odd_flat (.inr ⟨"str", .base (.str _), by decide, by decide⟩) (.base (.str _)) (by decide) (by decide) (by decide) (r_str _)) (fun p z => by cases z)) (mf_cons mM (mf_new fun Hb e Q q => ?_) (mf_cons mM (mf_dict fun G p g => ⟨.inr ⟨"dict", .base (.dK g), by decide, by decide⟩, .inr (.inl ⟨p, rfl, g⟩)⟩) (mf_cons mM (mf_val (x := .int ((rs.length : Int) + 1)) (fun Hb e Q q => ⟨_, rfl, p2, _, rfl, .inl (SqL.of (e _ _ h215)), _, _, rfl, rfl, by rw [lm]; exact q⟩) (fun G => odd_flat (.inl ⟨_, rfl, .inr (by omega)⟩) (.base (.int _)) (by decide) (by decide) (by decide) (r_int _)) (fun p z => by cases z)) mf_nil))))))
    refine ⟨(by show 1 ≤ sizeLine; decide), fun p hp => q p _ (K1.Same.upd hp) hp (by rw [upd_same' Hb p]; exact Option.some_ne_none _) fun G g => ?_⟩
    have gp := g _ _ (.inr hp) (nt_l (upd_same' Hb p _))
    exact ⟨.inr ⟨"list", .base (.lst gp), by decide, by decide⟩, .inr (.inr ⟨p, _, rfl, gp, by show 1 ≤ 100; decide, fun x hx => by rw [List.mem_singleton.mp hx]; exact r_int _⟩)⟩
  subst eH16
  have er4 := K1.Same.upd (H := H16) (p := r4) (o := .tup ys4) n16
  have gr4 := upd_same' H16 r4 (.tup ys4)
  have ry4 : V.ref r4 ∉ ys4 := fun z => ((a16.1 _ z).2 r4 rfl).2 n16
  have a16' := (a16.same mM er4).weak (Z' := fun _ => False) mM fun b z => z.elim
  generalize L2.upd H16 r4 (.tup ys4) = H17 at er4 gr4 a16' ⊢
  have e17 := e16.trans er4
  refine ⟨r4, rfl, ⟨_, SqT.of gr4⟩, ?_⟩
  refine for_it (walk_tup (xs := ys4)) (fun k σ Hc => (∃ y5 y6, σ = [some (.ref x), some (.ref p1), some (.ref p2), some (.ref r), some (.str g0), y5, y6]) ∧ LamX.ExtN H15 Hc ∧ OffK ys4 k H17 Hc ∧ LamX.Tabs TT Hc) ⟨⟨_, _, rfl⟩, LamX.ExtN.of e17, fun b o _ h => (nt_some.mp h).1, tabs_same t15 e17⟩
    (fun k σ Hc _ h => SqT.of (h.2.2.1 _ _ (fun z => ry4 (List.mem_of_mem_take z)) (nt_t gr4))) ?_ ?_
  · rintro k y σ Hc H'' hk ⟨⟨y5, y6, rfl⟩, x1, x2, x3⟩ ⟨rfl, hy⟩
    obtain rfl : ys4[k] = y := Option.some.inj ((List.getElem?_eq_getElem hk).symm.trans hy)
    obtain ⟨G, pG, eG, _⟩ := a16'.at mM (fun _ z => z) x2 hk
    have fr := ((a16'.1 _ (List.getElem_mem hk)).2)
    have x0 := x015.trans x1
    refine K1.gN ?_
    with_reducible refine sQ ?_
    refine met_by mbM x3 (fun Ha ea E' Q' g => ⟨_, rfl, _, rfl, _, rfl, _, rfl, .ref x, .ref r, .str g0, ys4[k], rfl, .inr ⟨x, ss, rs, ns, rfl, ivx (x0.trans ea), tr, ls, .inr ⟨js, evx (x0.trans ea), .inr ⟨g0, rfl, hg0, .inl ⟨pG.1.imp id fun ⟨t, a, b⟩ => ⟨t, TyX.ext a (eG.trans (nt_to ea)), b⟩, g⟩⟩⟩⟩⟩) fun p H6 e6 T6 _ gp => ?_
    refine K1.gN ?_
    refine one9 (CV := CV) (CN := CE) (CO := CN) (CM := CM) (CR := CM) (fld := "many") (t := fun _ => tC .non) (H0 := H15) (tg := "many") (y := ys4[k]) (i := 6) (j := 5) rfl rfl ⟨p, rfl, gp⟩ T6 pG (eG.trans (nt_to e6)) fun H9 Hm off eM tm => ⟨_, rfl, iteF ?_⟩
    exact ⟨⟨_, _, rfl⟩, ext_off x1 e6 off eM (fun p hp => (fr p hp).1), x2.step hk e6 off eM, tm⟩
  rintro σ H18 ⟨⟨y5, y6, rfl⟩, x18, _, t18⟩
  exact q H18 (x015.trans x18) t18
end
end K1
end
-- WReprT
section
set_option Elab.async false
set_option linter.all false
set_option maxRecDepth 100000
set_option maxHeartbeats 2000000
/-! repr of what a function tells: data without dicts, or a dict keyed by tuples whose values are ints -/
namespace Wr
open PySem PySem.Spec PyProof PyProof.Rows L2
def keyD : L2.Key → PyData
  | .inl i => .int i
  | .inr x => .str x
def dictD (kvs : List (List L2.Key × Int)) : PyData := .dict (kvs.map fun e => (.tuple (e.1.map keyD), .int e.2))
/-- how it is shown -/
def ShowsAs (K : PySem.W.Frag) (H : Hp) (v : V) (t : Str) : Prop := (∃ (a : Addr) (d : PyData), v = .ref a ∧ Dp K H (.ref a) d ∧ d.showable = true ∧ d.hasDict = false ∧ d.depth ≤ 60 ∧ d.shown.length ≤ sizeLine ∧ t = d.shown) ∨
  ∃ (a : Addr) (kvs : List (List L2.Key × Int)), v = .ref a ∧ H a = some (.dT (kvs.map fun e => (e.1, V.int e.2))) ∧ (dictD kvs).showable = true ∧ (dictD kvs).shown.length ≤ sizeLine ∧ t = (dictD kvs).shown
section
variable {X : Cx} {pins : List (Addr × Obj)} {σ : L2.St} {H : Hp} {s : Shared}
theorem reads_key {h : Heap} : ∀ {ks : List L2.Key} {us : List Value}, Vals (ks.map kV) us → ReadsAll h us (ks.map keyD) []
  | [], us, r => by
    cases r
    exact .nil
  | k :: ks, us, r => by
    rw [List.map_cons] at r
    cases r with
    | cons e t =>
      have h2 := reads_key (h := h) t
      cases k with
      | inl i =>
        obtain ⟨tk, rfl⟩ := e
        exact .cons (as := []) (bs := []) (.int i tk) h2
      | inr x =>
        obtain ⟨tk, rfl⟩ := e
        exact .cons (as := []) (bs := []) (.str x tk) h2
theorem reads_dT {P : Program} {w : World} {h : Heap} (hok : HOk P w H h) : ∀ {kvs : List (List L2.Key × Int)} {xs : List (List L2.Key × Addr × Value)}, Paired (fun (p : List L2.Key × V) (q : List L2.Key × Addr × Value) => p.1 = q.1 ∧ H q.2.1 = some (.tup (p.1.map kV)) ∧ RelV p.2 q.2.2) (kvs.map fun e => (e.1, V.int e.2)) xs →
    ReadsAll h (xs.map fun x => Value.ref x.2.1) (kvs.map fun e => PyData.tuple (e.1.map keyD)) [] ∧ ReadsAll h (xs.map fun x => x.2.2) (kvs.map fun e => PyData.int e.2) []
  | [], xs, r => by
    cases r
    exact ⟨.nil, .nil⟩
  | e :: kvs, xs, r => by
    rw [List.map_cons] at r
    cases r with
    | cons z t =>
      obtain ⟨z1, z2, z3⟩ := z
      obtain ⟨r1, r2⟩ := reads_dT hok t
      obtain ⟨_, its, rv, o, g1, g2, n, g3⟩ := (show ObjOk P w H h _ (.tup (e.1.map kV)) from hok _ _ z2)
      refine ⟨.cons (as := []) (bs := []) (.tuple g1 g2 g3 (by simpa using reads_key rv)) r1, ?_⟩
      obtain ⟨tk, e2⟩ := z3
      refine .cons (as := []) (bs := []) ?_ r2
      dsimp only
      rw [e2]
      exact .int e.2 tk
/-- repr(x) -/
def rReprS (K : PySem.W.Frag) : List V → Hp → VK → Prop := fun vs H Q => ∃ (v : V) (t : Str), vs = [v] ∧ ShowsAs K H v t ∧ Q (.str t) H
theorem cr_reprS (hA : Bare0 X.A) (hu : X.A.units + 64 < cLine) : CallR X (.builtin "repr") (rReprS X.K) := by
  rintro pins s σ H xs us Q I r ⟨v, t, rfl, hs, q⟩
  cases r with
  | cons r0 rt =>
    cases rt
    rcases hs with ⟨a, d, rfl, hd, h1, h2, h3, h4, rfl⟩ | ⟨a, kvs, rfl, ha, h1, h2, rfl⟩
    · cases r0
      obtain ⟨as, rd⟩ := Dp.reads I d (.ref a) (.ref a) hd rfl
      exact repr_of_reads' rd h1 (PyData.noDict_hsm h2) hA (by omega) (fun _ _ e => e) (fun h' u tk hk => ⟨.str d.shown, H, I.kept hk, ⟨u, rfl⟩, q⟩) h4
    · cases r0
      obtain ⟨hz, hs0, ys, kv, o, es, ep, e1, e2, e3, e4, e5⟩ := (show ObjOk X.prog X.w H s.heap a (.dT _) from I.hok a _ ha)
      obtain ⟨r1, r2⟩ := reads_dT I.hok kv
      have rd : Reads s.heap (.ref a) (dictD kvs) (a :: [] ++ []) := by
        unfold dictD
        refine .dict e1 e2.1 e3 ?_ ?_
        · rw [e4, List.map_map, List.map_map]
          exact r1
        · rw [e4, List.map_map, List.map_map]
          exact r2
      have hdep : (dictD kvs).depth ≤ 60 := by
        unfold dictD
        simp only [PyData.depth]
        have key : ∀ ks : List L2.Key, PyData.depthAll (ks.map keyD) = 0 := by
          intro ks
          induction ks with
          | nil => simp [PyData.depthAll]
          | cons k ks ih =>
            rw [List.map_cons]
            simp only [PyData.depthAll, ih]
            cases k <;> simp [keyD, PyData.depth]
        have : ∀ l : List (List L2.Key × Int), PyData.depthKv (l.map fun e => (PyData.tuple (e.1.map keyD), PyData.int e.2)) ≤ 1 := by
          intro l
          induction l with
          | nil => simp [PyData.depthKv]
          | cons e l ih =>
            rw [List.map_cons]
            simp only [PyData.depthKv, PyData.depth, key]
            omega
        have := this kvs
        omega
      refine repr_of_reads' rd h1 (fun _ z => ?_) hA (by omega) (fun _ _ e => e) (fun h' u tk hk => ⟨.str (dictD kvs).shown, H, I.kept hk, ⟨u, rfl⟩, q⟩) h2
      simp at z
      rw [← z] at hs0
      simp at hs0
end
end Wr
end
-- MDn
section
set_option Elab.async false
set_option linter.all false
set_option maxRecDepth 100000
set_option maxHeartbeats 2000000
namespace K1
open PySem PySem.Spec PyProof.Rows L2 W0
def rDictP (K : PySem.W.Frag) : List V → Hp → VK → Prop := fun xs H Q => ∃ (a : Addr) (ps : List Addr) (kvs : List (Key × V)), xs = [.ref a] ∧ SqL K H a (ps.map V.ref) ∧ Paired (fun p kv => SqT K H p [kV kv.1, kv.2]) ps kvs ∧
    ∀ p, H p = none → Q (.ref p) (L2.upd H p (.dK (mergeK [] kvs)))
def nKv (acc : List (Str × V)) : List (Key × V) := acc.map fun e => ((.inr e.1 : Key), e.2)
theorem paired_mem_imp {α β : Type} {R S : α → β → Prop} : ∀ {xs : List α} {ys : List β}, (∀ x y, x ∈ xs → R x y → S x y) → Paired R xs ys → Paired S xs ys
  | _, _, _, .nil => .nil
  | _, _, h, .cons a r => .cons (h _ _ (List.mem_cons_self ..) a) (paired_mem_imp (fun x y hx => h x y (List.mem_cons_of_mem _ hx)) r)
/-- dict([(name, v) for name in names if t]) -/
theorem dictN_run {K : PySem.W.Frag} {tn tv : TE} {tt : TT} {i : Nat} {σ : L2.St} {H : Hp} {Q : VK} {p1 : Addr} {ss : List Str} (hn : ∀ R : VK, R (.ref p1) H → tn σ H R) (h1 : H p1 = some (.lst (ss.map V.str))) (nds : ss.Nodup) (ls : ss.length ≤ 60) (hi : i < σ.length)
    (Pv : Addr → Nat → List (Str × V) → Hp → Prop) (stab : ∀ D k acc Hc Hc', Pv D k acc Hc → Kept D Hc Hc' → Pv D k acc Hc') (h0 : ∀ D, H D = none → Pv D 0 [] H)
    (step : ∀ D k acc Hc (hk : k < ss.length), H D = none → Same H Hc → (∃ xs, Hc D = some (.lst xs)) → Pv D k acc Hc → ∀ (R1 : VK) (R2 : Hp → Prop), (∀ z H4, Same Hc H4 → Pv D (k + 1) (acc ++ [(ss[k], z)]) H4 → R1 z H4) → (∀ H4, Same Hc H4 → Pv D (k + 1) acc H4 → R2 H4) →
      tt ((σ.set i none).set i (some (.str ss[k]))) Hc fun b H3 => if b = true then tv ((σ.set i none).set i (some (.str ss[k]))) H3 R1 else R2 H3)
    (fin : ∀ D L acc H', H D = none → H L = none → L ≠ D → Same H H' → H' L = some (.dK (nKv acc)) → (acc.map (·.1)).Sublist ss → Pv D ss.length acc H' → Q (.ref L) H') :
    tCB (rDictP K) (tCons (tLc (iList K tn) (gName i) tt (tTup (tCons (tVar i) (tCons tv tNil))) [i]) tNil) σ H Q := by
  refine hn _ ⟨p1, rfl, ⟨_, SqL.of h1⟩, fun D hD => ?_⟩
  have lm : (ss.map V.str).length = ss.length := List.length_map ..
  refine lc_it (Qd := _) walk_list (fun k Hc => Same H Hc ∧ ∃ (zs : List Addr) (acc : List (Str × V)), Hc D = some (.lst (zs.map V.ref)) ∧ D ∉ zs ∧ Paired (fun (z : Addr) (e : Str × V) => Hc z = some (.tup [.str e.1, e.2])) zs acc ∧ (acc.map (·.1)).Sublist (ss.take k) ∧ Pv D k acc Hc)
    ⟨K1.Same.upd hD, [], [], upd_same, by simp, .nil, List.nil_sublist _, stab _ _ _ _ _ (h0 D hD) Kept.upd⟩ (fun k Hc _ h => SqL.of (h.1 _ _ h1)) ?_ ?_
  · rintro k v Hc H' hk ⟨c1, zs, acc, c2, c2', c3, c4, c5⟩ ⟨rfl, hv⟩
    have hk' : k < ss.length := by rw [lm] at hk; exact hk
    have ev : v = .str ss[k] := by
      have q2 : (ss.map V.str)[k]? = some v := hv
      rw [List.getElem?_map, List.getElem?_eq_getElem hk'] at q2
      exact (Option.some.inj q2).symm
    subst ev
    refine K1.gN ⟨?_, ?_⟩
    · show ((σ.set i none).set i (some (.str ss[k]))).set i none = σ.set i none
      rw [List.set_set, List.set_set]
    · have lz : zs.length ≤ 60 := by
        have a := c3.length
        have b := c4.length_le
        rw [List.length_map, List.length_take] at b
        omega
      have gi : ((σ.set i none).set i (some (.str ss[k])))[i]? = some (some (.str ss[k])) := by
        rw [List.getElem?_set]
        simp [hi]
      have eT : ∀ (H3 : Hp) (R : VK), tTup (tCons (tVar i) (tCons tv tNil)) ((σ.set i none).set i (some (.str ss[k]))) H3 R = tv ((σ.set i none).set i (some (.str ss[k]))) H3 fun z H4 => 2 ≤ sizeLine ∧ ∀ p, H4 p = none → R (.ref p) (L2.upd H4 p (.tup [.str ss[k], z])) := fun H3 R => propext ⟨fun ⟨v, e, h⟩ => by
        rw [gi] at e
        cases e
        exact h, fun h => ⟨_, gi, h⟩⟩
      show tt ((σ.set i none).set i (some (.str ss[k]))) H' fun b H3 => if b = true then tTup (tCons (tVar i) (tCons tv tNil)) ((σ.set i none).set i (some (.str ss[k]))) H3 _ else _
      simp only [eT]
      refine step D k acc H' hk' hD c1 ⟨_, c2⟩ c5 _ _ (fun z H4 e4 p4 => ?_) (fun H4 e4 p4 => ?_)
      · refine ⟨by decide, fun T hT => ?_⟩
        have e5 := K1.Same.upd (H := H4) (p := T) (o := .tup [.str ss[k], z]) hT
        have gT := upd_same' H4 T (.tup [.str ss[k], z])
        have k5 : Kept D H4 (L2.upd H4 T (.tup [.str ss[k], z])) := Kept.new hT
        have TD : T ≠ D := fun z => by rw [z, e4 _ _ c2] at hT; cases hT
        generalize L2.upd H4 T (.tup [.str ss[k], z]) = H5 at e5 gT k5 ⊢
        have e45 := e4.trans e5
        refine ⟨_, e45 _ _ c2, by rw [List.length_map]; exact small1000 (by omega), ps_same_upd (c1.trans e45) hD, zs ++ [T], acc ++ [(ss[k], z)], by rw [upd_same, List.map_append]; rfl, fun h => ?_, ?_, ?_, stab _ _ _ _ _ p4 (k5.trans Kept.upd)⟩
        · rcases List.mem_append.mp h with h | h
          · exact c2' h
          · exact TD (List.mem_singleton.mp h).symm
        · refine K1.paired_snoc (paired_mem_imp (fun z e hz h => ?_) c3) ?_
          · rw [upd_ne fun y => c2' (by rw [← y]; exact hz)]
            exact e45 _ _ h
          · rw [upd_ne TD]
            exact gT
        · rw [take_snoc hk', List.map_append]
          exact List.Sublist.append c4 (List.Sublist.refl _)
      · exact ⟨c1.trans e4, zs, acc, e4 _ _ c2, c2', paired_imp (fun _ _ h => e4 _ _ h) c3, c4.trans (List.take_sublist_take_left (Nat.le_succ k)), p4⟩
  · rintro Hc ⟨c1, zs, acc, c2, c2', c3, c4, c5⟩
    rw [lm, List.take_length] at c4
    rw [lm] at c5
    have cp : Paired (fun (p : Addr) (kv : Key × V) => SqT K Hc p [kV kv.1, kv.2]) zs (nKv acc) := by
      have : ∀ {zs : List Addr} {acc : List (Str × V)}, Paired (fun (z : Addr) (e : Str × V) => Hc z = some (.tup [.str e.1, e.2])) zs acc → Paired (fun (p : Addr) (kv : Key × V) => SqT K Hc p [kV kv.1, kv.2]) zs (nKv acc) := by
        intro zs acc h
        induction h with
        | nil => exact .nil
        | cons a _ ih => exact .cons (SqT.of a) ih
      exact this c3
    refine ⟨D, zs, nKv acc, rfl, SqL.of c2, cp, fun L hL => ?_⟩
    have nk : (nKv acc).map (·.1) = (acc.map (·.1)).map Sum.inr := by unfold nKv; rw [List.map_map, List.map_map]; rfl
    rw [merge_new (fun p _ => by simp) (by rw [nk]; exact List.Pairwise.map _ (fun a b (h : a ≠ b) z => h (Sum.inr.inj z)) (nds.sublist c4)), List.nil_append]
    have LD : L ≠ D := fun z => by rw [z, c2] at hL; cases hL
    exact fin D L acc _ hD (c1.free hL) LD (c1.trans (K1.Same.upd hL)) upd_same c4 (stab _ _ _ _ _ c5 (Kept.new hL))
def refK (ns : List Str) (ad : Str → Addr) : List (Key × V) := ns.map fun s => ((.inr s : Key), V.ref (ad s))
def strK (ns : List Str) (F : Str → Str) : List (Key × V) := ns.map fun s => ((.inr s : Key), V.str (F s))
theorem val_map {ns : List Str} {g : Str → V} {s : Str} : valV (ns.map fun s => ((.inr s : Key), g s)) (.inr s) = if s ∈ ns then some (g s) else none := by
  induction ns with
  | nil => rfl
  | cons n ns ih =>
    rw [List.map_cons]
    by_cases c : n = s
    · rw [valV_pos (p := (Sum.inr n, g n)) (by rw [c]), if_pos (by rw [c]; exact List.mem_cons_self ..), c]
    · rw [valV_neg (p := (Sum.inr n, g n)) fun z => c (Sum.inr.inj z), ih]
      by_cases m : s ∈ ns
      · rw [if_pos m, if_pos (List.mem_cons_of_mem _ m)]
      · rw [if_neg m, if_neg fun z => (List.mem_cons.mp z).elim (fun z => c z.symm) m]
theorem val_refK {ns : List Str} {ad : Str → Addr} {s : Str} : valV (refK ns ad) (.inr s) = if s ∈ ns then some (.ref (ad s)) else none := val_map
theorem val_strK {ns : List Str} {F : Str → Str} {s : Str} : valV (strK ns F) (.inr s) = if s ∈ ns then some (.str (F s)) else none := val_map
/-- dict([(name, text) for name in names]) -/
theorem dictS_run {K : PySem.W.Frag} {tn tv : TE} {i : Nat} {σ : L2.St} {H : Hp} {Q : VK} {p1 : Addr} {ss : List Str} (F : Str → Str) (hn : ∀ R : VK, R (.ref p1) H → tn σ H R) (h1 : H p1 = some (.lst (ss.map V.str))) (nds : ss.Nodup) (ls : ss.length ≤ 60) (hi : i < σ.length)
    (step : ∀ s ∈ ss, ∀ Hc, Same H Hc → ∀ R : VK, R (.str (F s)) Hc → tv ((σ.set i none).set i (some (.str s))) Hc R)
    (fin : ∀ L H', H L = none → Same H H' → H' L = some (.dK (strK ss F)) → Q (.ref L) H') :
    tCB (rDictP K) (tCons (tLc (iList K tn) (gName i) tYes (tTup (tCons (tVar i) (tCons tv tNil))) [i]) tNil) σ H Q := by
  refine dictN_run hn h1 nds ls hi (fun D k acc Hc => acc = (ss.take k).map fun s => (s, V.str (F s))) (fun _ _ _ _ _ h _ => h) (fun _ _ => rfl) ?_ ?_
  · rintro D k acc Hc hk hD e1 _ rfl R1 R2 r1 r2
    unfold tYes
    refine iteT (step _ (List.getElem_mem hk) Hc e1 _ (r1 _ _ (Same.refl _) ?_))
    rw [take_snoc hk, List.map_append]
    rfl
  · rintro D L acc H' hD hL LD e1 g1 sub rfl
    refine fin L H' hL e1 ?_
    rw [g1]
    unfold nKv strK
    rw [List.take_length, List.map_map]
    rfl
/-- dict([(name, a new list) for name in names if name is not gone]) -/
theorem dictL_run {K : PySem.W.Frag} {tn tv : TE} {tt : TT} {i : Nat} {σ : L2.St} {H : Hp} {Q : VK} {p1 : Addr} {ss : List Str} (gone : List Str) (F : Str → List Str) (hn : ∀ R : VK, R (.ref p1) H → tn σ H R) (h1 : H p1 = some (.lst (ss.map V.str))) (nds : ss.Nodup) (ls : ss.length ≤ 60) (hi : i < σ.length)
    (test : ∀ s ∈ ss, ∀ Hc, Same H Hc → ∀ R : Bool → Hp → Prop, R (decide (s ∉ gone)) Hc → tt ((σ.set i none).set i (some (.str s))) Hc R)
    (step : ∀ s ∈ ss, s ∉ gone → ∀ Hc, Same H Hc → ∀ R : VK, (∀ l, Hc l = none → R (.ref l) (L2.upd Hc l (.lst ((F s).map V.str)))) → tv ((σ.set i none).set i (some (.str s))) Hc R)
    (fin : ∀ L ad H', H L = none → Same H H' → H' L = some (.dK (refK (ss.filter fun s => decide (s ∉ gone)) ad)) → (∀ s ∈ ss, s ∉ gone → H (ad s) = none ∧ H' (ad s) = some (.lst ((F s).map V.str))) → (∀ s ∈ ss, ∀ t ∈ ss, s ∉ gone → t ∉ gone → ad s = ad t → s = t) → Q (.ref L) H') :
    tCB (rDictP K) (tCons (tLc (iList K tn) (gName i) tt (tTup (tCons (tVar i) (tCons tv tNil))) [i]) tNil) σ H Q := by
  refine dictN_run hn h1 nds ls hi (fun D k acc Hc => ∃ ad : Str → Addr, acc = ((ss.take k).filter fun s => decide (s ∉ gone)).map (fun s => (s, V.ref (ad s))) ∧ (∀ s ∈ ss.take k, s ∉ gone → H (ad s) = none ∧ ad s ≠ D ∧ Hc (ad s) = some (.lst ((F s).map V.str))) ∧ ∀ s ∈ ss.take k, ∀ t ∈ ss.take k, s ∉ gone → t ∉ gone → ad s = ad t → s = t)
    (fun D k acc Hc Hc' ⟨ad, a, b, c⟩ kk => ⟨ad, a, fun s hs n => ⟨(b s hs n).1, (b s hs n).2.1, kk _ _ (b s hs n).2.1 (b s hs n).2.2⟩, c⟩) (fun D hD => ⟨fun _ => 0, rfl, fun s hs => absurd hs (by simp), fun s hs => absurd hs (by simp)⟩) ?_ ?_
  · rintro D k acc Hc hk hD e1 ⟨xs, gD⟩ ⟨ad, rfl, b, c⟩ R1 R2 r1 r2
    have hm := List.getElem_mem hk
    refine test _ hm Hc e1 _ ?_
    have nw : ∀ s ∈ ss.take k, s ≠ ss[k] := fun s hs z => nodup_take_not nds hk (by rw [← z]; exact hs)
    refine ite2 (fun cc => ?_) (fun cc => ?_)
    · have cg := of_decide_eq_true cc
      refine step _ hm cg Hc e1 _ fun l hl => r1 _ _ (K1.Same.upd hl) ?_
      have lD : l ≠ D := fun z => by rw [z, gD] at hl; cases hl
      have old : ∀ s ∈ ss.take k, s ∉ gone → ad s ≠ l := fun s hs n z => by
        have := (b s hs n).2.2
        rw [z, hl] at this
        cases this
      refine ⟨fun s => if s = ss[k] then l else ad s, ?_, fun s hs n => ?_, fun s hs t ht n1 n2 z => ?_⟩
      · rw [take_snoc hk, List.filter_append, List.filter_cons, if_pos cc, List.map_append]
        congr 1
        · refine List.map_congr_left fun s hs => ?_
          simp only [if_neg (nw s (List.mem_filter.mp hs).1)]
        · simp
      · rcases (mem_take_succ hk).mp hs with hs | rfl
        · simp only [if_neg (nw s hs)]
          exact ⟨(b s hs n).1, (b s hs n).2.1, by rw [upd_ne (old s hs n)]; exact (b s hs n).2.2⟩
        · simp only [if_true]
          exact ⟨e1.free hl, lD, upd_same⟩
      · rcases (mem_take_succ hk).mp hs with hs | rfl <;> rcases (mem_take_succ hk).mp ht with ht | rfl
        · simp only [if_neg (nw s hs), if_neg (nw t ht)] at z
          exact c s hs t ht n1 n2 z
        · simp only [if_neg (nw s hs), if_true] at z
          exact absurd z (old s hs n1)
        · simp only [if_neg (nw t ht), if_true] at z
          exact absurd z.symm (old t ht n2)
        · rfl
    · have cg : ss[k] ∈ gone := by
        by_cases z : ss[k] ∈ gone
        · exact z
        · exact absurd (decide_eq_true z) cc
      refine r2 _ (Same.refl _) ⟨ad, ?_, fun s hs n => ?_, fun s hs t ht n1 n2 z => ?_⟩
      · rw [take_snoc hk, List.filter_append, List.filter_cons, if_neg cc, List.filter_nil, List.append_nil]
      · rcases (mem_take_succ hk).mp hs with hs | rfl
        · exact b s hs n
        · exact absurd cg n
      · rcases (mem_take_succ hk).mp hs with hs | rfl
        · rcases (mem_take_succ hk).mp ht with ht | rfl
          · exact c s hs t ht n1 n2 z
          · exact absurd cg n2
        · exact absurd cg n1
  · rintro D L acc H' hD hL LD e1 g1 sub ⟨ad, rfl, b, c⟩
    rw [List.take_length] at b c g1
    refine fin L ad H' hL e1 ?_ (fun s hs n => ⟨(b s hs n).1, (b s hs n).2.2⟩) c
    rw [g1]
    unfold nKv refK
    rw [List.map_map]
    rfl
theorem LsD.ofR {H H' : Hp} {ss gone : List Str} {ad : Str → Addr} {F : Str → List Str} (a : ∀ s ∈ ss, s ∉ gone → H (ad s) = none ∧ H' (ad s) = some (.lst ((F s).map V.str))) (b : ∀ s ∈ ss, ∀ t ∈ ss, s ∉ gone → t ∉ gone → ad s = ad t → s = t) :
    LsD H H' (refK (ss.filter fun s => decide (s ∉ gone)) ad) ss gone ad F :=
  ⟨fun s hs h => by rw [val_refK, if_neg fun z : s ∈ ss.filter (fun s => decide (s ∉ gone)) => (of_decide_eq_true (List.mem_filter.mp z).2 : s ∉ gone) h], fun s hs n => ⟨by rw [val_refK, if_pos (List.mem_filter.mpr ⟨hs, decide_eq_true n⟩)], a s hs n⟩, b⟩
theorem filt_nil {ss : List Str} : (ss.filter fun s => decide (s ∉ ([] : List Str))) = ss := List.filter_eq_self.mpr fun s _ => by simp
/-- dict([(name, []) for name in names]) -/
theorem dictE_run {K : PySem.W.Frag} {tn : TE} {i : Nat} {σ : L2.St} {H : Hp} {Q : VK} {p1 : Addr} {ss : List Str} (hn : ∀ R : VK, R (.ref p1) H → tn σ H R) (h1 : H p1 = some (.lst (ss.map V.str))) (nds : ss.Nodup) (ls : ss.length ≤ 60) (hi : i < σ.length)
    (fin : ∀ L kvs ad H', H L = none → Same H H' → H' L = some (.dK kvs) → kvs.length = ss.length → LsD H H' kvs ss [] ad (fun _ => []) → Q (.ref L) H') :
    tCB (rDictP K) (tCons (tLc (iList K tn) (gName i) tYes (tTup (tCons (tVar i) (tCons (tLst tNil) tNil))) [i]) tNil) σ H Q := by
  refine dictL_run [] (fun _ => []) hn h1 nds ls hi (fun s hs Hc e R r => ?_) (fun s hs n Hc e R r => ?_) fun L ad H' hL e g a b => ?_
  · unfold tYes
    rw [decide_eq_true (by simp)] at r
    exact r
  · exact ⟨by decide, fun l hl => r l hl⟩
  · exact fin L _ ad H' hL e g (by rw [filt_nil]; unfold refK; rw [List.length_map]) (LsD.ofR a b)
end K1
end
-- MNe
section
set_option Elab.async false
set_option linter.all false
set_option maxRecDepth 100000
set_option maxHeartbeats 2000000
namespace K1
open PySem PySem.Spec PyProof.Rows L2 W0
abbrev sNe9 : Stmt := top 54
theorem scNe9 : FnScope ["names", "roads", "name", "found", "one", "other"] ["names", "roads"] (defScope sNe9) := ⟨rfl, rfl, rfl, by decide +kernel, rfl, by decide +kernel, by decide +kernel⟩
/-- the neighbours of a house, in the order of the roads -/
def nbr (rs : List (Str × Str)) (s : Str) : List Str := rs.flatMap fun e => (if e.1 = s then [e.2] else []) ++ if e.2 = s then [e.1] else []
theorem mem_nbr {rs : List (Str × Str)} {s t : Str} : t ∈ nbr rs s ↔ nbB rs s t = true := by
  unfold nbr
  rw [List.mem_flatMap, nbB_iff]
  constructor
  · rintro ⟨e, he, h⟩
    rcases List.mem_append.mp h with h | h
    · by_cases c : e.1 = s
      · rw [if_pos c] at h
        exact .inl (by rw [List.mem_singleton.mp h, ← c]; exact he)
      · rw [if_neg c] at h; cases h
    · by_cases c : e.2 = s
      · rw [if_pos c] at h
        exact .inr (by rw [List.mem_singleton.mp h, ← c]; exact he)
      · rw [if_neg c] at h; cases h
  · rintro (h | h)
    · exact ⟨_, h, List.mem_append_left _ (by rw [if_pos rfl]; simp)⟩
    · exact ⟨_, h, List.mem_append_right _ (by rw [if_pos rfl]; simp)⟩
theorem nbr_len {rs : List (Str × Str)} {s : Str} : (nbr rs s).length ≤ 2 * rs.length := by
  unfold nbr
  induction rs with
  | nil => exact Nat.le_refl _
  | cons e rs ih =>
    rw [List.flatMap_cons, List.length_append, List.length_append, List.length_cons]
    have : ∀ (p : Prop) [Decidable p] (x : Str), (if p then [x] else []).length ≤ 1 := fun p _ x => by split <;> simp
    have a := this (e.1 = s) e.2
    have b := this (e.2 = s) e.1
    omega
theorem LsD.app {H0 Hc Hd : Hp} {kl : List (Key × V)} {ss gone : List Str} {ad : Str → Addr} {F : Str → List Str} {G : List Str} {t : Str} (h : LsD H0 Hc kl ss gone ad F) (ht : t ∈ ss) (nt : t ∉ gone) (hd : Hd (ad t) = some (.lst ((F t ++ G).map V.str))) (hk : Kept (ad t) Hc Hd) :
    LsD H0 Hd kl ss gone ad fun s => if s = t then F s ++ G else F s := by
  refine ⟨h.no, fun s hs hg => ?_, h.inj⟩
  obtain ⟨a, b, c⟩ := h.yes s hs hg
  refine ⟨a, b, ?_⟩
  by_cases e : s = t
  · simp only [e, if_true]
    exact hd
  · simp only [if_neg e]
    exact hk _ _ (fun z => e (h.inj s hs t ht hg nt z)) c
theorem LsD.congr {H0 Hc : Hp} {kl : List (Key × V)} {ss gone : List Str} {ad : Str → Addr} {F F' : Str → List Str} (h : LsD H0 Hc kl ss gone ad F) (e : ∀ s ∈ ss, F s = F' s) : LsD H0 Hc kl ss gone ad F' :=
  ⟨h.no, fun s hs n => ⟨(h.yes s hs n).1, (h.yes s hs n).2.1, by rw [← e s hs]; exact (h.yes s hs n).2.2⟩, h.inj⟩
def spNe9 : Sp := fun vs H Q _ => ∃ (p1 p2 : Addr) (ss : List Str) (qs : List Addr) (rs : List (Str × Str)), vs = [.ref p1, .ref p2] ∧ H p1 = some (.lst (ss.map V.str)) ∧ ss.Nodup ∧ ss.length ≤ 60 ∧ H p2 = some (.lst (qs.map V.ref)) ∧ Paired (TupP H) qs rs ∧ EndsIn ss rs ∧ rs.length ≤ 60 ∧
  ∀ r kvs ad H', H r = none → Same H H' → H' r = some (.dK kvs) → LsD H H' kvs ss [] ad (nbr rs) → Q (.ref r) H'
section
variable {P : Program} {w : World} {K : PySem.W.Frag} {mg : Str → Option Value} {base : Heap}
theorem ok_Ne9 {f : Addr} {fd : FuncData} (F : Fun K "_law_near" "_law_near" sNe9 f fd) (B : Bl mg) : FnOk P w K mg base CX0 1 f fd ["names", "roads"] spNe9 := by
  refine F.ok scNe9 (fun vs H Q E h => ?_) (fun cdv A outer s H vs Q E hr h => ?_)
  · obtain ⟨p1, p2, ss, qs, rs, rfl, _⟩ := h
    rfl
  obtain ⟨p1, p2, ss, qs, rs, rfl, h1, nds, ls, h2, pr, ends, lr, q⟩ := h
  have nd := scNe9.nd
  have hu := hu_of hr
  refine ⟨_, (pss_cons (by exact (ps_set (i := 3) nd rfl (.inl rfl) (pe_callTy (r := rDictP K) (call_dictP rfl) rfl B.dict PyProof.Rows.boot_dict (pa_cons (pe_lc (own := [("name", 2)]) (g := gName 2) (tt := tYes) (te := tTup (tCons (tVar 2) (tCons (tLst tNil) tNil))) rfl nd (by exact pi_list (pv 0)) (by exact blkOk_by (N := ["names", "roads", "name", "found", "one", "other"]) (sc := defScope sNe9) (by decide +kernel)) (fun _ _ _ _ _ => by exact (pg_name (i := 2) nd rfl (.inl rfl))) (fun _ _ _ _ _ => by exact pts_nil) (fun _ _ _ _ _ => by exact (pe_tup (pa_cons (pv 2) (pa_cons (pe_lst pa_nil) pa_nil))))) pa_nil))))
  (pss_cons (by exact (ps_for PassesOwn.never rfl (by exact pi_list (pv 1)) (pg_tup rfl (pgs_cons (pg_name (i := 4) nd rfl (.inl rfl)) (pgs_cons (pg_name (i := 5) nd rfl (.inl rfl)) pgs_nil))) (pss_cons (by exact (ps_expr (pe_bm PySem.F.plainAttrs_list PySem.F.slot_list_append PySem.F.type_list_append mt_append (pe_dget hu (pv 3) (pv 4) (fun _ _ => rfl)) (pa_cons (pv 5) pa_nil))))
  (pss_one (by exact (ps_expr (pe_bm PySem.F.plainAttrs_list PySem.F.slot_list_append PySem.F.type_list_append mt_append (pe_dget hu (pv 3) (pv 5) (fun _ _ => rfl)) (pa_cons (pv 4) pa_nil))))))))
  (pss_one (by exact (ps_ret (pv 3)))))), ?_⟩
  with_reducible refine sQ ?_
  refine dictE_run (fun R h => ⟨_, rfl, h⟩) h1 nds ls (by show 2 < 6; decide) fun D kvs ad H1 hD e1 g1 lk ls1 => ?_
  refine K1.gN ?_
  with_reducible refine sQ ?_
  have h21 := e1 _ _ h2
  refine ⟨_, rfl, p2, rfl, ⟨_, SqL.of h21⟩, ?_⟩
  refine for_it (walk_list (xs := qs.map V.ref)) (fun i σ Hc => (∃ a4 a5, σ = [some (.ref p1), some (.ref p2), none, some (.ref D), a4, a5]) ∧ Same H Hc ∧ Hc D = some (.dK kvs) ∧ LsD H Hc kvs ss [] ad (nbr (rs.take i))) ?_ ?_ ?_ ?_
  · exact ⟨⟨_, _, rfl⟩, e1, g1, ls1⟩
  · exact fun i σ Hc _ h => SqL.of (h.2.1 _ _ h2)
  · rintro i v σ Hc H' hi ⟨⟨a4, a5, rfl⟩, c1, c2, c3⟩ ⟨rfl, hv⟩
    have lq := pr.length
    have hi' : i < rs.length := by rw [List.length_map] at hi; omega
    obtain ⟨T, rfl, gT⟩ := paired_ref pr hi' hv
    have gT' : H' T = some (.tup [.str rs[i].1, .str rs[i].2]) := c1 _ _ gT
    obtain ⟨e, ee⟩ : ∃ e, e = rs[i] := ⟨_, rfl⟩
    have em := ends _ (List.getElem_mem hi')
    rw [← ee] at gT' em
    have n0 : ∀ s : Str, s ∉ ([] : List Str) := fun s => by simp
    have ln : ∀ s, (nbr (rs.take i) s).length ≤ 1000 := fun s => by
      have := @nbr_len (rs.take i) s
      rw [List.length_take] at this
      omega
    refine ⟨T, _, rfl, SqT.of gT', rfl, _, _, rfl, _, _, rfl, rfl, ?_⟩
    with_reducible refine sQ ?_
    obtain ⟨x1, x2, x3⟩ := c3.yes e.1 em.1 (n0 _)
    have dg1 := DGet.k (k := .inr e.1) c2
    rw [x1] at dg1
    refine ⟨_, rfl, _, rfl, D, _, rfl, dg1, .inl ⟨rfl, _, SqL.of x3⟩, _, rfl, ad e.1, _, _, rfl, rfl, x3, by rw [List.length_map]; exact small1000 (ln _), ?_⟩
    have adD : ∀ {Hx : Hp} {kv : List (Key × V)} {F : Str → List Str}, Hx D = some (.dK kvs) → LsD H Hx kv ss [] ad F → ∀ s ∈ ss, ad s ≠ D := fun g l s hs z => by
      have := (l.yes s hs (n0 _)).2.2
      rw [z, g] at this
      cases this
    have k1 : Kept (ad e.1) H' (L2.upd H' (ad e.1) (.lst ((nbr (rs.take i) e.1).map V.str ++ [.str e.2]))) := Kept.upd
    have gg := upd_same' H' (ad e.1) (.lst ((nbr (rs.take i) e.1).map V.str ++ [.str e.2]))
    generalize L2.upd H' (ad e.1) (.lst ((nbr (rs.take i) e.1).map V.str ++ [.str e.2])) = H2 at k1 gg ⊢
    have l2 := c3.app em.1 (n0 _) (G := [e.2]) (by rw [gg, List.map_append]; rfl) k1
    have s2 : Same H H2 := fun b o h => k1 b o (fun z => by rw [z, x2] at h; cases h) (c1 _ _ h)
    have gD2 := k1 _ _ (fun z => adD c2 c3 _ em.1 z.symm) c2
    dsimp only
    obtain ⟨y1, y2, y3⟩ := l2.yes e.2 em.2 (n0 _)
    have dg2 := DGet.k (k := .inr e.2) gD2
    rw [y1] at dg2
    refine ⟨_, rfl, _, rfl, D, _, rfl, dg2, .inl ⟨rfl, _, SqL.of y3⟩, _, rfl, ad e.2, _, _, rfl, rfl, y3, ?_, ?_⟩
    · rw [List.length_map]
      refine small1000 ?_
      split
      · have := @nbr_len (rs.take i) e.2
        rw [List.length_take] at this
        rw [List.length_append, List.length_singleton]
        omega
      · exact ln _
    obtain ⟨X, eX⟩ : ∃ X, X = (if e.2 = e.1 then nbr (rs.take i) e.2 ++ [e.2] else nbr (rs.take i) e.2) := ⟨_, rfl⟩
    rw [← eX] at y3 ⊢
    have k2 : Kept (ad e.2) H2 (L2.upd H2 (ad e.2) (.lst (X.map V.str ++ [.str e.1]))) := Kept.upd
    have gg2 := upd_same' H2 (ad e.2) (.lst (X.map V.str ++ [.str e.1]))
    generalize L2.upd H2 (ad e.2) (.lst (X.map V.str ++ [.str e.1])) = H3 at k2 gg2 ⊢
    have l3 := l2.app em.2 (n0 _) (G := [e.1]) (by rw [gg2, List.map_append, eX]; rfl) k2
    refine ⟨⟨_, _, rfl⟩, fun b o h => k2 b o (fun z => by rw [z, y2] at h; cases h) (s2 _ _ h), k2 _ _ (fun z => adD gD2 l2 _ em.2 z.symm) gD2, l3.congr fun s _ => ?_⟩
    unfold nbr
    rw [take_snoc hi', List.flatMap_append, List.flatMap_cons, List.flatMap_nil, List.append_nil, ← ee]
    by_cases c1 : s = e.1
    · by_cases c2 : s = e.2
      · rw [if_pos c2, if_pos c1, if_pos c1.symm, if_pos c2.symm, List.append_assoc]
      · rw [if_neg c2, if_pos c1, if_pos c1.symm, if_neg fun z => c2 z.symm, List.append_nil]
    · by_cases c2 : s = e.2
      · rw [if_pos c2, if_neg c1, if_neg (fun z => c1 z.symm), if_pos c2.symm, List.nil_append]
      · rw [if_neg c2, if_neg c1, if_neg (fun z => c1 z.symm), if_neg (fun z => c2 z.symm), List.nil_append, List.append_nil]
  · rintro σ Hc ⟨⟨a4, a5, rfl⟩, c1, c2, c3⟩
    rw [List.length_map, pr.length, List.take_length] at c3
    exact ⟨_, rfl, q D kvs ad Hc hD c1 c2 c3⟩
end
end K1
end
-- MOut
section
set_option Elab.async false
set_option linter.all false
set_option maxRecDepth 100000
set_option maxHeartbeats 4000000
namespace K1
open PySem PySem.Spec PyProof.Rows L2 W0
abbrev sOu9 : Stmt := top 55
theorem scOu9 : FnScope ["near", "gate", "found", "waiting", "here", "far"] ["near", "gate"] (defScope sOu9) := ⟨rfl, rfl, rfl, by decide +kernel, rfl, by decide +kernel, by decide +kernel⟩
def spOu9 : Sp := fun vs H Q _ => ∃ (d : Addr) (o : Str) (ss : List Str) (rs : List (Str × Str)) (kvs : List (Key × V)) (ad : Str → Addr) (H0 : Hp), vs = [.ref d, .str o] ∧ H d = some (.dK kvs) ∧ LsD H0 H kvs ss [] ad (nbr rs) ∧ Tree ss rs ∧ ss.length ≤ 60 ∧ o ∈ ss ∧
  ∀ r kv H', H r = none → Same H H' → H' r = some (.dK kv) → UpD kv ss rs o → Q (.ref r) H'
section
variable {P : Program} {w : World} {K : PySem.W.Frag} {mg : Str → Option Value} {base : Heap}
theorem ok_Ou9 {f : Addr} {fd : FuncData} (F : Fun K "_law_outward" "_law_outward" sOu9 f fd) : FnOk P w K mg base CX0 1 f fd ["near", "gate"] spOu9 := by
  refine F.ok scOu9 (fun vs H Q E h => ?_) (fun cdv A outer s H vs Q E hr h => ?_)
  · obtain ⟨d, o, ss, rs, kvs, ad, H0, rfl, _⟩ := h
    rfl
  obtain ⟨d, o, ss, rs, kn, ad, H0, rfl, hd, ln, tr, hl, ho, q⟩ := h
  have nd := scOu9.nd
  have hu := hu_of hr
  have hu64 : (A.deeper (envOfC "_law_outward" (defScope sOu9) s.heap.objs.size f cdv)).units + 64 < cLine := by have := hr.un; omega
  refine ⟨_, (pss_cons (by exact (ps_par (i := 2) (j := 3) rfl nd rfl rfl (by decide) rfl rfl (pa_cons (pe_disp (pps_cons (pv 1) pe_non pps_nil) (by rfl) (by rfl) (fun z => by cases z) (by decide)) (pa_cons (pe_lst (pa_cons (pv 1) pa_nil)) pa_nil)) (by rfl)))
  (pss_cons (by exact (ps_while PassesOwn.never (pt_cmpR (NeLen.op_neNil hu64) (pv 3) (pe_lst pa_nil) (nomark _)) (pss_cons (by exact (ps_set (i := 4) nd rfl (.inl rfl) (pe_bm0 PySem.F.plainAttrs_list PySem.F.slot_list_pop PySem.F.type_list_pop mt_pop (pv 3))))
  (pss_one (by exact (ps_for PassesOwn.never rfl (by exact pi_list (pe_dget hu (pv 0) (pv 4) (fun _ _ => rfl))) (pg_name (i := 5) nd rfl (.inl rfl)) (pss_one (by exact (ps_if (pt_cmp (pc_dnotin hu (pv 5) (pv 2)) (by with_unfolding_all rfl)) (pss_cons (by exact (ps_dput hu (pv 2) (pv 5) (pv 4) rfl))
  (pss_one (by exact (ps_expr (pe_bm PySem.F.plainAttrs_list PySem.F.slot_list_append PySem.F.type_list_append mt_append (pv 3) (pa_cons (pv 5) pa_nil)))))) pss_nil)))))))))
  (pss_one (by exact (ps_ret (pv 2)))))), ?_⟩
  with_reducible refine sQ ?_
  intro D hD
  refine ⟨_, rfl, upd_same, [(.inr o, .non)], rfl, (by show 1 ≤ 15; decide), ?_⟩
  have eD : Same H (upd (upd H D (.dK [])) D (.dK (mergeK [] [(Sum.inr o, V.non)]))) := fun b u n => by
    rw [upd_ne (ne_of_none n hD), upd_ne (ne_of_none n hD)]
    exact n
  have gD : upd (upd H D (.dK [])) D (.dK (mergeK [] [(Sum.inr o, V.non)])) D = some (.dK [(.inr o, .non)]) := upd_same
  generalize upd (upd H D (.dK [])) D (.dK (mergeK [] [(Sum.inr o, V.non)])) = H1 at eD gD ⊢
  refine ⟨_, rfl, (by show 1 ≤ sizeLine; decide), fun W hW => ?_⟩
  have WD : W ≠ D := fun z => by rw [z, gD] at hW; cases hW
  have hW0 : H W = none := eD.free hW
  refine ⟨_, _, rfl, ?_⟩
  refine nQ ?_
  with_reducible refine sQ ?_
  have n0 : ∀ s : Str, s ∉ ([] : List Str) := fun s => by simp
  refine while_gh (fun m σ Hc => (∃ a b, σ = [some (.ref d), some (.str o), some (.ref D), some (.ref W), a, b]) ∧ Same H Hc ∧ ∃ done wt kvs, Hc D = some (.dK kvs) ∧ Hc W = some (.lst (wt.map V.str)) ∧ SeaN ss rs o done wt kvs ∧ (∀ s ∈ done, Clo rs (done ++ wt) s) ∧ m = ss.length - done.length) ss.length
    ⟨⟨_, _, rfl⟩, fun b u n => by rw [upd_ne (ne_of_none n hW0)]; exact eD b u n, [], [o], _, by rw [upd_ne WD.symm]; exact gD, upd_same, SeaN.init ho, fun s hs => absurd hs (by simp), by simp⟩ ?_ NeLen.neNil_mono
  rintro m σ Hc0 ⟨⟨ya, yb, rfl⟩, e10, done, wt, kvs, g10, g20, S, C1, rfl⟩
  refine NeLen.neNil_run rfl (SqL.of g20) (fun t nt => SqL.of (by rw [upd_ne (ne_of_none g20 nt)]; exact g20)) fun t nt => ?_
  have e0c := K1.Same.upd (H := Hc0) (p := t) (o := .lst []) nt
  generalize L2.upd Hc0 t (.lst []) = Hc at e0c ⊢
  have e1 := e10.trans e0c
  have g1 := e0c _ _ g10
  have g2 := e0c _ _ g20
  rcases List.eq_nil_or_concat wt with rfl | ⟨wt, h, rfl⟩
  · refine iteF ⟨_, rfl, q D kvs Hc hD e1 g1 (UpD.of tr (fun s hs ne => ?_) S.z0)⟩
    rw [List.append_nil] at C1
    have hin : ∀ t ∈ ss, t ∈ done := fun t ht => by
      refine tr.all (S := fun u => u ∈ done) (fun e he => ?_) ho ht (by have := S.st; rw [List.append_nil] at this; exact this)
      have q1 : nbB rs e.1 e.2 = true := nbB_iff.mpr (.inl he)
      exact ⟨fun h => C1 _ h _ q1, fun h => C1 _ h _ (by rw [nbB_swap]; exact q1)⟩
    obtain ⟨l, a, _, c⟩ := S.path s (by rw [List.append_nil]; exact hin s hs)
    obtain ⟨u, r, rfl, c2⟩ := c ne
    exact ⟨u, r, c2, a⟩
  rw [List.concat_eq_append] at g2 S C1 ⊢
  have ne : (!((wt ++ [h]).map V.str).isEmpty) = true := by cases wt <;> rfl
  rw [ne]
  refine iteT ?_
  have lt1 : done.length < ss.length := by
    have := S.le
    rw [List.length_append, List.length_append] at this
    simp only [List.length_singleton] at this
    omega
  have hlast : ((wt ++ [h]).map V.str)[((wt ++ [h]).map V.str).length - 1]? = some (.str h) := by
    rw [List.map_append]
    simp
  refine ⟨_, rfl, .inl ⟨rfl, _, SqL.of g2⟩, W, _, .str h, rfl, rfl, g2, hlast, ?_⟩
  have dl : ((wt ++ [h]).map V.str).dropLast = wt.map V.str := by rw [List.map_append]; exact List.dropLast_concat
  rw [dl]
  have S1 := S.take
  have e2 : Same H (upd Hc W (.lst (wt.map V.str))) := fun b u n => by rw [upd_ne (ne_of_none n hW0)]; exact e1 b u n
  have gD2 : upd Hc W (.lst (wt.map V.str)) D = some (.dK kvs) := by rw [upd_ne WD.symm]; exact g1
  have gW2 : upd Hc W (.lst (wt.map V.str)) W = some (.lst (wt.map V.str)) := upd_same
  generalize upd Hc W (.lst (wt.map V.str)) = Hd at e2 gD2 gW2 ⊢
  have hss : h ∈ ss := S1.ins h (by simp)
  obtain ⟨k1, k2, k3⟩ := ln.yes h hss (n0 _)
  have dg := DGet.k (k := .inr h) (e2 _ _ hd)
  rw [k1] at dg
  refine gN ?_
  refine ⟨_, rfl, _, rfl, d, _, rfl, dg, ad h, rfl, ⟨_, SqL.of (e2 _ _ k3)⟩, ?_⟩
  refine for_it (walk_list (xs := (nbr rs h).map V.str)) (fun i σ Hd => (∃ b, σ = [some (.ref d), some (.str o), some (.ref D), some (.ref W), some (.str h), b]) ∧ Same H Hd ∧ ∃ wt' kvs', Hd D = some (.dK kvs') ∧ Hd W = some (.lst (wt'.map V.str)) ∧ SeaN ss rs o (done ++ [h]) wt' kvs' ∧ (∀ s ∈ done, Clo rs (done ++ [h] ++ wt') s) ∧ ∀ t ∈ (nbr rs h).take i, t ∈ done ++ [h] ++ wt')
    ⟨⟨_, rfl⟩, e2, wt, kvs, gD2, gW2, S1, fun s hs t ht => ?_, fun t ht => absurd ht (by simp)⟩ (fun i σ Hd _ hh => SqL.of (hh.2.1 _ _ k3)) ?_ ?_
  · have := C1 s hs t ht
    simp only [List.mem_append, List.mem_singleton] at this ⊢
    rcases this with a | a | a
    · exact .inl (.inl a)
    · exact .inr a
    · exact .inl (.inr a)
  · rintro i y σ Hd' H' hi ⟨⟨b, rfl⟩, e3, wt', kvs', gD3, gW3, S3, C3, N3⟩ ⟨rfl, hy⟩
    rw [List.length_map] at hi
    rw [List.getElem?_map, List.getElem?_eq_getElem hi] at hy
    obtain rfl := Option.some.inj hy
    have hf : (nbr rs h)[i] ∈ nbr rs h := List.getElem_mem hi
    have nf := mem_nbr.mp hf
    have lk : (done ++ [h] ++ wt').length ≤ 60 := Nat.le_trans S3.le hl
    refine ⟨_, rfl, _, rfl, D, _, rfl, DGet.k (k := .inr (nbr rs h)[i]) gD3, _, rfl, ?_⟩
    rw [S3.keys]
    refine ite2 (fun c => ?_) (fun c => ?_)
    · have c2 : (nbr rs h)[i] ∉ done ++ [h] ++ wt' := fun z => by rw [decide_eq_true z] at c; cases c
      refine ⟨_, rfl, _, rfl, _, rfl, D, _, rfl, DPut.k (k := .inr (nbr rs h)[i]) gD3 (Nat.lt_of_le_of_lt S3.len (small1000 (by omega))), ?_⟩
      have gW4 : upd H' D (.dK (putK kvs' (.inr (nbr rs h)[i]) (.str h))) W = some (.lst (wt'.map V.str)) := by rw [upd_ne WD]; exact gW3
      have lw : wt'.length ≤ 1000 := by rw [List.length_append] at lk; omega
      refine ⟨_, rfl, .inl ⟨rfl, _, SqL.of gW4⟩, _, rfl, W, _, _, rfl, rfl, gW4, by rw [List.length_map]; exact small1000 lw, ?_⟩
      refine ⟨⟨_, rfl⟩, fun b u n => ?_, wt' ++ [(nbr rs h)[i]], _, by rw [upd_ne WD.symm]; exact upd_same, by rw [upd_same, List.map_append]; rfl, S3.add (by simp) tr.ends nf c2, fun s hs t ht => ?_, fun t ht => ?_⟩
      · rw [upd_ne (ne_of_none n hW0), upd_ne (ne_of_none n hD)]
        exact e3 b u n
      · rw [← List.append_assoc]
        exact List.mem_append_left _ (C3 s hs t ht)
      · rw [← List.append_assoc]
        rcases (mem_take_succ hi).mp ht with ht | rfl
        · exact List.mem_append_left _ (N3 t ht)
        · exact List.mem_append_right _ (by simp)
    · have c2 : (nbr rs h)[i] ∈ done ++ [h] ++ wt' := by
        by_cases z : (nbr rs h)[i] ∈ done ++ [h] ++ wt'
        · exact z
        · rw [decide_eq_false z] at c
          exact absurd rfl c
      refine ⟨⟨_, rfl⟩, e3, wt', kvs', gD3, gW3, S3, C3, fun t ht => ?_⟩
      rcases (mem_take_succ hi).mp ht with ht | rfl
      · exact N3 t ht
      · exact c2
  · rintro σ Hd' ⟨⟨b, rfl⟩, e3, wt', kvs', gD3, gW3, S3, C3, N3⟩
    rw [List.length_map, List.take_length] at N3
    refine ⟨ss.length - (done ++ [h]).length, by rw [List.length_append, List.length_singleton]; omega, ⟨_, _, rfl⟩, e3, done ++ [h], wt', kvs', gD3, gW3, S3, fun s hs => ?_, rfl⟩
    rcases List.mem_append.mp hs with hs | hs
    · exact C3 s hs
    · rw [List.mem_singleton.mp hs]
      exact fun t ht => N3 t (mem_nbr.mpr ht)
end
end K1
end
-- MHd
section
set_option Elab.async false
set_option linter.all false
set_option maxRecDepth 100000
set_option maxHeartbeats 4000000
namespace K1
open PySem PySem.Spec PyProof.Rows L2 W0
abbrev sHd9 : Stmt := top 56
theorem scHd9 : FnScope ["names", "roads", "evening", "gate", "name", "ahead", "lots", "lists", "given", "rows", "one", "other", "far", "here"] ["names", "roads", "evening", "gate"] (defScope sHd9) := ⟨rfl, rfl, rfl, by decide +kernel, rfl, by decide +kernel, by decide +kernel⟩
noncomputable def hsE (rs : List (Str × Str)) (o : Str) (es : List (Str × Str)) : HS := hsOf (upG rs o) (es.map (farG rs o))
/-- a row: the lists that are there, in the order of the names -/
def RowAt (H H' : Hp) (ss : List Str) (S : HS) (r : Addr) : Prop := ∃ ad : Str → Addr, H' r = some (.dK (refK (ss.filter fun s => decide (s ∉ S.gone)) ad)) ∧ (∀ s ∈ ss, s ∉ S.gone → H (ad s) = none ∧ H' (ad s) = some (.lst ((S.lists s).map V.str))) ∧ ∀ s ∈ ss, ∀ t ∈ ss, s ∉ S.gone → t ∉ S.gone → ad s = ad t → s = t
theorem RowAt.same {H H' H2 : Hp} {ss : List Str} {S : HS} {r : Addr} (h : RowAt H H' ss S r) (e : Same H' H2) : RowAt H H2 ss S r := by
  obtain ⟨ad, a, b, c⟩ := h
  exact ⟨ad, e _ _ a, fun s hs n => ⟨(b s hs n).1, e _ _ (b s hs n).2⟩, c⟩
def spHd9 : Sp := fun vs H Q _ => ∃ (p1 p2 pe : Addr) (o : Str) (ss : List Str) (qs us : List Addr) (rs es : List (Str × Str)), vs = [.ref p1, .ref p2, .ref pe, .str o] ∧ H p1 = some (.lst (ss.map V.str)) ∧ Tree ss rs ∧ ss.length ≤ 60 ∧ o ∈ ss ∧ H p2 = some (.lst (qs.map V.ref)) ∧ Paired (TupP H) qs rs ∧
  H pe = some (.lst (us.map V.ref)) ∧ Paired (TupP H) us es ∧ es.Nodup ∧ (∀ e ∈ es, e ∈ rs) ∧
  ∀ (t lr dG : Addr) (rws : List Addr) (kG : List (Key × V)) (adG : Str → Addr) (H' : Hp), H t = none → H lr = none → H dG = none → Same H H' → H' t = some (.tup [.ref lr, .ref dG]) → H' lr = some (.lst (rws.map V.ref)) → rws.length = es.length + 1 → (∀ k (hk : k < rws.length), RowAt H H' ss (hsE rs o (es.take k)) rws[k]) →
    H' dG = some (.dK kG) → LsD H H' kG ss [] adG (hsE rs o es).given → Q (.ref t) H'
section
variable {P : Program} {w : World} {K : PySem.W.Frag} {mg : Str → Option Value} {base : Heap} {fN fO : Addr} {fdN fdO : FuncData}
theorem ok_Hd9 {f : Addr} {fd : FuncData} (F : Fun K "_law_handed_on" "_law_handed_on" sHd9 f fd) (B : Bl mg)
    (GN : FnOk P w K mg base CX0 1 fN fdN ["names", "roads"] spNe9) (bN : Binds K fdN ["names", "roads"] []) (kN : PySem.W.keepIn K (.ref fN) = true) (mN : mg "_law_near" = some (.ref fN))
    (GO : FnOk P w K mg base CX0 1 fO fdO ["near", "gate"] spOu9) (bO : Binds K fdO ["near", "gate"] []) (kO : PySem.W.keepIn K (.ref fO) = true) (mO : mg "_law_outward" = some (.ref fO)) :
    FnOk P w K mg base CX0 2 f fd ["names", "roads", "evening", "gate"] spHd9 := by
  refine F.ok scHd9 (fun vs H Q E h => ?_) (fun cdv A outer s H vs Q E hr h => ?_)
  · obtain ⟨p1, p2, pe, o, ss, qs, us, rs, es, rfl, _⟩ := h
    rfl
  obtain ⟨p1, p2, pe, o, ss, qs, us, rs, es, rfl, h1, tr, ls, ho, h2, pr, he, pu, nde, sub, q⟩ := h
  have nd := scHd9.nd
  have hu := hu_of hr
  have hr1 : Room 1 _ := hr.mono (by decide)
  refine ⟨_, (pss_cons (by exact (ps_asg (pe_tup (pa_cons (pe_call GO hr1 rfl mO kO bO .nil pass0 (pa_cons (pe_call GN hr1 rfl mN kN bN .nil pass0 (pa_cons (pv 0) (pa_cons (pv 1) pa_nil))) (pa_cons (pv 3) pa_nil))) (pa_cons (pe_callTy (r := rDictP K) (call_dictP rfl) rfl B.dict PyProof.Rows.boot_dict (pa_cons (pe_lc (own := [("name", 4)]) (g := gName 4) (tt := tYes) (te := tTup (tCons (tVar 4) (tCons (tVar 4) tNil))) rfl nd (by exact pi_list (pv 0)) (by exact blkOk_by (N := ["names", "roads", "evening", "gate", "name", "ahead", "lots", "lists", "given", "rows", "one", "other", "far", "here"]) (sc := defScope sHd9) (by decide +kernel)) (fun _ _ _ _ _ => by exact (pg_name (i := 4) nd rfl (.inl rfl))) (fun _ _ _ _ _ => by exact pts_nil) (fun _ _ _ _ _ => by exact (pe_tup (pa_cons (pv 4) (pa_cons (pv 4) pa_nil))))) pa_nil)) pa_nil))) (pg_tup rfl (pgs_cons (pg_name (i := 5) nd rfl (.inl rfl)) (pgs_cons (pg_name (i := 6) nd rfl (.inr rfl)) pgs_nil)))))
  (pss_cons (by exact (ps_asg (pe_tup (pa_cons (pe_callTy (r := rDictP K) (call_dictP rfl) rfl B.dict PyProof.Rows.boot_dict (pa_cons (pe_lc (own := [("name", 4)]) (g := gName 4) (tt := tYes) (te := tTup (tCons (tVar 4) (tCons (tLst tNil) tNil))) rfl nd (by exact pi_list (pv 0)) (by exact blkOk_by (N := ["names", "roads", "evening", "gate", "name", "ahead", "lots", "lists", "given", "rows", "one", "other", "far", "here"]) (sc := defScope sHd9) (by decide +kernel)) (fun _ _ _ _ _ => by exact (pg_name (i := 4) nd rfl (.inl rfl))) (fun _ _ _ _ _ => by exact pts_nil) (fun _ _ _ _ _ => by exact (pe_tup (pa_cons (pv 4) (pa_cons (pe_lst pa_nil) pa_nil))))) pa_nil)) (pa_cons (pe_callTy (r := rDictP K) (call_dictP rfl) rfl B.dict PyProof.Rows.boot_dict (pa_cons (pe_lc (own := [("name", 4)]) (g := gName 4) (tt := tYes) (te := tTup (tCons (tVar 4) (tCons (tLst tNil) tNil))) rfl nd (by exact pi_list (pv 0)) (by exact blkOk_by (N := ["names", "roads", "evening", "gate", "name", "ahead", "lots", "lists", "given", "rows", "one", "other", "far", "here"]) (sc := defScope sHd9) (by decide +kernel)) (fun _ _ _ _ _ => by exact (pg_name (i := 4) nd rfl (.inl rfl))) (fun _ _ _ _ _ => by exact pts_nil) (fun _ _ _ _ _ => by exact (pe_tup (pa_cons (pv 4) (pa_cons (pe_lst pa_nil) pa_nil))))) pa_nil)) pa_nil))) (pg_tup rfl (pgs_cons (pg_name (i := 7) nd rfl (.inr rfl)) (pgs_cons (pg_name (i := 8) nd rfl (.inl rfl)) pgs_nil)))))
  (pss_cons (by exact (ps_set (i := 9) nd rfl (.inl rfl) (pe_lst (pa_cons (pe_callTy (r := rDictP K) (call_dictP rfl) rfl B.dict PyProof.Rows.boot_dict (pa_cons (pe_lc (own := [("name", 4)]) (g := gName 4) (tt := tYes) (te := tTup (tCons (tVar 4) (tCons (tCB (rLst K) (tCons (tDGet (tVar 7) (tVar 4)) tNil)) tNil))) rfl nd (by exact pi_list (pv 0)) (by exact blkOk_by (N := ["names", "roads", "evening", "gate", "name", "ahead", "lots", "lists", "given", "rows", "one", "other", "far", "here"]) (sc := defScope sHd9) (by decide +kernel)) (fun _ _ _ _ _ => by exact (pg_name (i := 4) nd rfl (.inl rfl))) (fun _ _ _ _ _ => by exact pts_nil) (fun _ _ _ _ _ => by exact (pe_tup (pa_cons (pv 4) (pa_cons (pe_callTy (r := rLst K) call_list_of rfl B.list PyProof.Rows.boot_list (pa_cons (pe_dget hu (pv 7) (pv 4) (fun _ _ => rfl)) pa_nil)) pa_nil))))) pa_nil)) pa_nil))))
  (pss_cons (by exact (ps_for PassesOwn.never rfl (by exact pi_list (pv 2)) (pg_tup rfl (pgs_cons (pg_name (i := 10) nd rfl (.inl rfl)) (pgs_cons (pg_name (i := 11) nd rfl (.inl rfl)) pgs_nil))) (pss_cons (by exact (ps_set (i := 12) nd rfl (.inr rfl) (pe_ifExp (pt_cmpR op_eq (pe_dget hu (pv 5) (pv 11) (fun _ _ => rfl)) (pv 10) (nomark _)) (pv 11) (pv 10))))
  (pss_cons (by exact (ps_set (i := 13) nd rfl (.inr rfl) (pe_dget hu (pv 6) (pe_dget hu (pv 5) (pv 12) (fun _ _ => rfl)) (fun _ _ => rfl))))
  (pss_cons (by exact (ps_for PassesOwn.never rfl (by exact pi_list (pe_op op_cat (pe_dget hu (pv 7) (pv 12) (fun _ _ => rfl)) (pe_lst (pa_cons (pv 12) pa_nil)))) (pg_name (i := 4) nd rfl (.inl rfl)) (pss_one (by exact (ps_expr (pe_bm PySem.F.plainAttrs_list PySem.F.slot_list_append PySem.F.type_list_append mt_append (pe_dget hu (pv 8) (pv 4) (fun _ _ => rfl)) (pa_cons (pv 13) pa_nil)))))))
  (pss_cons (by exact (ps_dput hu (pv 7) (pv 13) (pe_op op_cat (pe_op op_cat (pe_dget hu (pv 7) (pv 13) (fun _ _ => rfl)) (pe_dpop1 (pv 7) (pv 12) (by constructor <;> rfl))) (pe_lst (pa_cons (pv 12) pa_nil))) rfl))
  (pss_cons (by exact (ps_set (i := 6) nd rfl (.inr rfl) (pe_callTy (r := rDictP K) (call_dictP rfl) rfl B.dict PyProof.Rows.boot_dict (pa_cons (pe_lc (own := [("name", 4)]) (g := gName 4) (tt := tYes) (te := tTup (tCons (tVar 4) (tCons (tIf (tTest (tOp rEq (tDGet (tVar 6) (tVar 4)) (tVar 12))) (tVar 13) (tDGet (tVar 6) (tVar 4))) tNil))) rfl nd (by exact pi_list (pv 0)) (by exact blkOk_by (N := ["names", "roads", "evening", "gate", "name", "ahead", "lots", "lists", "given", "rows", "one", "other", "far", "here"]) (sc := defScope sHd9) (by decide +kernel)) (fun _ _ _ _ _ => by exact (pg_name (i := 4) nd rfl (.inl rfl))) (fun _ _ _ _ _ => by exact pts_nil) (fun _ _ _ _ _ => by exact (pe_tup (pa_cons (pv 4) (pa_cons (pe_ifExp (pt_cmpR op_eq (pe_dget hu (pv 6) (pv 4) (fun _ _ => rfl)) (pv 12) (nomark _)) (pv 13) (pe_dget hu (pv 6) (pv 4) (fun _ _ => rfl))) pa_nil))))) pa_nil))))
  (pss_one (by exact (ps_expr (pe_bm PySem.F.plainAttrs_list PySem.F.slot_list_append PySem.F.type_list_append mt_append (pv 9) (pa_cons (pe_callTy (r := rDictP K) (call_dictP rfl) rfl B.dict PyProof.Rows.boot_dict (pa_cons (pe_lc (own := [("name", 4)]) (g := gName 4) (tt := tB (tDIn (tVar 4) (tVar 7))) (te := tTup (tCons (tVar 4) (tCons (tCB (rLst K) (tCons (tDGet (tVar 7) (tVar 4)) tNil)) tNil))) rfl nd (by exact pi_list (pv 0)) (by exact blkOk_by (N := ["names", "roads", "evening", "gate", "name", "ahead", "lots", "lists", "given", "rows", "one", "other", "far", "here"]) (sc := defScope sHd9) (by decide +kernel)) (fun _ _ _ _ _ => by exact (pg_name (i := 4) nd rfl (.inl rfl))) (fun _ _ _ _ _ => by exact (pts_one (pt_cmp (pc_din hu (pv 4) (pv 7)) (by with_unfolding_all rfl)))) (fun _ _ _ _ _ => by exact (pe_tup (pa_cons (pv 4) (pa_cons (pe_callTy (r := rLst K) call_list_of rfl B.list PyProof.Rows.boot_list (pa_cons (pe_dget hu (pv 7) (pv 4) (fun _ _ => rfl)) pa_nil)) pa_nil))))) pa_nil)) pa_nil))))))))))))
  (pss_one (by exact (ps_ret (pe_tup (pa_cons (pv 9) (pa_cons (pv 8) pa_nil)))))))))), ?_⟩
  have lrs : rs.length ≤ 60 := by have := tr.len; omega
  with_reducible refine sQ (asg_run (tup_runE (cons_run ?_)))
  refine ⟨_, rfl, _, rfl, p1, p2, ss, qs, rs, rfl, h1, tr.nd, ls, h2, pr, tr.ends, lrs, fun dN kN adN H1 nN e1 g1 ln => ?_⟩
  refine ⟨_, rfl, dN, o, ss, rs, kN, adN, H, rfl, g1, ln, tr, ls, ho, fun dA kA H2 nA e2 g2 up2 => ?_⟩
  have e12 := e1.trans e2
  refine cons_run ?_
  refine dictS_run id (fun R h => ⟨_, rfl, h⟩) (e12 _ _ h1) tr.nd ls (by show 4 < 14; decide) (fun s hs Hc e R r => ⟨_, rfl, r⟩) fun dl H3 nl e3 g3 => ?_
  have e13 := e12.trans e3
  refine ⟨(by show 2 ≤ sizeLine; decide), fun U hU => ?_⟩
  have e4 := K1.Same.upd (H := H3) (p := U) (o := .tup [.ref dA, .ref dl]) hU
  have gU := upd_same' H3 U (.tup [.ref dA, .ref dl])
  generalize L2.upd H3 U (.tup [.ref dA, .ref dl]) = H4 at e4 gU ⊢
  refine ⟨U, _, rfl, SqT.of gU, rfl, _, _, rfl, _, _, rfl, rfl, ?_⟩
  dsimp only
  have e14 := e13.trans e4
  with_reducible refine sQ (asg_run (tup_runE (cons_run ?_)))
  refine dictE_run (fun R h => ⟨_, rfl, h⟩) (e14 _ _ h1) tr.nd ls (by show 4 < 14; decide) fun dL kL adL H5 nL e5 g5 lk5 ls5 => ?_
  have e15 := e14.trans e5
  refine cons_run ?_
  refine dictE_run (fun R h => ⟨_, rfl, h⟩) (e15 _ _ h1) tr.nd ls (by show 4 < 14; decide) fun dG kG adG H6 nG e6 g6 lk6 ls6 => ?_
  have e16 := e15.trans e6
  refine ⟨(by show 2 ≤ sizeLine; decide), fun U2 hU2 => ?_⟩
  have e7 := K1.Same.upd (H := H6) (p := U2) (o := .tup [.ref dL, .ref dG]) hU2
  have gU2 := upd_same' H6 U2 (.tup [.ref dL, .ref dG])
  generalize L2.upd H6 U2 (.tup [.ref dL, .ref dG]) = H7 at e7 gU2 ⊢
  refine ⟨U2, _, rfl, SqT.of gU2, rfl, _, _, rfl, _, _, rfl, rfl, ?_⟩
  dsimp only
  have e17 := e16.trans e7
  have n0 : ∀ s : Str, s ∉ ([] : List Str) := fun s => by simp
  have g57 := (e6.trans e7) _ _ g5
  have ls7 := (ls5.same (e6.trans e7))
  with_reducible refine sQ (asg_run ?_)
  refine cons_run ?_
  refine dictL_run [] (fun _ => []) (fun R h => ⟨_, rfl, h⟩) (e17 _ _ h1) tr.nd ls (by show 4 < 14; decide) (fun s hs Hc e R r => ?_) (fun s hs n Hc e R r => ?_) fun r0 ad0 H8 nr e8 g8 a8 b8 => ?_
  · unfold tYes
    rw [decide_eq_true (n0 s)] at r
    exact r
  · obtain ⟨x1, x2, x3⟩ := ls7.yes s hs (n0 s)
    have dg := DGet.k (k := .inr s) (e _ _ g57)
    rw [x1] at dg
    exact ⟨_, rfl, _, rfl, dL, _, rfl, dg, adL s, _, rfl, .inl (SqL.of (e _ _ x3)), r⟩
  refine ⟨(by show 1 ≤ sizeLine; decide), fun lr hlr => ?_⟩
  have e9 := K1.Same.upd (H := H8) (p := lr) (o := .lst [.ref r0]) hlr
  have gr9 := upd_same' H8 lr (.lst [.ref r0])
  generalize L2.upd H8 lr (.lst [.ref r0]) = H9 at e9 gr9 ⊢
  have e18 := e17.trans e8
  have e19 := e18.trans e9
  obtain ⟨Z, eZ⟩ : ∃ Z : Addr → Prop, Z = fun b => b = dL ∨ b = dG ∨ b = lr ∨ ∃ s ∈ ss, b = adG s := ⟨_, rfl⟩
  have zL : Z dL := by rw [eZ]; exact .inl rfl
  have zG : Z dG := by rw [eZ]; exact .inr (.inl rfl)
  have zr : Z lr := by rw [eZ]; exact .inr (.inr (.inl rfl))
  have zs : ∀ s ∈ ss, Z (adG s) := fun s hs => by rw [eZ]; exact .inr (.inr (.inr ⟨s, hs, rfl⟩))
  have ls6' : ∀ s ∈ ss, H5 (adG s) = none := fun s hs => (ls6.yes s hs (n0 s)).2.1
  have zH : ∀ b, Z b → H b = none := fun b z => by
    rw [eZ] at z
    rcases z with rfl | rfl | rfl | ⟨s, hs, rfl⟩
    · exact e14.free nL
    · exact e15.free nG
    · exact e18.free hlr
    · exact e15.free (ls6' s hs)
  have g59 := e9 _ _ (e8 _ _ g57)
  have g69 := e9 _ _ (e8 _ _ (e7 _ _ g6))
  -- off Z: what stood before the lists were made
  have GneL : dG ≠ dL := fun z => ne_of_none g5 nG z.symm
  have off4 : ∀ b o', H4 b = some o' → ¬ Z b := fun b o' hb z => by
    rw [eZ] at z
    rcases z with rfl | rfl | rfl | ⟨s, hs, rfl⟩
    · rw [nL] at hb; cases hb
    · rw [e5.free nG] at hb; cases hb
    · rw [(e5.trans (e6.trans (e7.trans e8))).free hlr] at hb; cases hb
    · rw [e5.free (ls6' s hs)] at hb; cases hb
  have offL : ∀ s ∈ ss, ¬ Z (adL s) := fun s hs z => by
    have h5 := (ls5.yes s hs (n0 s)).2.2
    rw [eZ] at z
    rcases z with z | z | z | ⟨s', hs', z⟩
    · rw [z, g5] at h5; cases h5
    · rw [z, nG] at h5; cases h5
    · rw [z, (e6.trans (e7.trans e8)).free hlr] at h5; cases h5
    · rw [z, ls6' s' hs'] at h5; cases h5
  have off8 : ∀ b, H7 b = none → H8 b ≠ none → ¬ Z b := fun b hb h8 z => by
    rw [eZ] at z
    rcases z with rfl | rfl | rfl | ⟨s', hs', rfl⟩
    · rw [g57] at hb; cases hb
    · rw [e7 _ _ g6] at hb; cases hb
    · exact h8 hlr
    · rw [e7 _ _ (ls6.yes s' hs' (n0 s')).2.2] at hb; cases hb
  dsimp only
  refine K1.gN ?_
  with_reducible refine sQ ?_
  have les : es.length ≤ rs.length := nodup_len nde sub
  have hfar : ∀ e ∈ es, farG rs o e ∈ ss ∧ farG rs o e ≠ o := fun e he => ⟨(farG_is tr ho (sub e he)).1, (farG_is tr ho (sub e he)).2.1⟩
  have hinv : ∀ k, HInv ss rs o (hsE rs o (es.take k)) := fun k => by
    refine hsOf_inv tr ho _ rfl (fars_nd tr ho (nde.sublist (List.take_sublist k es)) fun e he => sub e (List.mem_of_mem_take he)) fun f hf => ?_
    obtain ⟨e, he, rfl⟩ := List.mem_map.mp hf
    exact hfar e (List.mem_of_mem_take he)
  have he9 := e19 _ _ he
  refine ⟨_, rfl, pe, rfl, ⟨_, SqL.of he9⟩, ?_⟩
  refine for_it (walk_list (xs := us.map V.ref)) (fun i σ Hc => ∃ a4 a10 a11 a12 a13 dl', σ = [some (.ref p1), some (.ref p2), some (.ref pe), some (.str o), a4, some (.ref dA), some (.ref dl'), some (.ref dL), some (.ref dG), some (.ref lr), a10, a11, a12, a13] ∧ Same H (wo Z Hc) ∧ wo Z Hc dA = some (.dK kA) ∧ wo Z Hc dl' = some (.dK (strK ss (hsE rs o (es.take i)).lots)) ∧
    Hc dG = some (.dK kG) ∧ LsD H Hc kG ss [] adG (hsE rs o (es.take i)).given ∧ ∃ (kL' : List (Key × V)) (adL' : Str → Addr) (rws : List Addr), Hc dL = some (.dK kL') ∧ kL'.length ≤ 60 ∧ LsD H (wo Z Hc) kL' ss (hsE rs o (es.take i)).gone adL' (hsE rs o (es.take i)).lists ∧ Hc lr = some (.lst (rws.map V.ref)) ∧ rws.length = i + 1 ∧ ∀ k (hk : k < rws.length), RowAt H (wo Z Hc) ss (hsE rs o (es.take k)) rws[k]) ?_ ?_ ?_ ?_
  · refine ⟨_, _, _, _, _, dl, rfl, fun b o' hb => wo_some.mpr ⟨(fun z => by rw [zH b z] at hb; cases hb), e19 _ _ hb⟩, ?_, ?_, g69, ?_, kL, adL, [r0], g59, by omega, ?_, gr9, rfl, ?_⟩
    · have h4 := e4 _ _ (e3 _ _ g2)
      exact wo_some.mpr ⟨off4 _ _ h4, e9 _ _ (e8 _ _ (e7 _ _ (e6 _ _ (e5 _ _ h4))))⟩
    · have h4 := e4 _ _ g3
      exact wo_some.mpr ⟨off4 _ _ h4, e9 _ _ (e8 _ _ (e7 _ _ (e6 _ _ (e5 _ _ h4))))⟩
    · have l := ls6.same (e7.trans (e8.trans e9))
      exact ⟨l.no, fun s hs n => ⟨(l.yes s hs n).1, e15.free (l.yes s hs n).2.1, (l.yes s hs n).2.2⟩, l.inj⟩
    · have l := ls5.same (e6.trans (e7.trans (e8.trans e9)))
      exact ⟨l.no, fun s hs n => ⟨(l.yes s hs n).1, e14.free (l.yes s hs n).2.1, wo_some.mpr ⟨offL s hs, (l.yes s hs n).2.2⟩⟩, l.inj⟩
    · intro k hk
      have k0 : k = 0 := by simpa using hk
      subst k0
      show RowAt H (wo Z H9) ss hs0 r0
      refine ⟨ad0, wo_some.mpr ⟨off8 _ nr (by rw [g8]; exact Option.some_ne_none _), e9 _ _ g8⟩, fun s hs n => ⟨e17.free (a8 s hs n).1, wo_some.mpr ⟨off8 _ (a8 s hs n).1 (by rw [(a8 s hs n).2]; exact Option.some_ne_none _), e9 _ _ (a8 s hs n).2⟩⟩, b8⟩
  · rintro i σ Hc _ ⟨_, _, _, _, _, _, _, h, _⟩
    exact SqL.of (wo_out _ _ (h _ _ he))
  · rintro i v σ Hc H' hi ⟨a4, a10, a11, a12, a13, dl', rfl, c1, c2, c3, c4, c5, kL', adL', rws, c6, c7, c8, c9, c10, c11⟩ ⟨rfl, hv⟩
    have lq := pu.length
    have hi' : i < es.length := by rw [List.length_map] at hi; omega
    obtain ⟨T, rfl, gT0⟩ := paired_ref pu hi' hv
    have em := sub _ (List.getElem_mem hi')
    have eH : Same H H' := c1.trans wo_out
    have gT : H' T = some (.tup [.str es[i].1, .str es[i].2]) := eH _ _ gT0
    have I := hinv i
    have snoc : hsE rs o (es.take (i + 1)) = (hsE rs o (es.take i)).step (upG rs o) (farG rs o es[i]) := by
      unfold hsE
      rw [take_snoc hi', List.map_append]
      exact hsOf_snoc
    have nf : farG rs o es[i] ∉ (hsE rs o (es.take i)).gone := by
      unfold hsE
      rw [hsOf_gone]
      have n2 := fars_nd tr ho (nde.sublist (List.take_sublist (i + 1) es)) fun e he => sub e (List.mem_of_mem_take he)
      rw [take_snoc hi', List.map_append, List.nodup_append] at n2
      exact fun z => n2.2.2 _ z _ (List.mem_singleton.mpr rfl) rfl
    have I2 := hinv (i + 1)
    obtain ⟨fin, fo, fe⟩ := farG_is tr ho em
    have foth := farG_other tr ho em
    obtain ⟨S2, eS2⟩ : ∃ S2, S2 = hsE rs o (es.take (i + 1)) := ⟨_, rfl⟩
    rw [← eS2] at snoc I2 ⊢
    obtain ⟨e, ee⟩ : ∃ e, e = es[i] := ⟨_, rfl⟩
    rw [← ee] at em gT snoc nf fin fo fe foth
    obtain ⟨S, eS⟩ : ∃ S, S = hsE rs o (es.take i) := ⟨_, rfl⟩
    rw [← eS] at I snoc c3 c5 c8 nf
    obtain ⟨f, ef⟩ : ∃ f, f = farG rs o e := ⟨_, rfl⟩
    rw [← ef] at snoc nf fin fo fe foth
    have hu2 := up_in tr ho fin fo
    have tn := I.taker tr ho fin fo
    have tin := I.lin tr ho hu2
    have tout := I.out _ hu2
    obtain ⟨t, et⟩ : ∃ t, t = S.lots (upG rs o f) := ⟨_, rfl⟩
    rw [← et] at tn tin tout
    -- one, other
    refine ⟨T, _, rfl, SqT.of gT, rfl, _, _, rfl, _, _, rfl, rfl, ?_⟩
    with_reducible refine sQ ?_
    -- far
    have gA' := wo_out _ _ c2
    have gl' := wo_out _ _ c3
    obtain ⟨u1, hu1, sc1, de1⟩ : ∃ u1, valV kA (.inr e.2) = some u1 ∧ scal u1 (.str e.1) = true ∧ (decide (u1 = .str e.1) = true ↔ (e.2 ≠ o ∧ upG rs o e.2 = e.1)) := by
      by_cases c : e.2 = o
      · exact ⟨.non, by rw [c]; exact up2.1, rfl, Iff.intro (fun z => by cases (of_decide_eq_true z)) (fun z => absurd c z.1)⟩
      · exact ⟨_, up2.2 _ (tr.ends e em).2 c, rfl, Iff.intro (fun z => ⟨c, V.str.inj (of_decide_eq_true z)⟩) (fun z => decide_eq_true (by rw [z.2]))⟩
    have dg1 := DGet.k (k := .inr e.2) gA'
    rw [hu1] at dg1
    refine ⟨_, rfl, _, rfl, dA, u1, rfl, dg1, _, rfl, sc1, _, rfl, ?_⟩
    refine pick_var (u := .str f) rfl rfl (fun z => ?_) (fun z => ?_) ?_
    · rw [← foth, if_pos (de1.mp z)]
    · rw [← foth, if_neg fun d => by rw [de1.mpr d] at z; cases z]
    refine K1.gN ?_
    with_reducible refine sQ ?_
    -- here
    have dg2 := DGet.k (k := .inr f) gA'
    rw [up2.2 f fin fo] at dg2
    have dg3 := DGet.k (k := .inr (upG rs o f)) gl'
    rw [val_strK, if_pos hu2, ← et] at dg3
    refine ⟨_, rfl, _, rfl, _, rfl, dA, _, rfl, dg2, dl', _, rfl, dg3, ?_⟩
    refine K1.gN ?_
    with_reducible refine sQ ?_
    -- for name in lists[far] + [far]
    have len1 : ∀ h ∈ ss, h ∉ S.gone → (S.lists h).length + 1 ≤ 60 := fun h hh n => by
      have l := nodup_len (I.nd h hh n) fun x hx => ((I.mem h hh n x).mp hx).1
      rw [List.length_append, List.length_singleton] at l
      omega
    obtain ⟨z1, z2, z3⟩ := c8.yes f fin nf
    have z4 := wo_out _ _ z3
    have dg5 := DGet.k (k := .inr f) c6
    rw [z1] at dg5
    refine ⟨_, rfl, _, rfl, dL, _, rfl, dg5, _, rfl, (by show 1 ≤ sizeLine; decide), fun l hl => ?_⟩
    have e20 : Same H' (L2.upd H' l (.lst [.str f])) := K1.Same.upd hl
    have g20 := upd_same' H' l (.lst [.str f])
    generalize L2.upd H' l (.lst [.str f]) = H20 at e20 g20 ⊢
    refine ⟨adL' f, l, _, [.str f], rfl, rfl, e20 _ _ z4, g20, Nat.le_of_lt (small1000 (by rw [List.length_map]; exact Nat.le_trans (len1 f fin nf) (by decide))), fun m hm => ?_⟩
    have e21 : Same H20 (L2.upd H20 m (.lst ((S.lists f).map V.str ++ [.str f]))) := K1.Same.upd hm
    have g21 := upd_same' H20 m (.lst ((S.lists f).map V.str ++ [.str f]))
    generalize L2.upd H20 m (.lst ((S.lists f).map V.str ++ [.str f])) = H21 at e21 g21 ⊢
    have e221 := e20.trans e21
    have Zno : ∀ b, Z b → H' b ≠ none := fun b z => by
      rw [eZ] at z
      rcases z with rfl | rfl | rfl | ⟨s, hs, rfl⟩
      · rw [c6]; exact Option.some_ne_none _
      · rw [c4]; exact Option.some_ne_none _
      · rw [c9]; exact Option.some_ne_none _
      · rw [(c5.yes s hs (n0 s)).2.2]; exact Option.some_ne_none _
    have mZ : ¬ Z m := fun z => Zno m z (e20.free hm)
    have g21' : H21 m = some (.lst ((S.lists f ++ [f]).map V.str)) := by rw [g21, List.map_append]; rfl
    obtain ⟨L, eL⟩ : ∃ L, L = S.lists f ++ [f] := ⟨_, rfl⟩
    rw [← eL] at g21'
    have Lnd : L.Nodup := by rw [eL]; exact I.nd f fin nf
    have Lss : ∀ x ∈ L, x ∈ ss := fun x hx => by rw [eL] at hx; exact ((I.mem f fin nf x).mp hx).1
    have Llen : L.length ≤ 60 := by rw [eL, List.length_append]; exact len1 f fin nf
    refine ⟨m, rfl, ⟨_, SqL.of g21'⟩, ?_⟩
    refine for_it (walk_list (xs := L.map V.str)) (fun k σ Hx => (∃ a4, σ = [some (.ref p1), some (.ref p2), some (.ref pe), some (.str o), a4, some (.ref dA), some (.ref dl'), some (.ref dL), some (.ref dG), some (.ref lr), some (.str e.1), some (.str e.2), some (.str f), some (.str t)]) ∧ Same (wo Z H21) (wo Z Hx) ∧ Hx dL = some (.dK kL') ∧ Hx dG = some (.dK kG) ∧ Hx lr = some (.lst (rws.map V.ref)) ∧ LsD H Hx kG ss [] adG fun s => if s ∈ L.take k then S.given s ++ [t] else S.given s) ?_ ?_ ?_ ?_
    · exact ⟨⟨_, rfl⟩, Same.refl _, e221 _ _ c6, e221 _ _ c4, e221 _ _ c9, (c5.same e221).congr fun s _ => by rw [List.take_zero, if_neg (by simp)]⟩
    · exact fun k σ Hx _ h => SqL.of (wo_out _ _ (h.2.1 _ _ (wo_some.mpr ⟨mZ, g21'⟩)))
    · rintro k v σ Hx Hy hk ⟨⟨a4, rfl⟩, x1, x2, x3, x4, x5⟩ ⟨rfl, hv⟩
      have hk' : k < L.length := by rwa [List.length_map] at hk
      have ev : v = .str L[k] := by
        have q2 : (L.map V.str)[k]? = some v := hv
        rw [List.getElem?_map, List.getElem?_eq_getElem hk'] at q2
        exact (Option.some.inj q2).symm
      subst ev
      have xin := Lss _ (List.getElem_mem hk')
      have xnt : L[k] ∉ L.take k := nodup_take_not Lnd hk'
      refine K1.gN ?_
      obtain ⟨w1, w2, w3⟩ := x5.yes L[k] xin (n0 _)
      rw [if_neg xnt] at w3
      have dg6 := DGet.k (k := .inr L[k]) x3
      rw [w1] at dg6
      have lg := I.len L[k]
      have lg2 : S.gone.length ≤ 60 := by
        rw [eS]
        unfold hsE
        rw [hsOf_gone, List.length_map, List.length_take]
        omega
      refine ⟨_, rfl, _, rfl, dG, _, rfl, dg6, .inl ⟨rfl, _, SqL.of w3⟩, _, rfl, adG L[k], _, _, rfl, rfl, w3, by rw [List.length_map]; exact small1000 (by omega), ?_⟩
      have kk : Kept (adG L[k]) Hy (L2.upd Hy (adG L[k]) (.lst ((S.given L[k]).map V.str ++ [.str t]))) := Kept.upd
      have gg := upd_same' Hy (adG L[k]) (.lst ((S.given L[k]).map V.str ++ [.str t]))
      generalize L2.upd Hy (adG L[k]) (.lst ((S.given L[k]).map V.str ++ [.str t])) = Hz at kk gg ⊢
      have l2 := x5.app xin (n0 _) (G := [t]) (Hd := Hz) (by rw [if_neg xnt, gg, List.map_append]; rfl) kk
      have adr : adG L[k] ≠ lr := fun z => by
        have h8 := (ls6.same (e7.trans e8)).yes L[k] xin (n0 _)
        have := h8.2.2
        rw [z, hlr] at this
        cases this
      have adL9 : ∀ {kv}, Hy dL = some (.dK kv) → dL ≠ adG L[k] := fun h z => by rw [← z, h] at w3; cases w3
      refine ⟨⟨_, rfl⟩, x1.trans (wo_same fun b o' nb hb => kk b o' (fun z => nb (by rw [z]; exact zs _ xin)) hb), kk _ _ (adL9 x2) x2, kk _ _ (fun z => by rw [← z, x3] at w3; cases w3) x3, kk _ _ (fun z => adr z.symm) x4, l2.congr fun s _ => ?_⟩
      by_cases c : s = L[k]
      · rw [if_pos c, c, if_neg xnt, if_pos ((mem_take_succ hk').mpr (.inr rfl))]
      · rw [if_neg c]
        have : s ∈ L.take (k + 1) ↔ s ∈ L.take k := by
          rw [mem_take_succ hk']
          exact ⟨fun z => z.resolve_right c, .inl⟩
        simp only [this]
    rintro σ Hx ⟨⟨a4, rfl⟩, x1, x2, x3, x4, x5⟩
    rw [List.length_map] at x5
    simp only [List.take_length] at x5
    dsimp only
    with_reducible refine sQ ?_
    have wxx : Same (wo Z H') (wo Z Hx) := (wo_same fun b o' _ hb => e221 b o' hb).trans x1
    have l8 := c8.same wxx
    obtain ⟨y1, y2, y3⟩ := l8.yes t tin tout
    have y4 := wo_out _ _ y3
    obtain ⟨w1, w2, w3⟩ := l8.yes f fin nf
    have w4 := wo_out _ _ w3
    have dgT := DGet.k (k := .inr t) x2
    rw [y1] at dgT
    refine ⟨_, rfl, _, rfl, dL, _, rfl, dgT, _, rfl, dL, rfl, .inl ⟨_, .inl x2⟩, _, rfl, kL', .inr f, _, x2, rfl, w1, ?_⟩
    have tL : ∀ s ∈ ss, s ∉ S.gone → adL' s ≠ dL := fun s hs n z => by
      have := (l8.yes s hs n).2.2
      exact (wo_some.mp this).1 (by rw [z]; exact zL)
    have y5 : L2.upd Hx dL (.dK (dropK kL' (.inr f))) (adL' t) = some (.lst ((S.lists t).map V.str)) := by rw [upd_ne (tL t tin tout)]; exact y4
    have w5 : L2.upd Hx dL (.dK (dropK kL' (.inr f))) (adL' f) = some (.lst ((S.lists f).map V.str)) := by rw [upd_ne (tL f fin nf)]; exact w4
    have g30 := upd_same' Hx dL (.dK (dropK kL' (.inr f)))
    have k30 : Kept dL Hx (L2.upd Hx dL (.dK (dropK kL' (.inr f)))) := Kept.upd
    generalize L2.upd Hx dL (.dK (dropK kL' (.inr f))) = H30 at y5 w5 g30 k30 ⊢
    have lt1 := len1 t tin tout
    have lf1 := len1 f fin nf
    refine ⟨adL' t, adL' f, _, _, rfl, rfl, y5, w5, Nat.le_of_lt (small1000 (by rw [List.length_map, List.length_map]; omega)), fun n1 hn1 => ?_⟩
    have e31 := K1.Same.upd (H := H30) (p := n1) (o := .lst ((S.lists t).map V.str ++ (S.lists f).map V.str)) hn1
    have g31 := upd_same' H30 n1 (.lst ((S.lists t).map V.str ++ (S.lists f).map V.str))
    generalize L2.upd H30 n1 (.lst ((S.lists t).map V.str ++ (S.lists f).map V.str)) = H31 at e31 g31 ⊢
    refine ⟨_, rfl, (by show 1 ≤ sizeLine; decide), fun n2 hn2 => ?_⟩
    have e32 := K1.Same.upd (H := H31) (p := n2) (o := .lst [.str f]) hn2
    have g32 := upd_same' H31 n2 (.lst [.str f])
    generalize L2.upd H31 n2 (.lst [.str f]) = H32 at e32 g32 ⊢
    refine ⟨n1, n2, _, [.str f], rfl, rfl, e32 _ _ g31, g32, Nat.le_of_lt (small1000 (by rw [List.length_append, List.length_map, List.length_map, List.length_singleton]; omega)), fun n3 hn3 => ?_⟩
    have e33 := K1.Same.upd (H := H32) (p := n3) (o := .lst ((S.lists t).map V.str ++ (S.lists f).map V.str ++ [.str f])) hn3
    have g33 := upd_same' H32 n3 (.lst ((S.lists t).map V.str ++ (S.lists f).map V.str ++ [.str f]))
    generalize L2.upd H32 n3 (.lst ((S.lists t).map V.str ++ (S.lists f).map V.str ++ [.str f])) = H33 at e33 g33 ⊢
    have e303 := e31.trans (e32.trans e33)
    have gL33 := e303 _ _ g30
    have lk1 : (dropK kL' (.inr f)).length ≤ 60 := Nat.le_trans (dropK_le _ _) c7
    refine ⟨_, rfl, _, rfl, dL, _, rfl, DPut.k (k := .inr t) gL33 (small1000 (by omega)), ?_⟩
    have g34 := upd_same' H33 dL (.dK (putK (dropK kL' (.inr f)) (.inr t) (.ref n3)))
    have k34 : Kept dL H33 (L2.upd H33 dL (.dK (putK (dropK kL' (.inr f)) (.inr t) (.ref n3)))) := Kept.upd
    generalize L2.upd H33 dL (.dK (putK (dropK kL' (.inr f)) (.inr t) (.ref n3))) = H34 at g34 k34 ⊢
    dsimp only
    with_reducible refine sQ ?_
    have kx : Kept dL Hx H34 := (k30.trans (Kept.same e303)).trans k34
    have w34 : Same (wo Z Hx) (wo Z H34) := wo_same fun b o' nb hb => kx b o' (fun z => nb (by rw [z]; exact zL)) hb
    have ZnoX : ∀ b, Z b → b = dL ∨ Hx b ≠ none := fun b z => by
      rw [eZ] at z
      rcases z with rfl | rfl | rfl | ⟨s, hs, rfl⟩
      · exact .inl rfl
      · exact .inr (by rw [x3]; exact Option.some_ne_none _)
      · exact .inr (by rw [x4]; exact Option.some_ne_none _)
      · exact .inr (by rw [(x5.yes s hs (n0 s)).2.2]; exact Option.some_ne_none _)
    have n3L : n3 ≠ dL := fun z => by rw [z, e32 _ _ (e31 _ _ g30)] at hn3; cases hn3
    have n3X : Hx n3 = none := by
      cases q3 : Hx n3 with
      | none => rfl
      | some o' => rw [e32 _ _ (e31 _ _ (k30 _ _ n3L q3))] at hn3; cases hn3
    have n3Z : ¬ Z n3 := fun z => (ZnoX n3 z).elim n3L fun z => z n3X
    have eHx : Same H Hx := (c1.trans wxx).trans wo_out
    have vt : valV (dropK kL' (.inr f)) (.inr t) = some (.ref (adL' t)) := by rw [val_drop, if_neg fun z => tn (Sum.inr.inj z)]; exact y1
    have l34 : LsD H (wo Z H34) (putK (dropK kL' (.inr f)) (.inr t) (.ref n3)) ss S2.gone (fun s => if s = t then n3 else adL' s) S2.lists := by
      have eg : S2.gone = S.gone ++ [f] := by rw [snoc]; rfl
      have el : S2.lists = fun s => if s = t then S.lists s ++ (S.lists f ++ [f]) else S.lists s := by rw [snoc, et]; rfl
      rw [eg, el]
      refine ⟨fun s hs hg => ?_, fun s hs hg => ?_, fun s hs u hu n1 n2 z => ?_⟩
      · rw [valV_put]
        have st : s ≠ t := fun z => by
          rw [z] at hg
          rcases List.mem_append.mp hg with y | y
          · exact tout y
          · exact tn (List.mem_singleton.mp y)
        rw [if_neg fun z => st (Sum.inr.inj z), val_drop]
        by_cases c : s = f
        · rw [c, if_pos rfl]
        · rw [if_neg fun z => c (Sum.inr.inj z)]
          refine c8.no s hs ?_
          rcases List.mem_append.mp hg with z | z
          · exact z
          · exact absurd (List.mem_singleton.mp z) c
      · have n1 : s ∉ S.gone := fun z => hg (List.mem_append_left _ z)
        have n2 : s ≠ f := fun z => hg (List.mem_append_right _ (List.mem_singleton.mpr z))
        by_cases c : s = t
        · simp only [c, if_true]
          refine ⟨by rw [valV_put, if_pos rfl], eHx.free n3X, wo_some.mpr ⟨n3Z, ?_⟩⟩
          rw [k34 _ _ n3L g33, List.map_append, List.map_append, List.append_assoc]
          rfl
        · simp only [if_neg c]
          obtain ⟨v1, v2, v3⟩ := l8.yes s hs n1
          exact ⟨by rw [valV_put, if_neg fun z => c (Sum.inr.inj z), val_drop, if_neg fun z => n2 (Sum.inr.inj z)]; exact v1, v2, w34 _ _ v3⟩
      · have m1 : s ∉ S.gone := fun z => n1 (List.mem_append_left _ z)
        have m2 : u ∉ S.gone := fun z => n2 (List.mem_append_left _ z)
        have fresh : ∀ s ∈ ss, s ∉ S.gone → adL' s ≠ n3 := fun s hs n z => by
          have := wo_out _ _ (l8.yes s hs n).2.2
          rw [z, n3X] at this
          cases this
        by_cases c : s = t
        · by_cases c2 : u = t
          · rw [c, c2]
          · simp only [c, if_true, if_neg c2] at z
            exact absurd z.symm (fresh u hu m2)
        · by_cases c2 : u = t
          · simp only [c2, if_true, if_neg c] at z
            exact absurd z (fresh s hs m1)
          · simp only [if_neg c, if_neg c2] at z
            exact c8.inj s hs u hu m1 m2 z
    have lk34 : (putK (dropK kL' (.inr f)) (.inr t) (.ref n3)).length ≤ 60 := by
      rw [putK_len (by rw [vt]; rfl)]
      exact lk1
    have w3n := wxx.trans w34
    have e1x : Same H H34 := (c1.trans w3n).trans wo_out
    have gl34 := wo_out _ _ (w3n _ _ c3)
    obtain ⟨kL2, ekL2⟩ : ∃ kL2, kL2 = putK (dropK kL' (.inr f)) (.inr t) (.ref n3) := ⟨_, rfl⟩
    rw [← ekL2] at l34 lk34 g34
    obtain ⟨ad2, ead2⟩ : ∃ ad2 : Str → Addr, ad2 = fun s => if s = t then n3 else adL' s := ⟨_, rfl⟩
    rw [← ead2] at l34
    have adN : ∀ s ∈ ss, adG s ≠ dL := fun s hs z => by
      have := (x5.yes s hs (n0 s)).2.2
      rw [z, x2] at this
      cases this
    have gG34 := kx _ _ GneL x3
    have gr34 := kx _ _ (fun z => by rw [z, x2] at x4; cases x4) x4
    have lG34 : LsD H H34 kG ss [] adG S2.given := by
      have eg : S2.given = fun s => if s ∈ L then S.given s ++ [t] else S.given s := by rw [snoc, et, eL]; rfl
      rw [eg]
      exact ⟨x5.no, fun s hs n => ⟨(x5.yes s hs n).1, (x5.yes s hs n).2.1, kx _ _ (adN s hs) (x5.yes s hs n).2.2⟩, x5.inj⟩
    -- lots
    refine asg_run ?_
    refine dictS_run (fun s => if S.lots s = f then t else S.lots s) (fun R h => ⟨_, rfl, h⟩) (e1x _ _ h1) tr.nd ls (by show 4 < 14; decide) (fun s hs Hq eq R r => ?_) fun dl2 H35 nl2 e35 g35 => ?_
    · have dgs := DGet.k (k := .inr s) (eq _ _ gl34)
      rw [val_strK, if_pos hs] at dgs
      refine ⟨_, rfl, _, rfl, dl', _, rfl, dgs, _, rfl, rfl, _, rfl, ?_⟩
      refine ite2 (fun c => ?_) (fun c => ?_)
      · have cf : S.lots s = f := V.str.inj (of_decide_eq_true c)
        rw [if_pos cf] at r
        exact ⟨_, rfl, r⟩
      · have cf : S.lots s ≠ f := fun z => c (decide_eq_true (by rw [z]))
        rw [if_neg cf] at r
        exact ⟨_, rfl, _, rfl, dl', _, rfl, dgs, r⟩
    have el2 : (fun s => if S.lots s = f then t else S.lots s) = S2.lots := by rw [snoc, et]; rfl
    rw [el2] at g35
    have e1y := e1x.trans e35
    refine K1.gN ?_
    -- rows
    have l35 : LsD H (wo Z H35) kL2 ss S2.gone ad2 S2.lists := l34.same (wo_same fun b o' _ hb => e35 b o' hb)
    have gL35 := e35 _ _ g34
    have gr35 := e35 _ _ gr34
    refine ⟨_, rfl, .inl ⟨rfl, _, SqL.of gr35⟩, ?_⟩
    refine cons_run ?_
    refine dictL_run S2.gone S2.lists (fun R h => ⟨_, rfl, h⟩) (e1y _ _ h1) tr.nd ls (by show 4 < 14; decide) (fun s hs Hq eq R r => ?_) (fun s hs n Hq eq R r => ?_) fun r2 adr H36 nr2 e36 g36 a36 b36 => ?_
    · have dgs := DGet.k (k := .inr s) (eq _ _ gL35)
      have isS : (valV kL2 (.inr s)).isSome = decide (s ∉ S2.gone) := by
        by_cases c : s ∈ S2.gone
        · rw [l35.no _ hs c, decide_eq_false fun z => z c]; rfl
        · rw [(l35.yes _ hs c).1, decide_eq_true c]; rfl
      refine ⟨_, rfl, _, rfl, dL, _, rfl, dgs, _, rfl, ?_⟩
      rw [isS]
      exact r
    · obtain ⟨v1, v2, v3⟩ := l35.yes s hs n
      have dgs := DGet.k (k := .inr s) (eq _ _ gL35)
      rw [v1] at dgs
      exact ⟨_, rfl, _, rfl, dL, _, rfl, dgs, ad2 s, _, rfl, .inl (SqL.of (eq _ _ (wo_out _ _ v3))), r⟩
    have gr36 := e36 _ _ gr35
    refine ⟨lr, rws.map V.ref, _, rfl, rfl, gr36, by rw [List.length_map, c10]; exact small1000 (by omega), ?_⟩
    have g37 := upd_same' H36 lr (.lst (rws.map V.ref ++ [.ref r2]))
    have k37 : Kept lr H36 (L2.upd H36 lr (.lst (rws.map V.ref ++ [.ref r2]))) := Kept.upd
    generalize L2.upd H36 lr (.lst (rws.map V.ref ++ [.ref r2])) = H37 at g37 k37 ⊢
    have k347 : Kept lr H34 H37 := (Kept.same (e35.trans e36)).trans k37
    have w347 : Same (wo Z H34) (wo Z H37) := wo_same fun b o' nb hb => k347 b o' (fun z => nb (by rw [z]; exact zr)) hb
    have wall : Same (wo Z H') (wo Z H37) := w3n.trans w347
    have Zno34 : ∀ b, Z b → H34 b ≠ none := fun b z => by
      rw [eZ] at z
      rcases z with rfl | rfl | rfl | ⟨s, hs, rfl⟩
      · rw [g34]; exact Option.some_ne_none _
      · rw [gG34]; exact Option.some_ne_none _
      · rw [gr34]; exact Option.some_ne_none _
      · rw [(lG34.yes s hs (n0 s)).2.2]; exact Option.some_ne_none _
    have dl2Z : ¬ Z dl2 := fun z => Zno34 _ z nl2
    have newZ : ∀ b, H35 b = none → ¬ Z b := fun b hb z => Zno34 _ z (e35.free hb)
    have off : ∀ b o', H36 b = some o' → ¬ Z b → wo Z H37 b = some o' := fun b o' hb n => wo_some.mpr ⟨n, k37 _ _ (fun z => n (by rw [z]; exact zr)) hb⟩
    have rneL : dL ≠ lr := fun z => by rw [← z, x2] at x4; cases x4
    have rneG : dG ≠ lr := fun z => by rw [← z, x3] at x4; cases x4
    have adGr : ∀ s ∈ ss, adG s ≠ lr := fun s hs z => by
      have h8 := ((ls6.same (e7.trans e8)).yes s hs (n0 _)).2.2
      rw [z, hlr] at h8
      cases h8
    refine ⟨_, _, _, _, _, dl2, rfl, c1.trans wall, wall _ _ c2, off _ _ (e36 _ _ g35) dl2Z, k347 _ _ rneG gG34, ⟨lG34.no, fun s hs n => ⟨(lG34.yes s hs n).1, (lG34.yes s hs n).2.1, k347 _ _ (adGr s hs) (lG34.yes s hs n).2.2⟩, lG34.inj⟩, kL2, ad2, rws ++ [r2], k347 _ _ rneL g34, lk34, l34.same w347, by rw [g37, List.map_append]; rfl, by rw [List.length_append, c10]; rfl, fun k hk => ?_⟩
    by_cases c : k < rws.length
    · rw [List.getElem_append_left c]
      exact (c11 k c).same wall
    · have ek : k = i + 1 := by
        rw [List.length_append, c10] at hk
        simp only [List.length_singleton] at hk
        omega
      subst ek
      rw [List.getElem_append_right (by omega)]
      have : (i + 1) - rws.length = 0 := by omega
      simp only [this, List.getElem_cons_zero]
      rw [← eS2]
      exact ⟨adr, off _ _ g36 (newZ _ nr2), fun s hs n => ⟨e1y.free (a36 s hs n).1, off _ _ (a36 s hs n).2 (newZ _ (a36 s hs n).1)⟩, b36⟩
  · rintro σ Hc ⟨a4, a10, a11, a12, a13, dl', rfl, c1, c2, c3, c4, c5, kL', adL', rws, c6, c7, c8, c9, c10, c11⟩
    rw [List.length_map, pu.length] at c5 c10
    rw [List.take_length] at c5
    refine ⟨_, rfl, _, rfl, (by show 2 ≤ sizeLine; decide), fun T hT => ?_⟩
    have eT := K1.Same.upd (H := Hc) (p := T) (o := .tup [.ref lr, .ref dG]) hT
    have e1' : Same H Hc := c1.trans wo_out
    exact q T lr dG rws kG adG _ (e1'.free hT) (e18.free hlr) (e15.free nG) (e1'.trans eT) upd_same (eT _ _ c9) c10 (fun k hk => (c11 k hk).same (wo_out.trans eT)) (eT _ _ c4) (c5.same eT)
end
end K1
end
-- MOr
section
set_option Elab.async false
set_option linter.all false
set_option maxRecDepth 100000
set_option maxHeartbeats 4000000
namespace K1
open PySem PySem.Spec PyProof.Rows L2 W0 Wr
abbrev sOr : Stmt := top 61
theorem scOr : FnScope ["draws", "made", "case", "evening", "gate", "names", "roads", "heads", "rows", "hands_due", "passed", "was", "told", "many", "due", "found", "house"] ["draws", "made", "case", "evening", "gate"] (defScope sOr) := ⟨rfl, rfl, rfl, by decide +kernel, rfl, by decide +kernel, by decide +kernel⟩
def kwR3 : List V → List V → List V := fun _ zs => [zs.getD 2 .non, zs.getD 1 .non, zs.getD 0 .non]
def kwR3v : List Value → List Value → List Value := fun _ zs => [zs.getD 2 .none, zs.getD 1 .none, zs.getD 0 .none]
def kwR4 : List V → List V → List V := fun _ zs => [zs.getD 3 .non, zs.getD 2 .non, zs.getD 1 .non, zs.getD 0 .non]
def kwR4v : List Value → List Value → List Value := fun _ zs => [zs.getD 3 .none, zs.getD 2 .none, zs.getD 1 .none, zs.getD 0 .none]
theorem hsA_E {rs : List (Str × Str)} {o : Str} {js : List Nat} : hsA rs o js = hsE rs o (js.map (roadAt rs)) := by
  unfold hsA hsE farsOf
  rw [List.map_map]
  rfl
/-- two dicts of lists that hold the same -/
theorem r_refK {n : Nat} {H : Hp} {p q : Addr} {ns : List Str} {ad ad' : Str → Addr} {F : Str → List Str} (h1 : H p = some (.dK (refK ns ad))) (h2 : H q = some (.dK (refK ns ad'))) (l : ns.length ≤ 100) (a : ∀ s ∈ ns, H (ad s) = some (.lst ((F s).map V.str)) ∧ H (ad' s) = some (.lst ((F s).map V.str)) ∧ (F s).length ≤ 1000) :
    RF (n + 5) H (.ref p) (.ref q) := by
  refine .inr (.inr (.inl ⟨p, q, _, _, rfl, rfl, h1, h2, fun H' x y as bs e gx gy pa pb => ?_⟩))
  have go : ∀ {ns : List Str} {as bs : List Addr}, (∀ s ∈ ns, H (ad s) = some (.lst ((F s).map V.str)) ∧ H (ad' s) = some (.lst ((F s).map V.str)) ∧ (F s).length ≤ 1000) → Paired (fun (t : Addr) (e : Key × V) => H' t = some (.tup [kV e.1, e.2])) as (refK ns ad) → Paired (fun (t : Addr) (e : Key × V) => H' t = some (.tup [kV e.1, e.2])) bs (refK ns ad') → Paired (RF (n + 3) H') (as.map V.ref) (bs.map V.ref) := by
    intro ns
    induction ns with
    | nil => intro as bs _ h1 h2; cases h1; cases h2; exact .nil
    | cons s ns ih =>
      intro as bs hh h1 h2
      cases h1 with
      | cons f1 g1 =>
        cases h2 with
        | cons f2 g2 =>
          obtain ⟨b1, b2, b3⟩ := hh s (List.mem_cons_self ..)
          exact .cons (r_tups f1 f2 (by show 2 ≤ 10000; decide) (.cons (r_str _) (.cons (r_lists (e _ _ b1) (e _ _ b2) (by rw [List.length_map]; omega) (r_strs _)) .nil))) (ih (fun x hx => hh x (List.mem_cons_of_mem _ hx)) g1 g2)
  exact r_lists gx gy (by rw [List.length_map, pa.length]; unfold refK; rw [List.length_map]; omega) (go a pa pb)
theorem r_same {n : Nat} {H : Hp} {p q : Addr} {xs : List Str} (h1 : H p = some (.lst (xs.map V.str))) (h2 : H q = some (.lst (xs.map V.str))) (l : xs.length ≤ 1000) : RF (n + 2) H (.ref p) (.ref q) := r_lists h1 h2 (by rw [List.length_map]; omega) (r_strs _)
theorem spr_neD {H : Hp} {a b : Addr} {n : Nat} {kvs : List (Key × V)} (s : Spr H a n) (h : H b = some (.dK kvs)) : b ≠ a := fun e => by
  obtain ⟨x, y, z, g, _⟩ := s
  rw [e, g] at h
  cases h
theorem isvo_wo {C a : Addr} {H : Hp} {x : Addr} {ss : List Str} {rs : List (Str × Str)} {ns : List Int} {n : Nat} (v : IsVO C a H x ss rs ns) (s : Spr H a n) : IsV C (wo (fun z => z = a) H) x ss rs ns := by
  obtain ⟨l, l1, l2, l3, d1, d2, d3, qs, bs, v, o⟩ := v
  obtain ⟨dx, fs, h, r⟩ := v.ins
  obtain ⟨k2, a2, b2⟩ := v.p2
  obtain ⟨k3, a3, b3⟩ := v.p3
  obtain ⟨u, y, z, es, _⟩ := s
  have off : ∀ b o, H b = some o → (∀ xs, o ≠ .lst xs) → b ≠ a := fun b o e n z => by
    rw [z, es] at e
    exact n _ (Option.some.inj e).symm
  have w : ∀ {b o}, b ≠ a → H b = some o → wo (fun z => z = a) H b = some o := fun n h => wo_some.mpr ⟨n, h⟩
  exact ⟨l, l1, l2, l3, d1, d2, d3, qs, bs, ⟨dx, fs, w (off _ _ h fun _ z => by cases z) h, r⟩, w o.1 v.h1, w o.2.1 v.h2, paired_imp (fun _ _ q => w (off _ _ q fun _ z => by cases z) q) v.pr, w o.2.2.1 v.h3, w (off _ _ v.p1 fun _ z => by cases z) v.p1, ⟨k2, w (off _ _ a2 fun _ z => by cases z) a2, b2⟩, ⟨k3, w (off _ _ a3 fun _ z => by cases z) a3, b3⟩, fun s hs => w (o.2.2.2 s hs) (v.nb s hs)⟩
def spOr (C : Addr) : Sp := fun vs H Q _ => ∃ (a x t r p1 p2 p3 : Addr) (g : Str) (qs us : List Addr) (ss : List Str) (rs es : List (Str × Str)) (ns : List Int) (n : Nat), vs = [.ref a, .ref x, .ref t, .ref r, .str g] ∧ Spr H a n ∧ n + 3000 ≤ 1000000 ∧ VAt a H t p1 p2 p3 qs ss rs ns ∧ VOk ss rs ns ∧ IsVO C a H x ss rs ns ∧
  H r = some (.lst (us.map V.ref)) ∧ r ≠ a ∧ Paired (TupP H) us es ∧ es.Perm rs ∧ g ∈ ss ∧ ∀ H', Kept a H H' → Spr H' a (n + 500) → Q (.bl true) H'
section
variable {P : Program} {w : World} {K : PySem.W.Frag} {mg : Str → Option Value} {base : Heap} {C CV CE CN CM : Addr}
theorem ok_Or {f fH fT fG fL fZ fQ fD fM : Addr} {fd hd td gd ld zd qd dd md : FuncData} (F : Fun K "_law_one_right" "_law_one_right" sOr f fd) (B : Bl mg) (mrp : mg "repr" = none)
    (GH : FnOk P w K mg base CX0 2 fH hd ["names", "roads", "evening", "gate"] spHd9) (bH : Binds K hd ["names", "roads", "evening", "gate"] []) (kH : PySem.W.keepIn K (.ref fH) = true) (mH : mg "_law_handed_on" = some (.ref fH))
    (GT : FnOk P w K mg base CX0 4 fT td ["draws", "roads"] (spHd K)) (bT : Binds K td ["draws", "roads"] []) (kT : PySem.W.keepIn K (.ref fT) = true) (mT : mg "_law_turned" = some (.ref fT))
    (GG : FnOk P w K mg base (L2.CX P w) 8 fG gd ["valley", "evening", "gate"] (spGl K C CV CE CN)) (bG : Binds K gd ["valley", "evening", "gate"] []) (nG : KBn K gd ["valley", "evening", "gate"] 0 ["gate", "evening", "valley"] kwR3v kwR3) (kG : PySem.W.keepIn K (.ref fG) = true) (mG : mg "gate_list" = some (.ref fG))
    (GL : FnOk P w K mg base (L2.CX P w) 8 fL ld ["valley", "evening", "gate", "many"] (spLb9 K C CV CE CN CM)) (bL : Binds K ld ["valley", "evening", "gate", "many"] []) (nL : KBn K ld ["valley", "evening", "gate", "many"] 0 ["many", "gate", "evening", "valley"] kwR4v kwR4) (kL : PySem.W.keepIn K (.ref fL) = true) (mL : mg "lists_behind" = some (.ref fL))
    (GZ : FnOk P w K mg base (L2.CX P w) 8 fZ zd ["valley", "evening", "gate", "house"] (spHs9 K C CV CE CN)) (bZ : Binds K zd ["valley", "evening", "gate", "house"] []) (nZ : KBn K zd ["valley", "evening", "gate", "house"] 0 ["house", "gate", "evening", "valley"] kwR4v kwR4) (kZ : PySem.W.keepIn K (.ref fZ) = true) (mZ : mg "hands" = some (.ref fZ))
    (GQ : FnOk P w K mg base CX0 7 fQ qd ["found", "due"] (spSm (RF 7))) (bQ : Binds K qd ["found", "due"] []) (kQ : PySem.W.keepIn K (.ref fQ) = true) (mQ : mg "_law_same" = some (.ref fQ))
    (GD : FnOk P w K mg base CX0 1 fD dd ["draws", "many"] spDraw) (bD : Binds K dd ["draws", "many"] []) (kD : PySem.W.keepIn K (.ref fD) = true) (mD : mg "_law_draw" = some (.ref fD))
    (GM : FnOk P w K mg base CX0 2 fM md ["draws", "some"] spMixed) (bM : Binds K md ["draws", "some"] []) (kM : PySem.W.keepIn K (.ref fM) = true) (mM : mg "_law_mixed" = some (.ref fM)) :
    FnG P w K mg base CX0 9 f fd ["draws", "made", "case", "evening", "gate"] (spOr C) := by
  refine okG F scOr (fun vs H Q E h => ?_) (fun cdv A outer s0 H vs Q E hA hr h => ?_)
  · obtain ⟨a, x, t, r, p1, p2, p3, g, qs, us, ss, rs, es, ns, n, rfl, _⟩ := h
    rfl
  obtain ⟨a, x, t, r, p1, p2, p3, g, qs, us, ss, rs, es, ns, n, rfl, hs, hn, va, ok, iv, hr0, ra, pu, pe, hg, q⟩ := h
  have nd := scOr.nd
  have hr1 : Room 1 _ := hr.mono (by decide)
  have hr2 : Room 2 _ := hr.mono (by decide)
  have hr4 : Room 4 _ := hr.mono (by decide)
  have hr7 : Room 7 _ := hr.mono (by decide)
  have hu := hu_of hr
  have hu64 : (A.deeper (envOfC "_law_one_right" (defScope sOr) s0.heap.objs.size f cdv)).units + 64 < cLine := hr.units
  refine ⟨_, (pss_cons (by exact (ps_asg (pv 2) (pg_tup rfl (pgs_cons (pg_name (i := 5) nd rfl (.inl rfl)) (pgs_cons (pg_name (i := 6) nd rfl (.inl rfl)) (pgs_cons (pg_name (i := 7) nd rfl (.inl rfl)) pgs_nil))))))
  (pss_cons (by exact (ps_asg (pe_call GH hr2 rfl mH kH bH .nil pass0 (pa_cons (pv 5) (pa_cons (pv 6) (pa_cons (pv 3) (pa_cons (pv 4) pa_nil))))) (pg_tup rfl (pgs_cons (pg_name (i := 8) nd rfl (.inl rfl)) (pgs_cons (pg_name (i := 9) nd rfl (.inl rfl)) pgs_nil)))))
  (pss_cons (by exact (ps_set (i := 10) nd rfl (.inl rfl) (pe_call GT hr4 rfl mT kT bT .nil pass0 (pa_cons (pv 0) (pa_cons (pv 3) pa_nil)))))
  (pss_cons (by exact (ps_par (i := 11) (j := 12) rfl nd rfl rfl (by decide) rfl rfl (pa_cons (pe_callB (cr_reprS hA hu64) rfl mrp (by decide +kernel) (pa_cons (pv 10) pa_nil)) (pa_cons (pe_call GG hr rfl mG kG bG .nil passL (pa_cons (pv 1) (pa_cons (pv 10) (pa_cons (pv 4) pa_nil)))) pa_nil)) (by rfl)))
  (pss_cons (by exact (ps_if (PW.pt (pw_or (pt_not (pt_val (pe_call GQ hr7 rfl mQ kQ bQ .nil pass0 (pa_cons (pv 12) (pa_cons (pe_dget hu (pe_ix ix_list (pv 8) (pe_un un_neg pe_int) (fun _ _ => rfl)) (pv 4) (fun _ _ => rfl)) pa_nil))))) (pw_or1 (pt_cmpR op_ne (pe_callB (cr_reprS hA hu64) rfl mrp (by decide +kernel) (pa_cons (pv 10) pa_nil)) (pv 11) (nomark _))))) (pss_one (by exact (ps_ret pe_bl))) pss_nil))
  (pss_cons (by exact (ps_expr (pe_bm PySem.F.plainAttrs_list PySem.F.slot_list_append PySem.F.type_list_append mt_append (pv 12) (pa_cons pe_str pa_nil))))
  (pss_cons (by exact (ps_if (pt_not (pt_val (pe_call GQ hr7 rfl mQ kQ bQ .nil pass0 (pa_cons (pe_callN GG hr rfl mG kG nG passL (pk_cons (pv 4) (pk_cons (pv 3) (pk_cons (pv 1) pk_nil)))) (pa_cons (pe_dget hu (pe_ix ix_list (pv 8) (pe_un un_neg pe_int) (fun _ _ => rfl)) (pv 4) (fun _ _ => rfl)) pa_nil))))) (pss_one (by exact (ps_ret pe_bl))) pss_nil))
  (pss_cons (by exact (ps_for PassesOwn.never rfl (by exact pi_tup (pe_tup (pa_cons pe_int (pa_cons (pe_callB call_len_seq rfl B.len PySem.boot_len (pa_cons (pv 6) pa_nil)) (pa_cons (pe_call GD hr1 rfl mD kD bD .nil pass0 (pa_cons (pv 0) (pa_cons (pe_op op_add (pe_callB call_len_seq rfl B.len PySem.boot_len (pa_cons (pv 6) pa_nil)) pe_int) pa_nil))) (pa_cons (pe_call GD hr1 rfl mD kD bD .nil pass0 (pa_cons (pv 0) (pa_cons (pe_op op_add (pe_callB call_len_seq rfl B.len PySem.boot_len (pa_cons (pv 6) pa_nil)) pe_int) pa_nil))) pa_nil)))))) (pg_name (i := 13) nd rfl (.inl rfl)) (pss_cons (by exact (ps_par (i := 14) (j := 15) rfl nd rfl rfl (by decide) rfl rfl (pa_cons (pe_ix ix_list (pv 8) (pv 13) (fun _ _ => rfl)) (pa_cons (pe_call GL hr rfl mL kL bL .nil passL (pa_cons (pv 1) (pa_cons (pv 10) (pa_cons (pv 4) (pa_cons (pv 13) pa_nil))))) pa_nil)) (by rfl)))
  (pss_cons (by exact (ps_if (pt_not (pt_val (pe_call GQ hr7 rfl mQ kQ bQ .nil pass0 (pa_cons (pv 15) (pa_cons (pv 14) pa_nil))))) (pss_one (by exact (ps_ret pe_bl))) pss_nil))
  (pss_cons (by exact (ps_expr (pe_bm PySem.F.plainAttrs_list PySem.F.slot_list_append PySem.F.type_list_append mt_append (pe_dget hu (pv 15) (pv 4) (fun _ _ => rfl)) (pa_cons pe_str pa_nil))))
  (pss_one (by exact (ps_if (pt_not (pt_val (pe_call GQ hr7 rfl mQ kQ bQ .nil pass0 (pa_cons (pe_callN GL hr rfl mL kL nL passL (pk_cons (pv 13) (pk_cons (pv 4) (pk_cons (pv 3) (pk_cons (pv 1) pk_nil))))) (pa_cons (pv 14) pa_nil))))) (pss_one (by exact (ps_ret pe_bl))) pss_nil))))))))
  (pss_cons (by exact (ps_for PassesOwn.never rfl (by exact pi_list (pe_op op_cat (pe_slice sl_list (pe_call GM hr2 rfl mM kM bM .nil pass0 (pa_cons (pv 0) (pa_cons (pv 5) pa_nil))) po_none (po_some pe_int)) (pe_lst (pa_cons (pv 4) pa_nil)))) (pg_name (i := 16) nd rfl (.inl rfl)) (pss_cons (by exact (ps_set (i := 15) nd rfl (.inl rfl) (pe_call GZ hr rfl mZ kZ bZ .nil passL (pa_cons (pv 1) (pa_cons (pv 10) (pa_cons (pv 4) (pa_cons (pv 16) pa_nil)))))))
  (pss_cons (by exact (ps_if (pt_not (pt_val (pe_call GQ hr7 rfl mQ kQ bQ .nil pass0 (pa_cons (pv 15) (pa_cons (pe_dget hu (pv 9) (pv 16) (fun _ _ => rfl)) pa_nil))))) (pss_one (by exact (ps_ret pe_bl))) pss_nil))
  (pss_cons (by exact (ps_expr (pe_bm PySem.F.plainAttrs_list PySem.F.slot_list_append PySem.F.type_list_append mt_append (pv 15) (pa_cons pe_str pa_nil))))
  (pss_one (by exact (ps_if (pt_not (pt_val (pe_call GQ hr7 rfl mQ kQ bQ .nil pass0 (pa_cons (pe_callN GZ hr rfl mZ kZ nZ passL (pk_cons (pv 16) (pk_cons (pv 4) (pk_cons (pv 3) (pk_cons (pv 1) pk_nil))))) (pa_cons (pe_dget hu (pv 9) (pv 16) (fun _ _ => rfl)) pa_nil))))) (pss_one (by exact (ps_ret pe_bl))) pss_nil))))))))
  (pss_one (by exact (ps_ret (pe_cmpR op_eq (pe_callB (cr_reprS hA hu64) rfl mrp (by decide +kernel) (pa_cons (pv 10) pa_nil)) (pv 11) (nomark _)))))))))))))), ?_⟩
  have tr := ok.tree
  have ls := ok.le
  have frs := ok.cut.forest
  have lrs : rs.length ≤ 59 := by have := ok.rl; omega
  obtain ⟨js, nj, lj, jl, ees⟩ := perm_js pe tr.cut.1
  have les : es.length = rs.length := pe.length_eq
  have nde : es.Nodup := pe.nodup_iff.mpr tr.cut.1
  have sub : ∀ e ∈ es, e ∈ rs := fun e he => pe.mem_iff.mp he
  have hSE : ∀ m, hsA rs g (js.take m) = hsE rs g (es.take m) := fun m => by rw [hsA_E, ees, List.map_take]
  have hSA : hsA rs g js = hsE rs g es := by rw [hsA_E, ees]
  have at_ : AtPl rs js es := by rw [ees]; exact atpl_map lj
  have nms : ∀ e ∈ es, nameOk e.1 = true ∧ nameOk e.2 = true := fun e he => by
    have h := ok.ends e (sub e he)
    exact ⟨(ok.good.2 _ h.1).1, (ok.good.2 _ h.2).1⟩
  with_reducible refine sQ ?_
  refine ⟨_, rfl, t, _, rfl, SqT.of va.t0, rfl, _, _, rfl, _, _, rfl, _, _, rfl, rfl, ?_⟩
  dsimp only
  with_reducible refine sQ ?_
  refine ⟨_, rfl, _, rfl, _, rfl, _, rfl, p1, p2, r, g, ss, qs, us, rs, es, rfl, va.h1, tr, ls, hg, va.h2, va.pr, hr0, pu, nde, sub, fun T lr dG rws kG' adG H1 nT nlr ndG e1 gT glr lrw rowA gdG lsG => ?_⟩
  refine ⟨T, _, rfl, SqT.of gT, rfl, _, _, rfl, _, _, rfl, rfl, ?_⟩
  dsimp only
  with_reducible refine sQ ?_
  have s1 := hs.same e1
  have pu1 := TupP.ext pu e1
  have puZ : Paired (TupP (wo (fun z => z = a) H1)) us es := paired_imp (fun b r0 (hb : TupP H1 b r0) => (wo_some.mpr ⟨s1.tup hb, hb⟩ : TupP (wo (fun z => z = a) H1) b r0)) pu1
  refine ⟨_, rfl, _, rfl, a, r, us, es, n, fun z => z = a, rfl, s1, by omega, rfl, fun z e => by rw [e]; exact s1.kept, e1 _ _ hr0, ra, puZ, by omega, fun y H2 k2 s2 hv => ?_⟩
  have k02 : Kept a H H2 := (Kept.same e1).trans k2
  refine K1.gN ?_
  with_reducible refine sQ ?_
  -- what stands from here on
  obtain ⟨G, eG⟩ : ∃ G : Hp, G = wo (fun z => z = a) H2 := ⟨_, rfl⟩
  have toG : ∀ {b : Addr} {o : HO}, b ≠ a → H1 b = some o → G b = some o := fun nb hb => by rw [eG]; exact wo_some.mpr ⟨nb, k2 _ _ nb hb⟩
  have fromH : ∀ {b : Addr}, H b = none → b ≠ a := fun hb z => by rw [z] at hb; exact hs.kept hb
  have G2 : Same G H2 := by rw [eG]; exact wo_out
  have gKept : ∀ {Hx : Hp}, Kept a H2 Hx → Same G Hx := fun k b o h => by
    rw [eG] at h
    obtain ⟨nb, h⟩ := wo_some.mp h
    exact k _ _ nb h
  have lrG : G lr = some (.lst (rws.map V.ref)) := toG (fromH nlr) glr
  have dGG : G dG = some (.dK kG') := toG (fromH ndG) gdG
  have rowG : ∀ k (hk : k < rws.length), ∃ ad : Str → Addr, G rws[k] = some (.dK (refK (ss.filter fun s => decide (s ∉ (hsE rs g (es.take k)).gone)) ad)) ∧ ∀ s ∈ ss, s ∉ (hsE rs g (es.take k)).gone → G (ad s) = some (.lst (((hsE rs g (es.take k)).lists s).map V.str)) := fun k hk => by
    obtain ⟨ad, b1, b2, b3⟩ := rowA k hk
    exact ⟨ad, toG (spr_neD s1 b1) b1, fun s hs' n' => toG (fromH (b2 s hs' n').1) (b2 s hs' n').2⟩
  have givG : ∀ s ∈ ss, ∃ l, valV kG' (.inr s) = some (.ref l) ∧ G l = some (.lst (((hsE rs g es).given s).map V.str)) := fun s hs' => by
    obtain ⟨b1, b2, b3⟩ := lsG.yes s hs' (by simp)
    exact ⟨_, b1, toG (fromH b2) b3⟩
  have ivG : IsV C G x ss rs ns := by
    have := (iv.kept hs k02)
    rw [eG]
    exact isvo_wo this s2
  have evP : EvV G rs y js := ⟨hand_bg frs hv at_ nj (by omega) (by rw [eG]; exact Same.refl _), by rw [jl]⟩
  have evO : EvV G rs (.ref r) js := ev_of frs (toG ra (e1 _ _ hr0)) (by rw [← ees]; exact paired_imp (fun b r0 (hb : TupP H1 b r0) => (toG (s1.tup hb) hb : TupP G b r0)) pu1) nj lj jl (by omega)
  have evx : ∀ {Hx : Hp} {v : V}, EvV G rs v js → Same G Hx → EvV Hx rs v js := fun h e => ⟨h.1.ext e, h.2⟩
  obtain ⟨b, d, rfl, d1, d2, d3, d4, dp⟩ := hand_show hv nms (by omega)
  have dpG : ∀ H', Same G H' → Dp K H' (.ref b) d := by rw [eG]; exact dp
  have n1 : es.length < rws.length := by omega
  have al : atI (rws.map V.ref) (-1) = some (.ref rws[es.length]) := by
    have e0 : rws = rws.take es.length ++ [rws[es.length]] := by rw [← take_snoc n1, List.take_of_length_le (by omega)]
    have e1 : rws.map V.ref = (rws.take es.length).map V.ref ++ [V.ref rws[es.length]] := by
      conv => lhs; rw [e0]
      rw [List.map_append]
      rfl
    rw [e1]
    exact atI_last _ _
  have lenB : ∀ m, ∀ h ∈ ss, h ∉ (hsE rs g (es.take m)).gone → ((hsE rs g (es.take m)).lists h).length ≤ 60 := fun m h hh nh => by
    have I := (hsA_inv tr hg (nj.sublist (List.take_sublist m js)) fun j hj => lj j (List.mem_of_mem_take hj)).1
    rw [hSE] at I
    have l := nodup_len (I.nd h hh nh) fun x hx => ((I.mem h hh nh x).mp hx).1
    rw [List.length_append, List.length_singleton] at l
    omega
  have gno : ∀ m, g ∉ (hsE rs g (es.take m)).gone := fun m z => by
    have I := (hsA_inv tr hg (nj.sublist (List.take_sublist m js)) fun j hj => lj j (List.mem_of_mem_take hj)).1
    rw [hSE] at I
    exact (I.ins g z).2 rfl
  have lenV : ∀ s, ((hsE rs g es).given s).length ≤ 60 := fun s => by
    have I := (hsA_inv tr hg nj lj).1
    have h1 := I.len s
    rw [hSA] at h1
    have h2 : (hsE rs g es).gone.length = es.length := by unfold hsE; rw [hsOf_gone, List.length_map]
    omega
  obtain ⟨adL, rowL, lstL⟩ := rowG es.length n1
  rw [List.take_length] at rowL lstL
  have gno' : g ∉ (hsE rs g es).gone := by have := gno es.length; rwa [List.take_length] at this
  have lenB' : ((hsE rs g es).lists g).length ≤ 60 := by have := lenB es.length g hg; rw [List.take_length] at this; exact this gno'
  have lstg := lstL g hg gno'
  have dgL : ∀ {Hx : Hp}, Same G Hx → DGet Hx rws[es.length] (.str g) (some (.ref (adL g))) := fun e => by
    have := DGet.k (k := .inr g) (e _ _ rowL)
    rw [val_refK, if_pos (List.mem_filter.mpr ⟨hg, decide_eq_true gno'⟩)] at this
    exact this
  refine ⟨_, rfl, .ref b, d.shown, rfl, .inl ⟨b, d, rfl, dpG H2 G2, d1, d2, d3, d4, rfl⟩, ?_⟩
  refine ⟨_, rfl, _, rfl, _, rfl, .ref x, .ref b, .str g, rfl, .inr ⟨x, ss, rs, ns, rfl, ivG.same G2, tr, ls, .inr ⟨js, evx evP G2, .inr ⟨g, rfl, hg, fun r1 H3 e3 n3 g3 => ?_⟩⟩⟩⟩
  rw [hSA] at g3
  refine ⟨_, _, rfl, ?_⟩
  refine nQ ?_
  with_reducible refine sQ ?_
  have G3 := G2.trans e3
  refine ⟨_, rfl, _, rfl, _, rfl, lr, _, (-1 : Int), .ref rws[es.length], rfl, rfl, SqL.of (G3 _ _ lrG), al, _, rfl, rws[es.length], _, rfl, dgL G3, .ref r1, .ref (adL g), rfl, r_same g3 (G3 _ _ lstg) (by omega), fun H4 e4 => ?_⟩
  refine ⟨_, rfl, iteF ?_⟩
  have G4 := G3.trans e4
  refine ⟨_, rfl, .ref b, d.shown, rfl, .inl ⟨b, d, rfl, dpG H4 G4, d1, d2, d3, d4, rfl⟩, ?_⟩
  refine ⟨_, rfl, rfl, _, rfl, ?_⟩
  rw [decide_eq_true rfl]
  refine iteF ?_
  refine nQ ?_
  with_reducible refine sQ ?_
  have g34 := e4 _ _ g3
  refine ⟨_, rfl, .inl ⟨rfl, _, SqL.of g34⟩, r1, _, _, rfl, rfl, g34, by rw [List.length_map]; exact small1000 (by omega), ?_⟩
  have e5 : Same H2 (L2.upd H4 r1 (.lst (((hsE rs g es).lists g).map V.str ++ [.str "late"]))) := ps_same_upd (e3.trans e4) n3
  generalize L2.upd H4 r1 (.lst (((hsE rs g es).lists g).map V.str ++ [.str "late"])) = H5 at e5 ⊢
  have G5 := G2.trans e5
  dsimp only
  with_reducible refine sQ ?_
  refine ⟨_, rfl, _, rfl, _, rfl, rfl, .ref x, .ref r, .str g, rfl, .inr ⟨x, ss, rs, ns, rfl, ivG.same G5, tr, ls, .inr ⟨js, evx evO G5, .inr ⟨g, rfl, hg, fun r2 H6 e6 n6 g6 => ?_⟩⟩⟩⟩
  rw [hSA] at g6
  have G6 := G5.trans e6
  refine ⟨_, rfl, _, rfl, lr, _, (-1 : Int), .ref rws[es.length], rfl, rfl, SqL.of (G6 _ _ lrG), al, _, rfl, rws[es.length], _, rfl, dgL G6, .ref r2, .ref (adL g), rfl, r_same g6 (G6 _ _ lstg) (by omega), fun H7 e7 => ⟨_, rfl, iteF (nQ ?_)⟩⟩
  with_reducible refine sQ ?_
  have e27 := e5.trans (e6.trans e7)
  have G7 := G2.trans e27
  have s7 := s2.same e27
  have h27 : H7 p2 = some (.lst (qs.map V.ref)) := G7 _ _ (toG va.n2 (e1 _ _ va.h2))
  have lm : (qs.map V.ref).length = rs.length := by rw [List.length_map, va.pr.length]
  -- the numbers of roads
  refine iTup_run ?_
  refine ⟨_, rfl, p2, _, rfl, .inl (SqL.of h27), _, rfl, _, rfl, p2, _, rfl, .inl (SqL.of h27), _, _, rfl, rfl, a, ((qs.map V.ref).length : Int) + 1, n + 200, rfl, s7, by omega, by omega, ?_, fun x1 H8 x10 x11 k8 s8 => ?_⟩
  · rw [lm]
    exact Nat.lt_of_le_of_lt (show ((rs.length : Int) + 1).natAbs ≤ 100 by omega) (by decide)
  have h28 := k8 _ _ va.n2 h27
  refine ⟨_, rfl, _, rfl, p2, _, rfl, .inl (SqL.of h28), _, _, rfl, rfl, a, ((qs.map V.ref).length : Int) + 1, n + 201, rfl, s8, by omega, by omega, ?_, fun x2 H9 x20 x21 k9 s9 => ?_⟩
  · rw [lm]
    exact Nat.lt_of_le_of_lt (show ((rs.length : Int) + 1).natAbs ≤ 100 by omega) (by decide)
  rw [lm] at x11 x21 ⊢
  refine ⟨(by show 4 ≤ sizeLine; decide), fun T2 hT2 => ?_⟩
  have e10 := K1.Same.upd (H := H9) (p := T2) (o := .tup [.int 0, .int (rs.length : Int), .int x1, .int x2]) hT2
  have g10 := upd_same' H9 T2 (.tup [.int 0, .int (rs.length : Int), .int x1, .int x2])
  have k210 : Kept a H2 (L2.upd H9 T2 (.tup [.int 0, .int (rs.length : Int), .int x1, .int x2])) := (Kept.same e27).trans (k8.trans (k9.trans (Kept.same e10)))
  have s10 := s9.same e10
  generalize L2.upd H9 T2 (.tup [.int 0, .int (rs.length : Int), .int x1, .int x2]) = H10 at e10 g10 k210 s10 ⊢
  refine ⟨T2, rfl, ⟨_, SqT.of g10⟩, ?_⟩
  have G10 := gKept k210
  refine for_it (walk_tup (xs := [.int 0, .int (rs.length : Int), .int x1, .int x2])) (fun k σ Hx => (∃ a13 a14 a15 a16, σ = [some (.ref a), some (.ref x), some (.ref t), some (.ref r), some (.str g), some (.ref p1), some (.ref p2), some (.ref p3), some (.ref lr), some (.ref dG), some (.ref b), some (.str d.shown), some (.ref r1), a13, a14, a15, a16]) ∧ Same H10 Hx) ⟨⟨_, _, _, _, rfl⟩, Same.refl _⟩ (fun k σ Hx _ h => SqT.of (h.2 _ _ g10)) ?_ ?_
  · rintro k v σ Hx H'' hk ⟨⟨a13, a14, a15, a16, rfl⟩, c1⟩ ⟨rfl, hv⟩
    obtain ⟨m, hm, rfl⟩ : ∃ m : Nat, m ≤ rs.length ∧ v = .int (m : Int) := by
      have := List.mem_of_getElem? hv
      simp only [List.mem_cons, List.not_mem_nil, or_false] at this
      rcases this with rfl | rfl | rfl | rfl
      · exact ⟨0, Nat.zero_le _, rfl⟩
      · exact ⟨rs.length, Nat.le_refl _, rfl⟩
      · exact ⟨x1.toNat, by omega, by rw [show ((x1.toNat : Nat) : Int) = x1 by omega]⟩
      · exact ⟨x2.toNat, by omega, by rw [show ((x2.toNat : Nat) : Int) = x2 by omega]⟩
    have Gx := G10.trans c1
    have hmr : m < rws.length := by omega
    obtain ⟨adm, rowm, lstm⟩ := rowG m hmr
    have am : atI (rws.map V.ref) (m : Int) = some (.ref rws[m]) := atI_nat (by rw [List.getElem?_map, List.getElem?_eq_getElem hmr]; rfl)
    refine K1.gN ?_
    with_reducible refine sQ ?_
    refine ⟨_, rfl, _, rfl, lr, _, (m : Int), .ref rws[m], rfl, rfl, SqL.of (Gx _ _ lrG), am, _, rfl, _, rfl, _, rfl, _, rfl, .ref x, .ref b, .str g, .int (m : Int), rfl, .inr ⟨x, ss, rs, ns, rfl, ivG.same Gx, tr, ls, .inr ⟨js, evx evP Gx, .inr ⟨g, rfl, hg, .inr ⟨m, rfl, hm, fun fd' adf Ha ea nf gf lsf _ => ?_⟩⟩⟩⟩⟩
    rw [hSE] at gf lsf
    refine ⟨_, _, rfl, ?_⟩
    refine nQ ?_
    with_reducible refine sQ ?_
    have Ga := Gx.trans ea
    have lf : (ss.filter fun s => decide (s ∉ (hsE rs g (es.take m)).gone)).length ≤ 100 := Nat.le_trans (List.length_filter_le _ _) (by omega)
    have inF : ∀ s ∈ ss.filter (fun s => decide (s ∉ (hsE rs g (es.take m)).gone)), s ∈ ss ∧ s ∉ (hsE rs g (es.take m)).gone := fun s h => ⟨(List.mem_filter.mp h).1, of_decide_eq_true (List.mem_filter.mp h).2⟩
    refine ⟨_, rfl, _, rfl, .ref fd', .ref rws[m], rfl, r_refK gf (Ga _ _ rowm) lf (fun s h => ⟨(lsf s (inF s h).1 (inF s h).2).2, Ga _ _ (lstm s (inF s h).1 (inF s h).2), Nat.le_trans (lenB m s (inF s h).1 (inF s h).2) (by decide)⟩), fun Hb eb => ⟨_, rfl, iteF (nQ ?_)⟩⟩
    with_reducible refine sQ ?_
    obtain ⟨lfn, lfg⟩ := lsf g hg (gno m)
    have dgf := DGet.k (k := .inr g) (eb _ _ gf)
    have vf : valV (((ss.filter fun s => decide (s ∉ (hsE rs g (es.take m)).gone)).map fun s => ((.inr s : Key), V.ref (adf s)))) (.inr g) = some (.ref (adf g)) := by rw [val_map, if_pos (List.mem_filter.mpr ⟨hg, decide_eq_true (gno m)⟩)]
    rw [vf] at dgf
    have lb := lenB m g hg (gno m)
    refine ⟨_, rfl, _, rfl, fd', _, rfl, dgf, .inl ⟨rfl, _, SqL.of (eb _ _ lfg)⟩, adf g, _, _, rfl, rfl, eb _ _ lfg, by rw [List.length_map]; exact small1000 (by omega), ?_⟩
    have ec : Same H'' (L2.upd Hb (adf g) (.lst (((hsE rs g (es.take m)).lists g).map V.str ++ [.str "late"]))) := ps_same_upd (ea.trans eb) lfn
    generalize L2.upd Hb (adf g) (.lst (((hsE rs g (es.take m)).lists g).map V.str ++ [.str "late"])) = Hc at ec ⊢
    have Gc := Gx.trans ec
    dsimp only
    refine ⟨_, rfl, _, rfl, _, rfl, _, rfl, rfl, .ref x, .ref r, .str g, .int (m : Int), rfl, .inr ⟨x, ss, rs, ns, rfl, ivG.same Gc, tr, ls, .inr ⟨js, evx evO Gc, .inr ⟨g, rfl, hg, .inr ⟨m, rfl, hm, fun fd2 adf2 Hd ed nf2 gf2 lsf2 _ => ?_⟩⟩⟩⟩⟩
    rw [hSE] at gf2 lsf2
    have Gd := Gc.trans ed
    refine ⟨_, rfl, .ref fd2, .ref rws[m], rfl, r_refK gf2 (Gd _ _ rowm) lf (fun s h => ⟨(lsf2 s (inF s h).1 (inF s h).2).2, Gd _ _ (lstm s (inF s h).1 (inF s h).2), Nat.le_trans (lenB m s (inF s h).1 (inF s h).2) (by decide)⟩), fun He ee => ⟨_, rfl, iteF (nQ ?_)⟩⟩
    exact ⟨⟨_, _, _, _, rfl⟩, c1.trans (ec.trans (ed.trans ee))⟩
  rintro σ H11 ⟨⟨a13, a14, a15, a16, rfl⟩, c11⟩
  with_reducible refine sQ ?_
  -- the houses
  have G11 := G10.trans c11
  have s11 := s10.same c11
  have h111 : H11 p1 = some (.lst (ss.map V.str)) := G11 _ _ (toG va.n1 (e1 _ _ va.h1))
  refine ⟨_, rfl, _, rfl, a, p1, ss.map V.str, _, rfl, s11, by omega, h111, va.n1, by rw [List.length_map]; omega, fun ry ys H12 pm rn rya hry k12 s12 => ?_⟩
  obtain ⟨hs', rfl, ps⟩ := perm_str pm
  refine ⟨(4 : Int), rfl, ry, _, rfl, SqL.of hry, fun A2 hA2 => ?_⟩
  have ec : cutV (hs'.map V.str) none (some (4 : Int)) = (hs'.take 4).map V.str := by
    rw [show (4 : Int) = ((4 : Nat) : Int) from rfl, cut_to, ← List.map_take]
  rw [ec]
  have e13 := K1.Same.upd (H := H12) (p := A2) (o := .lst ((hs'.take 4).map V.str)) hA2
  have g13 := upd_same' H12 A2 (.lst ((hs'.take 4).map V.str))
  generalize L2.upd H12 A2 (.lst ((hs'.take 4).map V.str)) = H13 at e13 g13 ⊢
  refine ⟨_, rfl, (by show 1 ≤ sizeLine; decide), fun A3 hA3 => ?_⟩
  have e14 := K1.Same.upd (H := H13) (p := A3) (o := .lst [.str g]) hA3
  have g14 := upd_same' H13 A3 (.lst [.str g])
  generalize L2.upd H13 A3 (.lst [.str g]) = H14 at e14 g14 ⊢
  refine ⟨A2, A3, _, [.str g], rfl, rfl, e14 _ _ g13, g14, by rw [List.length_map, List.length_take]; exact Nat.le_trans (show min 4 hs'.length + 1 ≤ 5 by omega) (by decide), fun A4 hA4 => ?_⟩
  have e15 := K1.Same.upd (H := H14) (p := A4) (o := .lst ((hs'.take 4).map V.str ++ [.str g])) hA4
  have g15 := upd_same' H14 A4 (.lst ((hs'.take 4).map V.str ++ [.str g]))
  have k215 : Kept a H2 (L2.upd H14 A4 (.lst ((hs'.take 4).map V.str ++ [.str g]))) := k210.trans ((Kept.same c11).trans (k12.trans (Kept.same (e13.trans (e14.trans e15)))))
  have s15 := s12.same (e13.trans (e14.trans e15))
  generalize L2.upd H14 A4 (.lst ((hs'.take 4).map V.str ++ [.str g])) = H15 at e15 g15 k215 s15 ⊢
  have G15 := gKept k215
  have inS : ∀ v ∈ (hs'.take 4).map V.str ++ [.str g], ∃ s ∈ ss, v = .str s := fun v hv => by
    rcases List.mem_append.mp hv with hv | hv
    · obtain ⟨s, hs2, rfl⟩ := List.mem_map.mp hv
      exact ⟨s, ps.mem_iff.mp (List.mem_of_mem_take hs2), rfl⟩
    · exact ⟨g, hg, List.mem_singleton.mp hv⟩
  refine ⟨A4, rfl, ⟨_, SqL.of g15⟩, ?_⟩
  refine for_it (walk_list (xs := (hs'.take 4).map V.str ++ [.str g])) (fun k σ Hx => (∃ a13 a14 a15 a16, σ = [some (.ref a), some (.ref x), some (.ref t), some (.ref r), some (.str g), some (.ref p1), some (.ref p2), some (.ref p3), some (.ref lr), some (.ref dG), some (.ref b), some (.str d.shown), some (.ref r1), a13, a14, a15, a16]) ∧ Same H15 Hx) ⟨⟨_, _, _, _, rfl⟩, Same.refl _⟩ (fun k σ Hx _ h => SqL.of (h.2 _ _ g15)) ?_ ?_
  · rintro k v σ Hx H'' hk ⟨⟨a13, a14, a15, a16, rfl⟩, c1⟩ ⟨rfl, hv⟩
    obtain ⟨s, hss, rfl⟩ := inS v (List.mem_of_getElem? hv)
    have Gx := G15.trans c1
    obtain ⟨lg, vg, lgG⟩ := givG s hss
    have dgs : ∀ {Hy : Hp}, Same G Hy → DGet Hy dG (.str s) (some (.ref lg)) := fun e => by
      have := DGet.k (k := .inr s) (e _ _ dGG)
      rw [vg] at this
      exact this
    refine K1.gN ?_
    with_reducible refine sQ ?_
    refine ⟨_, rfl, _, rfl, _, rfl, _, rfl, .ref x, .ref b, .str g, .str s, rfl, .inr ⟨x, ss, rs, ns, rfl, ivG.same Gx, tr, ls, .inr ⟨js, evx evP Gx, .inr ⟨g, rfl, hg, .inr ⟨s, rfl, hss, fun fd' Ha ea nf gf => ?_⟩⟩⟩⟩⟩
    rw [hSA] at gf
    refine K1.gN ?_
    with_reducible refine sQ ?_
    have Ga := Gx.trans ea
    refine ⟨_, rfl, _, rfl, _, rfl, dG, _, rfl, dgs Ga, .ref fd', .ref lg, rfl, r_same gf (Ga _ _ lgG) (Nat.le_trans (lenV s) (by decide)), fun Hb eb => ⟨_, rfl, iteF (nQ ?_)⟩⟩
    with_reducible refine sQ ?_
    refine ⟨_, rfl, .inl ⟨rfl, _, SqL.of (eb _ _ gf)⟩, fd', _, _, rfl, rfl, eb _ _ gf, by rw [List.length_map]; exact small1000 (Nat.le_trans (lenV s) (by decide)), ?_⟩
    have ec : Same H'' (L2.upd Hb fd' (.lst (((hsE rs g es).given s).map V.str ++ [.str "late"]))) := ps_same_upd (ea.trans eb) nf
    generalize L2.upd Hb fd' (.lst (((hsE rs g es).given s).map V.str ++ [.str "late"])) = Hc at ec ⊢
    have Gc := Gx.trans ec
    dsimp only
    refine ⟨_, rfl, _, rfl, _, rfl, _, rfl, rfl, .ref x, .ref r, .str g, .str s, rfl, .inr ⟨x, ss, rs, ns, rfl, ivG.same Gc, tr, ls, .inr ⟨js, evx evO Gc, .inr ⟨g, rfl, hg, .inr ⟨s, rfl, hss, fun fd2 Hd ed nf2 gf2 => ?_⟩⟩⟩⟩⟩
    rw [hSA] at gf2
    have Gd := Gc.trans ed
    refine ⟨_, rfl, _, rfl, dG, _, rfl, dgs Gd, .ref fd2, .ref lg, rfl, r_same gf2 (Gd _ _ lgG) (Nat.le_trans (lenV s) (by decide)), fun He ee => ⟨_, rfl, iteF (nQ ?_)⟩⟩
    exact ⟨⟨_, _, _, _, rfl⟩, c1.trans (ec.trans (ed.trans ee))⟩
  rintro σ H16 ⟨⟨a13', a14', a15', a16', rfl⟩, c16⟩
  have G16 := G15.trans c16
  refine ⟨_, rfl, .ref b, d.shown, rfl, .inl ⟨b, d, rfl, dpG H16 G16, d1, d2, d3, d4, rfl⟩, ?_⟩
  refine ⟨_, rfl, rfl, ?_⟩
  rw [decide_eq_true rfl]
  exact q H16 (k02.trans (k215.trans (Kept.same c16))) ((s15.same c16).mono (by rw [List.length_map]; omega))
end
end K1
end
-- MLaw
section
set_option Elab.async false
set_option linter.all false
set_option maxRecDepth 100000
set_option maxHeartbeats 4000000
namespace K1
open PySem PySem.Spec PyProof.Rows L2 W0 Wr
abbrev sLaw : Stmt := top 63
def spLaw (K : PySem.W.Frag) (T : List (Addr × Str)) : Sp := fun vs H Q _ => ∃ (p : Addr) (ns : List Int), vs = [.ref p] ∧ SqL K H p (ns.map V.int) ∧ ns.length ≤ 1000 ∧ LamX.Tabs T H ∧ ∀ H', Q (.bl true) H'
theorem scLaw : FnScope ["script", "turn", "draws", "case", "names", "made", "k", "rows", "evening", "gate"] ["script"] (defScope sLaw) := ⟨rfl, rfl, rfl, by decide +kernel, rfl, by decide +kernel, by decide +kernel⟩
theorem seq_extN {K : PySem.W.Frag} {H H' : Hp} {a : Addr} {xs : List V} (e : LamX.ExtN H H') (h : SqL K H a xs) : SqL K H' a xs := by
  rcases h with (h | ⟨o, h⟩) | h
  · exact .inl (.inl (e _ _ h (fun _ z => by cases z)))
  · exact .inl (.inr ⟨o, e _ _ h (fun _ z => by cases z)⟩)
  · exact .inr h
/-- an evening and a gate -/
def RowE (a : Addr) (ss : List Str) (rs : List (Str × Str)) (H : Hp) (t : Addr) : Prop := ∃ (r : Addr) (us : List Addr) (es : List (Str × Str)) (g : Str), H t = some (.tup [.ref r, .str g]) ∧ H r = some (.lst (us.map V.ref)) ∧ r ≠ a ∧ Paired (TupP H) us es ∧ es.Perm rs ∧ g ∈ ss
theorem RowE.kept {a t : Addr} {ss : List Str} {rs : List (Str × Str)} {H H' : Hp} {n : Nat} (h : RowE a ss rs H t) (s : Spr H a n) (k : Kept a H H') : RowE a ss rs H' t := by
  obtain ⟨r, us, es, g, h1, h2, h3, h4, h5, h6⟩ := h
  exact ⟨r, us, es, g, k _ _ (s.tup h1) h1, k _ _ h3 h2, h3, TupP.kept h4 s k, h5, h6⟩
theorem RowE.same {a t : Addr} {ss : List Str} {rs : List (Str × Str)} {H H' : Hp} (h : RowE a ss rs H t) (k : Same H H') : RowE a ss rs H' t := by
  obtain ⟨r, us, es, g, h1, h2, h3, h4, h5, h6⟩ := h
  exact ⟨r, us, es, g, k _ _ h1, k _ _ h2, h3, TupP.ext h4 k, h5, h6⟩
theorem kept_wo {a : Addr} {Z : Addr → Prop} {H H' : Hp} (k : Kept a H H') : Kept a (wo Z H) (wo Z H') := fun b o n h => by
  obtain ⟨h1, h2⟩ := wo_some.mp h
  exact wo_some.mpr ⟨h1, k b o n h2⟩
theorem Spr.wo {a : Addr} {Z : Addr → Prop} {H : Hp} {n : Nat} (s : Spr H a n) (z : ¬ Z a) : Spr (K1.wo Z H) a n := by
  obtain ⟨x, y, z', e, r⟩ := s
  exact ⟨x, y, z', wo_some.mpr ⟨z, e⟩, r⟩
theorem Spr.tabs9 {T : List (Addr × Str)} {H H' : Hp} {a : Addr} {n : Nat} (s : Spr H a n) (t : LamX.Tabs T H) (k : Kept a H H') : LamX.Tabs T H' := by
  obtain ⟨x, y, z, h, r⟩ := s
  exact tabs_kept t h k
section
variable {P : Program} {w : World} {K : PySem.W.Frag} {mg : Str → Option Value} {base : Heap} {C : Addr} {T : List (Addr × Str)}
theorem ok_law {f f1 f2 f3 f4 f5 f6 f7 : Addr} {fd d1 d2 d3 d4 d5 d6 d7 : FuncData} (F : Fun K "law" "law" sLaw f fd) (mr : mg "range" = none)
    (GSr : FnOk P w K mg base CX0 1 f1 d1 ["script", "place"] (spSrc K)) (bSr : Binds K d1 ["script", "place"] []) (kSr : PySem.W.keepIn K (.ref f1) = true) (mSr : mg "_law_source" = some (.ref f1))
    (GC : FnOk P w K mg base CX0 4 f2 d2 ["draws", "most"] spCs) (bC : Binds K d2 ["draws", "most"] []) (kC : PySem.W.keepIn K (.ref f2) = true) (mC : mg "_law_case" = some (.ref f2))
    (GV : FnOk P w K mg base CX0 7 f3 d3 ["draws", "case"] (spMd C)) (bV : Binds K d3 ["draws", "case"] []) (kV : PySem.W.keepIn K (.ref f3) = true) (mV : mg "_law_made" = some (.ref f3))
    (GM : FnOk P w K mg base CX0 2 f4 d4 ["draws", "some"] spMixed) (bM : Binds K d4 ["draws", "some"] []) (kM : PySem.W.keepIn K (.ref f4) = true) (mM : mg "_law_mixed" = some (.ref f4))
    (GP : FnOk P w K mg base CX0 2 f5 d5 ["draws", "some"] spPick) (bP : Binds K d5 ["draws", "some"] []) (kP : PySem.W.keepIn K (.ref f5) = true) (mP : mg "_law_pick" = some (.ref f5))
    (GO : FnG P w K mg base CX0 9 f6 d6 ["draws", "made", "case", "evening", "gate"] (spOr C)) (bO : Binds K d6 ["draws", "made", "case", "evening", "gate"] []) (kO : PySem.W.keepIn K (.ref f6) = true) (mO : mg "_law_one_right" = some (.ref f6))
    (GR : FnOk P w K mg base CX0 11 f7 d7 ["made", "names", "roads", "evening"] (spRr9 C T)) (bR : Binds K d7 ["made", "names", "roads", "evening"] []) (kR : PySem.W.keepIn K (.ref f7) = true) (mR : mg "_law_refused_right" = some (.ref f7)) :
    FnG P w K mg base CX0 12 f fd ["script"] (spLaw K T) := by
  refine okG F scLaw (fun vs H Q E h => ?_) (fun cdv A outer s0 H vs Q E hA hr h => ?_)
  · obtain ⟨p, ns, rfl, _⟩ := h
    rfl
  obtain ⟨p, ns, rfl, hp, hl, tb, q⟩ := h
  have nd := scLaw.nd
  have hr1 : Room 1 _ := hr.mono (by decide)
  have hr2 : Room 2 _ := hr.mono (by decide)
  have hr4 : Room 4 _ := hr.mono (by decide)
  have hr7 : Room 7 _ := hr.mono (by decide)
  have hr9 : Room 9 _ := hr.mono (by decide)
  have hr11 : Room 11 _ := hr.mono (by decide)
  refine ⟨_, (pss_cons (by exact (ps_for PassesOwn.never rfl (by exact pi_range1 rfl mr (pa_cons pe_int pa_nil)) (pg_name (i := 1) nd rfl (.inl rfl)) (pss_cons (by exact (ps_set (i := 2) nd rfl (.inr rfl) (pe_call GSr hr1 rfl mSr kSr bSr .nil pass0 (pa_cons (pv 0) (pa_cons (pv 1) pa_nil)))))
  (pss_cons (by exact (ps_set (i := 3) nd rfl (.inr rfl) (pe_call GC hr4 rfl mC kC bC .nil pass0 (pa_cons (pv 2) (pa_cons pe_int pa_nil)))))
  (pss_cons (by exact (ps_asg (pe_tup (pa_cons (pe_ix ix_tup (pv 3) pe_int (fun _ _ => rfl)) (pa_cons (pe_call GV hr7 rfl mV kV bV .nil pass0 (pa_cons (pv 2) (pa_cons (pv 3) pa_nil))) pa_nil))) (pg_tup rfl (pgs_cons (pg_name (i := 4) nd rfl (.inr rfl)) (pgs_cons (pg_name (i := 5) nd rfl (.inl rfl)) pgs_nil)))))
  (pss_cons (by exact (ps_setLc (i := 7) (own := [("k", 6)]) (g := gName 6) (tt := tYes) (te := tTup (tCons (tCall spMixed [] E0 (tCons (tVar 2) (tCons (tOp (rIxT K) (tVar 3) (tC (.int 1))) tNil))) (tCons (tCall spPick [] E0 (tCons (tVar 2) (tCons (tVar 4) tNil))) tNil))) rfl nd rfl rfl (sw_true rfl rfl rfl (by decide +kernel)) (by exact pi_range1 rfl mr (pa_cons pe_int pa_nil)) (by exact blkOk_by (N := ["script", "turn", "draws", "case", "names", "made", "k", "rows", "evening", "gate"]) (sc := defScope sLaw) (by decide +kernel)) (fun _ _ _ _ _ => by exact (pg_name (i := 6) nd rfl (.inl rfl))) (fun _ _ _ _ _ => by exact pts_nil) (fun _ _ _ _ _ => by exact (pe_tup (pa_cons (pe_call GM hr2 rfl mM kM bM .nil pass0 (pa_cons (pv 2) (pa_cons (pe_ix ix_tup (pv 3) pe_int (fun _ _ => rfl)) pa_nil))) (pa_cons (pe_call GP hr2 rfl mP kP bP .nil pass0 (pa_cons (pv 2) (pa_cons (pv 4) pa_nil))) pa_nil))))))
  (pss_cons (by exact (ps_expr (pe_bm PySem.F.plainAttrs_list PySem.F.slot_list_append PySem.F.type_list_append mt_append (pv 7) (pa_cons (pe_tup (pa_cons (pe_ix ix_tup (pe_ix ix_list (pv 7) pe_int (fun _ _ => rfl)) pe_int (fun _ _ => rfl)) (pa_cons (pe_ix ix_tup (pe_ix ix_list (pv 7) pe_int (fun _ _ => rfl)) pe_int (fun _ _ => rfl)) pa_nil))) pa_nil))))
  (pss_cons (by exact (ps_for PassesOwn.never rfl (by exact pi_list (pe_op op_cat (pv 7) (pe_slice sl_list (pv 7) po_none (po_some pe_int)))) (pg_tup rfl (pgs_cons (pg_name (i := 8) nd rfl (.inl rfl)) (pgs_cons (pg_name (i := 9) nd rfl (.inl rfl)) pgs_nil))) (pss_one (by exact (ps_if (pt_not (pt_val (pe_callG hA GO hr9 rfl mO kO bO .nil pass0 (pa_cons (pv 2) (pa_cons (pv 5) (pa_cons (pv 3) (pa_cons (pv 8) (pa_cons (pv 9) pa_nil)))))))) (pss_one (by exact (ps_ret pe_bl))) pss_nil)))))
  (pss_one (by exact (ps_if (pt_not (pt_val (pe_call GR hr11 rfl mR kR bR .nil pass0 (pa_cons (pv 5) (pa_cons (pv 4) (pa_cons (pe_ix ix_tup (pv 3) pe_int (fun _ _ => rfl)) (pa_cons (pe_ix ix_tup (pe_ix ix_list (pv 7) pe_int (fun _ _ => rfl)) pe_int (fun _ _ => rfl)) pa_nil))))))) (pss_one (by exact (ps_ret pe_bl))) pss_nil)))))))))))
  (pss_one (by exact (ps_ret pe_bl)))), ?_⟩
  refine ⟨3, rfl, by decide, by decide, ?_⟩
  refine for_range (lo := 0) (fun i σ Hc => (∃ x1 x2 x3 x4 x5 x7 x8 x9, σ = [some (.ref p), x1, x2, x3, x4, x5, none, x7, x8, x9]) ∧ LamX.ExtN H Hc ∧ LamX.Tabs T Hc) ⟨⟨_, _, _, _, _, _, _, _, rfl⟩, LamX.ExtN.refl H, tb⟩ ?_ ?_
  · rintro i σ Hc hi ⟨⟨x1, x2, x3, x4, x5, x7, x8, x9, rfl⟩, g1, g2⟩
    have i3 : i < 3 := hi
    refine K1.gN ?_
    with_reducible refine sQ ?_
    refine ⟨_, rfl, _, rfl, p, _, ns, rfl, seq_extN g1 hp, by omega, by omega, hl, fun a H1 e1 na s1 => ?_⟩
    refine K1.gN ?_
    with_reducible refine sQ ?_
    refine ⟨_, rfl, a, 60, 0, rfl, s1, by decide, by decide, by decide, fun t p1 p2 p3 qs ss rs ns2 H2 k2 s2 va ok nb => ?_⟩
    refine K1.gN ?_
    with_reducible refine sQ (asg_run (tup_runE (cons_run ?_)))
    refine ⟨_, rfl, t, _, (0 : Int), .ref p1, rfl, rfl, SqT.of va.t0, rfl, ?_⟩
    refine cons_run ⟨_, rfl, _, rfl, a, t, p1, p2, p3, qs, ss, rs, ns2, _, rfl, s2, by omega, va, ok, fun x l1 l2 l3 d1 d2 d3 qs' bs H3 k3 s3 vS oV => ?_⟩
    dsimp only [tNil]
    refine ⟨(by show 2 ≤ sizeLine; decide), fun U hU => ?_⟩
    have e4 := K1.Same.upd (H := H3) (p := U) (o := .tup [.ref p1, .ref x]) hU
    have gU := upd_same' H3 U (.tup [.ref p1, .ref x])
    generalize L2.upd H3 U (.tup [.ref p1, .ref x]) = H4 at e4 gU ⊢
    refine ⟨U, _, rfl, SqT.of gU, rfl, _, _, rfl, _, _, rfl, rfl, ?_⟩
    skip
    with_reducible refine sQ ?_
    have iv3 : IsVO C a H3 x ss rs ns2 := ⟨ok.nl.symm, l1, l2, l3, d1, d2, d3, qs', bs, vS, oV⟩
    have k24 := k3.trans (Kept.same e4)
    have s4 := s3.same e4
    have va4 := va.kept s2 k24
    have iv4 := iv3.kept s3 (Kept.same e4)
    have ls := ok.le
    have lrs : rs.length ≤ 59 := by have := ok.rl; omega
    have lq : qs.length = rs.length := va.pr.length
    -- the rows
    refine ⟨(2 : Int), rfl, by decide, by decide, fun D hD => ?_⟩
    have Da := s4.ne hD
    have s4' : Spr H4 a 1200 := s4.mono (by omega)
    refine lc_range (fun j Hc => Kept a H4 Hc ∧ Spr Hc a (1200 + 61 * j) ∧ ∃ ts : List Addr, Hc D = some (.lst (ts.map V.ref)) ∧ ts.length = j ∧ ∀ u ∈ ts, RowE a ss rs (wo (fun b => b = D) Hc) u) ⟨Kept.new hD, (s4'.upd Da).mono (by omega), [], upd_same, rfl, fun u hu => by cases hu⟩ ?_ ?_
    · rintro j Hc hj ⟨f1, f2, ts, f3, f4, f5⟩
      have hj2 : j < 2 := hj
      refine ⟨rfl, ?_⟩
      unfold tYes
      refine iteT ?_
      have t0c := f1 _ _ va4.n0 va4.t0
      have h2c := f1 _ _ va4.n2 va4.h2
      have prc := TupP.kept va4.pr s4 f1
      refine ⟨_, rfl, _, rfl, t, _, (1 : Int), .ref p2, rfl, rfl, SqT.of t0c, rfl, a, p2, qs.map V.ref, _, rfl, f2, by omega, h2c, va4.n2, by rw [List.length_map]; omega, fun r ys H5 pm rn ra hr5 k5 s5 => ?_⟩
      rw [List.length_map] at s5
      obtain ⟨us, es, rfl, _, pe, pr5⟩ := paired_perm (TupP.kept prc f2 k5) pm
      have h1c := k5 _ _ va4.n1 (f1 _ _ va4.n1 va4.h1)
      refine ⟨_, rfl, _, rfl, a, p1, ss.map V.str, _, rfl, s5, by omega, h1c, va4.n1, fun z => by have := ok.pos; rw [List.map_eq_nil_iff] at z; rw [z] at this; simp at this, by rw [List.length_map]; omega, fun v H6 hv k6 s6 => ?_⟩
      obtain ⟨g, hg, rfl⟩ := List.mem_map.mp hv
      have k56 := k5.trans k6
      have f36 := k56 _ _ Da f3
      have hr6 := k6 _ _ ra hr5
      have pr6 := TupP.kept pr5 s5 k6
      refine ⟨(by show 2 ≤ sizeLine; decide), fun u hu => ?_⟩
      have e7 := K1.Same.upd (H := H6) (p := u) (o := .tup [.ref r, .str g]) hu
      have gu := upd_same' H6 u (.tup [.ref r, .str g])
      generalize L2.upd H6 u (.tup [.ref r, .str g]) = H7 at e7 gu ⊢
      have uD : u ≠ D := fun z => by rw [z, f36] at hu; cases hu
      have rD : r ≠ D := fun z => by rw [z, f3] at rn; cases rn
      have k7 := k56.trans (Kept.same e7)
      refine ⟨_, e7 _ _ f36, by rw [List.length_map, f4]; exact small1000 (by omega), fun b o n h => ?_, ((s6.same e7).upd Da).mono (by omega), ts ++ [u], by rw [upd_same, List.map_append]; rfl, by rw [List.length_append, f4]; rfl, fun w hw => ?_⟩
      · rw [upd_ne (ne_of_none h hD)]
        exact k7 _ _ n (f1 _ _ n h)
      · have wD : Same (wo (fun b => b = D) H7) (wo (fun b => b = D) (L2.upd H7 D (.lst (ts.map V.ref ++ [.ref u])))) := wo_same fun b o n h => by rw [upd_ne n]; exact h
        rcases List.mem_append.mp hw with hw | hw
        · exact ((f5 w hw).kept (f2.wo fun z => Da z.symm) (kept_wo k7)).same wD
        · rw [List.mem_singleton.mp hw]
          have pr7 := TupP.ext pr6 e7
          exact RowE.same ⟨r, us, es, g, wo_some.mpr ⟨uD, gu⟩, wo_some.mpr ⟨rD, e7 _ _ hr6⟩, ra, paired_imp (fun b0 r0 (hb : TupP H7 b0 r0) => (wo_some.mpr ⟨(fun z => by have hb : H7 b0 = _ := hb; rw [z, e7 _ _ f36] at hb; cases hb), hb⟩ : TupP (wo (fun b => b = D) H7) b0 r0)) pr7, pe, hg⟩ wD
    rintro H5 ⟨f1, f2, ts, f3, f4, f5⟩
    obtain ⟨u0, u1, rfl⟩ : ∃ u0 u1, ts = [u0, u1] := by
      match ts, f4 with
      | [u0, u1], _ => exact ⟨_, _, rfl⟩
    refine K1.gN ?_
    with_reducible refine sQ ?_
    obtain ⟨r0, us0, es0, gt0, b1, b2, b3, b4, b5, b6⟩ := f5 u0 (by simp)
    obtain ⟨r1, us1, es1, gt1, c1, c2, c3, c4, c5, c6⟩ := f5 u1 (by simp)
    refine ⟨_, rfl, .inl ⟨rfl, _, SqL.of f3⟩, _, rfl, D, _, (0 : Int), .ref u0, rfl, rfl, SqL.of f3, rfl, u0, _, (0 : Int), .ref r0, rfl, rfl, SqT.of (wo_out _ _ b1), rfl, _, rfl, D, _, (1 : Int), .ref u1, rfl, rfl, SqL.of f3, rfl, u1, _, (1 : Int), .str gt1, rfl, rfl, SqT.of (wo_out _ _ c1), rfl, (by show 2 ≤ sizeLine; decide), fun u2 hu2 => ?_⟩
    have e6 := K1.Same.upd (H := H5) (p := u2) (o := .tup [.ref r0, .str gt1]) hu2
    have gu2 := upd_same' H5 u2 (.tup [.ref r0, .str gt1])
    generalize L2.upd H5 u2 (.tup [.ref r0, .str gt1]) = H6 at e6 gu2 ⊢
    have u2D : u2 ≠ D := fun z => by rw [z, f3] at hu2; cases hu2
    refine ⟨D, _, _, rfl, rfl, e6 _ _ f3, by show 2 < sizeLine; decide, ?_⟩
    have gD7 : L2.upd H6 D (.lst ([u0, u1].map V.ref ++ [.ref u2])) D = some (.lst [.ref u0, .ref u1, .ref u2]) := upd_same
    have w67 : Same (wo (fun b => b = D) H6) (wo (fun b => b = D) (L2.upd H6 D (.lst ([u0, u1].map V.ref ++ [.ref u2])))) := wo_same fun b o n h => by rw [upd_ne n]; exact h
    have k67 : Kept a H4 (L2.upd H6 D (.lst ([u0, u1].map V.ref ++ [.ref u2]))) := fun b o n h => by
      rw [upd_ne (ne_of_none h hD)]
      exact e6 _ _ (f1 _ _ n h)
    have s7 := ((f2.same e6).upd (o := .lst ([u0, u1].map V.ref ++ [.ref u2])) Da)
    generalize L2.upd H6 D (.lst ([u0, u1].map V.ref ++ [.ref u2])) = H7 at gD7 w67 k67 s7 ⊢
    have w57 : Same (wo (fun b => b = D) H5) H7 := ((wo_same fun b o _ h => e6 b o h).trans w67).trans wo_out
    have R0 : RowE a ss rs H7 u0 := (f5 u0 (by simp)).same w57
    have R1 : RowE a ss rs H7 u1 := (f5 u1 (by simp)).same w57
    have R2 : RowE a ss rs H7 u2 := ⟨r0, us0, es0, gt1, wo_out _ _ (w67 _ _ (wo_some.mpr ⟨u2D, gu2⟩)), w57 _ _ b2, b3, TupP.ext b4 w57, b5, c6⟩
    with_reducible refine sQ ?_
    refine ⟨_, rfl, _, rfl, (1 : Int), rfl, D, _, rfl, SqL.of gD7, fun A1 hA1 => ?_⟩
    have ecut : cutV [V.ref u0, .ref u1, .ref u2] none (some 1) = [.ref u0] := rfl
    rw [ecut]
    have e8 := K1.Same.upd (H := H7) (p := A1) (o := .lst [.ref u0]) hA1
    have gA1 := upd_same' H7 A1 (.lst [.ref u0])
    generalize L2.upd H7 A1 (.lst [.ref u0]) = H8 at e8 gA1 ⊢
    refine ⟨D, A1, _, [.ref u0], rfl, rfl, e8 _ _ gD7, gA1, (by show 3 + 1 ≤ sizeLine; decide), fun A2 hA2 => ?_⟩
    have e9 := K1.Same.upd (H := H8) (p := A2) (o := .lst ([V.ref u0, .ref u1, .ref u2] ++ [.ref u0])) hA2
    have g9 := upd_same' H8 A2 (.lst ([V.ref u0, .ref u1, .ref u2] ++ [.ref u0]))
    generalize L2.upd H8 A2 (.lst ([V.ref u0, .ref u1, .ref u2] ++ [.ref u0])) = H9 at e9 g9 ⊢
    have e79 := e8.trans e9
    have s9 : Spr H9 a 1400 := (s7.same e79).mono (by omega)
    have k49 := k67.trans (Kept.same e79)
    have inR : ∀ v ∈ [V.ref u0, .ref u1, .ref u2] ++ [V.ref u0], ∃ u, v = .ref u ∧ RowE a ss rs H9 u := fun v hv => by
      simp only [List.mem_append, List.mem_cons, List.not_mem_nil, or_false] at hv
      rcases hv with (rfl | rfl | rfl) | rfl
      · exact ⟨_, rfl, R0.same e79⟩
      · exact ⟨_, rfl, R1.same e79⟩
      · exact ⟨_, rfl, R2.same e79⟩
      · exact ⟨_, rfl, R0.same e79⟩
    have va9 := va4.kept s4 k49
    have iv9 := iv4.kept s4 k49
    have A2a : A2 ≠ a := (s7.same e8).ne hA2
    refine ⟨A2, rfl, ⟨_, SqL.of g9⟩, ?_⟩
    refine for_it (walk_list (xs := [V.ref u0, .ref u1, .ref u2] ++ [V.ref u0])) (fun k σ Hx => (∃ x8 x9, σ = [some (.ref p), some (.int (0 + (i : Int))), some (.ref a), some (.ref t), some (.ref p1), some (.ref x), none, some (.ref D), x8, x9]) ∧ Kept a H9 Hx ∧ Spr Hx a (1400 + 500 * k)) ⟨⟨_, _, rfl⟩, Kept.refl, s9⟩ (fun k σ Hx _ h => SqL.of (h.2.1 _ _ A2a g9)) ?_ ?_
    · rintro k v σ Hx H'' hk ⟨⟨x8, x9, rfl⟩, m1, m2⟩ ⟨rfl, hv⟩
      have hk4 : k < 4 := hk
      obtain ⟨u, rfl, Ru⟩ := inR v (List.mem_of_getElem? hv)
      obtain ⟨r, us, es, g, h1, h2, h3, h4, h5, h6⟩ := Ru.kept s9 m1
      refine ⟨u, _, rfl, SqT.of h1, rfl, _, _, rfl, _, _, rfl, rfl, ?_⟩
      refine ⟨_, rfl, _, rfl, _, rfl, _, rfl, _, rfl, a, x, t, r, p1, p2, p3, g, qs, us, ss, rs, es, ns2, _, rfl, m2, by omega, va9.kept s9 m1, ok, iv9.kept s9 m1, h2, h3, h4, h5, h6, fun Hy ky sy => ⟨_, rfl, iteF (nQ ?_)⟩⟩
      exact ⟨⟨_, _, rfl⟩, m1.trans ky, sy.mono (by omega)⟩
    rintro σ H10 ⟨⟨x8', x9', rfl⟩, m1, m2⟩
    have va10 := va9.kept s9 m1
    have iv10 := iv9.kept s9 m1
    have gD10 := m1 _ _ Da (e79 _ _ gD7)
    obtain ⟨r, us, es, g, h1, h2, h3, h4, h5, h6⟩ := (R0.same e79).kept s9 m1
    have kAll : Kept a H1 H10 := k2.trans (k24.trans (k49.trans m1))
    have tb10 := s1.tabs9 (tabs_same g2 e1) kAll
    refine ⟨_, rfl, _, rfl, _, rfl, t, _, (1 : Int), .ref p2, rfl, rfl, SqT.of va10.t0, rfl, _, rfl, D, _, (0 : Int), .ref u0, rfl, rfl, SqL.of gD10, rfl, u0, _, (0 : Int), .ref r, rfl, rfl, SqT.of h1, rfl, x, p1, p2, r, qs, us, ss, rs, es, ns2, rfl, iv10.is.nt, ok.tree, ls, nb, ok.good, ok.pos, va10.h1, va10.h2, va10.pr, h2, h4, h5, tb10, fun H11 x11 t11 => ⟨_, rfl, iteF (nQ ?_)⟩⟩
    refine ⟨⟨_, _, _, _, _, _, _, _, rfl⟩, fun b o h nt => ?_, t11⟩
    have h0 := g1 b o h nt
    exact x11 b o (kAll b o (ne_of_none h0 na) (e1 _ _ h0)) nt
  · rintro σ Hc ⟨⟨x1, x2, x3, x4, x5, x7, x8, x9, rfl⟩, g1, g2⟩
    exact q Hc
end
end K1
end
-- MLo
section
set_option Elab.async false
set_option linter.all false
set_option maxRecDepth 100000
set_option maxHeartbeats 4000000
namespace K1
open PySem PySem.Spec PyProof.Rows L2 W0
abbrev sLo : Stmt := top 47
theorem scLo : FnScope ["draws", "thing", "found", "part"] ["draws", "thing"] (defScope sLo) := ⟨rfl, rfl, rfl, by decide +kernel, rfl, by decide +kernel, by decide +kernel⟩
section
variable {P : Program} {w : World} {K : PySem.W.Frag} {mg : Str → Option Value} {base : Heap} {fD : Addr} {fdD : FuncData}
theorem ok_lo0 {f : Addr} {fd : FuncData} (F : Fun K "_law_loose" "_law_loose" sLo f fd) (B : Bl mg) : FnOk P w K mg base CX0 1 f fd ["draws", "thing"] (spLo (Flat0 K) 0) := by
  refine F.ok scLo (fun vs H Q E h => ?_) (fun cdv A outer s H vs Q E hr h => ?_)
  · obtain ⟨a, v, x, n, Z, rfl, _⟩ := h
    rfl
  obtain ⟨a, v, x, n, Z, rfl, hs, hn, za, hz, ⟨rfl, t, ty, kt, st⟩, q⟩ := h
  have nd := scLo.nd
  refine ⟨_, (pss_cons (by exact (ps_if (pt_val (pe_callB call_isiT rfl B.isi PyProof.Rows.boot_isinstance (pa_cons (pv 1) (pa_cons (pe_tup (pa_cons (pe_bltn (v := .ty "list") rfl B.list PyProof.Rows.boot_list rfl) (pa_cons (pe_bltn (v := .ty "tuple") rfl B.tuple PyProof.Rows.boot_tuple rfl) pa_nil))) pa_nil)))) (pss_cons (by exact (ps_never)) (pss_one (by exact (ps_never)))) pss_nil)) (pss_one (by exact (ps_ret (pv 1))))), ?_⟩
  refine ⟨_, rfl, (by show 2 ≤ sizeLine; decide), fun p hp => ?_⟩
  have e := K1.Same.upd (H := H) (p := p) (o := .tup [.ty "list", .ty "tuple"]) hp
  refine ⟨v, p, _, _, _, _, rfl, upd_same, .cons (.ty "list") (.cons (.ty "tuple") .nil), TyX.ext ty (wo_out.trans e), kit_seq kt, _, rfl, ?_⟩
  rw [st]
  refine iteF ⟨_, rfl, q _ _ (Kept.same e) (hs.same e) ⟨rfl, t, TyX.ext ty (wo_same fun b o _ h => e b o h), kt, st⟩⟩
theorem ok_lo {α : Type} {R : Rel α} {c k : Nat} {f : Addr} {fd : FuncData} (mon : MonR R) (F : Fun K "_law_loose" "_law_loose" sLo f fd) (B : Bl mg) (mF : mg "_law_loose" = some (.ref f)) (b : Binds K fd ["draws", "thing"] [])
    (GD : FnOk P w K mg base CX0 1 fD fdD ["draws", "many"] spDraw) (bD : Binds K fdD ["draws", "many"] []) (kD : PySem.W.keepIn K (.ref fD) = true) (mD : mg "_law_draw" = some (.ref fD))
    (hk : 1 ≤ k) (G : FnOk P w K mg base CX0 k f fd ["draws", "thing"] (spLo R c)) : FnOk P w K mg base CX0 (k + 1) f fd ["draws", "thing"] (spLo (SeqR R) (60 * c + 1)) := by
  refine F.ok scLo (fun vs H Q E h => ?_) (fun cdv A outer s H vs Q E hr h => ?_)
  · obtain ⟨a, v, x, n, Z, rfl, _⟩ := h
    rfl
  obtain ⟨a, v, xs, n, Z, rfl, hs, hn, za, hz, ⟨vs, sv, hl, pv_⟩, q⟩ := h
  have nd := scLo.nd
  have hr1 : Room 1 _ := hr.mono hk
  refine ⟨_, (pss_cons (by exact (ps_if (pt_val (pe_callB call_isiT rfl B.isi PyProof.Rows.boot_isinstance (pa_cons (pv 1) (pa_cons (pe_tup (pa_cons (pe_bltn (v := .ty "list") rfl B.list PyProof.Rows.boot_list rfl) (pa_cons (pe_bltn (v := .ty "tuple") rfl B.tuple PyProof.Rows.boot_tuple rfl) pa_nil))) pa_nil)))) (pss_cons (by exact (ps_setLc (i := 2) (own := [("part", 3)]) (g := gName 3) (tt := tYes) rfl nd rfl rfl (sw_true rfl rfl rfl (by decide +kernel)) (by exact pi_seqV 1 (pv 1)) (by exact blkOk_by (N := ["draws", "thing", "found", "part"]) (sc := defScope sLo) (by decide +kernel)) (fun _ _ _ _ _ => by exact (pg_name (i := 3) nd rfl (.inl rfl))) (fun _ _ _ _ _ => by exact pts_nil) (fun _ _ _ _ _ => by exact (pe_call G hr rfl mF F.kp b .nil pass0 (pa_cons (pv 0) (pa_cons (pv 3) pa_nil)))))) (pss_one (by exact (ps_ret (pe_ifExp (pt_cmpR op_eq (pe_call GD hr1 rfl mD kD bD .nil pass0 (pa_cons (pv 0) (pa_cons pe_int pa_nil))) pe_int (nomark _)) (pv 2) (pe_callTy call_tuple_of rfl B.tuple PyProof.Rows.boot_tuple (pa_cons (pv 2) pa_nil))))))) pss_nil)) (pss_one (by exact (ps_never)))), ?_⟩
  obtain ⟨t, ty, kt, st⟩ := sv.ty (K := K)
  refine ⟨_, rfl, (by show 2 ≤ sizeLine; decide), fun p hp => ?_⟩
  have e := K1.Same.upd (H := H) (p := p) (o := .tup [.ty "list", .ty "tuple"]) hp
  refine ⟨v, p, _, _, _, _, rfl, upd_same, .cons (.ty "list") (.cons (.ty "tuple") .nil), TyX.ext ty (wo_out.trans e), kit_seq kt, _, rfl, ?_⟩
  rw [st]
  refine iteT ?_
  have hs1 := hs.same e
  have kp1 : Kept a H (L2.upd H p (.tup [.ty "list", .ty "tuple"])) := Kept.same e
  generalize L2.upd H p (.tup [.ty "list", .ty "tuple"]) = H1 at e hs1 kp1 ⊢
  obtain ⟨pv0, rfl, hpv⟩ := id sv
  have hpz : ¬ Z pv0 := hpv.elim (fun h => (wo_some.mp h).1) (fun h => (wo_some.mp h).1)
  have pva : pv0 ≠ a := fun z => hpz (by rw [z]; exact za)
  have hpv1 : H1 pv0 = some (.lst vs) ∨ H1 pv0 = some (.tup vs) := hpv.imp (fun h => e _ _ (wo_some.mp h).2) (fun h => e _ _ (wo_some.mp h).2)
  refine ⟨pv0, vs, rfl, hpv1.imp (fun h => SqL.of h) (fun h => SqT.of h), fun J Gw wk hG D hD => ?_⟩
  have Da := hs1.ne hD
  have DH : H D = none := e.free hD
  have lvs : vs.length = xs.length := pv_.length
  have nzD : ¬ Z D := fun z => hz D z DH
  refine lc_it wk (fun i Hc => Kept a H1 Hc ∧ Spr Hc a (n + c * i) ∧ ∃ acc, Hc D = some (.lst acc) ∧ acc.length = i ∧ Paired (R (wo (fun z => Z z ∨ z = D) Hc)) acc (xs.take i)) ⟨Kept.new hD, (hs1.upd Da).mono (by omega), [], upd_same, rfl, .nil⟩ (fun i Hc _ h => hG Hc fun o ho => h.1 _ _ pva ho) ?_ ?_
  · rintro i y Hc H' hi ⟨c1, c2, acc, c3, c4, c5⟩ ⟨rfl, hy⟩
    have hi2 : i < xs.length := by omega
    obtain ⟨y', ey, ry⟩ := paired_get pv_ hi2
    have : y' = y := Option.some.inj (ey.symm.trans hy)
    subst this
    refine ⟨rfl, ?_⟩
    unfold tYes
    refine iteT ?_
    have sm : Same (wo Z H) (wo (fun z => Z z ∨ z = D) H') := fun b o eb => by
      obtain ⟨n1, e1⟩ := wo_some.mp eb
      refine wo_some.mpr ⟨fun z => z.elim n1 fun z => ?_, c1 _ _ (fun z => n1 (by rw [z]; exact za)) (e _ _ e1)⟩
      rw [z, DH] at e1
      cases e1
    have hci : c * i + c ≤ c * 60 := by
      have : c * (i + 1) ≤ c * 60 := Nat.mul_le_mul (Nat.le_refl c) (by omega)
      rwa [Nat.mul_add, Nat.mul_one] at this
    refine ⟨_, rfl, _, rfl, a, y', xs[i], n + c * i, fun z => Z z ∨ z = D, rfl, c2, by omega, .inl za, fun z zz => ?_, mon _ _ _ _ sm ry, fun y2 H6 k6 s6 r6 => ?_⟩
    · rcases zz with zz | rfl
      · intro q0
        by_cases z1 : z = a
        · rw [z1] at q0
          exact c2.kept q0
        · exact hz z zz (fr_kept (kp1.trans c1) q0 z1)
      · rw [c3]
        exact Option.some_ne_none _
    · have sD : ∀ acc', Same (wo (fun z => Z z ∨ z = D) H6) (wo (fun z => Z z ∨ z = D) (L2.upd H6 D acc')) := fun acc' => wo_same fun b o nb eb => by
        rw [upd_ne (fun z => nb (.inr z))]
        exact eb
      have c3' := k6 _ _ Da c3
      refine ⟨acc, c3', by rw [c4]; exact small1000 (by omega), fun b o nb eb => ?_, (s6.upd Da).mono (by rw [Nat.mul_add, Nat.mul_one]; omega), acc ++ [y2], upd_same, by rw [List.length_append, c4]; rfl, ?_⟩
      · rw [upd_ne (ne_of_none eb hD)]
        exact k6 b o nb (c1 b o nb eb)
      · rw [List.take_add_one, List.getElem?_eq_getElem hi2]
        have s36 : Same (wo (fun z => Z z ∨ z = D) H') (wo (fun z => Z z ∨ z = D) H6) := wo_same fun b o nb eb => k6 b o (fun z => nb (.inl (by rw [z]; exact za))) eb
        have pz : ∀ {as : List V} {bs : List α}, Paired (R (wo (fun z => Z z ∨ z = D) H')) as bs → Paired (R (wo (fun z => Z z ∨ z = D) (L2.upd H6 D (.lst (acc ++ [y2]))))) (as ++ [y2]) (bs ++ [xs[i]]) := by
          intro as bs h
          induction h with
          | nil => exact .cons (mon _ _ _ _ (sD _) r6) .nil
          | cons f1 f2 ih => exact .cons (mon _ _ _ _ (s36.trans (sD _)) f1) ih
        exact pz c5
  · rintro Hc ⟨c1, c2, acc, c3, c4, c5⟩
    rw [lvs, List.take_length] at c5
    have hcl : c * vs.length ≤ 60 * c := by rw [Nat.mul_comm]; exact Nat.mul_le_mul (by omega) (Nat.le_refl c)
    refine ⟨_, rfl, a, 2, _, rfl, c2, by omega, by decide, by decide, fun d H6 d0 d1 k6 s6 => ⟨rfl, _, rfl, ?_⟩⟩
    have c36 := k6 _ _ Da c3
    have kall : Kept a H H6 := kp1.trans (c1.trans k6)
    have s6' : Spr H6 a (n + (60 * c + 1)) := s6.mono (by omega)
    have fin : ∀ Hf, Same H6 Hf → Paired (R (wo Z Hf)) acc xs := fun Hf ef => paired_imp (fun _ _ r => mon _ _ _ _ (Same.trans (wo_le fun b z => .inl z) (wo_same fun b o nb eb => ef _ _ (k6 b o (fun z => nb (by rw [z]; exact za)) eb))) r) c5
    refine ite2 (fun cc => ?_) (fun cc => ?_)
    rotate_left
    · refine ⟨_, rfl, D, acc, rfl, .inl ⟨SqL.of c36, fun u hu => ?_⟩⟩
      have eu := K1.Same.upd (o := .tup acc) hu
      have ua := s6.ne hu
      exact q (.ref u) _ (kall.trans (Kept.new hu)) (s6'.same eu) ⟨acc, ⟨u, rfl, .inr (wo_some.mpr ⟨fun z => hz u z (fr_kept kall hu ua), upd_same⟩)⟩, hl, fin _ eu⟩
    · exact ⟨_, rfl, q (.ref D) _ kall s6' ⟨acc, ⟨D, rfl, .inl (wo_some.mpr ⟨nzD, c36⟩)⟩, hl, fin _ (Same.refl _)⟩⟩
end
end K1
end
-- WEndG
section
set_option Elab.async false
set_option linter.all false
set_option maxRecDepth 100000
set_option maxHeartbeats 2000000
/-! the end of a law that shows (promise Wr.FnG), with one table of lambdas -/
namespace Wr
open PySem PySem.Spec PyProof.Rows L2 LamX
/-- at the law's own call: the table is empty, the script is a list of the head (fixed) or the call's own (tracked, frozen) -/
noncomputable def H1 (K : PySem.W.Frag) (T a : Addr) (us : List Value) (zs : List Int) : Hp := fun b =>
  if b = T then some (.tbl #[]) else if b = a ∧ K.lookup a = none then some (.frz { cls := .type "list", data := .seq us.toArray } (.lst (zs.map V.int))) else none
section
variable {K : PySem.W.Frag} {T a : Addr} {us : List Value} {zs : List Int}
theorem H1_T : H1 K T a us zs T = some (.tbl #[]) := if_pos rfl
theorem H1_a (n : a ≠ T) (l : K.lookup a = none) : H1 K T a us zs a = some (.frz { cls := .type "list", data := .seq us.toArray } (.lst (zs.map V.int))) := (if_neg n).trans (if_pos ⟨rfl, l⟩)
theorem H1_any {b : Addr} {o : HO} (h : H1 K T a us zs b = some o) : (b = T ∧ o = .tbl #[]) ∨ (b = a ∧ b ≠ T ∧ K.lookup a = none ∧ o = .frz { cls := .type "list", data := .seq us.toArray } (.lst (zs.map V.int))) := by
  unfold H1 at h
  by_cases c : b = T
  · rw [if_pos c] at h
    exact .inl ⟨c, (Option.some.inj h).symm⟩
  · rw [if_neg c] at h
    by_cases d : b = a ∧ K.lookup a = none
    · rw [if_pos d] at h
      exact .inr ⟨d.1, c, d.2, (Option.some.inj h).symm⟩
    · rw [if_neg d] at h
      cases h
end
theorem end_call {P : Program} {w : World} {K : PySem.W.Frag} {mg mb : Str → Option Value} {CX : CXT} {k : Nat} {fa a c T : Addr} {fd : FuncData} {x : Str} {sp : Sp} {s : Shared} {us : List Value} {zs : List Int}
    (kin : K.In s.heap) (nsG : s.heap.Ns mainGlobals mg) (nsB : s.heap.Ns builtinsNs mb) (mbB : ∀ x : Str, x ≠ "__name__" → mb x = bootBuiltins x) (lim : s.heap.NoLimit) (gens : s.gens = #[])
    (gT : s.heap.get? T = some { cls := .none, data := .fields #[] }) (lT : K.lookup T = none) (cT : PySem.W.CodeHd s.heap c T)
    (mod : ∃ (bm : Addr) (ob : Obj), mg "__builtins__" = some (.ref bm) ∧ bm ≠ builtinsNs ∧ s.heap.get? bm = some ob ∧ ob.cls = .type "module" ∧ ob.dict = some builtinsNs ∧ ob.data = .plain)
    (gA : s.heap.get? a = some { cls := .type "list", data := .seq us.toArray }) (isI : IntsAre us zs) (lz : zs.length ≤ sizeLine) (room : Room k callerA)
    (F : ∀ base : Heap, K.In base → base.Ns mainGlobals mg → TabB base mg c T → FnG P w K mg base CX k fa fd [x] sp) (bnd : ∀ (s : Shared) (u : Value), BindsTo s fd ⟨[u], []⟩ [(x, u)])
    (pre : ∀ H : Hp, H T = some (.tbl #[]) → SqL K H a (zs.map V.int) → sp [.ref a] H (fun v _ => v = .bl true) fun _ _ _ => False) (noX : ∀ H e s', CX [] H s (fun _ _ _ => False) e s' → False) :
    codeAny (model P w) callerA (.call (.ref fa) ⟨[.ref a], []⟩) (fun r t => r = .ok (.ret (.bool true)) ∧ OldK s.heap t.heap ∧ t.os = s.os ∧ AllBare t.gens) s := by
  have cT0 := cT
  have aT : a ≠ T := fun z => by
    rw [z, gT] at gA
    cases (congrArg Obj.data (Option.some.inj gA) : Data.fields #[] = Data.seq us.toArray 0)
  have vals := vals_ints isI
  have lu := isI.length
  generalize hH : H1 K T a us zs = H
  have HT : H T = some (.tbl #[]) := by rw [← hH]; exact H1_T
  have any : ∀ {b : Addr} {o : HO}, H b = some o → (b = T ∧ o = .tbl #[]) ∨ (b = a ∧ b ≠ T ∧ K.lookup a = none ∧ o = .frz { cls := .type "list", data := .seq us.toArray } (.lst (zs.map V.int))) := fun h => by
    rw [← hH] at h
    exact H1_any h
  have script : SqL K H a (zs.map V.int) := by
    cases hk : K.lookup a with
    | none => exact .inl (.inr ⟨_, by rw [← hH]; exact H1_a aT hk⟩)
    | some o =>
      have e := (kin a o hk).symm.trans gA
      cases e
      exact .inr ⟨_, us.toArray, _, hk, rfl, rfl, rfl, by rw [List.size_toArray, lu]; exact lz, by simpa using vals⟩
  have good : HOk P w H s.heap := fun b u h => by
    rcases any h with ⟨rfl, rfl⟩ | ⟨rfl, _, _, rfl⟩
    · exact gT
    · exact ⟨gA, by rw [List.length_map]; exact lz, us, _, vals, gA⟩
  -- what is neither the table nor a list is untracked
  have off : ∀ {b : Addr} {o : Obj}, s.heap.get? b = some o → o.data ≠ .fields #[] → (∀ vs n, o.data ≠ .seq vs n) → H b = none := fun {b o} e n1 n2 => by
    cases q : H b with
    | none => rfl
    | some u =>
      rcases any q with ⟨rfl, _⟩ | ⟨rfl, _, _, _⟩
      · exact absurd (congrArg Obj.data (Option.some.inj (e.symm.trans gT))) n1
      · exact absurd (congrArg Obj.data (Option.some.inj (e.symm.trans gA))) (n2 _ _)
  have keepD : ∀ {b : Addr} {m : Str → Option Value}, s.heap.Ns b m → (hidT s.heap H).Ns b m := fun {b m} ⟨o, es, ep, e, d, r⟩ =>
    ⟨o, es, ep, hidT_get e (off e (fun z => by rw [d] at z; cases z) fun _ _ z => by rw [d] at z; cases z), d, r⟩
  have kinB : K.In (hidT s.heap H) := fun b o e => hidT_get (kin b o e) (by
    cases q : H b with
    | none => rfl
    | some u =>
      rcases any q with ⟨rfl, _⟩ | ⟨rfl, _, l, _⟩
      · rw [lT] at e
        cases e
      · rw [l] at e
        cases e)
  have modl : L2.Mod K mg (hidT s.heap H) := by
    obtain ⟨mc, k1, k2⟩ := lim
    exact ⟨kinB, keepD nsG, ⟨mb, keepD nsB, mbB⟩, mc, keepD k1, k2⟩
  have tab : TabB (hidT s.heap H) mg c T := by
    obtain ⟨og, eg, ep, geg, dg, _⟩ := nsG
    obtain ⟨o, vs, fi, tf, fl, tg, iF, tx, tt, w1, w2, w3, w4, w5, w6, w7, w8, w9, w10⟩ := cT
    obtain ⟨bm, ob, v1, v2, v3, v4, v5, v6⟩ := mod
    refine ⟨⟨o, vs, fi, tf, fl, tg, iF, tx, tt, hidT_get w1 (off w1 (fun z => ?_) fun _ _ z => ?_), w2, w3, w4, w5, w6, w7, w8, w9, w10⟩, ⟨bm, ob, v1, v2, fun z => ?_, fun z => ?_, hidT_get v3 (off v3 (fun z => ?_) fun _ _ z => ?_), v4, v5, v6⟩, fun z => ?_⟩
    · obtain rfl := Data.fields.inj (w3.symm.trans z)
      simp at w4
    · cases w3.symm.trans z
    · rw [z] at v3
      obtain rfl := Option.some.inj (v3.symm.trans geg)
      rw [v6] at dg
      cases dg
    · rw [z] at v3
      obtain rfl := Option.some.inj (v3.symm.trans gT)
      cases v6
    · rw [v6] at z
      cases z
    · rw [v6] at z
      cases z
    · rw [z] at geg
      obtain rfl := Option.some.inj (geg.symm.trans gT)
      cases dg
  have env : Env0 P w K mg (hidT s.heap H) callerA [] s H := ⟨rfl, modl, fun b o e => of_hidT e, Nat.le_of_eq (hidT_size _ _), trivial, fun b hb => (nomatch (show b ∈ ([] : List Addr) from hb)), good, .of_eq gens⟩
  have run := (F _ kinB (keepD nsG) tab).go callerA [] s H ⟨[.ref a], []⟩ [.ref a] [.ref a] _ _ rfl room env (bnd s (.ref a)) (.cons rfl .nil) (pre H HT script)
  refine codeAny_mono run fun r t h => ?_
  match r, h with
  | .error e, h => exact (noX H e t h).elim
  | .ok .next, h => exact h.elim
  | .ok .brk, h => exact h.elim
  | .ok .cont, h => exact h.elim
  | .ok (.ret u), ⟨v, H2, os, bare, un, good2, rel, tr⟩ =>
    obtain rfl : v = .bl true := tr
    obtain rfl : u = Value.bool true := rel
    obtain ⟨more, mT⟩ := un.tbls T #[] HT
    have gT2 : t.heap.get? T = some { cls := .none, data := .fields (#[] ++ more) } := good2 T _ mT
    have same : ∀ b o, b ≠ T → s.heap.get? b = some o → t.heap.get? b = some o := fun b o bT e => by
      cases q : H b with
      | none => exact un.keep b o e q (fun z => nomatch (show b ∈ ([] : List Addr) from z)) (by simp)
      | some u =>
        rcases any q with ⟨z, _⟩ | ⟨rfl, _, _, rfl⟩
        · exact absurd z bT
        · obtain ⟨e2, _⟩ := good2 b _ (un.frzs b _ _ q)
          rw [gA] at e
          rw [← e]
          exact e2
    refine ⟨rfl, ⟨fun d u e => ?_, fun d u e => ?_⟩, os, bare⟩
    · by_cases bT : d = T
      · subst bT
        obtain rfl := Option.some.inj (e.symm.trans gT)
        exact .inr (.inl ⟨(cT0.tab gT).isCodeTable, rfl, #[], more, rfl, gT2⟩)
      · exact .inl (same d u bT e)
    · by_cases bT : d = T
      · subst bT
        exact ⟨_, gT2⟩
      · exact ⟨u, same d u bT e⟩
/-- what is to be shown of a law with one table of lambdas, at the head's heap -/
def LawG (l : PySem.W.OpenLaw) (w : World) (K : PySem.W.Frag) (CX : CXT) (k n : Nat) (x : Str) (mg : Str → Option Value) (fa : Addr) (h : Heap) : Prop :=
  ∃ (fd : FuncData) (c T : Addr) (sp : Sp), h.get? T = some { cls := .none, data := .fields #[] } ∧ K.lookup T = none ∧ PySem.W.CodeHd h c T ∧ (∀ (s : Shared) (u : Value), BindsTo s fd ⟨[u], []⟩ [(x, u)]) ∧
    (∀ (H : Hp) (a : Addr) (zs : List Int), zs.length ≤ n → H T = some (.tbl #[]) → SqL K H a (zs.map V.int) → sp [.ref a] H (fun v _ => v = .bl true) fun _ _ _ => False) ∧
    ∀ base : Heap, K.In base → base.Ns mainGlobals mg → TabB base mg c T → FnG l.prog w K mg base CX k fa fd [x] sp
theorem walk_G {l : PySem.W.OpenLaw} {n k : Nat} {q : Program} {loose : List Str} {XP : (Str → Option Value) → Heap → Prop} {YP : World → Heap → Prop} {d : DefRec} {K : Params → PySem.W.Frag} {CX : World → CXT} {x : Str}
    (mo : l.most = some n) (n1 : n ≤ sizeLine) (df : d.params.defaults = []) (room : Room k callerA) (yk : ∀ (w : World) (h : Heap), YP w h → (K w.params).In h)
    (at_ : ∀ (w : World) (mg : Str → Option Value) (fa : Addr) (h : Heap), YP w h → (K w.params).In h → h.Ns mainGlobals mg → mg d.name = some (.ref fa) → LawG l w (K w.params) (CX w) k n x mg fa h)
    (noX : ∀ (w : World) (H : Hp) (s : Shared) (e : Value) (t : Shared), CX w [] H s (fun _ _ _ => False) e t → False) : PySem.W.WalkO q loose XP YP l.row.toRowW d [] (fun f vs => PySem.call f vs) := by
  refine Att.attach_callB mo df fun w s₀ s mg mb fa o pm cd doc a us zs G Y ho hd hcd main obj isI len bits gens => ?_
  have kin := yk w _ Y
  obtain ⟨fd, c, T, sp, t1, t2, t3, bnd, pre, F⟩ := at_ w mg fa _ Y kin G.T.g main
  exact end_call kin G.T.g G.T.b G.T.builtins G.T.nolimit gens t1 t2 t3 G.T.bmain obj isI (Nat.le_trans len n1) room F bnd (fun H => pre H a zs len) fun H e t => noX w H s e t
end Wr
end
-- EPl2
section
set_option Elab.async false
set_option linter.all false
set_option maxRecDepth 100000
set_option maxHeartbeats 1000000
namespace K1
open PySem PySem.Spec PyProof.Rows L2 W0
theorem scCl : FnScope ["self", "evening"] ["self", "evening"] (defScope sCl) := ⟨rfl, rfl, rfl, by decide +kernel, rfl, by decide +kernel, by decide +kernel⟩
section
variable {P : Program} {w : World} {K : PySem.W.Frag} {mg : Str → Option Value} {base : Heap} {CF C CN CO CC : Addr}
theorem ok_Ep {f fB fR : Addr} {fd bd rd : FuncData} (F : Fun K "evening_places" "evening_places" sEp f fd) (B : Bl mg) (T : VcT K C)
    (GB : FnOk P w K mg base CX0 5 fB bd ["valley", "thing"] (spBg K C)) (bB : Binds K bd ["valley", "thing"] []) (kB : PySem.W.keepIn K (.ref fB) = true) (mB : mg "begun_places" = some (.ref fB))
    (GR : FnOk P w K mg base CX0 1 fR rd ["self"] (spRo C)) (hR : Meth K C "roads" fR) (bR : Binds K rd ["self"] []) : FnOk P w K mg base CX0 6 f fd ["valley", "thing"] (spEp K C) := by
  refine F.ok scEp (fun vs H Q E h => ?_) (fun cdv A outer s H vs Q E hr h => ?_)
  · obtain ⟨x, v, ss, rs, ns, rfl, _⟩ := h
    rfl
  obtain ⟨x, v, ss, rs, ns, rfl, iv, he, h⟩ := h
  have nd := scEp.nd
  have hr1 : Room 1 _ := hr.mono (by decide)
  refine ⟨_, pss_cons (by exact (ps_set (i := 2) nd rfl (.inl rfl) (pe_call GB hr rfl mB kB bB .nil pass0 (pa_cons (pv 0) (pa_cons (pv 1) pa_nil)))))
    (pss_cons (by exact (ps_if (PW.pt (pw_or (pt_cmpR op_isN (pv 2) pe_non (nomark _)) (pw_or1 (pt_cmpR op_ne (pe_callB call_len_seq rfl B.len PySem.boot_len (pa_cons (pv 2) pa_nil)) (pe_callB call_len_seq rfl B.len PySem.boot_len (pa_cons (pe_meth0 (pv 0) T.cl hR GR hr1 bR .nil pass0) pa_nil)) (nomark _))))) (pss_one (by exact (ps_ret pe_non))) pss_nil))
    (pss_one (by exact (ps_ret (pv 2))))), ?_⟩
  have good : ∀ js, BegV H rs v js → (∀ p H', Same H H' → H p = none → H' p = some (.lst (intsV js)) → if js.length = rs.length then Q (.ref p) H' else Q .non H') → _ := fun js b q => (⟨js, b, q⟩ : ∃ js, BegV H rs v js ∧ ∀ p H', Same H H' → H p = none → H' p = some (.lst (intsV js)) → if js.length = rs.length then Q (.ref p) H' else Q .non H')
  have go : (∃ js, BegV H rs v js ∧ ∀ p H', Same H H' → H p = none → H' p = some (.lst (intsV js)) → if js.length = rs.length then Q (.ref p) H' else Q .non H') ∨ (NoBeg K H ss rs v ∧ ∀ H', Same H H' → Q .non H') := by
    rcases h with ⟨js, ⟨b, l⟩, q⟩ | ⟨n | ⟨js, b, l⟩, q⟩
    · exact .inl ⟨js, b, fun p H' e n g => by rw [if_pos l]; exact q p H' e n g⟩
    · exact .inr ⟨n, q⟩
    · exact .inl ⟨js, b, fun p H' e n g => by rw [if_neg l]; exact q H' e⟩
  rcases go with ⟨js, b, q⟩ | ⟨n, q⟩
  · refine ⟨_, rfl, _, rfl, x, v, ss, rs, ns, rfl, iv, he, .inl ⟨js, b, fun p H1 e1 np gp => ?_⟩⟩
    refine K1.gN ?_
    obtain ⟨dx, fx, ix, f0⟩ := (iv.same e1).inst
    refine ⟨_, rfl, rfl, _, rfl, iteF ?_⟩
    refine ⟨_, rfl, p, _, rfl, .inl (SqL.of gp), ?_⟩
    refine ⟨_, rfl, x, dx, fx, rfl, ix, f0 _ (by decide +kernel), x, ss, rs, ns, rfl, iv.same e1, fun l qs hl pq => ?_⟩
    have e2 := K1.Same.upd (H := H1) (p := l) (o := .lst (qs.map V.ref)) hl
    have gl := upd_same' H1 l (.lst (qs.map V.ref))
    generalize L2.upd H1 l (.lst (qs.map V.ref)) = H2 at e2 gl ⊢
    refine ⟨l, _, rfl, .inl (SqL.of gl), rfl, ?_⟩
    have z := q p H2 (e1.trans e2) np (e2 _ _ gp)
    have ne : decide (V.int ((intsV js).length : Int) = V.int ((qs.map V.ref).length : Int)) = decide (js.length = rs.length) := by
      refine decide_eq_decide.mpr ?_
      have l1 : (intsV js).length = js.length := List.length_map ..
      have l2 : (qs.map V.ref).length = rs.length := by rw [List.length_map, pq.length]
      rw [l1, l2]
      exact ⟨fun q => by have := V.int.inj q; omega, fun q => by rw [q]⟩
    refine ⟨_, congrArg (fun b => V.bl (!b)) ne, ?_⟩
    by_cases nj : js.length = rs.length
    · rw [if_pos nj] at z
      rw [decide_eq_true nj]
      exact iteF ⟨_, rfl, z⟩
    · rw [if_neg nj] at z
      rw [decide_eq_false nj]
      exact iteT z
  · refine ⟨_, rfl, _, rfl, x, v, ss, rs, ns, rfl, iv, he, .inr ⟨n, fun H1 e1 => ?_⟩⟩
    exact K1.gN ⟨_, rfl, rfl, _, rfl, iteT (iteT (q H1 e1))⟩
theorem ok_iCl {f C : Addr} {fd : FuncData} (F : Fun K "__init__" "BadEvening.__init__" sCl f fd) (T : FeC K mg CF) (TC : ErF K mg "BadEvening" C f ["evening"]) : FnOk P w K mg base CX0 1 f fd ["self", "evening"] (spEr1 C "evening") := by
  refine F.ok scCl (fun vs H Q E h => ?_) (fun cdv A outer s H vs Q E hr h => ?_)
  · obtain ⟨a, v, rfl, _⟩ := h
    rfl
  obtain ⟨a, v, rfl, ha, q⟩ := h
  refine ⟨_, pss_cons (by exact ps_expr (pe_feinit rfl T (pa_cons (pv 0) (pa_cons pe_str pa_nil)))) (pss_one (by exact ps_ost (pv 0) (pv 1))), ?_⟩
  refine ⟨_, rfl, a, C, [.str _], rfl, (by decide), TC.ox, ha, _, rfl, _, rfl, a, C, rfl, TC.ox, TC.no _ (by simp), .inl ⟨ha, fun d hd n => q d hd n⟩⟩
theorem ok_Cg {f fB fE : Addr} {fd bd ed : FuncData} (F : Fun K "need_evening" "need_evening" sCg f fd)
    (GB : FnOk P w K mg base CX0 6 fB bd ["valley", "thing"] (spEp K C)) (bB : Binds K bd ["valley", "thing"] []) (kB : PySem.W.keepIn K (.ref fB) = true) (mB : mg "evening_places" = some (.ref fB))
    (TF : FeC K mg CF) (TC : ErF K mg "BadEvening" CC fE ["evening"]) (FE : Fun K "__init__" "BadEvening.__init__" sCl fE ed) (bE : Binds K ed ["self", "evening"] []) : FnOk P w K mg base (L2.CX P w) 7 f fd ["valley", "evening"] (spCg K C CC) := by
  have GE := ok_iCl (P := P) (w := w) (base := base) FE TF TC
  refine F.okX scCg (fun vs H Q E h => ?_) (fun cdv A outer s H vs Q E hr h => ?_)
  · obtain ⟨x, v, ss, rs, ns, rfl, _⟩ := h
    rfl
  obtain ⟨x, v, ss, rs, ns, rfl, iv, he, h⟩ := h
  have nd := scCg.nd
  have hr2 : Room 2 _ := hr.mono (by decide)
  refine ⟨_, pss_cons (by exact (ps_set (i := 2) nd rfl (.inl rfl) (pe_call GB hr rfl mB kB bB .nil pass0 (pa_cons (pv 0) (pa_cons (pv 1) pa_nil)))))
    (pss_cons (by exact (ps_if (pt_cmpR op_isN (pv 2) pe_non (nomark _)) (pss_one (by exact (ps_raise rfl (takes_of rfl rfl rfl rfl) (pmk_oex TC.ox TC.ini TC.ty GE hr2 bE .nil pass0 rfl TC.m (pa_cons (pv 1) pa_nil))))) pss_nil))
    (pss_one (by exact (ps_ret (pv 2))))), ?_⟩
  rcases h with ⟨js, b, q⟩ | ⟨n, g⟩
  · refine ⟨_, rfl, _, rfl, x, v, ss, rs, ns, rfl, iv, he, .inl ⟨js, b, fun p H1 e1 np gp => ?_⟩⟩
    exact K1.gN ⟨_, rfl, rfl, _, rfl, iteF ⟨_, rfl, q p H1 e1 np gp⟩⟩
  · refine ⟨_, rfl, _, rfl, x, v, ss, rs, ns, rfl, iv, he, .inr ⟨n, fun H1 e1 => ?_⟩⟩
    exact K1.gN ⟨_, rfl, rfl, _, rfl, iteT ⟨_, rfl, (by show 1 ≤ 1000; decide), raise_one g e1⟩⟩
end
end K1
end
-- MEnd
section
set_option Elab.async false
set_option linter.all false
set_option maxRecDepth 100000
set_option maxHeartbeats 4000000
namespace K1
open PySem PySem.Spec PyProof.Rows L2 W0
theorem kb_Gl {K : PySem.W.Frag} {f : Addr} {fd : FuncData} (F : Fun K "gate_list" "gate_list" sGl f fd) : KBn K fd ["valley", "evening", "gate"] 0 ["gate", "evening", "valley"] kwR3v kwR3 := by
  obtain ⟨oc, od, kV, doc, pm, an, cv, ct, osl, rfl, lk, hc⟩ := F.ex
  refine ⟨fun s us ws KI l1 l2 => ?_, fun hus hws => ?_⟩
  · match us, ws, l1, l2 with
    | [], [b, c, d], _, _ => exact .of_eq rfl
  · exact .cons (vals_at hws 2) (.cons (vals_at hws 1) (.cons (vals_at hws 0) .nil))
theorem kb_Lb {K : PySem.W.Frag} {f : Addr} {fd : FuncData} (F : Fun K "lists_behind" "lists_behind" sLb f fd) : KBn K fd ["valley", "evening", "gate", "many"] 0 ["many", "gate", "evening", "valley"] kwR4v kwR4 := by
  obtain ⟨oc, od, kV, doc, pm, an, cv, ct, osl, rfl, lk, hc⟩ := F.ex
  refine ⟨fun s us ws KI l1 l2 => ?_, fun hus hws => ?_⟩
  · match us, ws, l1, l2 with
    | [], [b, c, d, e], _, _ => exact .of_eq rfl
  · exact .cons (vals_at hws 3) (.cons (vals_at hws 2) (.cons (vals_at hws 1) (.cons (vals_at hws 0) .nil)))
theorem kb_Hs {K : PySem.W.Frag} {f : Addr} {fd : FuncData} (F : Fun K "hands" "hands" sHs f fd) : KBn K fd ["valley", "evening", "gate", "house"] 0 ["house", "gate", "evening", "valley"] kwR4v kwR4 := by
  obtain ⟨oc, od, kV, doc, pm, an, cv, ct, osl, rfl, lk, hc⟩ := F.ex
  refine ⟨fun s us ws KI l1 l2 => ?_, fun hus hws => ?_⟩
  · match us, ws, l1, l2 with
    | [], [b, c, d, e], _, _ => exact .of_eq rfl
  · exact .cons (vals_at hws 3) (.cons (vals_at hws 2) (.cons (vals_at hws 1) (.cons (vals_at hws 0) .nil)))
theorem all_of_kit {K : PySem.W.Frag} {C : Addr} (h : ((kinds ++ ["function"]).all fun t => PySem.W.kitOne K (.type t) (.ref C) == some false) = true) : ∀ t ∈ kinds ++ ["function"], PySem.W.kitOne K (.type t) (.ref C) = some false := fun t ht => beq_iff_eq.mp (List.all_eq_true.mp h t ht)

theorem all_mk {l : PySem.W.OpenLaw} {w : World} {K : PySem.W.Frag} {h : Heap} {mg : Str → Option Value} {fa : Addr}
    {cd_isInt : Value}
    {f_isInt : Addr} {od_isInt an_isInt : Option Addr} {sl_isInt : Array (Option Value)} {oc_isInt kV_isInt dc_isInt pm_isInt ct_isInt : Value}
    {cd_isNum : Value}
    {f_isNum : Addr} {od_isNum an_isNum : Option Addr} {sl_isNum : Array (Option Value)} {oc_isNum kV_isNum dc_isNum pm_isNum ct_isNum : Value}
    {cd_fromOne : Value}
    {f_fromOne : Addr} {od_fromOne an_fromOne : Option Addr} {sl_fromOne : Array (Option Value)} {oc_fromOne kV_fromOne dc_fromOne pm_fromOne ct_fromOne : Value}
    {cd_isList : Value}
    {f_isList : Addr} {od_isList an_isList : Option Addr} {sl_isList : Array (Option Value)} {oc_isList kV_isList dc_isList pm_isList ct_isList : Value}
    {cd_isPair : Value}
    {f_isPair : Addr} {od_isPair an_isPair : Option Addr} {sl_isPair : Array (Option Value)} {oc_isPair kV_isPair dc_isPair pm_isPair ct_isPair : Value}
    {cd_isName : Value}
    {f_isName : Addr} {od_isName an_isName : Option Addr} {sl_isName : Array (Option Value)} {oc_isName kV_isName dc_isName pm_isName ct_isName : Value}
    {cd_draw : Value}
    {f_draw : Addr} {od_draw an_draw : Option Addr} {sl_draw : Array (Option Value)} {oc_draw kV_draw dc_draw pm_draw ct_draw : Value}
    {cd_pick : Value}
    {f_pick : Addr} {od_pick an_pick : Option Addr} {sl_pick : Array (Option Value)} {oc_pick kV_pick dc_pick pm_pick ct_pick : Value}
    {cd_mixed : Value}
    {f_mixed : Addr} {od_mixed an_mixed : Option Addr} {sl_mixed : Array (Option Value)} {oc_mixed kV_mixed dc_mixed pm_mixed ct_mixed : Value}
    {cd_ND : Value}
    {f_ND : Addr} {od_ND an_ND : Option Addr} {sl_ND : Array (Option Value)} {oc_ND kV_ND dc_ND pm_ND ct_ND : Value}
    {cd_NH : Value}
    {f_NH : Addr} {od_NH an_NH : Option Addr} {sl_NH : Array (Option Value)} {oc_NH kV_NH dc_NH pm_NH ct_NH : Value}
    {cd_NR : Value}
    {f_NR : Addr} {od_NR an_NR : Option Addr} {sl_NR : Array (Option Value)} {oc_NR kV_NR dc_NR pm_NR ct_NR : Value}
    {cd_keys : Value}
    {f_keys : Addr} {od_keys an_keys : Option Addr} {sl_keys : Array (Option Value)} {oc_keys kV_keys dc_keys pm_keys ct_keys : Value}
    {cd_lead : Value}
    {f_lead : Addr} {od_lead an_lead : Option Addr} {sl_lead : Array (Option Value)} {oc_lead kV_lead dc_lead pm_lead ct_lead : Value}
    {cd_BW : Value}
    {f_BW : Addr} {od_BW an_BW : Option Addr} {sl_BW : Array (Option Value)} {oc_BW kV_BW dc_BW pm_BW ct_BW : Value}
    {cd_NB : Value}
    {f_NB : Addr} {od_NB an_NB : Option Addr} {sl_NB : Array (Option Value)} {oc_NB kV_NB dc_NB pm_NB ct_NB : Value}
    {cd_Nv : Value}
    {f_Nv : Addr} {od_Nv an_Nv : Option Addr} {sl_Nv : Array (Option Value)} {oc_Nv kV_Nv dc_Nv pm_Nv ct_Nv : Value}
    {cd_Bg : Value}
    {f_Bg : Addr} {od_Bg an_Bg : Option Addr} {sl_Bg : Array (Option Value)} {oc_Bg kV_Bg dc_Bg pm_Bg ct_Bg : Value}
    {cd_Ep : Value}
    {f_Ep : Addr} {od_Ep an_Ep : Option Addr} {sl_Ep : Array (Option Value)} {oc_Ep kV_Ep dc_Ep pm_Ep ct_Ep : Value}
    {cd_Cg : Value}
    {f_Cg : Addr} {od_Cg an_Cg : Option Addr} {sl_Cg : Array (Option Value)} {oc_Cg kV_Cg dc_Cg pm_Cg ct_Cg : Value}
    {cd_Nm : Value}
    {f_Nm : Addr} {od_Nm an_Nm : Option Addr} {sl_Nm : Array (Option Value)} {oc_Nm kV_Nm dc_Nm pm_Nm ct_Nm : Value}
    {cd_Hn : Value}
    {f_Hn : Addr} {od_Hn an_Hn : Option Addr} {sl_Hn : Array (Option Value)} {oc_Hn kV_Hn dc_Hn pm_Hn ct_Hn : Value}
    {cd_Gl : Value}
    {f_Gl : Addr} {od_Gl an_Gl : Option Addr} {sl_Gl : Array (Option Value)} {oc_Gl kV_Gl dc_Gl pm_Gl ct_Gl : Value}
    {cd_Lb : Value}
    {f_Lb : Addr} {od_Lb an_Lb : Option Addr} {sl_Lb : Array (Option Value)} {oc_Lb kV_Lb dc_Lb pm_Lb ct_Lb : Value}
    {cd_Hs : Value}
    {f_Hs : Addr} {od_Hs an_Hs : Option Addr} {sl_Hs : Array (Option Value)} {oc_Hs kV_Hs dc_Hs pm_Hs ct_Hs : Value}
    {cd_src : Value}
    {f_src : Addr} {od_src an_src : Option Addr} {sl_src : Array (Option Value)} {oc_src kV_src dc_src pm_src ct_src : Value}
    {cd_VN : Value}
    {f_VN : Addr} {od_VN an_VN : Option Addr} {sl_VN : Array (Option Value)} {oc_VN kV_VN dc_VN pm_VN ct_VN : Value}
    {cd_Ro5 : Value}
    {f_Ro5 : Addr} {od_Ro5 an_Ro5 : Option Addr} {sl_Ro5 : Array (Option Value)} {oc_Ro5 kV_Ro5 dc_Ro5 pm_Ro5 ct_Ro5 : Value}
    {cd_He5 : Value}
    {f_He5 : Addr} {od_He5 an_He5 : Option Addr} {sl_He5 : Array (Option Value)} {oc_He5 kV_He5 dc_He5 pm_He5 ct_He5 : Value}
    {cd_Cs : Value}
    {f_Cs : Addr} {od_Cs an_Cs : Option Addr} {sl_Cs : Array (Option Value)} {oc_Cs kV_Cs dc_Cs pm_Cs ct_Cs : Value}
    {cd_lo : Value}
    {f_lo : Addr} {od_lo an_lo : Option Addr} {sl_lo : Array (Option Value)} {oc_lo kV_lo dc_lo pm_lo ct_lo : Value}
    {cd_VM : Value}
    {f_VM : Addr} {od_VM an_VM : Option Addr} {sl_VM : Array (Option Value)} {oc_VM kV_VM dc_VM pm_VM ct_VM : Value}
    {cd_sm : Value}
    {f_sm : Addr} {od_sm an_sm : Option Addr} {sl_sm : Array (Option Value)} {oc_sm kV_sm dc_sm pm_sm ct_sm : Value}
    {cd_met : Value}
    {f_met : Addr} {od_met an_met : Option Addr} {sl_met : Array (Option Value)} {oc_met kV_met dc_met pm_met ct_met : Value}
    {cd_Hd : Value}
    {f_Hd : Addr} {od_Hd an_Hd : Option Addr} {sl_Hd : Array (Option Value)} {oc_Hd kV_Hd dc_Hd pm_Hd ct_Hd : Value}
    {cd_Ne9 : Value}
    {f_Ne9 : Addr} {od_Ne9 an_Ne9 : Option Addr} {sl_Ne9 : Array (Option Value)} {oc_Ne9 kV_Ne9 dc_Ne9 pm_Ne9 ct_Ne9 : Value}
    {cd_Ou9 : Value}
    {f_Ou9 : Addr} {od_Ou9 an_Ou9 : Option Addr} {sl_Ou9 : Array (Option Value)} {oc_Ou9 kV_Ou9 dc_Ou9 pm_Ou9 ct_Ou9 : Value}
    {cd_Hd9 : Value}
    {f_Hd9 : Addr} {od_Hd9 an_Hd9 : Option Addr} {sl_Hd9 : Array (Option Value)} {oc_Hd9 kV_Hd9 dc_Hd9 pm_Hd9 ct_Hd9 : Value}
    {cd_Nv9 : Value}
    {f_Nv9 : Addr} {od_Nv9 an_Nv9 : Option Addr} {sl_Nv9 : Array (Option Value)} {oc_Nv9 kV_Nv9 dc_Nv9 pm_Nv9 ct_Nv9 : Value}
    {cd_No9 : Value}
    {f_No9 : Addr} {od_No9 an_No9 : Option Addr} {sl_No9 : Array (Option Value)} {oc_No9 kV_No9 dc_No9 pm_No9 ct_No9 : Value}
    {cd_Lg : Value}
    {f_Lg : Addr} {od_Lg an_Lg : Option Addr} {sl_Lg : Array (Option Value)} {oc_Lg kV_Lg dc_Lg pm_Lg ct_Lg : Value}
    {cd_Or : Value}
    {f_Or : Addr} {od_Or an_Or : Option Addr} {sl_Or : Array (Option Value)} {oc_Or kV_Or dc_Or pm_Or ct_Or : Value}
    {f_Rr : Addr} {od_Rr an_Rr : Option Addr} {sl_Rr : Array (Option Value)} {oc_Rr kV_Rr dc_Rr pm_Rr ct_Rr : Value}
    {cd_law : Value}
    {f_law : Addr} {od_law an_law : Option Addr} {sl_law : Array (Option Value)} {oc_law kV_law dc_law pm_law ct_law : Value}
    {C CF cRf TPR CH CR CD CN CO CV CC CM : Addr}
    {cd_VI : Value} {f_VI : Addr} {od_VI an_VI : Option Addr} {sl_VI : Array (Option Value)} {oc_VI kV_VI dc_VI pm_VI ct_VI : Value}
    {cd_Ho : Value} {f_Ho : Addr} {od_Ho an_Ho : Option Addr} {sl_Ho : Array (Option Value)} {oc_Ho kV_Ho dc_Ho pm_Ho ct_Ho : Value}
    {cd_Ro : Value} {f_Ro : Addr} {od_Ro an_Ro : Option Addr} {sl_Ro : Array (Option Value)} {oc_Ro kV_Ro dc_Ro pm_Ro ct_Ro : Value}
    {cd_Is : Value} {f_Is : Addr} {od_Is an_Is : Option Addr} {sl_Is : Array (Option Value)} {oc_Is kV_Is dc_Is pm_Is ct_Is : Value}
    {cd_Ne : Value} {f_Ne : Addr} {od_Ne an_Ne : Option Addr} {sl_Ne : Array (Option Value)} {oc_Ne kV_Ne dc_Ne pm_Ne ct_Ne : Value}
    {cd_Pl : Value} {f_Pl : Addr} {od_Pl an_Pl : Option Addr} {sl_Pl : Array (Option Value)} {oc_Pl kV_Pl dc_Pl pm_Pl ct_Pl : Value}
    {cd_Rd : Value} {f_Rd : Addr} {od_Rd an_Rd : Option Addr} {sl_Rd : Array (Option Value)} {oc_Rd kV_Rd dc_Rd pm_Rd ct_Rd : Value}
    {cd_Nr : Value} {f_Nr : Addr} {od_Nr an_Nr : Option Addr} {sl_Nr : Array (Option Value)} {oc_Nr kV_Nr dc_Nr pm_Nr ct_Nr : Value}
    {cd_iH : Value} {f_iH : Addr} {od_iH an_iH : Option Addr} {sl_iH : Array (Option Value)} {oc_iH kV_iH dc_iH pm_iH ct_iH : Value}
    {cd_iR : Value} {f_iR : Addr} {od_iR an_iR : Option Addr} {sl_iR : Array (Option Value)} {oc_iR kV_iR dc_iR pm_iR ct_iR : Value}
    {cd_iD : Value} {f_iD : Addr} {od_iD an_iD : Option Addr} {sl_iD : Array (Option Value)} {oc_iD kV_iD dc_iD pm_iD ct_iD : Value}
    {cd_iN : Value} {f_iN : Addr} {od_iN an_iN : Option Addr} {sl_iN : Array (Option Value)} {oc_iN kV_iN dc_iN pm_iN ct_iN : Value}
    {cd_iO : Value} {f_iO : Addr} {od_iO an_iO : Option Addr} {sl_iO : Array (Option Value)} {oc_iO kV_iO dc_iO pm_iO ct_iO : Value}
    {cd_iV : Value} {f_iV : Addr} {od_iV an_iV : Option Addr} {sl_iV : Array (Option Value)} {oc_iV kV_iV dc_iV pm_iV ct_iV : Value}
    {cd_iC : Value} {f_iC : Addr} {od_iC an_iC : Option Addr} {sl_iC : Array (Option Value)} {oc_iC kV_iC dc_iC pm_iC ct_iC : Value}
    {cd_iM : Value} {f_iM : Addr} {od_iM an_iM : Option Addr} {sl_iM : Array (Option Value)} {oc_iM kV_iM dc_iM pm_iM ct_iM : Value}
    {nmCH qCH : Str} {NCH : Addr} {bsCH bmCH : List Value} {snCH : List Str} {subCH : List Value} {abCH : Bool} {colCH : Option Bool} {ddCH : Option Addr} {m0CH m1CH m2CH m3CH m5CH : Option Value}
    {nmCR qCR : Str} {NCR : Addr} {bsCR bmCR : List Value} {snCR : List Str} {subCR : List Value} {abCR : Bool} {colCR : Option Bool} {ddCR : Option Addr} {m0CR m1CR m2CR m3CR m5CR : Option Value}
    {nmCD qCD : Str} {NCD : Addr} {bsCD bmCD : List Value} {snCD : List Str} {subCD : List Value} {abCD : Bool} {colCD : Option Bool} {ddCD : Option Addr} {m0CD m1CD m2CD m3CD m5CD : Option Value}
    {nmCN qCN : Str} {NCN : Addr} {bsCN bmCN : List Value} {snCN : List Str} {subCN : List Value} {abCN : Bool} {colCN : Option Bool} {ddCN : Option Addr} {m0CN m1CN m2CN m3CN m5CN : Option Value}
    {nmCO qCO : Str} {NCO : Addr} {bsCO bmCO : List Value} {snCO : List Str} {subCO : List Value} {abCO : Bool} {colCO : Option Bool} {ddCO : Option Addr} {m0CO m1CO m2CO m3CO m5CO : Option Value}
    {nmCV qCV : Str} {NCV : Addr} {bsCV bmCV : List Value} {snCV : List Str} {subCV : List Value} {abCV : Bool} {colCV : Option Bool} {ddCV : Option Addr} {m0CV m1CV m2CV m3CV m5CV : Option Value}
    {nmCC qCC : Str} {NCC : Addr} {bsCC bmCC : List Value} {snCC : List Str} {subCC : List Value} {abCC : Bool} {colCC : Option Bool} {ddCC : Option Addr} {m0CC m1CC m2CC m3CC m5CC : Option Value}
    {nmCM qCM : Str} {NCM : Addr} {bsCM bmCM : List Value} {snCM : List Str} {subCM : List Value} {abCM : Bool} {colCM : Option Bool} {ddCM : Option Addr} {m0CM m1CM m2CM m3CM m5CM : Option Value}
    {tL tF tN : Tok}
    (X : K.In h) (G : h.Ns mainGlobals mg) (hfa : mg "law" = some (.ref fa)) (hTR : h.get? TPR = some { cls := .none, data := .fields #[] })
    (a_isInt : PySem.W.nsIn K mainGlobals "is_integer" = some (some (.ref f_isInt)))
    (l_isInt : K.lookup f_isInt = some ⟨oc_isInt, od_isInt, .func (PySem.W.fnOf "is_integer" "is_integer" (defArgs sIsInt) (defBody sIsInt) (defScope sIsInt) .none kV_isInt dc_isInt pm_isInt an_isInt cd_isInt ct_isInt), sl_isInt⟩)
    (c_isInt : PySem.W.codeIn K cd_isInt "is_integer" = true)
    (k_isInt : PySem.W.keepIn K (.ref f_isInt) = true)
    (a_isNum : PySem.W.nsIn K mainGlobals "is_number" = some (some (.ref f_isNum)))
    (l_isNum : K.lookup f_isNum = some ⟨oc_isNum, od_isNum, .func (PySem.W.fnOf "is_number" "is_number" (defArgs sNum) (defBody sNum) (defScope sNum) .none kV_isNum dc_isNum pm_isNum an_isNum cd_isNum ct_isNum), sl_isNum⟩)
    (c_isNum : PySem.W.codeIn K cd_isNum "is_number" = true)
    (k_isNum : PySem.W.keepIn K (.ref f_isNum) = true)
    (a_fromOne : PySem.W.nsIn K mainGlobals "is_from_one" = some (some (.ref f_fromOne)))
    (l_fromOne : K.lookup f_fromOne = some ⟨oc_fromOne, od_fromOne, .func (PySem.W.fnOf "is_from_one" "is_from_one" (defArgs sFromOne) (defBody sFromOne) (defScope sFromOne) .none kV_fromOne dc_fromOne pm_fromOne an_fromOne cd_fromOne ct_fromOne), sl_fromOne⟩)
    (c_fromOne : PySem.W.codeIn K cd_fromOne "is_from_one" = true)
    (k_fromOne : PySem.W.keepIn K (.ref f_fromOne) = true)
    (a_isList : PySem.W.nsIn K mainGlobals "is_list" = some (some (.ref f_isList)))
    (l_isList : K.lookup f_isList = some ⟨oc_isList, od_isList, .func (PySem.W.fnOf "is_list" "is_list" (defArgs sIsList) (defBody sIsList) (defScope sIsList) .none kV_isList dc_isList pm_isList an_isList cd_isList ct_isList), sl_isList⟩)
    (c_isList : PySem.W.codeIn K cd_isList "is_list" = true)
    (k_isList : PySem.W.keepIn K (.ref f_isList) = true)
    (a_isPair : PySem.W.nsIn K mainGlobals "is_pair" = some (some (.ref f_isPair)))
    (l_isPair : K.lookup f_isPair = some ⟨oc_isPair, od_isPair, .func (PySem.W.fnOf "is_pair" "is_pair" (defArgs sIsPair) (defBody sIsPair) (defScope sIsPair) .none kV_isPair dc_isPair pm_isPair an_isPair cd_isPair ct_isPair), sl_isPair⟩)
    (c_isPair : PySem.W.codeIn K cd_isPair "is_pair" = true)
    (k_isPair : PySem.W.keepIn K (.ref f_isPair) = true)
    (a_isName : PySem.W.nsIn K mainGlobals "is_name" = some (some (.ref f_isName)))
    (l_isName : K.lookup f_isName = some ⟨oc_isName, od_isName, .func (PySem.W.fnOf "is_name" "is_name" (defArgs sIsName) (defBody sIsName) (defScope sIsName) .none kV_isName dc_isName pm_isName an_isName cd_isName ct_isName), sl_isName⟩)
    (c_isName : PySem.W.codeIn K cd_isName "is_name" = true)
    (k_isName : PySem.W.keepIn K (.ref f_isName) = true)
    (a_draw : PySem.W.nsIn K mainGlobals "_law_draw" = some (some (.ref f_draw)))
    (l_draw : K.lookup f_draw = some ⟨oc_draw, od_draw, .func (PySem.W.fnOf "_law_draw" "_law_draw" (defArgs sDraw) (defBody sDraw) (defScope sDraw) .none kV_draw dc_draw pm_draw an_draw cd_draw ct_draw), sl_draw⟩)
    (c_draw : PySem.W.codeIn K cd_draw "_law_draw" = true)
    (k_draw : PySem.W.keepIn K (.ref f_draw) = true)
    (a_pick : PySem.W.nsIn K mainGlobals "_law_pick" = some (some (.ref f_pick)))
    (l_pick : K.lookup f_pick = some ⟨oc_pick, od_pick, .func (PySem.W.fnOf "_law_pick" "_law_pick" (defArgs sPick) (defBody sPick) (defScope sPick) .none kV_pick dc_pick pm_pick an_pick cd_pick ct_pick), sl_pick⟩)
    (c_pick : PySem.W.codeIn K cd_pick "_law_pick" = true)
    (k_pick : PySem.W.keepIn K (.ref f_pick) = true)
    (a_mixed : PySem.W.nsIn K mainGlobals "_law_mixed" = some (some (.ref f_mixed)))
    (l_mixed : K.lookup f_mixed = some ⟨oc_mixed, od_mixed, .func (PySem.W.fnOf "_law_mixed" "_law_mixed" (defArgs sMixed) (defBody sMixed) (defScope sMixed) .none kV_mixed dc_mixed pm_mixed an_mixed cd_mixed ct_mixed), sl_mixed⟩)
    (c_mixed : PySem.W.codeIn K cd_mixed "_law_mixed" = true)
    (k_mixed : PySem.W.keepIn K (.ref f_mixed) = true)
    (a_ND : PySem.W.nsIn K mainGlobals "_need_heads" = some (some (.ref f_ND)))
    (l_ND : K.lookup f_ND = some ⟨oc_ND, od_ND, .func (PySem.W.fnOf "_need_heads" "_need_heads" (defArgs sND) (defBody sND) (defScope sND) .none kV_ND dc_ND pm_ND an_ND cd_ND ct_ND), sl_ND⟩)
    (c_ND : PySem.W.codeIn K cd_ND "_need_heads" = true)
    (k_ND : PySem.W.keepIn K (.ref f_ND) = true)
    (a_NH : PySem.W.nsIn K mainGlobals "_need_houses" = some (some (.ref f_NH)))
    (l_NH : K.lookup f_NH = some ⟨oc_NH, od_NH, .func (PySem.W.fnOf "_need_houses" "_need_houses" (defArgs sNH) (defBody sNH) (defScope sNH) .none kV_NH dc_NH pm_NH an_NH cd_NH ct_NH), sl_NH⟩)
    (c_NH : PySem.W.codeIn K cd_NH "_need_houses" = true)
    (k_NH : PySem.W.keepIn K (.ref f_NH) = true)
    (a_NR : PySem.W.nsIn K mainGlobals "_need_roads" = some (some (.ref f_NR)))
    (l_NR : K.lookup f_NR = some ⟨oc_NR, od_NR, .func (PySem.W.fnOf "_need_roads" "_need_roads" (defArgs sNR) (defBody sNR) (defScope sNR) .none kV_NR dc_NR pm_NR an_NR cd_NR ct_NR), sl_NR⟩)
    (c_NR : PySem.W.codeIn K cd_NR "_need_roads" = true)
    (k_NR : PySem.W.keepIn K (.ref f_NR) = true)
    (a_keys : PySem.W.nsIn K mainGlobals "_are_keys" = some (some (.ref f_keys)))
    (l_keys : K.lookup f_keys = some ⟨oc_keys, od_keys, .func (PySem.W.fnOf "_are_keys" "_are_keys" (defArgs sKeys) (defBody sKeys) (defScope sKeys) .none kV_keys dc_keys pm_keys an_keys cd_keys ct_keys), sl_keys⟩)
    (c_keys : PySem.W.codeIn K cd_keys "_are_keys" = true)
    (k_keys : PySem.W.keepIn K (.ref f_keys) = true)
    (a_lead : PySem.W.nsIn K mainGlobals "_leader" = some (some (.ref f_lead)))
    (l_lead : K.lookup f_lead = some ⟨oc_lead, od_lead, .func (PySem.W.fnOf "_leader" "_leader" (defArgs sLead) (defBody sLead) (defScope sLead) .none kV_lead dc_lead pm_lead an_lead cd_lead ct_lead), sl_lead⟩)
    (c_lead : PySem.W.codeIn K cd_lead "_leader" = true)
    (k_lead : PySem.W.keepIn K (.ref f_lead) = true)
    (a_BW : PySem.W.nsIn K mainGlobals "_both_ways" = some (some (.ref f_BW)))
    (l_BW : K.lookup f_BW = some ⟨oc_BW, od_BW, .func (PySem.W.fnOf "_both_ways" "_both_ways" (defArgs sBW) (defBody sBW) (defScope sBW) .none kV_BW dc_BW pm_BW an_BW cd_BW ct_BW), sl_BW⟩)
    (c_BW : PySem.W.codeIn K cd_BW "_both_ways" = true)
    (k_BW : PySem.W.keepIn K (.ref f_BW) = true)
    (a_NB : PySem.W.nsIn K mainGlobals "_neighbours" = some (some (.ref f_NB)))
    (l_NB : K.lookup f_NB = some ⟨oc_NB, od_NB, .func (PySem.W.fnOf "_neighbours" "_neighbours" (defArgs sNB) (defBody sNB) (defScope sNB) .none kV_NB dc_NB pm_NB an_NB cd_NB ct_NB), sl_NB⟩)
    (c_NB : PySem.W.codeIn K cd_NB "_neighbours" = true)
    (k_NB : PySem.W.keepIn K (.ref f_NB) = true)
    (a_Nv : PySem.W.nsIn K mainGlobals "need_valley" = some (some (.ref f_Nv)))
    (l_Nv : K.lookup f_Nv = some ⟨oc_Nv, od_Nv, .func (PySem.W.fnOf "need_valley" "need_valley" (defArgs sNv) (defBody sNv) (defScope sNv) .none kV_Nv dc_Nv pm_Nv an_Nv cd_Nv ct_Nv), sl_Nv⟩)
    (c_Nv : PySem.W.codeIn K cd_Nv "need_valley" = true)
    (k_Nv : PySem.W.keepIn K (.ref f_Nv) = true)
    (a_Bg : PySem.W.nsIn K mainGlobals "begun_places" = some (some (.ref f_Bg)))
    (l_Bg : K.lookup f_Bg = some ⟨oc_Bg, od_Bg, .func (PySem.W.fnOf "begun_places" "begun_places" (defArgs sBg) (defBody sBg) (defScope sBg) .none kV_Bg dc_Bg pm_Bg an_Bg cd_Bg ct_Bg), sl_Bg⟩)
    (c_Bg : PySem.W.codeIn K cd_Bg "begun_places" = true)
    (k_Bg : PySem.W.keepIn K (.ref f_Bg) = true)
    (a_Ep : PySem.W.nsIn K mainGlobals "evening_places" = some (some (.ref f_Ep)))
    (l_Ep : K.lookup f_Ep = some ⟨oc_Ep, od_Ep, .func (PySem.W.fnOf "evening_places" "evening_places" (defArgs sEp) (defBody sEp) (defScope sEp) .none kV_Ep dc_Ep pm_Ep an_Ep cd_Ep ct_Ep), sl_Ep⟩)
    (c_Ep : PySem.W.codeIn K cd_Ep "evening_places" = true)
    (k_Ep : PySem.W.keepIn K (.ref f_Ep) = true)
    (a_Cg : PySem.W.nsIn K mainGlobals "need_evening" = some (some (.ref f_Cg)))
    (l_Cg : K.lookup f_Cg = some ⟨oc_Cg, od_Cg, .func (PySem.W.fnOf "need_evening" "need_evening" (defArgs sCg) (defBody sCg) (defScope sCg) .none kV_Cg dc_Cg pm_Cg an_Cg cd_Cg ct_Cg), sl_Cg⟩)
    (c_Cg : PySem.W.codeIn K cd_Cg "need_evening" = true)
    (k_Cg : PySem.W.keepIn K (.ref f_Cg) = true)
    (a_Nm : PySem.W.nsIn K mainGlobals "need_many" = some (some (.ref f_Nm)))
    (l_Nm : K.lookup f_Nm = some ⟨oc_Nm, od_Nm, .func (PySem.W.fnOf "need_many" "need_many" (defArgs sNm) (defBody sNm) (defScope sNm) .none kV_Nm dc_Nm pm_Nm an_Nm cd_Nm ct_Nm), sl_Nm⟩)
    (c_Nm : PySem.W.codeIn K cd_Nm "need_many" = true)
    (k_Nm : PySem.W.keepIn K (.ref f_Nm) = true)
    (a_Hn : PySem.W.nsIn K mainGlobals "_hand_on" = some (some (.ref f_Hn)))
    (l_Hn : K.lookup f_Hn = some ⟨oc_Hn, od_Hn, .func (PySem.W.fnOf "_hand_on" "_hand_on" (defArgs sHn) (defBody sHn) (defScope sHn) .none kV_Hn dc_Hn pm_Hn an_Hn cd_Hn ct_Hn), sl_Hn⟩)
    (c_Hn : PySem.W.codeIn K cd_Hn "_hand_on" = true)
    (k_Hn : PySem.W.keepIn K (.ref f_Hn) = true)
    (a_Gl : PySem.W.nsIn K mainGlobals "gate_list" = some (some (.ref f_Gl)))
    (l_Gl : K.lookup f_Gl = some ⟨oc_Gl, od_Gl, .func (PySem.W.fnOf "gate_list" "gate_list" (defArgs sGl) (defBody sGl) (defScope sGl) .none kV_Gl dc_Gl pm_Gl an_Gl cd_Gl ct_Gl), sl_Gl⟩)
    (c_Gl : PySem.W.codeIn K cd_Gl "gate_list" = true)
    (k_Gl : PySem.W.keepIn K (.ref f_Gl) = true)
    (a_Lb : PySem.W.nsIn K mainGlobals "lists_behind" = some (some (.ref f_Lb)))
    (l_Lb : K.lookup f_Lb = some ⟨oc_Lb, od_Lb, .func (PySem.W.fnOf "lists_behind" "lists_behind" (defArgs sLb) (defBody sLb) (defScope sLb) .none kV_Lb dc_Lb pm_Lb an_Lb cd_Lb ct_Lb), sl_Lb⟩)
    (c_Lb : PySem.W.codeIn K cd_Lb "lists_behind" = true)
    (k_Lb : PySem.W.keepIn K (.ref f_Lb) = true)
    (a_Hs : PySem.W.nsIn K mainGlobals "hands" = some (some (.ref f_Hs)))
    (l_Hs : K.lookup f_Hs = some ⟨oc_Hs, od_Hs, .func (PySem.W.fnOf "hands" "hands" (defArgs sHs) (defBody sHs) (defScope sHs) .none kV_Hs dc_Hs pm_Hs an_Hs cd_Hs ct_Hs), sl_Hs⟩)
    (c_Hs : PySem.W.codeIn K cd_Hs "hands" = true)
    (k_Hs : PySem.W.keepIn K (.ref f_Hs) = true)
    (a_src : PySem.W.nsIn K mainGlobals "_law_source" = some (some (.ref f_src)))
    (l_src : K.lookup f_src = some ⟨oc_src, od_src, .func (PySem.W.fnOf "_law_source" "_law_source" (defArgs sSrc) (defBody sSrc) (defScope sSrc) .none kV_src dc_src pm_src an_src cd_src ct_src), sl_src⟩)
    (c_src : PySem.W.codeIn K cd_src "_law_source" = true)
    (k_src : PySem.W.keepIn K (.ref f_src) = true)
    (a_VN : PySem.W.nsIn K mainGlobals "_law_names" = some (some (.ref f_VN)))
    (l_VN : K.lookup f_VN = some ⟨oc_VN, od_VN, .func (PySem.W.fnOf "_law_names" "_law_names" (defArgs sVN) (defBody sVN) (defScope sVN) .none kV_VN dc_VN pm_VN an_VN cd_VN ct_VN), sl_VN⟩)
    (c_VN : PySem.W.codeIn K cd_VN "_law_names" = true)
    (k_VN : PySem.W.keepIn K (.ref f_VN) = true)
    (a_Ro5 : PySem.W.nsIn K mainGlobals "_law_roads" = some (some (.ref f_Ro5)))
    (l_Ro5 : K.lookup f_Ro5 = some ⟨oc_Ro5, od_Ro5, .func (PySem.W.fnOf "_law_roads" "_law_roads" (defArgs sRo5) (defBody sRo5) (defScope sRo5) .none kV_Ro5 dc_Ro5 pm_Ro5 an_Ro5 cd_Ro5 ct_Ro5), sl_Ro5⟩)
    (c_Ro5 : PySem.W.codeIn K cd_Ro5 "_law_roads" = true)
    (k_Ro5 : PySem.W.keepIn K (.ref f_Ro5) = true)
    (a_He5 : PySem.W.nsIn K mainGlobals "_law_heads" = some (some (.ref f_He5)))
    (l_He5 : K.lookup f_He5 = some ⟨oc_He5, od_He5, .func (PySem.W.fnOf "_law_heads" "_law_heads" (defArgs sHe5) (defBody sHe5) (defScope sHe5) .none kV_He5 dc_He5 pm_He5 an_He5 cd_He5 ct_He5), sl_He5⟩)
    (c_He5 : PySem.W.codeIn K cd_He5 "_law_heads" = true)
    (k_He5 : PySem.W.keepIn K (.ref f_He5) = true)
    (a_Cs : PySem.W.nsIn K mainGlobals "_law_case" = some (some (.ref f_Cs)))
    (l_Cs : K.lookup f_Cs = some ⟨oc_Cs, od_Cs, .func (PySem.W.fnOf "_law_case" "_law_case" (defArgs sCs) (defBody sCs) (defScope sCs) .none kV_Cs dc_Cs pm_Cs an_Cs cd_Cs ct_Cs), sl_Cs⟩)
    (c_Cs : PySem.W.codeIn K cd_Cs "_law_case" = true)
    (k_Cs : PySem.W.keepIn K (.ref f_Cs) = true)
    (a_lo : PySem.W.nsIn K mainGlobals "_law_loose" = some (some (.ref f_lo)))
    (l_lo : K.lookup f_lo = some ⟨oc_lo, od_lo, .func (PySem.W.fnOf "_law_loose" "_law_loose" (defArgs sLo) (defBody sLo) (defScope sLo) .none kV_lo dc_lo pm_lo an_lo cd_lo ct_lo), sl_lo⟩)
    (c_lo : PySem.W.codeIn K cd_lo "_law_loose" = true)
    (k_lo : PySem.W.keepIn K (.ref f_lo) = true)
    (a_VM : PySem.W.nsIn K mainGlobals "_law_made" = some (some (.ref f_VM)))
    (l_VM : K.lookup f_VM = some ⟨oc_VM, od_VM, .func (PySem.W.fnOf "_law_made" "_law_made" (defArgs sVM) (defBody sVM) (defScope sVM) .none kV_VM dc_VM pm_VM an_VM cd_VM ct_VM), sl_VM⟩)
    (c_VM : PySem.W.codeIn K cd_VM "_law_made" = true)
    (k_VM : PySem.W.keepIn K (.ref f_VM) = true)
    (a_sm : PySem.W.nsIn K mainGlobals "_law_same" = some (some (.ref f_sm)))
    (l_sm : K.lookup f_sm = some ⟨oc_sm, od_sm, .func (PySem.W.fnOf "_law_same" "_law_same" (defArgs sSm) (defBody sSm) (defScope sSm) .none kV_sm dc_sm pm_sm an_sm cd_sm ct_sm), sl_sm⟩)
    (c_sm : PySem.W.codeIn K cd_sm "_law_same" = true)
    (k_sm : PySem.W.keepIn K (.ref f_sm) = true)
    (a_met : PySem.W.nsIn K mainGlobals "_law_met" = some (some (.ref f_met)))
    (l_met : K.lookup f_met = some ⟨oc_met, od_met, .func (PySem.W.fnOf "_law_met" "_law_met" (defArgs sMt) (defBody sMt) (defScope sMt) .none kV_met dc_met pm_met an_met cd_met ct_met), sl_met⟩)
    (c_met : PySem.W.codeIn K cd_met "_law_met" = true)
    (k_met : PySem.W.keepIn K (.ref f_met) = true)
    (a_Hd : PySem.W.nsIn K mainGlobals "_law_turned" = some (some (.ref f_Hd)))
    (l_Hd : K.lookup f_Hd = some ⟨oc_Hd, od_Hd, .func (PySem.W.fnOf "_law_turned" "_law_turned" (defArgs sHd) (defBody sHd) (defScope sHd) .none kV_Hd dc_Hd pm_Hd an_Hd cd_Hd ct_Hd), sl_Hd⟩)
    (c_Hd : PySem.W.codeIn K cd_Hd "_law_turned" = true)
    (k_Hd : PySem.W.keepIn K (.ref f_Hd) = true)
    (a_Ne9 : PySem.W.nsIn K mainGlobals "_law_near" = some (some (.ref f_Ne9)))
    (l_Ne9 : K.lookup f_Ne9 = some ⟨oc_Ne9, od_Ne9, .func (PySem.W.fnOf "_law_near" "_law_near" (defArgs sNe9) (defBody sNe9) (defScope sNe9) .none kV_Ne9 dc_Ne9 pm_Ne9 an_Ne9 cd_Ne9 ct_Ne9), sl_Ne9⟩)
    (c_Ne9 : PySem.W.codeIn K cd_Ne9 "_law_near" = true)
    (k_Ne9 : PySem.W.keepIn K (.ref f_Ne9) = true)
    (a_Ou9 : PySem.W.nsIn K mainGlobals "_law_outward" = some (some (.ref f_Ou9)))
    (l_Ou9 : K.lookup f_Ou9 = some ⟨oc_Ou9, od_Ou9, .func (PySem.W.fnOf "_law_outward" "_law_outward" (defArgs sOu9) (defBody sOu9) (defScope sOu9) .none kV_Ou9 dc_Ou9 pm_Ou9 an_Ou9 cd_Ou9 ct_Ou9), sl_Ou9⟩)
    (c_Ou9 : PySem.W.codeIn K cd_Ou9 "_law_outward" = true)
    (k_Ou9 : PySem.W.keepIn K (.ref f_Ou9) = true)
    (a_Hd9 : PySem.W.nsIn K mainGlobals "_law_handed_on" = some (some (.ref f_Hd9)))
    (l_Hd9 : K.lookup f_Hd9 = some ⟨oc_Hd9, od_Hd9, .func (PySem.W.fnOf "_law_handed_on" "_law_handed_on" (defArgs sHd9) (defBody sHd9) (defScope sHd9) .none kV_Hd9 dc_Hd9 pm_Hd9 an_Hd9 cd_Hd9 ct_Hd9), sl_Hd9⟩)
    (c_Hd9 : PySem.W.codeIn K cd_Hd9 "_law_handed_on" = true)
    (k_Hd9 : PySem.W.keepIn K (.ref f_Hd9) = true)
    (a_Nv9 : PySem.W.nsIn K mainGlobals "_law_no_valleys" = some (some (.ref f_Nv9)))
    (l_Nv9 : K.lookup f_Nv9 = some ⟨oc_Nv9, od_Nv9, .func (PySem.W.fnOf "_law_no_valleys" "_law_no_valleys" (defArgs sNv9) (defBody sNv9) (defScope sNv9) .none kV_Nv9 dc_Nv9 pm_Nv9 an_Nv9 cd_Nv9 ct_Nv9), sl_Nv9⟩)
    (c_Nv9 : PySem.W.codeIn K cd_Nv9 "_law_no_valleys" = true)
    (k_Nv9 : PySem.W.keepIn K (.ref f_Nv9) = true)
    (a_No9 : PySem.W.nsIn K mainGlobals "_law_no_evenings" = some (some (.ref f_No9)))
    (l_No9 : K.lookup f_No9 = some ⟨oc_No9, od_No9, .func (PySem.W.fnOf "_law_no_evenings" "_law_no_evenings" (defArgs sNo9) (defBody sNo9) (defScope sNo9) .none kV_No9 dc_No9 pm_No9 an_No9 cd_No9 ct_No9), sl_No9⟩)
    (c_No9 : PySem.W.codeIn K cd_No9 "_law_no_evenings" = true)
    (k_No9 : PySem.W.keepIn K (.ref f_No9) = true)
    (a_Lg : PySem.W.nsIn K mainGlobals "_law_longer" = some (some (.ref f_Lg)))
    (l_Lg : K.lookup f_Lg = some ⟨oc_Lg, od_Lg, .func (PySem.W.fnOf "_law_longer" "_law_longer" (defArgs sLg) (defBody sLg) (defScope sLg) .none kV_Lg dc_Lg pm_Lg an_Lg cd_Lg ct_Lg), sl_Lg⟩)
    (c_Lg : PySem.W.codeIn K cd_Lg "_law_longer" = true)
    (k_Lg : PySem.W.keepIn K (.ref f_Lg) = true)
    (a_Or : PySem.W.nsIn K mainGlobals "_law_one_right" = some (some (.ref f_Or)))
    (l_Or : K.lookup f_Or = some ⟨oc_Or, od_Or, .func (PySem.W.fnOf "_law_one_right" "_law_one_right" (defArgs sOr) (defBody sOr) (defScope sOr) .none kV_Or dc_Or pm_Or an_Or cd_Or ct_Or), sl_Or⟩)
    (c_Or : PySem.W.codeIn K cd_Or "_law_one_right" = true)
    (k_Or : PySem.W.keepIn K (.ref f_Or) = true)
    (a_Rr : PySem.W.nsIn K mainGlobals "_law_refused_right" = some (some (.ref f_Rr)))
    (l_Rr : K.lookup f_Rr = some ⟨oc_Rr, od_Rr, .func (PySem.W.fnOf "_law_refused_right" "_law_refused_right" (defArgs sRr) (defBody sRr) (defScope sRr) .none kV_Rr dc_Rr pm_Rr an_Rr (.ref cRf) ct_Rr), sl_Rr⟩)
    (c_Rr : PySem.W.codeIn K (.ref cRf) "_law_refused_right" = true)
    (k_Rr : PySem.W.keepIn K (.ref f_Rr) = true)
    (a_law : PySem.W.nsIn K mainGlobals "law" = some (some (.ref f_law)))
    (l_law : K.lookup f_law = some ⟨oc_law, od_law, .func (PySem.W.fnOf "law" "law" (defArgs sLaw) (defBody sLaw) (defScope sLaw) .none kV_law dc_law pm_law an_law cd_law ct_law), sl_law⟩)
    (c_law : PySem.W.codeIn K cd_law "law" = true)
    (k_law : PySem.W.keepIn K (.ref f_law) = true)
    (aC : PySem.W.nsIn K mainGlobals "Valley" = some (some (.ref C)))
    (aCF : PySem.W.nsIn K mainGlobals "FeastError" = some (some (.ref CF)))
    (aCH : PySem.W.nsIn K mainGlobals "BadHouses" = some (some (.ref CH)))
    (aCR : PySem.W.nsIn K mainGlobals "BadRoads" = some (some (.ref CR)))
    (aCD : PySem.W.nsIn K mainGlobals "BadHeads" = some (some (.ref CD)))
    (aCN : PySem.W.nsIn K mainGlobals "NoHouse" = some (some (.ref CN)))
    (aCO : PySem.W.nsIn K mainGlobals "NoRoad" = some (some (.ref CO)))
    (aCV : PySem.W.nsIn K mainGlobals "BadValley" = some (some (.ref CV)))
    (aCC : PySem.W.nsIn K mainGlobals "BadEvening" = some (some (.ref CC)))
    (aCM : PySem.W.nsIn K mainGlobals "BadMany" = some (some (.ref CM)))
    (a_VI : PySem.W.findIn K (.ref C) "__init__" = some (some (.ref f_VI)))
    (i_VI : PySem.W.isFn K (.ref f_VI) = true)
    (l_VI : K.lookup f_VI = some ⟨oc_VI, od_VI, .func (PySem.W.fnOf "__init__" "Valley.__init__" (defArgs sVI) (defBody sVI) (defScope sVI) .none kV_VI dc_VI pm_VI an_VI cd_VI ct_VI), sl_VI⟩)
    (c_VI : PySem.W.codeIn K cd_VI "Valley.__init__" = true)
    (k_VI : PySem.W.keepIn K (.ref f_VI) = true)
    (a_Ho : PySem.W.findIn K (.ref C) "houses" = some (some (.ref f_Ho)))
    (i_Ho : PySem.W.isFn K (.ref f_Ho) = true)
    (l_Ho : K.lookup f_Ho = some ⟨oc_Ho, od_Ho, .func (PySem.W.fnOf "houses" "Valley.houses" (defArgs sVH) (defBody sVH) (defScope sVH) .none kV_Ho dc_Ho pm_Ho an_Ho cd_Ho ct_Ho), sl_Ho⟩)
    (c_Ho : PySem.W.codeIn K cd_Ho "Valley.houses" = true)
    (k_Ho : PySem.W.keepIn K (.ref f_Ho) = true)
    (a_Ro : PySem.W.findIn K (.ref C) "roads" = some (some (.ref f_Ro)))
    (i_Ro : PySem.W.isFn K (.ref f_Ro) = true)
    (l_Ro : K.lookup f_Ro = some ⟨oc_Ro, od_Ro, .func (PySem.W.fnOf "roads" "Valley.roads" (defArgs sVR) (defBody sVR) (defScope sVR) .none kV_Ro dc_Ro pm_Ro an_Ro cd_Ro ct_Ro), sl_Ro⟩)
    (c_Ro : PySem.W.codeIn K cd_Ro "Valley.roads" = true)
    (k_Ro : PySem.W.keepIn K (.ref f_Ro) = true)
    (a_Is : PySem.W.findIn K (.ref C) "is_house" = some (some (.ref f_Is)))
    (i_Is : PySem.W.isFn K (.ref f_Is) = true)
    (l_Is : K.lookup f_Is = some ⟨oc_Is, od_Is, .func (PySem.W.fnOf "is_house" "Valley.is_house" (defArgs sIs) (defBody sIs) (defScope sIs) .none kV_Is dc_Is pm_Is an_Is cd_Is ct_Is), sl_Is⟩)
    (c_Is : PySem.W.codeIn K cd_Is "Valley.is_house" = true)
    (k_Is : PySem.W.keepIn K (.ref f_Is) = true)
    (a_Ne : PySem.W.findIn K (.ref C) "need_house" = some (some (.ref f_Ne)))
    (i_Ne : PySem.W.isFn K (.ref f_Ne) = true)
    (l_Ne : K.lookup f_Ne = some ⟨oc_Ne, od_Ne, .func (PySem.W.fnOf "need_house" "Valley.need_house" (defArgs sNe) (defBody sNe) (defScope sNe) .none kV_Ne dc_Ne pm_Ne an_Ne cd_Ne ct_Ne), sl_Ne⟩)
    (c_Ne : PySem.W.codeIn K cd_Ne "Valley.need_house" = true)
    (k_Ne : PySem.W.keepIn K (.ref f_Ne) = true)
    (a_Pl : PySem.W.findIn K (.ref C) "place" = some (some (.ref f_Pl)))
    (i_Pl : PySem.W.isFn K (.ref f_Pl) = true)
    (l_Pl : K.lookup f_Pl = some ⟨oc_Pl, od_Pl, .func (PySem.W.fnOf "place" "Valley.place" (defArgs sPl) (defBody sPl) (defScope sPl) .none kV_Pl dc_Pl pm_Pl an_Pl cd_Pl ct_Pl), sl_Pl⟩)
    (c_Pl : PySem.W.codeIn K cd_Pl "Valley.place" = true)
    (k_Pl : PySem.W.keepIn K (.ref f_Pl) = true)
    (a_Rd : PySem.W.findIn K (.ref C) "is_road" = some (some (.ref f_Rd)))
    (i_Rd : PySem.W.isFn K (.ref f_Rd) = true)
    (l_Rd : K.lookup f_Rd = some ⟨oc_Rd, od_Rd, .func (PySem.W.fnOf "is_road" "Valley.is_road" (defArgs sRd) (defBody sRd) (defScope sRd) .none kV_Rd dc_Rd pm_Rd an_Rd cd_Rd ct_Rd), sl_Rd⟩)
    (c_Rd : PySem.W.codeIn K cd_Rd "Valley.is_road" = true)
    (k_Rd : PySem.W.keepIn K (.ref f_Rd) = true)
    (a_Nr : PySem.W.findIn K (.ref C) "nearer" = some (some (.ref f_Nr)))
    (i_Nr : PySem.W.isFn K (.ref f_Nr) = true)
    (l_Nr : K.lookup f_Nr = some ⟨oc_Nr, od_Nr, .func (PySem.W.fnOf "nearer" "Valley.nearer" (defArgs sNr) (defBody sNr) (defScope sNr) .none kV_Nr dc_Nr pm_Nr an_Nr cd_Nr ct_Nr), sl_Nr⟩)
    (c_Nr : PySem.W.codeIn K cd_Nr "Valley.nearer" = true)
    (k_Nr : PySem.W.keepIn K (.ref f_Nr) = true)
    (a_iH : PySem.W.findIn K (.ref CH) "__init__" = some (some (.ref f_iH)))
    (i_iH : PySem.W.isFn K (.ref f_iH) = true)
    (l_iH : K.lookup f_iH = some ⟨oc_iH, od_iH, .func (PySem.W.fnOf "__init__" "BadHouses.__init__" (defArgs sIH) (defBody sIH) (defScope sIH) .none kV_iH dc_iH pm_iH an_iH cd_iH ct_iH), sl_iH⟩)
    (c_iH : PySem.W.codeIn K cd_iH "BadHouses.__init__" = true)
    (k_iH : PySem.W.keepIn K (.ref f_iH) = true)
    (a_iR : PySem.W.findIn K (.ref CR) "__init__" = some (some (.ref f_iR)))
    (i_iR : PySem.W.isFn K (.ref f_iR) = true)
    (l_iR : K.lookup f_iR = some ⟨oc_iR, od_iR, .func (PySem.W.fnOf "__init__" "BadRoads.__init__" (defArgs sIR) (defBody sIR) (defScope sIR) .none kV_iR dc_iR pm_iR an_iR cd_iR ct_iR), sl_iR⟩)
    (c_iR : PySem.W.codeIn K cd_iR "BadRoads.__init__" = true)
    (k_iR : PySem.W.keepIn K (.ref f_iR) = true)
    (a_iD : PySem.W.findIn K (.ref CD) "__init__" = some (some (.ref f_iD)))
    (i_iD : PySem.W.isFn K (.ref f_iD) = true)
    (l_iD : K.lookup f_iD = some ⟨oc_iD, od_iD, .func (PySem.W.fnOf "__init__" "BadHeads.__init__" (defArgs sID) (defBody sID) (defScope sID) .none kV_iD dc_iD pm_iD an_iD cd_iD ct_iD), sl_iD⟩)
    (c_iD : PySem.W.codeIn K cd_iD "BadHeads.__init__" = true)
    (k_iD : PySem.W.keepIn K (.ref f_iD) = true)
    (a_iN : PySem.W.findIn K (.ref CN) "__init__" = some (some (.ref f_iN)))
    (i_iN : PySem.W.isFn K (.ref f_iN) = true)
    (l_iN : K.lookup f_iN = some ⟨oc_iN, od_iN, .func (PySem.W.fnOf "__init__" "NoHouse.__init__" (defArgs sIN) (defBody sIN) (defScope sIN) .none kV_iN dc_iN pm_iN an_iN cd_iN ct_iN), sl_iN⟩)
    (c_iN : PySem.W.codeIn K cd_iN "NoHouse.__init__" = true)
    (k_iN : PySem.W.keepIn K (.ref f_iN) = true)
    (a_iO : PySem.W.findIn K (.ref CO) "__init__" = some (some (.ref f_iO)))
    (i_iO : PySem.W.isFn K (.ref f_iO) = true)
    (l_iO : K.lookup f_iO = some ⟨oc_iO, od_iO, .func (PySem.W.fnOf "__init__" "NoRoad.__init__" (defArgs sIO) (defBody sIO) (defScope sIO) .none kV_iO dc_iO pm_iO an_iO cd_iO ct_iO), sl_iO⟩)
    (c_iO : PySem.W.codeIn K cd_iO "NoRoad.__init__" = true)
    (k_iO : PySem.W.keepIn K (.ref f_iO) = true)
    (a_iV : PySem.W.findIn K (.ref CV) "__init__" = some (some (.ref f_iV)))
    (i_iV : PySem.W.isFn K (.ref f_iV) = true)
    (l_iV : K.lookup f_iV = some ⟨oc_iV, od_iV, .func (PySem.W.fnOf "__init__" "BadValley.__init__" (defArgs sIV) (defBody sIV) (defScope sIV) .none kV_iV dc_iV pm_iV an_iV cd_iV ct_iV), sl_iV⟩)
    (c_iV : PySem.W.codeIn K cd_iV "BadValley.__init__" = true)
    (k_iV : PySem.W.keepIn K (.ref f_iV) = true)
    (a_iC : PySem.W.findIn K (.ref CC) "__init__" = some (some (.ref f_iC)))
    (i_iC : PySem.W.isFn K (.ref f_iC) = true)
    (l_iC : K.lookup f_iC = some ⟨oc_iC, od_iC, .func (PySem.W.fnOf "__init__" "BadEvening.__init__" (defArgs sCl) (defBody sCl) (defScope sCl) .none kV_iC dc_iC pm_iC an_iC cd_iC ct_iC), sl_iC⟩)
    (c_iC : PySem.W.codeIn K cd_iC "BadEvening.__init__" = true)
    (k_iC : PySem.W.keepIn K (.ref f_iC) = true)
    (a_iM : PySem.W.findIn K (.ref CM) "__init__" = some (some (.ref f_iM)))
    (i_iM : PySem.W.isFn K (.ref f_iM) = true)
    (l_iM : K.lookup f_iM = some ⟨oc_iM, od_iM, .func (PySem.W.fnOf "__init__" "BadMany.__init__" (defArgs sIM) (defBody sIM) (defScope sIM) .none kV_iM dc_iM pm_iM an_iM cd_iM ct_iM), sl_iM⟩)
    (c_iM : PySem.W.codeIn K cd_iM "BadMany.__init__" = true)
    (k_iM : PySem.W.keepIn K (.ref f_iM) = true)
    (pg : PySem.W.plainGet K C Str.empty = true)
    (hd : PySem.W.hasDictIn K C = true)
    (po : PySem.W.plainOver K C = true)
    (sa : PySem.W.findIn K (.ref C) "__setattr__" = some (some (.builtin "object.__setattr__")))
    (mk : PySem.W.makesIn K C = true)
    (kc : PySem.W.keepIn K (.ref C) = true)
    (n1 : PySem.W.findIn K (.ref C) "_houses" = some none)
    (n2 : PySem.W.findIn K (.ref C) "_roads" = some none)
    (n3 : PySem.W.findIn K (.ref C) "_heads" = some none)
    (n4 : PySem.W.findIn K (.ref C) "_people" = some none)
    (n5 : PySem.W.findIn K (.ref C) "_places" = some none)
    (n6 : PySem.W.findIn K (.ref C) "_beside" = some none)
    (ha : PySem.W.findIn K (.ref C) "__class__" = some (some (.builtin "object.__class__")))
    (hn : PySem.W.specialIn K (.builtin "object.__class__") "__get__" = some (some (.builtin "getset_descriptor.__get__")))
    (htk : PySem.W.takesIn K (.builtin "object.__class__") = some true)
    (hm : PySem.W.mroIn K C (.type "object") = some true)
    (own : PySem.W.kitOne K (.ref C) (.ref C) = some true)
    (kno : ((kinds ++ ["function"]).all fun t => PySem.W.kitOne K (.type t) (.ref C) == some false) = true)
    (fsp : PySem.W.specialIn K (.ref CF) "__getattribute__" = some (some (.builtin "type.__getattribute__")))
    (frd : PySem.W.readsIn K CF (.type "type") = true)
    (fin : PySem.W.findCls K (.ref CF) (.type "type") "__init__" = some (.val (.builtin "ValueError.__init__")))
    (xCH : K.lookup CH = some (excClassObj nmCH qCH CH NCH bsCH bmCH true snCH subCH abCH colCH ddCH m0CH m1CH m2CH m3CH m5CH "ValueError.__new__"))
    (rCH : PySem.HandSPX.refsVE bmCH = true)
    (saCH : PySem.W.findIn K (.ref CH) "__setattr__" = some (some (.builtin "object.__setattr__")))
    (exCH : PySem.W.subIn K (.ref CH) (.type "BaseException") = some true)
    (tyCH : PySem.W.typeIn K (.ref CH) = some (.type "type"))
    (kpCH : PySem.W.keepIn K (.ref CH) = true)
    (inCH_index : PySem.W.findIn K (.ref CH) "index" = some none)
    (ty_iH : PySem.W.typeIn K (.ref f_iH) = some (.type "function"))
    (xCR : K.lookup CR = some (excClassObj nmCR qCR CR NCR bsCR bmCR true snCR subCR abCR colCR ddCR m0CR m1CR m2CR m3CR m5CR "ValueError.__new__"))
    (rCR : PySem.HandSPX.refsVE bmCR = true)
    (saCR : PySem.W.findIn K (.ref CR) "__setattr__" = some (some (.builtin "object.__setattr__")))
    (exCR : PySem.W.subIn K (.ref CR) (.type "BaseException") = some true)
    (tyCR : PySem.W.typeIn K (.ref CR) = some (.type "type"))
    (kpCR : PySem.W.keepIn K (.ref CR) = true)
    (inCR_index : PySem.W.findIn K (.ref CR) "index" = some none)
    (ty_iR : PySem.W.typeIn K (.ref f_iR) = some (.type "function"))
    (xCD : K.lookup CD = some (excClassObj nmCD qCD CD NCD bsCD bmCD true snCD subCD abCD colCD ddCD m0CD m1CD m2CD m3CD m5CD "ValueError.__new__"))
    (rCD : PySem.HandSPX.refsVE bmCD = true)
    (saCD : PySem.W.findIn K (.ref CD) "__setattr__" = some (some (.builtin "object.__setattr__")))
    (exCD : PySem.W.subIn K (.ref CD) (.type "BaseException") = some true)
    (tyCD : PySem.W.typeIn K (.ref CD) = some (.type "type"))
    (kpCD : PySem.W.keepIn K (.ref CD) = true)
    (inCD_index : PySem.W.findIn K (.ref CD) "index" = some none)
    (ty_iD : PySem.W.typeIn K (.ref f_iD) = some (.type "function"))
    (xCN : K.lookup CN = some (excClassObj nmCN qCN CN NCN bsCN bmCN true snCN subCN abCN colCN ddCN m0CN m1CN m2CN m3CN m5CN "ValueError.__new__"))
    (rCN : PySem.HandSPX.refsVE bmCN = true)
    (saCN : PySem.W.findIn K (.ref CN) "__setattr__" = some (some (.builtin "object.__setattr__")))
    (exCN : PySem.W.subIn K (.ref CN) (.type "BaseException") = some true)
    (tyCN : PySem.W.typeIn K (.ref CN) = some (.type "type"))
    (kpCN : PySem.W.keepIn K (.ref CN) = true)
    (inCN_house : PySem.W.findIn K (.ref CN) "house" = some none)
    (ty_iN : PySem.W.typeIn K (.ref f_iN) = some (.type "function"))
    (xCO : K.lookup CO = some (excClassObj nmCO qCO CO NCO bsCO bmCO true snCO subCO abCO colCO ddCO m0CO m1CO m2CO m3CO m5CO "ValueError.__new__"))
    (rCO : PySem.HandSPX.refsVE bmCO = true)
    (saCO : PySem.W.findIn K (.ref CO) "__setattr__" = some (some (.builtin "object.__setattr__")))
    (exCO : PySem.W.subIn K (.ref CO) (.type "BaseException") = some true)
    (tyCO : PySem.W.typeIn K (.ref CO) = some (.type "type"))
    (kpCO : PySem.W.keepIn K (.ref CO) = true)
    (inCO_one : PySem.W.findIn K (.ref CO) "one" = some none)
    (inCO_other : PySem.W.findIn K (.ref CO) "other" = some none)
    (ty_iO : PySem.W.typeIn K (.ref f_iO) = some (.type "function"))
    (xCV : K.lookup CV = some (excClassObj nmCV qCV CV NCV bsCV bmCV true snCV subCV abCV colCV ddCV m0CV m1CV m2CV m3CV m5CV "ValueError.__new__"))
    (rCV : PySem.HandSPX.refsVE bmCV = true)
    (saCV : PySem.W.findIn K (.ref CV) "__setattr__" = some (some (.builtin "object.__setattr__")))
    (exCV : PySem.W.subIn K (.ref CV) (.type "BaseException") = some true)
    (tyCV : PySem.W.typeIn K (.ref CV) = some (.type "type"))
    (kpCV : PySem.W.keepIn K (.ref CV) = true)
    (inCV_thing : PySem.W.findIn K (.ref CV) "thing" = some none)
    (ty_iV : PySem.W.typeIn K (.ref f_iV) = some (.type "function"))
    (xCC : K.lookup CC = some (excClassObj nmCC qCC CC NCC bsCC bmCC true snCC subCC abCC colCC ddCC m0CC m1CC m2CC m3CC m5CC "ValueError.__new__"))
    (rCC : PySem.HandSPX.refsVE bmCC = true)
    (saCC : PySem.W.findIn K (.ref CC) "__setattr__" = some (some (.builtin "object.__setattr__")))
    (exCC : PySem.W.subIn K (.ref CC) (.type "BaseException") = some true)
    (tyCC : PySem.W.typeIn K (.ref CC) = some (.type "type"))
    (kpCC : PySem.W.keepIn K (.ref CC) = true)
    (inCC_evening : PySem.W.findIn K (.ref CC) "evening" = some none)
    (ty_iC : PySem.W.typeIn K (.ref f_iC) = some (.type "function"))
    (xCM : K.lookup CM = some (excClassObj nmCM qCM CM NCM bsCM bmCM true snCM subCM abCM colCM ddCM m0CM m1CM m2CM m3CM m5CM "ValueError.__new__"))
    (rCM : PySem.HandSPX.refsVE bmCM = true)
    (saCM : PySem.W.findIn K (.ref CM) "__setattr__" = some (some (.builtin "object.__setattr__")))
    (exCM : PySem.W.subIn K (.ref CM) (.type "BaseException") = some true)
    (tyCM : PySem.W.typeIn K (.ref CM) = some (.type "type"))
    (kpCM : PySem.W.keepIn K (.ref CM) = true)
    (inCM_many : PySem.W.findIn K (.ref CM) "many" = some none)
    (ty_iM : PySem.W.typeIn K (.ref f_iM) = some (.type "function"))
    (gaCV : PySem.W.findIn K (.ref CV) "__getattribute__" = some (some (.builtin "BaseException.__getattribute__")))
    (ggCV : PySem.W.findIn K (.ref CV) "__getattr__" = some none)
    (hdCV : PySem.W.hasDictIn K CV = true)
    (gaCC : PySem.W.findIn K (.ref CC) "__getattribute__" = some (some (.builtin "BaseException.__getattribute__")))
    (ggCC : PySem.W.findIn K (.ref CC) "__getattr__" = some none)
    (hdCC : PySem.W.hasDictIn K CC = true)
    (gaCN : PySem.W.findIn K (.ref CN) "__getattribute__" = some (some (.builtin "BaseException.__getattribute__")))
    (ggCN : PySem.W.findIn K (.ref CN) "__getattr__" = some none)
    (hdCN : PySem.W.hasDictIn K CN = true)
    (gaCM : PySem.W.findIn K (.ref CM) "__getattribute__" = some (some (.builtin "BaseException.__getattribute__")))
    (ggCM : PySem.W.findIn K (.ref CM) "__getattr__" = some none)
    (hdCM : PySem.W.hasDictIn K CM = true)
    (em_vv : PySem.W.exmOne K (.ref CV) (.ref CV) = some true)
    (em_nv : PySem.W.exmOne K (.ref CC) (.ref CV) = some false)
    (em_nn : PySem.W.exmOne K (.ref CC) (.ref CC) = some true)
    (em_ov : PySem.W.exmOne K (.ref CN) (.ref CV) = some false)
    (em_on : PySem.W.exmOne K (.ref CN) (.ref CC) = some false)
    (em_oo : PySem.W.exmOne K (.ref CN) (.ref CN) = some true)
    (em_mv : PySem.W.exmOne K (.ref CM) (.ref CV) = some false)
    (em_mn : PySem.W.exmOne K (.ref CM) (.ref CC) = some false)
    (em_mo : PySem.W.exmOne K (.ref CM) (.ref CN) = some false)
    (em_mm : PySem.W.exmOne K (.ref CM) (.ref CM) = some true)
    (sgL : PySem.W.nsIn K mainGlobals "LETTERS" = some (some (.str letters tL)))
    (sgF : PySem.W.nsIn K mainGlobals "FIGURES" = some (some (.str figures tF)))
    (sgN : PySem.W.nsIn K mainGlobals "LONGEST_NAME" = some (some (.int 8 tN)))
    (z_isinstance : PySem.W.nsIn K mainGlobals "isinstance" = some none)
    (z_int : PySem.W.nsIn K mainGlobals "int" = some none)
    (z_bool : PySem.W.nsIn K mainGlobals "bool" = some none)
    (z_str : PySem.W.nsIn K mainGlobals "str" = some none)
    (z_list : PySem.W.nsIn K mainGlobals "list" = some none)
    (z_tuple : PySem.W.nsIn K mainGlobals "tuple" = some none)
    (z_dict : PySem.W.nsIn K mainGlobals "dict" = some none)
    (z_len : PySem.W.nsIn K mainGlobals "len" = some none)
    (z_all : PySem.W.nsIn K mainGlobals "all" = some none)
    (z_range : PySem.W.nsIn K mainGlobals "range" = some none)
    (z_enumerate : PySem.W.nsIn K mainGlobals "enumerate" = some none)
    (z_set : PySem.W.nsIn K mainGlobals "set" = some none)
    (z_max : PySem.W.nsIn K mainGlobals "max" = some none)
    (z_min : PySem.W.nsIn K mainGlobals "min" = some none)
    (z_zip : PySem.W.nsIn K mainGlobals "zip" = some none)
    (z_sum : PySem.W.nsIn K mainGlobals "sum" = some none)
    (z_repr : PySem.W.nsIn K mainGlobals "repr" = some none)
    (tpNR : K.lookup TPR = none)
    (tpCR : PySem.W.codeHdIn K cRf TPR = true) :
    Wr.LawG l w K CX0 12 63 "script" mg fa h := by
  have e := hfa.symm.trans (PySem.W.mg_of X G a_law)
  cases e
  have m_isInt := PySem.W.mg_of X G a_isInt
  have F_isInt := fun_mk (st := sIsInt) l_isInt c_isInt k_isInt
  have b_isInt := F_isInt.binds (ps := ["thing"]) fun _ _ _ _ _ _ us hl => match us, hl with | [_], _ => rfl
  have m_isNum := PySem.W.mg_of X G a_isNum
  have F_isNum := fun_mk (st := sNum) l_isNum c_isNum k_isNum
  have b_isNum := F_isNum.binds (ps := ["thing"]) fun _ _ _ _ _ _ us hl => match us, hl with | [_], _ => rfl
  have m_fromOne := PySem.W.mg_of X G a_fromOne
  have F_fromOne := fun_mk (st := sFromOne) l_fromOne c_fromOne k_fromOne
  have b_fromOne := F_fromOne.binds (ps := ["thing"]) fun _ _ _ _ _ _ us hl => match us, hl with | [_], _ => rfl
  have m_isList := PySem.W.mg_of X G a_isList
  have F_isList := fun_mk (st := sIsList) l_isList c_isList k_isList
  have b_isList := F_isList.binds (ps := ["thing"]) fun _ _ _ _ _ _ us hl => match us, hl with | [_], _ => rfl
  have m_isPair := PySem.W.mg_of X G a_isPair
  have F_isPair := fun_mk (st := sIsPair) l_isPair c_isPair k_isPair
  have b_isPair := F_isPair.binds (ps := ["thing"]) fun _ _ _ _ _ _ us hl => match us, hl with | [_], _ => rfl
  have m_isName := PySem.W.mg_of X G a_isName
  have F_isName := fun_mk (st := sIsName) l_isName c_isName k_isName
  have b_isName := F_isName.binds (ps := ["thing"]) fun _ _ _ _ _ _ us hl => match us, hl with | [_], _ => rfl
  have m_draw := PySem.W.mg_of X G a_draw
  have F_draw := fun_mk (st := sDraw) l_draw c_draw k_draw
  have b_draw := F_draw.binds (ps := ["draws", "many"]) fun _ _ _ _ _ _ us hl => match us, hl with | [_, _], _ => rfl
  have m_pick := PySem.W.mg_of X G a_pick
  have F_pick := fun_mk (st := sPick) l_pick c_pick k_pick
  have b_pick := F_pick.binds (ps := ["draws", "some"]) fun _ _ _ _ _ _ us hl => match us, hl with | [_, _], _ => rfl
  have m_mixed := PySem.W.mg_of X G a_mixed
  have F_mixed := fun_mk (st := sMixed) l_mixed c_mixed k_mixed
  have b_mixed := F_mixed.binds (ps := ["draws", "some"]) fun _ _ _ _ _ _ us hl => match us, hl with | [_, _], _ => rfl
  have m_ND := PySem.W.mg_of X G a_ND
  have F_ND := fun_mk (st := sND) l_ND c_ND k_ND
  have b_ND := F_ND.binds (ps := ["houses", "heads"]) fun _ _ _ _ _ _ us hl => match us, hl with | [_, _], _ => rfl
  have m_NH := PySem.W.mg_of X G a_NH
  have F_NH := fun_mk (st := sNH) l_NH c_NH k_NH
  have b_NH := F_NH.binds (ps := ["houses"]) fun _ _ _ _ _ _ us hl => match us, hl with | [_], _ => rfl
  have m_NR := PySem.W.mg_of X G a_NR
  have F_NR := fun_mk (st := sNR) l_NR c_NR k_NR
  have b_NR := F_NR.binds (ps := ["houses", "roads"]) fun _ _ _ _ _ _ us hl => match us, hl with | [_, _], _ => rfl
  have m_keys := PySem.W.mg_of X G a_keys
  have F_keys := fun_mk (st := sKeys) l_keys c_keys k_keys
  have b_keys := F_keys.binds (ps := ["things", "table"]) fun _ _ _ _ _ _ us hl => match us, hl with | [_, _], _ => rfl
  have m_lead := PySem.W.mg_of X G a_lead
  have F_lead := fun_mk (st := sLead) l_lead c_lead k_lead
  have b_lead := F_lead.binds (ps := ["leads", "house"]) fun _ _ _ _ _ _ us hl => match us, hl with | [_, _], _ => rfl
  have m_BW := PySem.W.mg_of X G a_BW
  have F_BW := fun_mk (st := sBW) l_BW c_BW k_BW
  have b_BW := F_BW.binds (ps := ["roads"]) fun _ _ _ _ _ _ us hl => match us, hl with | [_], _ => rfl
  have m_NB := PySem.W.mg_of X G a_NB
  have F_NB := fun_mk (st := sNB) l_NB c_NB k_NB
  have b_NB := F_NB.binds (ps := ["houses", "roads"]) fun _ _ _ _ _ _ us hl => match us, hl with | [_, _], _ => rfl
  have m_Nv := PySem.W.mg_of X G a_Nv
  have F_Nv := fun_mk (st := sNv) l_Nv c_Nv k_Nv
  have b_Nv := F_Nv.binds (ps := ["valley"]) fun _ _ _ _ _ _ us hl => match us, hl with | [_], _ => rfl
  have m_Bg := PySem.W.mg_of X G a_Bg
  have F_Bg := fun_mk (st := sBg) l_Bg c_Bg k_Bg
  have b_Bg := F_Bg.binds (ps := ["valley", "thing"]) fun _ _ _ _ _ _ us hl => match us, hl with | [_, _], _ => rfl
  have m_Ep := PySem.W.mg_of X G a_Ep
  have F_Ep := fun_mk (st := sEp) l_Ep c_Ep k_Ep
  have b_Ep := F_Ep.binds (ps := ["valley", "thing"]) fun _ _ _ _ _ _ us hl => match us, hl with | [_, _], _ => rfl
  have m_Cg := PySem.W.mg_of X G a_Cg
  have F_Cg := fun_mk (st := sCg) l_Cg c_Cg k_Cg
  have b_Cg := F_Cg.binds (ps := ["valley", "evening"]) fun _ _ _ _ _ _ us hl => match us, hl with | [_, _], _ => rfl
  have m_Nm := PySem.W.mg_of X G a_Nm
  have F_Nm := fun_mk (st := sNm) l_Nm c_Nm k_Nm
  have b_Nm := F_Nm.binds (ps := ["valley", "many"]) fun _ _ _ _ _ _ us hl => match us, hl with | [_, _], _ => rfl
  have m_Hn := PySem.W.mg_of X G a_Hn
  have F_Hn := fun_mk (st := sHn) l_Hn c_Hn k_Hn
  have b_Hn := F_Hn.binds (ps := ["valley", "places", "gate"]) fun _ _ _ _ _ _ us hl => match us, hl with | [_, _, _], _ => rfl
  have m_Gl := PySem.W.mg_of X G a_Gl
  have F_Gl := fun_mk (st := sGl) l_Gl c_Gl k_Gl
  have b_Gl := F_Gl.binds (ps := ["valley", "evening", "gate"]) fun _ _ _ _ _ _ us hl => match us, hl with | [_, _, _], _ => rfl
  have m_Lb := PySem.W.mg_of X G a_Lb
  have F_Lb := fun_mk (st := sLb) l_Lb c_Lb k_Lb
  have b_Lb := F_Lb.binds (ps := ["valley", "evening", "gate", "many"]) fun _ _ _ _ _ _ us hl => match us, hl with | [_, _, _, _], _ => rfl
  have m_Hs := PySem.W.mg_of X G a_Hs
  have F_Hs := fun_mk (st := sHs) l_Hs c_Hs k_Hs
  have b_Hs := F_Hs.binds (ps := ["valley", "evening", "gate", "house"]) fun _ _ _ _ _ _ us hl => match us, hl with | [_, _, _, _], _ => rfl
  have m_src := PySem.W.mg_of X G a_src
  have F_src := fun_mk (st := sSrc) l_src c_src k_src
  have b_src := F_src.binds (ps := ["script", "place"]) fun _ _ _ _ _ _ us hl => match us, hl with | [_, _], _ => rfl
  have m_VN := PySem.W.mg_of X G a_VN
  have F_VN := fun_mk (st := sVN) l_VN c_VN k_VN
  have b_VN := F_VN.binds (ps := ["draws", "many"]) fun _ _ _ _ _ _ us hl => match us, hl with | [_, _], _ => rfl
  have m_Ro5 := PySem.W.mg_of X G a_Ro5
  have F_Ro5 := fun_mk (st := sRo5) l_Ro5 c_Ro5 k_Ro5
  have b_Ro5 := F_Ro5.binds (ps := ["draws", "names"]) fun _ _ _ _ _ _ us hl => match us, hl with | [_, _], _ => rfl
  have m_He5 := PySem.W.mg_of X G a_He5
  have F_He5 := fun_mk (st := sHe5) l_He5 c_He5 k_He5
  have b_He5 := F_He5.binds (ps := ["draws", "names"]) fun _ _ _ _ _ _ us hl => match us, hl with | [_, _], _ => rfl
  have m_Cs := PySem.W.mg_of X G a_Cs
  have F_Cs := fun_mk (st := sCs) l_Cs c_Cs k_Cs
  have b_Cs := F_Cs.binds (ps := ["draws", "most"]) fun _ _ _ _ _ _ us hl => match us, hl with | [_, _], _ => rfl
  have m_lo := PySem.W.mg_of X G a_lo
  have F_lo := fun_mk (st := sLo) l_lo c_lo k_lo
  have b_lo := F_lo.binds (ps := ["draws", "thing"]) fun _ _ _ _ _ _ us hl => match us, hl with | [_, _], _ => rfl
  have m_VM := PySem.W.mg_of X G a_VM
  have F_VM := fun_mk (st := sVM) l_VM c_VM k_VM
  have b_VM := F_VM.binds (ps := ["draws", "case"]) fun _ _ _ _ _ _ us hl => match us, hl with | [_, _], _ => rfl
  have m_sm := PySem.W.mg_of X G a_sm
  have F_sm := fun_mk (st := sSm) l_sm c_sm k_sm
  have b_sm := F_sm.binds (ps := ["found", "due"]) fun _ _ _ _ _ _ us hl => match us, hl with | [_, _], _ => rfl
  have m_met := PySem.W.mg_of X G a_met
  have F_met := fun_mk (st := sMt) l_met c_met k_met
  have b_met := F_met.binds (ps := ["ask"]) fun _ _ _ _ _ _ us hl => match us, hl with | [_], _ => rfl
  have m_Hd := PySem.W.mg_of X G a_Hd
  have F_Hd := fun_mk (st := sHd) l_Hd c_Hd k_Hd
  have b_Hd := F_Hd.binds (ps := ["draws", "roads"]) fun _ _ _ _ _ _ us hl => match us, hl with | [_, _], _ => rfl
  have m_Ne9 := PySem.W.mg_of X G a_Ne9
  have F_Ne9 := fun_mk (st := sNe9) l_Ne9 c_Ne9 k_Ne9
  have b_Ne9 := F_Ne9.binds (ps := ["names", "roads"]) fun _ _ _ _ _ _ us hl => match us, hl with | [_, _], _ => rfl
  have m_Ou9 := PySem.W.mg_of X G a_Ou9
  have F_Ou9 := fun_mk (st := sOu9) l_Ou9 c_Ou9 k_Ou9
  have b_Ou9 := F_Ou9.binds (ps := ["near", "gate"]) fun _ _ _ _ _ _ us hl => match us, hl with | [_, _], _ => rfl
  have m_Hd9 := PySem.W.mg_of X G a_Hd9
  have F_Hd9 := fun_mk (st := sHd9) l_Hd9 c_Hd9 k_Hd9
  have b_Hd9 := F_Hd9.binds (ps := ["names", "roads", "evening", "gate"]) fun _ _ _ _ _ _ us hl => match us, hl with | [_, _, _, _], _ => rfl
  have m_Nv9 := PySem.W.mg_of X G a_Nv9
  have F_Nv9 := fun_mk (st := sNv9) l_Nv9 c_Nv9 k_Nv9
  have b_Nv9 := F_Nv9.binds (ps := ["names"]) fun _ _ _ _ _ _ us hl => match us, hl with | [_], _ => rfl
  have m_No9 := PySem.W.mg_of X G a_No9
  have F_No9 := fun_mk (st := sNo9) l_No9 c_No9 k_No9
  have b_No9 := F_No9.binds (ps := ["roads"]) fun _ _ _ _ _ _ us hl => match us, hl with | [_], _ => rfl
  have m_Lg := PySem.W.mg_of X G a_Lg
  have F_Lg := fun_mk (st := sLg) l_Lg c_Lg k_Lg
  have b_Lg := F_Lg.binds (ps := ["thing"]) fun _ _ _ _ _ _ us hl => match us, hl with | [_], _ => rfl
  have m_Or := PySem.W.mg_of X G a_Or
  have F_Or := fun_mk (st := sOr) l_Or c_Or k_Or
  have b_Or := F_Or.binds (ps := ["draws", "made", "case", "evening", "gate"]) fun _ _ _ _ _ _ us hl => match us, hl with | [_, _, _, _, _], _ => rfl
  have m_Rr := PySem.W.mg_of X G a_Rr
  have m_law := PySem.W.mg_of X G a_law
  have F_law := fun_mk (st := sLaw) l_law c_law k_law
  have b_law := F_law.binds (ps := ["script"]) fun _ _ _ _ _ _ us hl => match us, hl with | [_], _ => rfl
  have F_VI := fun_mk (st := sVI) l_VI c_VI k_VI
  have b_VI := F_VI.binds (ps := ["self", "houses", "roads", "heads"]) fun _ _ _ _ _ _ us hl => match us, hl with | [_, _, _, _], _ => rfl
  have F_Ho := fun_mk (st := sVH) l_Ho c_Ho k_Ho
  have b_Ho := F_Ho.binds (ps := ["self"]) fun _ _ _ _ _ _ us hl => match us, hl with | [_], _ => rfl
  have F_Ro := fun_mk (st := sVR) l_Ro c_Ro k_Ro
  have b_Ro := F_Ro.binds (ps := ["self"]) fun _ _ _ _ _ _ us hl => match us, hl with | [_], _ => rfl
  have F_Is := fun_mk (st := sIs) l_Is c_Is k_Is
  have b_Is := F_Is.binds (ps := ["self", "thing"]) fun _ _ _ _ _ _ us hl => match us, hl with | [_, _], _ => rfl
  have F_Ne := fun_mk (st := sNe) l_Ne c_Ne k_Ne
  have b_Ne := F_Ne.binds (ps := ["self", "house"]) fun _ _ _ _ _ _ us hl => match us, hl with | [_, _], _ => rfl
  have F_Pl := fun_mk (st := sPl) l_Pl c_Pl k_Pl
  have b_Pl := F_Pl.binds (ps := ["self", "one", "other"]) fun _ _ _ _ _ _ us hl => match us, hl with | [_, _, _], _ => rfl
  have F_Rd := fun_mk (st := sRd) l_Rd c_Rd k_Rd
  have b_Rd := F_Rd.binds (ps := ["self", "thing"]) fun _ _ _ _ _ _ us hl => match us, hl with | [_, _], _ => rfl
  have F_Nr := fun_mk (st := sNr) l_Nr c_Nr k_Nr
  have b_Nr := F_Nr.binds (ps := ["self", "start"]) fun _ _ _ _ _ _ us hl => match us, hl with | [_, _], _ => rfl
  have F_iH := fun_mk (st := sIH) l_iH c_iH k_iH
  have b_iH := F_iH.binds (ps := ["self", "index"]) fun _ _ _ _ _ _ us hl => match us, hl with | [_, _], _ => rfl
  have F_iR := fun_mk (st := sIR) l_iR c_iR k_iR
  have b_iR := F_iR.binds (ps := ["self", "index"]) fun _ _ _ _ _ _ us hl => match us, hl with | [_, _], _ => rfl
  have F_iD := fun_mk (st := sID) l_iD c_iD k_iD
  have b_iD := F_iD.binds (ps := ["self", "index"]) fun _ _ _ _ _ _ us hl => match us, hl with | [_, _], _ => rfl
  have F_iN := fun_mk (st := sIN) l_iN c_iN k_iN
  have b_iN := F_iN.binds (ps := ["self", "house"]) fun _ _ _ _ _ _ us hl => match us, hl with | [_, _], _ => rfl
  have F_iO := fun_mk (st := sIO) l_iO c_iO k_iO
  have b_iO := F_iO.binds (ps := ["self", "one", "other"]) fun _ _ _ _ _ _ us hl => match us, hl with | [_, _, _], _ => rfl
  have F_iV := fun_mk (st := sIV) l_iV c_iV k_iV
  have b_iV := F_iV.binds (ps := ["self", "thing"]) fun _ _ _ _ _ _ us hl => match us, hl with | [_, _], _ => rfl
  have F_iC := fun_mk (st := sCl) l_iC c_iC k_iC
  have b_iC := F_iC.binds (ps := ["self", "evening"]) fun _ _ _ _ _ _ us hl => match us, hl with | [_, _], _ => rfl
  have F_iM := fun_mk (st := sIM) l_iM c_iM k_iM
  have b_iM := F_iM.binds (ps := ["self", "many"]) fun _ _ _ _ _ _ us hl => match us, hl with | [_, _], _ => rfl
  have mC := PySem.W.mg_of X G aC
  have mCF := PySem.W.mg_of X G aCF
  have mCH := PySem.W.mg_of X G aCH
  have mCR := PySem.W.mg_of X G aCR
  have mCD := PySem.W.mg_of X G aCD
  have mCN := PySem.W.mg_of X G aCN
  have mCO := PySem.W.mg_of X G aCO
  have mCV := PySem.W.mg_of X G aCV
  have mCC := PySem.W.mg_of X G aCC
  have mCM := PySem.W.mg_of X G aCM
  have y_isinstance := PySem.W.mg_none_of X G z_isinstance
  have y_int := PySem.W.mg_none_of X G z_int
  have y_bool := PySem.W.mg_none_of X G z_bool
  have y_str := PySem.W.mg_none_of X G z_str
  have y_list := PySem.W.mg_none_of X G z_list
  have y_tuple := PySem.W.mg_none_of X G z_tuple
  have y_dict := PySem.W.mg_none_of X G z_dict
  have y_len := PySem.W.mg_none_of X G z_len
  have y_all := PySem.W.mg_none_of X G z_all
  have y_range := PySem.W.mg_none_of X G z_range
  have y_enumerate := PySem.W.mg_none_of X G z_enumerate
  have y_set := PySem.W.mg_none_of X G z_set
  have y_max := PySem.W.mg_none_of X G z_max
  have y_min := PySem.W.mg_none_of X G z_min
  have y_zip := PySem.W.mg_none_of X G z_zip
  have y_sum := PySem.W.mg_none_of X G z_sum
  have y_repr := PySem.W.mg_none_of X G z_repr
  have B : Bl mg := ⟨y_isinstance, y_int, y_bool, y_str, y_list, y_tuple, y_dict, y_len, y_all⟩
  have S : Signs mg := ⟨⟨_, PySem.W.mg_of X G sgL⟩, ⟨_, PySem.W.mg_of X G sgF⟩, ⟨_, PySem.W.mg_of X G sgN⟩⟩
  have TF : FeC K mg CF := ⟨mCF, fsp, frd, fin⟩
  have OCH : OexC K CH := ⟨⟨_, _, _, _, _, _, _, _, _, _, _, _, _, _, _, xCH, rCH⟩, saCH, exCH, tyCH, kpCH⟩
  have ECH : ErC K mg "BadHouses" CH f_iH := ⟨mCH, OCH, inCH_index, a_iH, ty_iH⟩
  have OCR : OexC K CR := ⟨⟨_, _, _, _, _, _, _, _, _, _, _, _, _, _, _, xCR, rCR⟩, saCR, exCR, tyCR, kpCR⟩
  have ECR : ErC K mg "BadRoads" CR f_iR := ⟨mCR, OCR, inCR_index, a_iR, ty_iR⟩
  have OCD : OexC K CD := ⟨⟨_, _, _, _, _, _, _, _, _, _, _, _, _, _, _, xCD, rCD⟩, saCD, exCD, tyCD, kpCD⟩
  have ECD : ErC K mg "BadHeads" CD f_iD := ⟨mCD, OCD, inCD_index, a_iD, ty_iD⟩
  have OCN : OexC K CN := ⟨⟨_, _, _, _, _, _, _, _, _, _, _, _, _, _, _, xCN, rCN⟩, saCN, exCN, tyCN, kpCN⟩
  have ECN : ErF K mg "NoHouse" CN f_iN ["house"] := ⟨mCN, OCN, fun n hn => by rw [List.mem_singleton.mp hn]; exact inCN_house, a_iN, ty_iN⟩
  have OCO : OexC K CO := ⟨⟨_, _, _, _, _, _, _, _, _, _, _, _, _, _, _, xCO, rCO⟩, saCO, exCO, tyCO, kpCO⟩
  have OCV : OexC K CV := ⟨⟨_, _, _, _, _, _, _, _, _, _, _, _, _, _, _, xCV, rCV⟩, saCV, exCV, tyCV, kpCV⟩
  have ECV : ErF K mg "BadValley" CV f_iV ["thing"] := ⟨mCV, OCV, fun n hn => by rw [List.mem_singleton.mp hn]; exact inCV_thing, a_iV, ty_iV⟩
  have OCC : OexC K CC := ⟨⟨_, _, _, _, _, _, _, _, _, _, _, _, _, _, _, xCC, rCC⟩, saCC, exCC, tyCC, kpCC⟩
  have ECC : ErF K mg "BadEvening" CC f_iC ["evening"] := ⟨mCC, OCC, fun n hn => by rw [List.mem_singleton.mp hn]; exact inCC_evening, a_iC, ty_iC⟩
  have OCM : OexC K CM := ⟨⟨_, _, _, _, _, _, _, _, _, _, _, _, _, _, _, xCM, rCM⟩, saCM, exCM, tyCM, kpCM⟩
  have ECM : ErF K mg "BadMany" CM f_iM ["many"] := ⟨mCM, OCM, fun n hn => by rw [List.mem_singleton.mp hn]; exact inCM_many, a_iM, ty_iM⟩
  have noO : ∀ n ∈ (["one", "other"] : List Str), PySem.W.findIn K (.ref CO) n = some none := fun n hn => by
    rcases List.mem_cons.mp hn with e | hn
    · rw [e]; exact inCO_one
    · rw [List.mem_singleton.mp hn]; exact inCO_other
  have ECO : ErF K mg "NoRoad" CO f_iO ["one", "other"] := ⟨mCO, OCO, noO, a_iO, ty_iO⟩
  have XfCV : XfC K CV := ⟨gaCV, ggCV, exCV, hdCV⟩
  have XfCC : XfC K CC := ⟨gaCC, ggCC, exCC, hdCC⟩
  have XfCN : XfC K CN := ⟨gaCN, ggCN, exCN, hdCN⟩
  have XfCM : XfC K CM := ⟨gaCM, ggCM, exCM, hdCM⟩
  have VT0 : VcT K C := ⟨⟨pg, hd, po, sa⟩, n1, n2, n3, n4, n5, n6⟩
  have VE0 : VcE K C := ⟨VT0, ha, hn, htk, hm, own, all_of_kit kno⟩
  have MH : MetU K mg CV CC CN CM := ⟨mCV, mCC, em_vv, em_nv, em_nn, XfCV, XfCC, inCV_thing, inCC_evening, mCN, em_ov, em_on, em_oo, XfCN, inCN_house, mCM, em_mv, em_mn, em_mo, em_mm, XfCM, inCM_many⟩
  have MK : Mk K C f_VI := ⟨mk, a_VI, i_VI, kc⟩
  refine ⟨PySem.W.fnOf "law" "law" (defArgs sLaw) (defBody sLaw) (defScope sLaw) .none kV_law dc_law pm_law an_law cd_law ct_law, cRf, TPR, spLaw K [(TPR, qRef)], hTR, tpNR, PySem.W.codeHd_of_K X tpCR, fun s v => .of_eq rfl, fun H a ns hl hT hS => ⟨a, ns, rfl, hS, by omega, fun p hp => ?_, fun _ => rfl⟩, fun base KB NB TBR => ?_⟩
  · rw [List.mem_singleton.mp hp]; exact LamX.TabS.nil hT
  have uR : ∀ p ∈ [(TPR, qRef)], p.1 = TPR → p.2 = qRef := fun p hp _ => by rw [List.mem_singleton.mp hp]
  have g_draw : FnOk l.prog w K mg base CX0 1 f_draw _ ["draws", "many"] (spDraw) := ok_draw F_draw y_int
  have g_pick : FnOk l.prog w K mg base CX0 2 f_pick _ ["draws", "some"] (spPick) := ok_pick F_pick g_draw b_draw k_draw m_draw y_len
  have g_mixed : FnOk l.prog w K mg base CX0 2 f_mixed _ ["draws", "some"] (spMixed) := ok_mixed F_mixed g_draw b_draw k_draw m_draw y_len y_list
  have g_src : FnOk l.prog w K mg base CX0 1 f_src _ ["script", "place"] (spSrc K) := ok_source F_src B y_sum
  have g_VN : FnOk l.prog w K mg base CX0 3 f_VN _ ["draws", "many"] (spVNc) := ok_VN F_VN B y_range y_max g_mixed b_mixed k_mixed m_mixed
  have g_Ro5 : FnOk l.prog w K mg base CX0 3 f_Ro5 _ ["draws", "names"] (spRo5) := ok_Ro5 F_Ro5 B y_range y_max g_draw b_draw k_draw m_draw g_mixed b_mixed k_mixed m_mixed
  have g_He5 : FnOk l.prog w K mg base CX0 3 f_He5 _ ["draws", "names"] (spHe5) := ok_He5 F_He5 g_draw b_draw k_draw m_draw g_pick b_pick k_pick m_pick
  have g_Cs : FnOk l.prog w K mg base CX0 4 f_Cs _ ["draws", "most"] (spCs) := ok_Cs F_Cs y_min g_draw b_draw k_draw m_draw g_mixed b_mixed k_mixed m_mixed g_VN b_VN k_VN m_VN g_Ro5 b_Ro5 k_Ro5 m_Ro5 g_He5 b_He5 k_He5 m_He5
  have g_lo0 : FnOk l.prog w K mg base CX0 1 f_lo _ ["draws", "thing"] (spLo (Flat0 K) 0) := ok_lo0 F_lo B
  have g_lo1 : FnOk l.prog w K mg base CX0 2 f_lo _ ["draws", "thing"] (spLo (SeqR (Flat0 K)) 1) := ok_lo mon_flat0 F_lo B m_lo b_lo g_draw b_draw k_draw m_draw (Nat.le_refl 1) g_lo0
  have g_lo2 : FnOk l.prog w K mg base CX0 3 f_lo _ ["draws", "thing"] (spLo (SeqR (SeqR (Flat0 K))) 61) := ok_lo (mon_seq mon_flat0) F_lo B m_lo b_lo g_draw b_draw k_draw m_draw (by decide) g_lo1
  have g_sm1 : FnOk l.prog w K mg base CX0 1 f_sm _ ["found", "due"] (spSm (RF 1)) := ok_smF (RF.mon 0) F_sm B y_zip m_sm b_sm ok_sm0
  have g_sm2 : FnOk l.prog w K mg base CX0 2 f_sm _ ["found", "due"] (spSm (RF 2)) := ok_smF (RF.mon 1) F_sm B y_zip m_sm b_sm g_sm1
  have g_sm3 : FnOk l.prog w K mg base CX0 3 f_sm _ ["found", "due"] (spSm (RF 3)) := ok_smF (RF.mon 2) F_sm B y_zip m_sm b_sm g_sm2
  have g_sm4 : FnOk l.prog w K mg base CX0 4 f_sm _ ["found", "due"] (spSm (RF 4)) := ok_smF (RF.mon 3) F_sm B y_zip m_sm b_sm g_sm3
  have g_sm5 : FnOk l.prog w K mg base CX0 5 f_sm _ ["found", "due"] (spSm (RF 5)) := ok_smF (RF.mon 4) F_sm B y_zip m_sm b_sm g_sm4
  have g_sm6 : FnOk l.prog w K mg base CX0 6 f_sm _ ["found", "due"] (spSm (RF 6)) := ok_smF (RF.mon 5) F_sm B y_zip m_sm b_sm g_sm5
  have g_sm7 : FnOk l.prog w K mg base CX0 7 f_sm _ ["found", "due"] (spSm (RF 7)) := ok_smF (RF.mon 6) F_sm B y_zip m_sm b_sm g_sm6
  have g_NH : FnOk l.prog w K mg base (L2.CX l.prog w) 4 f_NH _ ["houses"] (spNH K CH) := ok_NH F_NH B S y_enumerate y_set F_isList b_isList m_isList F_isName b_isName m_isName TF ECH F_iH b_iH
  have g_NR : FnOk l.prog w K mg base (L2.CX l.prog w) 4 f_NR _ ["houses", "roads"] (spNR K CR) := ok_NR F_NR B y_enumerate F_isList b_isList m_isList F_isPair b_isPair m_isPair F_keys b_keys m_keys F_lead b_lead m_lead TF ECR F_iR b_iR
  have g_ND : FnOk l.prog w K mg base (L2.CX l.prog w) 4 f_ND _ ["houses", "heads"] (spND K CD) := ok_ND F_ND B y_enumerate F_isList b_isList m_isList F_fromOne b_fromOne m_fromOne F_isInt b_isInt m_isInt TF ECD F_iD b_iD
  have g_VS : FnOk l.prog w K mg base (L2.CX l.prog w) 5 f_VI _ ["self", "houses", "roads", "heads"] (spVS K C) := ok_VS F_VI B y_enumerate VT0 g_NH k_NH b_NH m_NH g_NR k_NR b_NR m_NR g_ND k_ND b_ND m_ND F_BW b_BW m_BW F_NB b_NB m_NB
  have g_VM : FnOk l.prog w K mg base CX0 7 f_VM _ ["draws", "case"] (spMd C) := ok_Md F_VM mC MK g_VS b_VI g_lo1 g_lo2 b_lo k_lo m_lo
  have g_Is : FnOk l.prog w K mg base CX0 1 f_Is _ ["self", "thing"] (spIs K C) := ok_Is F_Is B VT0
  have g_Ne : FnOk l.prog w K mg base (L2.CX l.prog w) 3 f_Ne _ ["self", "house"] (spNe K C CN) := ok_Ne F_Ne B VT0 F_Is ⟨a_Is, i_Is, k_Is⟩ b_Is TF ECN F_iN b_iN
  have g_Pl : FnOk l.prog w K mg base (L2.CX l.prog w) 4 f_Pl _ ["self", "one", "other"] (spPl K C CN CO) := ok_Pl F_Pl B VT0 g_Ne ⟨a_Ne, i_Ne, k_Ne⟩ b_Ne TF ECO F_iO b_iO
  have g_Ro : FnOk l.prog w K mg base CX0 1 f_Ro _ ["self"] (spRo C) := ok_Ro F_Ro B VT0
  have g_Ho : FnOk l.prog w K mg base CX0 1 f_Ho _ ["self"] (spHo C) := ok_Ho F_Ho B VT0
  have g_Nr : FnOk l.prog w K mg base CX0 1 f_Nr _ ["self", "start"] (spNr C) := ok_Nr F_Nr VT0
  have g_Nv : FnOk l.prog w K mg base (L2.CX l.prog w) 3 f_Nv _ ["valley"] (spNv K C CV) := ok_Nv F_Nv B VE0 mC TF ECV F_iV b_iV
  have g_isList : FnOk l.prog w K mg base CX0 1 f_isList _ ["thing"] (spIsList K) := ok_isList F_isList B
  have g_isPair : FnOk l.prog w K mg base CX0 2 f_isPair _ ["thing"] (spIsPair K) := ok_isPair F_isPair F_isList b_isList m_isList B
  have g_Rd : FnOk l.prog w K mg base CX0 3 f_Rd _ ["self", "thing"] (spRd K C) := ok_Rd F_Rd B VT0 g_isPair b_isPair k_isPair m_isPair g_Is ⟨a_Is, i_Is, k_Is⟩ b_Is
  have g_Bg : FnOk l.prog w K mg base CX0 5 f_Bg _ ["valley", "thing"] (spBg K C) := ok_Bg F_Bg B VT0 y_set g_isList b_isList k_isList m_isList g_Rd ⟨a_Rd, i_Rd, k_Rd⟩ b_Rd g_Pl ⟨a_Pl, i_Pl, k_Pl⟩ b_Pl
  have g_Ep : FnOk l.prog w K mg base CX0 6 f_Ep _ ["valley", "thing"] (spEp K C) := ok_Ep F_Ep B VT0 g_Bg b_Bg k_Bg m_Bg g_Ro ⟨a_Ro, i_Ro, k_Ro⟩ b_Ro
  have g_Cg : FnOk l.prog w K mg base (L2.CX l.prog w) 7 f_Cg _ ["valley", "evening"] (spCg K C CC) := ok_Cg F_Cg g_Ep b_Ep k_Ep m_Ep TF ECC F_iC b_iC
  have g_isNum : FnOk l.prog w K mg base CX0 2 f_isNum _ ["thing"] (spNum K) := ok_number F_isNum F_isInt b_isInt m_isInt B
  have g_Nm : FnOk l.prog w K mg base (L2.CX l.prog w) 3 f_Nm _ ["valley", "many"] (spNm K C CM) := ok_Nm F_Nm B VT0 g_isNum b_isNum k_isNum m_isNum g_Ro ⟨a_Ro, i_Ro, k_Ro⟩ b_Ro TF ECM F_iM b_iM
  have g_Hn : FnOk l.prog w K mg base CX0 2 f_Hn _ ["valley", "places", "gate"] (spHn C) := ok_Hn F_Hn VT0 g_Nr ⟨a_Nr, i_Nr, k_Nr⟩ b_Nr g_Ho ⟨a_Ho, i_Ho, k_Ho⟩ b_Ho g_Ro ⟨a_Ro, i_Ro, k_Ro⟩ b_Ro
  have g_Gl : FnOk l.prog w K mg base (L2.CX l.prog w) 8 f_Gl _ ["valley", "evening", "gate"] (spGl K C CV CC CN) := ok_Gl F_Gl VT0 g_Nv b_Nv k_Nv m_Nv g_Cg b_Cg k_Cg m_Cg g_Ne ⟨a_Ne, i_Ne, k_Ne⟩ b_Ne g_Hn b_Hn k_Hn m_Hn
  have g_Lb : FnOk l.prog w K mg base (L2.CX l.prog w) 8 f_Lb _ ["valley", "evening", "gate", "many"] (spLb9 K C CV CC CN CM) := ok_Lb F_Lb VT0 g_Nv b_Nv k_Nv m_Nv g_Cg b_Cg k_Cg m_Cg g_Ne ⟨a_Ne, i_Ne, k_Ne⟩ b_Ne g_Nm b_Nm k_Nm m_Nm g_Hn b_Hn k_Hn m_Hn g_Ho ⟨a_Ho, i_Ho, k_Ho⟩ b_Ho
  have g_Hs : FnOk l.prog w K mg base (L2.CX l.prog w) 8 f_Hs _ ["valley", "evening", "gate", "house"] (spHs9 K C CV CC CN) := ok_Hs F_Hs VT0 g_Nv b_Nv k_Nv m_Nv g_Cg b_Cg k_Cg m_Cg g_Ne ⟨a_Ne, i_Ne, k_Ne⟩ b_Ne g_Hn b_Hn k_Hn m_Hn
  have g_Hd : FnOk l.prog w K mg base CX0 4 f_Hd _ ["draws", "roads"] (spHd K) := ok_Hd F_Hd g_draw b_draw k_draw m_draw g_lo2 b_lo k_lo m_lo
  have g_Ne9 : FnOk l.prog w K mg base CX0 1 f_Ne9 _ ["names", "roads"] (spNe9) := ok_Ne9 F_Ne9 B
  have g_Ou9 : FnOk l.prog w K mg base CX0 1 f_Ou9 _ ["near", "gate"] (spOu9) := ok_Ou9 F_Ou9
  have g_Hd9 : FnOk l.prog w K mg base CX0 2 f_Hd9 _ ["names", "roads", "evening", "gate"] (spHd9) := ok_Hd9 F_Hd9 B g_Ne9 b_Ne9 k_Ne9 m_Ne9 g_Ou9 b_Ou9 k_Ou9 m_Ou9
  have g_Nv9 : FnOk l.prog w K mg base CX0 1 f_Nv9 _ ["names"] (spNv9 K) := ok_Nv9 F_Nv9 B
  have g_No9 : FnOk l.prog w K mg base CX0 1 f_No9 _ ["roads"] (spNo9 K) := ok_No9 F_No9 B
  have g_Lg : FnOk l.prog w K mg base CX0 1 f_Lg _ ["thing"] (spLg K) := ok_Lg F_Lg B
  have g_Or : Wr.FnG l.prog w K mg base CX0 9 f_Or _ ["draws", "made", "case", "evening", "gate"] (spOr C) := ok_Or F_Or B y_repr g_Hd9 b_Hd9 k_Hd9 m_Hd9 g_Hd b_Hd k_Hd m_Hd g_Gl b_Gl (kb_Gl F_Gl) k_Gl m_Gl g_Lb b_Lb (kb_Lb F_Lb) k_Lb m_Lb g_Hs b_Hs (kb_Hs F_Hs) k_Hs m_Hs g_sm7 b_sm k_sm m_sm g_draw b_draw k_draw m_draw g_mixed b_mixed k_mixed m_mixed
  have g_Rr : FnOk l.prog w K mg base CX0 11 f_Rr _ ["made", "names", "roads", "evening"] (spRr9 C [(TPR, qRef)]) := ok_Rr B l_Rr c_Rr MH F_met b_met m_met TBR (List.mem_singleton.mpr rfl) uR g_Nv9 b_Nv9 k_Nv9 m_Nv9 g_No9 b_No9 k_No9 m_No9 g_Gl b_Gl k_Gl m_Gl g_Lb b_Lb k_Lb m_Lb g_Hs b_Hs k_Hs m_Hs g_Lg b_Lg k_Lg m_Lg g_sm7 b_sm k_sm m_sm
  have b_Rr : Binds K (PySem.W.fnOf "_law_refused_right" "_law_refused_right" (defArgs sRr) (defBody sRr) (defScope sRr) .none kV_Rr dc_Rr pm_Rr an_Rr (.ref cRf) ct_Rr) ["made", "names", "roads", "evening"] [] := Binds.all fun us hl => match us, hl with | [_, _, _, _], _ => rfl
  exact ok_law F_law y_range g_src b_src k_src m_src g_Cs b_Cs k_Cs m_Cs g_VM b_VM k_VM m_VM g_mixed b_mixed k_mixed m_mixed g_pick b_pick k_pick m_pick g_Or b_Or k_Or m_Or g_Rr b_Rr k_Rr m_Rr
end K1
end
-- MHead
open PySem PySem.W PyProof.Rows
set_option Elab.async false
set_option maxRecDepth 100000 in
set_option maxHeartbeats 0 in
theorem PySem.Challenge.cw_feasted_k29_whole_lists_at_gates_holds : PySem.Challenge.rw_feasted_k29_whole_lists_at_gates.Holds := by
  w_on; o_law; k_head; (case hw => w_witness2)
  k_fill
  refine Wr.walk_G (l := PySem.Challenge.rw_feasted_k29_whole_lists_at_gates) (n := 63) (k := 12) (x := "script") (CX := fun _ => C8.CX0) rfl (by decide) rfl ⟨rfl, by decide, by decide⟩ (fun w h Y => PySem.W.km_in_of Y) ?F (fun _ _ _ _ _ z => z)
  case F =>
    intro w mg fa h Y KX G hmg
    refine' K1.all_mk KX G hmg (PySem.W.km_tabs_of Y _ (List.mem_singleton.mpr rfl)) ?a_isInt ?l_isInt ?c_isInt ?k_isInt ?a_isNum ?l_isNum ?c_isNum ?k_isNum ?a_fromOne ?l_fromOne ?c_fromOne ?k_fromOne ?a_isList ?l_isList ?c_isList ?k_isList ?a_isPair ?l_isPair ?c_isPair ?k_isPair ?a_isName ?l_isName ?c_isName ?k_isName ?a_draw ?l_draw ?c_draw ?k_draw ?a_pick ?l_pick ?c_pick ?k_pick ?a_mixed ?l_mixed ?c_mixed ?k_mixed ?a_ND ?l_ND ?c_ND ?k_ND ?a_NH ?l_NH ?c_NH ?k_NH ?a_NR ?l_NR ?c_NR ?k_NR ?a_keys ?l_keys ?c_keys ?k_keys ?a_lead ?l_lead ?c_lead ?k_lead ?a_BW ?l_BW ?c_BW ?k_BW ?a_NB ?l_NB ?c_NB ?k_NB ?a_Nv ?l_Nv ?c_Nv ?k_Nv ?a_Bg ?l_Bg ?c_Bg ?k_Bg ?a_Ep ?l_Ep ?c_Ep ?k_Ep ?a_Cg ?l_Cg ?c_Cg ?k_Cg ?a_Nm ?l_Nm ?c_Nm ?k_Nm ?a_Hn ?l_Hn ?c_Hn ?k_Hn ?a_Gl ?l_Gl ?c_Gl ?k_Gl ?a_Lb ?l_Lb ?c_Lb ?k_Lb ?a_Hs ?l_Hs ?c_Hs ?k_Hs ?a_src ?l_src ?c_src ?k_src ?a_VN ?l_VN ?c_VN ?k_VN ?a_Ro5 ?l_Ro5 ?c_Ro5 ?k_Ro5 ?a_He5 ?l_He5 ?c_He5 ?k_He5 ?a_Cs ?l_Cs ?c_Cs ?k_Cs ?a_lo ?l_lo ?c_lo ?k_lo ?a_VM ?l_VM ?c_VM ?k_VM ?a_sm ?l_sm ?c_sm ?k_sm ?a_met ?l_met ?c_met ?k_met ?a_Hd ?l_Hd ?c_Hd ?k_Hd ?a_Ne9 ?l_Ne9 ?c_Ne9 ?k_Ne9 ?a_Ou9 ?l_Ou9 ?c_Ou9 ?k_Ou9 ?a_Hd9 ?l_Hd9 ?c_Hd9 ?k_Hd9 ?a_Nv9 ?l_Nv9 ?c_Nv9 ?k_Nv9 ?a_No9 ?l_No9 ?c_No9 ?k_No9 ?a_Lg ?l_Lg ?c_Lg ?k_Lg ?a_Or ?l_Or ?c_Or ?k_Or ?a_Rr ?l_Rr ?c_Rr ?k_Rr ?a_law ?l_law ?c_law ?k_law ?aC ?aCF ?aCH ?aCR ?aCD ?aCN ?aCO ?aCV ?aCC ?aCM ?a_VI ?i_VI ?l_VI ?c_VI ?k_VI ?a_Ho ?i_Ho ?l_Ho ?c_Ho ?k_Ho ?a_Ro ?i_Ro ?l_Ro ?c_Ro ?k_Ro ?a_Is ?i_Is ?l_Is ?c_Is ?k_Is ?a_Ne ?i_Ne ?l_Ne ?c_Ne ?k_Ne ?a_Pl ?i_Pl ?l_Pl ?c_Pl ?k_Pl ?a_Rd ?i_Rd ?l_Rd ?c_Rd ?k_Rd ?a_Nr ?i_Nr ?l_Nr ?c_Nr ?k_Nr ?a_iH ?i_iH ?l_iH ?c_iH ?k_iH ?a_iR ?i_iR ?l_iR ?c_iR ?k_iR ?a_iD ?i_iD ?l_iD ?c_iD ?k_iD ?a_iN ?i_iN ?l_iN ?c_iN ?k_iN ?a_iO ?i_iO ?l_iO ?c_iO ?k_iO ?a_iV ?i_iV ?l_iV ?c_iV ?k_iV ?a_iC ?i_iC ?l_iC ?c_iC ?k_iC ?a_iM ?i_iM ?l_iM ?c_iM ?k_iM ?pg ?hd ?po ?sa ?mk ?kc ?n1 ?n2 ?n3 ?n4 ?n5 ?n6 ?ha ?hn ?htk ?hm ?own ?kno ?fsp ?frd ?fin ?xCH ?rCH ?saCH ?exCH ?tyCH ?kpCH ?inCH_index ?ty_iH ?xCR ?rCR ?saCR ?exCR ?tyCR ?kpCR ?inCR_index ?ty_iR ?xCD ?rCD ?saCD ?exCD ?tyCD ?kpCD ?inCD_index ?ty_iD ?xCN ?rCN ?saCN ?exCN ?tyCN ?kpCN ?inCN_house ?ty_iN ?xCO ?rCO ?saCO ?exCO ?tyCO ?kpCO ?inCO_one ?inCO_other ?ty_iO ?xCV ?rCV ?saCV ?exCV ?tyCV ?kpCV ?inCV_thing ?ty_iV ?xCC ?rCC ?saCC ?exCC ?tyCC ?kpCC ?inCC_evening ?ty_iC ?xCM ?rCM ?saCM ?exCM ?tyCM ?kpCM ?inCM_many ?ty_iM ?gaCV ?ggCV ?hdCV ?gaCC ?ggCC ?hdCC ?gaCN ?ggCN ?hdCN ?gaCM ?ggCM ?hdCM ?em_vv ?em_nv ?em_nn ?em_ov ?em_on ?em_oo ?em_mv ?em_mn ?em_mo ?em_mm ?sgL ?sgF ?sgN ?z_isinstance ?z_int ?z_bool ?z_str ?z_list ?z_tuple ?z_dict ?z_len ?z_all ?z_range ?z_enumerate ?z_set ?z_max ?z_min ?z_zip ?z_sum ?z_repr ?tpNR ?tpCR
    (case a_isInt => (k_is))
    (case l_isInt => (k_is))
    (case c_isInt => (k_is))
    (case k_isInt => (k_is))
    (case a_isNum => (k_is))
    (case l_isNum => (k_is))
    (case c_isNum => (k_is))
    (case k_isNum => (k_is))
    (case a_fromOne => (k_is))
    (case l_fromOne => (k_is))
    (case c_fromOne => (k_is))
    (case k_fromOne => (k_is))
    (case a_isList => (k_is))
    (case l_isList => (k_is))
    (case c_isList => (k_is))
    (case k_isList => (k_is))
    (case a_isPair => (k_is))
    (case l_isPair => (k_is))
    (case c_isPair => (k_is))
    (case k_isPair => (k_is))
    (case a_isName => (k_is))
    (case l_isName => (k_is))
    (case c_isName => (k_is))
    (case k_isName => (k_is))
    (case a_draw => (k_is))
    (case l_draw => (k_is))
    (case c_draw => (k_is))
    (case k_draw => (k_is))
    (case a_pick => (k_is))
    (case l_pick => (k_is))
    (case c_pick => (k_is))
    (case k_pick => (k_is))
    (case a_mixed => (k_is))
    (case l_mixed => (k_is))
    (case c_mixed => (k_is))
    (case k_mixed => (k_is))
    (case a_ND => (k_is))
    (case l_ND => (k_is))
    (case c_ND => (k_is))
    (case k_ND => (k_is))
    (case a_NH => (k_is))
    (case l_NH => (k_is))
    (case c_NH => (k_is))
    (case k_NH => (k_is))
    (case a_NR => (k_is))
    (case l_NR => (k_is))
    (case c_NR => (k_is))
    (case k_NR => (k_is))
    (case a_keys => (k_is))
    (case l_keys => (k_is))
    (case c_keys => (k_is))
    (case k_keys => (k_is))
    (case a_lead => (k_is))
    (case l_lead => (k_is))
    (case c_lead => (k_is))
    (case k_lead => (k_is))
    (case a_BW => (k_is))
    (case l_BW => (k_is))
    (case c_BW => (k_is))
    (case k_BW => (k_is))
    (case a_NB => (k_is))
    (case l_NB => (k_is))
    (case c_NB => (k_is))
    (case k_NB => (k_is))
    (case a_Nv => (k_is))
    (case l_Nv => (k_is))
    (case c_Nv => (k_is))
    (case k_Nv => (k_is))
    (case a_Bg => (k_is))
    (case l_Bg => (k_is))
    (case c_Bg => (k_is))
    (case k_Bg => (k_is))
    (case a_Ep => (k_is))
    (case l_Ep => (k_is))
    (case c_Ep => (k_is))
    (case k_Ep => (k_is))
    (case a_Cg => (k_is))
    (case l_Cg => (k_is))
    (case c_Cg => (k_is))
    (case k_Cg => (k_is))
    (case a_Nm => (k_is))
    (case l_Nm => (k_is))
    (case c_Nm => (k_is))
    (case k_Nm => (k_is))
    (case a_Hn => (k_is))
    (case l_Hn => (k_is))
    (case c_Hn => (k_is))
    (case k_Hn => (k_is))
    (case a_Gl => (k_is))
    (case l_Gl => (k_is))
    (case c_Gl => (k_is))
    (case k_Gl => (k_is))
    (case a_Lb => (k_is))
    (case l_Lb => (k_is))
    (case c_Lb => (k_is))
    (case k_Lb => (k_is))
    (case a_Hs => (k_is))
    (case l_Hs => (k_is))
    (case c_Hs => (k_is))
    (case k_Hs => (k_is))
    (case a_src => (k_is))
    (case l_src => (k_is))
    (case c_src => (k_is))
    (case k_src => (k_is))
    (case a_VN => (k_is))
    (case l_VN => (k_is))
    (case c_VN => (k_is))
    (case k_VN => (k_is))
    (case a_Ro5 => (k_is))
    (case l_Ro5 => (k_is))
    (case c_Ro5 => (k_is))
    (case k_Ro5 => (k_is))
    (case a_He5 => (k_is))
    (case l_He5 => (k_is))
    (case c_He5 => (k_is))
    (case k_He5 => (k_is))
    (case a_Cs => (k_is))
    (case l_Cs => (k_is))
    (case c_Cs => (k_is))
    (case k_Cs => (k_is))
    (case a_lo => (k_is))
    (case l_lo => (k_is))
    (case c_lo => (k_is))
    (case k_lo => (k_is))
    (case a_VM => (k_is))
    (case l_VM => (k_is))
    (case c_VM => (k_is))
    (case k_VM => (k_is))
    (case a_sm => (k_is))
    (case l_sm => (k_is))
    (case c_sm => (k_is))
    (case k_sm => (k_is))
    (case a_met => (k_is))
    (case l_met => (k_is))
    (case c_met => (k_is))
    (case k_met => (k_is))
    (case a_Hd => (k_is))
    (case l_Hd => (k_is))
    (case c_Hd => (k_is))
    (case k_Hd => (k_is))
    (case a_Ne9 => (k_is))
    (case l_Ne9 => (k_is))
    (case c_Ne9 => (k_is))
    (case k_Ne9 => (k_is))
    (case a_Ou9 => (k_is))
    (case l_Ou9 => (k_is))
    (case c_Ou9 => (k_is))
    (case k_Ou9 => (k_is))
    (case a_Hd9 => (k_is))
    (case l_Hd9 => (k_is))
    (case c_Hd9 => (k_is))
    (case k_Hd9 => (k_is))
    (case a_Nv9 => (k_is))
    (case l_Nv9 => (k_is))
    (case c_Nv9 => (k_is))
    (case k_Nv9 => (k_is))
    (case a_No9 => (k_is))
    (case l_No9 => (k_is))
    (case c_No9 => (k_is))
    (case k_No9 => (k_is))
    (case a_Lg => (k_is))
    (case l_Lg => (k_is))
    (case c_Lg => (k_is))
    (case k_Lg => (k_is))
    (case a_Or => (k_is))
    (case l_Or => (k_is))
    (case c_Or => (k_is))
    (case k_Or => (k_is))
    (case a_Rr => (k_is))
    (case l_Rr => (k_is))
    (case c_Rr => (k_is))
    (case k_Rr => (k_is))
    (case a_law => (k_is))
    (case l_law => (k_is))
    (case c_law => (k_is))
    (case k_law => (k_is))
    (case aC => (k_is))
    (case aCF => (k_is))
    (case aCH => (k_is))
    (case aCR => (k_is))
    (case aCD => (k_is))
    (case aCN => (k_is))
    (case aCO => (k_is))
    (case aCV => (k_is))
    (case aCC => (k_is))
    (case aCM => (k_is))
    (case a_VI => (k_is))
    (case i_VI => (k_is))
    (case l_VI => (k_is))
    (case c_VI => (k_is))
    (case k_VI => (k_is))
    (case a_Ho => (k_is))
    (case i_Ho => (k_is))
    (case l_Ho => (k_is))
    (case c_Ho => (k_is))
    (case k_Ho => (k_is))
    (case a_Ro => (k_is))
    (case i_Ro => (k_is))
    (case l_Ro => (k_is))
    (case c_Ro => (k_is))
    (case k_Ro => (k_is))
    (case a_Is => (k_is))
    (case i_Is => (k_is))
    (case l_Is => (k_is))
    (case c_Is => (k_is))
    (case k_Is => (k_is))
    (case a_Ne => (k_is))
    (case i_Ne => (k_is))
    (case l_Ne => (k_is))
    (case c_Ne => (k_is))
    (case k_Ne => (k_is))
    (case a_Pl => (k_is))
    (case i_Pl => (k_is))
    (case l_Pl => (k_is))
    (case c_Pl => (k_is))
    (case k_Pl => (k_is))
    (case a_Rd => (k_is))
    (case i_Rd => (k_is))
    (case l_Rd => (k_is))
    (case c_Rd => (k_is))
    (case k_Rd => (k_is))
    (case a_Nr => (k_is))
    (case i_Nr => (k_is))
    (case l_Nr => (k_is))
    (case c_Nr => (k_is))
    (case k_Nr => (k_is))
    (case a_iH => (k_is))
    (case i_iH => (k_is))
    (case l_iH => (k_is))
    (case c_iH => (k_is))
    (case k_iH => (k_is))
    (case a_iR => (k_is))
    (case i_iR => (k_is))
    (case l_iR => (k_is))
    (case c_iR => (k_is))
    (case k_iR => (k_is))
    (case a_iD => (k_is))
    (case i_iD => (k_is))
    (case l_iD => (k_is))
    (case c_iD => (k_is))
    (case k_iD => (k_is))
    (case a_iN => (k_is))
    (case i_iN => (k_is))
    (case l_iN => (k_is))
    (case c_iN => (k_is))
    (case k_iN => (k_is))
    (case a_iO => (k_is))
    (case i_iO => (k_is))
    (case l_iO => (k_is))
    (case c_iO => (k_is))
    (case k_iO => (k_is))
    (case a_iV => (k_is))
    (case i_iV => (k_is))
    (case l_iV => (k_is))
    (case c_iV => (k_is))
    (case k_iV => (k_is))
    (case a_iC => (k_is))
    (case i_iC => (k_is))
    (case l_iC => (k_is))
    (case c_iC => (k_is))
    (case k_iC => (k_is))
    (case a_iM => (k_is))
    (case i_iM => (k_is))
    (case l_iM => (k_is))
    (case c_iM => (k_is))
    (case k_iM => (k_is))
    (case pg => (k_is))
    (case hd => (k_is))
    (case po => (k_is))
    (case sa => (k_is))
    (case mk => (k_is))
    (case kc => (k_is))
    (case n1 => (k_is))
    (case n2 => (k_is))
    (case n3 => (k_is))
    (case n4 => (k_is))
    (case n5 => (k_is))
    (case n6 => (k_is))
    (case ha => (k_is))
    (case hn => (k_is))
    (case htk => (k_is))
    (case hm => (k_is))
    (case own => (kernel_rfl))
    (case kno => (kernel_rfl))
    (case fsp => (k_is))
    (case frd => (k_is))
    (case fin => (k_is))
    (case xCH => (k_is))
    (case rCH => (first | kernel_rfl | decide +kernel))
    (case saCH => (k_is))
    (case exCH => (k_is))
    (case tyCH => (k_is))
    (case kpCH => (k_is))
    (case inCH_index => (k_is))
    (case ty_iH => (k_is))
    (case xCR => (k_is))
    (case rCR => (first | kernel_rfl | decide +kernel))
    (case saCR => (k_is))
    (case exCR => (k_is))
    (case tyCR => (k_is))
    (case kpCR => (k_is))
    (case inCR_index => (k_is))
    (case ty_iR => (k_is))
    (case xCD => (k_is))
    (case rCD => (first | kernel_rfl | decide +kernel))
    (case saCD => (k_is))
    (case exCD => (k_is))
    (case tyCD => (k_is))
    (case kpCD => (k_is))
    (case inCD_index => (k_is))
    (case ty_iD => (k_is))
    (case xCN => (k_is))
    (case rCN => (first | kernel_rfl | decide +kernel))
    (case saCN => (k_is))
    (case exCN => (k_is))
    (case tyCN => (k_is))
    (case kpCN => (k_is))
    (case inCN_house => (k_is))
    (case ty_iN => (k_is))
    (case xCO => (k_is))
    (case rCO => (first | kernel_rfl | decide +kernel))
    (case saCO => (k_is))
    (case exCO => (k_is))
    (case tyCO => (k_is))
    (case kpCO => (k_is))
    (case inCO_one => (k_is))
    (case inCO_other => (k_is))
    (case ty_iO => (k_is))
    (case xCV => (k_is))
    (case rCV => (first | kernel_rfl | decide +kernel))
    (case saCV => (k_is))
    (case exCV => (k_is))
    (case tyCV => (k_is))
    (case kpCV => (k_is))
    (case inCV_thing => (k_is))
    (case ty_iV => (k_is))
    (case xCC => (k_is))
    (case rCC => (first | kernel_rfl | decide +kernel))
    (case saCC => (k_is))
    (case exCC => (k_is))
    (case tyCC => (k_is))
    (case kpCC => (k_is))
    (case inCC_evening => (k_is))
    (case ty_iC => (k_is))
    (case xCM => (k_is))
    (case rCM => (first | kernel_rfl | decide +kernel))
    (case saCM => (k_is))
    (case exCM => (k_is))
    (case tyCM => (k_is))
    (case kpCM => (k_is))
    (case inCM_many => (k_is))
    (case ty_iM => (k_is))
    (case gaCV => (k_is))
    (case ggCV => (k_is))
    (case hdCV => (k_is))
    (case gaCC => (k_is))
    (case ggCC => (k_is))
    (case hdCC => (k_is))
    (case gaCN => (k_is))
    (case ggCN => (k_is))
    (case hdCN => (k_is))
    (case gaCM => (k_is))
    (case ggCM => (k_is))
    (case hdCM => (k_is))
    (case em_vv => (kernel_rfl))
    (case em_nv => (kernel_rfl))
    (case em_nn => (kernel_rfl))
    (case em_ov => (kernel_rfl))
    (case em_on => (kernel_rfl))
    (case em_oo => (kernel_rfl))
    (case em_mv => (kernel_rfl))
    (case em_mn => (kernel_rfl))
    (case em_mo => (kernel_rfl))
    (case em_mm => (kernel_rfl))
    (case sgL => (k_is))
    (case sgF => (k_is))
    (case sgN => (k_is))
    (case z_isinstance => (k_is))
    (case z_int => (k_is))
    (case z_bool => (k_is))
    (case z_str => (k_is))
    (case z_list => (k_is))
    (case z_tuple => (k_is))
    (case z_dict => (k_is))
    (case z_len => (k_is))
    (case z_all => (k_is))
    (case z_range => (k_is))
    (case z_enumerate => (k_is))
    (case z_set => (k_is))
    (case z_max => (k_is))
    (case z_min => (k_is))
    (case z_zip => (k_is))
    (case z_sum => (k_is))
    (case z_repr => (k_is))
    (case tpNR => (kernel_rfl))
    (case tpCR => (kernel_rfl))
