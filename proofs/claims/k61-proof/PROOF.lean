import PyProof.Rows.All
import Wide.All
import OpenK.AllK
import Wide.FinOn
import HandS.ForExc
import HandS.SetKeys
import PyProof.Rows.SetFrom
import HandS.ForMost
import HandS.Wide
import HandS.IsInst
import PySem.Challenge.RW_feasted_k61_whole_spans_of_dates
import HandS.ExcInit
import HandS.Walk
import KE.GoesEnum
import KE.GoesMore
import HandS.Iter
import HandS.DictComp
import PyProof.IsiBase
import PyProof.IsiH_set
import HandS.OwnEq
import HandS.NamedTupSort
import HandS.Style
import HandS.TryOnly
import PyProof.ReprLen
import PyProof.ReprReads
import HandS.Dict
import HandS.DictEq
import KE.KDictPairs
import PyProof.ReprRoads
import HandS.Base
import HandS.Call
import HandS.List
import HandS.Words
import HandS.EndTab
import HandS.Deep
import HandS.ListItems
import HandS.DictTup
import HandS.Zip
import HandS.TryMany
import HandS.ExcField
import HandS.MakeKwOnly
import HandS.Lambda
import HandS.Nested
import HandS.DeepEq
import KE.KItemsList
import KE.KDictZip
import HandS.TupMul
import KE.SortKeyHeap
import KE.SortData
import KE.KSortKey
import HandS.SortKw
import KE.KNestM
-- WSet
section
set_option Elab.async false
set_option linter.all false
set_option maxRecDepth 100000
set_option maxHeartbeats 3200000
/-! set(xs), xs a list of ints and texts: membership, and how many -/
namespace W0
open PySem PySem.Spec
/-- each once, in the order in which they come first -/
def once {α : Type} [DecidableEq α] : List α → List α → List α
  | acc, [] => acc
  | acc, x :: xs => once (if x ∈ acc then acc else acc ++ [x]) xs
/-- whether it is one of these -/
def inB {α : Type} [DecidableEq α] (xs : List α) (k : α) : Bool := decide (k ∈ xs)
theorem inB_iff {α : Type} [DecidableEq α] {xs : List α} {k : α} : inB xs k = true ↔ k ∈ xs := decide_eq_true_iff
theorem once_snoc {α : Type} [DecidableEq α] (x : α) : ∀ (xs acc : List α), once acc (xs ++ [x]) = if x ∈ once acc xs then once acc xs else once acc xs ++ [x]
  | [], acc => rfl
  | y :: ys, acc => once_snoc x ys _
theorem mem_once {α : Type} [DecidableEq α] (x : α) : ∀ (xs acc : List α), x ∈ once acc xs ↔ x ∈ acc ∨ x ∈ xs
  | [], acc => by simp [once]
  | y :: ys, acc => by
    show x ∈ once (if y ∈ acc then acc else acc ++ [y]) ys ↔ _
    rw [mem_once x ys]
    by_cases h : y ∈ acc
    · rw [if_pos h, List.mem_cons]
      constructor
      · rintro (h1 | h1)
        · exact .inl h1
        · exact .inr (.inr h1)
      · rintro (h1 | rfl | h1)
        · exact .inl h1
        · exact .inl h
        · exact .inr h1
    · rw [if_neg h, List.mem_append, List.mem_singleton, List.mem_cons, or_assoc]
theorem once_len {α : Type} [DecidableEq α] : ∀ (xs acc : List α), (once acc xs).length ≤ acc.length + xs.length
  | [], acc => Nat.le_refl _
  | y :: ys, acc => by
    have := once_len ys (if y ∈ acc then acc else acc ++ [y])
    show (once _ ys).length ≤ _
    have l : (if y ∈ acc then acc else acc ++ [y]).length ≤ acc.length + 1 := by
      split
      · omega
      · rw [List.length_append]; exact Nat.le_refl _
    rw [List.length_cons]
    omega
theorem once_nodup {α : Type} [DecidableEq α] : ∀ (xs acc : List α), (acc ++ xs).Nodup → once acc xs = acc ++ xs
  | [], acc, _ => by simp [once]
  | y :: ys, acc, h => by
    have hy : y ∉ acc := fun m => by
      rw [List.nodup_append] at h
      exact h.2.2 y m y (List.mem_cons_self ..) rfl
    show once (if y ∈ acc then acc else acc ++ [y]) ys = _
    have e : acc ++ y :: ys = (acc ++ [y]) ++ ys := by simp
    rw [if_neg hy, once_nodup ys (acc ++ [y]) (by rw [← e]; exact h), e]
theorem once_short {α : Type} [DecidableEq α] : ∀ (xs acc : List α), acc.Nodup → ¬ (acc ++ xs).Nodup → (once acc xs).length < acc.length + xs.length
  | [], acc, h, n => absurd (by simpa using h) n
  | y :: ys, acc, h, n => by
    show (once (if y ∈ acc then acc else acc ++ [y]) ys).length < _
    rw [List.length_cons]
    by_cases hy : y ∈ acc
    · rw [if_pos hy]
      have := once_len ys acc
      omega
    · rw [if_neg hy]
      have e : acc ++ y :: ys = (acc ++ [y]) ++ ys := by simp
      have h2 : (acc ++ [y]).Nodup := List.nodup_append.mpr ⟨h, by simp, fun a ha b hb => by
        rw [List.mem_singleton.mp hb]
        exact fun z => hy (z ▸ ha)⟩
      have := once_short ys (acc ++ [y]) h2 (by rw [← e]; exact n)
      rw [List.length_append] at this
      simp at this
      omega
section
variable {prog : Program} {w : World} {K : Type} [DecidableEq K] {knd : KeyKind prog w K}
/-- the set at a holds just these -/
def Holds (knd : KeyKind prog w K) (h : Heap) (a : Addr) (ks : List K) : Prop := h.SetOf knd a (inB ks) (once [] ks).length
theorem setOf_same {h : Heap} {a : Addr} {S S' : K → Bool} {n n' : Nat} (x : h.SetOf knd a S n) (e : ∀ k, S k = S' k) (en : n = n') : h.SetOf knd a S' n' := by
  cases (funext e : S = S')
  cases en
  exact x
theorem Holds.keep {h h' : Heap} {a : Addr} {ks : List K} (x : Holds knd h a ks) (k : ∀ o, h.get? a = some o → h'.get? a = some o) : Holds knd h' a ks := by
  have ⟨o, es, ep, t, ho, r⟩ := x
  exact ⟨o, es, ep, t, k o ho, r⟩
theorem Holds.more {h : Heap} {a : Addr} {ks : List K} {k : K} (x : h.SetOf knd a (fun j => inB ks j || decide (j = k)) (if inB ks k then (once [] ks).length else (once [] ks).length + 1)) : Holds knd h a (ks ++ [k]) := by
  refine setOf_same x (fun j => ?_) ?_
  · unfold inB
    rw [← Bool.decide_or]
    exact decide_eq_decide.mpr (by rw [List.mem_append, List.mem_singleton])
  · rw [once_snoc]
    have e : k ∈ once [] ks ↔ k ∈ ks := by rw [mem_once]; simp
    by_cases m : k ∈ ks
    · rw [if_pos (inB_iff.mpr m), if_pos (e.mpr m)]
    · rw [if_neg (fun z => m (e.mp z)), List.length_append]
      have : ¬ inB ks k = true := fun z => m (inB_iff.mp z)
      rw [if_neg this]
      rfl
variable {A : Around} {I : Addr} {fp wr : List Addr} {G : Array GenState → Array GenState → Prop} {n : Nat} {Pv : Nat → Value → Prop} {St : Nat → Shared → Prop} {R : Result → Shared → Prop}
/-- the loop of an update, from the i-th on -/
theorem loop_keys (W : WalksS prog w A.in1 I fp wr G n Pv St) {S : Addr} (off : S ∉ fp) {ks : List K} (lk : ks.length = n) (room : n + 1 < scanBound)
    (key : ∀ (i : Nat) (v : Value), Pv i v → ∃ k, ks[i]? = some k ∧ knd.is k v = true ∧ v.scannable = true) :
    ∀ (m i : Nat) (s : Shared), i + m = n → St i s → Holds knd s.heap S (ks.take i) → (∀ s', Moved (S :: wr) G s s' → Holds knd s'.heap S ks → R (.ok (.ret .none)) s') →
      codeAny (model prog w) A (.builtin "set.update.loop" ⟨[.ref S, .ref I], []⟩) R s
  | m, i, s, hm, st, hs, fin => by
    have wide : ∀ b, b ∈ wr → b ∈ S :: wr := fun b h => List.mem_cons_of_mem S h
    have offw : S ∉ wr := fun h => off (W.sub _ h)
    refine codeAny_builtin PyProof.Rows.F.entry_set_update_loop (by
      rw [Around.under_plainId PyProof.Rows.F.plain_set_update_loop _]
      show wpAny _ A.in1 (pyNext (.ref I) >>= _) _ _ s
      refine wpAny_bind ?_
      cases m with
      | zero =>
        have ein : i = n := by omega
        subst ein
        refine W.done s _ _ st fun s' mv => ?_
        show wpAny _ A.in1 (ret Value.none) _ _ s'
        have full : ks.take i = ks := by rw [← lk]; exact List.take_length
        rw [full] at hs
        exact wpAny_pure (fin s' (mv.mono wide) (hs.keep fun o e => mv.heap S o offw e))
      | succ m =>
        refine W.item i s _ _ (by omega) st fun v s' pv st' mv => ?_
        obtain ⟨k, hk, isk, sc⟩ := key i v pv
        have hs' := hs.keep fun o e => mv.heap S o offw e
        show wpAny _ A.in1 (holding [v] (setAdd S v) >>= _) _ _ s'
        refine wpAny_bind (wpAny_holding (by
          unfold setAdd
          refine wpAny_holding (wpAny_bind (knd.pyHash isk ?_))
          have small : (once [] (ks.take i)).length + 1 < scanBound := by
            have l1 := once_len (ks.take i) []
            have l2 : (ks.take i).length ≤ n := by rw [← lk]; exact List.length_take_le' ..
            simp only [List.length_nil] at l1
            omega
          refine wpAny_setAddHashed_of (knd := knd) (s := { s' with toks := s'.toks + 1 }) isk sc hs' small fun h' same grown => ?_
          have next : Holds knd h' S (ks.take (i + 1)) := by
            rw [List.take_succ, hk]
            exact Holds.more grown
          have st2 := W.frame (i + 1) s' h' (s'.toks + 1) st' (Nat.le_succ _) fun b hb o e => (same.2 b (fun z => off (z ▸ hb))).trans e
          refine wpAny_pure ⟨plainId_quiet PyProof.Rows.F.plain_set_update_loop _, loop_keys W off lk room key m (i + 1) _ (by omega) st2 next fun s2 mv2 all => ?_⟩
          refine fin s2 (Moved.trans W.gtrans ((mv.mono wide).then_heap (Nat.le_succ _) fun b o nb e => ?_) mv2) all
          exact (same.2 b (fun z => nb (z ▸ List.mem_cons_self ..))).trans e)))
end
end W0
namespace W0
open PySem PySem.Spec
section
variable {prog : Program} {w : World} {K : Type} [DecidableEq K] {knd : KeyKind prog w K} {A : Around} {E : Value → Shared → Prop} {s : Shared}
/-- an empty set, just made on top of a heap -/
abbrev emptyOn (h : Heap) (led : Bool) : Heap := h.push { cls := .type "set", dict := none, data := .set #[] 0 (.fresh 0 0 led) }
theorem emptyOn_at (h : Heap) (led : Bool) : (emptyOn h led).get? h.objs.size = some { cls := .type "set", dict := none, data := .set #[] 0 (.fresh 0 0 led) } := Heap.get?_push_size _ rfl
/-- what its filling ends in -/
def Filled (knd : KeyKind prog w K) (s : Shared) (ks : List K) (v : Value) (s2 : Shared) : Prop :=
  v = .none ∧ ∃ h' tk, s2 = { s with heap := h', toks := tk } ∧ Holds knd h' s.heap.objs.size ks ∧ ∀ b o, s.heap.get? b = some o → h'.get? b = some o
theorem fill_keys {l : Addr} {items : Array Value} {ks : List K} (led : Bool) (hh : A.handled = none) (hl : s.heap.IsList l items) (lk : ks.length = items.size) (room : items.size + 1 < scanBound)
    (key : ∀ (i : Nat) (v : Value), items[i]? = some v → ∃ k, ks[i]? = some k ∧ knd.is k v = true ∧ v.scannable = true) :
    codeAny (model prog w) A (.call (.builtin "set.__init__") ⟨[.ref s.heap.objs.size, .ref l], []⟩) (wants (Filled knd s ks) E) { s with heap := emptyOn s.heap led } := by
  have isSet : Shared.TypeIs { s with heap := emptyOn s.heap led } (.ref s.heap.objs.size) "set" := ⟨_, emptyOn_at s.heap led, rfl⟩
  refine codeAny_call_builtin F.called_set.init.plain F.entry_set_init (check_set_init_1 isSet ?_)
  have ⟨ol, hol, hcl, nl, hdl⟩ := hl
  obtain ⟨ocls, odict, odata, oslots⟩ := ol
  cases hcl
  cases hdl
  have there := Heap.get?_push_of_some { cls := .type "set", dict := none, data := .set #[] 0 (.fresh 0 0 led) } hol
  have asList : (emptyOn s.heap led).IsList l items := ⟨_, there, rfl, nl, rfl⟩
  have noSub := F.sub_list_set
  have noSubF := F.sub_list_frozenset
  have noDict : (Value.type "list" == Value.type "dict") = false := by decide
  have low : l < s.heap.objs.size := Heap.lt_size hol
  unfold Builtin.«set.__init__» noKeywords Builtin.Frozenset.updateFrom
  generalize walkOf : pyIter = PI
  wp_walk
  subst walkOf
  refine wpAny_pyIter_list asList (wpAny_bind (wpAny_runValue ?_))
  have top : (emptyOn s.heap led).objs.size = s.heap.objs.size + 1 := Heap.size_push ..
  have ne1 : l ≠ (emptyOn s.heap led).objs.size := Nat.ne_of_lt (by rw [top]; exact Nat.lt_succ_of_lt low)
  have off : s.heap.objs.size ∉ [(emptyOn s.heap led).objs.size, l] := by
    rw [top]
    simp only [List.mem_cons, List.not_mem_nil, or_false, not_or]
    exact ⟨Nat.ne_of_lt (Nat.lt_succ_self _), (Nat.ne_of_lt low).symm⟩
  have quiet : A.in1.in1.handled = none := by simp [hh]
  have atOnce : Holds knd ((emptyOn s.heap led).push { cls := .type "list_iterator", data := .fields #[.ref l, .int 0 0] }) s.heap.objs.size (ks.take 0) :=
    setOf_same ((PyProof.Rows.setObjOf_fresh (knd := knd) led).setOf (Heap.get?_push_of_some _ (emptyOn_at s.heap led)) (by unfold scanBound; omega)) (fun _ => rfl) rfl
  refine loop_keys ((Walks.list quiet _ l ne1 items).toS) off lk room key items.size 0 _ (Nat.zero_add _) ?_ ?_ fun s' mv all => ?_
  · exact ⟨⟨_, Heap.get?_push_size _ rfl, rfl, rfl⟩, asList.push _⟩
  · exact atOnce
  obtain ⟨h', g', d', tk', os'⟩ := s'
  cases show g' = s.gens from mv.gens
  cases show d' = s.drawn from mv.drawn
  cases show os' = s.os from mv.os
  show wpAny _ _ _ _ _ _
  refine wpAny_pure (show wpAny _ _ (ret Value.none) _ _ _ from wpAny_pure ⟨rfl, h', tk', rfl, all, fun b o e => ?_⟩)
  have lt := Heap.lt_size e
  refine mv.heap b o ?_ (Heap.get?_push_of_some _ (Heap.get?_push_of_some _ e))
  rw [top]
  simp only [List.mem_cons, List.not_mem_nil, or_false, not_or]
  exact ⟨Nat.ne_of_lt lt, Nat.ne_of_lt (Nat.lt_succ_of_lt lt)⟩
end
end W0
namespace W0
open PySem PySem.Spec
section
variable {prog : Program} {w : World} {K : Type} [DecidableEq K] {knd : KeyKind prog w K} {A : Around} {E : Value → Shared → Prop} {s : Shared}
/-- set(xs) of a list of such keys -/
theorem set_keys {l : Addr} {items : Array Value} {ks : List K} {Q : Value → Shared → Prop} (hh : A.handled = none) (hl : s.heap.IsList l items) (lk : ks.length = items.size) (room : items.size + 1 < scanBound)
    (key : ∀ (i : Nat) (v : Value), items[i]? = some v → ∃ k, ks[i]? = some k ∧ knd.is k v = true ∧ v.scannable = true)
    (h : ∀ (h' : Heap) (tk : Nat), Holds knd h' s.heap.objs.size ks → (∀ b o, s.heap.get? b = some o → h'.get? b = some o) → Q (.ref s.heap.objs.size) { s with heap := h', toks := tk }) :
    wpAny (model prog w) A (call (.type "set") [.ref l]) Q E s := by
  have ⟨_, _, order⟩ := F.called_set.mro
  have made := F.called_set.made
  have below := F.called_set.sub
  have other := F.called_set.notType
  have can := F.called_set.canCreate
  have checked := F.typeCall_set_1 (.ref l)
  have found := F.called_set.init.lookup
  have bound := F.called_set.init.bind (.ref s.heap.objs.size)
  refine wpAny_call (codeAny_of_tree (show wpAny _ _ (callAny (.type "set") _) _ _ _ from wpAny_pure ⟨Code.quiet_builtin _ (by decide +kernel), codeAny_builtin F.entry_type_call ?_⟩))
  rw [Around.under_plain (weight_type_call_type "set" [.ref l] []) rfl]
  repeat (any_goals (first | wp_step | assumption))
  refine codeAny_mono (code_set_new_1 (.ref l) (E := E) (Q₁ := fun v s1 => ∃ led : Bool, v = .ref s.heap.objs.size ∧ s1 = { s with heap := emptyOn s.heap led }) fun led => ⟨led, rfl, rfl⟩) fun r s1 hr => ?_
  rcases r with e | fl
  · exact hr
  rcases fl with _ | _ | _ | v
  all_goals first | exact hr.elim | skip
  obtain ⟨led, e1, e2⟩ := hr
  subst e1 e2
  have isSet : Shared.TypeIs { s with heap := emptyOn s.heap led } (.ref s.heap.objs.size) "set" := ⟨_, emptyOn_at s.heap led, rfl⟩
  repeat (any_goals (first | wp_step | assumption))
  refine codeAny_mono (fill_keys (E := E) led (by exact hh) hl lk room key) fun r2 s2 hr2 => ?_
  rcases r2 with e | fl2
  · exact hr2
  rcases fl2 with _ | _ | _ | v2
  all_goals first | exact hr2.elim | skip
  obtain ⟨e1, h', tk, e2, all, keep⟩ := hr2
  subst e1 e2
  repeat (any_goals (first | wp_step | assumption))
  exact h h' tk all keep
end
end W0
end
-- WSetH
section
set_option Elab.async false
set_option linter.all false
set_option maxRecDepth 100000
set_option maxHeartbeats 1000000
/-! words: set(xs), len of a set -/
namespace W0
open PySem PySem.Spec PyProof.Rows L2
abbrev setOn (P : Program) (w : World) (p : Addr) (ks : List Key) : HO := SetK P w p (inB ks) (once [] ks).length
def rSetL (K : PySem.W.Frag) (P : Program) (w : World) : List V → Hp → VK → Prop := fun xs H Q => ∃ (l : Addr) (ks : List Key), xs = [.ref l] ∧ SqL K H l (ks.map kV) ∧ ks.length ≤ 1000 ∧ ∀ p, H p = none → Q (.ref p) (L2.upd H p (setOn P w p ks))
theorem key_at {ks : List Key} : ∀ {us : List Value}, Vals (ks.map kV) us → ∀ (i : Nat) (v : Value), us[i]? = some v → ∃ k, ks[i]? = some k ∧ RelV (kV k) v := by
  induction ks with
  | nil =>
    intro us r i v h
    cases r
    simp at h
  | cons k ks ih =>
    intro us r i v h
    rw [List.map_cons] at r
    cases r with
    | cons r1 r2 =>
      cases i with
      | zero =>
        simp only [List.getElem?_cons_zero, Option.some.injEq] at h
        subst h
        exact ⟨k, rfl, r1⟩
      | succ i =>
        simp only [List.getElem?_cons_succ] at h
        exact ih r2 i v h
theorem cr_setL {X : Cx} (hc : X.calm = true) : CallR X (.type "set") (rSetL X.K X.prog X.w) := by
  intro pins s σ H xs us Q I r h
  obtain ⟨l, ks, rfl, sq, small, q⟩ := h
  obtain ⟨u, rfl, rx⟩ := vals1 r
  cases rx
  obtain ⟨its, rv, isL, _⟩ := I.list sq
  have ll : ks.length = its.toArray.size := by rw [List.size_toArray, ← rv.length, List.length_map]
  refine set_keys (knd := mixKind X.prog X.w) (ks := ks) (I.ok.hd hc) isL.isList ll (by rw [← ll]; exact Nat.lt_of_le_of_lt (Nat.succ_le_succ small) (by unfold scanBound; decide)) (fun i v hv => ?_) fun h' tk all keep => ?_
  · obtain ⟨k, e, rk⟩ := key_at rv i v (by simpa using hv)
    exact ⟨k, e, kV_is rk, key_scan rk⟩
  · exact ⟨.ref _, L2.upd H s.heap.objs.size (setOn X.prog X.w s.heap.objs.size ks), I.laid (t' := tk) keep (Nat.le_refl _) (setK_new all), rfl, q _ (I.hok.fresh (Nat.le_refl _))⟩
/-- len of a set -/
def rLenS (P : Program) (w : World) : List V → Hp → VK → Prop := fun xs H Q => ∃ (p : Addr) (S : Key → Bool) (n : Nat), xs = [.ref p] ∧ H p = some (SetK P w p S n) ∧ n ≤ 1000 ∧ Q (.int (n : Int)) H
theorem cr_lenS {X : Cx} : CallR X (.builtin "len") (rLenS X.prog X.w) := by
  intro pins s σ H xs us Q I r h
  obtain ⟨p, S, n, rfl, hp, small, q⟩ := h
  obtain ⟨u, rfl, rx⟩ := vals1 r
  cases rx
  obtain ⟨o, es, ep, t, ho, hex, hd, _, _, _, hf, hn⟩ := setK_get I hp
  exact call_len_set ho hex hd hf (by rw [hn]; omega) ⟨.int (n : Int), H, I.tok _, ⟨_, by rw [hn]⟩, q⟩
/-- how many there are once: as many as there are just if no two are one -/
theorem once_full {α : Type} [DecidableEq α] (xs : List α) : ((once [] xs).length = xs.length) ↔ xs.Nodup := by
  constructor
  · intro h
    by_cases n : xs.Nodup
    · exact n
    · have := once_short xs [] List.nodup_nil (by simpa using n)
      simp only [List.length_nil] at this
      omega
  · intro h
    rw [once_nodup xs [] (by simpa using h)]
    rfl
end W0
end
-- KBase
section
set_option Elab.async false
set_option linter.all false
set_option maxRecDepth 100000
set_option maxHeartbeats 4000000
namespace K1
open PySem PySem.Spec PyProof.Rows L2
def top (i : Nat) : Stmt := PySem.Challenge.pw_feasted_k61_whole_spans_of_dates.main.body.getD i (.Pass ⟨0, 0, 0, 0⟩)
abbrev sIsInt : Stmt := top 15
abbrev sFromOne : Stmt := top 16
abbrev sIsList : Stmt := top 17
abbrev sIsPair : Stmt := top 18
abbrev sIsName : Stmt := top 19
abbrev sDraw : Stmt := top 44
abbrev sPick : Stmt := top 45
abbrev sMixed : Stmt := top 46
/-- a statement that is never reached -/
theorem ps_dead {X : Cx} {st : Stmt} : PS X st (fun _ _ _ => False) := ⟨fun _ _ _ _ _ _ h => h.elim⟩
theorem pe_dead {X : Cx} {e : Expr} : PE X e (fun _ _ _ => False) := ⟨fun _ _ _ _ _ _ h => h.elim⟩
/-- a power whose bits are below the model's line -/
def CPowX (i j : Int) : Prop := 0 ≤ j ∧ (Builtin.Int.intBits i : Int) * j ≤ 2 ^ 27
theorem op_powX {X : Cx} : OpR X (binaryOp .Pow) (rI CPowX fun i j => .int (i ^ j.toNat)) := opI fun _ _ _ _ _ _ _ hc q => pow_int hc.1 hc.2 q
theorem Same.upd {H : Hp} {p : Addr} {o : HO} (h : H p = none) : Same H (upd H p o) := fun b u e => by rw [upd_ne (ne_of_none e h)]; exact e
end K1
end
-- KKinds
section
set_option Elab.async false
set_option linter.all false
set_option maxRecDepth 100000
set_option maxHeartbeats 4000000
namespace K1
open PySem PySem.Spec PyProof.Rows L2
def letters : Str := "abcdefghijklmnopqrstuvwxyz"
def figures : Str := "0123456789"
def okSign (c : Nat) : Bool := decide (c ∈ letters.cps.toList) || decide (c ∈ figures.cps.toList)
def nameOk (s : Str) : Bool := decide (1 ≤ s.length) && (decide (s.length ≤ 8) && ((s.cps.toList.head?.any fun c => decide (c ∈ letters.cps.toList)) && s.cps.toList.all okSign))
/-- the types of the values that are asked of -/
def kinds : List String := ["int", "bool", "str", "NoneType", "list", "tuple", "dict"]
theorem TyX.ext {K : PySem.W.Frag} {H H' : Hp} {x : V} {t : Value} (h : TyX K H x t) (e : Same H H') : TyX K H' x t := by
  cases h with
  | base b =>
    refine .base ?_
    cases b with
    | non => exact .non
    | bl y => exact .bl y
    | int i => exact .int i
    | str y => exact .str y
    | flt y => exact .flt y
    | lst ea => exact .lst (e _ _ ea)
    | frz ea => exact .frz (e _ _ ea)
    | tup ea => exact .tup (e _ _ ea)
    | dK ea => exact .dK (e _ _ ea)
    | dT ea => exact .dT (e _ _ ea)
    | ins ea cl ha hn htk hm => exact .ins (e _ _ ea) cl ha hn htk hm
  | byt y => exact .byt y
  | set ea => exact .set (e _ _ ea)
  | kList a b => exact .kList a b
  | kTuple a b => exact .kTuple a b
  | kDict a b => exact .kDict a b
  | fTuple ea => exact .fTuple (e _ _ ea)
  | fDict ea => exact .fDict (e _ _ ea)
theorem kit_int {K : PySem.W.Frag} {t : String} (h : t ∈ kinds) : PySem.W.kitOne K (.type t) (.type "int") = some (decide (t = "int" ∨ t = "bool")) := by
  simp only [kinds, List.mem_cons, List.not_mem_nil, or_false] at h
  rcases h with rfl | rfl | rfl | rfl | rfl | rfl | rfl <;> exact kit_ty (by decide +kernel)
theorem kit_bool {K : PySem.W.Frag} {t : String} (h : t ∈ kinds) : PySem.W.kitOne K (.type t) (.type "bool") = some (decide (t = "bool")) := by
  simp only [kinds, List.mem_cons, List.not_mem_nil, or_false] at h
  rcases h with rfl | rfl | rfl | rfl | rfl | rfl | rfl <;> exact kit_ty (by decide +kernel)
theorem kit_str {K : PySem.W.Frag} {t : String} (h : t ∈ kinds) : PySem.W.kitOne K (.type t) (.type "str") = some (decide (t = "str")) := by
  simp only [kinds, List.mem_cons, List.not_mem_nil, or_false] at h
  rcases h with rfl | rfl | rfl | rfl | rfl | rfl | rfl <;> exact kit_ty (by decide +kernel)
theorem kit_list {K : PySem.W.Frag} {t : String} (h : t ∈ kinds) : PySem.W.kitOne K (.type t) (.type "list") = some (decide (t = "list")) := by
  simp only [kinds, List.mem_cons, List.not_mem_nil, or_false] at h
  rcases h with rfl | rfl | rfl | rfl | rfl | rfl | rfl <;> exact kit_ty (by decide +kernel)
theorem kit_tuple {K : PySem.W.Frag} {t : String} (h : t ∈ kinds) : PySem.W.kitOne K (.type t) (.type "tuple") = some (decide (t = "tuple")) := by
  simp only [kinds, List.mem_cons, List.not_mem_nil, or_false] at h
  rcases h with rfl | rfl | rfl | rfl | rfl | rfl | rfl <;> exact kit_ty (by decide +kernel)
theorem kit_dict {K : PySem.W.Frag} {t : String} (h : t ∈ kinds) : PySem.W.kitOne K (.type t) (.type "dict") = some (decide (t = "dict")) := by
  simp only [kinds, List.mem_cons, List.not_mem_nil, or_false] at h
  rcases h with rfl | rfl | rfl | rfl | rfl | rfl | rfl <;> exact kit_ty (by decide +kernel)
def isSeqT (t : String) : Bool := decide (t = "list") || decide (t = "tuple")
theorem kit_seq {K : PySem.W.Frag} {t : String} (h : t ∈ kinds) : PySem.W.kitAny K (.type t) [.type "list", .type "tuple"] = some (isSeqT t) := by
  unfold PySem.W.kitAny
  rw [kit_list h]
  unfold isSeqT
  by_cases e : t = "list"
  · rw [decide_eq_true e]; rfl
  · rw [decide_eq_false e]
    show PySem.W.kitAny K (.type t) [.type "tuple"] = _
    unfold PySem.W.kitAny
    rw [kit_tuple h]
    by_cases e2 : t = "tuple"
    · rw [decide_eq_true e2]; rfl
    · rw [decide_eq_false e2]; rfl
/-- a tracked list or tuple of just these -/
def SeqV (H : Hp) (v : V) (xs : List V) : Prop := ∃ p, v = .ref p ∧ (H p = some (.lst xs) ∨ H p = some (.tup xs))
theorem SeqV.ext {H H' : Hp} {v : V} {xs : List V} (h : SeqV H v xs) (e : Same H H') : SeqV H' v xs := by
  obtain ⟨p, rfl, h⟩ := h
  exact ⟨p, rfl, h.imp (e _ _) (e _ _)⟩
theorem SeqV.ty {K : PySem.W.Frag} {H : Hp} {v : V} {xs : List V} (h : SeqV H v xs) : ∃ t, TyX K H v (.type t) ∧ t ∈ kinds ∧ isSeqT t = true := by
  obtain ⟨p, rfl, h | h⟩ := h
  · exact ⟨"list", .base (.lst h), by decide, by decide⟩
  · exact ⟨"tuple", .base (.tup h), by decide, by decide⟩
theorem SeqV.sq {K : PySem.W.Frag} {H : Hp} {v : V} {xs : List V} (h : SeqV H v xs) : ∃ p, v = .ref p ∧ (SqL K H p xs ∨ SqT K H p xs) := by
  obtain ⟨p, rfl, h | h⟩ := h
  · exact ⟨p, rfl, .inl (SqL.of h)⟩
  · exact ⟨p, rfl, .inr (SqT.of h)⟩
/-- a value that is neither list nor tuple -/
def NoSeq (K : PySem.W.Frag) (H : Hp) (v : V) : Prop := ∃ t, TyX K H v (.type t) ∧ t ∈ kinds ∧ isSeqT t = false
theorem NoSeq.ext {K : PySem.W.Frag} {H H' : Hp} {v : V} (h : NoSeq K H v) (e : Same H H') : NoSeq K H' v := by
  obtain ⟨t, a, b⟩ := h
  exact ⟨t, TyX.ext a e, b⟩
abbrev V.isIntV : V → Bool | .int _ => true | _ => false
/-- an int, or a value of another type -/
def KnownV (K : PySem.W.Frag) (H : Hp) (v : V) : Prop := ∃ t, TyX K H v (.type t) ∧ t ∈ kinds
theorem KnownV.ext {K : PySem.W.Frag} {H H' : Hp} {v : V} (h : KnownV K H v) (e : Same H H') : KnownV K H' v := by
  obtain ⟨t, a, b⟩ := h
  exact ⟨t, TyX.ext a e, b⟩
/-! promises -/
def spIsInt (K : PySem.W.Frag) : Sp := fun vs H Q _ => ∃ (v : V) (t : String), vs = [v] ∧ TyX K H v (.type t) ∧ t ∈ kinds ∧ Q (.bl (decide (t = "int"))) H
/-- an int from 1 on: told of ints; of all other types no -/
def spFromOne (K : PySem.W.Frag) : Sp := fun vs H Q _ => ∃ (v : V), vs = [v] ∧ ((∃ i, v = .int i ∧ Q (.bl (decide (1 ≤ i))) H) ∨ (∃ t, TyX K H v (.type t) ∧ t ∈ kinds ∧ t ≠ "int" ∧ Q (.bl false) H))
def spIsList (K : PySem.W.Frag) : Sp := fun vs H Q _ => ∃ (v : V) (t : String), vs = [v] ∧ TyX K H v (.type t) ∧ t ∈ kinds ∧ ∀ H', Same H H' → Q (.bl (isSeqT t)) H'
def spIsPair (K : PySem.W.Frag) : Sp := fun vs H Q _ => ∃ (v : V), vs = [v] ∧ ((∃ xs, SeqV H v xs ∧ ∀ H', Same H H' → Q (.bl (decide (xs.length = 2))) H') ∨ (NoSeq K H v ∧ ∀ H', Same H H' → Q (.bl false) H'))
def spIsName (K : PySem.W.Frag) : Sp := fun vs H Q _ => ∃ (v : V), vs = [v] ∧ ((∃ s, v = .str s ∧ s.length ≤ 1000 ∧ ∀ H', Same H H' → Q (.bl (nameOk s)) H') ∨ (∃ t, TyX K H v (.type t) ∧ t ∈ kinds ∧ t ≠ "str" ∧ Q (.bl false) H))
theorem scIsInt : FnScope ["thing"] ["thing"] (defScope sIsInt) := ⟨rfl, rfl, rfl, by decide +kernel, rfl, by decide +kernel, by decide +kernel⟩
theorem scFromOne : FnScope ["thing"] ["thing"] (defScope sFromOne) := ⟨rfl, rfl, rfl, by decide +kernel, rfl, by decide +kernel, by decide +kernel⟩
theorem scIsList : FnScope ["thing"] ["thing"] (defScope sIsList) := ⟨rfl, rfl, rfl, by decide +kernel, rfl, by decide +kernel, by decide +kernel⟩
theorem scIsPair : FnScope ["thing"] ["thing"] (defScope sIsPair) := ⟨rfl, rfl, rfl, by decide +kernel, rfl, by decide +kernel, by decide +kernel⟩
theorem scIsName : FnScope ["thing", "sign"] ["thing"] (defScope sIsName) := ⟨rfl, rfl, rfl, by decide +kernel, rfl, by decide +kernel, by decide +kernel⟩
/-- the built-ins that the text names are still built-in -/
structure Bl (mg : Str → Option Value) : Prop where
  isi : mg "isinstance" = none
  int : mg "int" = none
  bool : mg "bool" = none
  str : mg "str" = none
  list : mg "list" = none
  tuple : mg "tuple" = none
  dict : mg "dict" = none
  len : mg "len" = none
  all : mg "all" = none
section
variable {P : Program} {w : World} {K : PySem.W.Frag} {mg : Str → Option Value} {base : Heap}
theorem ok_isInt {f : Addr} {fd : FuncData} (F : Fun K "is_integer" "is_integer" sIsInt f fd) (B : Bl mg) : FnOk P w K mg base CX0 1 f fd ["thing"] (spIsInt K) := by
  refine F.ok scIsInt (fun vs H Q E h => ?_) (fun cdv A outer s H vs Q E hr h => ?_)
  · obtain ⟨v, t, rfl, _⟩ := h
    rfl
  obtain ⟨v, t, rfl, ty, kt, q⟩ := h
  refine ⟨_, pss_one (by exact ps_ret (pe_and (pe_callB call_isi rfl B.isi PyProof.Rows.boot_isinstance (pa_cons (pv 0) (pa_cons (pe_bltn (v := .ty "int") rfl B.int PyProof.Rows.boot_int rfl) pa_nil)))
    (pe_one (pe_not (pe_callB call_isi rfl B.isi PyProof.Rows.boot_isinstance (pa_cons (pv 0) (pa_cons (pe_bltn (v := .ty "bool") rfl B.bool PyProof.Rows.boot_bool rfl) pa_nil))))))), ?_⟩
  refine ⟨_, rfl, v, _, _, _, _, rfl, .ty "int", ty, kit_int kt, _, rfl, ?_⟩
  refine ite2 (fun c => ?_) (fun c => ?_)
  · refine ⟨_, rfl, v, _, _, _, _, rfl, .ty "bool", ty, kit_bool kt, _, rfl, ?_⟩
    have c' := of_decide_eq_true c
    have e : (!decide (t = "bool")) = decide (t = "int") := by
      rcases c' with rfl | rfl <;> decide
    rw [e]
    exact q
  · have c' := of_decide_eq_false (Bool.eq_false_iff.mpr c)
    have e : decide (t = "int") = false := decide_eq_false fun z => c' (.inl z)
    rw [e] at q
    exact q
theorem ok_fromOne {f g : Addr} {fd gd : FuncData} (F : Fun K "is_from_one" "is_from_one" sFromOne f fd) (FI : Fun K "is_integer" "is_integer" sIsInt g gd) (b : Binds K gd ["thing"] []) (m : mg "is_integer" = some (.ref g)) (B : Bl mg) :
    FnOk P w K mg base CX0 2 f fd ["thing"] (spFromOne K) := by
  have G := ok_isInt (P := P) (w := w) (base := base) FI B
  refine F.ok scFromOne (fun vs H Q E h => ?_) (fun cdv A outer s H vs Q E hr h => ?_)
  · obtain ⟨v, rfl, _⟩ := h
    rfl
  obtain ⟨v, rfl, h⟩ := h
  refine ⟨_, pss_one (by exact ps_ret (pe_and (pe_call G hr rfl m FI.kp b .nil pass0 (pa_cons (pv 0) pa_nil)) (pe_one (pe_cmpR op_ge (pv 0) pe_int (nomark _))))), ?_⟩
  rcases h with ⟨i, rfl, q⟩ | ⟨t, ty, kt, nt, q⟩
  · exact ⟨_, rfl, .int i, "int", rfl, .base (.int i), by decide, _, rfl, iteT ⟨_, rfl, i, 1, rfl, rfl, q⟩⟩
  · refine ⟨_, rfl, v, t, rfl, ty, kt, _, rfl, ?_⟩
    rw [decide_eq_false nt]
    exact iteF q
theorem ok_isList {f : Addr} {fd : FuncData} (F : Fun K "is_list" "is_list" sIsList f fd) (B : Bl mg) : FnOk P w K mg base CX0 1 f fd ["thing"] (spIsList K) := by
  refine F.ok scIsList (fun vs H Q E h => ?_) (fun cdv A outer s H vs Q E hr h => ?_)
  · obtain ⟨v, t, rfl, _⟩ := h
    rfl
  obtain ⟨v, t, rfl, ty, kt, q⟩ := h
  refine ⟨_, pss_one (by exact ps_ret (pe_callB call_isiT rfl B.isi PyProof.Rows.boot_isinstance (pa_cons (pv 0) (pa_cons (pe_tup (pa_cons (pe_bltn (v := .ty "list") rfl B.list PyProof.Rows.boot_list rfl)
    (pa_cons (pe_bltn (v := .ty "tuple") rfl B.tuple PyProof.Rows.boot_tuple rfl) pa_nil))) pa_nil)))), ?_⟩
  refine ⟨_, rfl, (by show 2 ≤ sizeLine; decide), fun p hp => ?_⟩
  have e := K1.Same.upd (H := H) (p := p) (o := .tup [.ty "list", .ty "tuple"]) hp
  exact ⟨v, p, _, _, _, _, rfl, upd_same, .cons (.ty "list") (.cons (.ty "tuple") .nil), TyX.ext ty e, kit_seq kt, q _ e⟩
theorem ok_isPair {f g : Addr} {fd gd : FuncData} (F : Fun K "is_pair" "is_pair" sIsPair f fd) (FI : Fun K "is_list" "is_list" sIsList g gd) (b : Binds K gd ["thing"] []) (m : mg "is_list" = some (.ref g)) (B : Bl mg) :
    FnOk P w K mg base CX0 2 f fd ["thing"] (spIsPair K) := by
  have G := ok_isList (P := P) (w := w) (base := base) FI B
  refine F.ok scIsPair (fun vs H Q E h => ?_) (fun cdv A outer s H vs Q E hr h => ?_)
  · obtain ⟨v, rfl, _⟩ := h
    rfl
  obtain ⟨v, rfl, h⟩ := h
  refine ⟨_, pss_one (by exact ps_ret (pe_and (pe_call G hr rfl m FI.kp b .nil pass0 (pa_cons (pv 0) pa_nil)) (pe_one (pe_cmpR op_eq (pe_callB call_len_seq rfl B.len PySem.boot_len (pa_cons (pv 0) pa_nil)) pe_int (nomark _))))), ?_⟩
  rcases h with ⟨xs, sv, q⟩ | ⟨⟨t, ty, kt, nt⟩, q⟩
  · obtain ⟨t, ty, kt, st⟩ := sv.ty (K := K)
    refine ⟨_, rfl, v, t, rfl, ty, kt, fun H' e => ⟨_, rfl, ?_⟩⟩
    rw [st]
    refine iteT ?_
    obtain ⟨p, rfl, sq⟩ := (sv.ext e).sq (K := K)
    refine ⟨_, rfl, p, xs, rfl, sq, rfl, ?_⟩
    have z : decide (V.int (xs.length : Int) = V.int 2) = decide (xs.length = 2) := by
      apply decide_eq_decide.mpr
      constructor
      · intro h; have := V.int.inj h; omega
      · intro h; rw [h]; rfl
    rw [z]
    exact q H' e
  · refine ⟨_, rfl, v, t, rfl, ty, kt, fun H' e => ⟨_, rfl, ?_⟩⟩
    rw [nt]
    exact iteF (q H' e)
end
end K1
end
-- KErr
section
set_option Elab.async false
set_option linter.all false
set_option maxRecDepth 100000
set_option maxHeartbeats 4000000
namespace K1
open PySem PySem.Spec PyProof.Rows L2
abbrev sIH : Stmt := inClass (top 3) 0
abbrev sIR : Stmt := inClass (top 4) 0
abbrev sID : Stmt := inClass (top 5) 0
/-- what the written part says of FeastError, at CF -/
structure FeC (K : PySem.W.Frag) (mg : Str → Option Value) (CF : Addr) : Prop where
  m : mg "FeastError" = some (.ref CF)
  sp : PySem.W.specialIn K (.ref CF) "__getattribute__" = some (some (.builtin "type.__getattribute__"))
  rd : PySem.W.readsIn K CF (.type "type") = true
  ini : PySem.W.findCls K (.ref CF) (.type "type") "__init__" = some (.val (.builtin "ValueError.__init__"))
section
variable {X : Cx} {e : Expr} {es : List Expr} {ta : TA} {p1 p2 pos : Pos}
theorem pe_feinit {pl : Sem Bool} {CF : Addr} (hg : Gl X "FeastError") (T : FeC X.K X.mg CF) (ha : PA X (e :: es) ta)
    (hc : eval (.Call (.Attribute (.Name "FeastError" p1) "__init__" p2) (e :: es) [] pos) X.env = (do
      let ov ← eval (.Name "FeastError" p1) X.env
      standAt p2.atName
      let (f, first) ← holding [ov] (getMethod ov "__init__" pl)
      callWith pos f first (backTo pos (starEach (e :: es) X.env)) (backToKw pos (keywordEach [] X.env))) := by rfl)
    (he : starEach (e :: es) X.env = (false, eval e X.env) :: starEach es X.env := by rfl) (hpl : (backTo pos (starEach es X.env)).any (·.1) = false := by rfl) :
    PE X (.Call (.Attribute (.Name "FeastError" p1) "__init__" p2) (e :: es) [] pos) (tVeI X.K ta) := by
  refine ⟨fun pins s σ H Q I h => ?_⟩
  refine PySem.W.methodCall_KW (ld_glob I hg T.m ?_ (by decide)) hc
  refine PySem.W.method_cls I.kIn T.sp (PySem.W.cls_value I.kIn T.rd T.ini (by decide +kernel) ?_)
  show wpAny _ _ (callWith pos (Value.builtin "ValueError.__init__") [] (backTo pos (starEach (e :: es) X.env)) []) _ _ _
  refine PyProof.Rows.callWith_method1 (thn (ha.run pos pins _ σ H _ (I.tok _) h) fun us s1 ⟨vs, H1, I1, r1, a, C, ws, ev, hl, T, ea, q⟩ => ?_) he hpl
  subst ev
  cases r1 with
  | @cons _ u0 _ ur ra rw' =>
    obtain rfl : u0 = Value.ref a := ra
    have hlen : ur.length ≤ sizeLine := by
      rw [← Paired.length rw', sizeLine_eq]
      omega
    exact oinit_ok T I1 ea hlen fun s' J => ⟨.non, H1, J, rfl, q⟩
end
/-- what the written part says of an error's class with one field -/
structure ErC (K : PySem.W.Frag) (mg : Str → Option Value) (x : Str) (C f : Addr) : Prop where
  m : mg x = some (.ref C)
  ox : OexC K C
  no : PySem.W.findIn K (.ref C) "index" = some none
  ini : PySem.W.findIn K (.ref C) "__init__" = some (some (.ref f))
  ty : PySem.W.typeIn K (.ref f) = some (.type "function")
def spErI (C : Addr) : Sp := fun vs H Q _ => ∃ (a : Addr) (v : V), vs = [.ref a, v] ∧ H a = some (exo a C none) ∧ ∀ d, H d = none → d ≠ a → Q .non (upd (upd H d (exd d [("index", v)])) a (exo a C (some d)))
theorem scIH : FnScope ["self", "index"] ["self", "index"] (defScope sIH) := ⟨rfl, rfl, rfl, by decide +kernel, rfl, by decide +kernel, by decide +kernel⟩
theorem scIR : FnScope ["self", "index"] ["self", "index"] (defScope sIR) := ⟨rfl, rfl, rfl, by decide +kernel, rfl, by decide +kernel, by decide +kernel⟩
theorem scID : FnScope ["self", "index"] ["self", "index"] (defScope sID) := ⟨rfl, rfl, rfl, by decide +kernel, rfl, by decide +kernel, by decide +kernel⟩
section
variable {P : Program} {w : World} {K : PySem.W.Frag} {mg : Str → Option Value} {base : Heap} {CF : Addr}
theorem ok_iH {f C : Addr} {fd : FuncData} (F : Fun K "__init__" "BadHouses.__init__" sIH f fd) (T : FeC K mg CF) (TC : ErC K mg "BadHouses" C f) : FnOk P w K mg base CX0 1 f fd ["self", "index"] (spErI C) := by
  refine F.ok scIH (fun vs H Q E h => ?_) (fun cdv A outer s H vs Q E hr h => ?_)
  · obtain ⟨a, v, rfl, _⟩ := h
    rfl
  obtain ⟨a, v, rfl, ha, q⟩ := h
  refine ⟨_, pss_cons (by exact ps_expr (pe_feinit rfl T (pa_cons (pv 0) (pa_cons pe_str pa_nil)))) (pss_one (by exact ps_ost (pv 0) (pv 1))), ?_⟩
  refine ⟨_, rfl, a, C, [.str _], rfl, (by decide), TC.ox, ha, _, rfl, _, rfl, a, C, rfl, TC.ox, TC.no, .inl ⟨ha, fun d hd n => q d hd n⟩⟩
theorem ok_iR {f C : Addr} {fd : FuncData} (F : Fun K "__init__" "BadRoads.__init__" sIR f fd) (T : FeC K mg CF) (TC : ErC K mg "BadRoads" C f) : FnOk P w K mg base CX0 1 f fd ["self", "index"] (spErI C) := by
  refine F.ok scIR (fun vs H Q E h => ?_) (fun cdv A outer s H vs Q E hr h => ?_)
  · obtain ⟨a, v, rfl, _⟩ := h
    rfl
  obtain ⟨a, v, rfl, ha, q⟩ := h
  refine ⟨_, pss_cons (by exact ps_expr (pe_feinit rfl T (pa_cons (pv 0) (pa_cons pe_str pa_nil)))) (pss_one (by exact ps_ost (pv 0) (pv 1))), ?_⟩
  refine ⟨_, rfl, a, C, [.str _], rfl, (by decide), TC.ox, ha, _, rfl, _, rfl, a, C, rfl, TC.ox, TC.no, .inl ⟨ha, fun d hd n => q d hd n⟩⟩
theorem ok_iD {f C : Addr} {fd : FuncData} (F : Fun K "__init__" "BadHeads.__init__" sID f fd) (T : FeC K mg CF) (TC : ErC K mg "BadHeads" C f) : FnOk P w K mg base CX0 1 f fd ["self", "index"] (spErI C) := by
  refine F.ok scID (fun vs H Q E h => ?_) (fun cdv A outer s H vs Q E hr h => ?_)
  · obtain ⟨a, v, rfl, _⟩ := h
    rfl
  obtain ⟨a, v, rfl, ha, q⟩ := h
  refine ⟨_, pss_cons (by exact ps_expr (pe_feinit rfl T (pa_cons (pv 0) (pa_cons pe_str pa_nil)))) (pss_one (by exact ps_ost (pv 0) (pv 1))), ?_⟩
  refine ⟨_, rfl, a, C, [.str _], rfl, (by decide), TC.ox, ha, _, rfl, _, rfl, a, C, rfl, TC.ox, TC.no, .inl ⟨ha, fun d hd n => q d hd n⟩⟩
end
end K1
end
-- KName
section
set_option Elab.async false
set_option linter.all false
set_option maxRecDepth 100000
set_option maxHeartbeats 4000000
namespace K1
open PySem PySem.Spec PyProof.Rows L2
structure Signs (mg : Str → Option Value) : Prop where
  let_ : ∃ t, mg "LETTERS" = some (.str letters t)
  fig : ∃ t, mg "FIGURES" = some (.str figures t)
  lon : ∃ t, mg "LONGEST_NAME" = some (.int 8 t)
theorem map_take_succ {α β : Type} {l : List α} {f : α → β} {i : Nat} {c : α} (h : l[i]? = some c) : (l.take (i + 1)).map f = (l.take i).map f ++ [f c] := by
  rw [List.take_add_one, h]
  simp
section
variable {P : Program} {w : World} {K : PySem.W.Frag} {mg : Str → Option Value} {base : Heap}
theorem ok_isName {f : Addr} {fd : FuncData} (F : Fun K "is_name" "is_name" sIsName f fd) (B : Bl mg) (S : Signs mg) : FnOk P w K mg base CX0 1 f fd ["thing"] (spIsName K) := by
  refine F.ok scIsName (fun vs H Q E h => ?_) (fun cdv A outer s H vs Q E hr h => ?_)
  · obtain ⟨v, rfl, _⟩ := h
    rfl
  obtain ⟨v, rfl, h⟩ := h
  obtain ⟨t1, mL⟩ := S.let_
  obtain ⟨t2, mF⟩ := S.fig
  obtain ⟨t3, mN⟩ := S.lon
  have nd := scIsName.nd
  refine ⟨_, pss_cons (by exact ps_if (PW.pt (pw_or (pt_not (pt_val (pe_callB call_isi rfl B.isi PyProof.Rows.boot_isinstance (pa_cons (pv 0) (pa_cons (pe_bltn (v := .ty "str") rfl B.str PyProof.Rows.boot_str rfl) pa_nil)))))
      (pw_or1 (pt_not (pt_chain op_le op_le pe_int (pe_callB call_len_str rfl B.len PySem.boot_len (pa_cons (pv 0) pa_nil)) (pe_glob (v := .int 8) rfl mN ⟨_, rfl⟩)))))) (pss_one (ps_ret pe_bl)) pss_nil)
    (pss_one (by exact ps_ret (pe_and (pe_cmpR op_in_sign (pe_ix ix_str (pv 0) pe_int (fun _ _ => rfl)) (pe_glob (v := .str letters) rfl mL ⟨_, rfl⟩) (by with_unfolding_all rfl))
      (pe_one (pe_callB (cr_all rfl) rfl B.all PyProof.Rows.boot_all (pa_cons (pe_lc (own := [("sign", 1)]) (g := gName 1) (tt := tYes) rfl nd (by exact pi_str (pv 0))
        (by exact blkOk_by (N := ["thing", "sign"]) (sc := defScope sIsName) (by decide +kernel)) (fun _ _ _ _ _ => by exact pg_name (i := 1) nd rfl (Or.inl rfl)) (fun _ _ _ _ _ => pts_nil)
        (fun _ _ _ _ _ => by exact pe_or (pe_cmpR op_in_sign (pv 1) (pe_glob (v := .str letters) rfl mL ⟨_, rfl⟩) (by with_unfolding_all rfl)) (pe_one (pe_cmpR op_in_sign (pv 1) (pe_glob (v := .str figures) rfl mF ⟨_, rfl⟩) (by with_unfolding_all rfl))))) pa_nil)))))), ?_⟩
  rcases h with ⟨z, rfl, hz, q⟩ | ⟨t, ty, kt, nt, q⟩
  · have zl : z.length ≤ sizeLine := Nat.le_of_lt (small1000 hz)
    refine ⟨_, rfl, .str z, _, _, _, _, rfl, .ty "str", .base (.str z), kit_str (t := "str") (by decide), _, rfl, ?_⟩
    refine iteF ?_
    refine ⟨_, rfl, z, rfl, zl, ?_⟩
    refine ⟨_, _, rfl, rfl, _, rfl, ?_⟩
    have q0 : ∀ H', Same H H' → nameOk z = false → Q (.bl false) H' := fun H' e n => by rw [← n]; exact q H' e
    refine ite2 (fun c1 => ?_) (fun c1 => ?_)
    · refine ⟨_, _, rfl, rfl, _, rfl, ?_⟩
      by_cases c2 : (z.length : Int) ≤ 8
      · rw [decide_eq_true c2]
        refine iteF ?_
        have c1' : (1 : Int) ≤ (z.length : Int) := of_decide_eq_true c1
        have hlen : z.cps.toList.length = z.length := rfl
        obtain ⟨c, r, hcr⟩ : ∃ c r, z.cps.toList = c :: r := by
          cases e : z.cps.toList with
          | nil => rw [e] at hlen; simp at hlen; omega
          | cons c r => exact ⟨c, r, rfl⟩
        have ec : z.cps.toList[0]? = some c := by rw [hcr]; rfl
        have hnm : nameOk z = (decide (c ∈ letters.cps.toList) && z.cps.toList.all okSign) := by
          unfold nameOk
          have d1 : decide (1 ≤ z.length) = true := decide_eq_true (by omega)
          have d2 : decide (z.length ≤ 8) = true := decide_eq_true (by omega)
          rw [d1, d2, Bool.true_and, Bool.true_and]
          rw [hcr]
          rfl
        refine ⟨_, rfl, z, 0, c, rfl, rfl, zl, atI_nat (j := 0) ec, c, letters, rfl, rfl, _, rfl, ?_⟩
        by_cases cl : c ∈ letters.cps.toList
        · rw [decide_eq_true cl]
          refine iteT ?_
          refine ⟨_, rfl, z, rfl, fun D hD => ?_⟩
          refine lc_it walk_str (fun i Hc => Same H Hc ∧ Hc D = some (.lst (((z.cps.toList.take i).map okSign).map V.bl))) ⟨K1.Same.upd hD, upd_same⟩ (fun _ _ _ _ => True.intro) ?_ ?_
          · rintro i x Hc H' hi ⟨e1, e2⟩ ⟨rfl, d, hd, rfl⟩
            have hd' : z.cps.toList[i]? = some d := by rw [Array.getElem?_toList]; exact hd
            refine ⟨rfl, ?_⟩
            unfold tYes
            refine iteT ?_
            refine ⟨_, rfl, d, letters, rfl, rfl, _, rfl, ?_⟩
            have fin : ∀ b, b = okSign d → ∃ acc, H' D = some (.lst acc) ∧ acc.length < sizeLine ∧ Same H (upd H' D (.lst (acc ++ [.bl b]))) ∧ upd H' D (.lst (acc ++ [.bl b])) D = some (.lst (((z.cps.toList.take (i + 1)).map okSign).map V.bl)) := fun b hb => by
              refine ⟨_, e2, ?_, fun a o n => ?_, ?_⟩
              · rw [List.length_map, List.length_map]
                exact small1000 (Nat.le_trans (List.length_take_le _ _) (by have : i < z.cps.toList.length := hi; omega))
              · rw [upd_ne (ne_of_none n hD)]
                exact e1 a o n
              · rw [upd_same, map_take_succ hd', List.map_append, hb]
                rfl
            by_cases cd : d ∈ letters.cps.toList
            · rw [decide_eq_true cd]
              refine iteT (fin true ?_)
              unfold okSign
              rw [decide_eq_true cd, Bool.true_or]
            · rw [decide_eq_false cd]
              refine iteF ⟨_, rfl, d, figures, rfl, rfl, fin _ ?_⟩
              unfold okSign
              rw [decide_eq_false cd, Bool.false_or]
          · rintro Hc ⟨e1, e2⟩
            refine ⟨D, _, rfl, SqL.of e2, ?_⟩
            have ht : z.cps.toList.take z.cps.size = z.cps.toList := List.take_of_length_le (Nat.le_of_eq hlen)
            have : ((z.cps.toList.take z.cps.size).map okSign).all id = nameOk z := by
              rw [ht, hnm, decide_eq_true cl, Bool.true_and, List.all_map]
              rfl
            rw [this]
            exact q Hc e1
        · rw [decide_eq_false cl]
          refine iteF (q0 H (Same.refl H) ?_)
          rw [hnm, decide_eq_false cl, Bool.false_and]
      · rw [decide_eq_false c2]
        refine iteT (q0 H (Same.refl H) ?_)
        unfold nameOk
        have d2 : decide (z.length ≤ 8) = false := decide_eq_false (by omega)
        rw [d2, Bool.false_and, Bool.and_false]
    · have c1' : ¬ (1 : Int) ≤ (z.length : Int) := of_decide_eq_false (Bool.eq_false_iff.mpr c1)
      refine ⟨_, rfl, iteT (q0 H (Same.refl H) ?_)⟩
      unfold nameOk
      have d2 : decide (1 ≤ z.length) = false := decide_eq_false (by omega)
      rw [d2, Bool.false_and]
  · refine ⟨_, rfl, v, _, _, _, _, rfl, .ty "str", ty, kit_str kt, _, rfl, ?_⟩
    rw [decide_eq_false nt]
    exact iteT (iteT q)
end
end K1
end
-- KEnumT
section
set_option Elab.async false
set_option linter.all false
set_option maxRecDepth 100000
set_option maxHeartbeats 4000000
/-! enumerate over a tuple -/
namespace K1E
open PySem
open AutoSeq1 (wpAny_loadPart')
theorem meets_new (l : Addr) (items : Array Value) (n : Nat) (dct : Option Addr) (sl : Array (Option Value)) :
    Meets (Builtin.«enumerate.__new__» ⟨[.type "enumerate", .ref l], []⟩) (fun _ R s => s.heap.get? l = some { cls := .type "tuple", dict := dct, data := .seq items n, slots := sl } ∧
      R (.ok (.ret (.ref (s.heap.push { cls := .type "tuple_iterator", data := .fields #[.ref l, .int 0 0] }).objs.size)))
        { s with heap := (s.heap.push { cls := .type "tuple_iterator", data := .fields #[.ref l, .int 0 0] }).push { cls := .type "enumerate", data := .fields #[.none, .bool false, .ref s.heap.objs.size, rawInt 0, .none, .none] } }) :=
  .of_wp fun prog w A R s h => by
    obtain ⟨hp, g, d, tk, os⟩ := s; obtain ⟨hl, h⟩ := h
    have hsub := sub_enumerate
    have hT : Heap.IsTuple (Shared.heap ⟨hp, g, d, tk, os⟩) l items := ⟨_, hl, rfl, n, rfl⟩
    wp_walk using wpAny_loadPart' hl
    refine wpAny_stack_any fun st => wpAny_pure ?_
    split
    · rename_i c _ _ _ _ _
      cases (c == Value.type "enumerate")
      · wp_walk using wpAny_loadPart' hl, wpAny_pyIter_tuple hT
        exact ⟨_, rfl, h⟩
      · wp_walk using wpAny_loadPart' hl, wpAny_pyIter_tuple hT
        exact ⟨_, rfl, h⟩
    · wp_walk using wpAny_loadPart' hl, wpAny_pyIter_tuple hT
      exact ⟨_, rfl, h⟩
section
variable {prog : Program} {w : World} {A : Around} {E : Value → Shared → Prop} {s : Shared}
theorem call_enum_tuple {l : Addr} {items : Array Value} {Q : Value → Shared → Prop} (hL : s.heap.IsTuple l items)
    (h : ∀ h', IsEnum h' (s.heap.objs.size + 1) s.heap.objs.size 0 .none → h'.IsTupleIter s.heap.objs.size l 0 → h'.objs.size = s.heap.objs.size + 2 →
      (∀ b o, s.heap.get? b = some o → h'.get? b = some o) → Q (.ref (s.heap.objs.size + 1)) { s with heap := h' }) :
    wpAny (model prog w) A (call (.type "enumerate") [.ref l]) Q E s := by
  obtain ⟨⟨c, dct, dt, sl⟩, hl, hc, n, hd⟩ := hL
  replace hc : c = .type "tuple" := hc
  replace hd : dt = .seq items n := hd
  subst hc hd
  refine callType_new F.called_enumerate (by decide) (F.typeCall_enumerate_1 _) (F.newCall_enumerate_1 _) (fun obj => F.args_object_init_2 obj _) F.entry_enumerate_new (meets_new l items n dct sl) ⟨hl, ?_⟩
  have hz : (s.heap.push { cls := .type "tuple_iterator", data := .fields #[.ref l, .int 0 0] }).objs.size = s.heap.objs.size + 1 := Heap.size_push ..
  show _ ∧ _
  rw [hz]
  have he : IsEnum ((s.heap.push { cls := .type "tuple_iterator", data := .fields #[.ref l, .int 0 0] }).push
      { cls := .type "enumerate", data := .fields #[.none, .bool false, .ref s.heap.objs.size, rawInt 0, .none, .none] }) (s.heap.objs.size + 1) s.heap.objs.size 0 .none := by
    have q := Heap.get?_push_size (s.heap.push { cls := .type "tuple_iterator", data := .fields #[.ref l, .int 0 0] })
      (o := { cls := .type "enumerate", data := .fields #[.none, .bool false, .ref s.heap.objs.size, rawInt 0, .none, .none] }) rfl
    rw [hz] at q
    exact q
  exact ⟨⟨_, he, rfl⟩, h _ he ⟨_, Heap.get?_push_of_some _ (Heap.get?_push_size _ rfl), rfl, rfl⟩ (by rw [Heap.size_push, hz]) fun b o y => Heap.get?_push_of_some _ (Heap.get?_push_of_some _ y)⟩
end
end K1E
namespace K1
open PySem PySem.Spec PyProof.Rows L2
/-- the tuple at a, each item in a new pair -/
def IteT (K : PySem.W.Frag) (a : Addr) : It :=
  ⟨fun i H => ∃ (xs : List V) (x : V), SqT K H a xs ∧ xs[i]? = some x, fun i H v H' => ∃ T x, v = .ref T ∧ H T = none ∧ H' = upd H T (.tup [.int (i : Nat), x]) ∧ ∀ xs, SqT K H a xs → xs[i]? = some x, fun i H => ∃ xs : List V, SqT K H a xs ∧ xs.length ≤ i⟩
theorem turn_enumT {P : Program} {w : World} {K : PySem.W.Frag} {elts : List Expr} {kk : Nat} {tpos : Pos} (a e it : Addr) :
    Turn P w K (.Tuple elts kk tpos) (IteT K a) [e, it] e (fun i h => (∃ old, IsEnum h e it ((i : Nat) : Int) old) ∧ h.IsTupleIter it a i ∧ e ≠ it) where
  mem := by simp
  obj := fun i h st b hb => by
    obtain ⟨⟨old, he⟩, ⟨o, ho, hc, hd⟩, _⟩ := st
    have e' : b = e ∨ b = it := by simpa using hb
    rcases e' with z | z
    · rw [z]; exact ⟨_, he, fun v q => nomatch q⟩
    · rw [z]; exact ⟨o, ho, fun v q => by rw [hd] at q; cases q⟩
  keep := fun i h h' st k => let ⟨⟨old, he⟩, hi, hne⟩ := st; ⟨⟨old, k e (by simp) _ he⟩, hi.at fun o q => k it (by simp) o q, hne⟩
  item := by
    intro X hP hw hK hc i pins s σ H E I hf st hg
    subst hP hw hK
    obtain ⟨⟨old, he⟩, hit, hne⟩ := st
    obtain ⟨xs, x, hq, hx⟩ := hg
    obtain ⟨its, rv, p, hz⟩ := I.tuple hq
    obtain ⟨u, hu, ru⟩ := rv.get hx
    have hel : e < s.heap.objs.size := Heap.lt_size he
    have hil : it < s.heap.objs.size := by obtain ⟨_, q, _⟩ := hit; exact Heap.lt_size q
    have p' : s.heap.IsTuple a its.toArray := p
    have hlt : i < its.toArray.size := by
      have hh : i < its.length := by
        rcases Nat.lt_or_ge i its.length with q | q
        · exact q
        · rw [List.getElem?_eq_none q] at hu; cases hu
      simpa using hh
    have hia : it ≠ a := fun z => by
      obtain ⟨o, q1, q2, _⟩ := hit
      obtain ⟨o2, q3, q4, _⟩ := p'
      rw [z, q3] at q1
      have q5 := Option.some.inj q1
      rw [← q5, q4] at q2
      exact absurd q2 (by decide)
    have hea : e ≠ a := fun z => by
      obtain ⟨o2, q3, q4, _⟩ := p'
      have he' : s.heap.get? e = _ := he
      rw [z, q3] at he'
      have q5 := Option.some.inj he'
      rw [q5] at q4
      exact absurd (show Value.type "enumerate" = Value.type "tuple" from q4) (by decide)
    refine wpAny_pyNext_enum_itemD (Draws.tuple (A := X.A.in1) (show X.A.in1.handled = Option.none from I.ok.hd hc) it a hia.symm its.toArray) he ⟨hit, p'⟩ hlt hne (fun z => ?_) fun y h' tk hy ho hst hT hsz hk => ?_
    · rcases List.mem_cons.mp z with z | z
      · exact hne z
      · exact hea (List.mem_singleton.mp z)
    have hyu : y = u := by
      have h1 : its.toArray[i]? = some u := by simpa using hu
      rw [h1] at hy
      exact (Option.some.inj hy).symm
    subst hyu
    refine ⟨_, rfl, wpAny_letOwnedTupleGo_enum (s := { s with heap := h', toks := tk + 1 }) ho fun h'' he' sb => ?_⟩
    have hT2 : h''.get? s.heap.objs.size = some { cls := .type "tuple", data := .seq #[.int i tk, y] } := (sb.2 _ (Nat.ne_of_gt hel)).trans hT
    have new : ObjOk X.prog X.w (upd H s.heap.objs.size (.tup [.int (i : Nat), x])) h'' s.heap.objs.size (.tup [.int (i : Nat), x]) :=
      ⟨by show 2 ≤ sizeLine; decide, [.int i tk, y], .cons ⟨_, rfl⟩ (.cons ru .nil), ⟨_, hT2, rfl, _, rfl⟩⟩
    have I1 : Inv X pins σ (upd H s.heap.objs.size (.tup [.int (i : Nat), x])) { s with heap := h'', toks := tk + 1 } :=
      I.turnedNew (ch := [e, it]) (fun b ob hb q => (sb.2 b (fun z => hb (by simp [z]))).trans (hk b ob (fun z => hb (by simp [z])) (fun z => hb (by simp [z])) q)) hf (Nat.le_refl _) new
    refine ⟨.ref s.heap.objs.size, _, I1, rfl, ⟨_, x, rfl, I.hok.fresh (Nat.le_refl _), rfl, fun ys hy => by rw [I.tuple_inj hy hq]; exact hx⟩, ⟨⟨y, ?_⟩, hst.1.at fun o q => (sb.2 it (Ne.symm hne)).trans q, hne⟩, fun b hb => ?_⟩
    · have e1 : ((i + 1 : Nat) : Int) = (i : Int) + 1 := by omega
      rw [e1]; exact he'
    · have hb' : b < s.heap.objs.size := by
        have e' : b = e ∨ b = it := by simpa using hb
        rcases e' with z | z
        · rw [z]; exact hel
        · rw [z]; exact hil
      rw [upd_ne (Nat.ne_of_lt hb')]
      exact (hf b hb).1
  done := by
    intro X hP hw hK hc i pins s σ H E I hf st hg
    subst hP hw hK
    obtain ⟨⟨old, he⟩, hit, hne⟩ := st
    obtain ⟨xs, hq, hx⟩ := hg
    obtain ⟨its, rv, p, hz⟩ := I.tuple hq
    obtain ⟨f0, f1, f2, f3, f4, f5⟩ := hf it (by simp)
    have hl := rv.length
    have p' : s.heap.IsTuple a its.toArray := p
    have hT : s.TypeIs (.ref e) "enumerate" := ⟨_, he, rfl⟩
    unfold pyNext
    refine wpAny_bind (wpAny_attempt (wpAny_callSpecial?_slot (name := Str.ofString "__next__") hT F.slot_enumerate_next (wpAny_call_entry F.slot_enumerate_next hT F.entry_enumerate_next ?_ (F.args_enumerate_next_1 _))))
    show wpAny _ _ (field (.ref e) 2 >>= _) _ _ _
    refine wpAny_bind (wpAny_field he rfl (x := .ref it) rfl ?_)
    refine wpAny_bind (wpAny_nextOf_tuple_end (I.ok.hd hc) hit p' (by simp; omega) fun h' x he' hx' => ?_)
    obtain ⟨o, ho, hc2⟩ := hx'
    refine wpAny_bind (wpAny_isInstance (T := "StopIteration") (b := true) ⟨o, ho, hc2⟩ isSubtype_stop ?_)
    exact wpAny_pure ⟨rfl, I.turned (t' := s.toks) (fun b o hb q => he' b o hb q) f0 f1 f3 f4 f5⟩
  self := fun A i s Q E st h => let ⟨⟨_, he⟩, _⟩ := st; wpAny_pyIter_enum he h
def iEnumA (K : PySem.W.Frag) (ta : TA) : TI := fun σ H R => ta σ H fun vs H1 => ∃ a xs, vs = [.ref a] ∧ ((SqL K H1 a xs ∧ R (Ite K a) H1) ∨ (SqT K H1 a xs ∧ R (IteT K a) H1))
theorem pi_enumA {X : Cx} {e : Expr} {ta : TA} {p pos tpos : Pos} {elts : List Expr} {kk : Nat} (hg : Gl X "enumerate") (hm : X.mg "enumerate" = none) (ha : PA X [e] ta) (hs : starEach [e] X.env = [(false, eval e X.env)] := by rfl) :
    PI X (.Tuple elts kk tpos) (.Call (.Name "enumerate" p) [e] [] pos) (iEnumA X.K ta) := by
  refine ⟨fun pins s σ H R I h => ?_⟩
  refine Call_ (ld_blt I hg hm boot_enumerate (PyProof.Rows.callWith_type1 (thn (ha.run pos pins s σ H _ I h) fun us s1 ⟨vs, H1, I1, r1, q1⟩ => ?_) hs rfl))
  obtain ⟨a, xs, ex, hq⟩ := q1
  subst ex
  cases r1 with
  | cons r rr =>
    cases rr
    cases r
    rcases hq with ⟨hq, q⟩ | ⟨hq, q⟩
    · obtain ⟨its, rv, p', hz⟩ := I1.list hq
      refine call_enumerate_list p'.isList fun h' he hit hsz hk => wpAny_pyIter_enum he ?_
      have I2 : Inv X pins σ H1 { s1 with heap := h' } := I1.kept (t' := s1.toks) hk
      refine ⟨s1.heap.objs.size + 1, [s1.heap.objs.size + 1, s1.heap.objs.size], _, _, H1, rfl, I2, turn_enum a (s1.heap.objs.size + 1) s1.heap.objs.size, ⟨⟨.none, he⟩, hit, Nat.succ_ne_self _⟩, fun b hb => ?_, q⟩
      have e' : b = s1.heap.objs.size + 1 ∨ b = s1.heap.objs.size := by simpa using hb
      have hle : s1.heap.objs.size ≤ b := by
        rcases e' with z | z
        · rw [z]; exact Nat.le_add_right _ _
        · rw [z]; exact Nat.le_refl _
      exact I1.fpOk hle (I1.hok.fresh hle)
    · obtain ⟨its, rv, p', hz⟩ := I1.tuple hq
      refine K1E.call_enum_tuple (show s1.heap.IsTuple a its.toArray from p') fun h' he hit hsz hk => wpAny_pyIter_enum he ?_
      have I2 : Inv X pins σ H1 { s1 with heap := h' } := I1.kept (t' := s1.toks) hk
      refine ⟨s1.heap.objs.size + 1, [s1.heap.objs.size + 1, s1.heap.objs.size], _, _, H1, rfl, I2, turn_enumT a (s1.heap.objs.size + 1) s1.heap.objs.size, ⟨⟨.none, he⟩, hit, Nat.succ_ne_self _⟩, fun b hb => ?_, q⟩
      have e' : b = s1.heap.objs.size + 1 ∨ b = s1.heap.objs.size := by simpa using hb
      have hle : s1.heap.objs.size ≤ b := by
        rcases e' with z | z
        · rw [z]; exact Nat.le_add_right _ _
        · rw [z]; exact Nat.le_refl _
      exact I1.fpOk hle (I1.hok.fresh hle)
theorem walk_enumT {K : PySem.W.Frag} {a : Addr} {xs : List V} : Walk (IteT K a) xs.length (fun H => SqT K H a xs) (YPair (fun i => some (.int (i : Nat))) (fun i => xs[i]?)) := by
  refine ⟨fun i _ hi q => ⟨xs, xs[i], q, by simp [hi]⟩, fun _ q => ⟨xs, q, Nat.le_refl _⟩, fun i H v H' _ q y => ?_⟩
  obtain ⟨T, x, h1, h2, h3, h4⟩ := y
  exact ⟨T, .int (i : Nat), x, h1, h2, h3, rfl, h4 xs q⟩
end K1
end
-- KSeq
section
set_option Elab.async false
set_option linter.all false
set_option maxRecDepth 100000
set_option maxHeartbeats 4000000
namespace K1
open PySem PySem.Spec PyProof.Rows L2
/-- a list or a tuple at a, of xs -/
def SqA (K : PySem.W.Frag) (H : Hp) (a : Addr) (xs : List V) : Prop := SqL K H a xs ∨ SqT K H a xs
theorem SqT.same {K : PySem.W.Frag} {H H' : Hp} {a : Addr} {xs : List V} (e : Same H H') (h : SqT K H a xs) : SqT K H' a xs := by
  rcases h with (h | ⟨o, h⟩) | h
  · exact .inl (.inl (e _ _ h))
  · exact .inl (.inr ⟨o, e _ _ h⟩)
  · exact .inr h
theorem SqA.same {K : PySem.W.Frag} {H H' : Hp} {a : Addr} {xs : List V} (h : SqA K H a xs) (e : Same H H') : SqA K H' a xs := h.imp e.seq (SqT.same e)
/-- what stands at a still stands there -/
def At1 (a : Addr) (H H' : Hp) : Prop := ∀ o, H a = some o → H' a = some o
theorem At1.l {K : PySem.W.Frag} {H H' : Hp} {a : Addr} {xs : List V} (e : At1 a H H') (h : SqL K H a xs) : SqL K H' a xs := by
  rcases h with (h | ⟨o, h⟩) | h
  · exact .inl (.inl (e _ h))
  · exact .inl (.inr ⟨o, e _ h⟩)
  · exact .inr h
theorem At1.t {K : PySem.W.Frag} {H H' : Hp} {a : Addr} {xs : List V} (e : At1 a H H') (h : SqT K H a xs) : SqT K H' a xs := by
  rcases h with (h | ⟨o, h⟩) | h
  · exact .inl (.inl (e _ h))
  · exact .inl (.inr ⟨o, e _ h⟩)
  · exact .inr h
/-- enumerate of the list or tuple in slot i: by any walk over new pairs -/
def iEnumV (K : PySem.W.Frag) (i : Nat) : TI := fun σ H R => ∃ a xs, σ[i]? = some (some (.ref a)) ∧ SqA K H a xs ∧
  ∀ J G, Walk J xs.length G (YPair (fun i => some (.int (i : Nat))) (fun i => xs[i]?)) → (∀ H', At1 a H H' → G H') → R J H
/-- the items of the list or tuple in slot i -/
def iSeqV (K : PySem.W.Frag) (i : Nat) : TI := fun σ H R => ∃ a xs, σ[i]? = some (some (.ref a)) ∧ SqA K H a xs ∧ ∀ J G, Walk J xs.length G (YAt xs) → (∀ H', At1 a H H' → G H') → R J H
/-- a reading of arguments may be taken weaker -/
theorem PI.imp {X : Cx} {tg iter : Expr} {wi wi' : TI} (h : PI X tg iter wi) (hw : ∀ σ H R, wi' σ H R → wi σ H R) : PI X tg iter wi' := ⟨fun pins s σ H R I q => h.run pins s σ H R I (hw σ H R q)⟩
theorem PG.imp {X : Cx} {tg : Expr} {g g' : TG} (h : PG X tg g) (hw : ∀ v σ H Q, g' v σ H Q → g v σ H Q) : PG X tg g' := ⟨fun pins s σ H v u Q I r q => h.run pins s σ H v u Q I r (hw v σ H Q q)⟩
theorem pi_enumV {X : Cx} (i : Nat) {x : Str} {p px pos tpos : Pos} {elts : List Expr} {kk : Nat} (hg : Gl X "enumerate") (hm : X.mg "enumerate" = none) (hv : PE X (.Name x px) (tVar i)) (hs : starEach [.Name x px] X.env = [(false, eval (.Name x px) X.env)] := by rfl) :
    PI X (.Tuple elts kk tpos) (.Call (.Name "enumerate" p) [.Name x px] [] pos) (iEnumV X.K i) := by
  refine PI.imp (pi_enumA hg hm (pa_cons hv pa_nil) hs) fun σ H R q => ?_
  obtain ⟨a, xs, hσ, hq, q⟩ := q
  rcases hq with hq | hq
  · exact ⟨_, hσ, a, xs, rfl, .inl ⟨hq, q _ _ walk_enum fun H' h' => At1.l h' hq⟩⟩
  · exact ⟨_, hσ, a, xs, rfl, .inr ⟨hq, q _ _ walk_enumT fun H' h' => At1.t h' hq⟩⟩
theorem pi_seqV {X : Cx} {tg : Expr} (i : Nat) {x : Str} {px : Pos} (hv : PE X (.Name x px) (tVar i)) : PI X tg (.Name x px) (iSeqV X.K i) := by
  refine ⟨fun pins s σ H R I q => ?_⟩
  obtain ⟨a, xs, hσ, hq, q⟩ := q
  rcases hq with hq | hq
  · exact (pi_list hv).run pins s σ H R I ⟨_, hσ, a, rfl, ⟨xs, hq⟩, q _ _ walk_list fun H' h' => At1.l h' hq⟩
  · exact (pi_tup hv).run pins s σ H R I ⟨_, hσ, a, rfl, ⟨xs, hq⟩, q _ _ walk_tup fun H' h' => At1.t h' hq⟩
end K1
end
-- KNeed
section
set_option Elab.async false
set_option linter.all false
set_option maxRecDepth 100000
set_option maxHeartbeats 4000000
namespace K1
open PySem PySem.Spec PyProof.Rows L2
abbrev sNH : Stmt := top 22
/-- an error of the class at C with this index goes out; all that was tracked is as it was -/
def Goes (C : Addr) (i : Int) (H : Hp) (E : XK) : Prop := ∀ (d : Addr) (H' : Hp), Same H H' → H d = none → H' d = some (.xd [("index", .int i)]) → E (.ref C) (some d) H'
theorem Goes.ext {C : Addr} {i : Int} {H H1 : Hp} {E : XK} (g : Goes C i H E) (e : Same H H1) : Goes C i H1 E := fun d H' e2 n h => g d H' (e.trans e2) (e.free n) h
/-- good names -/
def Good (ss : List Str) : Prop := ss.Nodup ∧ ∀ s ∈ ss, nameOk s = true ∧ s.length ≤ 1000
theorem mem_take_succ {α : Type} {l : List α} {i : Nat} {u : α} (h : i < l.length) : u ∈ l.take (i + 1) ↔ u ∈ l.take i ∨ u = l[i] := by
  rw [List.take_add_one, List.getElem?_eq_getElem h, Option.toList, List.mem_append, List.mem_singleton]
/-- no name behind these -/
def BadName (K : PySem.W.Frag) (H : Hp) (ss : List Str) (x : V) : Prop := (∃ t, TyX K H x (.type t) ∧ t ∈ kinds ∧ t ≠ "str") ∨ ∃ s, x = .str s ∧ s.length ≤ 1000 ∧ (nameOk s = false ∨ s ∈ ss)
theorem BadName.ext {K : PySem.W.Frag} {H H' : Hp} {ss : List Str} {x : V} (h : BadName K H ss x) (e : Same H H') : BadName K H' ss x := h.imp (fun ⟨t, a, b⟩ => ⟨t, TyX.ext a e, b⟩) id
def spNH (K : PySem.W.Frag) (C : Addr) : Sp := fun vs H Q E => ∃ v, vs = [v] ∧
  ((NoSeq K H v ∧ Goes C 0 H E) ∨ (SeqV H v [] ∧ Goes C 0 H E) ∨
   (∃ ss, SeqV H v (ss.map V.str) ∧ ss ≠ [] ∧ ss.length ≤ 1000 ∧ Good ss ∧ ∀ H', Same H H' → Q .non H') ∨
   (∃ ss x rest, SeqV H v (ss.map V.str ++ x :: rest) ∧ ss.length ≤ 1000 ∧ Good ss ∧ BadName K H ss x ∧ Goes C (ss.length : Nat) H E))
theorem scNH : FnScope ["houses", "seen", "index", "name"] ["houses"] (defScope sNH) := ⟨rfl, rfl, rfl, by decide +kernel, rfl, by decide +kernel, by decide +kernel⟩
/-- what stands behind an error that was made: its dict -/
theorem made_err {C d a : Addr} {v : V} {H : Hp} : upd (del (upd (upd H d (exd d [("index", v)])) a (exo a C (some d))) a) d (.xd [("index", v)]) d = some (.xd [("index", v)]) := upd_same
section
variable {P : Program} {w : World} {K : PySem.W.Frag} {mg : Str → Option Value} {base : Heap} {CF : Addr}
/-- the reading of X(index), as a raise asks it -/
theorem raise_idx {C : Addr} {E : XK} {H0 H : Hp} {i : Int} (g : Goes C i H0 E) (e : Same H0 H) :
    ∀ a, H a = none → spErI C [V.ref a, V.int i] (upd H a (exo a C none)) (fun v H2 => v = .non ∧ ∃ (d : Addr) (fs : List (Str × V)), H2 a = some (exo a C (some d)) ∧ H2 d = some (exd d fs) ∧ H d = none ∧ E (.ref C) (some d) (upd (del H2 a) d (.xd fs))) (fun _ _ _ => False) := by
  intro a ha
  refine ⟨a, .int i, rfl, upd_same, fun d hd hda => ⟨rfl, d, [("index", .int i)], upd_same, ?_, ?_, ?_⟩⟩
  · rw [upd_ne hda, upd_same]
  · rw [upd_ne hda] at hd
    exact hd
  · rw [upd_ne hda] at hd
    refine g d _ (fun b o n => ?_) (e.free hd) upd_same
    have n1 := e b o n
    have b1 : b ≠ a := ne_of_none n1 ha
    have b2 : b ≠ d := ne_of_none n1 hd
    rw [upd_ne b2, del_ne b1, upd_ne b1, upd_ne b2, upd_ne b1]
    exact n1
theorem ok_NH {f g fN fE C : Addr} {fd gd nd ed : FuncData} (F : Fun K "_need_houses" "_need_houses" sNH f fd) (B : Bl mg) (S : Signs mg) (me : mg "enumerate" = none) (ms : mg "set" = none)
    (FI : Fun K "is_list" "is_list" sIsList g gd) (b : Binds K gd ["thing"] []) (m : mg "is_list" = some (.ref g))
    (FN : Fun K "is_name" "is_name" sIsName fN nd) (bN : Binds K nd ["thing"] []) (mN : mg "is_name" = some (.ref fN))
    (T : FeC K mg CF) (TC : ErC K mg "BadHouses" C fE) (FE : Fun K "__init__" "BadHouses.__init__" sIH fE ed) (bE : Binds K ed ["self", "index"] []) :
    FnOk P w K mg base (L2.CX P w) 4 f fd ["houses"] (spNH K C) := by
  have G := ok_isList (P := P) (w := w) (base := base) FI B
  have GN := ok_isName (P := P) (w := w) (base := base) FN B S
  have GE := ok_iH (P := P) (w := w) (base := base) FE T TC
  refine F.okX scNH (fun vs H Q E h => ?_) (fun cdv A outer s H vs Q E hr h => ?_)
  · obtain ⟨v, rfl, _⟩ := h
    rfl
  obtain ⟨v, rfl, h⟩ := h
  have nd := scNH.nd
  have hu := hu_of hr
  have hr1 : Room 1 _ := hr.mono (by decide)
  have hr2 : Room 2 _ := hr.mono (by decide)
  refine ⟨_, pss_cons (by exact (ps_if (PW.pt (pw_or (pt_not (pt_val (pe_call G hr1 rfl m FI.kp b .nil pass0 (pa_cons (pv 0) pa_nil)))) (pw_or1 (pt_cmpR op_eq (pe_callB call_len_seq rfl B.len PySem.boot_len (pa_cons (pv 0) pa_nil)) pe_int (nomark _)))))
      (pss_one (by exact (ps_raise rfl (takes_of rfl rfl rfl rfl) (pmk_oex TC.ox TC.ini TC.ty GE hr2 bE .nil pass0 rfl TC.m (pa_cons pe_int pa_nil))))) pss_nil))
    (pss_cons (by exact (ps_set (i := 1) nd rfl (.inl rfl) (pe_callTy0 cr_set0K rfl ms PyProof.Rows.boot_set)))
    (pss_one (by exact (ps_for (passes_of rfl) rfl (by exact pi_enumV 0 rfl me (pv 0)) (pg_tup rfl (pgs_cons (pg_name (i := 2) nd rfl (.inl rfl)) (pgs_cons (pg_name (i := 3) nd rfl (.inl rfl)) pgs_nil)))
      (pss_cons (by exact (ps_if (PW.pt (pw_or (pt_not (pt_val (pe_call GN hr1 rfl mN FN.kp bN .nil pass0 (pa_cons (pv 3) pa_nil)))) (pw_or1 (pt_cmpR or_sinK (pv 3) (pv 1) (by with_unfolding_all rfl)))))
          (pss_one (by exact (ps_raise rfl (takes_of rfl rfl rfl rfl) (pmk_oex TC.ox TC.ini TC.ty GE hr2 bE .nil pass0 rfl TC.m (pa_cons (pv 2) pa_nil))))) pss_nil))
        (pss_one (by exact (ps_expr (pe_saddK (pv 1) (pa_cons (pv 3) pa_nil)))))))))), ?_⟩
  have two : ∀ xs, SeqV H v xs → ∃ t, TyX K H v (.type t) ∧ t ∈ kinds ∧ isSeqT t = true := fun xs sv => sv.ty
  rcases h with ⟨⟨t, ty, kt, nt⟩, g⟩ | ⟨sv, g⟩ | h
  · refine ⟨_, rfl, v, t, rfl, ty, kt, fun H' e => ⟨_, rfl, ?_⟩⟩
    rw [nt]
    exact iteT (iteT ⟨by decide, raise_idx g e⟩)
  · obtain ⟨t, ty, kt, st⟩ := sv.ty (K := K)
    refine ⟨_, rfl, v, t, rfl, ty, kt, fun H' e => ⟨_, rfl, ?_⟩⟩
    rw [st]
    obtain ⟨p, rfl, sq⟩ := (sv.ext e).sq (K := K)
    exact iteF ⟨_, rfl, p, [], rfl, sq, rfl, _, rfl, iteT ⟨by decide, raise_idx g e⟩⟩
  · -- names: the good ones ss, then perhaps a bad one
    obtain ⟨ss, xs, sv, hne, hl, good, rest⟩ : ∃ (ss : List Str) (xs : List V), SeqV H v xs ∧ xs ≠ [] ∧ ss.length ≤ 1000 ∧ Good ss ∧
        ((xs = ss.map V.str ∧ ∀ H', Same H H' → Q .non H') ∨ (∃ x r, xs = ss.map V.str ++ x :: r ∧ BadName K H ss x ∧ Goes C (ss.length : Nat) H E)) := by
      rcases h with ⟨ss, sv, hne, hl, good, q⟩ | ⟨ss, x, r, sv, hl, good, bad, g⟩
      · exact ⟨ss, _, sv, by simpa using hne, hl, good, .inl ⟨rfl, q⟩⟩
      · exact ⟨ss, _, sv, by simp, hl, good, .inr ⟨x, r, rfl, bad, g⟩⟩
    obtain ⟨t, ty, kt, st⟩ := sv.ty (K := K)
    refine ⟨_, rfl, v, t, rfl, ty, kt, fun H1 e1 => ⟨_, rfl, ?_⟩⟩
    rw [st]
    refine iteF ?_
    obtain ⟨p, rfl, hp⟩ := sv.ext e1
    have sq : SqA K H1 p xs := hp.imp (fun h => SqL.of h) (fun h => SqT.of h)
    have z0 : decide (V.int (xs.length : Int) = V.int 0) = false := decide_eq_false fun z => hne (List.length_eq_zero_iff.mp (by have := V.int.inj z; omega))
    refine ⟨_, rfl, p, xs, rfl, sq, rfl, _, rfl, ?_⟩
    rw [z0]
    refine iteF ?_
    refine ⟨rfl, fun sA hsA => ?_⟩
    have e2 : Same H (upd H1 sA (SetK P w sA (fun _ => false) 0)) := e1.trans (K1.Same.upd hsA)
    have hsA0 : H sA = none := e1.free hsA
    have sq2 : SqA K (upd H1 sA (SetK P w sA (fun _ => false) 0)) p xs := SqA.same (H := H1) sq (K1.Same.upd hsA)
    refine ⟨p, xs, rfl, sq2, fun J G wk hG => ?_⟩
    have xat : ∀ i (hi : i < ss.length), xs[i]? = some (.str ss[i]) := fun i hi => by
      rcases rest with ⟨rfl, _⟩ | ⟨x, r, rfl, _⟩
      · rw [List.getElem?_map, List.getElem?_eq_getElem hi]; rfl
      · rw [List.getElem?_append_left (by rw [List.length_map]; exact hi), List.getElem?_map, List.getElem?_eq_getElem hi]; rfl
    have lng : ss.length ≤ xs.length := by
      rcases rest with ⟨rfl, _⟩ | ⟨x, r, rfl, _⟩
      · simp
      · simp
    refine for_it wk (fun i σ Hc => i ≤ ss.length ∧ (∃ a b, σ = [some (.ref p), some (.ref sA), a, b]) ∧ Same H Hc ∧ (∀ c o, c ≠ sA → upd H1 sA (SetK P w sA (fun _ => false) 0) c = some o → Hc c = some o) ∧
      ∃ (S : Key → Bool) (k : Nat), Hc sA = some (SetK P w sA S k) ∧ k ≤ i ∧ ∀ u : Str, S (.inr u) = decide (u ∈ ss.take i)) ?_ ?_ ?_ ?_
    · exact ⟨Nat.zero_le _, ⟨_, _, rfl⟩, e2, fun c o _ h => h, _, 0, upd_same, Nat.le_refl _, fun u => by simp⟩
    · rintro i σ Hc hi ⟨h1, h2, h3, h4, h5⟩
      have pn : p ≠ sA := hp.elim (fun h => ne_of_none h hsA) (fun h => ne_of_none h hsA)
      exact hG Hc fun o ho => h4 p o pn ho
    · rintro i x σ Hc H' hi ⟨h1, ⟨sa, sb, rfl⟩, h3, h4, S, k, h5, h6, h7⟩ ⟨T, x1, x2, rfl, hT, rfl, e1', e2'⟩
      obtain rfl : x1 = .int (i : Nat) := (Option.some.inj e1').symm
      have e2' : xs[i]? = some x2 := e2'
      have hT2 := K1.Same.upd (H := Hc) (p := T) (o := .tup [.int (i : Nat), x2]) hT
      have eT : Same H (upd Hc T (.tup [.int (i : Nat), x2])) := h3.trans hT2
      refine ⟨T, _, rfl, SqT.of upd_same, rfl, _, _, rfl, _, _, rfl, rfl, ?_⟩
      by_cases hlt : i < ss.length
      · have ex2 : x2 = .str ss[i] := by
          have := xat i hlt
          rw [this] at e2'
          exact (Option.some.inj e2').symm
        subst ex2
        have gi := good.2 ss[i] (List.getElem_mem hlt)
        refine ⟨_, rfl, .str ss[i], rfl, .inl ⟨ss[i], rfl, gi.2, fun H2 f2 => ⟨_, rfl, ?_⟩⟩⟩
        rw [gi.1]
        refine iteF ?_
        have sA2 := f2 _ _ (hT2 _ _ h5)
        have nin : ¬ ss[i] ∈ ss.take i := fun hm => by
          obtain ⟨j, hj, ej⟩ := List.getElem_of_mem hm
          rw [List.length_take] at hj
          rw [List.getElem_take] at ej
          have := (List.getElem_inj good.1).mp ej
          omega
        refine ⟨_, rfl, _, rfl, .inr ss[i], sA, S, k, rfl, rfl, sA2, _, rfl, ?_⟩
        rw [h7, decide_eq_false nin]
        refine iteF ?_
        refine ⟨_, rfl, ⟨sA, S, k, rfl, sA2⟩, _, rfl, sA, .inr ss[i], S, k, rfl, rfl, sA2, (by show k + 1 < 4096; omega), ?_⟩
        refine ⟨hlt, ⟨_, _, rfl⟩, fun c o n => ?_, fun c o n1 n2 => ?_, _, _, upd_same, ?_, fun u => ?_⟩
        · rw [upd_ne (ne_of_none n hsA0)]
          exact f2 _ _ (eT _ _ n)
        · rw [upd_ne n1]
          exact f2 _ _ (hT2 _ _ (h4 c o n1 n2))
        · split <;> omega
        · show (S (.inr u) || decide ((Sum.inr u : Key) = Sum.inr ss[i])) = decide (u ∈ ss.take (i + 1))
          rw [h7, key_rr, ← Bool.decide_or]
          exact decide_eq_decide.mpr (mem_take_succ hlt).symm
      · rcases rest with ⟨rfl, _⟩ | ⟨x, r, hxs, bad, g⟩
        · rw [List.length_map] at hi
          exact absurd hi hlt
        · have ei : i = ss.length := by omega
          subst ei
          have ex2 : x2 = x := by
            rw [hxs, List.getElem?_append_right (by rw [List.length_map]; exact Nat.le_refl _), List.length_map, Nat.sub_self] at e2'
            exact (Option.some.inj e2').symm
          subst ex2
          rcases bad.ext eT with ⟨t, ty, kt, nt⟩ | ⟨u, rfl, hu1, hu2⟩
          · exact ⟨_, rfl, x2, rfl, .inr ⟨t, ty, kt, nt, _, rfl, iteT (iteT ⟨_, rfl, (by show 1 ≤ 1000; decide), raise_idx g eT⟩)⟩⟩
          · refine ⟨_, rfl, .str u, rfl, .inl ⟨u, rfl, hu1, fun H2 f2 => ⟨_, rfl, ?_⟩⟩⟩
            rcases hu2 with hu2 | hu2
            · rw [hu2]
              exact iteT (iteT ⟨_, rfl, (by show 1 ≤ 1000; decide), raise_idx g (eT.trans f2)⟩)
            · cases hn : nameOk u with
              | false => exact iteT (iteT ⟨_, rfl, (by show 1 ≤ 1000; decide), raise_idx g (eT.trans f2)⟩)
              | true =>
                refine iteF ?_
                refine ⟨_, rfl, _, rfl, .inr u, sA, S, k, rfl, rfl, f2 _ _ (hT2 _ _ h5), _, rfl, ?_⟩
                rw [h7, List.take_of_length_le (Nat.le_refl _), decide_eq_true hu2]
                exact iteT ⟨_, rfl, (by show 1 ≤ 1000; decide), raise_idx g (eT.trans f2)⟩
    · rintro σ Hc ⟨h1, h2, h3, h4, h5⟩
      rcases rest with ⟨rfl, q⟩ | ⟨x, r, rfl, bad, g⟩
      · exact q Hc h3
      · rw [List.length_append, List.length_map, List.length_cons] at h1
        omega
end
end K1
end
-- KUF
section
set_option Elab.async false
set_option linter.all false
set_option maxRecDepth 100000
set_option maxHeartbeats 4000000
namespace K1
open PySem PySem.Spec PyProof.Rows L2
/-- the dict of leaders: rt tells whom one comes to at last, rk falls on the way -/
structure UF (hs : List Str) (kvs : List (Key × V)) (rt : Str → Str) (rk : Str → Nat) : Prop where
  len : kvs.length ≤ hs.length
  ex : ∃ ld : Str → Str, (∀ s, valV kvs (.inr s) = if s ∈ hs then some (.str (ld s)) else none) ∧
    ∀ s ∈ hs, ld s ∈ hs ∧ rt (ld s) = rt s ∧ rt s ∈ hs ∧ (ld s = s → rt s = s) ∧ (ld s ≠ s → rk (ld s) < rk s) ∧ ld (rt s) = rt s
theorem putK_len {kvs : List (Key × V)} {k : Key} {v : V} (h : (valV kvs k).isSome = true) : (putK kvs k v).length = kvs.length := by
  unfold putK
  rw [← valV_any] at h
  rw [if_pos h, List.length_map]
theorem ite_rr {α : Type} (s x : Str) (p q : α) : (if (Sum.inr s : Key) = Sum.inr x then p else q) = if s = x then p else q := by
  by_cases e : s = x
  · rw [if_pos e, if_pos (by rw [e])]
  · rw [if_neg e, if_neg (fun z => e (Sum.inr.inj z))]
/-- the way is made shorter -/
theorem UF.halve {hs : List Str} {kvs : List (Key × V)} {rt : Str → Str} {rk : Str → Nat} {x : Str} (u : UF hs kvs rt rk) (hx : x ∈ hs) :
    ∃ y, valV kvs (.inr x) = some (.str y) ∧ y ∈ hs ∧ (y = x → rt x = x) ∧ (y ≠ x → ∃ z, valV kvs (.inr y) = some (.str z) ∧ z ∈ hs ∧ rk z < rk x ∧ rt z = rt x ∧ UF hs (putK kvs (.inr x) (.str z)) rt rk) := by
  obtain ⟨hl, ld, h1, h2⟩ := u
  have a := h2 x hx
  have b := h2 (ld x) a.1
  refine ⟨ld x, by rw [h1, if_pos hx], a.1, a.2.2.2.1, fun ne => ⟨ld (ld x), by rw [h1, if_pos a.1], b.1, ?_, by rw [b.2.1, a.2.1], ?_⟩⟩
  · have r1 := a.2.2.2.2.1 ne
    by_cases e : ld (ld x) = ld x
    · rw [e]; exact r1
    · exact Nat.lt_trans (b.2.2.2.2.1 e) r1
  · refine ⟨?_, fun s => if s = x then ld (ld x) else ld s, fun s => ?_, fun s hs' => ?_⟩
    · rw [putK_len (by rw [h1, if_pos hx]; rfl)]
      exact hl
    · rw [valV_put, ite_rr]
      show _ = if s ∈ hs then some (V.str (if s = x then ld (ld x) else ld s)) else none
      by_cases e : s = x
      · rw [if_pos e, if_pos e, e, if_pos hx]
      · rw [if_neg e, if_neg e, h1]
    · have c := h2 s hs'
      have rx : rt s ≠ x := fun e => by
        have q := c.2.2.2.2.2
        rw [e] at q
        exact ne q
      by_cases e : s = x
      · subst e
        simp only [if_true]
        refine ⟨b.1, by rw [b.2.1, a.2.1], c.2.2.1, fun e2 => ?_, fun e2 => ?_, by rw [if_neg rx]; exact c.2.2.2.2.2⟩
        · exfalso
          have r1 := a.2.2.2.2.1 ne
          by_cases e3 : ld (ld s) = ld s
          · rw [e3] at e2; exact ne e2
          · have r2 := b.2.2.2.2.1 e3
            rw [e2] at r2
            omega
        · have r1 := a.2.2.2.2.1 ne
          by_cases e3 : ld (ld s) = ld s
          · rw [e3]; exact r1
          · exact Nat.lt_trans (b.2.2.2.2.1 e3) r1
      · simp only [if_neg e, if_neg rx]
        exact c
theorem UF.start {hs : List Str} (nd : hs.Nodup) : UF hs (hs.map fun s => ((.inr s : Key), V.str s)) (fun s => s) (fun _ => 0) := by
  refine ⟨by rw [List.length_map]; exact Nat.le_refl _, fun s => s, fun s => ?_, fun s h => ⟨h, rfl, h, fun _ => rfl, fun e => absurd rfl e, rfl⟩⟩
  induction hs with
  | nil => rfl
  | cons a r ih =>
    have n := List.nodup_cons.mp nd
    by_cases e : a = s
    · subst e
      rw [List.map_cons, valV_pos rfl, if_pos (List.mem_cons_self ..)]
    · rw [List.map_cons, valV_neg (fun q => e (Sum.inr.inj q)), ih n.2]
      by_cases m : s ∈ r
      · rw [if_pos m, if_pos (List.mem_cons_of_mem _ m)]
      · rw [if_neg m, if_neg (fun q => (List.mem_cons.mp q).elim (fun z => e z.symm) m)]
/-- two that lead are joined -/
def joinRt (rt : Str → Str) (a b : Str) : Str → Str := fun s => if rt s = rt a then rt b else rt s
theorem UF.join {hs : List Str} {kvs : List (Key × V)} {rt : Str → Str} {rk : Str → Nat} {a b : Str} (u : UF hs kvs rt rk) (ha : a ∈ hs) (hb : b ∈ hs) (ne : rt a ≠ rt b) :
    ∃ rk', UF hs (putK kvs (.inr (rt a)) (.str (rt b))) (joinRt rt a b) rk' := by
  obtain ⟨hl, ld, h1, h2⟩ := u
  have ca := h2 a ha
  have cb := h2 b hb
  have rra : rt (rt a) = rt a := (h2 _ ca.2.2.1).2.2.2.1 ca.2.2.2.2.2
  have rrb : rt (rt b) = rt b := (h2 _ cb.2.2.1).2.2.2.1 cb.2.2.2.2.2
  refine ⟨fun s => if rt s = rt a then rk s + rk (rt b) + 1 else rk s, ?_, fun s => if s = rt a then rt b else ld s, fun s => ?_, fun s hs' => ?_⟩
  · rw [putK_len (by rw [h1, if_pos ca.2.2.1]; rfl)]
    exact hl
  · rw [valV_put, ite_rr]
    show _ = if s ∈ hs then some (V.str (if s = rt a then rt b else ld s)) else none
    by_cases e : s = rt a
    · rw [if_pos e, if_pos e, e, if_pos ca.2.2.1]
    · rw [if_neg e, if_neg e, h1]
  · have c := h2 s hs'
    unfold joinRt
    by_cases e : s = rt a
    · subst e
      simp only [if_true, rra, rrb, if_neg ne.symm]
      refine ⟨cb.2.2.1, trivial, cb.2.2.1, fun z => z, fun _ => by omega, cb.2.2.2.2.2⟩
    · simp only [if_neg e]
      rw [c.2.1]
      by_cases q : rt s = rt a
      · simp only [if_pos q, if_neg ne.symm, rrb]
        refine ⟨c.1, trivial, cb.2.2.1, fun z => ?_, fun z => ?_, cb.2.2.2.2.2⟩
        · exact absurd ((c.2.2.2.1 z).symm.trans q) e
        · have := c.2.2.2.2.1 z
          omega
      · simp only [if_neg q]
        refine ⟨c.1, trivial, c.2.2.1, c.2.2.2.1, c.2.2.2.2.1, ?_⟩
        exact c.2.2.2.2.2
end K1
end
-- KLead
section
set_option Elab.async false
set_option linter.all false
set_option maxRecDepth 100000
set_option maxHeartbeats 4000000
namespace K1
open PySem PySem.Spec PyProof.Rows L2
abbrev sLead : Stmt := top 25
abbrev sKeys : Stmt := top 24
def spLead : Sp := fun vs H Q _ => ∃ (a : Addr) (h : Str) (kvs : List (Key × V)) (hs : List Str) (rt : Str → Str) (rk : Str → Nat), vs = [.ref a, .str h] ∧ H a = some (.dK kvs) ∧ UF hs kvs rt rk ∧ h ∈ hs ∧ hs.length ≤ 1000 ∧
  ∀ kvs', UF hs kvs' rt rk → Q (.str (rt h)) (upd H a (.dK kvs'))
theorem scLead : FnScope ["leads", "house"] ["leads", "house"] (defScope sLead) := ⟨rfl, rfl, rfl, by decide +kernel, rfl, by decide +kernel, by decide +kernel⟩
def muLead (rk : Str → Nat) (σ : L2.St) : Nat := match σ with
  | [_, some (.str x)] => rk x
  | _ => 0
section
variable {P : Program} {w : World} {K : PySem.W.Frag} {mg : Str → Option Value} {base : Heap}
theorem ok_lead {f : Addr} {fd : FuncData} (F : Fun K "_leader" "_leader" sLead f fd) : FnOk P w K mg base CX0 1 f fd ["leads", "house"] spLead := by
  refine F.ok scLead (fun vs H Q E h => ?_) (fun cdv A outer s H vs Q E hr h => ?_)
  · obtain ⟨a, h, kvs, hs, rt, rk, rfl, _⟩ := h
    rfl
  obtain ⟨a, h, kvs, hs, rt, rk, rfl, ha, u, hh, hl, q⟩ := h
  have nd := scLead.nd
  have hu := hu_of hr
  refine ⟨_, pss_cons (by exact (ps_while PassesOwn.never (pt_cmpR op_ne (pe_dget hu (pv 0) (pv 1) (fun _ _ => rfl)) (pv 1) (nomark _))
      (pss_cons (by exact (ps_dput hu (pv 0) (pv 1) (pe_dget hu (pv 0) (pe_dget hu (pv 0) (pv 1) (fun _ _ => rfl)) (fun _ _ => rfl)) rfl))
      (pss_one (by exact (ps_set (i := 1) nd rfl (.inl rfl) (pe_dget hu (pv 0) (pv 1) (fun _ _ => rfl))))))))
    (pss_one (by exact (ps_ret (pv 1)))), ?_⟩
  refine while_by (fun σ Hc => ∃ kvs' x, σ = [some (.ref a), some (.str x)] ∧ Hc = upd H a (.dK kvs') ∧ UF hs kvs' rt rk ∧ x ∈ hs ∧ rt x = rt h) (fun σ _ => muLead rk σ) ⟨kvs, h, rfl, ?_, u, hh, rfl⟩ ?_ ?_
  · funext b
    by_cases e : b = a
    · rw [e, upd_same, ha]
    · rw [upd_ne e]
  · rintro σ Hc ⟨kvs', x, rfl, rfl, u', hx, er⟩
    obtain ⟨y, g1, hy, e1, e2⟩ := u'.halve hx
    have hd : upd H a (.dK kvs') a = some (.dK kvs') := upd_same
    have dg : ∀ {s z}, valV kvs' (.inr s) = some z → DGet (upd H a (.dK kvs')) a (.str s) (some z) := fun {s z} g => by
      have q := DGet.k (k := .inr s) hd
      rw [g] at q
      exact q
    refine ⟨_, rfl, _, rfl, a, .str y, rfl, dg g1, _, rfl, rfl, _, rfl, ?_⟩
    by_cases e : y = x
    · subst e
      rw [decide_eq_true rfl]
      refine iteF ⟨_, rfl, ?_⟩
      have := q kvs' u'
      rw [← er, e1 rfl] at this
      exact this
    · have ne : (!decide (V.str y = V.str x)) = true := by rw [decide_eq_false (fun z => e (V.str.inj z))]; rfl
      rw [ne]
      refine iteT ?_
      obtain ⟨z, g2, hz, lt, er2, u2⟩ := e2 e
      have dp : DPut (upd H a (.dK kvs')) a (.str x) (.str z) (upd (upd H a (.dK kvs')) a (.dK (putK kvs' (.inr x) (.str z)))) := DPut.k (k := .inr x) hd (Nat.lt_of_le_of_lt u'.len (small1000 hl))
      rw [upd_upd] at dp
      refine ⟨_, rfl, _, rfl, _, rfl, a, .str y, rfl, dg g1, a, .str z, rfl, dg g2, _, rfl, _, rfl, a, _, rfl, dp, ?_⟩
      have g3 : valV (putK kvs' (.inr x) (.str z)) (.inr x) = some (.str z) := by rw [valV_put, if_pos rfl]
      have dg3 : DGet (upd H a (.dK (putK kvs' (.inr x) (.str z)))) a (.str x) (some (.str z)) := by
        have q := DGet.k (k := .inr x) (show upd H a (.dK (putK kvs' (.inr x) (.str z))) a = some (.dK (putK kvs' (.inr x) (.str z))) from upd_same)
        rw [g3] at q
        exact q
      exact ⟨_, rfl, _, rfl, a, .str z, rfl, dg3, ⟨_, z, rfl, rfl, u2, hz, er2.trans er⟩, lt⟩
  · rintro σ Hc Q1 Q2 hQ ⟨v1, h1, v2, h2, a', v3, h3, h4, v5, h5, h6, k, h7, h8⟩
    exact ⟨v1, h1, v2, h2, a', v3, h3, h4, v5, h5, h6, k, h7, hQ _ _ h8⟩
end
end K1
end
-- KKeys
section
set_option Elab.async false
set_option linter.all false
set_option maxRecDepth 100000
set_option maxHeartbeats 4000000
namespace K1
open PySem PySem.Spec PyProof.Rows L2
def isKey (hs : List Str) : V → Bool
  | .str s => decide (s ∈ hs)
  | _ => false
/-- a text, or a value of another known type -/
def TextOr (K : PySem.W.Frag) (H : Hp) (x : V) : Prop := (∃ s, x = .str s) ∨ ∃ t, TyX K H x (.type t) ∧ t ∈ kinds ∧ t ≠ "str"
theorem TextOr.ext {K : PySem.W.Frag} {H H' : Hp} {x : V} (h : TextOr K H x) (e : Same H H') : TextOr K H' x := h.imp id fun ⟨t, a, b⟩ => ⟨t, TyX.ext a e, b⟩
theorem isKey_no {K : PySem.W.Frag} {H : Hp} {hs : List Str} {x : V} {t : String} (h : TyX K H x (.type t)) (n : t ≠ "str") : isKey hs x = false := by
  cases x with
  | str s =>
    exfalso
    cases h with
    | base b =>
      cases b with
      | str y => exact n rfl
  | _ => rfl
theorem dc_it {J : It} {n : Nat} {G : Hp → Prop} {Y : Nat → Hp → V → Hp → Prop} (w : Walk J n G Y) {g : TG} {tt : TT} {tk tv : TE} {vs : List Nat} {σ : L2.St} {H1 : Hp} {D : Addr} {Qd : Hp → Prop} (Pv : Nat → Hp → Prop) (h0 : Pv 0 (upd H1 D (.dK []))) (hG : ∀ i H, i ≤ n → Pv i H → G H)
    (hs : ∀ i x H H', i < n → Pv i H → Y i H x H' → g x (wipe σ vs) H' fun σ2 H2 => wipe σ2 vs = wipe σ vs ∧ tt σ2 H2 fun b H3 =>
      if b = true then tk σ2 H3 fun y H4 => tv σ2 H4 fun z H5 => ∃ kvs k, y = kV k ∧ H5 D = some (.dK kvs) ∧ kvs.length < sizeLine ∧ Pv (i + 1) (upd H5 D (.dK (putK kvs k z))) else Pv (i + 1) H3) (hd : ∀ H, Pv n H → Qd H) :
    ∃ W : Nat → Nat → Hp → Prop, (∃ m, W 0 m (upd H1 D (.dK []))) ∧ ∀ i m H, W i m H →
      (J.stop i H ∧ Qd H) ∨ (J.go i H ∧ ∃ Nx : Hp → Prop, (∀ H', Nx H' → ∃ m', m' < m ∧ W (i + 1) m' H') ∧ ∀ x H', J.yld i H x H' → g x (wipe σ vs) H' fun σ2 H2 => wipe σ2 vs = wipe σ vs ∧ tt σ2 H2 fun b H3 =>
        if b = true then tk σ2 H3 fun y H4 => tv σ2 H4 fun z H5 => ∃ kvs k, y = kV k ∧ H5 D = some (.dK kvs) ∧ kvs.length < sizeLine ∧ Nx (upd H5 D (.dK (putK kvs k z))) else Nx H3) := by
  refine ⟨fun i m H => m = n - i ∧ i ≤ n ∧ Pv i H, ⟨n, by simp, Nat.zero_le _, h0⟩, ?_⟩
  rintro i m H ⟨rfl, hi, p⟩
  have q := hG i H hi p
  by_cases hlt : i < n
  · exact .inr ⟨w.goes i H hlt q, Pv (i + 1), fun H' p' => ⟨n - (i + 1), by omega, rfl, hlt, p'⟩, fun x H' y => hs i x H H' hlt p (w.yields i H x H' hlt q y)⟩
  · have e : i = n := by omega
    subst e
    exact .inl ⟨w.stops H q, hd H p⟩
def spKeys (K : PySem.W.Frag) : Sp := fun vs H Q _ => ∃ (v : V) (d : Addr) (xs : List V) (kvs : List (Key × V)) (hs : List Str), vs = [v, .ref d] ∧ SeqV H v xs ∧ xs.length ≤ 1000 ∧ (∀ x ∈ xs, TextOr K H x) ∧ H d = some (.dK kvs) ∧ (∀ s, (valV kvs (.inr s)).isSome = decide (s ∈ hs)) ∧
  ∀ H', Same H H' → Q (.bl (xs.all (isKey hs))) H'
theorem scKeys : FnScope ["things", "table", "thing"] ["things", "table"] (defScope sKeys) := ⟨rfl, rfl, rfl, by decide +kernel, rfl, by decide +kernel, by decide +kernel⟩
section
variable {P : Program} {w : World} {K : PySem.W.Frag} {mg : Str → Option Value} {base : Heap}
theorem ok_keys {f : Addr} {fd : FuncData} (F : Fun K "_are_keys" "_are_keys" sKeys f fd) (B : Bl mg) : FnOk P w K mg base CX0 1 f fd ["things", "table"] (spKeys K) := by
  refine F.ok scKeys (fun vs H Q E h => ?_) (fun cdv A outer s H vs Q E hr h => ?_)
  · obtain ⟨v, d, xs, kvs, hs, rfl, _⟩ := h
    rfl
  obtain ⟨v, d, xs, kvs, hs, rfl, sv, hl, ht, hd, hk, q⟩ := h
  have nd := scKeys.nd
  have hu := hu_of hr
  refine ⟨_, pss_one (by exact ps_ret (pe_callB (cr_all rfl) rfl B.all PyProof.Rows.boot_all (pa_cons (pe_lc (own := [("thing", 2)]) (g := gName 2) (tt := tYes)
      (te := tAndV (tCB (rIsi K) (tCons (tVar 2) (tCons (tC (.ty "str")) tNil))) (tDIn (tVar 2) (tVar 1))) rfl nd (by exact pi_seqV 0 (pv 0))
        (by exact blkOk_by (N := ["things", "table", "thing"]) (sc := defScope sKeys) (by decide +kernel)) (fun _ _ _ _ _ => by exact pg_name (i := 2) nd rfl (Or.inl rfl)) (fun _ _ _ _ _ => pts_nil)
        (fun _ _ _ _ _ => by exact pe_and (pe_callB call_isi rfl B.isi PyProof.Rows.boot_isinstance (pa_cons (pv 2) (pa_cons (pe_bltn (v := .ty "str") rfl B.str PyProof.Rows.boot_str rfl) pa_nil))) (pe_one (pe_cmp (pc_din hu (pv 2) (pv 1)) (by with_unfolding_all rfl))))) pa_nil))), ?_⟩
  obtain ⟨p, rfl, hp⟩ := sv
  have sq : SqA K H p xs := hp.imp (fun h => SqL.of h) (fun h => SqT.of h)
  refine ⟨p, xs, rfl, sq, fun J G wk hG D hD => ?_⟩
  refine lc_it wk (fun i Hc => Same H Hc ∧ Hc D = some (.lst (((xs.take i).map (isKey hs)).map V.bl))) ⟨K1.Same.upd hD, upd_same⟩ (fun i Hc _ h => hG Hc fun o ho => h.1 _ _ ho) ?_ ?_
  · rintro i x Hc H' hi ⟨e1, e2⟩ ⟨rfl, hx⟩
    refine ⟨rfl, ?_⟩
    unfold tYes
    refine iteT ?_
    have fin : ∀ b, b = isKey hs x → ∃ acc, H' D = some (.lst acc) ∧ acc.length < sizeLine ∧ Same H (upd H' D (.lst (acc ++ [.bl b]))) ∧ upd H' D (.lst (acc ++ [.bl b])) D = some (.lst (((xs.take (i + 1)).map (isKey hs)).map V.bl)) := fun b hb => by
      refine ⟨_, e2, ?_, fun a o n => ?_, ?_⟩
      · rw [List.length_map, List.length_map]
        exact small1000 (Nat.le_trans (List.length_take_le _ _) (by omega))
      · rw [upd_ne (ne_of_none n hD)]
        exact e1 a o n
      · rw [upd_same, map_take_succ hx, List.map_append, hb]
        rfl
    rcases (ht x (List.mem_of_getElem? hx)).ext e1 with ⟨s, rfl⟩ | ⟨t, ty, kt, nt⟩
    · refine ⟨_, rfl, .str s, _, _, _, _, rfl, .ty "str", .base (.str s), kit_str (t := "str") (by decide), _, rfl, ?_⟩
      refine iteT ⟨_, rfl, _, rfl, d, _, rfl, DGet.k (k := .inr s) (e1 _ _ hd), fin _ ?_⟩
      rw [hk]
      rfl
    · refine ⟨_, rfl, x, _, _, _, _, rfl, .ty "str", ty, kit_str kt, _, rfl, ?_⟩
      rw [decide_eq_false nt]
      exact iteF (fin _ (isKey_no ty nt).symm)
  · rintro Hc ⟨e1, e2⟩
    refine ⟨D, _, rfl, SqL.of e2, ?_⟩
    have : ((xs.take xs.length).map (isKey hs)).all id = xs.all (isKey hs) := by
      rw [List.take_length, List.all_map]
      rfl
    rw [this]
    exact q Hc e1
end
end K1
end
-- KRoads
section
set_option Elab.async false
set_option linter.all false
set_option maxRecDepth 100000
set_option maxHeartbeats 4000000
namespace K1
open PySem PySem.Spec PyProof.Rows L2
abbrev sNR : Stmt := top 23
/-- whom one comes to, these roads joined one after another -/
def rtOf (rs : List (Str × Str)) : Str → Str := rs.foldl (fun rt e => joinRt rt e.1 e.2) fun s => s
theorem rtOf_snoc {rs : List (Str × Str)} {e : Str × Str} : rtOf (rs ++ [e]) = joinRt (rtOf rs) e.1 e.2 := by
  unfold rtOf
  rw [List.foldl_append]
  rfl
theorem rtOf_succ {rs : List (Str × Str)} {i : Nat} (h : i < rs.length) : rtOf (rs.take (i + 1)) = joinRt (rtOf (rs.take i)) rs[i].1 rs[i].2 := by
  rw [List.take_add_one, List.getElem?_eq_getElem h]
  exact rtOf_snoc
def EndsIn (ss : List Str) (rs : List (Str × Str)) : Prop := ∀ r ∈ rs, r.1 ∈ ss ∧ r.2 ∈ ss
def Forest (rs : List (Str × Str)) : Prop := ∀ i (h : i < rs.length), rtOf (rs.take i) rs[i].1 ≠ rtOf (rs.take i) rs[i].2
def PairV (H : Hp) (x : V) (r : Str × Str) : Prop := SeqV H x [.str r.1, .str r.2]
def BadRoad (K : PySem.W.Frag) (H : Hp) (ss : List Str) (rs : List (Str × Str)) (x : V) : Prop :=
  NoSeq K H x ∨ (∃ ys, SeqV H x ys ∧ ys.length ≠ 2) ∨ (∃ y z, SeqV H x [y, z] ∧ TextOr K H y ∧ TextOr K H z ∧ (isKey ss y && isKey ss z) = false) ∨
  (∃ a b, SeqV H x [.str a, .str b] ∧ a ∈ ss ∧ b ∈ ss ∧ rtOf rs a = rtOf rs b)
theorem BadRoad.ext {K : PySem.W.Frag} {H H' : Hp} {ss : List Str} {rs : List (Str × Str)} {x : V} (h : BadRoad K H ss rs x) (e : Same H H') : BadRoad K H' ss rs x := by
  rcases h with h | ⟨ys, h, n⟩ | ⟨y, z, h, a, b, c⟩ | ⟨a, b, h, q⟩
  · exact .inl (h.ext e)
  · exact .inr (.inl ⟨ys, h.ext e, n⟩)
  · exact .inr (.inr (.inl ⟨y, z, h.ext e, a.ext e, b.ext e, c⟩))
  · exact .inr (.inr (.inr ⟨a, b, h.ext e, q⟩))
theorem paired_get {α β : Type} {F : α → β → Prop} : ∀ {xs : List α} {ys : List β}, Paired F xs ys → ∀ {i : Nat} (h : i < ys.length), ∃ x, xs[i]? = some x ∧ F x ys[i]
  | _, _, .cons f r, 0, _ => ⟨_, rfl, f⟩
  | _, _, .cons f r, i + 1, h => by
    obtain ⟨x, e, q⟩ := paired_get r (i := i) (by simpa using h)
    exact ⟨x, by simpa using e, q⟩
theorem paired_imp {α β : Type} {F G : α → β → Prop} (h : ∀ a b, F a b → G a b) : ∀ {xs : List α} {ys : List β}, Paired F xs ys → Paired G xs ys
  | _, _, .nil => .nil
  | _, _, .cons f r => .cons (h _ _ f) (paired_imp h r)
theorem ixA {K : PySem.W.Frag} {H : Hp} {v y : V} {xs : List V} {i : Int} {Q : VK} (s : SeqV H v xs) (e : atI xs i = some y) (q : Q y H) : rIx K v (.int i) H Q := by
  obtain ⟨p, rfl, h | h⟩ := s
  · exact .inl ⟨p, xs, i, y, rfl, rfl, SqL.of h, e, q⟩
  · exact .inr (.inl ⟨p, xs, i, y, rfl, rfl, SqT.of h, e, q⟩)
section
variable {X : Cx}
/-- name = {..} on one line, the name a local -/
theorem ps_setDc {i : Nat} {y : Str} {py : Pos} {kx vx tg iter : Expr} {ifs : List Expr} {scope : Scope} {own : List (Str × Nat)} {pos spos : Pos} {wi : TI} {g : TG} {tt : TT} {tk tv : TE} (hc : X.calm = true) (hN : X.N.Nodup) (hy : X.N[i]? = some y) (hyl : X.env.scope.names.lookup y = some .local)
    (hsw : swapsWith (.DictComp kx vx [⟨tg, iter, ifs, 0⟩] scope pos) (some (.Name y py)) spos.line X.env = pure true) (hi : PI X tg iter wi) (ok : BlkOk X.N X.env.scope scope own)
    (hg : ∀ (s : Shared) (H : Hp) (C : Addr) (cl : List (Str × Addr)) (fp : List Addr), PG (X.blk s H scope (compEnvC scope cl C X.env) fp) tg g) (ht : ∀ (s : Shared) (H : Hp) (C : Addr) (cl : List (Str × Addr)) (fp : List Addr), PTs (X.blk s H scope (compEnvC scope cl C X.env) fp) ifs tt)
    (hk : ∀ (s : Shared) (H : Hp) (C : Addr) (cl : List (Str × Addr)) (fp : List Addr), PE (X.blk s H scope (compEnvC scope cl C X.env) fp) kx tk)
    (he : ∀ (s : Shared) (H : Hp) (C : Addr) (cl : List (Str × Addr)) (fp : List Addr), PE (X.blk s H scope (compEnvC scope cl C X.env) fp) vx tv) (hs : ∀ x, foldedSetIterable iter X.env x = pure x := by intro _; rfl) :
    PS X (.Assign [.Name y py] (.DictComp kx vx [⟨tg, iter, ifs, 0⟩] scope pos) spos) (tAsg (tDc wi g tt tk tv (own.map (·.2))) (gName i)) := by
  refine ⟨fun pins s σ H D I h => ?_⟩
  rw [exec_Assign_Name_used _ _ _ _ hsw]
  refine wpAny_bind (wpAny_standAt (wpAny_bind ?_))
  show wpAny _ X.A (do let _ ← comprehension (.DictComp kx vx [⟨tg, iter, ifs, 0⟩] scope pos) scope X.env (firstIterPos [⟨tg, iter, ifs, 0⟩] pos) newDict false (eval iter X.env) (some (assign (.Name y py) X.env))) _ _ s
  have h : tDc wi g tt tk tv (own.map (·.2)) σ H (fun x H1 => gName i x σ H1 D.nx) := h
  refine wpAny_bind (thn (dc_core (Qf := fun _ s' => SP X pins D .next s') hc hN I hi ok hg ht hk he hs h fun L C s' m H' I' q hn f => ?_) fun _ s' hq => wpAny_pure (wpAny_pure hq))
  show wpAny _ _ (assign (.Name y py) X.env (.ref L)) _ _ _
  refine wpAny_assign_Name (store_ok2 (v := V.ref L) I' hN hy (.inl hyl) rfl (fun s2 I2 ⟨a, sb, ha⟩ => ?_) (.inr hyl))
  obtain ⟨f0, f1, f2, f3, f4, f5⟩ := f
  have haC : C ≠ a := by
    rcases ha with z | z
    · rw [z]; exact f1
    · exact fun e => f4 y a z e.symm
  refine ⟨m, hn.sameBut sb haC, fun h3 sb3 => ?_⟩
  exact ⟨_, H', I2.turned (t' := s2.toks) (fun b o hb e => (sb3.2 b hb).trans e) f0 f1 f3 f4 f5, q⟩
theorem sw_trueD {kx vx : Expr} {gs : List Comprehension} {scope : Scope} {pos py : Pos} {y : Str} {l : Nat} {env : Env} (hk : env.scope.kind = .function) (hy : env.scope.names.lookup y = some .local) (hl : (py.line == pos.line) = true)
    (ha : (scope.names.any fun (n, k) => n == y && (k == .local || k == .cell)) = false) : swapsWith (.DictComp kx vx gs scope pos) (some (.Name y py)) l env = pure true := by
  have ky : env.kindOf y = some .local := hy
  have hb : env.blockKind = .function := by unfold Env.blockKind; rw [hk]; rfl
  unfold swapsWith
  simp only [hb, ky, ha, Expr.pos, hl]
  rfl
end
def spNR (K : PySem.W.Frag) (C : Addr) : Sp := fun vs H Q E => ∃ u v ss, vs = [u, v] ∧ SeqV H u (ss.map V.str) ∧ Good ss ∧ ss.length ≤ 1000 ∧
  ((NoSeq K H v ∧ Goes C 0 H E) ∨
   ∃ (vs : List V) (rs : List (Str × Str)) (tail : List V), SeqV H v (vs ++ tail) ∧ Paired (PairV H) vs rs ∧ EndsIn ss rs ∧ Forest rs ∧
    ((tail = [] ∧ rs.length + 1 = ss.length ∧ ∀ H', Same H H' → Q .non H') ∨ (tail = [] ∧ rs.length + 1 ≠ ss.length ∧ Goes C (rs.length : Nat) H E) ∨
     (∃ x rest, tail = x :: rest ∧ BadRoad K H ss rs x ∧ Goes C (rs.length : Nat) H E)))
theorem scNR : FnScope ["houses", "roads", "leads", "index", "road", "one", "other", "house"] ["houses", "roads"] (defScope sNR) := ⟨rfl, rfl, rfl, by decide +kernel, rfl, by decide +kernel, by decide +kernel⟩
section
variable {P : Program} {w : World} {K : PySem.W.Frag} {mg : Str → Option Value} {base : Heap} {CF : Addr}
theorem UF.some {hs : List Str} {kvs : List (Key × V)} {rt : Str → Str} {rk : Str → Nat} (u : UF hs kvs rt rk) (s : Str) : (valV kvs (.inr s)).isSome = decide (s ∈ hs) := by
  obtain ⟨_, ld, h1, _⟩ := u
  rw [h1]
  by_cases e : s ∈ hs
  · rw [if_pos e, decide_eq_true e]; rfl
  · rw [if_neg e, decide_eq_false e]; rfl
theorem nodup_take_not {ss : List Str} (h : ss.Nodup) {i : Nat} (hi : i < ss.length) : ¬ ss[i] ∈ ss.take i := fun hm => by
  obtain ⟨j, hj, ej⟩ := List.getElem_of_mem hm
  rw [List.length_take] at hj
  rw [List.getElem_take] at ej
  have := (List.getElem_inj h).mp ej
  omega
theorem ok_NR {f g fP fK fL fE C : Addr} {fd gd pd kd ld ed : FuncData} (F : Fun K "_need_roads" "_need_roads" sNR f fd) (B : Bl mg) (me : mg "enumerate" = none)
    (FI : Fun K "is_list" "is_list" sIsList g gd) (b : Binds K gd ["thing"] []) (m : mg "is_list" = some (.ref g))
    (FP : Fun K "is_pair" "is_pair" sIsPair fP pd) (bP : Binds K pd ["thing"] []) (mP : mg "is_pair" = some (.ref fP))
    (FK : Fun K "_are_keys" "_are_keys" sKeys fK kd) (bK : Binds K kd ["things", "table"] []) (mK : mg "_are_keys" = some (.ref fK))
    (FL : Fun K "_leader" "_leader" sLead fL ld) (bL : Binds K ld ["leads", "house"] []) (mL : mg "_leader" = some (.ref fL))
    (T : FeC K mg CF) (TC : ErC K mg "BadRoads" C fE) (FE : Fun K "__init__" "BadRoads.__init__" sIR fE ed) (bE : Binds K ed ["self", "index"] []) :
    FnOk P w K mg base (L2.CX P w) 4 f fd ["houses", "roads"] (spNR K C) := by
  have G := ok_isList (P := P) (w := w) (base := base) FI B
  have GP := ok_isPair (P := P) (w := w) (base := base) FP FI b m B
  have GK := ok_keys (P := P) (w := w) (base := base) FK B
  have GL := ok_lead (P := P) (w := w) (mg := mg) (base := base) FL
  have GE := ok_iR (P := P) (w := w) (base := base) FE T TC
  refine F.okX scNR (fun vs H Q E h => ?_) (fun cdv A outer s H vs Q E hr h => ?_)
  · obtain ⟨u, v, ss, rfl, _⟩ := h
    rfl
  obtain ⟨u, v, ss, rfl, su, good, hl, h⟩ := h
  have nd := scNR.nd
  have hu := hu_of hr
  have hr1 : Room 1 _ := hr.mono (by decide)
  have hr2 : Room 2 _ := hr.mono (by decide)
  refine ⟨_, pss_cons (by exact (ps_if (pt_not (pt_val (pe_call G hr1 rfl m FI.kp b .nil pass0 (pa_cons (pv 1) pa_nil))))
      (pss_one (by exact (ps_raise rfl (takes_of rfl rfl rfl rfl) (pmk_oex TC.ox TC.ini TC.ty GE hr2 bE .nil pass0 rfl TC.m (pa_cons pe_int pa_nil))))) pss_nil))
    (pss_cons (by exact (ps_setDc (i := 2) (own := [("house", 7)]) (g := gName 7) (tt := tYes) rfl nd rfl rfl (sw_trueD rfl rfl rfl (by decide +kernel)) (by exact pi_seqV 0 (pv 0))
        (by exact blkOk_by (N := ["houses", "roads", "leads", "index", "road", "one", "other", "house"]) (sc := defScope sNR) (by decide +kernel)) (fun _ _ _ _ _ => by exact pg_name (i := 7) nd rfl (Or.inl rfl)) (fun _ _ _ _ _ => pts_nil) (fun _ _ _ _ _ => pv 7) (fun _ _ _ _ _ => pv 7)))
    (pss_cons (by exact (ps_for (passes_of rfl) rfl (by exact pi_enumV 1 rfl me (pv 1)) (pg_tup rfl (pgs_cons (pg_name (i := 3) nd rfl (.inl rfl)) (pgs_cons (pg_name (i := 4) nd rfl (.inl rfl)) pgs_nil)))
      (pss_cons (by exact (ps_if (PW.pt (pw_or (pt_not (pt_val (pe_call GP hr2 rfl mP FP.kp bP .nil pass0 (pa_cons (pv 4) pa_nil)))) (pw_or1 (pt_not (pt_val (pe_call GK hr1 rfl mK FK.kp bK .nil pass0 (pa_cons (pv 4) (pa_cons (pv 2) pa_nil))))))))
          (pss_one (by exact (ps_raise rfl (takes_of rfl rfl rfl rfl) (pmk_oex TC.ox TC.ini TC.ty GE hr2 bE .nil pass0 rfl TC.m (pa_cons (pv 3) pa_nil))))) pss_nil))
      (pss_cons (by exact (ps_set (i := 5) nd rfl (.inl rfl) (pe_call GL hr1 rfl mL FL.kp bL .nil pass0 (pa_cons (pv 2) (pa_cons (pe_ix ix_seq (pv 4) pe_int (fun _ _ => rfl)) pa_nil)))))
      (pss_cons (by exact (ps_set (i := 6) nd rfl (.inl rfl) (pe_call GL hr1 rfl mL FL.kp bL .nil pass0 (pa_cons (pv 2) (pa_cons (pe_ix ix_seq (pv 4) pe_int (fun _ _ => rfl)) pa_nil)))))
      (pss_cons (by exact (ps_if (pt_cmpR op_eq (pv 5) (pv 6) (nomark _))
          (pss_one (by exact (ps_raise rfl (takes_of rfl rfl rfl rfl) (pmk_oex TC.ox TC.ini TC.ty GE hr2 bE .nil pass0 rfl TC.m (pa_cons (pv 3) pa_nil))))) pss_nil))
      (pss_one (by exact (ps_dput hu (pv 2) (pv 5) (pv 6) rfl)))))))))
    (pss_one (by exact (ps_if (pt_cmpR op_ne (pe_callB call_len_seq rfl B.len PySem.boot_len (pa_cons (pv 1) pa_nil)) (pe_op op_sub (pe_callB call_len_seq rfl B.len PySem.boot_len (pa_cons (pv 0) pa_nil)) pe_int) (nomark _))
          (pss_one (by exact (ps_raise rfl (takes_of rfl rfl rfl rfl) (pmk_oex TC.ox TC.ini TC.ty GE hr2 bE .nil pass0 rfl TC.m (pa_cons (pe_callB call_len_seq rfl B.len PySem.boot_len (pa_cons (pv 1) pa_nil)) pa_nil))))) pss_nil))))), ?_⟩
  rcases h with ⟨⟨t, ty, kt, nt⟩, g⟩ | ⟨vs, rs, tail, sv, prs, ends, forest, rest⟩
  · refine ⟨_, rfl, v, t, rfl, ty, kt, fun H' e => ⟨_, rfl, ?_⟩⟩
    rw [nt]
    exact iteT ⟨(by show 1 ≤ 1000; decide), raise_idx g e⟩
  obtain ⟨t, ty, kt, st⟩ := sv.ty (K := K)
  refine ⟨_, rfl, v, t, rfl, ty, kt, fun H1 e1 => ⟨_, rfl, ?_⟩⟩
  rw [st]
  refine iteF ?_
  obtain ⟨p, rfl, hp⟩ := sv.ext e1
  have sq : SqA K H1 p (vs ++ tail) := hp.imp (fun h => SqL.of h) (fun h => SqT.of h)
  obtain ⟨p2, rfl, hp2⟩ := su.ext e1
  have sq2 : SqA K H1 p2 (ss.map V.str) := hp2.imp (fun h => SqL.of h) (fun h => SqT.of h)
  have lvs : vs.length = rs.length := prs.length
  have prs1 : Paired (PairV H1) vs rs := paired_imp (fun _ _ q => SeqV.ext q e1) prs
  -- the dict of leaders
  refine ⟨p2, _, rfl, sq2, fun J G wk hG L hL => ?_⟩
  refine dc_it wk (fun i Hc => Same H1 Hc ∧ Hc L = some (.dK ((ss.take i).map fun s => ((.inr s : Key), V.str s)))) ⟨K1.Same.upd hL, upd_same⟩ (fun i Hc _ h => hG Hc fun o ho => h.1 _ _ ho) ?_ ?_
  · rintro i x Hc H' hi ⟨f1, f2⟩ ⟨rfl, hx⟩
    rw [List.length_map] at hi
    have ex : x = .str ss[i] := by
      have q : (ss.map V.str)[i]? = some x := hx
      rw [List.getElem?_map, List.getElem?_eq_getElem hi] at q
      exact (Option.some.inj q).symm
    subst ex
    refine ⟨rfl, ?_⟩
    unfold tYes
    refine iteT ?_
    refine ⟨_, rfl, _, rfl, _, .inr ss[i], rfl, f2, ?_, fun a o n => ?_, ?_⟩
    · rw [List.length_map]
      exact small1000 (Nat.le_trans (List.length_take_le _ _) (by omega))
    · rw [upd_ne (ne_of_none n hL)]
      exact f1 a o n
    · have nw : valV ((ss.take i).map fun s => ((.inr s : Key), V.str s)) (.inr ss[i]) = none := by
        have u := (UF.start (hs := ss.take i) (good.1.sublist (List.take_sublist _ _)))
        have := u.some ss[i]
        rw [decide_eq_false (nodup_take_not good.1 hi)] at this
        exact Option.not_isSome_iff_eq_none.mp (by rw [this]; exact Bool.false_ne_true)
      rw [upd_same, putK_new _ nw, map_take_succ (List.getElem?_eq_getElem hi)]
  rintro H2 ⟨f1, f2⟩
  rw [List.length_map, List.take_length] at f2
  have e2 : Same H H2 := e1.trans f1
  have hL0 : H L = none := e1.free hL
  refine ⟨p, _, rfl, SqA.same sq f1, fun J G wk hG => ?_⟩
  have xat : ∀ i (hi : i < rs.length), ∃ x, (vs ++ tail)[i]? = some x ∧ PairV H1 x rs[i] := fun i hi => by
    obtain ⟨x, a, b⟩ := paired_get prs1 hi
    exact ⟨x, by rw [List.getElem?_append_left (by omega)]; exact a, b⟩
  have lng : rs.length ≤ (vs ++ tail).length := by rw [List.length_append]; omega
  refine for_it wk (fun i σ Hc => i ≤ rs.length ∧ (∃ a b c d, σ = [some (.ref p2), some (.ref p), some (.ref L), a, b, c, d, none]) ∧ Same H1 Hc ∧ ∃ kvs rk, Hc L = some (.dK kvs) ∧ UF ss kvs (rtOf (rs.take i)) rk) ?_ ?_ ?_ ?_
  · exact ⟨Nat.zero_le _, ⟨_, _, _, _, rfl⟩, f1, _, _, f2, UF.start good.1⟩
  · rintro i σ Hc hi ⟨h1, h2, h3, h4⟩
    refine hG Hc fun o ho => ?_
    have : ∀ o', H1 p = some o' → Hc p = some o := fun o' q => by
      have q2 := f1 _ _ q
      rw [ho] at q2
      rw [Option.some.inj q2]
      exact h3 _ _ q
    exact hp.elim (this _) (this _)
  · rintro i x σ Hc H' hi ⟨h1, ⟨sa, sb, sc, sd, rfl⟩, h3, kvs, rk, h4, uf⟩ ⟨T, x1, x2, rfl, hT, rfl, e1', e2'⟩
    obtain rfl : x1 = .int (i : Nat) := (Option.some.inj e1').symm
    have e2' : (vs ++ tail)[i]? = some x2 := e2'
    have hT2 := K1.Same.upd (H := Hc) (p := T) (o := .tup [.int (i : Nat), x2]) hT
    have eT : Same H1 (upd Hc T (.tup [.int (i : Nat), x2])) := h3.trans hT2
    refine ⟨T, _, rfl, SqT.of upd_same, rfl, _, _, rfl, _, _, rfl, rfl, ?_⟩
    by_cases hlt : i < rs.length
    · obtain ⟨y, ey, py⟩ := xat i hlt
      have ex2 : x2 = y := Option.some.inj (e2'.symm.trans ey)
      subst ex2
      have ee := ends _ (List.getElem_mem hlt)
      have sx : SeqV (upd Hc T (.tup [.int (i : Nat), x2])) x2 [.str rs[i].1, .str rs[i].2] := SeqV.ext py eT
      refine ⟨_, rfl, x2, rfl, .inl ⟨_, sx, fun H3 g3 => ⟨_, rfl, ?_⟩⟩⟩
      refine iteF ⟨_, rfl, _, rfl, x2, L, _, kvs, ss, rfl, sx.ext g3, (by show 2 ≤ 1000; decide), fun z hz => ?_, g3 _ _ (hT2 _ _ h4), uf.some, fun H4 g4 => ⟨_, rfl, ?_⟩⟩
      · rcases List.mem_cons.mp hz with rfl | hz
        · exact .inl ⟨_, rfl⟩
        · rcases List.mem_cons.mp hz with rfl | hz
          · exact .inl ⟨_, rfl⟩
          · cases hz
      have z1 : ([V.str rs[i].1, V.str rs[i].2].all (isKey ss)) = true := by
        show (decide (rs[i].1 ∈ ss) && (decide (rs[i].2 ∈ ss) && true)) = true
        rw [decide_eq_true ee.1, decide_eq_true ee.2]
        rfl
      rw [z1]
      refine iteF ?_
      have s4 := (sx.ext g3).ext g4
      have L4 : H4 L = some (.dK kvs) := g4 _ _ (g3 _ _ (hT2 _ _ h4))
      have e4 : Same H1 H4 := eT.trans (g3.trans g4)
      refine ⟨_, rfl, _, rfl, ixA s4 rfl ⟨L, _, kvs, ss, _, rk, rfl, L4, uf, ee.1, hl, fun k1 u1 => ?_⟩⟩
      have xL : ∀ {o}, H1 L = some o → False := fun q => by rw [hL] at q; cases q
      have up : ∀ {Hx : Hp} {o : HO}, Same H1 Hx → Same H1 (upd Hx L o) := fun e b o n => by
        rw [upd_ne (ne_of_none n hL)]
        exact e b o n
      have s5 : SeqV (upd H4 L (.dK k1)) x2 [.str rs[i].1, .str rs[i].2] := SeqV.ext py (up e4)
      refine ⟨_, rfl, _, rfl, ixA s5 rfl ⟨L, _, k1, ss, _, rk, rfl, upd_same, u1, ee.2, hl, fun k2 u2 => ?_⟩⟩
      rw [upd_upd]
      refine ⟨_, rfl, _, rfl, rfl, _, rfl, ?_⟩
      have ne := forest i hlt
      rw [decide_eq_false (fun q => ne (V.str.inj q))]
      obtain ⟨rk', u3⟩ := u2.join ee.1 ee.2 ne
      have dp : DPut (upd H4 L (.dK k2)) L (.str (rtOf (rs.take i) rs[i].1)) (.str (rtOf (rs.take i) rs[i].2)) (upd (upd H4 L (.dK k2)) L (.dK (putK k2 (.inr (rtOf (rs.take i) rs[i].1)) (.str (rtOf (rs.take i) rs[i].2))))) := DPut.k (k := .inr _) upd_same (Nat.lt_of_le_of_lt u2.len (small1000 hl))
      rw [upd_upd] at dp
      refine iteF ⟨_, rfl, _, rfl, _, rfl, L, _, rfl, dp, hlt, ⟨_, _, _, _, rfl⟩, up e4, _, rk', upd_same, ?_⟩
      rw [rtOf_succ hlt]
      exact u3
    · have ei : i = rs.length := by omega
      subst ei
      rcases rest with ⟨rfl, _⟩ | ⟨rfl, _⟩ | ⟨x, rst, rfl, bad, g⟩
      · rw [List.append_nil] at hi
        omega
      · rw [List.append_nil] at hi
        omega
      have ex2 : x2 = x := by
        rw [List.getElem?_append_right (by omega), ← lvs, Nat.sub_self] at e2'
        exact (Option.some.inj e2').symm
      subst ex2
      have eT0 := e1.trans eT
      rcases bad.ext eT0 with bad | ⟨ys, sy, ny⟩ | ⟨y, z, sy, ty1, ty2, nk⟩ | ⟨a, b, sy, ha, hb, eq⟩
      · exact ⟨_, rfl, x2, rfl, .inr ⟨bad, fun H3 g3 => ⟨_, rfl, iteT (iteT ⟨_, rfl, (by show 1 ≤ 1000; decide), raise_idx g (eT0.trans g3)⟩)⟩⟩⟩
      · refine ⟨_, rfl, x2, rfl, .inl ⟨ys, sy, fun H3 g3 => ⟨_, rfl, ?_⟩⟩⟩
        rw [decide_eq_false ny]
        exact iteT (iteT ⟨_, rfl, (by show 1 ≤ 1000; decide), raise_idx g (eT0.trans g3)⟩)
      · refine ⟨_, rfl, x2, rfl, .inl ⟨_, sy, fun H3 g3 => ⟨_, rfl, ?_⟩⟩⟩
        refine iteF ⟨_, rfl, _, rfl, x2, L, _, kvs, ss, rfl, sy.ext g3, (by show 2 ≤ 1000; decide), fun q hq => ?_, g3 _ _ (hT2 _ _ h4), uf.some, fun H4 g4 => ⟨_, rfl, ?_⟩⟩
        · rcases List.mem_cons.mp hq with rfl | hq
          · exact ty1.ext g3
          · rcases List.mem_cons.mp hq with rfl | hq
            · exact ty2.ext g3
            · cases hq
        have z1 : ([y, z].all (isKey ss)) = false := by
          show (isKey ss y && (isKey ss z && true)) = false
          rw [Bool.and_true]
          exact nk
        rw [z1]
        exact iteT ⟨_, rfl, (by show 1 ≤ 1000; decide), raise_idx g (eT0.trans (g3.trans g4))⟩
      · refine ⟨_, rfl, x2, rfl, .inl ⟨_, sy, fun H3 g3 => ⟨_, rfl, ?_⟩⟩⟩
        refine iteF ⟨_, rfl, _, rfl, x2, L, _, kvs, ss, rfl, sy.ext g3, (by show 2 ≤ 1000; decide), fun q hq => ?_, g3 _ _ (hT2 _ _ h4), uf.some, fun H4 g4 => ⟨_, rfl, ?_⟩⟩
        · rcases List.mem_cons.mp hq with rfl | hq
          · exact .inl ⟨_, rfl⟩
          · rcases List.mem_cons.mp hq with rfl | hq
            · exact .inl ⟨_, rfl⟩
            · cases hq
        have z1 : ([V.str a, V.str b].all (isKey ss)) = true := by
          show (decide (a ∈ ss) && (decide (b ∈ ss) && true)) = true
          rw [decide_eq_true ha, decide_eq_true hb]
          rfl
        rw [z1]
        refine iteF ?_
        have s4 := (sy.ext g3).ext g4
        have L4 : H4 L = some (.dK kvs) := g4 _ _ (g3 _ _ (hT2 _ _ h4))
        have e4 : Same H H4 := eT0.trans (g3.trans g4)
        have up : ∀ {Hx : Hp} {o : HO}, Same H Hx → Same H (upd Hx L o) := fun e b o n => by
          rw [upd_ne (ne_of_none n hL0)]
          exact e b o n
        have pL : ∀ o, SeqV (upd H4 L o) x2 [.str a, .str b] := fun o => by
          obtain ⟨px, rfl, hx⟩ := s4
          have nx : px ≠ L := fun q => by
            rw [q, L4] at hx
            rcases hx with hx | hx <;> cases hx
          exact ⟨px, rfl, by rw [upd_ne nx]; exact hx⟩
        refine ⟨_, rfl, _, rfl, ixA s4 rfl ⟨L, _, kvs, ss, _, rk, rfl, L4, uf, ha, hl, fun k1 u1 => ?_⟩⟩
        refine ⟨_, rfl, _, rfl, ixA (pL _) rfl ⟨L, _, k1, ss, _, rk, rfl, upd_same, u1, hb, hl, fun k2 u2 => ?_⟩⟩
        rw [upd_upd]
        refine ⟨_, rfl, _, rfl, rfl, _, rfl, ?_⟩
        rw [List.take_length, eq, decide_eq_true rfl]
        exact iteT ⟨_, rfl, (by show 1 ≤ 1000; decide), raise_idx g (up e4)⟩
  · rintro σ Hc ⟨h1, ⟨sa, sb, sc, sd, rfl⟩, h3, kvs, rk, h4, uf⟩
    have g1 := SqA.same sq h3
    have g2 := SqA.same sq2 h3
    have e3 : Same H Hc := e1.trans h3
    refine ⟨_, rfl, p, _, rfl, g1, _, rfl, p2, _, rfl, g2, _, _, rfl, rfl, rfl, _, rfl, ?_⟩
    rcases rest with ⟨rfl, hl2, q⟩ | ⟨rfl, hl2, g⟩ | ⟨x, r, rfl, _⟩
    · have z : decide (V.int (((vs ++ []).length : Nat) : Int) = V.int ((((ss.map V.str).length : Nat) : Int) - 1)) = true := by
        rw [List.append_nil, List.length_map, lvs]
        exact decide_eq_true (by rw [← hl2]; congr 1; omega)
      rw [z]
      exact iteF (q Hc e3)
    · have z : decide (V.int (((vs ++ []).length : Nat) : Int) = V.int ((((ss.map V.str).length : Nat) : Int) - 1)) = false := by
        rw [List.append_nil, List.length_map, lvs]
        exact decide_eq_false (fun q => hl2 (by have := V.int.inj q; omega))
      rw [z]
      have ll : (vs ++ []).length = rs.length := by rw [List.append_nil, lvs]
      refine iteT ⟨_, rfl, p, _, rfl, g1, (by show 1 ≤ 1000; decide), ?_⟩
      rw [ll]
      exact raise_idx g e3
    · rw [List.length_append, List.length_cons] at h1
      omega
end
end K1
end
-- KVal
section
set_option Elab.async false
set_option linter.all false
set_option maxRecDepth 100000
set_option maxHeartbeats 4000000
namespace K1
open PySem PySem.Spec PyProof.Rows L2
abbrev sBW : Stmt := top 27
abbrev sNB : Stmt := top 28
def TupP (H : Hp) (q : Addr) (r : Str × Str) : Prop := H q = some (.tup [.str r.1, .str r.2])
theorem TupP.ext {H H' : Hp} {qs : List Addr} {rs : List (Str × Str)} (h : Paired (TupP H) qs rs) (e : Same H H') : Paired (TupP H') qs rs := paired_imp (fun _ _ q => e _ _ q) h
def spBW : Sp := fun vs H Q _ => ∃ (p : Addr) (qs : List Addr) (rs : List (Str × Str)), vs = [.ref p] ∧ H p = some (.lst (qs.map V.ref)) ∧ Paired (TupP H) qs rs ∧ rs.length ≤ 1000 ∧ ∀ r H', Same H H' → Q (.ref r) H'
theorem scBW : FnScope ["roads", "places", "place", "one", "other"] ["roads"] (defScope sBW) := ⟨rfl, rfl, rfl, by decide +kernel, rfl, by decide +kernel, by decide +kernel⟩
theorem putK_le {κ : Type} [DecidableEq κ] {kvs : List (κ × V)} {k : κ} {v : V} : (putK kvs k v).length ≤ kvs.length + 1 := by
  unfold putK
  split
  · rw [List.length_map]; exact Nat.le_succ _
  · rw [List.length_append]; exact Nat.le_refl _
section
variable {P : Program} {w : World} {K : PySem.W.Frag} {mg : Str → Option Value} {base : Heap}
theorem paired_ref {H : Hp} {qs : List Addr} {rs : List (Str × Str)} (h : Paired (TupP H) qs rs) {i : Nat} (hi : i < rs.length) {x : V} (e : (qs.map V.ref)[i]? = some x) : ∃ q, x = .ref q ∧ H q = some (.tup [.str rs[i].1, .str rs[i].2]) := by
  obtain ⟨q, eq, pq⟩ := paired_get h hi
  rw [List.getElem?_map, eq] at e
  exact ⟨q, (Option.some.inj e).symm, pq⟩
theorem ok_BW {f : Addr} {fd : FuncData} (F : Fun K "_both_ways" "_both_ways" sBW f fd) (me : mg "enumerate" = none) : FnOk P w K mg base CX0 1 f fd ["roads"] spBW := by
  refine F.ok scBW (fun vs H Q E h => ?_) (fun cdv A outer s H vs Q E hr h => ?_)
  · obtain ⟨p, qs, rs, rfl, _⟩ := h
    rfl
  obtain ⟨p, qs, rs, rfl, hp, pr, hl, q⟩ := h
  have nd := scBW.nd
  have hu := hu_of hr
  refine ⟨_, pss_cons (by exact (ps_set (i := 1) nd rfl (.inl rfl) pe_dnewT))
    (pss_cons (by exact (ps_for PassesOwn.never rfl (by exact pi_enumV 0 rfl me (pv 0)) (pg_tup rfl (pgs_cons (pg_name (i := 2) nd rfl (.inl rfl)) (pgs_cons (pg_tup rfl (pgs_cons (pg_name (i := 3) nd rfl (.inl rfl)) (pgs_cons (pg_name (i := 4) nd rfl (.inl rfl)) pgs_nil))) pgs_nil)))
      (pss_cons (by exact (ps_dput hu (pv 1) (pe_tup (pa_cons (pv 3) (pa_cons (pv 4) pa_nil))) (pv 2) rfl))
      (pss_one (by exact (ps_dput hu (pv 1) (pe_tup (pa_cons (pv 4) (pa_cons (pv 3) pa_nil))) (pv 2) rfl))))))
    (pss_one (by exact (ps_ret (pv 1))))), ?_⟩
  intro L hL
  have ep : L ≠ p := fun z => by rw [z, hp] at hL; cases hL
  have lqs : qs.length = rs.length := pr.length
  refine ⟨p, _, rfl, .inl (SqL.of (by rw [upd_ne ep.symm]; exact hp)), fun J G wk hG => ?_⟩
  refine for_it wk (fun i σ Hc => (∃ a b c, σ = [some (.ref p), some (.ref L), a, b, c]) ∧ Same H Hc ∧ ∃ kvs, Hc L = some (.dT kvs) ∧ kvs.length ≤ 2 * i) ⟨⟨_, _, _, rfl⟩, K1.Same.upd hL, _, upd_same, Nat.le_refl _⟩ (fun i σ Hc _ h => hG Hc fun o ho => ?_) ?_ ?_
  · rw [upd_ne ep.symm, hp] at ho
    rw [← Option.some.inj ho]
    exact h.2.1 _ _ hp
  · rintro i x σ Hc H' hi ⟨⟨sa, sb, sc, rfl⟩, h1, kvs, h2, h3⟩ ⟨T, x1, x2, rfl, hT, rfl, e1', e2'⟩
    rw [List.length_map, lqs] at hi
    obtain rfl : x1 = .int (i : Nat) := (Option.some.inj e1').symm
    obtain ⟨t, rfl, ht⟩ := paired_ref pr hi e2'
    have hT2 := K1.Same.upd (H := Hc) (p := T) (o := .tup [.int (i : Nat), .ref t]) hT
    have e1 : Same H (upd Hc T (.tup [.int (i : Nat), .ref t])) := h1.trans hT2
    refine ⟨T, _, rfl, SqT.of upd_same, rfl, _, _, rfl, _, _, rfl, t, _, rfl, SqT.of (e1 _ _ ht), rfl, _, _, rfl, _, _, rfl, rfl, rfl, ?_⟩
    have step : ∀ (H1 : Hp) (kv : List (List Key × V)) (a b : Str), Same H H1 → H1 L = some (.dT kv) → kv.length ≤ 2 * i + 1 → ∀ (R : Hp → Prop), (∀ H2, Same H H2 → (∃ kv', H2 L = some (.dT kv') ∧ kv'.length ≤ kv.length + 1) → R H2) →
        2 ≤ sizeLine ∧ ∀ b', H1 b' = none → ∃ a' H3, V.ref L = .ref a' ∧ DPut (upd H1 b' (.tup [.str a, .str b])) a' (.ref b') (.int (i : Nat)) H3 ∧ R H3 := by
      intro H1 kv a b f1 f2 f3 R hR
      refine ⟨by decide, fun b' hb => ⟨L, _, rfl, DPut.t (k := [.inr a, .inr b]) (by rw [upd_ne (ne_of_none f2 hb)]; exact f2) upd_same (Nat.lt_of_le_of_lt f3 (by show 2 * i + 1 < 2 ^ 24; omega)), hR _ (fun c o n => ?_) ⟨_, upd_same, putK_le⟩⟩⟩
      rw [upd_ne (ne_of_none n hL), upd_ne (ne_of_none (f1 _ _ n) hb)]
      exact f1 _ _ n
    refine ⟨_, rfl, _, rfl, _, rfl, _, rfl, ?_⟩
    refine step _ kvs rs[i].1 rs[i].2 e1 (hT2 _ _ h2) (by omega) _ ?_
    rintro H2 g1 ⟨kv1, g2, g3⟩
    refine ⟨_, rfl, _, rfl, _, rfl, _, rfl, ?_⟩
    refine step H2 kv1 rs[i].2 rs[i].1 g1 g2 (by omega) _ ?_
    rintro H3 k1 ⟨kv2, k2, k3⟩
    exact ⟨⟨_, _, _, rfl⟩, k1, kv2, k2, by omega⟩
  · rintro σ Hc ⟨⟨sa, sb, sc, rfl⟩, h1, _⟩
    exact ⟨_, rfl, q L Hc h1⟩
end
end K1
end
-- KNb
section
set_option Elab.async false
set_option linter.all false
set_option maxRecDepth 100000
set_option maxHeartbeats 4000000
namespace K1
open PySem PySem.Spec PyProof.Rows L2
def spNB : Sp := fun vs H Q _ => ∃ (p1 p2 : Addr) (ss : List Str) (qs : List Addr) (rs : List (Str × Str)), vs = [.ref p1, .ref p2] ∧ H p1 = some (.lst (ss.map V.str)) ∧ ss.length ≤ 1000 ∧ ss.Nodup ∧ H p2 = some (.lst (qs.map V.ref)) ∧ Paired (TupP H) qs rs ∧ EndsIn ss rs ∧ rs.length ≤ 1000 ∧ ∀ r H', Same H H' → Q (.ref r) H'
theorem scNB : FnScope ["houses", "roads", "found", "one", "other", "house", "far"] ["houses", "roads"] (defScope sNB) := ⟨rfl, rfl, rfl, by decide +kernel, rfl, by decide +kernel, by decide +kernel⟩
def dcScope (sc : Scope) : Stmt → Scope
  | .Return (some (.DictComp _ _ _ s _)) _ => s
  | _ => sc
/-- the dicts of the neighbours: each house has its own, found by it -/
def NbAt (H0 Hc : Hp) (D : Addr) (hs : List Str) (n : Nat) : Prop := ∃ kvs : List (Key × V), Hc D = some (.dK kvs) ∧ kvs.length ≤ hs.length ∧ ∀ s ∈ hs, ∃ d m, valV kvs (.inr s) = some (.ref d) ∧ H0 d = none ∧ d ≠ D ∧ Hc d = some (.dK m) ∧ m.length ≤ n
section
variable {P : Program} {w : World} {K : PySem.W.Frag} {mg : Str → Option Value} {base : Heap}
theorem NbAt.put {H0 Hc : Hp} {D : Addr} {hs : List Str} {n : Nat} {s : Str} {d : Addr} {m : List (Key × V)} {k : Key} {v : V} (h : NbAt H0 Hc D hs n) (hd : d ≠ D) (hm : Hc d = some (.dK m)) (hl : m.length ≤ n) : NbAt H0 (upd Hc d (.dK (putK m k v))) D hs (n + 1) := by
  obtain ⟨kvs, h1, h2, h3⟩ := h
  refine ⟨kvs, by rw [upd_ne hd.symm]; exact h1, h2, fun s hs => ?_⟩
  obtain ⟨d', m', a1, a2, a3, a4, a5⟩ := h3 s hs
  by_cases e : d' = d
  · refine ⟨d', _, a1, a2, a3, by rw [e]; exact upd_same, Nat.le_trans putK_le (by omega)⟩
  · exact ⟨d', m', a1, a2, a3, by rw [upd_ne e]; exact a4, by omega⟩
theorem NbAt.keep {H0 Hc H2 : Hp} {D : Addr} {hs : List Str} {n : Nat} (h : NbAt H0 Hc D hs n) (e : Same Hc H2) : NbAt H0 H2 D hs n := by
  obtain ⟨kvs, h1, h2, h3⟩ := h
  refine ⟨kvs, e _ _ h1, h2, fun s hs => ?_⟩
  obtain ⟨d', m', a1, a2, a3, a4, a5⟩ := h3 s hs
  exact ⟨d', m', a1, a2, a3, e _ _ a4, a5⟩
theorem ok_NB {f : Addr} {fd : FuncData} (F : Fun K "_neighbours" "_neighbours" sNB f fd) : FnOk P w K mg base CX0 1 f fd ["houses", "roads"] spNB := by
  refine F.ok scNB (fun vs H Q E h => ?_) (fun cdv A outer s H vs Q E hr h => ?_)
  · obtain ⟨p1, p2, ss, qs, rs, rfl, _⟩ := h
    rfl
  obtain ⟨p1, p2, ss, qs, rs, rfl, h1, hl, hN, h2, pr, ends, hlr, q⟩ := h
  have nd := scNB.nd
  have hu := hu_of hr
  refine ⟨_, pss_cons (by exact (ps_set (i := 2) nd rfl (.inr rfl) (pe_dc (own := [("house", 5)]) (g := gName 5) (tt := tYes) rfl nd (by exact pi_seqV 0 (pv 0))
        (by exact blkOk_by (N := ["houses", "roads", "found", "one", "other", "house", "far"]) (sc := defScope sNB) (by decide +kernel)) (fun _ _ _ _ _ => by exact pg_name (i := 5) nd rfl (Or.inl rfl)) (fun _ _ _ _ _ => pts_nil) (fun _ _ _ _ _ => pv 5) (fun _ _ _ _ _ => pe_dnewK))))
    (pss_cons (by exact (ps_for PassesOwn.never rfl (by exact pi_seqV 1 (pv 1)) (pg_tup rfl (pgs_cons (pg_name (i := 3) nd rfl (.inl rfl)) (pgs_cons (pg_name (i := 4) nd rfl (.inl rfl)) pgs_nil)))
      (pss_cons (by exact (ps_dput hu (pe_dget hu (pv 2) (pv 3) (fun _ _ => rfl)) (pv 4) pe_bl rfl))
      (pss_one (by exact (ps_dput hu (pe_dget hu (pv 2) (pv 4) (fun _ _ => rfl)) (pv 3) pe_bl rfl))))))
    (pss_one (by exact (ps_ret (pe_dc (own := [("house", 5)]) (g := gName 5) (tt := tYes) (tk := tVar 5) (tv := tLc (iSeqV K 0) (gName 6) (tB (tDIn (tVar 6) (tDGet (tVar 2) (tVar 5)))) (tVar 6) [6]) rfl nd (by exact pi_seqV 0 (pv 0))
        (by exact blkOk_by (N := ["houses", "roads", "found", "one", "other", "house", "far"]) (sc := defScope sNB) (by decide +kernel)) (fun _ _ _ _ _ => by exact pg_name (i := 5) nd rfl (Or.inr rfl)) (fun _ _ _ _ _ => pts_nil) (fun _ _ _ _ _ => by exact pv 5)
        (fun _ _ _ _ _ => by
          refine pe_lc (own := [("far", 6)]) ?_ ?_ ?_ ?_ ?_ ?_ ?_ ?_
          · rfl
          · exact nd
          · exact pi_seqV 0 (pv 0)
          · exact blkOk_by (by with_unfolding_all rfl)
          · intro _ _ _ _ _
            exact pg_name (i := 6) nd rfl (Or.inl rfl)
          · intro _ _ _ _ _
            exact pts_one (pt_cmp (pc_din hu (pv 6) (pe_dget hu (pv 2) (pv 5) (fun _ _ => rfl))) (by with_unfolding_all rfl))
          · intro _ _ _ _ _
            exact pv 6
          · intro _
            rfl)))))), ?_⟩
  have lqs : qs.length = rs.length := pr.length
  -- the dict of dicts
  refine ⟨p1, _, rfl, .inl (SqL.of h1), fun J G wk hG D hD => ?_⟩
  have up : ∀ {Hx : Hp} {d : Addr} {o : HO}, H d = none → Same H Hx → Same H (upd Hx d o) := fun n e b o nn => by
    rw [upd_ne (ne_of_none nn n)]
    exact e b o nn
  have at_ : ∀ i x, (ss.map V.str)[i]? = some x → ∃ h : i < ss.length, x = .str ss[i] := fun i x e => by
    rw [List.getElem?_map] at e
    rcases Nat.lt_or_ge i ss.length with hi | hi
    · rw [List.getElem?_eq_getElem hi] at e
      exact ⟨hi, (Option.some.inj e).symm⟩
    · rw [List.getElem?_eq_none hi] at e
      cases e
  refine dc_it wk (fun i Hc => Same H Hc ∧ NbAt H Hc D (ss.take i) 0) ⟨K1.Same.upd hD, [], upd_same, Nat.zero_le _, fun s hs => absurd hs (by simp)⟩ (fun i Hc _ h => hG Hc fun o ho => h.1 _ _ ho) ?_ ?_
  · rintro i x Hc H' hi ⟨f1, kvs, f2, f3, f4⟩ ⟨rfl, hx⟩
    obtain ⟨hi', rfl⟩ := at_ i x hx
    refine ⟨rfl, ?_⟩
    unfold tYes
    refine iteT ?_
    refine ⟨_, rfl, fun d hd => ?_⟩
    have dD : d ≠ D := fun z => by rw [z, f2] at hd; cases hd
    have d0 : H d = none := f1.free hd
    refine ⟨kvs, .inr ss[i], rfl, by rw [upd_ne dD.symm]; exact f2, Nat.lt_of_le_of_lt f3 (small1000 (Nat.le_trans (List.length_take_le _ _) (by omega))), up hD (up d0 f1), putK kvs (.inr ss[i]) (.ref d), upd_same, ?_, fun s hs => ?_⟩
    · refine Nat.le_trans putK_le ?_
      rw [List.length_take] at f3 ⊢
      omega
    · rcases (mem_take_succ hi').mp hs with hs | rfl
      · obtain ⟨d', m, a1, a2, a3, a4, a5⟩ := f4 s hs
        have ne : ¬ (Sum.inr s : Key) = .inr ss[i] := fun z => nodup_take_not hN hi' (by rw [← Sum.inr.inj z]; exact hs)
        have ne2 : d' ≠ d := fun z => by rw [z, hd] at a4; cases a4
        exact ⟨d', m, by rw [valV_put, if_neg ne]; exact a1, a2, a3, by rw [upd_ne a3, upd_ne ne2]; exact a4, a5⟩
      · exact ⟨d, [], by rw [valV_put, if_pos rfl], d0, dD, by rw [upd_ne dD, upd_same], Nat.le_refl _⟩
  rintro H1 ⟨e1, nb⟩
  have nb : NbAt H H1 D ss 0 := by
    rw [List.length_map, List.take_length] at nb
    exact nb
  -- the roads
  refine ⟨p2, _, rfl, .inl (SqL.of (e1 _ _ h2)), fun J G wk hG => ?_⟩
  refine for_it wk (fun i σ Hc => (∃ a b, σ = [some (.ref p1), some (.ref p2), some (.ref D), a, b, none, none]) ∧ Same H Hc ∧ NbAt H Hc D ss (2 * i)) ⟨⟨_, _, rfl⟩, e1, nb⟩ (fun i σ Hc _ h => hG Hc fun o ho => by
    rw [e1 _ _ h2] at ho
    rw [← Option.some.inj ho]
    exact h.2.1 _ _ h2) ?_ ?_
  · rintro i x σ Hc H' hi ⟨⟨sa, sb, rfl⟩, g1, g2⟩ ⟨rfl, hx⟩
    rw [List.length_map, lqs] at hi
    obtain ⟨t, rfl, ht⟩ := paired_ref pr hi hx
    refine ⟨t, _, rfl, SqT.of (g1 _ _ ht), rfl, _, _, rfl, _, _, rfl, rfl, ?_⟩
    have ee := ends _ (List.getElem_mem hi)
    obtain ⟨kvs, b1, b2, b3⟩ := id g2
    obtain ⟨d, m, a1, a2, a3, a4, a5⟩ := b3 rs[i].1 ee.1
    have dg1 := DGet.k (k := .inr rs[i].1) b1
    rw [a1] at dg1
    have g3 := NbAt.put (s := rs[i].1) (k := .inr rs[i].2) (v := .bl true) g2 a3 a4 a5
    have g4 : Same H (upd H' d (.dK (putK m (.inr rs[i].2) (.bl true)))) := up a2 g1
    refine ⟨_, rfl, _, rfl, D, _, rfl, dg1, _, rfl, d, _, rfl, DPut.k (k := .inr rs[i].2) a4 (by show m.length < 2 ^ 24; omega), ?_⟩
    obtain ⟨kvs', c1, c2, c3⟩ := id g3
    obtain ⟨d', m', x1, x2, x3, x4, x5⟩ := c3 rs[i].2 ee.2
    have dg2 := DGet.k (k := .inr rs[i].2) c1
    rw [x1] at dg2
    refine ⟨_, rfl, _, rfl, D, _, rfl, dg2, _, rfl, d', _, rfl, DPut.k (k := .inr rs[i].1) x4 (by show m'.length < 2 ^ 24; omega), ⟨_, _, rfl⟩, up x2 g4, ?_⟩
    exact NbAt.put (s := rs[i].2) g3 x3 x4 x5
  rintro σ H2 ⟨⟨sa, sb, rfl⟩, g1, g2⟩
  -- the dict of lists
  obtain ⟨kvs, b1, b2, b3⟩ := id g2
  refine ⟨p1, _, rfl, .inl (SqL.of (g1 _ _ h1)), fun J G wk hG D2 hD2 => ?_⟩
  have hD20 : H D2 = none := g1.free hD2
  refine dc_it wk (fun i Hc => Same H2 Hc ∧ ∃ kv, Hc D2 = some (.dK kv) ∧ kv.length ≤ i) ⟨K1.Same.upd hD2, [], upd_same, Nat.zero_le _⟩ (fun i Hc _ h => hG Hc fun o ho => h.1 _ _ ho) ?_ ?_
  · rintro i x Hc H' hi ⟨f1, kv, f2, f3⟩ ⟨rfl, hx⟩
    obtain ⟨hi', rfl⟩ := at_ i x hx
    refine ⟨rfl, ?_⟩
    unfold tYes
    refine iteT ?_
    refine ⟨_, rfl, ?_⟩
    refine ⟨p1, _, rfl, .inl (SqL.of (f1 _ _ (g1 _ _ h1))), fun J2 G2 wk2 hG2 L hL => ?_⟩
    refine lc_it wk2 (fun j Hd => Same H' Hd ∧ ∃ acc, Hd L = some (.lst acc) ∧ acc.length ≤ j) ⟨K1.Same.upd hL, [], upd_same, Nat.zero_le _⟩ (fun j Hd _ h => hG2 Hd fun o ho => h.1 _ _ ho) ?_ ?_
    · rintro j y Hd H'' hj ⟨k1, acc, k2, k3⟩ ⟨rfl, hy⟩
      rw [List.length_map] at hj
      obtain ⟨hj', rfl⟩ := at_ j y hy
      refine ⟨rfl, ?_⟩
      obtain ⟨d, m, a1, a2, a3, a4, a5⟩ := b3 ss[i] (List.getElem_mem hi')
      have dg := DGet.k (k := .inr ss[i]) (k1 _ _ (f1 _ _ b1))
      rw [a1] at dg
      refine ⟨_, rfl, _, rfl, _, rfl, D, _, rfl, dg, d, _, rfl, DGet.k (k := .inr ss[j]) (k1 _ _ (f1 _ _ a4)), _, rfl, ?_⟩
      refine ite2 (fun c => ?_) (fun c => ?_)
      · refine ⟨_, rfl, acc, k2, by show acc.length < 2 ^ 24; omega, fun b o n => ?_, _, upd_same, by rw [List.length_append]; simp; omega⟩
        rw [upd_ne (ne_of_none n hL)]
        exact k1 b o n
      · exact ⟨k1, acc, k2, by omega⟩
    · rintro Hd ⟨k1, acc, k2, k3⟩
      have LD : L ≠ D2 := fun z => by rw [z, f2] at hL; cases hL
      refine ⟨kv, .inr ss[i], rfl, k1 _ _ f2, by show kv.length < 2 ^ 24; rw [List.length_map] at hi; omega, fun b o n => ?_, _, upd_same, Nat.le_trans putK_le (by omega)⟩
      rw [upd_ne (ne_of_none n hD2)]
      exact k1 b o (f1 b o n)
  · rintro Hc ⟨f1, _⟩
    exact q D2 Hc (g1.trans f1)
end
end K1
end
-- NVal
section
set_option Elab.async false
set_option linter.all false
set_option maxRecDepth 100000
set_option maxHeartbeats 4000000
namespace K1
open PySem PySem.Spec PyProof.Rows L2
/-- the place of a road, either way round -/
def plOf (rs : List (Str × Str)) (a b : Str) : Option Nat := rs.findIdx? fun r => decide (r = (a, b) ∨ r = (b, a))
theorem joinRt_one {rt : Str → Str} {a b : Str} : joinRt rt a b a = joinRt rt a b b := by
  unfold joinRt
  by_cases e : rt a = rt b
  · simp [e]
  · simp [e]
theorem joinRt_keep {rt : Str → Str} {a b u v : Str} (h : rt u = rt v) : joinRt rt a b u = joinRt rt a b v := by
  unfold joinRt
  rw [h]
theorem rt_joined {rs : List (Str × Str)} {j : Nat} (hj : j < rs.length) : ∀ i, j < i → i ≤ rs.length → rtOf (rs.take i) rs[j].1 = rtOf (rs.take i) rs[j].2
  | 0, h, _ => absurd h (Nat.not_lt_zero j)
  | i + 1, h, hi => by
    rw [rtOf_succ hi]
    by_cases e : j = i
    · subst e
      exact joinRt_one
    · exact joinRt_keep (rt_joined hj i (by omega) (by omega))
theorem Forest.ne {rs : List (Str × Str)} (f : Forest rs) {i : Nat} (hi : i < rs.length) : rs[i].1 ≠ rs[i].2 := fun e => f i hi (by rw [e])
theorem Forest.fresh {rs : List (Str × Str)} (f : Forest rs) {i : Nat} (hi : i < rs.length) : plOf (rs.take i) rs[i].1 rs[i].2 = none := by
  unfold plOf
  rw [List.findIdx?_eq_none_iff]
  intro r hr
  obtain ⟨j, hj, rfl⟩ := List.getElem_of_mem hr
  have hj2 : j < i := by rw [List.length_take] at hj; omega
  have e := rt_joined (rs := rs) (j := j) (by omega) i hj2 (by omega)
  rw [List.getElem_take]
  refine decide_eq_false fun h => ?_
  rcases h with h | h
  · rw [h] at e; exact f i hi e
  · rw [h] at e; exact f i hi e.symm
theorem plOf_swap {rs : List (Str × Str)} {a b : Str} : plOf rs a b = plOf rs b a := by
  unfold plOf
  congr 1
  funext r
  exact decide_eq_decide.mpr ⟨Or.symm, Or.symm⟩
theorem plOf_succ {rs : List (Str × Str)} {i : Nat} (hi : i < rs.length) (a b : Str) : plOf (rs.take (i + 1)) a b = match plOf (rs.take i) a b with | some j => some j | none => if rs[i] = (a, b) ∨ rs[i] = (b, a) then some i else none := by
  unfold plOf
  rw [List.take_succ, List.getElem?_eq_getElem hi, List.findIdx?_append]
  have hl : (rs.take i).length = i := by rw [List.length_take]; omega
  cases e : (rs.take i).findIdx? fun r => decide (r = (a, b) ∨ r = (b, a)) with
  | some j => simp
  | none =>
    by_cases h : rs[i] = (a, b) ∨ rs[i] = (b, a)
    · rw [if_pos h]
      simp [List.findIdx?_cons, h, hl]
    · rw [if_neg h]
      simp [List.findIdx?_cons, h]
/-- what the dict of places tells -/
def PlacesAt (rs : List (Str × Str)) (kvs : List (List Key × V)) : Prop := ∀ a b : Str, valV kvs [.inr a, .inr b] = (plOf rs a b).map fun i => V.int (i : Nat)
theorem key2 {a b x y : Str} : ([.inr a, .inr b] : List Key) = [.inr x, .inr y] ↔ a = x ∧ b = y := by
  constructor
  · intro h
    injection h with h1 h2
    injection h2 with h3 _
    exact ⟨Sum.inr.inj h1, Sum.inr.inj h3⟩
  · rintro ⟨rfl, rfl⟩
    rfl
theorem PlacesAt.step {rs : List (Str × Str)} (f : Forest rs) {i : Nat} (hi : i < rs.length) {kvs : List (List Key × V)} (h : PlacesAt (rs.take i) kvs) :
    PlacesAt (rs.take (i + 1)) (putK (putK kvs [.inr rs[i].1, .inr rs[i].2] (.int (i : Nat))) [.inr rs[i].2, .inr rs[i].1] (.int (i : Nat))) := by
  intro a b
  rw [valV_put, valV_put, plOf_succ hi, h a b]
  have fr := f.fresh hi
  by_cases e1 : a = rs[i].2 ∧ b = rs[i].1
  · obtain ⟨rfl, rfl⟩ := e1
    rw [if_pos rfl, plOf_swap, fr]
    simp
  · rw [if_neg fun z => e1 (key2.mp z)]
    by_cases e2 : a = rs[i].1 ∧ b = rs[i].2
    · obtain ⟨rfl, rfl⟩ := e2
      rw [if_pos rfl, fr]
      simp
    · rw [if_neg fun z => e2 (key2.mp z)]
      have n : ¬ (rs[i] = (a, b) ∨ rs[i] = (b, a)) := by
        rintro (h | h)
        · exact e2 ⟨by rw [h], by rw [h]⟩
        · exact e1 ⟨by rw [h], by rw [h]⟩
      rw [if_neg n]
      cases plOf (rs.take i) a b <;> rfl
def spBW2 : Sp := fun vs H Q _ => ∃ (p : Addr) (qs : List Addr) (rs : List (Str × Str)), vs = [.ref p] ∧ H p = some (.lst (qs.map V.ref)) ∧ Paired (TupP H) qs rs ∧ Forest rs ∧ rs.length ≤ 1000 ∧
  ∀ r kvs H', Same H H' → H r = none → H' r = some (.dT kvs) → PlacesAt rs kvs → kvs.length ≤ 2 * rs.length → Q (.ref r) H'
section
variable {P : Program} {w : World} {K : PySem.W.Frag} {mg : Str → Option Value} {base : Heap}
theorem ok_BW2 {f : Addr} {fd : FuncData} (F : Fun K "_both_ways" "_both_ways" sBW f fd) (me : mg "enumerate" = none) : FnOk P w K mg base CX0 1 f fd ["roads"] spBW2 := by
  refine F.ok scBW (fun vs H Q E h => ?_) (fun cdv A outer s H vs Q E hr h => ?_)
  · obtain ⟨p, qs, rs, rfl, _⟩ := h
    rfl
  obtain ⟨p, qs, rs, rfl, hp, pr, fo, hl, q⟩ := h
  have nd := scBW.nd
  have hu := hu_of hr
  refine ⟨_, pss_cons (by exact (ps_set (i := 1) nd rfl (.inl rfl) pe_dnewT))
    (pss_cons (by exact (ps_for PassesOwn.never rfl (by exact pi_enumV 0 rfl me (pv 0)) (pg_tup rfl (pgs_cons (pg_name (i := 2) nd rfl (.inl rfl)) (pgs_cons (pg_tup rfl (pgs_cons (pg_name (i := 3) nd rfl (.inl rfl)) (pgs_cons (pg_name (i := 4) nd rfl (.inl rfl)) pgs_nil))) pgs_nil)))
      (pss_cons (by exact (ps_dput hu (pv 1) (pe_tup (pa_cons (pv 3) (pa_cons (pv 4) pa_nil))) (pv 2) rfl))
      (pss_one (by exact (ps_dput hu (pv 1) (pe_tup (pa_cons (pv 4) (pa_cons (pv 3) pa_nil))) (pv 2) rfl))))))
    (pss_one (by exact (ps_ret (pv 1))))), ?_⟩
  intro L hL
  have ep : L ≠ p := fun z => by rw [z, hp] at hL; cases hL
  have lqs : qs.length = rs.length := pr.length
  refine ⟨p, _, rfl, .inl (SqL.of (by rw [upd_ne ep.symm]; exact hp)), fun J G wk hG => ?_⟩
  refine for_it wk (fun i σ Hc => (∃ a b c, σ = [some (.ref p), some (.ref L), a, b, c]) ∧ Same H Hc ∧ ∃ kvs, Hc L = some (.dT kvs) ∧ kvs.length ≤ 2 * i ∧ PlacesAt (rs.take i) kvs) ⟨⟨_, _, _, rfl⟩, K1.Same.upd hL, _, upd_same, Nat.le_refl _, fun a b => rfl⟩ (fun i σ Hc _ h => hG Hc fun o ho => ?_) ?_ ?_
  · rw [upd_ne ep.symm, hp] at ho
    rw [← Option.some.inj ho]
    exact h.2.1 _ _ hp
  · rintro i x σ Hc H' hi ⟨⟨sa, sb, sc, rfl⟩, h1, kvs, h2, h3, h4⟩ ⟨T, x1, x2, rfl, hT, rfl, e1', e2'⟩
    rw [List.length_map, lqs] at hi
    obtain rfl : x1 = .int (i : Nat) := (Option.some.inj e1').symm
    obtain ⟨t, rfl, ht⟩ := paired_ref pr hi e2'
    have hT2 := K1.Same.upd (H := Hc) (p := T) (o := .tup [.int (i : Nat), .ref t]) hT
    have e1 : Same H (upd Hc T (.tup [.int (i : Nat), .ref t])) := h1.trans hT2
    refine ⟨T, _, rfl, SqT.of upd_same, rfl, _, _, rfl, _, _, rfl, t, _, rfl, SqT.of (e1 _ _ ht), rfl, _, _, rfl, _, _, rfl, rfl, rfl, ?_⟩
    have step : ∀ (H1 : Hp) (kv : List (List Key × V)) (a b : Str), Same H H1 → H1 L = some (.dT kv) → kv.length ≤ 2 * i + 1 → ∀ (R : Hp → Prop), (∀ H2, Same H H2 → H2 L = some (.dT (putK kv [.inr a, .inr b] (.int (i : Nat)))) → R H2) →
        2 ≤ sizeLine ∧ ∀ b', H1 b' = none → ∃ a' H3, V.ref L = .ref a' ∧ DPut (upd H1 b' (.tup [.str a, .str b])) a' (.ref b') (.int (i : Nat)) H3 ∧ R H3 := by
      intro H1 kv a b f1 f2 f3 R hR
      refine ⟨by decide, fun b' hb => ⟨L, _, rfl, DPut.t (k := [.inr a, .inr b]) (by rw [upd_ne (ne_of_none f2 hb)]; exact f2) upd_same (Nat.lt_of_le_of_lt f3 (by show 2 * i + 1 < 2 ^ 24; omega)), hR _ (fun c o n => ?_) upd_same⟩⟩
      rw [upd_ne (ne_of_none n hL), upd_ne (ne_of_none (f1 _ _ n) hb)]
      exact f1 _ _ n
    refine ⟨_, rfl, _, rfl, _, rfl, _, rfl, ?_⟩
    refine step _ kvs rs[i].1 rs[i].2 e1 (hT2 _ _ h2) (by omega) _ ?_
    rintro H2 g1 g2
    refine ⟨_, rfl, _, rfl, _, rfl, _, rfl, ?_⟩
    have l1 : (putK kvs [.inr rs[i].1, .inr rs[i].2] (V.int (i : Nat))).length ≤ kvs.length + 1 := putK_le
    refine step H2 _ rs[i].2 rs[i].1 g1 g2 (by omega) _ ?_
    rintro H3 k1 k2
    exact ⟨⟨_, _, _, rfl⟩, k1, _, k2, by have := putK_le (kvs := putK kvs [.inr rs[i].1, .inr rs[i].2] (V.int (i : Nat))) (k := [.inr rs[i].2, .inr rs[i].1]) (v := V.int (i : Nat)); omega, h4.step fo hi⟩
  · rintro σ Hc ⟨⟨sa, sb, sc, rfl⟩, h1, kvs, h2, h3, h4⟩
    rw [List.length_map, lqs] at h3 h4
    rw [List.take_length] at h4
    exact ⟨_, rfl, q L kvs Hc h1 hL h2 h4 h3⟩
end
end K1
end
-- NNb
section
set_option Elab.async false
set_option linter.all false
set_option maxRecDepth 100000
set_option maxHeartbeats 4000000
namespace K1
open PySem PySem.Spec PyProof.Rows L2
/-- whether a road joins two houses -/
def nbB (rs : List (Str × Str)) (s t : Str) : Bool := rs.any fun r => decide (r = (s, t) ∨ r = (t, s))
/-- the houses beside one, in the valley's order -/
def nbs (ss : List Str) (rs : List (Str × Str)) (s : Str) : List Str := ss.filter fun t => nbB rs s t
def addNb (nb : Str → Str → Bool) (s t : Str) : Str → Str → Bool := fun a b => nb a b || (decide (a = s) && decide (b = t))
theorem nbB_succ {rs : List (Str × Str)} {i : Nat} (hi : i < rs.length) : addNb (addNb (nbB (rs.take i)) rs[i].1 rs[i].2) rs[i].2 rs[i].1 = nbB (rs.take (i + 1)) := by
  funext a b
  unfold addNb nbB
  rw [List.take_succ, List.getElem?_eq_getElem hi, List.any_append]
  simp only [Option.toList, List.any_cons, List.any_nil, Bool.or_false, Bool.or_assoc]
  congr 1
  rw [Bool.eq_iff_iff]
  simp only [Bool.or_eq_true, Bool.and_eq_true, decide_eq_true_eq]
  constructor
  · rintro (⟨rfl, rfl⟩ | ⟨rfl, rfl⟩)
    · exact .inl rfl
    · exact .inr rfl
  · rintro (h | h)
    · exact .inl ⟨by rw [h], by rw [h]⟩
    · exact .inr ⟨by rw [h], by rw [h]⟩
/-- the dicts of the neighbours: each house has its own, with these -/
def NbS (H0 Hc : Hp) (D : Addr) (hs : List Str) (n : Nat) (nb : Str → Str → Bool) : Prop := ∃ (kvs : List (Key × V)) (own : Str → Addr), Hc D = some (.dK kvs) ∧ kvs.length ≤ hs.length ∧
  (∀ s ∈ hs, valV kvs (.inr s) = some (.ref (own s)) ∧ H0 (own s) = none ∧ own s ≠ D ∧ ∃ m, Hc (own s) = some (.dK m) ∧ m.length ≤ n ∧ ∀ t : Str, (valV m (.inr t)).isSome = nb s t) ∧ ∀ s ∈ hs, ∀ t ∈ hs, own s = own t → s = t
theorem NbS.keep {H0 Hc H2 : Hp} {D : Addr} {hs : List Str} {n : Nat} {nb : Str → Str → Bool} (h : NbS H0 Hc D hs n nb) (e : Same Hc H2) : NbS H0 H2 D hs n nb := by
  obtain ⟨kvs, own, h1, h2, h3, h4⟩ := h
  refine ⟨kvs, own, e _ _ h1, h2, fun s hs => ?_, h4⟩
  obtain ⟨a1, a2, a3, m, a4, a5⟩ := h3 s hs
  exact ⟨a1, a2, a3, m, e _ _ a4, a5⟩
/-- one neighbour more -/
theorem NbS.put {H0 Hc : Hp} {D : Addr} {hs : List Str} {n : Nat} {nb : Str → Str → Bool} (h : NbS H0 Hc D hs n nb) {s t : Str} (hs' : s ∈ hs) :
    ∃ d m kvs, Hc D = some (.dK kvs) ∧ valV kvs (.inr s) = some (.ref d) ∧ H0 d = none ∧ d ≠ D ∧ Hc d = some (.dK m) ∧ m.length ≤ n ∧ NbS H0 (upd Hc d (.dK (putK m (.inr t) (.bl true)))) D hs (n + 1) (addNb nb s t) := by
  obtain ⟨kvs, own, h1, h2, h3, h4⟩ := h
  obtain ⟨a1, a2, a3, m, a4, a5, a6⟩ := h3 s hs'
  refine ⟨own s, m, kvs, h1, a1, a2, a3, a4, a5, kvs, own, by rw [upd_ne a3.symm]; exact h1, h2, fun u hu => ?_, h4⟩
  obtain ⟨b1, b2, b3, m', b4, b5, b6⟩ := h3 u hu
  refine ⟨b1, b2, b3, ?_⟩
  by_cases e : u = s
  · subst e
    refine ⟨_, upd_same, Nat.le_trans putK_le (by omega), fun v => ?_⟩
    rw [valV_put]
    unfold addNb
    by_cases ev : v = t
    · subst ev
      rw [if_pos rfl]
      simp
    · rw [if_neg fun z => ev (Sum.inr.inj z), a6 v]
      simp [ev]
  · refine ⟨m', by rw [upd_ne fun z => e (h4 _ hu _ hs' z)]; exact b4, by omega, fun v => ?_⟩
    rw [b6 v]
    unfold addNb
    simp [e]
def spNB2 : Sp := fun vs H Q _ => ∃ (p1 p2 : Addr) (ss : List Str) (qs : List Addr) (rs : List (Str × Str)), vs = [.ref p1, .ref p2] ∧ H p1 = some (.lst (ss.map V.str)) ∧ ss.length ≤ 1000 ∧ ss.Nodup ∧ H p2 = some (.lst (qs.map V.ref)) ∧ Paired (TupP H) qs rs ∧ EndsIn ss rs ∧ rs.length ≤ 1000 ∧
  ∀ r kv H', Same H H' → H r = none → H' r = some (.dK kv) → kv.length ≤ ss.length → (∀ s ∈ ss, ∃ d, valV kv (.inr s) = some (.ref d) ∧ H d = none ∧ H' d = some (.lst ((nbs ss rs s).map V.str))) → Q (.ref r) H'
section
variable {P : Program} {w : World} {K : PySem.W.Frag} {mg : Str → Option Value} {base : Heap}
theorem ok_NB2 {f : Addr} {fd : FuncData} (F : Fun K "_neighbours" "_neighbours" sNB f fd) : FnOk P w K mg base CX0 1 f fd ["houses", "roads"] spNB2 := by
  refine F.ok scNB (fun vs H Q E h => ?_) (fun cdv A outer s H vs Q E hr h => ?_)
  · obtain ⟨p1, p2, ss, qs, rs, rfl, _⟩ := h
    rfl
  obtain ⟨p1, p2, ss, qs, rs, rfl, h1, hl, hN, h2, pr, ends, hlr, q⟩ := h
  have nd := scNB.nd
  have hu := hu_of hr
  refine ⟨_, pss_cons (by exact (ps_set (i := 2) nd rfl (.inr rfl) (pe_dc (own := [("house", 5)]) (g := gName 5) (tt := tYes) rfl nd (by exact pi_seqV 0 (pv 0))
        (by exact blkOk_by (N := ["houses", "roads", "found", "one", "other", "house", "far"]) (sc := defScope sNB) (by decide +kernel)) (fun _ _ _ _ _ => by exact pg_name (i := 5) nd rfl (Or.inl rfl)) (fun _ _ _ _ _ => pts_nil) (fun _ _ _ _ _ => pv 5) (fun _ _ _ _ _ => pe_dnewK))))
    (pss_cons (by exact (ps_for PassesOwn.never rfl (by exact pi_seqV 1 (pv 1)) (pg_tup rfl (pgs_cons (pg_name (i := 3) nd rfl (.inl rfl)) (pgs_cons (pg_name (i := 4) nd rfl (.inl rfl)) pgs_nil)))
      (pss_cons (by exact (ps_dput hu (pe_dget hu (pv 2) (pv 3) (fun _ _ => rfl)) (pv 4) pe_bl rfl))
      (pss_one (by exact (ps_dput hu (pe_dget hu (pv 2) (pv 4) (fun _ _ => rfl)) (pv 3) pe_bl rfl))))))
    (pss_one (by exact (ps_ret (pe_dc (own := [("house", 5)]) (g := gName 5) (tt := tYes) (tk := tVar 5) (tv := tLc (iSeqV K 0) (gName 6) (tB (tDIn (tVar 6) (tDGet (tVar 2) (tVar 5)))) (tVar 6) [6]) rfl nd (by exact pi_seqV 0 (pv 0))
        (by exact blkOk_by (N := ["houses", "roads", "found", "one", "other", "house", "far"]) (sc := defScope sNB) (by decide +kernel)) (fun _ _ _ _ _ => by exact pg_name (i := 5) nd rfl (Or.inr rfl)) (fun _ _ _ _ _ => pts_nil) (fun _ _ _ _ _ => by exact pv 5)
        (fun _ _ _ _ _ => by
          refine pe_lc (own := [("far", 6)]) ?_ ?_ ?_ ?_ ?_ ?_ ?_ ?_
          · rfl
          · exact nd
          · exact pi_seqV 0 (pv 0)
          · exact blkOk_by (by with_unfolding_all rfl)
          · intro _ _ _ _ _
            exact pg_name (i := 6) nd rfl (Or.inl rfl)
          · intro _ _ _ _ _
            exact pts_one (pt_cmp (pc_din hu (pv 6) (pe_dget hu (pv 2) (pv 5) (fun _ _ => rfl))) (by with_unfolding_all rfl))
          · intro _ _ _ _ _
            exact pv 6
          · intro _
            rfl)))))), ?_⟩
  have lqs : qs.length = rs.length := pr.length
  -- the dict of dicts
  refine ⟨p1, _, rfl, .inl (SqL.of h1), fun J G wk hG D hD => ?_⟩
  have up : ∀ {Hx : Hp} {d : Addr} {o : HO}, H d = none → Same H Hx → Same H (upd Hx d o) := fun n e b o nn => by
    rw [upd_ne (ne_of_none nn n)]
    exact e b o nn
  have at_ : ∀ i x, (ss.map V.str)[i]? = some x → ∃ h : i < ss.length, x = .str ss[i] := fun i x e => by
    rw [List.getElem?_map] at e
    rcases Nat.lt_or_ge i ss.length with hi | hi
    · rw [List.getElem?_eq_getElem hi] at e
      exact ⟨hi, (Option.some.inj e).symm⟩
    · rw [List.getElem?_eq_none hi] at e
      cases e
  refine dc_it wk (fun i Hc => Same H Hc ∧ NbS H Hc D (ss.take i) 0 (nbB [])) ⟨K1.Same.upd hD, [], fun _ => 0, upd_same, Nat.zero_le _, fun s hs => absurd hs (by simp), fun s hs => absurd hs (by simp)⟩ (fun i Hc _ h => hG Hc fun o ho => h.1 _ _ ho) ?_ ?_
  · rintro i x Hc H' hi ⟨f1, kvs, own, f2, f3, f4, f5⟩ ⟨rfl, hx⟩
    obtain ⟨hi', rfl⟩ := at_ i x hx
    refine ⟨rfl, ?_⟩
    unfold tYes
    refine iteT ?_
    refine ⟨_, rfl, fun d hd => ?_⟩
    have dD : d ≠ D := fun z => by rw [z, f2] at hd; cases hd
    have d0 : H d = none := f1.free hd
    have nw : ∀ s ∈ ss.take i, s ≠ ss[i] := fun s hs z => nodup_take_not hN hi' (by rw [← z]; exact hs)
    have dn : ∀ s ∈ ss.take i, own s ≠ d := fun s hs z => by
      obtain ⟨_, _, _, m, a4, _⟩ := f4 s hs
      rw [z, hd] at a4
      cases a4
    refine ⟨kvs, .inr ss[i], rfl, by rw [upd_ne dD.symm]; exact f2, Nat.lt_of_le_of_lt f3 (small1000 (Nat.le_trans (List.length_take_le _ _) (by omega))), up hD (up d0 f1), putK kvs (.inr ss[i]) (.ref d), fun s => if s = ss[i] then d else own s, upd_same, ?_, fun s hs => ?_, fun s hs t ht e => ?_⟩
    · refine Nat.le_trans putK_le ?_
      rw [List.length_take] at f3 ⊢
      omega
    · rcases (mem_take_succ hi').mp hs with hs | rfl
      · obtain ⟨a1, a2, a3, m, a4, a5, a6⟩ := f4 s hs
        have ne : ¬ (Sum.inr s : Key) = .inr ss[i] := fun z => nw s hs (Sum.inr.inj z)
        simp only [if_neg (nw s hs)]
        exact ⟨by rw [valV_put, if_neg ne]; exact a1, a2, a3, m, by rw [upd_ne a3, upd_ne (dn s hs)]; exact a4, a5, a6⟩
      · simp only [if_true]
        exact ⟨by rw [valV_put, if_pos rfl], d0, dD, [], by rw [upd_ne dD, upd_same], Nat.le_refl _, fun t => rfl⟩
    · rcases (mem_take_succ hi').mp hs with hs | rfl <;> rcases (mem_take_succ hi').mp ht with ht | rfl
      · simp only [if_neg (nw s hs), if_neg (nw t ht)] at e
        exact f5 s hs t ht e
      · simp only [if_neg (nw s hs), if_true] at e
        exact absurd e (dn s hs)
      · simp only [if_neg (nw t ht), if_true] at e
        exact absurd e.symm (dn t ht)
      · rfl
  rintro H1 ⟨e1, nb⟩
  have nb : NbS H H1 D ss 0 (nbB []) := by
    rw [List.length_map, List.take_length] at nb
    exact nb
  -- the roads
  refine ⟨p2, _, rfl, .inl (SqL.of (e1 _ _ h2)), fun J G wk hG => ?_⟩
  refine for_it wk (fun i σ Hc => (∃ a b, σ = [some (.ref p1), some (.ref p2), some (.ref D), a, b, none, none]) ∧ Same H Hc ∧ NbS H Hc D ss (2 * i) (nbB (rs.take i))) ⟨⟨_, _, rfl⟩, e1, nb⟩ (fun i σ Hc _ h => hG Hc fun o ho => by
    rw [e1 _ _ h2] at ho
    rw [← Option.some.inj ho]
    exact h.2.1 _ _ h2) ?_ ?_
  · rintro i x σ Hc H' hi ⟨⟨sa, sb, rfl⟩, g1, g2⟩ ⟨rfl, hx⟩
    rw [List.length_map, lqs] at hi
    obtain ⟨t, rfl, ht⟩ := paired_ref pr hi hx
    refine ⟨t, _, rfl, SqT.of (g1 _ _ ht), rfl, _, _, rfl, _, _, rfl, rfl, ?_⟩
    have ee := ends _ (List.getElem_mem hi)
    obtain ⟨d, m, kvs, b1, a1, a2, a3, a4, a5, g3⟩ := g2.put (t := rs[i].2) ee.1
    have dg1 := DGet.k (k := .inr rs[i].1) b1
    rw [a1] at dg1
    have g4 : Same H (upd H' d (.dK (putK m (.inr rs[i].2) (.bl true)))) := up a2 g1
    refine ⟨_, rfl, _, rfl, D, _, rfl, dg1, _, rfl, d, _, rfl, DPut.k (k := .inr rs[i].2) a4 (by show m.length < 2 ^ 24; omega), ?_⟩
    obtain ⟨d', m', kvs', c1, x1, x2, x3, x4, x5, g5⟩ := g3.put (t := rs[i].1) ee.2
    have dg2 := DGet.k (k := .inr rs[i].2) c1
    rw [x1] at dg2
    refine ⟨_, rfl, _, rfl, D, _, rfl, dg2, _, rfl, d', _, rfl, DPut.k (k := .inr rs[i].1) x4 (by show m'.length < 2 ^ 24; omega), ⟨_, _, rfl⟩, up x2 g4, ?_⟩
    rw [nbB_succ hi] at g5
    exact g5
  rintro σ H2 ⟨⟨sa, sb, rfl⟩, g1, g2⟩
  have g2 : NbS H H2 D ss (2 * rs.length) (nbB rs) := by
    rw [List.length_map, lqs, List.take_length] at g2
    exact g2
  -- the dict of lists
  obtain ⟨kvs, own, b1, b2, b3, _⟩ := id g2
  refine ⟨p1, _, rfl, .inl (SqL.of (g1 _ _ h1)), fun J G wk hG D2 hD2 => ?_⟩
  have hD20 : H D2 = none := g1.free hD2
  refine dc_it wk (fun i Hc => Same H2 Hc ∧ ∃ kv, Hc D2 = some (.dK kv) ∧ kv.length ≤ i ∧ ∀ s ∈ ss.take i, ∃ d, valV kv (.inr s) = some (.ref d) ∧ H2 d = none ∧ d ≠ D2 ∧ Hc d = some (.lst ((nbs ss rs s).map V.str))) ⟨K1.Same.upd hD2, [], upd_same, Nat.zero_le _, fun s hs => absurd hs (by simp)⟩ (fun i Hc _ h => hG Hc fun o ho => h.1 _ _ ho) ?_ ?_
  · rintro i x Hc H' hi ⟨f1, kv, f2, f3, f4⟩ ⟨rfl, hx⟩
    obtain ⟨hi', rfl⟩ := at_ i x hx
    refine ⟨rfl, ?_⟩
    unfold tYes
    refine iteT ?_
    refine ⟨_, rfl, ?_⟩
    refine ⟨p1, _, rfl, .inl (SqL.of (f1 _ _ (g1 _ _ h1))), fun J2 G2 wk2 hG2 L hL => ?_⟩
    refine lc_it wk2 (fun j Hd => Same H' Hd ∧ Hd L = some (.lst ((((ss.take j).filter fun t => nbB rs ss[i] t)).map V.str))) ⟨K1.Same.upd hL, upd_same⟩ (fun j Hd _ h => hG2 Hd fun o ho => h.1 _ _ ho) ?_ ?_
    · rintro j y Hd H'' hj ⟨k1, k2⟩ ⟨rfl, hy⟩
      rw [List.length_map] at hj
      obtain ⟨hj', rfl⟩ := at_ j y hy
      refine ⟨rfl, ?_⟩
      obtain ⟨a1, a2, a3, m, a4, a5, a6⟩ := b3 ss[i] (List.getElem_mem hi')
      have dg := DGet.k (k := .inr ss[i]) (k1 _ _ (f1 _ _ b1))
      rw [a1] at dg
      refine ⟨_, rfl, _, rfl, _, rfl, D, _, rfl, dg, own ss[i], _, rfl, DGet.k (k := .inr ss[j]) (k1 _ _ (f1 _ _ a4)), _, rfl, ?_⟩
      have tk : (ss.take (j + 1)).filter (fun t => nbB rs ss[i] t) = (ss.take j).filter (fun t => nbB rs ss[i] t) ++ if nbB rs ss[i] ss[j] = true then [ss[j]] else [] := by
        rw [List.take_succ, List.getElem?_eq_getElem hj', List.filter_append]
        congr 1
        by_cases c : nbB rs ss[i] ss[j] = true
        · simp [c]
        · simp [c]
      have ll : ((ss.take j).filter fun t => nbB rs ss[i] t).length ≤ 1000 := Nat.le_trans (List.length_filter_le _ _) (Nat.le_trans (List.length_take_le _ _) (by omega))
      refine ite2 (fun c => ?_) (fun c => ?_)
      · rw [a6] at c
        refine ⟨_, rfl, _, k2, by rw [List.length_map]; show _ < 2 ^ 24; omega, fun b o n => ?_, ?_⟩
        · rw [upd_ne (ne_of_none n hL)]
          exact k1 b o n
        · rw [upd_same, tk, if_pos c, List.map_append]
          rfl
      · rw [a6] at c
        exact ⟨k1, by rw [tk, if_neg c, List.append_nil]; exact k2⟩
    · rintro Hd ⟨k1, k2⟩
      rw [List.length_map, List.take_length] at k2
      have LD : L ≠ D2 := fun z => by rw [z, f2] at hL; cases hL
      have hL2 : H2 L = none := f1.free hL
      refine ⟨kv, .inr ss[i], rfl, k1 _ _ f2, by show kv.length < 2 ^ 24; rw [List.length_map] at hi; omega, fun b o n => ?_, _, upd_same, Nat.le_trans putK_le (by omega), fun s hs => ?_⟩
      · rw [upd_ne (ne_of_none n hD2)]
        exact k1 b o (f1 b o n)
      · rcases (mem_take_succ hi').mp hs with hs | rfl
        · obtain ⟨d, c1, c2, c3, c4⟩ := f4 s hs
          have ne : ¬ (Sum.inr s : Key) = .inr ss[i] := fun z => nodup_take_not hN hi' (by rw [← Sum.inr.inj z]; exact hs)
          exact ⟨d, by rw [valV_put, if_neg ne]; exact c1, c2, c3, by rw [upd_ne c3]; exact k1 _ _ c4⟩
        · exact ⟨L, by rw [valV_put, if_pos rfl], hL2, LD, by rw [upd_ne LD]; exact k2⟩
  · rintro Hc ⟨f1, kv, f2, f3, f4⟩
    rw [List.length_map] at f3 f4
    rw [List.take_length] at f4
    refine q D2 kv Hc (g1.trans f1) hD20 f2 f3 fun s hs => ?_
    obtain ⟨d, c1, c2, _, c4⟩ := f4 s hs
    exact ⟨d, c1, g1.free c2, c4⟩
end
end K1
end
-- KHeads
section
set_option Elab.async false
set_option linter.all false
set_option maxRecDepth 100000
set_option maxHeartbeats 4000000
namespace K1
open PySem PySem.Spec PyProof.Rows L2
abbrev sND : Stmt := top 26
/-- no head -/
def BadHead (K : PySem.W.Frag) (H : Hp) (x : V) : Prop := (∃ t, TyX K H x (.type t) ∧ t ∈ kinds ∧ t ≠ "int") ∨ ∃ i, x = .int i ∧ i < 1
theorem BadHead.ext {K : PySem.W.Frag} {H H' : Hp} {x : V} (h : BadHead K H x) (e : Same H H') : BadHead K H' x := h.imp (fun ⟨t, a, b⟩ => ⟨t, TyX.ext a e, b⟩) id
def spND (K : PySem.W.Frag) (C : Addr) : Sp := fun vs H Q E => ∃ u v hs, vs = [u, v] ∧ SeqV H u hs ∧
  ((NoSeq K H v ∧ Goes C 0 H E) ∨
   (∃ ns : List Int, SeqV H v (ns.map V.int) ∧ (∀ n ∈ ns, 1 ≤ n) ∧ ns.length = hs.length ∧ ∀ H', Same H H' → Q .non H') ∨
   (∃ ns : List Int, SeqV H v (ns.map V.int) ∧ (∀ n ∈ ns, 1 ≤ n) ∧ ns.length < hs.length ∧ Goes C (ns.length : Nat) H E) ∨
   (∃ (ns : List Int) (x : V) (rest : List V), SeqV H v (ns.map V.int ++ x :: rest) ∧ (∀ n ∈ ns, 1 ≤ n) ∧ ns.length ≤ hs.length ∧ (ns.length = hs.length ∨ BadHead K H x) ∧ Goes C (ns.length : Nat) H E))
theorem scND : FnScope ["houses", "heads", "index", "many"] ["houses", "heads"] (defScope sND) := ⟨rfl, rfl, rfl, by decide +kernel, rfl, by decide +kernel, by decide +kernel⟩
section
variable {P : Program} {w : World} {K : PySem.W.Frag} {mg : Str → Option Value} {base : Heap} {CF : Addr}
theorem ok_ND {f g fN fI fE C : Addr} {fd gd nd id' ed : FuncData} (F : Fun K "_need_heads" "_need_heads" sND f fd) (B : Bl mg) (me : mg "enumerate" = none)
    (FI : Fun K "is_list" "is_list" sIsList g gd) (b : Binds K gd ["thing"] []) (m : mg "is_list" = some (.ref g))
    (FN : Fun K "is_from_one" "is_from_one" sFromOne fN nd) (bN : Binds K nd ["thing"] []) (mN : mg "is_from_one" = some (.ref fN))
    (FJ : Fun K "is_integer" "is_integer" sIsInt fI id') (bJ : Binds K id' ["thing"] []) (mJ : mg "is_integer" = some (.ref fI))
    (T : FeC K mg CF) (TC : ErC K mg "BadHeads" C fE) (FE : Fun K "__init__" "BadHeads.__init__" sID fE ed) (bE : Binds K ed ["self", "index"] []) :
    FnOk P w K mg base (L2.CX P w) 4 f fd ["houses", "heads"] (spND K C) := by
  have G := ok_isList (P := P) (w := w) (base := base) FI B
  have GN := ok_fromOne (P := P) (w := w) (base := base) FN FJ bJ mJ B
  have GE := ok_iD (P := P) (w := w) (base := base) FE T TC
  refine F.okX scND (fun vs H Q E h => ?_) (fun cdv A outer s H vs Q E hr h => ?_)
  · obtain ⟨u, v, hs, rfl, _⟩ := h
    rfl
  obtain ⟨u, v, hs, rfl, su, h⟩ := h
  have nd := scND.nd
  have hr1 : Room 1 _ := hr.mono (by decide)
  have hr2 : Room 2 _ := hr.mono (by decide)
  refine ⟨_, pss_cons (by exact (ps_if (pt_not (pt_val (pe_call G hr1 rfl m FI.kp b .nil pass0 (pa_cons (pv 1) pa_nil))))
      (pss_one (by exact (ps_raise rfl (takes_of rfl rfl rfl rfl) (pmk_oex TC.ox TC.ini TC.ty GE hr2 bE .nil pass0 rfl TC.m (pa_cons pe_int pa_nil))))) pss_nil))
    (pss_cons (by exact (ps_for (passes_of rfl) rfl (by exact pi_enumV 1 rfl me (pv 1)) (pg_tup rfl (pgs_cons (pg_name (i := 2) nd rfl (.inl rfl)) (pgs_cons (pg_name (i := 3) nd rfl (.inl rfl)) pgs_nil)))
      (pss_one (by exact (ps_if (PW.pt (pw_or (pt_cmpR op_ge (pv 2) (pe_callB call_len_seq rfl B.len PySem.boot_len (pa_cons (pv 0) pa_nil)) (nomark _)) (pw_or1 (pt_not (pt_val (pe_call GN hr2 rfl mN FN.kp bN .nil pass0 (pa_cons (pv 3) pa_nil)))))))
          (pss_one (by exact (ps_raise rfl (takes_of rfl rfl rfl rfl) (pmk_oex TC.ox TC.ini TC.ty GE hr2 bE .nil pass0 rfl TC.m (pa_cons (pv 2) pa_nil))))) pss_nil)))))
    (pss_one (by exact (ps_if (pt_cmpR op_lt (pe_callB call_len_seq rfl B.len PySem.boot_len (pa_cons (pv 1) pa_nil)) (pe_callB call_len_seq rfl B.len PySem.boot_len (pa_cons (pv 0) pa_nil)) (nomark _))
          (pss_one (by exact (ps_raise rfl (takes_of rfl rfl rfl rfl) (pmk_oex TC.ox TC.ini TC.ty GE hr2 bE .nil pass0 rfl TC.m (pa_cons (pe_callB call_len_seq rfl B.len PySem.boot_len (pa_cons (pv 1) pa_nil)) pa_nil))))) pss_nil)))), ?_⟩
  rcases h with ⟨⟨t, ty, kt, nt⟩, g⟩ | h
  · refine ⟨_, rfl, v, t, rfl, ty, kt, fun H' e => ⟨_, rfl, ?_⟩⟩
    rw [nt]
    exact iteT ⟨(by show 1 ≤ 1000; decide), raise_idx g e⟩
  obtain ⟨ns, xs, sv, good, hle, rest⟩ : ∃ (ns : List Int) (xs : List V), SeqV H v xs ∧ (∀ n ∈ ns, 1 ≤ n) ∧ ns.length ≤ hs.length ∧
      ((xs = ns.map V.int ∧ ns.length = hs.length ∧ ∀ H', Same H H' → Q .non H') ∨ (xs = ns.map V.int ∧ ns.length < hs.length ∧ Goes C (ns.length : Nat) H E) ∨
        (∃ x r, xs = ns.map V.int ++ x :: r ∧ (ns.length = hs.length ∨ BadHead K H x) ∧ Goes C (ns.length : Nat) H E)) := by
    rcases h with ⟨ns, sv, a, b, q⟩ | ⟨ns, sv, a, b, q⟩ | ⟨ns, x, r, sv, a, b, c, q⟩
    · exact ⟨ns, _, sv, a, Nat.le_of_eq b, .inl ⟨rfl, b, q⟩⟩
    · exact ⟨ns, _, sv, a, Nat.le_of_lt b, .inr (.inl ⟨rfl, b, q⟩)⟩
    · exact ⟨ns, _, sv, a, b, .inr (.inr ⟨x, r, rfl, c, q⟩)⟩
  obtain ⟨t, ty, kt, st⟩ := sv.ty (K := K)
  refine ⟨_, rfl, v, t, rfl, ty, kt, fun H1 e1 => ⟨_, rfl, ?_⟩⟩
  rw [st]
  refine iteF ?_
  obtain ⟨p, rfl, hp⟩ := sv.ext e1
  have sq : SqA K H1 p xs := hp.imp (fun h => SqL.of h) (fun h => SqT.of h)
  obtain ⟨p2, rfl, sq2⟩ := (su.ext e1).sq (K := K)
  have sq2' : SqA K H1 p2 hs := sq2
  have xat : ∀ i (hi : i < ns.length), xs[i]? = some (.int ns[i]) := fun i hi => by
    rcases rest with ⟨rfl, _⟩ | ⟨rfl, _⟩ | ⟨x, r, rfl, _⟩
    · rw [List.getElem?_map, List.getElem?_eq_getElem hi]; rfl
    · rw [List.getElem?_map, List.getElem?_eq_getElem hi]; rfl
    · rw [List.getElem?_append_left (by rw [List.length_map]; exact hi), List.getElem?_map, List.getElem?_eq_getElem hi]; rfl
  refine ⟨p, xs, rfl, sq, fun J G wk hG => ?_⟩
  refine for_it wk (fun i σ Hc => i ≤ ns.length ∧ (∃ a b, σ = [some (.ref p2), some (.ref p), a, b]) ∧ Same H1 Hc) ⟨Nat.zero_le _, ⟨_, _, rfl⟩, Same.refl _⟩ (fun i σ Hc hi h => hG Hc fun o ho => h.2.2 _ _ ho) ?_ ?_
  · rintro i x σ Hc H' hi ⟨h1, ⟨sa, sb, rfl⟩, h3⟩ ⟨T, x1, x2, rfl, hT, rfl, e1', e2'⟩
    obtain rfl : x1 = .int (i : Nat) := (Option.some.inj e1').symm
    have e2' : xs[i]? = some x2 := e2'
    have eT : Same H1 (upd Hc T (.tup [.int (i : Nat), x2])) := h3.trans (K1.Same.upd hT)
    refine ⟨T, _, rfl, SqT.of upd_same, rfl, _, _, rfl, _, _, rfl, rfl, ?_⟩
    refine ⟨_, rfl, _, rfl, p2, hs, rfl, SqA.same sq2' eT, _, _, rfl, rfl, _, rfl, ?_⟩
    by_cases hlt : i < ns.length
    · have ex2 : x2 = .int ns[i] := by
        have q := xat i hlt
        rw [q] at e2'
        exact (Option.some.inj e2').symm
      subst ex2
      rw [decide_eq_false (show ¬ ((hs.length : Nat) : Int) ≤ ((i : Nat) : Int) by omega)]
      refine iteF ⟨_, rfl, .int ns[i], rfl, .inl ⟨ns[i], rfl, _, rfl, ?_⟩⟩
      rw [decide_eq_true (good _ (List.getElem_mem hlt))]
      exact iteF ⟨hlt, ⟨_, _, rfl⟩, eT⟩
    · obtain ⟨x, r, hxs, bad, g⟩ : ∃ x r, xs = ns.map V.int ++ x :: r ∧ (ns.length = hs.length ∨ BadHead K H x) ∧ Goes C (ns.length : Nat) H E := by
        rcases rest with ⟨rfl, _⟩ | ⟨rfl, _⟩ | q
        · rw [List.length_map] at hi
          exact absurd hi hlt
        · rw [List.length_map] at hi
          exact absurd hi hlt
        · exact q
      have ei : i = ns.length := by omega
      subst ei
      have ex2 : x2 = x := by
        rw [hxs, List.getElem?_append_right (by rw [List.length_map]; exact Nat.le_refl _), List.length_map, Nat.sub_self] at e2'
        exact (Option.some.inj e2').symm
      subst ex2
      by_cases hh : ns.length = hs.length
      · rw [decide_eq_true (show ((hs.length : Nat) : Int) ≤ ((ns.length : Nat) : Int) by omega)]
        exact iteT (iteT ⟨_, rfl, (by show 1 ≤ 1000; decide), raise_idx g (e1.trans eT)⟩)
      · rw [decide_eq_false (show ¬ ((hs.length : Nat) : Int) ≤ ((ns.length : Nat) : Int) by omega)]
        rcases bad with q | bad
        · exact absurd q hh
        rcases bad.ext (e1.trans eT) with ⟨t, ty, kt, nt⟩ | ⟨j, rfl, hj⟩
        · exact iteF ⟨_, rfl, x2, rfl, .inr ⟨t, ty, kt, nt, _, rfl, iteT ⟨_, rfl, (by show 1 ≤ 1000; decide), raise_idx g (e1.trans eT)⟩⟩⟩
        · refine iteF ⟨_, rfl, .int j, rfl, .inl ⟨j, rfl, _, rfl, ?_⟩⟩
          rw [decide_eq_false (by omega)]
          exact iteT ⟨_, rfl, (by show 1 ≤ 1000; decide), raise_idx g (e1.trans eT)⟩
  · rintro σ Hc ⟨h1, ⟨sa, sb, rfl⟩, h3⟩
    have f1 := SqA.same sq h3
    have f2 := SqA.same sq2' h3
    refine ⟨_, rfl, p, xs, rfl, f1, _, rfl, p2, hs, rfl, f2, _, _, rfl, rfl, _, rfl, ?_⟩
    rcases rest with ⟨rfl, hl, q⟩ | ⟨rfl, hl, g⟩ | ⟨x, r, rfl, _⟩
    · rw [List.length_map, hl, decide_eq_false (by omega)]
      exact iteF (q Hc (e1.trans h3))
    · rw [List.length_map, decide_eq_true (by omega)]
      refine iteT ⟨_, rfl, p, _, rfl, f1, (by show 1 ≤ 1000; decide), ?_⟩
      rw [List.length_map]
      exact raise_idx g (e1.trans h3)
    · rw [List.length_append, List.length_map, List.length_cons] at h1
      omega
end
end K1
end
-- KDraw
section
set_option Elab.async false
set_option linter.all false
set_option maxRecDepth 100000
set_option maxHeartbeats 4000000
namespace K1
open PySem PySem.Spec PyProof.Rows L2
/-- the spring at a, with at most n draws by mixed numbers -/
def Spr (H : Hp) (a : Addr) (n : Nat) : Prop := ∃ x y z : Int, H a = some (.lst [.int x, .int y, .int z]) ∧ 0 ≤ x ∧ 0 ≤ y ∧ y < 2147483647 ∧ 0 ≤ z ∧ z ≤ (n : Int)
/-- all but what stands at a is as it was -/
def Kept (a : Addr) (H H' : Hp) : Prop := ∀ b o, b ≠ a → H b = some o → H' b = some o
theorem Kept.refl {a : Addr} {H : Hp} : Kept a H H := fun _ _ _ h => h
theorem Kept.trans {a : Addr} {H H1 H2 : Hp} (p : Kept a H H1) (q : Kept a H1 H2) : Kept a H H2 := fun b o n h => q b o n (p b o n h)
theorem Kept.upd {a : Addr} {H : Hp} {o : HO} : Kept a H (L2.upd H a o) := fun b u n h => by rw [upd_ne n]; exact h
theorem Kept.new {a p : Addr} {H : Hp} {o : HO} (h : H p = none) : Kept a H (L2.upd H p o) := fun b u n e => by rw [upd_ne (ne_of_none e h)]; exact e
theorem Kept.same {a : Addr} {H H1 : Hp} (e : Same H H1) : Kept a H H1 := fun b o _ h => e b o h
def spDraw : Sp := fun vs H Q _ => ∃ (a : Addr) (many : Int) (n : Nat), vs = [.ref a, .int many] ∧ Spr H a n ∧ n ≤ 1000000 ∧ 0 < many ∧ many.natAbs < 2 ^ 100 ∧
  ∀ (d : Int) (H' : Hp), 0 ≤ d → d < many → Kept a H H' → Spr H' a (n + 1) → Q (.int d) H'
theorem scDraw : FnScope ["spring", "many", "digit", "mixed"] ["spring", "many"] (defScope sDraw) := ⟨rfl, rfl, rfl, by decide +kernel, rfl, by decide +kernel, by decide +kernel⟩
section
variable {P : Program} {w : World} {K : PySem.W.Frag} {mg : Str → Option Value} {base : Heap}
theorem ok_draw {f : Addr} {fd : FuncData} (F : Fun K "_law_draw" "_law_draw" sDraw f fd) (mI : mg "int" = none) : FnOk P w K mg base CX0 1 f fd ["spring", "many"] spDraw := by
  refine F.ok scDraw (fun vs H Q E h => ?_) (fun cdv A outer s H vs Q E hr h => ?_)
  · obtain ⟨a, many, n, rfl, _⟩ := h
    rfl
  obtain ⟨a, many, n, rfl, ⟨x, y, z, ha, hx, hy, hy2, hz, hz2⟩, hn, hm, hm2, q⟩ := h
  have nd := scDraw.nd
  refine ⟨_, pss_cons (ps_if (pt_cmpR op_gt (pe_ix ix_list (pv 0) pe_int (fun _ _ => rfl)) pe_int (nomark _))
      (pss_cons (ps_set (i := 2) nd rfl (.inl rfl) (pe_op op_mod (pe_callTy call_int1 rfl mI PyProof.Rows.boot_int (pa_cons (pe_ix ix_list (pv 0) pe_int (fun _ _ => rfl)) pa_nil)) (pv 1)))
      (pss_cons (ps_asg (by exact pe_op op_fdivW (pe_ix ix_list (pv 0) pe_int (fun _ _ => rfl)) (pv 1)) (by exact pg_sub (pv 0) pe_int set_list))
      (pss_one (ps_ret (pv 2))))) pss_nil)
    (pss_cons (by exact ps_asg (by exact pe_op op_add (pe_ix ix_list (pv 0) pe_int (fun _ _ => rfl)) pe_int) (by exact pg_sub (pv 0) pe_int set_list))
    (pss_cons (by exact ps_set (i := 3) nd rfl (.inl rfl) (pe_op op_mod (pe_op op_pow (pe_callTy call_int1 rfl mI PyProof.Rows.boot_int (pa_cons
        (pe_op op_add (pe_op op_add (pe_ix ix_list (pv 0) pe_int (fun _ _ => rfl)) (pe_op op_mul pe_int (pe_ix ix_list (pv 0) pe_int (fun _ _ => rfl)))) pe_int) pa_nil)) pe_int) pe_int))
    (pss_one (by exact ps_ret (pe_op op_mod (pe_op op_fdiv (pe_op op_mod (pe_op op_pow (pe_callTy call_int1 rfl mI PyProof.Rows.boot_int (pa_cons
        (pe_op op_add (pe_op op_mul (pv 3) pe_int) (pe_op op_mul pe_int (pe_ix ix_list (pv 0) pe_int (fun _ _ => rfl)))) pa_nil)) pe_int) pe_int) pe_int) (pv 1)))))), ?_⟩
  have at0 : atI ([.int x, .int y, .int z] : List V) 0 = some (.int x) := rfl
  have at1 : atI ([.int x, .int y, .int z] : List V) 1 = some (.int y) := rfl
  have at2 : atI ([.int x, .int y, .int z] : List V) 2 = some (.int z) := rfl
  refine ⟨_, rfl, a, _, _, _, rfl, rfl, SqL.of ha, at0, _, _, rfl, rfl, _, rfl, ?_⟩
  refine ite2 (fun c => ?_) (fun c => ?_)
  · have c' : x > 0 := of_decide_eq_true c
    refine ⟨_, rfl, a, _, _, _, rfl, rfl, SqL.of ha, at0, .inl ⟨_, rfl, _, rfl, _, _, rfl, rfl, hm, ?_⟩⟩
    refine ⟨_, rfl, a, _, _, _, rfl, rfl, SqL.of ha, at0, _, rfl, _, _, rfl, rfl, wide_div hm hm2 (by decide) (by decide), _, rfl, a, _, _, _, rfl, rfl, ha, rfl, ?_⟩
    refine ⟨_, rfl, q _ _ (Int.emod_nonneg _ (by omega)) (Int.emod_lt_of_pos _ hm) Kept.upd ?_⟩
    exact ⟨x / many, y, z, upd_same, Int.ediv_nonneg hx (by omega), hy, hy2, hz, by omega⟩
  · have ha1 : upd H a (.lst [.int x, .int y, .int (z + 1)]) a = some (.lst [.int x, .int y, .int (z + 1)]) := upd_same
    have e0 : atI ([.int x, .int y, .int (z + 1)] : List V) 1 = some (.int y) := rfl
    have e2 : atI ([.int x, .int y, .int (z + 1)] : List V) 2 = some (.int (z + 1)) := rfl
    refine ⟨_, rfl, a, _, _, _, rfl, rfl, SqL.of ha, at2, _, _, rfl, rfl, _, rfl, a, _, _, _, rfl, rfl, ha, rfl, ?_⟩
    refine ⟨_, rfl, a, _, _, _, rfl, rfl, SqL.of ha1, e0, _, rfl, a, _, _, _, rfl, rfl, SqL.of ha1, e2, _, _, rfl, rfl, .inl (by constructor <;> decide), _, _, rfl, rfl, _, _, rfl, rfl,
      .inl ⟨_, rfl, _, _, rfl, rfl, ⟨by decide, by decide, ?_⟩, _, _, rfl, rfl, (by show (0 : Int) < 2147483647; decide), ?_⟩⟩
    · omega
    refine ⟨_, rfl, _, _, rfl, rfl, .inr (by constructor <;> decide), _, rfl, a, _, _, _, rfl, rfl, SqL.of ha1, e2, _, _, rfl, rfl, .inl (by constructor <;> decide), _, _, rfl, rfl,
      .inl ⟨_, rfl, _, _, rfl, rfl, ⟨by decide, by decide, ?_⟩, _, _, rfl, rfl, (by show (0 : Int) < 2147483629; decide), _, _, rfl, rfl, (by constructor <;> decide), _, rfl, _, _, rfl, rfl, hm, ?_⟩⟩
    · generalize hg : (y + 6364137 * (z + 1) + 1442695) ^ ((3 : Int).toNat) = g
      have g1 := Int.emod_nonneg g (show (2147483647 : Int) ≠ 0 by decide)
      have g2 := Int.emod_lt_of_pos g (show (0 : Int) < 2147483647 by decide)
      omega
    · exact q _ _ (Int.emod_nonneg _ (by omega)) (Int.emod_lt_of_pos _ hm) Kept.upd ⟨x, y, z + 1, upd_same, hx, hy, hy2, by omega, by omega⟩
end
end K1
end
-- KDraw2
section
set_option Elab.async false
set_option linter.all false
set_option maxRecDepth 100000
set_option maxHeartbeats 4000000
namespace K1
open PySem PySem.Spec PyProof.Rows L2
def spPick : Sp := fun vs H Q _ => ∃ (a p : Addr) (xs : List V) (n : Nat), vs = [.ref a, .ref p] ∧ Spr H a n ∧ n ≤ 1000000 ∧ H p = some (.lst xs) ∧ p ≠ a ∧ xs ≠ [] ∧ xs.length ≤ 1000 ∧
  ∀ (x : V) (H' : Hp), x ∈ xs → Kept a H H' → Spr H' a (n + 1) → Q x H'
def spMixed : Sp := fun vs H Q _ => ∃ (a p : Addr) (xs : List V) (n : Nat), vs = [.ref a, .ref p] ∧ Spr H a n ∧ n + 1000 ≤ 1000000 ∧ H p = some (.lst xs) ∧ p ≠ a ∧ xs.length ≤ 1000 ∧
  ∀ (r : Addr) (ys : List V) (H' : Hp), ys.Perm xs → H r = none → r ≠ a → H' r = some (.lst ys) → Kept a H H' → Spr H' a (n + xs.length) → Q (.ref r) H'
theorem scPick : FnScope ["spring", "some"] ["spring", "some"] (defScope sPick) := ⟨rfl, rfl, rfl, by decide +kernel, rfl, by decide +kernel, by decide +kernel⟩
theorem scMixed : FnScope ["spring", "some", "left", "k"] ["spring", "some"] (defScope sMixed) := ⟨rfl, rfl, rfl, by decide +kernel, rfl, by decide +kernel, by decide +kernel⟩
theorem Spr.kept {H : Hp} {a : Addr} {n : Nat} (h : Spr H a n) : H a ≠ none := by
  obtain ⟨x, y, z, e, _⟩ := h
  rw [e]
  exact Option.some_ne_none _
theorem Spr.upd {H : Hp} {a p : Addr} {n : Nat} {o : HO} (h : Spr H a n) (hp : p ≠ a) : Spr (L2.upd H p o) a n := by
  obtain ⟨x, y, z, e, q⟩ := h
  exact ⟨x, y, z, by rw [upd_ne hp.symm]; exact e, q⟩
theorem Spr.ne {H : Hp} {a p : Addr} {n : Nat} (h : Spr H a n) (hp : H p = none) : p ≠ a := fun e => by
  rw [e] at hp
  exact h.kept hp
theorem Spr.mono {H : Hp} {a : Addr} {n m : Nat} (h : Spr H a n) (l : n ≤ m) : Spr H a m := by
  obtain ⟨x, y, z, e, h1, h2, h3, h4, h5⟩ := h
  exact ⟨x, y, z, e, h1, h2, h3, h4, by omega⟩
theorem at_mem {xs : List V} {d : Int} (h0 : 0 ≤ d) (h1 : d < (xs.length : Int)) : ∃ x, atI xs d = some x ∧ x ∈ xs ∧ xs[d.toNat]? = some x := by
  have hk : d.toNat < xs.length := by omega
  have ek : d = ((d.toNat : Nat) : Int) := by omega
  refine ⟨xs[d.toNat], ?_, List.getElem_mem _, List.getElem?_eq_getElem hk⟩
  have q := atI_nat (xs := xs) (j := d.toNat) (v := xs[d.toNat]) (List.getElem?_eq_getElem hk)
  rwa [← ek] at q
section
variable {P : Program} {w : World} {K : PySem.W.Frag} {mg : Str → Option Value} {base : Heap} {fD : Addr} {fdD : FuncData}
theorem ok_pick {f : Addr} {fd : FuncData} (F : Fun K "_law_pick" "_law_pick" sPick f fd) (G : FnOk P w K mg base CX0 1 fD fdD ["spring", "many"] spDraw) (b : Binds K fdD ["spring", "many"] []) (k : PySem.W.keepIn K (.ref fD) = true) (m : mg "_law_draw" = some (.ref fD)) (ml : mg "len" = none) :
    FnOk P w K mg base CX0 2 f fd ["spring", "some"] spPick := by
  refine F.ok scPick (fun vs H Q E h => ?_) (fun cdv A outer s H vs Q E hr h => ?_)
  · obtain ⟨a, p, xs, n, rfl, _⟩ := h
    rfl
  obtain ⟨a, p, xs, n, rfl, hs, hn, hp, hpa, hne, hlen, q⟩ := h
  refine ⟨_, pss_one (by exact ps_ret (pe_ix ix_list (pv 1) (pe_call G hr rfl m k b .nil pass0 (pa_cons (pv 0) (pa_cons (pe_callB call_len_seq rfl ml PySem.boot_len (pa_cons (pv 1) pa_nil)) pa_nil))) (fun _ _ => rfl))), ?_⟩
  have hpos : 0 < xs.length := List.length_pos_iff.mpr hne
  refine ⟨_, rfl, _, rfl, _, rfl, p, _, rfl, .inl (SqL.of hp), a, _, n, rfl, hs, hn, by omega, ?_, fun d H' h0 h1 kp s' => ?_⟩
  · show ((xs.length : Nat) : Int).natAbs < 2 ^ 100
    rw [Int.natAbs_natCast]
    exact Nat.lt_of_le_of_lt hlen (by decide)
  obtain ⟨x, e1, e2, _⟩ := at_mem h0 h1
  exact ⟨p, xs, d, x, rfl, rfl, SqL.of (kp p _ hpa hp), e1, q x H' e2 kp s'⟩
theorem perm_pop {acc ls xs : List V} {i : Nat} {x : V} (h : (acc ++ ls).Perm xs) (e : ls[i]? = some x) : (acc ++ [x] ++ ls.eraseIdx i).Perm xs := by
  refine List.Perm.trans ?_ h
  rw [List.append_assoc]
  refine List.Perm.append_left acc ?_
  obtain ⟨hi, rfl⟩ := List.getElem?_eq_some_iff.mp e
  have e : ls = ls.take i ++ ls[i] :: ls.drop (i + 1) := by
    rw [← List.drop_eq_getElem_cons hi, List.take_append_drop]
  rw [List.eraseIdx_eq_take_drop_succ]
  conv => rhs; rw [e]
  exact (List.perm_middle (l₁ := ls.take i) (a := ls[i]) (l₂ := ls.drop (i + 1))).symm
def rLen (K : PySem.W.Frag) : List V → Hp → VK → Prop := fun xs H Q => ∃ p ys, xs = [.ref p] ∧ (SqL K H p ys ∨ SqT K H p ys) ∧ Q (.int (ys.length : Int)) H
theorem call_len' {X : Cx} : CallR X (.builtin "len") (rLen X.K) := call_len_seq
theorem ok_mixed {f : Addr} {fd : FuncData} (F : Fun K "_law_mixed" "_law_mixed" sMixed f fd) (G : FnOk P w K mg base CX0 1 fD fdD ["spring", "many"] spDraw) (b : Binds K fdD ["spring", "many"] []) (k : PySem.W.keepIn K (.ref fD) = true) (m : mg "_law_draw" = some (.ref fD)) (ml : mg "len" = none) (mL : mg "list" = none) (mr : mg "range" = none) :
    FnOk P w K mg base CX0 2 f fd ["spring", "some"] spMixed := by
  refine F.ok scMixed (fun vs H Q E h => ?_) (fun cdv A outer s H vs Q E hr h => ?_)
  · obtain ⟨a, p, xs, n, rfl, _⟩ := h
    rfl
  obtain ⟨a, p, xs, n, rfl, hs, hn, hp, hpa, hlen, q⟩ := h
  have nd := scMixed.nd
  refine ⟨_, pss_cons (by exact ps_set (i := 2) nd rfl (Or.inr rfl) (pe_callTy call_list_of rfl mL PyProof.Rows.boot_list (pa_cons (pv 1) pa_nil)))
    (pss_one (by exact ps_ret (pe_lc (own := [("k", 3)]) (g := gName 3) (tt := tYes) (te := tBM K "list" rPopAt (tVar 2) (tCons (tCall spDraw [] E0 (tCons (tVar 0) (tCons (tCB (rLen K) (tCons (tVar 2) tNil)) tNil))) tNil)) rfl nd (by exact pi_range1 rfl mr (pa_cons (pe_callB call_len_seq rfl ml PySem.boot_len (pa_cons (pv 2) pa_nil)) pa_nil))
      (by exact blkOk_by (N := ["spring", "some", "left", "k"]) (sc := defScope sMixed) (by decide +kernel)) (fun _ _ _ _ _ => by exact pg_name (i := 3) nd rfl (Or.inl rfl)) (fun _ _ _ _ _ => pts_nil)
      (fun _ _ _ _ _ => by exact pe_bm PySem.F.plainAttrs_list PySem.F.slot_list_pop PySem.F.type_list_pop mt_popAt (pv 2) (by exact pa_cons (pe_call G hr rfl m k b .nil pass0 (pa_cons (pv 0) (pa_cons (pe_callB call_len' rfl ml PySem.boot_len (pa_cons (pv 2) pa_nil)) pa_nil))) pa_nil))))), ?_⟩
  refine ⟨_, rfl, p, xs, rfl, .inl (SqL.of hp), fun l hl => ?_⟩
  have hla := hs.ne hl
  have hl1 : L2.upd H l (.lst xs) l = some (.lst xs) := upd_same
  refine ⟨_, rfl, l, xs, rfl, .inl (SqL.of hl1), _, rfl, by omega, by omega, fun D hD => ?_⟩
  have hDl : D ≠ l := fun e => by rw [e, upd_same] at hD; cases hD
  have hDH : H D = none := by rw [upd_ne hDl] at hD; exact hD
  have hDa := hs.ne hDH
  rw [Int.toNat_natCast]
  refine lc_range (fun i Hc => ∃ ls acc : List V, Hc l = some (.lst ls) ∧ Hc D = some (.lst acc) ∧ (acc ++ ls).Perm xs ∧ acc.length = i ∧ Kept a H Hc ∧ Spr Hc a (n + i)) ?_ ?_ ?_
  · exact ⟨xs, [], by rw [upd_ne hDl.symm]; exact hl1, upd_same, List.Perm.refl _, rfl, (Kept.new hl).trans (Kept.new hD), (hs.upd hla).upd hDa⟩
  · rintro i Hc hi ⟨ls, acc, h1, h2, h3, h4, h5, h6⟩
    have hlen2 : acc.length + ls.length = xs.length := by rw [← List.length_append]; exact h3.length_eq
    refine ⟨rfl, ?_⟩
    unfold tYes
    refine iteT ?_
    refine ⟨_, rfl, .inl ⟨rfl, _, SqL.of h1⟩, _, rfl, _, rfl, l, _, rfl, .inl (SqL.of h1), a, _, n + i, rfl, h6, by omega, by omega, ?_, fun d H' g0 g1 kp s' => ?_⟩
    · show ((ls.length : Nat) : Int).natAbs < 2 ^ 100
      rw [Int.natAbs_natCast]
      exact Nat.lt_of_le_of_lt (show ls.length ≤ 1000 by omega) (by decide)
    obtain ⟨x, e1, e2, e3⟩ := at_mem g0 g1
    have hl2 : H' l = some (.lst ls) := kp l _ hla h1
    have hD2 : H' D = some (.lst acc) := kp D _ hDa h2
    refine ⟨l, ls, d, d.toNat, x, rfl, rfl, hl2, by omega, by omega, ?_, e3, acc, by rw [upd_ne hDl]; exact hD2, small1000 (by omega), ?_⟩
    · have hneg : ¬ d < 0 := by omega
      unfold seqIndex?
      simp [hneg, g0, g1]
    · refine ⟨ls.eraseIdx d.toNat, acc ++ [x], by rw [upd_ne hDl.symm, upd_same], upd_same, perm_pop h3 e3, by rw [List.length_append, h4]; rfl, fun c o n1 n2 => ?_, ?_⟩
      · have c1 : c ≠ l := fun z => by rw [z, hl] at n2; cases n2
        have c2 : c ≠ D := fun z => by rw [z, hDH] at n2; cases n2
        rw [upd_ne c2, upd_ne c1]
        exact kp c o n1 (h5 c o n1 n2)
      · exact (s'.upd hla).upd hDa
  · rintro Hc ⟨ls, acc, h1, h2, h3, h4, h5, h6⟩
    have hlen2 : acc.length + ls.length = xs.length := by rw [← List.length_append]; exact h3.length_eq
    have e : ls = [] := List.length_eq_zero_iff.mp (by omega)
    subst e
    rw [List.append_nil] at h3
    exact q D acc Hc h3 hDH hDa h2 h5 h6
end
end K1
end
-- KInit
section
set_option Elab.async false
set_option linter.all false
set_option maxRecDepth 100000
set_option maxHeartbeats 4000000
namespace K1
open PySem PySem.Spec PyProof.Rows L2
abbrev sVI : Stmt := inClass (top 21) 0
def HousesBad (K : PySem.W.Frag) (H : Hp) (h : V) (i : Nat) : Prop := (NoSeq K H h ∧ i = 0) ∨ (SeqV H h [] ∧ i = 0) ∨ ∃ ss x rest, SeqV H h (ss.map V.str ++ x :: rest) ∧ ss.length ≤ 1000 ∧ Good ss ∧ BadName K H ss x ∧ i = ss.length
def HousesOk (H : Hp) (h : V) (ss : List Str) : Prop := SeqV H h (ss.map V.str) ∧ ss ≠ [] ∧ ss.length ≤ 1000 ∧ Good ss
def RoadsOk (H : Hp) (ss : List Str) (r : V) (rs : List (Str × Str)) : Prop := ∃ vs, SeqV H r vs ∧ Paired (PairV H) vs rs ∧ EndsIn ss rs ∧ Forest rs ∧ rs.length + 1 = ss.length
def RoadsBad (K : PySem.W.Frag) (H : Hp) (ss : List Str) (r : V) (i : Nat) : Prop := (NoSeq K H r ∧ i = 0) ∨ ∃ (vs : List V) (rs : List (Str × Str)) (tail : List V), SeqV H r (vs ++ tail) ∧ Paired (PairV H) vs rs ∧ EndsIn ss rs ∧ Forest rs ∧ i = rs.length ∧
  ((tail = [] ∧ rs.length + 1 ≠ ss.length) ∨ ∃ x rest, tail = x :: rest ∧ BadRoad K H ss rs x)
def HeadsOk (H : Hp) (ss : List Str) (g : V) (ns : List Int) : Prop := SeqV H g (ns.map V.int) ∧ (∀ n ∈ ns, 1 ≤ n) ∧ ns.length = ss.length
def HeadsBad (K : PySem.W.Frag) (H : Hp) (ss : List Str) (g : V) (i : Nat) : Prop := (NoSeq K H g ∧ i = 0) ∨ (∃ ns : List Int, SeqV H g (ns.map V.int) ∧ (∀ n ∈ ns, 1 ≤ n) ∧ ns.length < ss.length ∧ i = ns.length) ∨
  ∃ (ns : List Int) (x : V) (rest : List V), SeqV H g (ns.map V.int ++ x :: rest) ∧ (∀ n ∈ ns, 1 ≤ n) ∧ ns.length ≤ ss.length ∧ (ns.length = ss.length ∨ BadHead K H x) ∧ i = ns.length
/-- a Valley at x, which keeps these three lists -/
structure ValI (C : Addr) (H : Hp) (x l1 l2 l3 : Addr) (qs : List Addr) (ss : List Str) (rs : List (Str × Str)) (ns : List Int) : Prop where
  ins : ∃ dx fs, H x = some (.ins C dx fs) ∧ fs.lookup ("_houses" : Str) = some (V.ref l1) ∧ fs.lookup ("_roads" : Str) = some (V.ref l2) ∧ fs.lookup ("_heads" : Str) = some (V.ref l3) ∧ ∀ m : Str, m ≠ "_houses" → m ≠ "_roads" → m ≠ "_heads" → m ≠ "_people" → m ≠ "_places" → m ≠ "_beside" → fs.lookup m = none
  h1 : H l1 = some (.lst (ss.map V.str))
  h2 : H l2 = some (.lst (qs.map V.ref))
  pr : Paired (TupP H) qs rs
  h3 : H l3 = some (.lst (ns.map V.int))
structure VcT (K : PySem.W.Frag) (C : Addr) : Prop where
  cl : Cls K C
  n1 : NoAttr K C "_houses"
  n2 : NoAttr K C "_roads"
  n3 : NoAttr K C "_heads"
  n4 : NoAttr K C "_people"
  n5 : NoAttr K C "_places"
  n6 : NoAttr K C "_beside"
def spVI (K : PySem.W.Frag) (C CH CR CD : Addr) : Sp := fun vs H Q E => ∃ x h r g dx, vs = [.ref x, h, r, g] ∧ H x = some (.ins C dx []) ∧
  ((∃ i : Nat, HousesBad K H h i ∧ Goes CH i H E) ∨ (∃ ss, ∃ i : Nat, HousesOk H h ss ∧ RoadsBad K H ss r i ∧ Goes CR i H E) ∨ (∃ ss rs, ∃ i : Nat, HousesOk H h ss ∧ RoadsOk H ss r rs ∧ HeadsBad K H ss g i ∧ Goes CD i H E) ∨
   (∃ ss rs ns, HousesOk H h ss ∧ RoadsOk H ss r rs ∧ HeadsOk H ss g ns ∧ ∀ H' l1 l2 l3 qs, Kept x H H' → ValI C H' x l1 l2 l3 qs ss rs ns → H l1 = none → H l2 = none → H l3 = none → (∀ q ∈ qs, H q = none) → Q .non H'))
theorem scVI : FnScope ["self", "houses", "roads", "heads", "one", "other", "house", "index"] ["self", "houses", "roads", "heads"] (defScope sVI) := ⟨rfl, rfl, rfl, by decide +kernel, rfl, by decide +kernel, by decide +kernel⟩
/-- a written tuple of targets, a list or a tuple handed in -/
def gSeq (K : PySem.W.Frag) (n : Nat) (t : TGs) : TG := fun v σ H Q => ∃ a xs, v = .ref a ∧ SqA K H a xs ∧ xs.length = n ∧ t xs σ H Q
theorem pg_seq {X : Cx} {pos : Pos} {es : List Expr} {k : Nat} {t : TGs} {n : Nat} (hc : X.calm = true) (h : PGs X es t) (hn : (assignEach es X.env).length = n := by rfl) (hst : (assignEach es X.env).findIdx? (·.1) = none := by rfl) : PG X (.Tuple es k pos) (gSeq X.K n t) := by
  refine ⟨fun pins s σ H v u Q I r q => ?_⟩
  obtain ⟨a, xs, rfl, hq | hq, l, q⟩ := q
  · exact (pg_lst hc h hn hst).run pins s σ H _ u Q I r ⟨a, xs, rfl, hq, l, q⟩
  · exact (pg_tup hc h hn hst).run pins s σ H _ u Q I r ⟨a, xs, rfl, hq, l, q⟩
theorem SeqV.kept {H H' : Hp} {v : V} {xs : List V} {x C dx : Addr} {fs : List (Str × V)} (h : SeqV H v xs) (hx : H x = some (.ins C dx fs)) (k : Kept x H H') : SeqV H' v xs := by
  obtain ⟨p, rfl, h⟩ := h
  have ne : p ≠ x := fun z => by
    rw [z, hx] at h
    rcases h with h | h <;> cases h
  exact ⟨p, rfl, h.imp (k _ _ ne) (k _ _ ne)⟩
theorem PairV.kept {H H' : Hp} {vs : List V} {rs : List (Str × Str)} {x C dx : Addr} {fs : List (Str × V)} (h : Paired (PairV H) vs rs) (hx : H x = some (.ins C dx fs)) (k : Kept x H H') : Paired (PairV H') vs rs := paired_imp (fun _ _ q => SeqV.kept q hx k) h
section
variable {P : Program} {w : World} {K : PySem.W.Frag} {mg : Str → Option Value} {base : Heap} {CF C CH CR CD : Addr}
theorem ok_VI {f fN fR fD fB fG : Addr} {fd nd_ rd_ dd_ bd gd : FuncData} (F : Fun K "__init__" "Valley.__init__" sVI f fd) (B : Bl mg) (me : mg "enumerate" = none) (T : VcT K C)
    (GN : FnOk P w K mg base (L2.CX P w) 4 fN nd_ ["houses"] (spNH K CH)) (kN : PySem.W.keepIn K (.ref fN) = true) (bN : Binds K nd_ ["houses"] []) (mN : mg "_need_houses" = some (.ref fN))
    (GR : FnOk P w K mg base (L2.CX P w) 4 fR rd_ ["houses", "roads"] (spNR K CR)) (kR : PySem.W.keepIn K (.ref fR) = true) (bR : Binds K rd_ ["houses", "roads"] []) (mR : mg "_need_roads" = some (.ref fR))
    (GD : FnOk P w K mg base (L2.CX P w) 4 fD dd_ ["houses", "heads"] (spND K CD)) (kD : PySem.W.keepIn K (.ref fD) = true) (bD : Binds K dd_ ["houses", "heads"] []) (mD : mg "_need_heads" = some (.ref fD))
    (FB : Fun K "_both_ways" "_both_ways" sBW fB bd) (bB : Binds K bd ["roads"] []) (mB : mg "_both_ways" = some (.ref fB))
    (FG : Fun K "_neighbours" "_neighbours" sNB fG gd) (bG : Binds K gd ["houses", "roads"] []) (mG : mg "_neighbours" = some (.ref fG)) :
    FnOk P w K mg base (L2.CX P w) 5 f fd ["self", "houses", "roads", "heads"] (spVI K C CH CR CD) := by
  have GB := ok_BW (P := P) (w := w) (base := base) FB me
  have GG := ok_NB (P := P) (w := w) (mg := mg) (base := base) FG
  refine F.okX scVI (fun vs H Q E h => ?_) (fun cdv A outer s H vs Q E hr h => ?_)
  · obtain ⟨x, hh, r, g, dx, rfl, _⟩ := h
    rfl
  obtain ⟨x, hh, r, g, dx, rfl, hx, h⟩ := h
  have nd := scVI.nd
  have hu := hu_of hr
  have hr1 : Room 1 _ := hr.mono (by decide)
  refine ⟨_, pss_cons (by exact (ps_expr (pe_call GN hr rfl mN kN bN .nil (passes_call (takes_of rfl rfl rfl rfl) (fun _ _ _ _ h => h)) (pa_cons (pv 1) pa_nil))))
    (pss_cons (by exact (ps_expr (pe_call GR hr rfl mR kR bR .nil (passes_call (takes_of rfl rfl rfl rfl) (fun _ _ _ _ h => h)) (pa_cons (pv 1) (pa_cons (pv 2) pa_nil)))))
    (pss_cons (by exact (ps_expr (pe_call GD hr rfl mD kD bD .nil (passes_call (takes_of rfl rfl rfl rfl) (fun _ _ _ _ h => h)) (pa_cons (pv 1) (pa_cons (pv 3) pa_nil)))))
    (pss_cons (by exact (ps_fld (pv 0) (pe_callTy call_list_of rfl B.list PyProof.Rows.boot_list (pa_cons (pv 1) pa_nil)) rfl))
    (pss_cons (by exact (ps_fld (pv 0) (pe_lc (own := [("one", 4), ("other", 5)]) (g := gSeq K 2 (gCons (gName 4) (gCons (gName 5) gNil))) (tt := tYes) (te := tTup (tCons (tVar 4) (tCons (tVar 5) tNil))) rfl nd (by exact pi_seqV 2 (pv 2))
        (by exact blkOk_by (N := ["self", "houses", "roads", "heads", "one", "other", "house", "index"]) (sc := defScope sVI) (by decide +kernel)) (fun _ _ _ _ _ => by exact pg_seq rfl (pgs_cons (pg_name (i := 4) nd rfl (.inl rfl)) (pgs_cons (pg_name (i := 5) nd rfl (.inl rfl)) pgs_nil)))
        (fun _ _ _ _ _ => pts_nil) (fun _ _ _ _ _ => by exact pe_tup (pa_cons (pv 4) (pa_cons (pv 5) pa_nil)))) rfl))
    (pss_cons (by exact (ps_fld (pv 0) (pe_callTy call_list_of rfl B.list PyProof.Rows.boot_list (pa_cons (pv 3) pa_nil)) rfl))
    (pss_cons (by exact (ps_fld (pv 0) (pe_dc (own := [("house", 6), ("index", 7)]) (g := gTup K 2 (gCons (gName 7) (gCons (gName 6) gNil))) (tt := tYes) (tk := tVar 6) (tv := tOp (rIx K) (tVar 3) (tVar 7)) rfl nd (by exact pi_enumV 1 rfl me (pv 1))
        (by exact blkOk_by (N := ["self", "houses", "roads", "heads", "one", "other", "house", "index"]) (sc := defScope sVI) (by decide +kernel)) (fun _ _ _ _ _ => by exact pg_tup rfl (pgs_cons (pg_name (i := 7) nd rfl (.inl rfl)) (pgs_cons (pg_name (i := 6) nd rfl (.inl rfl)) pgs_nil)))
        (fun _ _ _ _ _ => pts_nil) (fun _ _ _ _ _ => by exact pv 6) (fun _ _ _ _ _ => by exact pe_ix ix_seq (pv 3) (pv 7) (fun _ _ => rfl))) rfl))
    (pss_cons (by exact (ps_fld (pv 0) (pe_call GB hr1 rfl mB FB.kp bB .nil pass0 (pa_cons (pe_fld (pv 0) rfl) pa_nil)) rfl))
    (pss_one (by exact (ps_fld (pv 0) (pe_call GG hr1 rfl mG FG.kp bG .nil pass0 (pa_cons (pe_fld (pv 0) rfl) (pa_cons (pe_fld (pv 0) rfl) pa_nil))) rfl)))))))))), ?_⟩
  rcases h with ⟨i, bad, go⟩ | h
  · refine ⟨_, rfl, hh, rfl, ?_⟩
    rcases bad with ⟨n, rfl⟩ | ⟨n, rfl⟩ | ⟨ss, y, rest, a1, a2, a3, a4, rfl⟩
    · exact .inl ⟨n, go⟩
    · exact .inr (.inl ⟨n, go⟩)
    · exact .inr (.inr (.inr ⟨ss, y, rest, a1, a2, a3, a4, go⟩))
  obtain ⟨ss, ⟨sh, hne, hl, good⟩, h⟩ : ∃ ss, HousesOk H hh ss ∧ ((∃ i : Nat, RoadsBad K H ss r i ∧ Goes CR i H E) ∨ (∃ rs, ∃ i : Nat, RoadsOk H ss r rs ∧ HeadsBad K H ss g i ∧ Goes CD i H E) ∨
      (∃ rs ns, RoadsOk H ss r rs ∧ HeadsOk H ss g ns ∧ ∀ H' l1 l2 l3 qs, Kept x H H' → ValI C H' x l1 l2 l3 qs ss rs ns → H l1 = none → H l2 = none → H l3 = none → (∀ q ∈ qs, H q = none) → Q .non H')) := by
    rcases h with ⟨ss, i, a, b, c⟩ | ⟨ss, rs, i, a, b, c, d⟩ | ⟨ss, rs, ns, a, b, c, d⟩
    · exact ⟨ss, a, .inl ⟨i, b, c⟩⟩
    · exact ⟨ss, a, .inr (.inl ⟨rs, i, b, c, d⟩)⟩
    · exact ⟨ss, a, .inr (.inr ⟨rs, ns, b, c, d⟩)⟩
  refine ⟨_, rfl, hh, rfl, .inr (.inr (.inl ⟨ss, sh, hne, hl, good, fun H1 e1 => ?_⟩))⟩
  rcases h with ⟨i, bad, go⟩ | h
  · refine ⟨_, rfl, _, rfl, hh, r, ss, rfl, sh.ext e1, good, hl, ?_⟩
    rcases bad with ⟨n, rfl⟩ | ⟨vs, rs, tail, a1, a2, a3, a4, rfl, a5⟩
    · exact .inl ⟨n.ext e1, go.ext e1⟩
    · refine .inr ⟨vs, rs, tail, a1.ext e1, paired_imp (fun _ _ q => SeqV.ext q e1) a2, a3, a4, ?_⟩
      rcases a5 with ⟨rfl, n⟩ | ⟨y, rest, rfl, b⟩
      · exact .inr (.inl ⟨rfl, n, go.ext e1⟩)
      · exact .inr (.inr ⟨y, rest, rfl, b.ext e1, go.ext e1⟩)
  obtain ⟨rs, ⟨vs, sr, pr, ends, forest, hrl⟩, h⟩ : ∃ rs, RoadsOk H ss r rs ∧ ((∃ i : Nat, HeadsBad K H ss g i ∧ Goes CD i H E) ∨
      (∃ ns, HeadsOk H ss g ns ∧ ∀ H' l1 l2 l3 qs, Kept x H H' → ValI C H' x l1 l2 l3 qs ss rs ns → H l1 = none → H l2 = none → H l3 = none → (∀ q ∈ qs, H q = none) → Q .non H')) := by
    rcases h with ⟨rs, i, b, c, d⟩ | ⟨rs, ns, b, c, d⟩
    · exact ⟨rs, b, .inl ⟨i, c, d⟩⟩
    · exact ⟨rs, b, .inr ⟨ns, c, d⟩⟩
  refine ⟨_, rfl, _, rfl, hh, r, ss, rfl, sh.ext e1, good, hl, .inr ⟨vs, rs, [], by rw [List.append_nil]; exact sr.ext e1, paired_imp (fun _ _ q => SeqV.ext q e1) pr, ends, forest, .inl ⟨rfl, hrl, fun H2 e2' => ?_⟩⟩⟩
  have e2 := e1.trans e2'
  rcases h with ⟨i, bad, go⟩ | ⟨ns, ⟨sg, hn1, hnl⟩, q⟩
  · refine ⟨_, rfl, _, rfl, hh, g, ss.map V.str, rfl, sh.ext e2, ?_⟩
    rcases bad with ⟨n, rfl⟩ | ⟨ns, a1, a2, a3, rfl⟩ | ⟨ns, y, rest, a1, a2, a3, a4, rfl⟩
    · exact .inl ⟨n.ext e2, go.ext e2⟩
    · exact .inr (.inr (.inl ⟨ns, a1.ext e2, a2, by rw [List.length_map]; exact a3, go.ext e2⟩))
    · exact .inr (.inr (.inr ⟨ns, y, rest, a1.ext e2, a2, by rw [List.length_map]; exact a3, by rw [List.length_map]; exact a4.imp id fun b => b.ext e2, go.ext e2⟩))
  refine ⟨_, rfl, _, rfl, hh, g, ss.map V.str, rfl, sh.ext e2, .inr (.inl ⟨ns, sg.ext e2, hn1, by rw [List.length_map]; exact hnl, fun H3 e3' => ?_⟩)⟩
  have e3 := e2.trans e3'
  have x3 := e3 _ _ hx
  have k3 : Kept x H H3 := Kept.same e3
  -- list(houses)
  obtain ⟨p1, rfl, q1⟩ := (sh.ext e3).sq (K := K)
  refine ⟨_, rfl, p1, _, rfl, q1, fun l1 hl1 => ?_⟩
  have n1 : l1 ≠ x := fun z => by rw [z, x3] at hl1; cases hl1
  have l1H : H l1 = none := e3.free hl1
  refine ⟨_, rfl, x, C, dx, [], rfl, (by rw [upd_ne n1.symm]; exact x3), T.cl, T.n1, (by decide), ?_⟩
  have k4 : Kept x H3 (upd (upd H3 l1 (.lst (ss.map V.str))) x (.ins C dx (putF "_houses" (.ref l1) []))) := (Kept.new hl1).trans Kept.upd
  have f1 : upd (upd H3 l1 (.lst (ss.map V.str))) x (.ins C dx (putF "_houses" (.ref l1) [])) l1 = some (.lst (ss.map V.str)) := by rw [upd_ne n1, upd_same]
  have x4 : upd (upd H3 l1 (.lst (ss.map V.str))) x (.ins C dx (putF "_houses" (.ref l1) [])) x = some (.ins C dx (putF "_houses" (.ref l1) [])) := upd_same
  generalize upd (upd H3 l1 (.lst (ss.map V.str))) x (.ins C dx (putF "_houses" (.ref l1) [])) = H4 at k4 f1 x4 ⊢
  have k04 := k3.trans k4
  have fr : ∀ {Hz : Hp} {l : Addr}, Kept x H Hz → Hz l = none → l ≠ x → H l = none := fun {Hz l} k n ne => by
    cases e : H l with
    | none => rfl
    | some o => rw [k _ _ ne e] at n; cases n
  -- the roads' pairs
  obtain ⟨p2, rfl, q2⟩ := sr.kept hx k04
  have sq2 : SqA K H4 p2 vs := q2.imp (fun h => SqL.of h) (fun h => SqT.of h)
  refine ⟨p2, _, rfl, sq2, fun J G wk hG l2 hl2 => ?_⟩
  have n2 : l2 ≠ x := fun z => by rw [z, x4] at hl2; cases hl2
  have lvs : vs.length = rs.length := pr.length
  refine lc_it wk (fun i Hc => Same H4 Hc ∧ ∃ qs, Hc l2 = some (.lst (qs.map V.ref)) ∧ Paired (TupP Hc) qs (rs.take i) ∧ (∀ z ∈ qs, H4 z = none ∧ z ≠ l2)) ⟨K1.Same.upd hl2, [], upd_same, .nil, fun z hz => absurd hz (by simp)⟩ (fun i Hc _ h => hG Hc fun o ho => h.1 _ _ ho) ?_ ?_
  · rintro i y Hc H' hi ⟨a1, qs, a2, a3, a4⟩ ⟨rfl, hy⟩
    rw [lvs] at hi
    obtain ⟨y', ey, py⟩ := paired_get (PairV.kept pr hx k04) hi
    have : y = y' := Option.some.inj (hy.symm.trans ey)
    subst this
    obtain ⟨py1, rfl, py2⟩ := SeqV.ext py a1
    refine ⟨py1, _, rfl, py2.imp (fun h => SqL.of h) (fun h => SqT.of h), rfl, _, _, rfl, _, _, rfl, rfl, rfl, ?_⟩
    unfold tYes
    refine iteT ?_
    refine ⟨_, rfl, _, rfl, (by show 2 ≤ sizeLine; decide), fun b hb => ?_⟩
    have bl : b ≠ l2 := fun z => by rw [z, a2] at hb; cases hb
    have lq : qs.length ≤ rs.length := by rw [a3.length, List.length_take]; omega
    have sb := K1.Same.upd (H := H') (p := b) (o := .tup [.str rs[i].1, .str rs[i].2]) hb
    refine ⟨qs.map V.ref, by rw [upd_ne bl.symm]; exact a2, by rw [List.length_map]; exact small1000 (by omega), ?_, qs ++ [b], by rw [upd_same, List.map_append]; rfl, ?_, fun z hz => ?_⟩
    · intro c o n
      rw [upd_ne (ne_of_none n hl2)]
      exact sb _ _ (a1 _ _ n)
    · have up2 : ∀ z o, z ≠ l2 → upd H' b (.tup [.str rs[i].1, .str rs[i].2]) z = some o → upd (upd H' b (.tup [.str rs[i].1, .str rs[i].2])) l2 (.lst (qs.map V.ref ++ [.ref b])) z = some o := fun z o n e => by rw [upd_ne n]; exact e
      rw [List.take_add_one, List.getElem?_eq_getElem hi]
      have pz : ∀ {as : List Addr} {bs : List (Str × Str)}, Paired (TupP H') as bs → (∀ z ∈ as, z ≠ l2) → Paired (TupP (upd (upd H' b (.tup [.str rs[i].1, .str rs[i].2])) l2 (.lst (qs.map V.ref ++ [.ref b])))) (as ++ [b]) (bs ++ [rs[i]]) := by
        intro as bs h
        induction h with
        | nil => intro _; exact .cons (up2 _ _ bl upd_same) .nil
        | cons f1 f2 ih =>
          intro nz
          exact .cons (up2 _ _ (nz _ (List.mem_cons_self ..)) (sb _ _ f1)) (ih fun z hz => nz z (List.mem_cons_of_mem _ hz))
      exact pz a3 fun z hz => (a4 z hz).2
    · rcases List.mem_append.mp hz with hz | hz
      · exact a4 z hz
      · rw [List.mem_singleton.mp hz]
        exact ⟨a1.free hb, bl⟩
  rintro H5 ⟨e5, qs, a2, a3, a4⟩
  rw [lvs, List.take_length] at a3
  have x5 := e5 _ _ x4
  refine ⟨_, rfl, x, C, dx, _, rfl, x5, T.cl, T.n2, (Nat.lt_of_le_of_lt (length_putF _ _ _) (by decide)), ?_⟩
  have k5 : Kept x H (upd H5 x (.ins C dx (putF "_roads" (.ref l2) (putF "_houses" (.ref l1) [])))) := (k04.trans (Kept.same e5)).trans Kept.upd
  have up5 : ∀ z o, z ≠ x → H5 z = some o → upd H5 x (.ins C dx (putF "_roads" (.ref l2) (putF "_houses" (.ref l1) []))) z = some o := fun z o n e => by rw [upd_ne n]; exact e
  have g1 := up5 _ _ n1 (e5 _ _ f1)
  have g2 := up5 _ _ n2 a2
  have nq : ∀ z ∈ qs, z ≠ x := fun z hz e => by rw [e] at hz; rw [(a4 x hz).1] at x4; cases x4
  have pq : ∀ {Hz : Hp}, Kept x H5 Hz → Paired (TupP Hz) qs rs := fun {Hz} k => by
    have : ∀ {as : List Addr} {bs : List (Str × Str)}, Paired (TupP H5) as bs → (∀ z ∈ as, z ≠ x) → Paired (TupP Hz) as bs := by
      intro as bs h
      induction h with
      | nil => intro _; exact .nil
      | cons f1 f2 ih => intro nz; exact .cons (k _ _ (nz _ (List.mem_cons_self ..)) f1) (ih fun z hz => nz z (List.mem_cons_of_mem _ hz))
    exact this a3 nq
  have k56 : Kept x H5 (upd H5 x (.ins C dx (putF "_roads" (.ref l2) (putF "_houses" (.ref l1) [])))) := Kept.upd
  have x6 : upd H5 x (.ins C dx (putF "_roads" (.ref l2) (putF "_houses" (.ref l1) []))) x = some (.ins C dx (putF "_roads" (.ref l2) (putF "_houses" (.ref l1) []))) := upd_same
  generalize upd H5 x (.ins C dx (putF "_roads" (.ref l2) (putF "_houses" (.ref l1) []))) = H6 at k5 g1 g2 k56 x6 ⊢
  clear up5
  -- list(heads)
  obtain ⟨p3, rfl, q3⟩ := (sg.kept hx k5).sq (K := K)
  refine ⟨_, rfl, p3, _, rfl, q3, fun l3 hl3 => ?_⟩
  have n3 : l3 ≠ x := fun z => by rw [z, x6] at hl3; cases hl3
  refine ⟨_, rfl, x, C, dx, _, rfl, (by rw [upd_ne n3.symm]; exact x6), T.cl, T.n3, (Nat.lt_of_le_of_lt (Nat.le_trans (length_putF _ _ _) (Nat.succ_le_succ (length_putF _ _ _))) (by decide)), ?_⟩
  have k67 : Kept x H6 (upd (upd H6 l3 (.lst (ns.map V.int))) x (.ins C dx (putF "_heads" (.ref l3) (putF "_roads" (.ref l2) (putF "_houses" (.ref l1) []))))) := (Kept.new hl3).trans Kept.upd
  have g3 : upd (upd H6 l3 (.lst (ns.map V.int))) x (.ins C dx (putF "_heads" (.ref l3) (putF "_roads" (.ref l2) (putF "_houses" (.ref l1) [])))) l3 = some (.lst (ns.map V.int)) := by rw [upd_ne n3, upd_same]
  have x7 : upd (upd H6 l3 (.lst (ns.map V.int))) x (.ins C dx (putF "_heads" (.ref l3) (putF "_roads" (.ref l2) (putF "_houses" (.ref l1) [])))) x = some (.ins C dx (putF "_heads" (.ref l3) (putF "_roads" (.ref l2) (putF "_houses" (.ref l1) [])))) := upd_same
  have l3H : H l3 = none := fr k5 hl3 n3
  generalize upd (upd H6 l3 (.lst (ns.map V.int))) x (.ins C dx (putF "_heads" (.ref l3) (putF "_roads" (.ref l2) (putF "_houses" (.ref l1) [])))) = H7 at k67 g3 x7 ⊢
  have k07 := k5.trans k67
  -- the people
  obtain ⟨p1', e1', q1'⟩ := sh.kept hx k07
  cases e1'
  obtain ⟨p3', e3'', q3'⟩ := sg.kept hx k07
  cases e3''
  have sq7 : SqA K H7 p1 (ss.map V.str) := q1'.imp (fun h => SqL.of h) (fun h => SqT.of h)
  refine ⟨p1, _, rfl, sq7, fun J G wk hG D hD => ?_⟩
  have nD : D ≠ x := fun z => by rw [z, x7] at hD; cases hD
  refine dc_it wk (fun i Hc => Same H7 Hc ∧ ∃ kv, Hc D = some (.dK kv) ∧ kv.length ≤ i) ⟨K1.Same.upd hD, [], upd_same, Nat.zero_le _⟩ (fun i Hc _ h => hG Hc fun o ho => h.1 _ _ ho) ?_ ?_
  · rintro i y Hc H' hi ⟨b1, kv, b2, b3⟩ ⟨Tp, x1, x2, rfl, hT, rfl, ex1, ex2⟩
    rw [List.length_map] at hi
    obtain rfl : x1 = .int (i : Nat) := (Option.some.inj ex1).symm
    have ex2 : (ss.map V.str)[i]? = some x2 := ex2
    rw [List.getElem?_map, List.getElem?_eq_getElem hi] at ex2
    obtain rfl : x2 = .str ss[i] := (Option.some.inj ex2).symm
    have hT2 := K1.Same.upd (H := Hc) (p := Tp) (o := .tup [.int (i : Nat), .str ss[i]]) hT
    refine ⟨Tp, _, rfl, SqT.of upd_same, rfl, _, _, rfl, _, _, rfl, rfl, rfl, ?_⟩
    unfold tYes
    refine iteT ?_
    have hi2 : i < ns.length := by omega
    have sv : SeqV (upd Hc Tp (.tup [.int (i : Nat), .str ss[i]])) (.ref p3) (ns.map V.int) := SeqV.ext (SeqV.ext ⟨p3, rfl, q3'⟩ b1) hT2
    refine ⟨_, rfl, _, rfl, _, rfl, ixA sv (atI_nat (j := i) (v := .int ns[i]) (by rw [List.getElem?_map, List.getElem?_eq_getElem hi2]; rfl)) ?_⟩
    refine ⟨kv, .inr ss[i], rfl, hT2 _ _ b2, small1000 (by omega), fun c o n => ?_, _, upd_same, Nat.le_trans putK_le (by omega)⟩
    rw [upd_ne (ne_of_none n hD)]
    exact hT2 _ _ (b1 _ _ n)
  rintro H8 ⟨e8, _⟩
  have x8 := e8 _ _ x7
  refine ⟨_, rfl, x, C, dx, _, rfl, x8, T.cl, T.n4, (Nat.lt_of_le_of_lt (Nat.le_trans (length_putF _ _ _) (Nat.succ_le_succ (Nat.le_trans (length_putF _ _ _) (Nat.succ_le_succ (length_putF _ _ _))))) (by decide)), ?_⟩
  have k79 : Kept x H7 (upd H8 x (.ins C dx (putF "_people" (.ref D) (putF "_heads" (.ref l3) (putF "_roads" (.ref l2) (putF "_houses" (.ref l1) [])))))) := (Kept.same e8).trans Kept.upd
  have x9 : upd H8 x (.ins C dx (putF "_people" (.ref D) (putF "_heads" (.ref l3) (putF "_roads" (.ref l2) (putF "_houses" (.ref l1) []))))) x = some (.ins C dx (putF "_people" (.ref D) (putF "_heads" (.ref l3) (putF "_roads" (.ref l2) (putF "_houses" (.ref l1) []))))) := upd_same
  generalize upd H8 x (.ins C dx (putF "_people" (.ref D) (putF "_heads" (.ref l3) (putF "_roads" (.ref l2) (putF "_houses" (.ref l1) []))))) = H9 at k79 x9 ⊢
  have k69 := k67.trans k79
  have k59 := k56.trans k69
  have o2 := k69 _ _ n2 g2
  have p9 := pq k59
  have lk2 : (putF "_people" (V.ref D) (putF "_heads" (.ref l3) (putF "_roads" (.ref l2) (putF "_houses" (.ref l1) [])))).lookup ("_roads" : Str) = some (.ref l2) := by
    rw [lookup_putF, if_neg (by decide +kernel), lookup_putF, if_neg (by decide +kernel), lookup_putF, if_pos rfl]
  refine ⟨_, rfl, x, C, dx, _, _, rfl, x9, T.cl, T.n2, lk2, l2, qs, rs, rfl, o2, p9, by omega, fun r1 H10 e10 => ?_⟩
  have x10 := e10 _ _ x9
  refine ⟨_, rfl, x, C, dx, _, rfl, x10, T.cl, T.n5, (Nat.lt_of_le_of_lt (Nat.le_trans (length_putF _ _ _) (Nat.succ_le_succ (Nat.le_trans (length_putF _ _ _) (Nat.succ_le_succ (Nat.le_trans (length_putF _ _ _) (Nat.succ_le_succ (length_putF _ _ _))))))) (by decide)), ?_⟩
  have k911 : Kept x H9 (upd H10 x (.ins C dx (putF "_places" (.ref r1) (putF "_people" (.ref D) (putF "_heads" (.ref l3) (putF "_roads" (.ref l2) (putF "_houses" (.ref l1) []))))))) := (Kept.same e10).trans Kept.upd
  have x11 : upd H10 x (.ins C dx (putF "_places" (.ref r1) (putF "_people" (.ref D) (putF "_heads" (.ref l3) (putF "_roads" (.ref l2) (putF "_houses" (.ref l1) [])))))) x = some (.ins C dx (putF "_places" (.ref r1) (putF "_people" (.ref D) (putF "_heads" (.ref l3) (putF "_roads" (.ref l2) (putF "_houses" (.ref l1) [])))))) := upd_same
  generalize upd H10 x (.ins C dx (putF "_places" (.ref r1) (putF "_people" (.ref D) (putF "_heads" (.ref l3) (putF "_roads" (.ref l2) (putF "_houses" (.ref l1) [])))))) = H11 at k911 x11 ⊢
  have k6_11 := k69.trans k911
  have k5_11 := k56.trans k6_11
  have lk1 : (putF "_places" (V.ref r1) (putF "_people" (V.ref D) (putF "_heads" (.ref l3) (putF "_roads" (.ref l2) (putF "_houses" (.ref l1) []))))).lookup ("_houses" : Str) = some (.ref l1) := by
    rw [lookup_putF, if_neg (by decide +kernel), lookup_putF, if_neg (by decide +kernel), lookup_putF, if_neg (by decide +kernel), lookup_putF, if_neg (by decide +kernel), lookup_putF, if_pos rfl]
  have lk2' : (putF "_places" (V.ref r1) (putF "_people" (V.ref D) (putF "_heads" (.ref l3) (putF "_roads" (.ref l2) (putF "_houses" (.ref l1) []))))).lookup ("_roads" : Str) = some (.ref l2) := by
    rw [lookup_putF, if_neg (by decide +kernel)]
    exact lk2
  refine ⟨_, rfl, x, C, dx, _, _, rfl, x11, T.cl, T.n1, lk1, _, rfl, x, C, dx, _, _, rfl, x11, T.cl, T.n2, lk2', l1, l2, ss, qs, rs, rfl, k6_11 _ _ n1 g1, hl, good.1, k6_11 _ _ n2 g2, pq k5_11, ends, by omega, fun r2 H12 e12 => ?_⟩
  have x12 := e12 _ _ x11
  refine ⟨_, rfl, x, C, dx, _, rfl, x12, T.cl, T.n6, (Nat.lt_of_le_of_lt (Nat.le_trans (length_putF _ _ _) (Nat.succ_le_succ (Nat.le_trans (length_putF _ _ _) (Nat.succ_le_succ (Nat.le_trans (length_putF _ _ _) (Nat.succ_le_succ (Nat.le_trans (length_putF _ _ _) (Nat.succ_le_succ (length_putF _ _ _))))))))) (by decide)), ?_⟩
  have k11_13 : Kept x H11 (upd H12 x (.ins C dx (putF "_beside" (.ref r2) (putF "_places" (.ref r1) (putF "_people" (.ref D) (putF "_heads" (.ref l3) (putF "_roads" (.ref l2) (putF "_houses" (.ref l1) [])))))))) := (Kept.same e12).trans Kept.upd
  have k6_13 := k6_11.trans k11_13
  refine q _ l1 l2 l3 qs (k5.trans k6_13) ⟨⟨dx, _, upd_same, ?_, ?_, ?_, fun m m1 m2 m3 m4 m5 m6 => ?_⟩, k6_13 _ _ n1 g1, k6_13 _ _ n2 g2, pq (k56.trans k6_13), (k79.trans (k911.trans k11_13)) _ _ n3 g3⟩ l1H (fr k04 hl2 n2) l3H (fun z hz => fr k04 (a4 z hz).1 (nq z hz))
  · rw [lookup_putF, if_neg (by decide +kernel)]
    exact lk1
  · rw [lookup_putF, if_neg (by decide +kernel)]
    exact lk2'
  · rw [lookup_putF, if_neg (by decide +kernel), lookup_putF, if_neg (by decide +kernel), lookup_putF, if_neg (by decide +kernel), lookup_putF, if_pos rfl]
  · rw [lookup_putF, if_neg m6, lookup_putF, if_neg m5, lookup_putF, if_neg m4, lookup_putF, if_neg m3, lookup_putF, if_neg m2, lookup_putF, if_neg m1]
    rfl
end
end K1
end
-- NInit
section
set_option Elab.async false
set_option linter.all false
set_option maxRecDepth 100000
set_option maxHeartbeats 4000000
namespace K1
open PySem PySem.Spec PyProof.Rows L2
/-- the dict of people, item by item -/
def peo (ss : List Str) (ns : List Int) : List (Key × V) := (ss.zip ns).map fun p => (Sum.inr p.1, V.int p.2)
theorem peo_none {s : Str} : ∀ {ss : List Str} {ns : List Int}, s ∉ ss → valV (peo ss ns) (.inr s) = none
  | [], _, _ => rfl
  | _ :: _, [], _ => rfl
  | a :: as, b :: bs, h => by
    have e : ¬ (Sum.inr a : Key) = .inr s := fun z => h (by rw [Sum.inr.inj z]; exact List.mem_cons_self ..)
    show valV ((Sum.inr a, V.int b) :: peo as bs) _ = none
    rw [valV_neg e]
    exact peo_none fun z => h (List.mem_cons_of_mem _ z)
theorem peo_some {s : Str} : ∀ {ss : List Str} {ns : List Int}, ss.length = ns.length → s ∈ ss → ∃ n, valV (peo ss ns) (.inr s) = some (.int n)
  | [], _, _, h => absurd h (by simp)
  | _ :: _, [], l, _ => by cases l
  | a :: as, b :: bs, l, h => by
    by_cases e : (Sum.inr a : Key) = .inr s
    · exact ⟨b, valV_pos (p := (Sum.inr a, V.int b)) e⟩
    · obtain ⟨n, h'⟩ := peo_some (s := s) (ss := as) (ns := bs) (Nat.succ.inj l) ((List.mem_cons.mp h).resolve_left fun z => e (by rw [z]))
      exact ⟨n, (valV_neg (p := (Sum.inr a, V.int b)) e).trans h'⟩
theorem peo_in {s : Str} {ss : List Str} {ns : List Int} (l : ss.length = ns.length) : (valV (peo ss ns) (.inr s)).isSome = decide (s ∈ ss) := by
  by_cases h : s ∈ ss
  · obtain ⟨n, e⟩ := peo_some l h
    rw [e, decide_eq_true h]
    rfl
  · rw [peo_none h, decide_eq_false h]
    rfl
theorem peo_succ {ss : List Str} {ns : List Int} {i : Nat} (hi : i < ss.length) (hj : i < ns.length) : peo (ss.take (i + 1)) ns = peo (ss.take i) ns ++ [(Sum.inr ss[i], V.int ns[i])] := by
  unfold peo
  have e : (ss.take (i + 1)).zip ns = (ss.take i).zip ns ++ [(ss[i], ns[i])] := by
    have a : ∀ (m : Nat) (ss : List Str) (ns : List Int), (ss.take m).zip ns = (ss.zip ns).take m := by
      intro m
      induction m with
      | zero => intro ss ns; simp
      | succ m ih =>
        intro ss ns
        cases ss with
        | nil => simp
        | cons a as => cases ns with
          | nil => simp
          | cons b bs => simp [ih as bs]
    rw [a, a, List.take_succ, List.getElem?_eq_getElem (by rw [List.length_zip]; omega)]
    simp
  rw [e, List.map_append]
  rfl
/-- a Valley: its lists and its dicts -/
structure ValS (C : Addr) (H : Hp) (x l1 l2 l3 d1 d2 d3 : Addr) (qs : List Addr) (bs : Str → Addr) (ss : List Str) (rs : List (Str × Str)) (ns : List Int) : Prop where
  ins : ∃ dx fs, H x = some (.ins C dx fs) ∧ fs.lookup ("_houses" : Str) = some (V.ref l1) ∧ fs.lookup ("_roads" : Str) = some (V.ref l2) ∧ fs.lookup ("_heads" : Str) = some (V.ref l3) ∧ fs.lookup ("_people" : Str) = some (V.ref d1) ∧ fs.lookup ("_places" : Str) = some (V.ref d2) ∧ fs.lookup ("_beside" : Str) = some (V.ref d3) ∧
    ∀ m : Str, m ≠ "_houses" → m ≠ "_roads" → m ≠ "_heads" → m ≠ "_people" → m ≠ "_places" → m ≠ "_beside" → fs.lookup m = none
  h1 : H l1 = some (.lst (ss.map V.str))
  h2 : H l2 = some (.lst (qs.map V.ref))
  pr : Paired (TupP H) qs rs
  h3 : H l3 = some (.lst (ns.map V.int))
  p1 : H d1 = some (.dK (peo ss ns))
  p2 : ∃ kv, H d2 = some (.dT kv) ∧ PlacesAt rs kv ∧ kv.length ≤ 2 * rs.length
  p3 : ∃ kv, H d3 = some (.dK kv) ∧ kv.length ≤ ss.length ∧ ∀ s ∈ ss, valV kv (.inr s) = some (.ref (bs s))
  nb : ∀ s ∈ ss, H (bs s) = some (.lst ((nbs ss rs s).map V.str))
theorem ValS.toI {C : Addr} {H : Hp} {x l1 l2 l3 d1 d2 d3 : Addr} {qs : List Addr} {bs : Str → Addr} {ss : List Str} {rs : List (Str × Str)} {ns : List Int} (v : ValS C H x l1 l2 l3 d1 d2 d3 qs bs ss rs ns) : ValI C H x l1 l2 l3 qs ss rs ns := by
  obtain ⟨dx, fs, a, b1, b2, b3, _, _, _, c⟩ := v.ins
  exact ⟨⟨dx, fs, a, b1, b2, b3, c⟩, v.h1, v.h2, v.pr, v.h3⟩
/-- all its objects are new -/
def NewV (H : Hp) (l1 l2 l3 d1 d2 d3 : Addr) (qs : List Addr) (bs : Str → Addr) (ss : List Str) : Prop := H l1 = none ∧ H l2 = none ∧ H l3 = none ∧ H d1 = none ∧ H d2 = none ∧ H d3 = none ∧ (∀ q ∈ qs, H q = none) ∧ ∀ s ∈ ss, H (bs s) = none
/-- a Valley's __init__, when all is as it should be -/
def spVS (K : PySem.W.Frag) (C : Addr) : Sp := fun vs H Q E => ∃ x h r g dx ss rs ns, vs = [.ref x, h, r, g] ∧ H x = some (.ins C dx []) ∧ HousesOk H h ss ∧ RoadsOk H ss r rs ∧ HeadsOk H ss g ns ∧
  ∀ H' l1 l2 l3 d1 d2 d3 qs bs, Kept x H H' → ValS C H' x l1 l2 l3 d1 d2 d3 qs bs ss rs ns → NewV H l1 l2 l3 d1 d2 d3 qs bs ss → Q .non H'
theorem choose_at {ss : List Str} {R : Str → Addr → Prop} (h : ∀ s ∈ ss, ∃ d, R s d) : ∃ f : Str → Addr, ∀ s ∈ ss, R s (f s) := by
  classical
  refine ⟨fun s => if h' : s ∈ ss then (h s h').choose else 0, fun s hs => ?_⟩
  simp only [dif_pos hs]
  exact (h s hs).choose_spec
section
variable {P : Program} {w : World} {K : PySem.W.Frag} {mg : Str → Option Value} {base : Heap} {CF C CH CR CD : Addr}
theorem ok_VS {f fN fR fD fB fG : Addr} {fd nd_ rd_ dd_ bd gd : FuncData} (F : Fun K "__init__" "Valley.__init__" sVI f fd) (B : Bl mg) (me : mg "enumerate" = none) (T : VcT K C)
    (GN : FnOk P w K mg base (L2.CX P w) 4 fN nd_ ["houses"] (spNH K CH)) (kN : PySem.W.keepIn K (.ref fN) = true) (bN : Binds K nd_ ["houses"] []) (mN : mg "_need_houses" = some (.ref fN))
    (GR : FnOk P w K mg base (L2.CX P w) 4 fR rd_ ["houses", "roads"] (spNR K CR)) (kR : PySem.W.keepIn K (.ref fR) = true) (bR : Binds K rd_ ["houses", "roads"] []) (mR : mg "_need_roads" = some (.ref fR))
    (GD : FnOk P w K mg base (L2.CX P w) 4 fD dd_ ["houses", "heads"] (spND K CD)) (kD : PySem.W.keepIn K (.ref fD) = true) (bD : Binds K dd_ ["houses", "heads"] []) (mD : mg "_need_heads" = some (.ref fD))
    (FB : Fun K "_both_ways" "_both_ways" sBW fB bd) (bB : Binds K bd ["roads"] []) (mB : mg "_both_ways" = some (.ref fB))
    (FG : Fun K "_neighbours" "_neighbours" sNB fG gd) (bG : Binds K gd ["houses", "roads"] []) (mG : mg "_neighbours" = some (.ref fG)) :
    FnOk P w K mg base (L2.CX P w) 5 f fd ["self", "houses", "roads", "heads"] (spVS K C) := by
  have GB := ok_BW2 (P := P) (w := w) (base := base) FB me
  have GG := ok_NB2 (P := P) (w := w) (mg := mg) (base := base) FG
  refine F.okX scVI (fun vs H Q E h => ?_) (fun cdv A outer s H vs Q E hr h => ?_)
  · obtain ⟨x, hh, r, g, dx, ss, rs, ns, rfl, _⟩ := h
    rfl
  obtain ⟨x, hh, r, g, dx, ss, rs, ns, rfl, hx, ⟨sh, hne, hl, good⟩, ⟨vs, sr, pr, ends, forest, hrl⟩, ⟨sg, hn1, hnl⟩, q⟩ := h
  have nd := scVI.nd
  have hu := hu_of hr
  have hr1 : Room 1 _ := hr.mono (by decide)
  refine ⟨_, pss_cons (by exact (ps_expr (pe_call GN hr rfl mN kN bN .nil (passes_call (takes_of rfl rfl rfl rfl) (fun _ _ _ _ h => h)) (pa_cons (pv 1) pa_nil))))
    (pss_cons (by exact (ps_expr (pe_call GR hr rfl mR kR bR .nil (passes_call (takes_of rfl rfl rfl rfl) (fun _ _ _ _ h => h)) (pa_cons (pv 1) (pa_cons (pv 2) pa_nil)))))
    (pss_cons (by exact (ps_expr (pe_call GD hr rfl mD kD bD .nil (passes_call (takes_of rfl rfl rfl rfl) (fun _ _ _ _ h => h)) (pa_cons (pv 1) (pa_cons (pv 3) pa_nil)))))
    (pss_cons (by exact (ps_fld (pv 0) (pe_callTy call_list_of rfl B.list PyProof.Rows.boot_list (pa_cons (pv 1) pa_nil)) rfl))
    (pss_cons (by exact (ps_fld (pv 0) (pe_lc (own := [("one", 4), ("other", 5)]) (g := gSeq K 2 (gCons (gName 4) (gCons (gName 5) gNil))) (tt := tYes) (te := tTup (tCons (tVar 4) (tCons (tVar 5) tNil))) rfl nd (by exact pi_seqV 2 (pv 2))
        (by exact blkOk_by (N := ["self", "houses", "roads", "heads", "one", "other", "house", "index"]) (sc := defScope sVI) (by decide +kernel)) (fun _ _ _ _ _ => by exact pg_seq rfl (pgs_cons (pg_name (i := 4) nd rfl (.inl rfl)) (pgs_cons (pg_name (i := 5) nd rfl (.inl rfl)) pgs_nil)))
        (fun _ _ _ _ _ => pts_nil) (fun _ _ _ _ _ => by exact pe_tup (pa_cons (pv 4) (pa_cons (pv 5) pa_nil)))) rfl))
    (pss_cons (by exact (ps_fld (pv 0) (pe_callTy call_list_of rfl B.list PyProof.Rows.boot_list (pa_cons (pv 3) pa_nil)) rfl))
    (pss_cons (by exact (ps_fld (pv 0) (pe_dc (own := [("house", 6), ("index", 7)]) (g := gTup K 2 (gCons (gName 7) (gCons (gName 6) gNil))) (tt := tYes) (tk := tVar 6) (tv := tOp (rIx K) (tVar 3) (tVar 7)) rfl nd (by exact pi_enumV 1 rfl me (pv 1))
        (by exact blkOk_by (N := ["self", "houses", "roads", "heads", "one", "other", "house", "index"]) (sc := defScope sVI) (by decide +kernel)) (fun _ _ _ _ _ => by exact pg_tup rfl (pgs_cons (pg_name (i := 7) nd rfl (.inl rfl)) (pgs_cons (pg_name (i := 6) nd rfl (.inl rfl)) pgs_nil)))
        (fun _ _ _ _ _ => pts_nil) (fun _ _ _ _ _ => by exact pv 6) (fun _ _ _ _ _ => by exact pe_ix ix_seq (pv 3) (pv 7) (fun _ _ => rfl))) rfl))
    (pss_cons (by exact (ps_fld (pv 0) (pe_call GB hr1 rfl mB FB.kp bB .nil pass0 (pa_cons (pe_fld (pv 0) rfl) pa_nil)) rfl))
    (pss_one (by exact (ps_fld (pv 0) (pe_call GG hr1 rfl mG FG.kp bG .nil pass0 (pa_cons (pe_fld (pv 0) rfl) (pa_cons (pe_fld (pv 0) rfl) pa_nil))) rfl)))))))))), ?_⟩
  refine ⟨_, rfl, hh, rfl, .inr (.inr (.inl ⟨ss, sh, hne, hl, good, fun H1 e1 => ?_⟩))⟩
  refine ⟨_, rfl, _, rfl, hh, r, ss, rfl, sh.ext e1, good, hl, .inr ⟨vs, rs, [], by rw [List.append_nil]; exact sr.ext e1, paired_imp (fun _ _ q => SeqV.ext q e1) pr, ends, forest, .inl ⟨rfl, hrl, fun H2 e2' => ?_⟩⟩⟩
  have e2 := e1.trans e2'
  refine ⟨_, rfl, _, rfl, hh, g, ss.map V.str, rfl, sh.ext e2, .inr (.inl ⟨ns, sg.ext e2, hn1, by rw [List.length_map]; exact hnl, fun H3 e3' => ?_⟩)⟩
  have e3 := e2.trans e3'
  have x3 := e3 _ _ hx
  have k3 : Kept x H H3 := Kept.same e3
  -- list(houses)
  obtain ⟨p1, rfl, q1⟩ := (sh.ext e3).sq (K := K)
  refine ⟨_, rfl, p1, _, rfl, q1, fun l1 hl1 => ?_⟩
  have n1 : l1 ≠ x := fun z => by rw [z, x3] at hl1; cases hl1
  have l1H : H l1 = none := e3.free hl1
  refine ⟨_, rfl, x, C, dx, [], rfl, (by rw [upd_ne n1.symm]; exact x3), T.cl, T.n1, (by decide), ?_⟩
  have k4 : Kept x H3 (upd (upd H3 l1 (.lst (ss.map V.str))) x (.ins C dx (putF "_houses" (.ref l1) []))) := (Kept.new hl1).trans Kept.upd
  have f1 : upd (upd H3 l1 (.lst (ss.map V.str))) x (.ins C dx (putF "_houses" (.ref l1) [])) l1 = some (.lst (ss.map V.str)) := by rw [upd_ne n1, upd_same]
  have x4 : upd (upd H3 l1 (.lst (ss.map V.str))) x (.ins C dx (putF "_houses" (.ref l1) [])) x = some (.ins C dx (putF "_houses" (.ref l1) [])) := upd_same
  generalize upd (upd H3 l1 (.lst (ss.map V.str))) x (.ins C dx (putF "_houses" (.ref l1) [])) = H4 at k4 f1 x4 ⊢
  have k04 := k3.trans k4
  have fr : ∀ {Hz : Hp} {l : Addr}, Kept x H Hz → Hz l = none → l ≠ x → H l = none := fun {Hz l} k n ne => by
    cases e : H l with
    | none => rfl
    | some o => rw [k _ _ ne e] at n; cases n
  -- the roads' pairs
  obtain ⟨p2, rfl, q2⟩ := sr.kept hx k04
  have sq2 : SqA K H4 p2 vs := q2.imp (fun h => SqL.of h) (fun h => SqT.of h)
  refine ⟨p2, _, rfl, sq2, fun J G wk hG l2 hl2 => ?_⟩
  have n2 : l2 ≠ x := fun z => by rw [z, x4] at hl2; cases hl2
  have lvs : vs.length = rs.length := pr.length
  refine lc_it wk (fun i Hc => Same H4 Hc ∧ ∃ qs, Hc l2 = some (.lst (qs.map V.ref)) ∧ Paired (TupP Hc) qs (rs.take i) ∧ (∀ z ∈ qs, H4 z = none ∧ z ≠ l2)) ⟨K1.Same.upd hl2, [], upd_same, .nil, fun z hz => absurd hz (by simp)⟩ (fun i Hc _ h => hG Hc fun o ho => h.1 _ _ ho) ?_ ?_
  · rintro i y Hc H' hi ⟨a1, qs, a2, a3, a4⟩ ⟨rfl, hy⟩
    rw [lvs] at hi
    obtain ⟨y', ey, py⟩ := paired_get (PairV.kept pr hx k04) hi
    have : y = y' := Option.some.inj (hy.symm.trans ey)
    subst this
    obtain ⟨py1, rfl, py2⟩ := SeqV.ext py a1
    refine ⟨py1, _, rfl, py2.imp (fun h => SqL.of h) (fun h => SqT.of h), rfl, _, _, rfl, _, _, rfl, rfl, rfl, ?_⟩
    unfold tYes
    refine iteT ?_
    refine ⟨_, rfl, _, rfl, (by show 2 ≤ sizeLine; decide), fun b hb => ?_⟩
    have bl : b ≠ l2 := fun z => by rw [z, a2] at hb; cases hb
    have lq : qs.length ≤ rs.length := by rw [a3.length, List.length_take]; omega
    have sb := K1.Same.upd (H := H') (p := b) (o := .tup [.str rs[i].1, .str rs[i].2]) hb
    refine ⟨qs.map V.ref, by rw [upd_ne bl.symm]; exact a2, by rw [List.length_map]; exact small1000 (by omega), ?_, qs ++ [b], by rw [upd_same, List.map_append]; rfl, ?_, fun z hz => ?_⟩
    · intro c o n
      rw [upd_ne (ne_of_none n hl2)]
      exact sb _ _ (a1 _ _ n)
    · have up2 : ∀ z o, z ≠ l2 → upd H' b (.tup [.str rs[i].1, .str rs[i].2]) z = some o → upd (upd H' b (.tup [.str rs[i].1, .str rs[i].2])) l2 (.lst (qs.map V.ref ++ [.ref b])) z = some o := fun z o n e => by rw [upd_ne n]; exact e
      rw [List.take_add_one, List.getElem?_eq_getElem hi]
      have pz : ∀ {as : List Addr} {bs : List (Str × Str)}, Paired (TupP H') as bs → (∀ z ∈ as, z ≠ l2) → Paired (TupP (upd (upd H' b (.tup [.str rs[i].1, .str rs[i].2])) l2 (.lst (qs.map V.ref ++ [.ref b])))) (as ++ [b]) (bs ++ [rs[i]]) := by
        intro as bs h
        induction h with
        | nil => intro _; exact .cons (up2 _ _ bl upd_same) .nil
        | cons f1 f2 ih =>
          intro nz
          exact .cons (up2 _ _ (nz _ (List.mem_cons_self ..)) (sb _ _ f1)) (ih fun z hz => nz z (List.mem_cons_of_mem _ hz))
      exact pz a3 fun z hz => (a4 z hz).2
    · rcases List.mem_append.mp hz with hz | hz
      · exact a4 z hz
      · rw [List.mem_singleton.mp hz]
        exact ⟨a1.free hb, bl⟩
  rintro H5 ⟨e5, qs, a2, a3, a4⟩
  rw [lvs, List.take_length] at a3
  have x5 := e5 _ _ x4
  refine ⟨_, rfl, x, C, dx, _, rfl, x5, T.cl, T.n2, (Nat.lt_of_le_of_lt (length_putF _ _ _) (by decide)), ?_⟩
  have k5 : Kept x H (upd H5 x (.ins C dx (putF "_roads" (.ref l2) (putF "_houses" (.ref l1) [])))) := (k04.trans (Kept.same e5)).trans Kept.upd
  have up5 : ∀ z o, z ≠ x → H5 z = some o → upd H5 x (.ins C dx (putF "_roads" (.ref l2) (putF "_houses" (.ref l1) []))) z = some o := fun z o n e => by rw [upd_ne n]; exact e
  have g1 := up5 _ _ n1 (e5 _ _ f1)
  have g2 := up5 _ _ n2 a2
  have nq : ∀ z ∈ qs, z ≠ x := fun z hz e => by rw [e] at hz; rw [(a4 x hz).1] at x4; cases x4
  have pq : ∀ {Hz : Hp}, Kept x H5 Hz → Paired (TupP Hz) qs rs := fun {Hz} k => by
    have : ∀ {as : List Addr} {bs : List (Str × Str)}, Paired (TupP H5) as bs → (∀ z ∈ as, z ≠ x) → Paired (TupP Hz) as bs := by
      intro as bs h
      induction h with
      | nil => intro _; exact .nil
      | cons f1 f2 ih => intro nz; exact .cons (k _ _ (nz _ (List.mem_cons_self ..)) f1) (ih fun z hz => nz z (List.mem_cons_of_mem _ hz))
    exact this a3 nq
  have k56 : Kept x H5 (upd H5 x (.ins C dx (putF "_roads" (.ref l2) (putF "_houses" (.ref l1) [])))) := Kept.upd
  have x6 : upd H5 x (.ins C dx (putF "_roads" (.ref l2) (putF "_houses" (.ref l1) []))) x = some (.ins C dx (putF "_roads" (.ref l2) (putF "_houses" (.ref l1) []))) := upd_same
  generalize upd H5 x (.ins C dx (putF "_roads" (.ref l2) (putF "_houses" (.ref l1) []))) = H6 at k5 g1 g2 k56 x6 ⊢
  clear up5
  -- list(heads)
  obtain ⟨p3, rfl, q3⟩ := (sg.kept hx k5).sq (K := K)
  refine ⟨_, rfl, p3, _, rfl, q3, fun l3 hl3 => ?_⟩
  have n3 : l3 ≠ x := fun z => by rw [z, x6] at hl3; cases hl3
  refine ⟨_, rfl, x, C, dx, _, rfl, (by rw [upd_ne n3.symm]; exact x6), T.cl, T.n3, (Nat.lt_of_le_of_lt (Nat.le_trans (length_putF _ _ _) (Nat.succ_le_succ (length_putF _ _ _))) (by decide)), ?_⟩
  have k67 : Kept x H6 (upd (upd H6 l3 (.lst (ns.map V.int))) x (.ins C dx (putF "_heads" (.ref l3) (putF "_roads" (.ref l2) (putF "_houses" (.ref l1) []))))) := (Kept.new hl3).trans Kept.upd
  have g3 : upd (upd H6 l3 (.lst (ns.map V.int))) x (.ins C dx (putF "_heads" (.ref l3) (putF "_roads" (.ref l2) (putF "_houses" (.ref l1) [])))) l3 = some (.lst (ns.map V.int)) := by rw [upd_ne n3, upd_same]
  have x7 : upd (upd H6 l3 (.lst (ns.map V.int))) x (.ins C dx (putF "_heads" (.ref l3) (putF "_roads" (.ref l2) (putF "_houses" (.ref l1) [])))) x = some (.ins C dx (putF "_heads" (.ref l3) (putF "_roads" (.ref l2) (putF "_houses" (.ref l1) [])))) := upd_same
  have l3H : H l3 = none := fr k5 hl3 n3
  generalize upd (upd H6 l3 (.lst (ns.map V.int))) x (.ins C dx (putF "_heads" (.ref l3) (putF "_roads" (.ref l2) (putF "_houses" (.ref l1) [])))) = H7 at k67 g3 x7 ⊢
  have k07 := k5.trans k67
  -- the people
  obtain ⟨p1', e1', q1'⟩ := sh.kept hx k07
  cases e1'
  obtain ⟨p3', e3'', q3'⟩ := sg.kept hx k07
  cases e3''
  have sq7 : SqA K H7 p1 (ss.map V.str) := q1'.imp (fun h => SqL.of h) (fun h => SqT.of h)
  refine ⟨p1, _, rfl, sq7, fun J G wk hG D hD => ?_⟩
  have nD : D ≠ x := fun z => by rw [z, x7] at hD; cases hD
  refine dc_it wk (fun i Hc => Same H7 Hc ∧ Hc D = some (.dK (peo (ss.take i) ns))) ⟨K1.Same.upd hD, upd_same⟩ (fun i Hc _ h => hG Hc fun o ho => h.1 _ _ ho) ?_ ?_
  · rintro i y Hc H' hi ⟨b1, b2⟩ ⟨Tp, x1, x2, rfl, hT, rfl, ex1, ex2⟩
    rw [List.length_map] at hi
    obtain rfl : x1 = .int (i : Nat) := (Option.some.inj ex1).symm
    have ex2 : (ss.map V.str)[i]? = some x2 := ex2
    rw [List.getElem?_map, List.getElem?_eq_getElem hi] at ex2
    obtain rfl : x2 = .str ss[i] := (Option.some.inj ex2).symm
    have hT2 := K1.Same.upd (H := Hc) (p := Tp) (o := .tup [.int (i : Nat), .str ss[i]]) hT
    refine ⟨Tp, _, rfl, SqT.of upd_same, rfl, _, _, rfl, _, _, rfl, rfl, rfl, ?_⟩
    unfold tYes
    refine iteT ?_
    have hi2 : i < ns.length := by omega
    have sv : SeqV (upd Hc Tp (.tup [.int (i : Nat), .str ss[i]])) (.ref p3) (ns.map V.int) := SeqV.ext (SeqV.ext ⟨p3, rfl, q3'⟩ b1) hT2
    refine ⟨_, rfl, _, rfl, _, rfl, ixA sv (atI_nat (j := i) (v := .int ns[i]) (by rw [List.getElem?_map, List.getElem?_eq_getElem hi2]; rfl)) ?_⟩
    have pl : (peo (ss.take i) ns).length ≤ 1000 := by
      unfold peo
      rw [List.length_map, List.length_zip, List.length_take]
      omega
    refine ⟨_, .inr ss[i], rfl, hT2 _ _ b2, small1000 pl, fun c o n => ?_, ?_⟩
    · rw [upd_ne (ne_of_none n hD)]
      exact hT2 _ _ (b1 _ _ n)
    · rw [upd_same, putK_new _ (peo_none fun z => nodup_take_not good.1 hi z), peo_succ hi hi2]
  rintro H8 ⟨e8, pe8⟩
  rw [List.length_map, List.take_length] at pe8
  have x8 := e8 _ _ x7
  refine ⟨_, rfl, x, C, dx, _, rfl, x8, T.cl, T.n4, (Nat.lt_of_le_of_lt (Nat.le_trans (length_putF _ _ _) (Nat.succ_le_succ (Nat.le_trans (length_putF _ _ _) (Nat.succ_le_succ (length_putF _ _ _))))) (by decide)), ?_⟩
  have k79 : Kept x H7 (upd H8 x (.ins C dx (putF "_people" (.ref D) (putF "_heads" (.ref l3) (putF "_roads" (.ref l2) (putF "_houses" (.ref l1) [])))))) := (Kept.same e8).trans Kept.upd
  have x9 : upd H8 x (.ins C dx (putF "_people" (.ref D) (putF "_heads" (.ref l3) (putF "_roads" (.ref l2) (putF "_houses" (.ref l1) []))))) x = some (.ins C dx (putF "_people" (.ref D) (putF "_heads" (.ref l3) (putF "_roads" (.ref l2) (putF "_houses" (.ref l1) []))))) := upd_same
  have pe9 : upd H8 x (.ins C dx (putF "_people" (.ref D) (putF "_heads" (.ref l3) (putF "_roads" (.ref l2) (putF "_houses" (.ref l1) []))))) D = some (.dK (peo ss ns)) := by rw [upd_ne nD]; exact pe8
  generalize upd H8 x (.ins C dx (putF "_people" (.ref D) (putF "_heads" (.ref l3) (putF "_roads" (.ref l2) (putF "_houses" (.ref l1) []))))) = H9 at k79 x9 pe9 ⊢
  have k69 := k67.trans k79
  have k59 := k56.trans k69
  have o2 := k69 _ _ n2 g2
  have p9 := pq k59
  have lk2 : (putF "_people" (V.ref D) (putF "_heads" (.ref l3) (putF "_roads" (.ref l2) (putF "_houses" (.ref l1) [])))).lookup ("_roads" : Str) = some (.ref l2) := by
    rw [lookup_putF, if_neg (by decide +kernel), lookup_putF, if_neg (by decide +kernel), lookup_putF, if_pos rfl]
  refine ⟨_, rfl, x, C, dx, _, _, rfl, x9, T.cl, T.n2, lk2, l2, qs, rs, rfl, o2, p9, forest, by omega, fun r1 kv1 H10 e10 nr1 hr1' pl1 ll1 => ?_⟩
  have x10 := e10 _ _ x9
  refine ⟨_, rfl, x, C, dx, _, rfl, x10, T.cl, T.n5, (Nat.lt_of_le_of_lt (Nat.le_trans (length_putF _ _ _) (Nat.succ_le_succ (Nat.le_trans (length_putF _ _ _) (Nat.succ_le_succ (Nat.le_trans (length_putF _ _ _) (Nat.succ_le_succ (length_putF _ _ _))))))) (by decide)), ?_⟩
  have k911 : Kept x H9 (upd H10 x (.ins C dx (putF "_places" (.ref r1) (putF "_people" (.ref D) (putF "_heads" (.ref l3) (putF "_roads" (.ref l2) (putF "_houses" (.ref l1) []))))))) := (Kept.same e10).trans Kept.upd
  have x11 : upd H10 x (.ins C dx (putF "_places" (.ref r1) (putF "_people" (.ref D) (putF "_heads" (.ref l3) (putF "_roads" (.ref l2) (putF "_houses" (.ref l1) [])))))) x = some (.ins C dx (putF "_places" (.ref r1) (putF "_people" (.ref D) (putF "_heads" (.ref l3) (putF "_roads" (.ref l2) (putF "_houses" (.ref l1) [])))))) := upd_same
  have pl11 : upd H10 x (.ins C dx (putF "_places" (.ref r1) (putF "_people" (.ref D) (putF "_heads" (.ref l3) (putF "_roads" (.ref l2) (putF "_houses" (.ref l1) [])))))) r1 = some (.dT kv1) := by rw [upd_ne fun z => by rw [z, x9] at nr1; cases nr1]; exact hr1'
  generalize upd H10 x (.ins C dx (putF "_places" (.ref r1) (putF "_people" (.ref D) (putF "_heads" (.ref l3) (putF "_roads" (.ref l2) (putF "_houses" (.ref l1) [])))))) = H11 at k911 x11 pl11 ⊢
  have k6_11 := k69.trans k911
  have k5_11 := k56.trans k6_11
  have lk1 : (putF "_places" (V.ref r1) (putF "_people" (V.ref D) (putF "_heads" (.ref l3) (putF "_roads" (.ref l2) (putF "_houses" (.ref l1) []))))).lookup ("_houses" : Str) = some (.ref l1) := by
    rw [lookup_putF, if_neg (by decide +kernel), lookup_putF, if_neg (by decide +kernel), lookup_putF, if_neg (by decide +kernel), lookup_putF, if_neg (by decide +kernel), lookup_putF, if_pos rfl]
  have lk2' : (putF "_places" (V.ref r1) (putF "_people" (V.ref D) (putF "_heads" (.ref l3) (putF "_roads" (.ref l2) (putF "_houses" (.ref l1) []))))).lookup ("_roads" : Str) = some (.ref l2) := by
    rw [lookup_putF, if_neg (by decide +kernel)]
    exact lk2
  refine ⟨_, rfl, x, C, dx, _, _, rfl, x11, T.cl, T.n1, lk1, _, rfl, x, C, dx, _, _, rfl, x11, T.cl, T.n2, lk2', l1, l2, ss, qs, rs, rfl, k6_11 _ _ n1 g1, hl, good.1, k6_11 _ _ n2 g2, pq k5_11, ends, by omega, fun r2 kv2 H12 e12 nr2 hr2' ll2 nb2 => ?_⟩
  have x12 := e12 _ _ x11
  refine ⟨_, rfl, x, C, dx, _, rfl, x12, T.cl, T.n6, (Nat.lt_of_le_of_lt (Nat.le_trans (length_putF _ _ _) (Nat.succ_le_succ (Nat.le_trans (length_putF _ _ _) (Nat.succ_le_succ (Nat.le_trans (length_putF _ _ _) (Nat.succ_le_succ (Nat.le_trans (length_putF _ _ _) (Nat.succ_le_succ (length_putF _ _ _))))))))) (by decide)), ?_⟩
  have k11_13 : Kept x H11 (upd H12 x (.ins C dx (putF "_beside" (.ref r2) (putF "_places" (.ref r1) (putF "_people" (.ref D) (putF "_heads" (.ref l3) (putF "_roads" (.ref l2) (putF "_houses" (.ref l1) [])))))))) := (Kept.same e12).trans Kept.upd
  have k6_13 := k6_11.trans k11_13
  obtain ⟨bs, hbs⟩ := choose_at nb2
  have d1x : D ≠ x := nD
  have d2x : r1 ≠ x := fun z => by rw [z, x9] at nr1; cases nr1
  have d3x : r2 ≠ x := fun z => by rw [z, x11] at nr2; cases nr2
  have bsx : ∀ s ∈ ss, bs s ≠ x := fun s hs z => by
    have := (hbs s hs).2.1
    rw [z, x11] at this
    cases this
  have k0_11 : Kept x H H11 := k5.trans k6_11
  refine q _ l1 l2 l3 D r1 r2 qs bs (k5.trans k6_13) ⟨⟨dx, _, upd_same, ?_, ?_, ?_, ?_, ?_, ?_, fun m m1 m2 m3 m4 m5 m6 => ?_⟩, k6_13 _ _ n1 g1, k6_13 _ _ n2 g2, pq (k56.trans k6_13), (k79.trans (k911.trans k11_13)) _ _ n3 g3, ?_, ⟨kv1, ?_, pl1, ll1⟩, ⟨kv2, ?_, ll2, fun s hs => (hbs s hs).1⟩, fun s hs => ?_⟩
    ⟨l1H, fr k04 hl2 n2, l3H, fr k07 hD nD, fr (k5.trans k69) nr1 d2x, fr k0_11 nr2 d3x, fun z hz => fr k04 (a4 z hz).1 (nq z hz), fun s hs => fr k0_11 (hbs s hs).2.1 (bsx s hs)⟩
  · rw [lookup_putF, if_neg (by decide +kernel)]
    exact lk1
  · rw [lookup_putF, if_neg (by decide +kernel)]
    exact lk2'
  · rw [lookup_putF, if_neg (by decide +kernel), lookup_putF, if_neg (by decide +kernel), lookup_putF, if_neg (by decide +kernel), lookup_putF, if_pos rfl]
  · rw [lookup_putF, if_neg (by decide +kernel), lookup_putF, if_neg (by decide +kernel), lookup_putF, if_pos rfl]
  · rw [lookup_putF, if_neg (by decide +kernel), lookup_putF, if_pos rfl]
  · rw [lookup_putF, if_pos rfl]
  · rw [lookup_putF, if_neg m6, lookup_putF, if_neg m5, lookup_putF, if_neg m4, lookup_putF, if_neg m3, lookup_putF, if_neg m2, lookup_putF, if_neg m1]
    rfl
  · exact (k911.trans k11_13) _ _ d1x pe9
  · exact k11_13 _ _ d2x pl11
  · rw [upd_ne d3x]
    exact hr2'
  · rw [upd_ne (bsx s hs)]
    exact (hbs s hs).2.2
end
end K1
end
-- KFun
section
set_option Elab.async false
set_option linter.all false
set_option maxRecDepth 100000
set_option maxHeartbeats 4000000
/-! isinstance of a def -/
namespace K1F
open PySem
theorem slotGa : Slot "function" "__getattribute__" "object.__getattribute__" :=
  .of (owner := "object") (n := "__getattribute__") (by rw [typeLookup_type, builtinLookup_eq_fast]; kernel_rfl) (by decide +kernel) (by decide +kernel) (by decide +kernel)
    (by first | exact .inl (by decide +kernel) | exact .inr (by decide +kernel)) (by rw [isSubtype_type]; kernel_rfl)
theorem entryGa : entryFor table "object.__getattribute__" = some Builtin.«object.__getattribute__» := entryFor_of_tree (by kernel_rfl)
theorem lkClass : typeLookup (.type "function") "__class__" = pure (some (.builtin "object.__class__")) := by rw [typeLookup_type, builtinLookup_eq_fast]; kernel_rfl
theorem ownClass : isSubtype (.type "function") (.type (".".intercalate ("object.__class__".cutAt '.').dropLast)) = pure true := by
  rw [F.owner_object_class, isSubtype_type]; kernel_rfl
theorem argsGa (a b : Value) : argsOk "object.__getattribute__" ⟨[a, b], []⟩ := by
  unfold argsOk; kernel_rfl
section
variable {prog : Program} {w : World} {A : Around} {E : Value → Shared → Prop} {h : Heap} {g : Array GenState} {d : Drawn} {t : Nat} {os : OsState} {a : Addr} {o : Obj}
theorem fnGet {R : Result → Shared → Prop} (hx : h.get? a = some o) (hc : o.cls = .type "function") (hq : R (.ok (.ret (.type "function"))) ⟨h, g, d, t, os⟩) :
    codeAny (model prog w) A (.call (.builtin "getset_descriptor.__get__") ⟨[.builtin "object.__class__", .ref a, .type "function"], []⟩) R ⟨h, g, d, t, os⟩ := by
  have z1 : (⟨h, g, d, t, os⟩ : Shared).TypeIs (.ref a) "function" := ⟨_, hx, hc⟩
  have z2 : (⟨h, g, d, t, os⟩ : Shared).TypeIs (.builtin "object.__class__") "getset_descriptor" := F.typeOf_object_class
  have z3 := ownClass
  refine codeAny_call_builtin F.slot_gs_get.plain F.entry_gs_get (F.slot_gs_get.check _ _ _ _ _ _ _ _ z2 (F.args_gs_get _ _ _) ?_)
  repeat (any_goals (first | assumption | wp_step))
  refine ⟨Code.quiet_builtin _ (by decide +kernel), codeAny_builtin F.entry_object_class ?_⟩
  repeat (any_goals (first | assumption | wp_step))
theorem fnEntry {tk : Tok} {Q : Fin → Shared → Prop} (hx : h.get? a = some o) (hc : o.cls = .type "function") (hq : Q (.done (.ret (.type "function"))) ⟨h, g, d, t, os⟩) :
    wpAny (model prog w) A (Builtin.«object.__getattribute__» ⟨[.ref a, .str "__class__" tk], []⟩) Q E ⟨h, g, d, t, os⟩ := by
  have z1 : (⟨h, g, d, t, os⟩ : Shared).TypeIs (.ref a) "function" := ⟨_, hx, hc⟩
  have z2 : (⟨h, g, d, t, os⟩ : Shared).TypeIs (.builtin "object.__class__") "getset_descriptor" := F.typeOf_object_class
  have z3 := lkClass
  have z4 := F.typeOf_object_class
  have z5 := F.slot_gs_get.lookup
  have z6 := F.slot_gs_set.lookup
  repeat (any_goals (first | assumption | wp_step))
  refine fnGet hx hc ?_
  repeat (any_goals (first | assumption | wp_step))
theorem fnCall {tk : Tok} {R : Result → Shared → Prop} (hx : h.get? a = some o) (hc : o.cls = .type "function") (hq : R (.ok (.ret (.type "function"))) ⟨h, g, d, t, os⟩) :
    codeAny (model prog w) A (.call (.builtin "object.__getattribute__") ⟨[.ref a, .str "__class__" tk], []⟩) R ⟨h, g, d, t, os⟩ :=
  codeAny_call_builtin slotGa.plain entryGa (slotGa.check _ _ _ _ _ _ _ _ (show (⟨h, g, d, t, os⟩ : Shared).TypeIs (.ref a) "function" from ⟨_, hx, hc⟩) (argsGa _ _) (fnEntry hx hc hq))
theorem fnBy {tk : Tok} {Q : Value → Shared → Prop} (hx : h.get? a = some o) (hc : o.cls = .type "function") (hq : Q (.type "function") ⟨h, g, d, t, os⟩) : wpAny (model prog w) A (getAttrBy (.ref a) (.str "__class__" tk) false) Q E ⟨h, g, d, t, os⟩ := by
  have z1 : (⟨h, g, d, t, os⟩ : Shared).TypeIs (.ref a) "function" := ⟨_, hx, hc⟩
  have z2 := slotGa.lookup
  have z3 := slotGa.bind (.ref a)
  repeat (any_goals (first | assumption | wp_step))
  refine fnCall hx hc ?_
  repeat (any_goals (first | assumption | wp_step))
theorem fnAttr {Q : Option Value → Shared → Prop} (hx : h.get? a = some o) (hc : o.cls = .type "function") (hq : Q (some (.type "function")) ⟨h, g, d, t + 1, os⟩) : wpAny (model prog w) A (getAttr? (.ref a) "__class__") Q E ⟨h, g, d, t, os⟩ := by
  unfold getAttr? getAttrBy?
  repeat (any_goals (first | assumption | with_reducible apply fnBy hx hc | wp_step))
end
theorem kitFn {K : PySem.W.Frag} {a : Addr} : PySem.W.KitX K (.ref a) (.type "function") (PySem.W.KitAt a "function") :=
  PySem.W.kitx_of PySem.W.kitAt_ty (fun {_ _ _ _ _ s} p k => by obtain ⟨h, g, d, t, os⟩ := s; obtain ⟨o, h1, h2⟩ := p; exact fnAttr h1 h2 k)
end K1F
end
-- KOwn
section
set_option Elab.async false
set_option linter.all false
set_option maxRecDepth 100000
set_option maxHeartbeats 4000000
/-! == and != by an own __eq__, whatever it says and whatever stands on the right; isinstance of a def -/
namespace K1
open PySem PySem.Spec PyProof.Rows L2
/-- as TyX, defs too -/
def TyF (K : PySem.W.Frag) (H : Hp) (x : V) (t : Value) : Prop := TyX K H x t ∨ ∃ f o, x = .ref f ∧ K.lookup f = some o ∧ o.cls = .type "function" ∧ t = .type "function"
section
variable {X : Cx} {pins : List (Addr × Obj)} {σ : L2.St} {H : Hp} {s : Shared}
theorem kit_ofF {x : V} {u t : Value} (I : Inv X pins σ H s) (rx : RelV x u) (ty : TyF X.K H x t) : ∃ P : Heap → Prop, PySem.W.KitX X.K u t P ∧ P s.heap ∧ u ≠ .builtin "__main__.__loader__#opaque" := by
  rcases ty with ty | ⟨f, o, rfl, hl, hc, rfl⟩
  · exact kit_of I rx ty
  · cases (show u = Value.ref f from rx)
    exact ⟨_, K1F.kitFn, ⟨o, I.kIn _ _ hl, hc⟩, fun z => nomatch z⟩
def rIsiF (K : PySem.W.Frag) : List V → Hp → VK → Prop := fun xs H Q => ∃ (x c : V) (t u : Value) (b : Bool), xs = [x, c] ∧ ClsV c u ∧ TyF K H x t ∧ PySem.W.kitOne K t u = some b ∧ Q (.bl b) H
theorem call_isiF : CallR X (.builtin "isinstance") (rIsiF X.K) := by
  intro pins s σ H xs us Q I r h
  obtain ⟨x, c, t, u, b, rfl, k, ty, e, q⟩ := h
  obtain ⟨u1, u2, rfl, r1, r2⟩ := vals2 r
  obtain rfl := ClsV.eq k r2
  obtain ⟨P, Z, p, hx⟩ := kit_ofF I r1 ty
  exact PySem.W.kia_one Z I.kIn p e hx fun tk => ⟨.bl b, H, I.tok tk, rfl, q⟩
/-- the own __eq__, called -/
theorem callOwn {CX : CXT} {f a : Addr} {fd : FuncData} {ps : List Str} {sp : Sp} {E : XK} {n : Nat} {A : Around} {y : V} {u : Value} {R : Bool → Hp → Prop} (F : FnOk X.prog X.w X.K X.mg X.base CX n f fd ps sp) (hb : L2.Binds X.K fd ps []) (hx : Passes CX X E)
    (hr : Room n A) (hfr : A.frames = X.A.frames) (I : Inv X pins σ H s) (ry : RelV y u) (hsp : sp [.ref a, y] H (fun v H' => ∃ b, v = .bl b ∧ R b H') E) :
    wpAny (model X.prog X.w) A (call (.ref f) [.ref a, u]) (fun r s' => ∃ b H', r = .bool b ∧ Inv X pins σ H' s' ∧ R b H') X.xe s := by
  have e0 : Env0 X.prog X.w X.K X.mg X.base A X.stack s H := by
    have e := I.env0
    exact ⟨by rw [hfr]; exact e.frames, e.mod, e.bs, e.bsz, e.funs, e.frf, e.hok, e.bare⟩
  have hl := F.len _ _ _ _ hsp
  have r2 : Vals [V.ref a, y] [Value.ref a, u] := .cons rfl (.cons ry .nil)
  refine wpAny_call (codeAny_mono (F.run A X.stack s H ⟨[.ref a, u], []⟩ [.ref a, u] [.ref a, y] _ E hr e0 (by
    have := hb s [.ref a, u] I.kIn (by simpa using hl)
    simpa using this) r2 hsp) fun r s' hq => ?_)
  cases r with
  | error e => exact hx pins σ H s e s' I hq
  | ok fl =>
    cases fl with
    | ret w =>
      obtain ⟨z, H', I', rz, b, ez, q⟩ := I.after hq
      subst ez
      cases rz
      exact ⟨b, H', rfl, I', q⟩
    | next => exact False.elim hq
    | brk => exact False.elim hq
    | cont => exact False.elim hq
def rOwn (K : PySem.W.Frag) (C : Addr) (sp : Sp) (E : XK) (g : Bool → Bool) : R2 := fun x y H Q => ∃ a dx fs t, x = .ref a ∧ H a = some (.ins C dx fs) ∧ TyF K H y t ∧ PySem.W.notFirst K C t = true ∧ sp [x, y] H (fun v H' => ∃ b, v = .bl b ∧ Q (.bl (g b)) H') E
theorem op_eqOwn {CX : CXT} {C f : Addr} {fd : FuncData} {ps : List Str} {sp : Sp} {E : XK} {n : Nat} (F : FnOk X.prog X.w X.K X.mg X.base CX n f fd ps sp)
    (hs : PySem.W.findIn X.K (.ref C) "__eq__" = some (some (.ref f))) (hf : PySem.W.isFn X.K (.ref f) = true) (hb : L2.Binds X.K fd ps []) (hx : Passes CX X E) (hr : Room n X.A) : OpR X (compareOp .Eq) (rOwn X.K C sp E id) := by
  intro pins s σ H x y v u Q I rx ry hq
  obtain ⟨a, dx, fs, t, rfl, ha, ty, nf, hsp⟩ := hq
  cases rx
  obtain ⟨mA, J, _⟩ := ins_get I.hok ha
  obtain ⟨od, J, _⟩ := J.look
  obtain ⟨P, Z, p, _⟩ := kit_ofF I ry ty
  obtain ⟨m, hF⟩ := I.fr
  show wpAny (model X.prog X.w) X.A (richCompare .Eq (.ref a) u) (EP X pins σ Q) X.xe s
  refine PySem.W.cmp_K (op := .Eq) (tb := t) hr.units0 hF I.ok.mod.kin J (Z.ty _ _ I.kIn p) nf hs hf ?_
  refine wpAny_mono (callOwn (R := fun b H' => Q (.bl b) H') F hb hx hr rfl I ry hsp) (fun r s' q => ?_) fun _ _ z => z
  obtain ⟨b, H', rfl, I', q⟩ := q
  exact ⟨.bl b, H', I', rfl, q⟩
theorem op_neOwn {CX : CXT} {C f : Addr} {fd : FuncData} {ps : List Str} {sp : Sp} {E : XK} {n : Nat} (F : FnOk X.prog X.w X.K X.mg X.base CX n f fd ps sp)
    (hs : PySem.W.findIn X.K (.ref C) "__eq__" = some (some (.ref f))) (hn : PySem.W.findIn X.K (.ref C) "__ne__" = some (some (.builtin "object.__ne__"))) (hob : PySem.W.mroIn X.K C (.type "object") = some true)
    (hf : PySem.W.isFn X.K (.ref f) = true) (hb : L2.Binds X.K fd ps []) (hx : Passes CX X E) (hr : Room (n + 1) X.A) : OpR X (compareOp .NotEq) (rOwn X.K C sp E not) := by
  intro pins s σ H x y v u Q I rx ry hq
  obtain ⟨a, dx, fs, t, rfl, ha, ty, nf, hsp⟩ := hq
  cases rx
  obtain ⟨mA, J, _⟩ := ins_get I.hok ha
  obtain ⟨od, J, _⟩ := J.look
  obtain ⟨P, Z, p, _⟩ := kit_ofF I ry ty
  have hy := Z.ty (model X.prog X.w) _ I.kIn p
  have sp1 : PySem.W.Looks (model X.prog X.w) s.heap (specialOf (.ref a) "__ne__") (some (.builtin "object.__ne__")) := J.type.andThen (PySem.W.looks_findIn I.kIn hn)
  have inst : PySem.W.Looks (model X.prog X.w) s.heap (isInstance (.ref a) (.type "object")) true := J.type.andThen (PySem.W.looks_mroIn I.kIn hob)
  have one : wpAny (model X.prog X.w) X.A (tryCompare (.ref a) "__ne__" u) (fun r s' => ∃ b H', r = some (.bool (!b)) ∧ Inv X pins σ H' s' ∧ Q (.bl (!b)) H') X.xe s := by
    unfold tryCompare
    refine wpAny_bind (NtL.csib sp1 (PySem.F.cmp_object.ne.bind _) ?_)
    refine wpAny_call (codeAny_call_builtin PySem.F.cmp_object.ne.plain PySem.F.cmpEntry_ne (@PySem.W.check_slot (model X.prog X.w) _ _ _ "object.__ne__" "object" "__ne__" (.ref a) [u] [] _ PySem.F.cmpKind_ne PySem.F.cmpSplit_ne inst (PySem.F.cmpArgs_ne _ _) ?_))
    unfold Builtin.«object.__ne__»
    have hr1 : Room n X.A.in1 := hr.in1
    show wpAny (model X.prog X.w) X.A.in1 (do
      cRoomFor "comparison" [.ref a, u]
      match ← callSpecialIfBound? (.ref a) "__eq__" [u] with
      | some .notImplemented | none => ret .notImplemented
      | some r => ret (.bool (!(← truthy r)))) _ _ s
    refine wpAny_bind (wpAny_cRoomFor hr1.units0 ?_)
    refine wpAny_bind (PySem.W.ifBound_K I.kIn J hs hf (wpAny_mono (callOwn (R := fun b H' => Q (.bl (!b)) H') F hb hx hr1 rfl I ry hsp) (fun r s' q => ?_) fun _ _ z => z))
    obtain ⟨b, H', rfl, I', q⟩ := q
    cases b
    · exact wpAny_pure (wpAny_pure ⟨false, H', rfl, I', q⟩)
    · exact wpAny_pure (wpAny_pure ⟨true, H', rfl, I', q⟩)
  show wpAny (model X.prog X.w) X.A (richCompare .NotEq (.ref a) u) (EP X pins σ Q) X.xe s
  unfold richCompare
  simp only [oneThing_ref]
  refine wpAny_holding (wpAny_bind (wpAny_cRoomFor hr.units0 ?_))
  refine wpAny_bind (J.type.here (wpAny_bind (hy.here ?_)))
  split
  · rename_i q
    have e : PySem.W.subIn X.K t (.ref C) = some false := by
      rcases Bool.or_eq_true_iff.mp nf with e | e
      · rw [beq_iff_eq.mp e] at q; simp at q
      · exact beq_iff_eq.mp e
    refine wpAny_bind ((PySem.W.looks_subIn I.kIn e).here ?_)
    simp only [Bool.false_eq_true, if_false]
    refine wpAny_bind (wpAny_mono one (fun r s' z => ?_) fun _ _ e => e)
    obtain ⟨b, H', rfl, I', hq⟩ := z
    exact wpAny_pure ⟨.bl _, H', I', rfl, hq⟩
  · refine wpAny_bind (wpAny_pure ?_)
    simp only [Bool.false_eq_true, if_false]
    refine wpAny_bind (wpAny_mono one (fun r s' z => ?_) fun _ _ e => e)
    obtain ⟨b, H', rfl, I', hq⟩ := z
    exact wpAny_pure ⟨.bl _, H', I', rfl, hq⟩
end
end K1
end
-- KEq
section
set_option Elab.async false
set_option linter.all false
set_option maxRecDepth 100000
set_option maxHeartbeats 4000000
namespace K1
open PySem PySem.Spec PyProof.Rows L2
abbrev sVE : Stmt := inClass (top 21) 1
abbrev sVH : Stmt := inClass (top 21) 2
abbrev sVR : Stmt := inClass (top 21) 3
abbrev sVD : Stmt := inClass (top 21) 4
def dN (ss : List Str) : PyData := .list (ss.map PyData.str)
def dR (rs : List (Str × Str)) : PyData := .list (rs.map fun r => .tuple [.str r.1, .str r.2])
def dI (ns : List Int) : PyData := .list (ns.map PyData.int)
theorem eqvAll_map {α : Type} [DecidableEq α] {f : α → PyData} (h : ∀ a b, PyData.eqv (f a) (f b) = decide (a = b)) : ∀ xs ys : List α, PyData.eqvAll (xs.map f) (ys.map f) = decide (xs = ys)
  | [], [] => rfl
  | [], _ :: _ => rfl
  | _ :: _, [] => rfl
  | x :: xs, y :: ys => by
    show (PyData.eqv (f x) (f y) && PyData.eqvAll (xs.map f) (ys.map f)) = _
    rw [h, eqvAll_map h xs ys, ← Bool.decide_and]
    exact decide_eq_decide.mpr (by rw [List.cons.injEq])
theorem eqv_str (a b : Str) : PyData.eqv (.str a) (.str b) = decide (a = b) := by
  show (a == b) = _
  by_cases e : a = b
  · rw [decide_eq_true e, e]; exact beq_self_eq_true b
  · rw [decide_eq_false e]; exact beq_eq_false_iff_ne.mpr e
theorem eqv_int (a b : Int) : PyData.eqv (.int a) (.int b) = decide (a = b) := by
  show (a == b) = _
  by_cases e : a = b
  · rw [decide_eq_true e, e]; exact beq_self_eq_true b
  · rw [decide_eq_false e]; exact beq_eq_false_iff_ne.mpr e
theorem eqv_pair (a b : Str × Str) : PyData.eqv (.tuple [.str a.1, .str a.2]) (.tuple [.str b.1, .str b.2]) = decide (a = b) := by
  show (PyData.eqv (.str a.1) (.str b.1) && (PyData.eqv (.str a.2) (.str b.2) && true)) = _
  rw [eqv_str, eqv_str, Bool.and_true, ← Bool.decide_and]
  exact decide_eq_decide.mpr (by rw [Prod.ext_iff])
theorem eqv_dN (a b : List Str) : PyData.eqv (dN a) (dN b) = decide (a = b) := eqvAll_map eqv_str a b
theorem eqv_dR (a b : List (Str × Str)) : PyData.eqv (dR a) (dR b) = decide (a = b) := eqvAll_map eqv_pair a b
theorem eqv_dI (a b : List Int) : PyData.eqv (dI a) (dI b) = decide (a = b) := eqvAll_map eqv_int a b
theorem strOk_of {s : Str} (h : nameOk s = true) : PyData.strOk s = true := by
  unfold nameOk at h
  have h2 := (Bool.and_eq_true_iff.mp (Bool.and_eq_true_iff.mp (Bool.and_eq_true_iff.mp h).2).2).2
  unfold PyData.strOk
  rw [← Array.all_toList]
  rw [List.all_eq_true] at h2 ⊢
  intro c hc
  have q := h2 c hc
  unfold okSign at q
  have l1 : ∀ c ∈ letters.cps.toList, c < 0x110000 := by decide +kernel
  have l2 : ∀ c ∈ figures.cps.toList, c < 0x110000 := by decide +kernel
  rcases Bool.or_eq_true_iff.mp q with q | q
  · exact decide_eq_true (l1 c (of_decide_eq_true q))
  · exact decide_eq_true (l2 c (of_decide_eq_true q))
theorem lay_map {α : Type} {f : α → PyData} : ∀ {xs : List α}, (∀ x ∈ xs, (f x).canLay0 = true) → PyData.canLayAll0 (xs.map f) = true
  | [], _ => rfl
  | x :: xs, h => by
    show ((f x).canLay0 && PyData.canLayAll0 (xs.map f)) = true
    rw [h x (List.mem_cons_self ..), lay_map fun y hy => h y (List.mem_cons_of_mem _ hy)]
    rfl
theorem dep_map {α : Type} {f : α → PyData} {n : Nat} : ∀ {xs : List α}, (∀ x ∈ xs, (f x).depth ≤ n) → PyData.depthAll (xs.map f) ≤ n
  | [], _ => Nat.zero_le _
  | x :: xs, h => by
    show max (f x).depth (PyData.depthAll (xs.map f)) ≤ n
    exact Nat.max_le.mpr ⟨h x (List.mem_cons_self ..), dep_map fun y hy => h y (List.mem_cons_of_mem _ hy)⟩
theorem shaped_list {α : Type} {f : α → PyData} {xs : List α} (h1 : ∀ x ∈ xs, (f x).canLay0 = true) (h2 : ∀ x ∈ xs, (f x).depth ≤ 5) : SeqAt.shaped (.list (xs.map f)) = true := by
  show (PyData.canLayAll0 (xs.map f) && decide (PyData.depthAll (xs.map f) + 1 ≤ 64)) = true
  have := dep_map h2
  rw [lay_map h1, decide_eq_true (by omega)]
  rfl
theorem shaped_dN {ss : List Str} (h : ∀ s ∈ ss, nameOk s = true) : SeqAt.shaped (dN ss) = true := shaped_list (fun s hs => strOk_of (h s hs)) (fun _ _ => by show 0 ≤ 5; decide)
theorem shaped_dI (ns : List Int) : SeqAt.shaped (dI ns) = true := shaped_list (fun _ _ => rfl) (fun _ _ => by show 0 ≤ 5; decide)
theorem shaped_dR {rs : List (Str × Str)} (h : ∀ r ∈ rs, nameOk r.1 = true ∧ nameOk r.2 = true) : SeqAt.shaped (dR rs) = true := shaped_list (fun r hr => by
  show (PyData.strOk r.1 && (PyData.strOk r.2 && true)) = true
  rw [strOk_of (h r hr).1, strOk_of (h r hr).2]
  rfl) (fun _ _ => by show max 0 (max 0 0) + 1 ≤ 5; decide)
theorem dpAll {α : Type} {K : PySem.W.Frag} {H : Hp} {f : α → V} {g : α → PyData} (h : ∀ x, Dp K H (f x) (g x)) : ∀ xs : List α, DpAll K H (xs.map f) (xs.map g)
  | [] => .nil
  | x :: xs => .cons (h x) (dpAll h xs)
theorem dp_dN {K : PySem.W.Frag} {H : Hp} {l : Addr} {ss : List Str} (h : H l = some (.lst (ss.map V.str))) : Dp K H (.ref l) (dN ss) := .lst (SqL.of h) (dpAll (fun s => .str s) ss)
theorem dp_dI {K : PySem.W.Frag} {H : Hp} {l : Addr} {ns : List Int} (h : H l = some (.lst (ns.map V.int))) : Dp K H (.ref l) (dI ns) := .lst (SqL.of h) (dpAll (fun s => .int s) ns)
theorem dp_dR {K : PySem.W.Frag} {H : Hp} {l : Addr} {qs : List Addr} {rs : List (Str × Str)} (h : H l = some (.lst (qs.map V.ref))) (p : Paired (TupP H) qs rs) : Dp K H (.ref l) (dR rs) := by
  refine .lst (SqL.of h) ?_
  clear h
  induction p with
  | nil => exact .nil
  | cons f1 f2 ih => exact .cons (.tup (SqT.of f1) (.cons (.str _) (.cons (.str _) .nil))) ih
/-- what the text says of Valley beyond its fields -/
structure VcE (K : PySem.W.Frag) (C : Addr) : Prop extends VcT K C where
  ha : PySem.W.findIn K (.ref C) "__class__" = some (some (.builtin "object.__class__"))
  hn : PySem.W.specialIn K (.builtin "object.__class__") "__get__" = some (some (.builtin "getset_descriptor.__get__"))
  htk : PySem.W.takesIn K (.builtin "object.__class__") = some true
  hm : PySem.W.mroIn K C (.type "object") = some true
  own : PySem.W.kitOne K (.ref C) (.ref C) = some true
  no : ∀ t ∈ kinds ++ ["function"], PySem.W.kitOne K (.type t) (.ref C) = some false
def GoodV (ss : List Str) (rs : List (Str × Str)) : Prop := (∀ s ∈ ss, nameOk s = true) ∧ EndsIn ss rs
theorem GoodV.roads {ss : List Str} {rs : List (Str × Str)} (g : GoodV ss rs) : ∀ r ∈ rs, nameOk r.1 = true ∧ nameOk r.2 = true := fun r hr => ⟨g.1 _ (g.2 r hr).1, g.1 _ (g.2 r hr).2⟩
def spVE (K : PySem.W.Frag) (C : Addr) : Sp := fun vs H Q _ => ∃ x l1 l2 l3 qs ss rs ns y, vs = [.ref x, y] ∧ ValI C H x l1 l2 l3 qs ss rs ns ∧ GoodV ss rs ∧
  ((∃ t, TyF K H y (.type t) ∧ t ∈ kinds ++ ["function"] ∧ Q (.bl false) H) ∨ (∃ z m1 m2 m3 qs' ss' rs' ns', y = .ref z ∧ ValI C H z m1 m2 m3 qs' ss' rs' ns' ∧ GoodV ss' rs' ∧ Q (.bl (decide (ss = ss' ∧ rs = rs' ∧ ns = ns'))) H))
theorem scVE : FnScope ["self", "other"] ["self", "other"] (defScope sVE) := ⟨rfl, rfl, rfl, by decide +kernel, rfl, by decide +kernel, by decide +kernel⟩
theorem scVH : FnScope ["self"] ["self"] (defScope sVH) := ⟨rfl, rfl, rfl, by decide +kernel, rfl, by decide +kernel, by decide +kernel⟩
theorem scVR : FnScope ["self"] ["self"] (defScope sVR) := ⟨rfl, rfl, rfl, by decide +kernel, rfl, by decide +kernel, by decide +kernel⟩
theorem scVD : FnScope ["self"] ["self"] (defScope sVD) := ⟨rfl, rfl, rfl, by decide +kernel, rfl, by decide +kernel, by decide +kernel⟩
def spVH (C : Addr) : Sp := fun vs H Q _ => ∃ x l1 l2 l3 qs ss rs ns, vs = [.ref x] ∧ ValI C H x l1 l2 l3 qs ss rs ns ∧ ∀ l, H l = none → Q (.ref l) (upd H l (.lst (ss.map V.str)))
def spVR (C : Addr) : Sp := fun vs H Q _ => ∃ x l1 l2 l3 qs ss rs ns, vs = [.ref x] ∧ ValI C H x l1 l2 l3 qs ss rs ns ∧ ∀ l, H l = none → Q (.ref l) (upd H l (.lst (qs.map V.ref)))
def spVD (C : Addr) : Sp := fun vs H Q _ => ∃ x l1 l2 l3 qs ss rs ns, vs = [.ref x] ∧ ValI C H x l1 l2 l3 qs ss rs ns ∧ ∀ l, H l = none → Q (.ref l) (upd H l (.lst (ns.map V.int)))
section
variable {P : Program} {w : World} {K : PySem.W.Frag} {mg : Str → Option Value} {base : Heap} {C : Addr}
theorem ok_VE {f : Addr} {fd : FuncData} (F : Fun K "__eq__" "Valley.__eq__" sVE f fd) (B : Bl mg) (T : VcE K C) (mV : mg "Valley" = some (.ref C)) : FnOk P w K mg base CX0 1 f fd ["self", "other"] (spVE K C) := by
  refine F.ok scVE (fun vs H Q E h => ?_) (fun cdv A outer s H vs Q E hr h => ?_)
  · obtain ⟨x, l1, l2, l3, qs, ss, rs, ns, y, rfl, _⟩ := h
    rfl
  obtain ⟨x, l1, l2, l3, qs, ss, rs, ns, y, rfl, vx, gx, h⟩ := h
  have hu := hr.units
  refine ⟨_, pss_cons (by exact (ps_if (pt_not (pt_val (pe_callB call_isiF rfl B.isi PyProof.Rows.boot_isinstance (pa_cons (pv 1) (pa_cons (pe_glob (v := .ref C) rfl mV rfl) pa_nil)))))
      (pss_one (ps_ret pe_bl)) pss_nil))
    (pss_one (by exact (ps_ret (pe_and (pe_cmpR (op_eqD hu) (pe_fld (pv 0) rfl) (pe_fld (pv 1) rfl) (nomark _)) (pe_and (pe_cmpR (op_eqD hu) (pe_fld (pv 0) rfl) (pe_fld (pv 1) rfl) (nomark _)) (pe_one (pe_cmpR (op_eqD hu) (pe_fld (pv 0) rfl) (pe_fld (pv 1) rfl) (nomark _)))))))), ?_⟩
  rcases h with ⟨t, ty, kt, q⟩ | ⟨z, m1, m2, m3, qs', ss', rs', ns', rfl, vz, gz, q⟩
  · exact ⟨_, rfl, y, _, _, _, _, rfl, .own C, ty, T.no t kt, _, rfl, iteT q⟩
  · obtain ⟨dz, fz, iz, z1, z2, z3, _⟩ := vz.ins
    obtain ⟨dx, fx, ix, x1, x2, x3, _⟩ := vx.ins
    refine ⟨_, rfl, .ref z, _, _, _, _, rfl, .own C, .inl (.base (.ins iz T.cl T.ha T.hn T.htk T.hm)), T.own, _, rfl, iteF ?_⟩
    refine ⟨_, rfl, x, C, dx, fx, _, rfl, ix, T.cl, T.n1, x1, _, rfl, z, C, dz, fz, _, rfl, iz, T.cl, T.n1, z1, dN ss, dN ss', dp_dN vx.h1, dp_dN vz.h1, shaped_dN gx.1, shaped_dN gz.1, _, rfl, ?_⟩
    rw [eqv_dN]
    by_cases e1 : ss = ss'
    · rw [decide_eq_true e1]
      refine iteT ⟨_, rfl, x, C, dx, fx, _, rfl, ix, T.cl, T.n2, x2, _, rfl, z, C, dz, fz, _, rfl, iz, T.cl, T.n2, z2, dR rs, dR rs', dp_dR vx.h2 vx.pr, dp_dR vz.h2 vz.pr, shaped_dR gx.roads, shaped_dR gz.roads, _, rfl, ?_⟩
      rw [eqv_dR]
      by_cases e2 : rs = rs'
      · rw [decide_eq_true e2]
        refine iteT ⟨_, rfl, x, C, dx, fx, _, rfl, ix, T.cl, T.n3, x3, _, rfl, z, C, dz, fz, _, rfl, iz, T.cl, T.n3, z3, dI ns, dI ns', dp_dI vx.h3, dp_dI vz.h3, shaped_dI ns, shaped_dI ns', ?_⟩
        rw [eqv_dI]
        have e : decide (ss = ss' ∧ rs = rs' ∧ ns = ns') = decide (ns = ns') := decide_eq_decide.mpr ⟨fun h => h.2.2, fun h => ⟨e1, e2, h⟩⟩
        rw [e] at q
        exact q
      · rw [decide_eq_false e2]
        rw [decide_eq_false (fun h => e2 h.2.1)] at q
        exact iteF q
    · rw [decide_eq_false e1]
      rw [decide_eq_false (fun h => e1 h.1)] at q
      exact iteF q
theorem ok_VH {f : Addr} {fd : FuncData} (F : Fun K "houses" "Valley.houses" sVH f fd) (B : Bl mg) (T : VcE K C) : FnOk P w K mg base CX0 1 f fd ["self"] (spVH C) := by
  refine F.ok scVH (fun vs H Q E h => ?_) (fun cdv A outer s H vs Q E hr h => ?_)
  · obtain ⟨x, l1, l2, l3, qs, ss, rs, ns, rfl, _⟩ := h
    rfl
  obtain ⟨x, l1, l2, l3, qs, ss, rs, ns, rfl, vx, q⟩ := h
  obtain ⟨dx, fx, ix, x1, x2, x3, _⟩ := vx.ins
  refine ⟨_, pss_one (by exact (ps_ret (pe_callTy call_list_of rfl B.list PyProof.Rows.boot_list (pa_cons (pe_fld (pv 0) rfl) pa_nil)))), ?_⟩
  exact ⟨_, rfl, x, C, dx, fx, _, rfl, ix, T.cl, T.n1, x1, l1, _, rfl, .inl (SqL.of vx.h1), q⟩
theorem ok_VR {f : Addr} {fd : FuncData} (F : Fun K "roads" "Valley.roads" sVR f fd) (B : Bl mg) (T : VcE K C) : FnOk P w K mg base CX0 1 f fd ["self"] (spVR C) := by
  refine F.ok scVR (fun vs H Q E h => ?_) (fun cdv A outer s H vs Q E hr h => ?_)
  · obtain ⟨x, l1, l2, l3, qs, ss, rs, ns, rfl, _⟩ := h
    rfl
  obtain ⟨x, l1, l2, l3, qs, ss, rs, ns, rfl, vx, q⟩ := h
  obtain ⟨dx, fx, ix, x1, x2, x3, _⟩ := vx.ins
  refine ⟨_, pss_one (by exact (ps_ret (pe_callTy call_list_of rfl B.list PyProof.Rows.boot_list (pa_cons (pe_fld (pv 0) rfl) pa_nil)))), ?_⟩
  exact ⟨_, rfl, x, C, dx, fx, _, rfl, ix, T.cl, T.n2, x2, l2, _, rfl, .inl (SqL.of vx.h2), q⟩
theorem ok_VD {f : Addr} {fd : FuncData} (F : Fun K "heads" "Valley.heads" sVD f fd) (B : Bl mg) (T : VcE K C) : FnOk P w K mg base CX0 1 f fd ["self"] (spVD C) := by
  refine F.ok scVD (fun vs H Q E h => ?_) (fun cdv A outer s H vs Q E hr h => ?_)
  · obtain ⟨x, l1, l2, l3, qs, ss, rs, ns, rfl, _⟩ := h
    rfl
  obtain ⟨x, l1, l2, l3, qs, ss, rs, ns, rfl, vx, q⟩ := h
  obtain ⟨dx, fx, ix, x1, x2, x3, _⟩ := vx.ins
  refine ⟨_, pss_one (by exact (ps_ret (pe_callTy call_list_of rfl B.list PyProof.Rows.boot_list (pa_cons (pe_fld (pv 0) rfl) pa_nil)))), ?_⟩
  exact ⟨_, rfl, x, C, dx, fx, _, rfl, ix, T.cl, T.n3, x3, l3, _, rfl, .inl (SqL.of vx.h3), q⟩
end
end K1
end
-- KMisc
section
set_option Elab.async false
set_option linter.all false
set_option maxRecDepth 100000
set_option maxHeartbeats 4000000
/-! d.update(d2) of keys that are ints or texts; (x, y)[::-1] -/
namespace K1
open PySem PySem.Spec PyProof.Rows L2

theorem KV_merge {kvs : List (Key × V)} {vs : List (Key × Value)} (r : KV kvs vs) : ∀ {ms : List (Key × V)} {ws : List (Key × Value)}, KV ms ws → KV (mergeK kvs ms) (merged vs ws) := by
  intro ms ws h
  induction h generalizing kvs vs with
  | nil => exact r
  | @cons x y l1 l2 f1 f2 ih =>
    obtain ⟨e1, e2⟩ := f1
    refine ih ?_
    have q := KV.put r x.1 e2
    show KV (putK kvs x.1 x.2) (stored vs y.1 y.2)
    rw [← e1]
    exact q
theorem mergeK_len (kvs ms : List (Key × V)) : (mergeK kvs ms).length ≤ kvs.length + ms.length := by
  induction ms generalizing kvs with
  | nil => exact Nat.le_refl _
  | cons m r ih =>
    have := ih (putK kvs m.1 m.2)
    have h2 := length_putK kvs m.1 m.2
    show (mergeK (putK kvs m.1 m.2) r).length ≤ _
    rw [List.length_cons]
    omega
def rUpdK : V → List V → Hp → VK → Prop := fun x xs H Q => ∃ (a b : Addr) (kvs ms : List (Key × V)), x = .ref a ∧ xs = [.ref b] ∧ a ≠ b ∧ H a = some (.dK kvs) ∧ H b = some (.dK ms) ∧ kvs.length + ms.length ≤ 100000 ∧ Q .non (upd H a (.dK (mergeK kvs ms)))
theorem mt_updK {X : Cx} : MtR X "dict.update" rUpdK := by
  intro pins s σ H x xs v us Q I rx r h
  obtain ⟨a, b, kvs, ms, rfl, rfl, ne, ha, hb, hl, q⟩ := h
  obtain ⟨u1, rfl, r1⟩ := vals1 r
  cases rx
  cases r1
  obtain ⟨z1, s1, vs, rel, d1⟩ := dk_of I.hok ha
  obtain ⟨z2, s2, ws, rel2, d2⟩ := dk_of I.hok hb
  have l1 : vs.length = kvs.length := rel.length.symm
  have l2 : ws.length = ms.length := rel2.length.symm
  refine call_meetsIn PySem.F.slot_dict_update d1.typeIs PySem.F.entry_dict_update (PySem.F.args_dict_update_2 _ _) (meets_dict_update (mixKind X.prog X.w) a b ne s2) ⟨vs, ws, d1, d2, by rw [l1, l2]; exact Nat.le_trans hl (by decide), fun h' e1 e2 sb => ?_⟩
  have he : ∃ o, h'.get? a = some o := let ⟨o, _, _, ho, _⟩ := e1; ⟨o, ho⟩
  have hln : (mergeK kvs ms).length ≤ sizeLine := Nat.le_trans (mergeK_len kvs ms) (Nat.le_trans hl (by decide))
  exact ⟨.non, _, d_write I (by rw [ha]; exact True.intro) sb he (dk_new hln s1 (KV_merge rel rel2) e1), rfl, q⟩
end K1
namespace K1S
open PySem PySem.Spec PyProof.Rows L2 HT
section
variable {prog : Program} {w : World} {A : Around} {E : Value → Shared → Prop} {s : Shared}
theorem backApplied {sl : Addr} {vl vu vs : Value} {Q : Int × Int × Nat → Shared → Prop} (hs : s.heap.IsSliceOf sl vl vu vs) (pl : IsPart vl none) (pu : IsPart vu none) (ps : IsPart vs (some (-1)))
    (h : Q (1, -1, 2) s) : wpAny (model prog w) A (Builtin.Slice.sliceApplied (.ref sl) (pure ((2 : Nat) : Int))) Q E s := by
  obtain ⟨os, hos, hcs, hds⟩ := id hs
  unfold Builtin.Slice.sliceApplied Builtin.Slice.sliceFields
  refine wpAny_bind (wpAny_bind (wpAny_field hos hds (x := vl) rfl (wpAny_bind (wpAny_field hos hds (x := vu) rfl (wpAny_bind (wpAny_field hos hds (x := vs) rfl (wpAny_pure ?_)))))))
  refine wpAny_bind (slicePart_ ps ?_)
  show wpAny _ _ (if ((-1 : Int) == 0) = true then _ else _) _ _ s
  rw [if_neg (by decide)]
  refine wpAny_bind (slicePart_ pl (wpAny_bind (slicePart_ pu (wpAny_bind (wpAny_pure ?_)))))
  exact wpAny_pure h
theorem back2 {t sl : Addr} {x y : Value} {vl vu vs : Value} {Q : Value → Shared → Prop} (ht : IsTup s.heap t #[x, y]) (hs : s.heap.IsSliceOf sl vl vu vs) (pl : IsPart vl none) (pu : IsPart vu none) (ps : IsPart vs (some (-1)))
    (h : Q (.ref s.heap.objs.size) { s with heap := s.heap.push { cls := .type "tuple", data := .seq #[y, x] } }) : wpAny (model prog w) A (getItem (.ref t) (.ref sl)) Q E s := by
  have htake : sizeOk (.seq #[y, x]) := by show 2 ≤ sizeLine; decide
  obtain ⟨os, hos, hcs, hds⟩ := id hs
  have hTs : s.TypeIs (.ref sl) "slice" := ⟨os, hos, hcs⟩
  unfold getItem
  try with_reducible refine wpAny_holding ?_
  first | refine wpAny_bind (wpAny_pure ?_) | skip
  refine wpAny_bind (wpAny_sequenceKey ht.typeIs (by decide) ?_)
  refine wpAny_bind (wpAny_callSpecial?_slot (name := Str.ofString "__getitem__") ht.typeIs PyProof.Rows.slot_tuple_getitem
    (wpAny_call_entry PyProof.Rows.slot_tuple_getitem ht.typeIs entry_tuple_getitem ?_ (args_tuple_getitem _ _)))
  show wpAny _ _ (Builtin.Tuple.tupleItemsOf (.ref t) >>= _) _ _ s
  refine wpAny_bind (tupleItemsOf_ ht ?_)
  refine wpAny_bind (wpAny_typeOf hTs ?_)
  rw [if_pos (by decide)]
  refine wpAny_bind (backApplied hs pl pu ps ?_)
  first
    | exact wpAny_bind (m := Builtin.Tuple.tupleExact _) (wpAny_newObj_type (wpAny_pure ⟨_, rfl, wpAny_pure h⟩) htake)
    | exact wpAny_bind (m := Builtin.Tuple.tupleExact _) (wpAny_newObj_type (wpAny_bind (wpAny_pure (wpAny_pure ⟨_, rfl, wpAny_pure h⟩))) htake)
    | exact wpAny_bind (wpAny_bind (m := Builtin.Tuple.tupleExact _) (wpAny_newObj_type (wpAny_pure (wpAny_pure ⟨_, rfl, wpAny_pure h⟩)) htake))
    | exact wpAny_bind (wpAny_bind (m := Builtin.Tuple.tupleExact _) (wpAny_newObj_type (wpAny_pure ⟨_, rfl, wpAny_pure h⟩) htake))
end
end K1S
namespace K1
open PySem PySem.Spec PyProof.Rows L2
def tBack (K : PySem.W.Frag) (te : TE) : TE := fun σ H Q => te σ H fun v H1 => ∃ a x y, v = .ref a ∧ SqT K H1 a [x, y] ∧ ∀ p, H1 p = none → Q (.ref p) (upd H1 p (.tup [y, x]))
theorem pe_back {X : Cx} {e : Expr} {te : TE} {k : Nat} {p1 p2 p3 pos : Pos} (he : PE X e te) : PE X (.Subscript e (.Slice none none (some (.UnaryOp .USub (.Constant (.int 1) k p1) p2)) p3) pos) (tBack X.K te) := by
  refine ⟨fun pins s σ H Q I h => ?_⟩
  refine Subscript_ (thn (he.run pins s σ H _ I h) fun v s1 ⟨v1, H1, I1, r1, q1⟩ => ?_)
  obtain ⟨a, x, y, ex, hx, q⟩ := q1
  subst ex
  cases r1
  have hst : PO X (some (.UnaryOp .USub (.Constant (.int 1) k p1) p2)) (tPart (tUn (rU fun i => .int (-i)) (tC (.int 1)))) := po_some (pe_un un_neg pe_int)
  refine wpAny_Slice (thn (po_none.run pins s1 σ H1 (fun o H2 => o = none ∧ H2 = H1) I1 ⟨rfl, rfl⟩) fun vl s2 ⟨l, H2, I2, pl, el, e2⟩ => ?_)
  subst el e2
  refine thn (po_none.run pins s2 σ H2 (fun o H3 => o = none ∧ H3 = H2) I2 ⟨rfl, rfl⟩) fun vu s3 ⟨u, H3, I3, pu, eu, e3⟩ => ?_
  subst eu e3
  refine thn (hst.run pins s3 σ H3 (fun o H4 => o = some (-1) ∧ H4 = H3) I3 ⟨1, rfl, -1, rfl, rfl, rfl⟩) fun vs s4 ⟨o, H4, I4, ps, eo, e4⟩ => ?_
  subst eo e4
  have I5 : Inv X pins σ H4 { s4 with heap := s4.heap.push { cls := .type "slice", data := .fields #[vl, vu, vs] } } := I4.kept (t' := s4.toks) fun b ob q => Heap.get?_push_of_some _ q
  obtain ⟨its, r, ht, hz⟩ := I5.tuple hx
  obtain ⟨u1, u2, rfl, ra, rb⟩ := vals2 r
  show wpAny (model X.prog X.w) X.A (subscriptTail e (.Slice none none (some (.UnaryOp .USub (.Constant (.int 1) k p1) p2)) p3) (.ref a) (.ref s4.heap.objs.size)) (EP X pins σ Q) X.xe { s4 with heap := s4.heap.push { cls := .type "slice", data := .fields #[vl, vu, vs] } }
  refine tail_any (ops := [.ref a, .ref s4.heap.objs.size]) ht.typeIs (PyProof.Rows.slot_tuple_getitem.lookup) ?_ (by with_unfolding_all rfl)
  refine K1S.back2 ht (Heap.IsSliceOf.new _ vl vu vs) pl pu ps ?_
  refine ⟨.ref _, _, I5.laid (t' := s4.toks) (o := .tup [y, x]) (fun b ob q => Heap.get?_push_of_some _ q) (Nat.le_refl _) ?_, rfl, q _ (I5.hok.fresh (Nat.le_refl _))⟩
  exact ⟨by show 2 ≤ sizeLine; decide, [u2, u1], .cons rb (.cons ra .nil), IsTup.new _ _⟩
end K1
end
-- KCut
section
set_option Elab.async false
set_option linter.all false
set_option maxRecDepth 100000
set_option maxHeartbeats 4000000
namespace K1
open PySem PySem.Spec PyProof.Rows L2
/-- each road parts its two ends, and no other road's -/
def Cut (rs : List (Str × Str)) : Prop := rs.Nodup ∧ ∀ e ∈ rs, ∃ c : Str → Bool, c e.1 ≠ c e.2 ∧ ∀ e' ∈ rs, e' ≠ e → c e'.1 = c e'.2
theorem Cut.nil : Cut [] := ⟨List.nodup_nil, fun e he => absurd he (by simp)⟩
theorem Cut.perm {as bs : List (Str × Str)} (h : Cut bs) (p : as.Perm bs) : Cut as := by
  refine ⟨p.nodup_iff.mpr h.1, fun e he => ?_⟩
  obtain ⟨c, h1, h2⟩ := h.2 e (p.mem_iff.mp he)
  exact ⟨c, h1, fun e' he' n => h2 e' (p.mem_iff.mp he') n⟩
theorem Cut.add {rs : List (Str × Str)} {u v : Str} {e0 : Str × Str} (h : Cut rs) (hv : ∀ r ∈ rs, r.1 ≠ v ∧ r.2 ≠ v) (huv : u ≠ v) (he : e0 = (u, v) ∨ e0 = (v, u)) : Cut (rs ++ [e0]) := by
  have ends : (e0.1 = u ∧ e0.2 = v) ∨ (e0.1 = v ∧ e0.2 = u) := he.imp (fun h => by rw [h]; exact ⟨rfl, rfl⟩) (fun h => by rw [h]; exact ⟨rfl, rfl⟩)
  have n0 : ¬ e0 ∈ rs := fun hm => by
    rcases ends with ⟨_, z⟩ | ⟨z, _⟩
    · exact (hv e0 hm).2 z
    · exact (hv e0 hm).1 z
  refine ⟨?_, fun e hm => ?_⟩
  · rw [List.nodup_append]
    refine ⟨h.1, by simp, fun x hx y hy => ?_⟩
    rw [List.mem_singleton.mp hy]
    intro z
    rw [z] at hx
    exact n0 hx
  · rcases List.mem_append.mp hm with hm | hm
    · obtain ⟨c, h1, h2⟩ := h.2 e hm
      refine ⟨fun s => if s = v then c u else c s, ?_, fun e' he' n => ?_⟩
      · show (if e.1 = v then c u else c e.1) ≠ (if e.2 = v then c u else c e.2)
        rw [if_neg (hv e hm).1, if_neg (hv e hm).2]
        exact h1
      · show (if e'.1 = v then c u else c e'.1) = (if e'.2 = v then c u else c e'.2)
        rcases List.mem_append.mp he' with he' | he'
        · rw [if_neg (hv e' he').1, if_neg (hv e' he').2]
          exact h2 e' he' n
        · rw [List.mem_singleton.mp he']
          rcases ends with ⟨z1, z2⟩ | ⟨z1, z2⟩
          · rw [z1, z2, if_neg huv, if_pos rfl]
          · rw [z1, z2, if_neg huv, if_pos rfl]
    · rw [List.mem_singleton.mp hm]
      refine ⟨fun s => decide (s = v), ?_, fun e' he' n => ?_⟩
      · show decide (e0.1 = v) ≠ decide (e0.2 = v)
        rcases ends with ⟨z1, z2⟩ | ⟨z1, z2⟩
        · rw [z1, z2, decide_eq_false huv, decide_eq_true rfl]; decide
        · rw [z1, z2, decide_eq_false huv, decide_eq_true rfl]; decide
      · show decide (e'.1 = v) = decide (e'.2 = v)
        rcases List.mem_append.mp he' with he' | he'
        · rw [decide_eq_false (hv e' he').1, decide_eq_false (hv e' he').2]
        · exact absurd (List.mem_singleton.mp he') n
theorem nodup_take_not' {α : Type} {ss : List α} (h : ss.Nodup) {i : Nat} (hi : i < ss.length) : ¬ ss[i] ∈ ss.take i := fun hm => by
  obtain ⟨j, hj, ej⟩ := List.getElem_of_mem hm
  rw [List.length_take] at hj
  rw [List.getElem_take] at ej
  have := (List.getElem_inj h).mp ej
  omega
theorem col_join {c : Str → Bool} {rt : Str → Str} {a b : Str} (h : ∀ s, c (rt s) = c s) (e : c a = c b) (s : Str) : c (joinRt rt a b s) = c s := by
  unfold joinRt
  by_cases z : rt s = rt a
  · rw [if_pos z, h, ← e, ← h a, ← z, h]
  · rw [if_neg z, h]
theorem col_rt {c : Str → Bool} : ∀ (n : Nat) {rs : List (Str × Str)}, rs.length = n → (∀ e ∈ rs, c e.1 = c e.2) → ∀ s, c (rtOf rs s) = c s
  | 0, rs, h0, _, s => by rw [List.length_eq_zero_iff.mp h0]; rfl
  | n + 1, rs, h0, h, s => by
    have hne : rs ≠ [] := fun z => by rw [z] at h0; cases h0
    have e := List.dropLast_concat_getLast hne
    rw [← e, rtOf_snoc]
    refine col_join (fun t => col_rt n (by rw [List.length_dropLast]; omega) (fun e he => h e ((List.dropLast_sublist _).mem he)) t) (h _ (List.getLast_mem hne)) s
theorem Cut.forest {rs : List (Str × Str)} (h : Cut rs) : Forest rs := by
  intro i hi z
  obtain ⟨c, h1, h2⟩ := h.2 rs[i] (List.getElem_mem hi)
  have hc : ∀ s, c (rtOf (rs.take i) s) = c s := col_rt _ rfl fun e he => h2 e (List.mem_of_mem_take he) (fun q => nodup_take_not' h.1 hi (by rw [← q]; exact he))
  exact h1 (by rw [← hc rs[i].1, z, hc])
theorem at4 {a0 a1 a2 a3 s : Int} (h0 : 0 ≤ s) (h1 : s < 4) : ∃ x : Int, atI [V.int a0, V.int a1, V.int a2, V.int a3] s = some (.int x) ∧ (x = a0 ∨ x = a1 ∨ x = a2 ∨ x = a3) := by
  have : s = 0 ∨ s = 1 ∨ s = 2 ∨ s = 3 := by omega
  rcases this with rfl | rfl | rfl | rfl
  · exact ⟨a0, rfl, .inl rfl⟩
  · exact ⟨a1, rfl, .inr (.inl rfl)⟩
  · exact ⟨a2, rfl, .inr (.inr (.inl rfl))⟩
  · exact ⟨a3, rfl, .inr (.inr (.inr rfl))⟩
def unR : V → Addr
  | .ref a => a
  | _ => 0
theorem paired_perm {H : Hp} {qs : List Addr} {rs : List (Str × Str)} (h : Paired (TupP H) qs rs) {ys : List V} (p : ys.Perm (qs.map V.ref)) : ∃ qs' rs', ys = qs'.map V.ref ∧ qs'.Perm qs ∧ rs'.Perm rs ∧ Paired (TupP H) qs' rs' := by
  have e1 : ys = (ys.map unR).map V.ref := by
    rw [List.map_map]
    have : ∀ y ∈ ys, (V.ref ∘ unR) y = y := fun y hy => by
      obtain ⟨s, _, rfl⟩ := List.mem_map.mp (p.mem_iff.mp hy)
      rfl
    exact (List.map_congr_left this).trans (List.map_id _) |>.symm
  have p2 : (ys.map unR).Perm qs := by
    have := p.map unR
    rw [List.map_map] at this
    exact this.trans (List.Perm.of_eq (List.map_id _))
  have key : ∀ {as bs : List Addr}, as.Perm bs → ∀ {ts : List (Str × Str)}, Paired (TupP H) bs ts → ∃ us, us.Perm ts ∧ Paired (TupP H) as us := by
    intro as bs pm
    induction pm with
    | nil => intro ts h; cases h; exact ⟨[], .nil, .nil⟩
    | cons x _ ih =>
      intro ts h
      cases h with
      | cons f r =>
        obtain ⟨us, q1, q2⟩ := ih r
        exact ⟨_ :: us, q1.cons _, .cons f q2⟩
    | swap x y l =>
      intro ts h
      cases h with
      | cons f r =>
        cases r with
        | cons f2 r2 => exact ⟨_ :: _ :: _, .swap _ _ _, .cons f2 (.cons f r2)⟩
    | trans _ _ ih1 ih2 =>
      intro ts h
      obtain ⟨us, q1, q2⟩ := ih2 h
      obtain ⟨ws, q3, q4⟩ := ih1 q2
      exact ⟨ws, q3.trans q1, q4⟩
  obtain ⟨us, q1, q2⟩ := key p2 h
  exact ⟨_, us, e1, p2, q1, q2⟩
theorem Spr.tup {H : Hp} {a q : Addr} {n : Nat} {xs : List V} (h : Spr H a n) (e : H q = some (.tup xs)) : q ≠ a := fun z => by
  obtain ⟨x, y, z2, e2, _⟩ := h
  rw [z, e2] at e
  cases e
theorem TupP.kept {H H' : Hp} {a : Addr} {n : Nat} {qs : List Addr} {rs : List (Str × Str)} (h : Paired (TupP H) qs rs) (s : Spr H a n) (k : Kept a H H') : Paired (TupP H') qs rs := paired_imp (fun _ _ q => k _ _ (s.tup q) q) h
end K1
end
-- NMath
section
set_option Elab.async false
set_option linter.all false
set_option maxRecDepth 100000
set_option maxHeartbeats 1000000
namespace K1
open PySem PySem.Spec PyProof.Rows L2
/-! trees: one root, the cut of a road, the reach of a house without another, the way -/
theorem rt_fold {ss : List Str} : ∀ (rs : List (Str × Str)) (rt : Str → Str), EndsIn ss rs → (∀ s, rt (rt s) = rt s) → (∀ s ∈ ss, rt s ∈ ss) →
    (∀ s, (rs.foldl (fun rt e => joinRt rt e.1 e.2) rt) ((rs.foldl (fun rt e => joinRt rt e.1 e.2) rt) s) = (rs.foldl (fun rt e => joinRt rt e.1 e.2) rt) s) ∧ ∀ s ∈ ss, (rs.foldl (fun rt e => joinRt rt e.1 e.2) rt) s ∈ ss
  | [], rt, _, h1, h2 => ⟨h1, h2⟩
  | e :: rs, rt, he, h1, h2 => by
    have he1 := he e (List.mem_cons_self ..)
    refine rt_fold rs (joinRt rt e.1 e.2) (fun r hr => he r (List.mem_cons_of_mem _ hr)) (fun s => ?_) (fun s hs => ?_)
    · unfold joinRt
      by_cases z : rt s = rt e.1
      · rw [if_pos z]
        by_cases z2 : rt (rt e.2) = rt e.1
        · rw [if_pos z2]
        · rw [if_neg z2, h1]
      · rw [if_neg z, if_neg (by rw [h1]; exact z), h1]
    · unfold joinRt
      by_cases z : rt s = rt e.1
      · rw [if_pos z]; exact h2 _ he1.2
      · rw [if_neg z]; exact h2 _ hs
theorem rt_idem {rs : List (Str × Str)} (s : Str) : rtOf rs (rtOf rs s) = rtOf rs s := by
  refine (rt_fold (ss := rs.map (·.1) ++ rs.map (·.2)) rs (fun s => s) (fun r hr => ⟨?_, ?_⟩) (fun _ => rfl) fun _ h => h).1 s
  · exact List.mem_append_left _ (List.mem_map.mpr ⟨r, hr, rfl⟩)
  · exact List.mem_append_right _ (List.mem_map.mpr ⟨r, hr, rfl⟩)
theorem rt_in {ss : List Str} {rs : List (Str × Str)} (he : EndsIn ss rs) {s : Str} (hs : s ∈ ss) : rtOf rs s ∈ ss := (rt_fold rs (fun s => s) he (fun _ => rfl) fun _ h => h).2 s hs
theorem filter_ne_len {α : Type} [DecidableEq α] {a : α} : ∀ {l : List α}, l.Nodup → a ∈ l → (l.filter fun x => decide (x ≠ a)).length + 1 = l.length
  | [], _, h => absurd h (by simp)
  | b :: l, nd, h => by
    have n := List.nodup_cons.mp nd
    by_cases e : b = a
    · subst e
      have : l.filter (fun x => decide (x ≠ b)) = l := List.filter_eq_self.mpr fun x hx => decide_eq_true fun z => n.1 (by rw [← z]; exact hx)
      rw [List.filter_cons, if_neg (by simp), this]
      rfl
    · rw [List.filter_cons, if_pos (decide_eq_true e), List.length_cons, List.length_cons, filter_ne_len n.2 ((List.mem_cons.mp h).resolve_left fun z => e z.symm)]
def rootsOf (ss : List Str) (rs : List (Str × Str)) : List Str := ss.filter fun s => decide (rtOf rs s = s)
theorem roots_len {ss : List Str} {rs : List (Str × Str)} (hn : ss.Nodup) (he : EndsIn ss rs) (f : Forest rs) : ∀ i, i ≤ rs.length → (rootsOf ss (rs.take i)).length + i = ss.length
  | 0, _ => by
    have : rootsOf ss (rs.take 0) = ss := List.filter_eq_self.mpr fun s _ => decide_eq_true rfl
    rw [this]
    rfl
  | i + 1, hi => by
    have ih := roots_len hn he f i (Nat.le_of_succ_le hi)
    have ee := he _ (List.getElem_mem hi)
    have et : EndsIn ss (rs.take i) := fun r hr => he r (List.mem_of_mem_take hr)
    have ne := f i hi
    have e : rootsOf ss (rs.take (i + 1)) = (rootsOf ss (rs.take i)).filter fun x => decide (x ≠ rtOf (rs.take i) rs[i].1) := by
      unfold rootsOf
      rw [List.filter_filter]
      refine List.filter_congr fun s _ => ?_
      rw [rtOf_succ hi]
      unfold joinRt
      rw [Bool.eq_iff_iff, Bool.and_eq_true, decide_eq_true_eq, decide_eq_true_eq, decide_eq_true_eq]
      by_cases z : rtOf (rs.take i) s = rtOf (rs.take i) rs[i].1
      · rw [if_pos z]
        constructor
        · intro h
          have h2 := rt_idem (rs := rs.take i) rs[i].2
          rw [h, z] at h2
          exact absurd (h2.trans h.symm) ne
        · rintro ⟨h1, h2⟩
          exact absurd (h2.symm.trans z) h1
      · rw [if_neg z]
        constructor
        · intro h
          exact ⟨fun q => z (h.trans q), h⟩
        · exact fun h => h.2
    have hm : rtOf (rs.take i) rs[i].1 ∈ rootsOf ss (rs.take i) := List.mem_filter.mpr ⟨rt_in et ee.1, decide_eq_true (rt_idem _)⟩
    have := filter_ne_len (List.Pairwise.filter _ hn) hm
    rw [e]
    unfold rootsOf at this ih ⊢
    omega
/-- what a tree of roads is here -/
structure Tree (ss : List Str) (rs : List (Str × Str)) : Prop where
  nd : ss.Nodup
  ends : EndsIn ss rs
  cut : Cut rs
  len : rs.length + 1 = ss.length
theorem Tree.root {ss : List Str} {rs : List (Str × Str)} (T : Tree ss rs) {s t : Str} (hs : s ∈ ss) (ht : t ∈ ss) : rtOf rs s = rtOf rs t := by
  have h := roots_len T.nd T.ends T.cut.forest rs.length (Nat.le_refl _)
  rw [List.take_length] at h
  have l1 : (rootsOf ss rs).length = 1 := by have := T.len; omega
  obtain ⟨r, hr⟩ := List.length_eq_one_iff.mp l1
  have a : ∀ u ∈ ss, rtOf rs u = r := fun u hu => by
    have : rtOf rs u ∈ rootsOf ss rs := List.mem_filter.mpr ⟨rt_in T.ends hu, decide_eq_true (rt_idem _)⟩
    rw [hr] at this
    exact List.mem_singleton.mp this
  rw [a s hs, a t ht]
/-- what is alike at both ends of each road is alike everywhere -/
theorem Tree.all {ss : List Str} {rs : List (Str × Str)} (T : Tree ss rs) {S : Str → Prop} (h : ∀ e ∈ rs, S e.1 ↔ S e.2) {s t : Str} (hs : s ∈ ss) (ht : t ∈ ss) (q : S s) : S t := by
  classical
  have c := col_rt (c := fun u => decide (S u)) _ (rfl : rs.length = rs.length) fun e he => decide_eq_decide.mpr (h e he)
  have e1 := c s
  have e2 := c t
  rw [T.root hs ht] at e1
  have := e1.symm.trans e2
  exact (decide_eq_decide.mp this).mp q
theorem nbB_iff {rs : List (Str × Str)} {s t : Str} : nbB rs s t = true ↔ (s, t) ∈ rs ∨ (t, s) ∈ rs := by
  unfold nbB
  rw [List.any_eq_true]
  constructor
  · rintro ⟨r, hr, h⟩
    rcases of_decide_eq_true h with h | h
    · exact .inl (h ▸ hr)
    · exact .inr (h ▸ hr)
  · rintro (h | h)
    · exact ⟨_, h, decide_eq_true (.inl rfl)⟩
    · exact ⟨_, h, decide_eq_true (.inr rfl)⟩
theorem nbB_swap {rs : List (Str × Str)} {s t : Str} : nbB rs s t = nbB rs t s := by
  rw [Bool.eq_iff_iff, nbB_iff, nbB_iff]
  exact Or.comm
theorem EndsIn.nb {ss : List Str} {rs : List (Str × Str)} (h : EndsIn ss rs) {s t : Str} (e : nbB rs s t = true) : s ∈ ss ∧ t ∈ ss := by
  rcases nbB_iff.mp e with e | e
  · exact h _ e
  · exact (h _ e).symm
theorem mem_nbs {ss : List Str} {rs : List (Str × Str)} (h : EndsIn ss rs) {s t : Str} : t ∈ nbs ss rs s ↔ nbB rs s t = true := by
  unfold nbs
  rw [List.mem_filter]
  exact ⟨fun h => h.2, fun e => ⟨(h.nb e).2, e⟩⟩
/-- the two sides of a road, as colours -/
theorem Cut.side {rs : List (Str × Str)} (h : Cut rs) {a b : Str} (e : nbB rs a b = true) : ∃ c : Str → Bool, c a ≠ c b ∧ ∀ s t, nbB rs s t = true → ¬ (s = a ∧ t = b) → ¬ (s = b ∧ t = a) → c s = c t := by
  have hx : ∀ e0 : Str × Str, e0 ∈ rs → (e0 = (a, b) ∨ e0 = (b, a)) → ∃ c : Str → Bool, c a ≠ c b ∧ ∀ s t, nbB rs s t = true → ¬ (s = a ∧ t = b) → ¬ (s = b ∧ t = a) → c s = c t := by
    intro e0 he0 w
    obtain ⟨c, h1, h2⟩ := h.2 e0 he0
    refine ⟨c, ?_, fun s t q n1 n2 => ?_⟩
    · rcases w with w | w
      · rw [w] at h1; exact h1
      · rw [w] at h1; exact h1.symm
    · have nn : ∀ x y : Str, ¬ (x = a ∧ y = b) → ¬ (x = b ∧ y = a) → (x, y) ≠ e0 := fun x y m1 m2 z => by
        rcases w with w | w
        · rw [w] at z; exact m1 ⟨congrArg Prod.fst z, congrArg Prod.snd z⟩
        · rw [w] at z; exact m2 ⟨congrArg Prod.fst z, congrArg Prod.snd z⟩
      rcases nbB_iff.mp q with q | q
      · exact h2 _ q (nn _ _ n1 n2)
      · exact (h2 _ q (nn _ _ (fun m => n2 ⟨m.2, m.1⟩) (fun m => n1 ⟨m.2, m.1⟩))).symm
  rcases nbB_iff.mp e with e | e
  · exact hx _ e (.inl rfl)
  · exact hx _ e (.inr rfl)
theorem Cut.irr {rs : List (Str × Str)} (h : Cut rs) {a b : Str} (e : nbB rs a b = true) : a ≠ b := by
  obtain ⟨c, h1, _⟩ := h.side e
  exact fun z => h1 (by rw [z])
/-- what is reached from other without coming into one -/
inductive Rch (rs : List (Str × Str)) (one other : Str) : Str → Prop
  | base : Rch rs one other other
  | step {s t : Str} : Rch rs one other s → nbB rs s t = true → t ≠ one → Rch rs one other t
theorem Rch.ne {rs : List (Str × Str)} {one other t : Str} (ne : other ≠ one) (h : Rch rs one other t) : t ≠ one := by
  cases h with
  | base => exact ne
  | step _ _ n => exact n
theorem Rch.mem {ss : List Str} {rs : List (Str × Str)} {one other t : Str} (he : EndsIn ss rs) (ho : other ∈ ss) (h : Rch rs one other t) : t ∈ ss := by
  cases h with
  | base => exact ho
  | step _ q _ => exact (he.nb q).2
theorem Rch.col {rs : List (Str × Str)} {one other t : Str} {c : Str → Bool} (ne : other ≠ one) (hc : ∀ s t, nbB rs s t = true → ¬ (s = one ∧ t = other) → ¬ (s = other ∧ t = one) → c s = c t) (h : Rch rs one other t) : c t = c other := by
  induction h with
  | base => rfl
  | @step s t h q n ih => rw [← ih]; exact (hc s t q (fun z => h.ne ne z.1) (fun z => n z.2)).symm
/-- the sides of a road: none in both, all in one of them -/
theorem Tree.sides {ss : List Str} {rs : List (Str × Str)} (T : Tree ss rs) {one other : Str} (e : nbB rs one other = true) {t : Str} (ht : t ∈ ss) : Rch rs other one t ↔ ¬ Rch rs one other t := by
  obtain ⟨c, h1, h2⟩ := T.cut.side e
  have ne : one ≠ other := T.cut.irr e
  constructor
  · intro a b
    have c1 := a.col (c := c) ne (fun s t q n1 n2 => h2 s t q n2 n1)
    have c2 := b.col (c := c) ne.symm h2
    exact h1 (c1.symm.trans c2)
  · intro nb
    refine (?_ : Rch rs one other t ∨ Rch rs other one t).resolve_left nb
    have st : ∀ a b, nbB rs a b = true → (Rch rs one other a ∨ Rch rs other one a) → (Rch rs one other b ∨ Rch rs other one b) := by
      intro a b q h
      rcases h with h | h
      · by_cases z : b = one
        · rw [z]; exact .inr .base
        · exact .inl (h.step q z)
      · by_cases z : b = other
        · rw [z]; exact .inl .base
        · exact .inr (h.step q z)
    refine T.all (S := fun u => Rch rs one other u ∨ Rch rs other one u) (fun r hr => ?_) (T.ends.nb e).2 ht (.inl .base)
    have q : nbB rs r.1 r.2 = true := nbB_iff.mpr (.inl hr)
    exact ⟨st _ _ q, st _ _ (by rw [nbB_swap]; exact q)⟩
/-- a way: no house twice -/
inductive Pt (rs : List (Str × Str)) : Str → List Str → Str → Prop
  | one (s : Str) : Pt rs s [s] s
  | cons {s u t : Str} {l : List Str} : nbB rs s u = true → Pt rs u l t → s ∉ l → Pt rs s (s :: l) t
theorem Pt.head {rs : List (Str × Str)} {s t : Str} {l : List Str} (h : Pt rs s l t) : ∃ r, l = s :: r := by
  cases h with
  | one => exact ⟨_, rfl⟩
  | cons _ _ _ => exact ⟨_, rfl⟩
theorem Pt.last {rs : List (Str × Str)} {s t : Str} {l : List Str} (h : Pt rs s l t) : l.getLast? = some t := by
  induction h with
  | one => rfl
  | cons _ h _ ih =>
    obtain ⟨r, rfl⟩ := h.head
    rw [List.getLast?_cons_cons]
    exact ih
theorem Pt.end_mem {rs : List (Str × Str)} {s t : Str} {l : List Str} (h : Pt rs s l t) : t ∈ l := List.mem_of_getLast? h.last
theorem Pt.nd {rs : List (Str × Str)} {s t : Str} {l : List Str} (h : Pt rs s l t) : l.Nodup := by
  induction h with
  | one => simp
  | cons _ _ n ih => exact List.nodup_cons.mpr ⟨n, ih⟩
theorem Pt.mem {ss : List Str} {rs : List (Str × Str)} (he : EndsIn ss rs) {s t : Str} {l : List Str} (h : Pt rs s l t) (ht : t ∈ ss) : ∀ u ∈ l, u ∈ ss := by
  induction h with
  | one => intro u hu; rw [List.mem_singleton.mp hu]; exact ht
  | cons q _ _ ih =>
    intro u hu
    rcases List.mem_cons.mp hu with rfl | hu
    · exact (he.nb q).1
    · exact ih ht u hu
/-- off a house, along a way that does not come through it, the colour stays -/
theorem Pt.col {rs : List (Str × Str)} {s t a b : Str} {l : List Str} {c : Str → Bool} (hc : ∀ s t, nbB rs s t = true → ¬ (s = a ∧ t = b) → ¬ (s = b ∧ t = a) → c s = c t) (h : Pt rs s l t) (n : a ∉ l) : c s = c t := by
  induction h with
  | one => rfl
  | @cons s u t l q h m ih =>
    have hu : u ∈ l := by
      obtain ⟨r, rfl⟩ := h.head
      exact List.mem_cons_self ..
    rw [← ih fun z => n (List.mem_cons_of_mem _ z)]
    exact hc s u q (fun z => n (by rw [z.1]; exact List.mem_cons_self ..)) (fun z => n (by rw [← z.2]; exact List.mem_cons_of_mem _ hu))
/-- there is one way at most -/
theorem Pt.uniq {rs : List (Str × Str)} (hcut : Cut rs) {s t : Str} {l : List Str} (h : Pt rs s l t) : ∀ {l' : List Str}, Pt rs s l' t → l = l' := by
  induction h with
  | one s =>
    intro l' h'
    cases h' with
    | one => rfl
    | cons _ h n => exact absurd h.end_mem n
  | @cons s u t l q h m ih =>
    intro l' h'
    cases h' with
    | one => exact absurd h.end_mem m
    | @cons _ v _ l2 q2 h2 m2 =>
      by_cases e : u = v
      · subst e
        rw [ih h2]
      · obtain ⟨c, c1, c2⟩ := hcut.side q
        have k1 := h.col (a := s) (b := u) c2 m
        have k2 := h2.col (a := s) (b := u) c2 m2
        have ne := hcut.irr q
        have k3 := c2 s v q2 (fun z => e z.2.symm) (fun z => ne z.1)
        exact absurd (k3.trans (k2.trans k1.symm)) c1
theorem Pt.tail {rs : List (Str × Str)} {s t y : Str} {l : List Str} (h : Pt rs s l t) (hy : y ∈ l) : ∃ l', Pt rs y l' t ∧ ∀ u ∈ l', u ∈ l := by
  induction h with
  | one s => rw [List.mem_singleton.mp hy]; exact ⟨_, .one s, fun _ h => h⟩
  | @cons s u t l q h m ih =>
    rcases List.mem_cons.mp hy with rfl | hy
    · exact ⟨_, .cons q h m, fun _ h => h⟩
    · obtain ⟨l', a, b⟩ := ih hy
      exact ⟨l', a, fun u hu => List.mem_cons_of_mem _ (b u hu)⟩
theorem Pt.snoc {rs : List (Str × Str)} {s x y : Str} {l : List Str} (h : Pt rs s l x) (q : nbB rs x y = true) (n : y ∉ l) : Pt rs s (l ++ [y]) y := by
  induction h with
  | one s => exact .cons q (.one y) (fun z => n (by rw [List.mem_singleton.mp z]; exact List.mem_cons_self ..))
  | @cons s u t l q2 h m ih =>
    refine .cons q2 (ih q fun z => n (List.mem_cons_of_mem _ z)) fun z => ?_
    rcases List.mem_append.mp z with z | z
    · exact m z
    · exact n (by rw [← List.mem_singleton.mp z]; exact List.mem_cons_self ..)
theorem Tree.way {ss : List Str} {rs : List (Str × Str)} (T : Tree ss rs) {s t : Str} (hs : s ∈ ss) (ht : t ∈ ss) : ∃ l, Pt rs s l t := by
  have st : ∀ a b, nbB rs a b = true → (∃ l, Pt rs a l t) → ∃ l, Pt rs b l t := by
    rintro a b q ⟨l, h⟩
    by_cases z : b ∈ l
    · obtain ⟨l', h', _⟩ := h.tail z
      exact ⟨l', h'⟩
    · exact ⟨_, .cons (by rw [nbB_swap]; exact q) h z⟩
  refine T.all (S := fun u => ∃ l, Pt rs u l t) (fun r hr => ?_) ht hs ⟨_, .one t⟩
  have q : nbB rs r.1 r.2 = true := nbB_iff.mpr (.inl hr)
  exact ⟨st _ _ q, st _ _ (by rw [nbB_swap]; exact q)⟩
end K1
end
-- NErr
section
set_option Elab.async false
set_option linter.all false
set_option maxRecDepth 100000
set_option maxHeartbeats 4000000
namespace K1
open PySem PySem.Spec PyProof.Rows L2
abbrev sIN : Stmt := inClass (top 7) 0
abbrev sIO : Stmt := inClass (top 8) 0
/-- an error's class, with these fields -/
structure ErF (K : PySem.W.Frag) (mg : Str → Option Value) (x : Str) (C f : Addr) (fs : List Str) : Prop where
  m : mg x = some (.ref C)
  ox : OexC K C
  no : ∀ n ∈ fs, PySem.W.findIn K (.ref C) n = some none
  ini : PySem.W.findIn K (.ref C) "__init__" = some (some (.ref f))
  ty : PySem.W.typeIn K (.ref f) = some (.type "function")
def spEr1 (C : Addr) (n : Str) : Sp := fun vs H Q _ => ∃ (a : Addr) (v : V), vs = [.ref a, v] ∧ H a = some (exo a C none) ∧ ∀ d, H d = none → d ≠ a → Q .non (upd (upd H d (exd d [(n, v)])) a (exo a C (some d)))
def spEr2 (C : Addr) : Sp := fun vs H Q _ => ∃ (a : Addr) (v u : V), vs = [.ref a, v, u] ∧ H a = some (exo a C none) ∧ ∀ d, H d = none → d ≠ a → Q .non (upd (upd (upd H d (exd d [("one", v)])) a (exo a C (some d))) d (exd d [("other", u), ("one", v)]))
theorem scIN : FnScope ["self", "house"] ["self", "house"] (defScope sIN) := ⟨rfl, rfl, rfl, by decide +kernel, rfl, by decide +kernel, by decide +kernel⟩
theorem scIO : FnScope ["self", "one", "other"] ["self", "one", "other"] (defScope sIO) := ⟨rfl, rfl, rfl, by decide +kernel, rfl, by decide +kernel, by decide +kernel⟩
/-- what goes out: a new error of the class, with these fields -/
def GoesF (C : Addr) (fs : List (Str × V)) (H : Hp) (E : XK) : Prop := ∀ (d : Addr) (H' : Hp), Same H H' → H d = none → H' d = some (.xd fs) → E (.ref C) (some d) H'
theorem GoesF.ext {C : Addr} {fs : List (Str × V)} {H H1 : Hp} {E : XK} (g : GoesF C fs H E) (e : Same H H1) : GoesF C fs H1 E := fun d H' e2 n h => g d H' (e.trans e2) (e.free n) h
theorem raise_one {C : Addr} {E : XK} {H0 H : Hp} {n : Str} {v : V} (g : GoesF C [(n, v)] H0 E) (e : Same H0 H) :
    ∀ a, H a = none → spEr1 C n [V.ref a, v] (upd H a (exo a C none)) (fun v H2 => v = .non ∧ ∃ (d : Addr) (fs : List (Str × V)), H2 a = some (exo a C (some d)) ∧ H2 d = some (exd d fs) ∧ H d = none ∧ E (.ref C) (some d) (upd (del H2 a) d (.xd fs))) (fun _ _ _ => False) := by
  intro a ha
  refine ⟨a, v, rfl, upd_same, fun d hd hda => ⟨rfl, d, [(n, v)], upd_same, ?_, ?_, ?_⟩⟩
  · rw [upd_ne hda, upd_same]
  · rw [upd_ne hda] at hd
    exact hd
  · rw [upd_ne hda] at hd
    refine g d _ (fun b o n => ?_) (e.free hd) upd_same
    have n1 := e b o n
    have b1 : b ≠ a := ne_of_none n1 ha
    have b2 : b ≠ d := ne_of_none n1 hd
    rw [upd_ne b2, del_ne b1, upd_ne b1, upd_ne b2, upd_ne b1]
    exact n1
theorem raise_two {C : Addr} {E : XK} {H0 H : Hp} {v u : V} (g : GoesF C [("other", u), ("one", v)] H0 E) (e : Same H0 H) :
    ∀ a, H a = none → spEr2 C [V.ref a, v, u] (upd H a (exo a C none)) (fun v H2 => v = .non ∧ ∃ (d : Addr) (fs : List (Str × V)), H2 a = some (exo a C (some d)) ∧ H2 d = some (exd d fs) ∧ H d = none ∧ E (.ref C) (some d) (upd (del H2 a) d (.xd fs))) (fun _ _ _ => False) := by
  intro a ha
  refine ⟨a, v, u, rfl, upd_same, fun d hd hda => ⟨rfl, d, [("other", u), ("one", v)], ?_, upd_same, ?_, ?_⟩⟩
  · rw [upd_ne hda.symm, upd_same]
  · rw [upd_ne hda] at hd
    exact hd
  · rw [upd_ne hda] at hd
    refine g d _ (fun b o n => ?_) (e.free hd) upd_same
    have n1 := e b o n
    have b1 : b ≠ a := ne_of_none n1 ha
    have b2 : b ≠ d := ne_of_none n1 hd
    rw [upd_ne b2, del_ne b1, upd_ne b2, upd_ne b1, upd_ne b2, upd_ne b1]
    exact n1
section
variable {P : Program} {w : World} {K : PySem.W.Frag} {mg : Str → Option Value} {base : Heap} {CF : Addr}
theorem ok_iN {f C : Addr} {fd : FuncData} (F : Fun K "__init__" "NoHouse.__init__" sIN f fd) (T : FeC K mg CF) (TC : ErF K mg "NoHouse" C f ["house"]) : FnOk P w K mg base CX0 1 f fd ["self", "house"] (spEr1 C "house") := by
  refine F.ok scIN (fun vs H Q E h => ?_) (fun cdv A outer s H vs Q E hr h => ?_)
  · obtain ⟨a, v, rfl, _⟩ := h
    rfl
  obtain ⟨a, v, rfl, ha, q⟩ := h
  refine ⟨_, pss_cons (by exact ps_expr (pe_feinit rfl T (pa_cons (pv 0) (pa_cons pe_str pa_nil)))) (pss_one (by exact ps_ost (pv 0) (pv 1))), ?_⟩
  refine ⟨_, rfl, a, C, [.str _], rfl, (by decide), TC.ox, ha, _, rfl, _, rfl, a, C, rfl, TC.ox, TC.no _ (by simp), .inl ⟨ha, fun d hd n => q d hd n⟩⟩
theorem ok_iO {f C : Addr} {fd : FuncData} (F : Fun K "__init__" "NoRoad.__init__" sIO f fd) (T : FeC K mg CF) (TC : ErF K mg "NoRoad" C f ["one", "other"]) : FnOk P w K mg base CX0 1 f fd ["self", "one", "other"] (spEr2 C) := by
  refine F.ok scIO (fun vs H Q E h => ?_) (fun cdv A outer s H vs Q E hr h => ?_)
  · obtain ⟨a, v, u, rfl, _⟩ := h
    rfl
  obtain ⟨a, v, u, rfl, ha, q⟩ := h
  refine ⟨_, pss_cons (by exact ps_expr (pe_feinit rfl T (pa_cons (pv 0) (pa_cons pe_str pa_nil)))) (pss_cons (by exact ps_ost (pv 0) (pv 1)) (pss_one (by exact ps_ost (pv 0) (pv 2)))), ?_⟩
  refine ⟨_, rfl, a, C, [.str _], rfl, (by decide), TC.ox, ha, _, rfl, _, rfl, a, C, rfl, TC.ox, TC.no _ (by simp), .inl ⟨ha, fun d hd n => ?_⟩⟩
  refine ⟨_, rfl, _, rfl, a, C, rfl, TC.ox, TC.no _ (by simp), .inr ⟨d, [("one", v)], upd_same, by rw [upd_ne n]; exact upd_same, (by show 1 ≤ 900; decide), q d hd n⟩⟩
end
end K1
end
-- NMeth
section
set_option Elab.async false
set_option linter.all false
set_option maxRecDepth 100000
set_option maxHeartbeats 4000000
namespace K1
open PySem PySem.Spec PyProof.Rows L2
abbrev sWa : Stmt := inClass (top 21) 6
abbrev sIs : Stmt := inClass (top 21) 8
abbrev sNe : Stmt := inClass (top 21) 10
abbrev sPl : Stmt := inClass (top 21) 11
abbrev sNr : Stmt := inClass (top 21) 12
/-- a Valley of these houses, roads, heads -/
def IsV (C : Addr) (H : Hp) (x : Addr) (ss : List Str) (rs : List (Str × Str)) (ns : List Int) : Prop := ss.length = ns.length ∧ ∃ l1 l2 l3 d1 d2 d3 qs bs, ValS C H x l1 l2 l3 d1 d2 d3 qs bs ss rs ns
/-- no house -/
def NoHo (K : PySem.W.Frag) (H : Hp) (ss : List Str) (v : V) : Prop := (∃ s, v = .str s ∧ s ∉ ss) ∨ ∃ t, TyX K H v (.type t) ∧ t ∈ kinds ∧ t ≠ "str"
theorem NoHo.ext {K : PySem.W.Frag} {H H' : Hp} {ss : List Str} {v : V} (h : NoHo K H ss v) (e : Same H H') : NoHo K H' ss v := h.imp id fun ⟨t, a, b⟩ => ⟨t, TyX.ext a e, b⟩
def spIs (K : PySem.W.Frag) (C : Addr) : Sp := fun vs H Q _ => ∃ x v ss rs ns, vs = [.ref x, v] ∧ IsV C H x ss rs ns ∧ ((∃ s, v = .str s ∧ s ∈ ss ∧ Q (.bl true) H) ∨ (NoHo K H ss v ∧ Q (.bl false) H))
def spNe (K : PySem.W.Frag) (C CN : Addr) : Sp := fun vs H Q E => ∃ x v ss rs ns, vs = [.ref x, v] ∧ IsV C H x ss rs ns ∧ ((∃ s, v = .str s ∧ s ∈ ss ∧ Q .non H) ∨ (NoHo K H ss v ∧ GoesF CN [("house", v)] H E))
def spPl (K : PySem.W.Frag) (C CN CO : Addr) : Sp := fun vs H Q E => ∃ x v u ss rs ns, vs = [.ref x, v, u] ∧ IsV C H x ss rs ns ∧ ((NoHo K H ss v ∧ GoesF CN [("house", v)] H E) ∨ (∃ s, v = .str s ∧ s ∈ ss ∧ ((NoHo K H ss u ∧ GoesF CN [("house", u)] H E) ∨
  (∃ t, u = .str t ∧ t ∈ ss ∧ ((plOf rs s t = none ∧ GoesF CO [("other", .str t), ("one", .str s)] H E) ∨ (∃ i : Nat, plOf rs s t = some i ∧ ∀ H', Same H H' → Q (.int (i : Nat)) H'))))))
theorem scIs : FnScope ["self", "thing"] ["self", "thing"] (defScope sIs) := ⟨rfl, rfl, rfl, by decide +kernel, rfl, by decide +kernel, by decide +kernel⟩
theorem scNe : FnScope ["self", "house"] ["self", "house"] (defScope sNe) := ⟨rfl, rfl, rfl, by decide +kernel, rfl, by decide +kernel, by decide +kernel⟩
theorem scPl : FnScope ["self", "one", "other"] ["self", "one", "other"] (defScope sPl) := ⟨rfl, rfl, rfl, by decide +kernel, rfl, by decide +kernel, by decide +kernel⟩
section
variable {P : Program} {w : World} {K : PySem.W.Frag} {mg : Str → Option Value} {base : Heap} {CF C CN CO : Addr}
theorem ok_Is {f : Addr} {fd : FuncData} (F : Fun K "is_house" "Valley.is_house" sIs f fd) (B : Bl mg) (T : VcT K C) : FnOk P w K mg base CX0 1 f fd ["self", "thing"] (spIs K C) := by
  refine F.ok scIs (fun vs H Q E h => ?_) (fun cdv A outer s H vs Q E hr h => ?_)
  · obtain ⟨x, v, ss, rs, ns, rfl, _⟩ := h
    rfl
  obtain ⟨x, v, ss, rs, ns, rfl, ⟨ln, l1, l2, l3, d1, d2, d3, qs, bs, vx⟩, h⟩ := h
  have hu := hu_of hr
  obtain ⟨dx, fx, ix, f1, f2, f3, f4, f5, f6, f0⟩ := vx.ins
  refine ⟨_, pss_one (by exact ps_ret (pe_and (pe_callB call_isi rfl B.isi PyProof.Rows.boot_isinstance (pa_cons (pv 1) (pa_cons (pe_bltn (v := .ty "str") rfl B.str PyProof.Rows.boot_str rfl) pa_nil))) (pe_one (pe_cmp (pc_din hu (pv 1) (pe_fld (pv 0) rfl)) (by with_unfolding_all rfl))))), ?_⟩
  have st : ∀ s : Str, v = .str s → Q (.bl (decide (s ∈ ss))) H → _ := fun s e q => (⟨s, e, q⟩ : ∃ s, v = .str s ∧ Q (.bl (decide (s ∈ ss))) H)
  have go : (∃ s, v = .str s ∧ Q (.bl (decide (s ∈ ss))) H) ∨ (∃ t, TyX K H v (.type t) ∧ t ∈ kinds ∧ t ≠ "str" ∧ Q (.bl false) H) := by
    rcases h with ⟨s, rfl, hs, q⟩ | ⟨⟨s, rfl, hs⟩ | ⟨t, ty, kt, nt⟩, q⟩
    · exact .inl ⟨s, rfl, by rw [decide_eq_true hs]; exact q⟩
    · exact .inl ⟨s, rfl, by rw [decide_eq_false hs]; exact q⟩
    · exact .inr ⟨t, ty, kt, nt, q⟩
  rcases go with ⟨s, rfl, q⟩ | ⟨t, ty, kt, nt, q⟩
  · refine ⟨_, rfl, .str s, _, _, _, _, rfl, .ty "str", .base (.str s), kit_str (t := "str") (by decide), _, rfl, ?_⟩
    refine iteT ⟨_, rfl, _, rfl, x, C, dx, fx, _, rfl, ix, T.cl, T.n4, f4, d1, _, rfl, DGet.k (k := .inr s) vx.p1, ?_⟩
    rw [peo_in ln]
    exact q
  · refine ⟨_, rfl, v, _, _, _, _, rfl, .ty "str", ty, kit_str kt, _, rfl, ?_⟩
    rw [decide_eq_false nt]
    exact iteF q
theorem ok_Ne {f fI fE : Addr} {fd id' ed : FuncData} (F : Fun K "need_house" "Valley.need_house" sNe f fd) (B : Bl mg) (T : VcT K C)
    (FI : Fun K "is_house" "Valley.is_house" sIs fI id') (hI : Meth K C "is_house" fI) (bI : Binds K id' ["self", "thing"] [])
    (TF : FeC K mg CF) (TC : ErF K mg "NoHouse" CN fE ["house"]) (FE : Fun K "__init__" "NoHouse.__init__" sIN fE ed) (bE : Binds K ed ["self", "house"] []) :
    FnOk P w K mg base (L2.CX P w) 3 f fd ["self", "house"] (spNe K C CN) := by
  have GI := ok_Is (P := P) (w := w) (base := base) FI B T
  have GE := ok_iN (P := P) (w := w) (base := base) FE TF TC
  refine F.okX scNe (fun vs H Q E h => ?_) (fun cdv A outer s H vs Q E hr h => ?_)
  · obtain ⟨x, v, ss, rs, ns, rfl, _⟩ := h
    rfl
  obtain ⟨x, v, ss, rs, ns, rfl, vx, h⟩ := h
  have hr1 : Room 1 _ := hr.mono (by decide)
  have hr2 : Room 2 _ := hr.mono (by decide)
  refine ⟨_, pss_one (by exact (ps_if (pt_not (pt_val (pe_meth (pv 0) T.cl hI GI hr1 bI .nil pass0 (pa_cons (pv 1) pa_nil))))
    (pss_one (by exact (ps_raise rfl (takes_of rfl rfl rfl rfl) (pmk_oex TC.ox TC.ini TC.ty GE hr2 bE .nil pass0 rfl TC.m (pa_cons (pv 1) pa_nil))))) pss_nil)), ?_⟩
  obtain ⟨dx, fx, ix, _, _, _, _, _, _, f0⟩ := vx.2.choose_spec.choose_spec.choose_spec.choose_spec.choose_spec.choose_spec.choose_spec.choose_spec.ins
  refine ⟨_, rfl, x, dx, fx, rfl, ix, f0 _ (by decide +kernel) (by decide +kernel) (by decide +kernel) (by decide +kernel) (by decide +kernel) (by decide +kernel), _, rfl, x, v, ss, rs, ns, rfl, vx, ?_⟩
  rcases h with ⟨s, rfl, hs, q⟩ | ⟨n, g⟩
  · exact .inl ⟨s, rfl, hs, _, rfl, iteF q⟩
  · exact .inr ⟨n, _, rfl, iteT ⟨_, rfl, (by show 1 ≤ 1000; decide), raise_one g (Same.refl _)⟩⟩
theorem ok_Pl {f fN fE : Addr} {fd nd_ ed : FuncData} (F : Fun K "place" "Valley.place" sPl f fd) (B : Bl mg) (T : VcT K C)
    (GN : FnOk P w K mg base (L2.CX P w) 3 fN nd_ ["self", "house"] (spNe K C CN)) (hN : Meth K C "need_house" fN) (bN : Binds K nd_ ["self", "house"] [])
    (TF : FeC K mg CF) (TC : ErF K mg "NoRoad" CO fE ["one", "other"]) (FE : Fun K "__init__" "NoRoad.__init__" sIO fE ed) (bE : Binds K ed ["self", "one", "other"] []) :
    FnOk P w K mg base (L2.CX P w) 4 f fd ["self", "one", "other"] (spPl K C CN CO) := by
  have GE := ok_iO (P := P) (w := w) (base := base) FE TF TC
  refine F.okX scPl (fun vs H Q E h => ?_) (fun cdv A outer s H vs Q E hr h => ?_)
  · obtain ⟨x, v, u, ss, rs, ns, rfl, _⟩ := h
    rfl
  obtain ⟨x, v, u, ss, rs, ns, rfl, iv, h⟩ := h
  obtain ⟨ln, l1, l2, l3, d1, d2, d3, qs, bs, vx⟩ := id iv
  obtain ⟨dx, fx, ix, f1, f2, f3, f4, f5, f6, f0⟩ := vx.ins
  have hu := hu_of hr
  have hr3 : Room 3 _ := hr.mono (by decide)
  have hr2 : Room 2 _ := hr.mono (by decide)
  have nN : fx.lookup ("need_house" : Str) = none := f0 _ (by decide +kernel) (by decide +kernel) (by decide +kernel) (by decide +kernel) (by decide +kernel) (by decide +kernel)
  refine ⟨_, pss_cons (by exact (ps_expr (pe_meth (pv 0) T.cl hN GN hr3 bN .nil (passes_call (takes_of rfl rfl rfl rfl) (fun _ _ _ _ h => h)) (pa_cons (pv 1) pa_nil))))
    (pss_cons (by exact (ps_expr (pe_meth (pv 0) T.cl hN GN hr3 bN .nil (passes_call (takes_of rfl rfl rfl rfl) (fun _ _ _ _ h => h)) (pa_cons (pv 2) pa_nil))))
    (pss_cons (by exact (ps_if (pt_cmp (pc_dnotin hu (pe_tup (pa_cons (pv 1) (pa_cons (pv 2) pa_nil))) (pe_fld (pv 0) rfl)) (by with_unfolding_all rfl))
      (pss_one (by exact (ps_raise rfl (takes_of rfl rfl rfl rfl) (pmk_oex TC.ox TC.ini TC.ty GE hr2 bE .nil pass0 rfl TC.m (pa_cons (pv 1) (pa_cons (pv 2) pa_nil)))))) pss_nil))
    (pss_one (by exact (ps_ret (pe_dget hu (pe_fld (pv 0) rfl) (pe_tup (pa_cons (pv 1) (pa_cons (pv 2) pa_nil))) (fun _ _ => rfl))))))), ?_⟩
  refine ⟨_, rfl, x, dx, fx, rfl, ix, nN, _, rfl, x, v, ss, rs, ns, rfl, iv, ?_⟩
  rcases h with ⟨n, g⟩ | ⟨s, rfl, hs, h⟩
  · exact .inr ⟨n, g⟩
  refine .inl ⟨s, rfl, hs, _, rfl, x, dx, fx, rfl, ix, nN, _, rfl, x, u, ss, rs, ns, rfl, iv, ?_⟩
  rcases h with ⟨n, g⟩ | ⟨t, rfl, ht, h⟩
  · exact .inr ⟨n, g⟩
  obtain ⟨kv, k1, k2, k3⟩ := vx.p2
  refine .inl ⟨t, rfl, ht, _, rfl, _, rfl, (by show 2 ≤ sizeLine; decide), fun b hb => ?_⟩
  have eb := K1.Same.upd (H := H) (p := b) (o := .tup [.str s, .str t]) hb
  refine ⟨_, rfl, x, C, dx, fx, _, rfl, eb _ _ ix, T.cl, T.n5, f5, d2, _, rfl, DGet.t (k := [.inr s, .inr t]) (eb _ _ k1) upd_same, ?_⟩
  rw [k2 s t]
  rcases h with ⟨n, g⟩ | ⟨i, n, q⟩
  · rw [n]
    exact ⟨_, rfl, iteT ⟨_, rfl, _, rfl, (by show 2 ≤ 1000; decide), raise_two g eb⟩⟩
  · rw [n]
    refine ⟨_, rfl, iteF ⟨_, rfl, x, C, dx, fx, _, rfl, eb _ _ ix, T.cl, T.n5, f5, _, rfl, _, rfl, (by show 2 ≤ sizeLine; decide), fun b2 hb2 => ?_⟩⟩
    have eb2 := K1.Same.upd (H := upd H b (.tup [.str s, .str t])) (p := b2) (o := .tup [.str s, .str t]) hb2
    have dg := DGet.t (k := [.inr s, .inr t]) (eb2 _ _ (eb _ _ k1)) upd_same
    rw [k2 s t, n] at dg
    exact ⟨d2, _, rfl, dg, q _ (eb.trans eb2)⟩
end
end K1
end
-- NNear
section
set_option Elab.async false
set_option linter.all false
set_option maxRecDepth 100000
set_option maxHeartbeats 4000000
namespace K1
open PySem PySem.Spec PyProof.Rows L2
theorem nodup_len {α : Type} [DecidableEq α] : ∀ {xs ys : List α}, xs.Nodup → (∀ x ∈ xs, x ∈ ys) → xs.length ≤ ys.length
  | [], _, _, _ => Nat.zero_le _
  | x :: xs, ys, n, h => by
    rw [List.nodup_cons] at n
    have hx := h x (List.mem_cons_self ..)
    have ih := nodup_len (ys := ys.erase x) n.2 fun y hy => (List.mem_erase_of_ne (fun z => n.1 (by rw [← z]; exact hy))).mpr (h y (List.mem_cons_of_mem _ hy))
    rw [List.length_erase_of_mem hx] at ih
    have := List.length_pos_of_mem hx
    rw [List.length_cons]
    omega
/-- while, with a measure that stands in the invariant -/
theorem while_gh {c : TT} {tb : TS} {D : Ends} {σ : L2.St} {H : Hp} (Pv : Nat → L2.St → Hp → Prop) (m0 : Nat) (h0 : Pv m0 σ H)
    (hs : ∀ m σ H, Pv m σ H → c σ H fun b H1 => if b = true then tb { D with nx := fun σ' H' => ∃ m', m' < m ∧ Pv m' σ' H', ct := fun σ' H' => ∃ m', m' < m ∧ Pv m' σ' H', bk := D.nx } σ H1 else D.nx σ H1)
    (mono : ∀ σ H Q Q', (∀ b H1, Q b H1 → Q' b H1) → c σ H Q → c σ H Q') : tWhile c tb D σ H := by
  refine ⟨Pv, ⟨m0, h0⟩, fun m σ H p => mono σ H _ _ (fun b H1 q => ?_) (hs m σ H p)⟩
  cases b with
  | true => exact ⟨_, fun σ' H' z => z, q⟩
  | false => exact q
theorem gN {i : Nat} {v : V} {σ : L2.St} {H : Hp} {Q : L2.St → Hp → Prop} (h : Q (σ.set i (some v)) H) : gName i v σ H Q := h
theorem sQ {t u : TS} {D : Ends} {σ : L2.St} {H : Hp} (h : t { D with nx := u D } σ H) : tSeq t u D σ H := h
/-- a search outward from a house: those gone through, those that wait, and the next house towards the start -/
structure SeaN (ss : List Str) (rs : List (Str × Str)) (o : Str) (done wt : List Str) (kvs : List (Key × V)) : Prop where
  nd : (done ++ wt).Nodup
  ins : ∀ s ∈ done ++ wt, s ∈ ss
  keys : ∀ s, (valV kvs (.inr s)).isSome = decide (s ∈ done ++ wt)
  len : kvs.length ≤ (done ++ wt).length
  st : o ∈ done ++ wt
  path : ∀ s ∈ done ++ wt, ∃ l, Pt rs s l o ∧ (∀ z ∈ l, z ∈ done ++ wt) ∧ (s ≠ o → ∃ u r, l = s :: u :: r ∧ valV kvs (.inr s) = some (.str u))
def Clo (rs : List (Str × Str)) (all : List Str) (s : Str) : Prop := ∀ t, nbB rs s t = true → t ∈ all
theorem SeaN.le {ss : List Str} {rs : List (Str × Str)} {o : Str} {done wt : List Str} {kvs : List (Key × V)} (S : SeaN ss rs o done wt kvs) : (done ++ wt).length ≤ ss.length := nodup_len S.nd S.ins
theorem SeaN.init {ss : List Str} {rs : List (Str × Str)} {o : Str} (ho : o ∈ ss) : SeaN ss rs o [] [o] [(.inr o, .non)] := by
  refine ⟨by simp, fun s hs => by rw [List.mem_singleton.mp hs]; exact ho, fun s => ?_, Nat.le_refl _, by simp, fun s hs => ?_⟩
  · by_cases e : s = o
    · subst e
      rw [valV_pos (p := (Sum.inr s, V.non)) rfl]
      simp
    · rw [valV_neg (p := (Sum.inr o, V.non)) (fun z => e (Sum.inr.inj z).symm)]
      simp [e, valV_nil]
  · have e := List.mem_singleton.mp hs
    subst e
    exact ⟨_, .one s, fun z hz => hz, fun n => absurd rfl n⟩
/-- the last one that waits is taken up -/
theorem SeaN.take {ss : List Str} {rs : List (Str × Str)} {o : Str} {done wt : List Str} {h : Str} {kvs : List (Key × V)} (S : SeaN ss rs o done (wt ++ [h]) kvs) : SeaN ss rs o (done ++ [h]) wt kvs := by
  have p : (done ++ (wt ++ [h])).Perm (done ++ [h] ++ wt) := by
    rw [List.append_assoc]
    exact List.Perm.append_left _ List.perm_append_comm
  have m : ∀ z, z ∈ done ++ (wt ++ [h]) ↔ z ∈ done ++ [h] ++ wt := fun z => p.mem_iff
  refine ⟨p.nodup_iff.mp S.nd, fun s hs => S.ins s ((m s).mpr hs), fun s => ?_, by rw [← p.length_eq]; exact S.len, (m o).mp S.st, fun s hs => ?_⟩
  · rw [S.keys s]
    exact decide_eq_decide.mpr (m s)
  · obtain ⟨l, a, b, c⟩ := S.path s ((m s).mpr hs)
    exact ⟨l, a, fun z hz => (m z).mp (b z hz), c⟩
/-- a house is found from one that was taken up -/
theorem SeaN.add {ss : List Str} {rs : List (Str × Str)} {o : Str} {done wt : List Str} {h f : Str} {kvs : List (Key × V)} (S : SeaN ss rs o done wt kvs) (hh : h ∈ done ++ wt) (he : EndsIn ss rs) (q : nbB rs h f = true) (n : f ∉ done ++ wt) :
    SeaN ss rs o done (wt ++ [f]) (putK kvs (.inr f) (.str h)) := by
  have m : ∀ z, z ∈ done ++ (wt ++ [f]) ↔ z ∈ done ++ wt ∨ z = f := fun z => by
    rw [← List.append_assoc, List.mem_append, List.mem_singleton]
  have vn : valV kvs (.inr f) = none := by
    have := S.keys f
    rw [decide_eq_false n] at this
    cases e : valV kvs (.inr f) with
    | none => rfl
    | some v => rw [e] at this; cases this
  refine ⟨?_, fun s hs => ?_, fun s => ?_, ?_, (m o).mpr (.inl S.st), fun s hs => ?_⟩
  · rw [← List.append_assoc, List.nodup_append]
    exact ⟨S.nd, by simp, fun x hx y hy => by rw [List.mem_singleton.mp hy]; intro z; exact n (by rw [← z]; exact hx)⟩
  · rcases (m s).mp hs with hs | rfl
    · exact S.ins s hs
    · exact (he.nb q).2
  · rw [valV_put]
    by_cases e : s = f
    · subst e
      rw [if_pos rfl, decide_eq_true ((m s).mpr (.inr rfl))]
      rfl
    · rw [if_neg fun z => e (Sum.inr.inj z), S.keys s]
      exact decide_eq_decide.mpr ⟨fun h => (m s).mpr (.inl h), fun h => ((m s).mp h).resolve_right e⟩
  · rw [putK_new _ vn, List.length_append, ← List.append_assoc, List.length_append]
    have := S.len
    simp only [List.length_singleton]
    omega
  · rcases (m s).mp hs with hs | rfl
    · obtain ⟨l, a, b, c⟩ := S.path s hs
      refine ⟨l, a, fun z hz => (m z).mpr (.inl (b z hz)), fun ne => ?_⟩
      obtain ⟨u, r, e1, e2⟩ := c ne
      exact ⟨u, r, e1, by rw [valV_put, if_neg fun z => n (by rw [← Sum.inr.inj z]; exact hs)]; exact e2⟩
    · obtain ⟨l, a, b, c⟩ := S.path h hh
      have nl : s ∉ l := fun z => n (b s z)
      obtain ⟨r, rfl⟩ := a.head
      refine ⟨s :: h :: r, .cons (by rw [nbB_swap]; exact q) a nl, fun z hz => ?_, fun _ => ⟨h, r, rfl, by rw [valV_put, if_pos rfl]⟩⟩
      rcases List.mem_cons.mp hz with rfl | hz
      · exact (m z).mpr (.inr rfl)
      · exact (m z).mpr (.inl (b z hz))
def spNr (C : Addr) : Sp := fun vs H Q _ => ∃ x o ss rs ns, vs = [.ref x, .str o] ∧ IsV C H x ss rs ns ∧ Tree ss rs ∧ ss.length ≤ 1000 ∧ o ∈ ss ∧
  ∀ r kvs H', Same H H' → H r = none → H' r = some (.dK kvs) → (∀ s ∈ ss, s ≠ o → ∃ u l, valV kvs (.inr s) = some (.str u) ∧ Pt rs s (s :: u :: l) o) → Q (.ref r) H'
theorem scNr : FnScope ["self", "start", "found", "waiting", "house", "far"] ["self", "start"] (defScope sNr) := ⟨rfl, rfl, rfl, by decide +kernel, rfl, by decide +kernel, by decide +kernel⟩
section
variable {P : Program} {w : World} {K : PySem.W.Frag} {mg : Str → Option Value} {base : Heap} {CF C CN CO : Addr}
theorem ok_Nr {f : Addr} {fd : FuncData} (F : Fun K "nearer" "Valley.nearer" sNr f fd) (T : VcT K C) : FnOk P w K mg base CX0 1 f fd ["self", "start"] (spNr C) := by
  refine F.ok scNr (fun vs H Q E h => ?_) (fun cdv A outer s H vs Q E hr h => ?_)
  · obtain ⟨x, o, ss, rs, ns, rfl, _⟩ := h
    rfl
  obtain ⟨x, o, ss, rs, ns, rfl, ⟨ln, l1, l2, l3, d1, d2, d3, qs, bs, vx⟩, tr, hl, ho, q⟩ := h
  have nd := scNr.nd
  have hu := hu_of hr
  obtain ⟨dx, fx, ix, f1, f2, f3, f4, f5, f6, f0⟩ := vx.ins
  refine ⟨_, (pss_cons (by exact (ps_set (i := 2) nd rfl (.inl rfl) (pe_disp (pps_cons (pv 1) pe_non pps_nil) (by rfl) (by rfl) (fun z => by cases z) (by decide))))
  (pss_cons (by exact (ps_set (i := 3) nd rfl (.inl rfl) (pe_lst (pa_cons (pv 1) pa_nil))))
  (pss_cons (by exact (ps_while PassesOwn.never (pt_truth (pv 3) (fun _ => rfl)) (pss_cons (by exact (ps_set (i := 4) nd rfl (.inl rfl) (pe_bm0 PySem.F.plainAttrs_list PySem.F.slot_list_pop PySem.F.type_list_pop mt_pop (pv 3))))
  (pss_one (by exact (ps_for PassesOwn.never rfl (by exact pi_list (pe_dget hu (pe_fld (pv 0) rfl) (pv 4) (fun _ _ => rfl))) (pg_name (i := 5) nd rfl (.inl rfl)) (pss_one (by exact (ps_if (pt_cmp (pc_dnotin hu (pv 5) (pv 2)) (by with_unfolding_all rfl)) (pss_cons (by exact (ps_dput hu (pv 2) (pv 5) (pv 4) rfl))
  (pss_one (by exact (ps_expr (pe_bm PySem.F.plainAttrs_list PySem.F.slot_list_append PySem.F.type_list_append mt_append (pv 3) (pa_cons (pv 5) pa_nil)))))) pss_nil)))))))))
  (pss_one (by exact (ps_ret (pv 2))))))), ?_⟩
  intro D hD
  refine ⟨_, rfl, upd_same, [(.inr o, .non)], rfl, (by show 1 ≤ 15; decide), ?_⟩
  have eD : Same H (upd (upd H D (.dK [])) D (.dK (mergeK [] [(Sum.inr o, V.non)]))) := fun b u n => by
    rw [upd_ne (ne_of_none n hD), upd_ne (ne_of_none n hD)]
    exact n
  have gD : upd (upd H D (.dK [])) D (.dK (mergeK [] [(Sum.inr o, V.non)])) D = some (.dK [(.inr o, .non)]) := upd_same
  generalize upd (upd H D (.dK [])) D (.dK (mergeK [] [(Sum.inr o, V.non)])) = H1 at eD gD ⊢
  refine ⟨_, rfl, (by show 1 ≤ sizeLine; decide), fun W hW => ?_⟩
  have WD : W ≠ D := fun z => by rw [z, gD] at hW; cases hW
  have hW0 : H W = none := eD.free hW
  refine gN ?_
  with_reducible refine sQ ?_

  refine while_gh (fun m σ Hc => (∃ a b, σ = [some (.ref x), some (.str o), some (.ref D), some (.ref W), a, b]) ∧ Same H Hc ∧ ∃ done wt kvs, Hc D = some (.dK kvs) ∧ Hc W = some (.lst (wt.map V.str)) ∧ SeaN ss rs o done wt kvs ∧ (∀ s ∈ done, Clo rs (done ++ wt) s) ∧ m = ss.length - done.length) ss.length
    ⟨⟨_, _, rfl⟩, fun b u n => by rw [upd_ne (ne_of_none n hW0)]; exact eD b u n, [], [o], _, by rw [upd_ne WD.symm]; exact gD, upd_same, SeaN.init ho, fun s hs => absurd hs (by simp), by simp⟩ ?_ ?_
  · rintro m σ Hc ⟨⟨ya, yb, rfl⟩, e1, done, wt, kvs, g1, g2, S, C1, rfl⟩
    refine ⟨_, rfl, _, .inl ⟨_, SqL.of g2, rfl⟩, ?_⟩
    rcases List.eq_nil_or_concat wt with rfl | ⟨wt, h, rfl⟩
    · refine iteF ⟨_, rfl, q D kvs Hc e1 hD g1 fun s hs ne => ?_⟩
      rw [List.append_nil] at C1
      have hin : ∀ t ∈ ss, t ∈ done := fun t ht => by
        refine tr.all (S := fun u => u ∈ done) (fun e he => ?_) ho ht (by have := S.st; rw [List.append_nil] at this; exact this)
        have q1 : nbB rs e.1 e.2 = true := nbB_iff.mpr (.inl he)
        exact ⟨fun h => C1 _ h _ q1, fun h => C1 _ h _ (by rw [nbB_swap]; exact q1)⟩
      obtain ⟨l, a, _, c⟩ := S.path s (by rw [List.append_nil]; exact hin s hs)
      obtain ⟨u, r, rfl, c2⟩ := c ne
      exact ⟨u, r, c2, a⟩
    · rw [List.concat_eq_append] at g2 S C1 ⊢
      have ne : (!((wt ++ [h]).map V.str).isEmpty) = true := by cases wt <;> rfl
      rw [ne]
      refine iteT ?_
      have lt1 : done.length < ss.length := by
        have := S.le
        rw [List.length_append, List.length_append] at this
        simp only [List.length_singleton] at this
        omega
      have hlast : ((wt ++ [h]).map V.str)[((wt ++ [h]).map V.str).length - 1]? = some (.str h) := by
        rw [List.map_append]
        simp
      refine ⟨_, rfl, .inl ⟨rfl, _, SqL.of g2⟩, W, _, .str h, rfl, rfl, g2, hlast, ?_⟩
      have dl : ((wt ++ [h]).map V.str).dropLast = wt.map V.str := by rw [List.map_append]; exact List.dropLast_concat
      rw [dl]
      have S1 := S.take
      have e2 : Same H (upd Hc W (.lst (wt.map V.str))) := fun b u n => by rw [upd_ne (ne_of_none n hW0)]; exact e1 b u n
      have gD2 : upd Hc W (.lst (wt.map V.str)) D = some (.dK kvs) := by rw [upd_ne WD.symm]; exact g1
      have gW2 : upd Hc W (.lst (wt.map V.str)) W = some (.lst (wt.map V.str)) := upd_same
      generalize upd Hc W (.lst (wt.map V.str)) = Hd at e2 gD2 gW2 ⊢
      have hss : h ∈ ss := S1.ins h (by simp)
      obtain ⟨kv3, k1, k2, k3⟩ := vx.p3
      have dg := DGet.k (k := .inr h) (e2 _ _ k1)
      rw [k3 h hss] at dg
      refine gN ?_
      refine ⟨_, rfl, x, C, dx, fx, _, rfl, e2 _ _ ix, T.cl, T.n6, f6, _, rfl, d3, _, rfl, dg, bs h, rfl, ⟨_, SqL.of (e2 _ _ (vx.nb h hss))⟩, ?_⟩
      refine for_it walk_list (fun i σ Hd => (∃ b, σ = [some (.ref x), some (.str o), some (.ref D), some (.ref W), some (.str h), b]) ∧ Same H Hd ∧ ∃ wt' kvs', Hd D = some (.dK kvs') ∧ Hd W = some (.lst (wt'.map V.str)) ∧ SeaN ss rs o (done ++ [h]) wt' kvs' ∧ (∀ s ∈ done, Clo rs (done ++ [h] ++ wt') s) ∧ ∀ t ∈ (nbs ss rs h).take i, t ∈ done ++ [h] ++ wt')
        ⟨⟨_, rfl⟩, e2, wt, kvs, gD2, gW2, S1, fun s hs t ht => ?_, fun t ht => absurd ht (by simp)⟩ (fun i σ Hd _ hh => SqL.of (hh.2.1 _ _ (vx.nb h hss))) ?_ ?_
      · have := C1 s hs t ht
        simp only [List.mem_append, List.mem_singleton] at this ⊢
        rcases this with a | a | a
        · exact .inl (.inl a)
        · exact .inr a
        · exact .inl (.inr a)
      · rintro i y σ Hd' H' hi ⟨⟨b, rfl⟩, e3, wt', kvs', gD3, gW3, S3, C3, N3⟩ ⟨rfl, hy⟩
        rw [List.length_map] at hi
        rw [List.getElem?_map, List.getElem?_eq_getElem hi] at hy
        obtain rfl := Option.some.inj hy
        have hf : (nbs ss rs h)[i] ∈ nbs ss rs h := List.getElem_mem hi
        have nf := (mem_nbs tr.ends).mp hf
        have lk : (done ++ [h] ++ wt').length ≤ 1000 := Nat.le_trans S3.le hl
        refine ⟨_, rfl, _, rfl, D, _, rfl, DGet.k (k := .inr (nbs ss rs h)[i]) gD3, _, rfl, ?_⟩
        rw [S3.keys]
        refine ite2 (fun c => ?_) (fun c => ?_)
        · have c2 : (nbs ss rs h)[i] ∉ done ++ [h] ++ wt' := fun z => by rw [decide_eq_true z] at c; cases c
          refine ⟨_, rfl, _, rfl, _, rfl, D, _, rfl, DPut.k (k := .inr (nbs ss rs h)[i]) gD3 (Nat.lt_of_le_of_lt S3.len (small1000 lk)), ?_⟩
          have gW4 : upd H' D (.dK (putK kvs' (.inr (nbs ss rs h)[i]) (.str h))) W = some (.lst (wt'.map V.str)) := by rw [upd_ne WD]; exact gW3
          have lw : wt'.length ≤ 1000 := by rw [List.length_append] at lk; omega
          refine ⟨_, rfl, .inl ⟨rfl, _, SqL.of gW4⟩, _, rfl, W, _, _, rfl, rfl, gW4, by rw [List.length_map]; exact small1000 lw, ?_⟩
          refine ⟨⟨_, rfl⟩, fun b u n => ?_, wt' ++ [(nbs ss rs h)[i]], _, by rw [upd_ne WD.symm]; exact upd_same, by rw [upd_same, List.map_append]; rfl, S3.add (by simp) tr.ends nf c2, fun s hs t ht => ?_, fun t ht => ?_⟩
          · rw [upd_ne (ne_of_none n hW0), upd_ne (ne_of_none n hD)]
            exact e3 b u n
          · rw [← List.append_assoc]
            exact List.mem_append_left _ (C3 s hs t ht)
          · rw [← List.append_assoc]
            rcases (mem_take_succ hi).mp ht with ht | rfl
            · exact List.mem_append_left _ (N3 t ht)
            · exact List.mem_append_right _ (by simp)
        · have c2 : (nbs ss rs h)[i] ∈ done ++ [h] ++ wt' := by
            by_cases z : (nbs ss rs h)[i] ∈ done ++ [h] ++ wt'
            · exact z
            · rw [decide_eq_false z] at c
              exact absurd rfl c
          refine ⟨⟨_, rfl⟩, e3, wt', kvs', gD3, gW3, S3, C3, fun t ht => ?_⟩
          rcases (mem_take_succ hi).mp ht with ht | rfl
          · exact N3 t ht
          · exact c2
      · rintro σ Hd' ⟨⟨b, rfl⟩, e3, wt', kvs', gD3, gW3, S3, C3, N3⟩
        rw [List.length_map, List.take_length] at N3
        refine ⟨ss.length - (done ++ [h]).length, by rw [List.length_append, List.length_singleton]; omega, ⟨_, _, rfl⟩, e3, done ++ [h], wt', kvs', gD3, gW3, S3, fun s hs => ?_, rfl⟩
        rcases List.mem_append.mp hs with hs | hs
        · exact C3 s hs
        · rw [List.mem_singleton.mp hs]
          exact fun t ht => N3 t ((mem_nbs tr.ends).mpr ht)
  · rintro σ Hc Q1 Q2 hq ⟨v, hv, k, tk, z⟩
    exact ⟨v, hv, k, tk, hq _ _ z⟩
end
end K1
end
-- NWay
section
set_option Elab.async false
set_option linter.all false
set_option maxRecDepth 100000
set_option maxHeartbeats 4000000
namespace K1
open PySem PySem.Spec PyProof.Rows L2
/-- two houses, or which of them is none -/
def spWa (K : PySem.W.Frag) (C CN : Addr) : Sp := fun vs H Q E => ∃ x v u ss rs ns, vs = [.ref x, v, u] ∧ IsV C H x ss rs ns ∧ Tree ss rs ∧ ss.length ≤ 1000 ∧ ((NoHo K H ss v ∧ GoesF CN [("house", v)] H E) ∨ (∃ s, v = .str s ∧ s ∈ ss ∧ ((NoHo K H ss u ∧ GoesF CN [("house", u)] H E) ∨
  (∃ t, u = .str t ∧ t ∈ ss ∧ ∀ r l H', Same H H' → H r = none → Pt rs s l t → H' r = some (.lst (l.map V.str)) → Q (.ref r) H'))))
theorem scWa : FnScope ["self", "one", "other", "nearer", "through"] ["self", "one", "other"] (defScope sWa) := ⟨rfl, rfl, rfl, by decide +kernel, rfl, by decide +kernel, by decide +kernel⟩
theorem Pt.tl {rs : List (Str × Str)} {s t u : Str} {l : List Str} (h : Pt rs s (s :: u :: l) t) : Pt rs u (u :: l) t := by
  cases h with
  | cons q h n =>
    obtain ⟨r, e⟩ := h.head
    injection e with e1 e2
    subst e1
    exact h
theorem Pt.here {rs : List (Str × Str)} (hc : Cut rs) {s : Str} {r : List Str} (h : Pt rs s (s :: r) s) : r = [] := by
  have := h.uniq hc (.one s)
  injection this with _ e
theorem same_upd {H Hc : Hp} {L : Addr} {o : HO} (e : Same H Hc) (n : H L = none) : Same H (L2.upd Hc L o) := fun b u h => by
  rw [upd_ne (ne_of_none h n)]
  exact e b u h
section
variable {P : Program} {w : World} {K : PySem.W.Frag} {mg : Str → Option Value} {base : Heap} {CF C CN CO : Addr}
theorem ok_Wa {f fN fR : Addr} {fd nd_ rd_ : FuncData} (F : Fun K "way" "Valley.way" sWa f fd) (T : VcT K C)
    (GN : FnOk P w K mg base (L2.CX P w) 3 fN nd_ ["self", "house"] (spNe K C CN)) (hN : Meth K C "need_house" fN) (bN : Binds K nd_ ["self", "house"] [])
    (GR : FnOk P w K mg base CX0 1 fR rd_ ["self", "start"] (spNr C)) (hR : Meth K C "nearer" fR) (bR : Binds K rd_ ["self", "start"] []) :
    FnOk P w K mg base (L2.CX P w) 4 f fd ["self", "one", "other"] (spWa K C CN) := by
  refine F.okX scWa (fun vs H Q E h => ?_) (fun cdv A outer s H vs Q E hr h => ?_)
  · obtain ⟨x, v, u, ss, rs, ns, rfl, _⟩ := h
    rfl
  obtain ⟨x, v, u, ss, rs, ns, rfl, iv, tr, hl, h⟩ := h
  obtain ⟨ln, l1, l2, l3, d1, d2, d3, qs, bs, vx⟩ := id iv
  obtain ⟨dx, fx, ix, f1, f2, f3, f4, f5, f6, f0⟩ := vx.ins
  have nd := scWa.nd
  have hu := hu_of hr
  have hr3 : Room 3 _ := hr.mono (by decide)
  have hr1 : Room 1 _ := hr.mono (by decide)
  have nN : fx.lookup ("need_house" : Str) = none := f0 _ (by decide +kernel) (by decide +kernel) (by decide +kernel) (by decide +kernel) (by decide +kernel) (by decide +kernel)
  have nR : fx.lookup ("nearer" : Str) = none := f0 _ (by decide +kernel) (by decide +kernel) (by decide +kernel) (by decide +kernel) (by decide +kernel) (by decide +kernel)
  refine ⟨_, (pss_cons (by exact (ps_expr (pe_meth (pv 0) T.cl hN GN hr3 bN .nil (passes_call (takes_of rfl rfl rfl rfl) (fun _ _ _ _ h => h)) (pa_cons (pv 1) pa_nil))))
  (pss_cons (by exact (ps_expr (pe_meth (pv 0) T.cl hN GN hr3 bN .nil (passes_call (takes_of rfl rfl rfl rfl) (fun _ _ _ _ h => h)) (pa_cons (pv 2) pa_nil))))
  (pss_cons (by exact (ps_set (i := 3) nd rfl (.inl rfl) (pe_meth (pv 0) T.cl hR GR hr1 bR .nil pass0 (pa_cons (pv 2) pa_nil))))
  (pss_cons (by exact (ps_set (i := 4) nd rfl (.inl rfl) (pe_lst (pa_cons (pv 1) pa_nil))))
  (pss_cons (by exact (ps_while (passes_of rfl) (pt_cmpR op_ne (pe_ix ix_list (pv 4) (pe_un un_neg pe_int) (fun _ _ => rfl)) (pv 2) (nomark _)) (pss_one (by exact (ps_expr (pe_bm PySem.F.plainAttrs_list PySem.F.slot_list_append PySem.F.type_list_append mt_append (pv 4) (pa_cons (pe_dget hu (pv 3) (pe_ix ix_list (pv 4) (pe_un un_neg pe_int) (fun _ _ => rfl)) (fun _ _ => rfl)) pa_nil)))))))
  (pss_one (by exact (ps_ret (pv 4))))))))), ?_⟩
  refine ⟨_, rfl, x, dx, fx, rfl, ix, nN, _, rfl, x, v, ss, rs, ns, rfl, iv, ?_⟩
  rcases h with ⟨n, g⟩ | ⟨s, rfl, hs, h⟩
  · exact .inr ⟨n, g⟩
  refine .inl ⟨s, rfl, hs, _, rfl, x, dx, fx, rfl, ix, nN, _, rfl, x, u, ss, rs, ns, rfl, iv, ?_⟩
  rcases h with ⟨n, g⟩ | ⟨t, rfl, ht, q⟩
  · exact .inr ⟨n, g⟩
  refine .inl ⟨t, rfl, ht, _, rfl, x, dx, fx, rfl, ix, nR, _, rfl, x, t, ss, rs, ns, rfl, iv, tr, hl, ht, fun D kvs H1 e1 nD gD near => ?_⟩
  refine gN ?_
  refine ⟨_, rfl, (by show 1 ≤ sizeLine; decide), fun W hW => ?_⟩
  have hW0 : H W = none := e1.free hW
  have WD : W ≠ D := fun z => by rw [z, gD] at hW; cases hW
  obtain ⟨l0, p0⟩ := tr.way hs ht
  obtain ⟨r0, rfl⟩ := p0.head
  refine gN ?_
  with_reducible refine sQ ?_
  refine while_gh (fun m σ Hc => σ = [some (.ref x), some (.str s), some (.str t), some (.ref D), some (.ref W)] ∧ Same H Hc ∧ Hc D = some (.dK kvs) ∧ ∃ pre cur r, Hc W = some (.lst ((pre ++ [cur]).map V.str)) ∧ cur ∈ ss ∧ Pt rs cur (cur :: r) t ∧ Pt rs s (pre ++ cur :: r) t ∧ m = r.length) r0.length
    ⟨rfl, same_upd e1 hW0, by rw [upd_ne WD.symm]; exact gD, [], s, r0, upd_same, hs, p0, p0, rfl⟩ ?_ ?_
  · rintro m σ Hc ⟨rfl, e2, g1, pre, cur, r, g2, hc, pc, pf, rfl⟩
    have al : atI ((pre ++ [cur]).map V.str) (-1) = some (.str cur) := by rw [List.map_append]; exact atI_last _ _
    refine ⟨_, rfl, _, rfl, W, _, _, _, rfl, rfl, SqL.of g2, al, _, rfl, rfl, _, rfl, ?_⟩
    by_cases e : cur = t
    · subst e
      rw [decide_eq_true rfl]
      refine iteF ⟨_, rfl, q W _ Hc e2 hW0 pf ?_⟩
      rw [pc.here tr.cut]
      exact g2
    · have ne : (!decide (V.str cur = V.str t)) = true := by rw [decide_eq_false (fun z => e (V.str.inj z))]; rfl
      rw [ne]
      obtain ⟨u, l, n1, n2⟩ := near cur hc e
      have el := pc.uniq tr.cut n2
      injection el with _ el
      subst el
      have dg := DGet.k (k := .inr cur) g1
      rw [n1] at dg
      have ln2 : (pre ++ [cur]).length ≤ 1000 := by
        have := nodup_len pf.nd (pf.mem tr.ends ht)
        rw [List.length_append] at this ⊢
        simp only [List.length_cons, List.length_nil] at this ⊢
        omega
      refine iteT ⟨_, rfl, .inl ⟨rfl, _, SqL.of g2⟩, _, rfl, _, rfl, _, rfl, W, _, _, _, rfl, rfl, SqL.of g2, al, D, _, rfl, dg, W, _, _, rfl, rfl, g2, by rw [List.length_map]; exact small1000 ln2, ?_⟩
      refine ⟨l.length, Nat.lt_succ_self _, rfl, same_upd e2 hW0, by rw [upd_ne WD.symm]; exact g1, pre ++ [cur], u, l, by rw [upd_same, List.map_append (l₂ := [u])]; rfl, (pc.mem tr.ends ht) u (by simp), pc.tl, by rw [List.append_assoc]; exact pf, rfl⟩
  · rintro σ Hc Q1 Q2 hq ⟨v1, h1, v2, h2, p, xs, i, y, a, b, c, d, v4, h4, k5, b5, h5, z⟩
    exact ⟨v1, h1, v2, h2, p, xs, i, y, a, b, c, d, v4, h4, k5, b5, h5, hq _ _ z⟩
end
end K1
end
-- WProg1
section
set_option Elab.async false
set_option linter.all false
set_option maxRecDepth 100000
set_option maxHeartbeats 4000000
namespace K1
open PySem PySem.Spec PyProof.Rows L2 W0
abbrev sIV : Stmt := inClass (top 6) 0
abbrev sNv : Stmt := top 30
theorem scIV : FnScope ["self", "thing"] ["self", "thing"] (defScope sIV) := ⟨rfl, rfl, rfl, by decide +kernel, rfl, by decide +kernel, by decide +kernel⟩
theorem scNv : FnScope ["valley"] ["valley"] (defScope sNv) := ⟨rfl, rfl, rfl, by decide +kernel, rfl, by decide +kernel, by decide +kernel⟩
/-- what is no Valley -/
def NoV (K : PySem.W.Frag) (H : Hp) (v : V) : Prop := ∃ t, TyF K H v (.type t) ∧ t ∈ kinds ++ ["function"]
theorem NoV.ext {K : PySem.W.Frag} {H H' : Hp} {v : V} (h : NoV K H v) (e : Same H H') : NoV K H' v := by
  obtain ⟨t, a, b⟩ := h
  exact ⟨t, a.imp (fun x => TyX.ext x e) id, b⟩
def spNv (K : PySem.W.Frag) (C CV : Addr) : Sp := fun vs H Q E => ∃ v, vs = [v] ∧ ((∃ x ss rs ns, v = .ref x ∧ IsV C H x ss rs ns ∧ Q .non H) ∨ (NoV K H v ∧ GoesF CV [("thing", v)] H E))
/-- an int, or what is none -/
def NotI (K : PySem.W.Frag) (H : Hp) (v : V) : Prop := ∃ t, TyX K H v (.type t) ∧ t ∈ kinds ∧ t ≠ "int"
def spNumX (K : PySem.W.Frag) : Sp := fun vs H Q _ => ∃ (v : V), vs = [v] ∧ ((∃ i, v = .int i ∧ Q (.bl (decide (0 ≤ i))) H) ∨ (NotI K H v ∧ Q (.bl false) H))
section
variable {P : Program} {w : World} {K : PySem.W.Frag} {mg : Str → Option Value} {base : Heap} {CF : Addr}
theorem ok_iV {f C : Addr} {fd : FuncData} (F : Fun K "__init__" "BadValley.__init__" sIV f fd) (T : FeC K mg CF) (TC : ErF K mg "BadValley" C f ["thing"]) : FnOk P w K mg base CX0 1 f fd ["self", "thing"] (spEr1 C "thing") := by
  refine F.ok scIV (fun vs H Q E h => ?_) (fun cdv A outer s H vs Q E hr h => ?_)
  · obtain ⟨a, v, rfl, _⟩ := h
    rfl
  obtain ⟨a, v, rfl, ha, q⟩ := h
  refine ⟨_, pss_cons (by exact ps_expr (pe_feinit rfl T (pa_cons (pv 0) (pa_cons pe_str pa_nil)))) (pss_one (by exact ps_ost (pv 0) (pv 1))), ?_⟩
  refine ⟨_, rfl, a, C, [.str _], rfl, (by decide), TC.ox, ha, _, rfl, _, rfl, a, C, rfl, TC.ox, TC.no _ (by simp), .inl ⟨ha, fun d hd n => q d hd n⟩⟩
theorem ok_Nv {f fE C CV : Addr} {fd ed : FuncData} (F : Fun K "need_valley" "need_valley" sNv f fd) (B : Bl mg) (T : VcE K C) (mV : mg "Valley" = some (.ref C))
    (TF : FeC K mg CF) (TC : ErF K mg "BadValley" CV fE ["thing"]) (FE : Fun K "__init__" "BadValley.__init__" sIV fE ed) (bE : Binds K ed ["self", "thing"] []) : FnOk P w K mg base (L2.CX P w) 3 f fd ["valley"] (spNv K C CV) := by
  have GE := ok_iV (P := P) (w := w) (base := base) FE TF TC
  refine F.okX scNv (fun vs H Q E h => ?_) (fun cdv A outer s H vs Q E hr h => ?_)
  · obtain ⟨v, rfl, _⟩ := h
    rfl
  obtain ⟨v, rfl, h⟩ := h
  have hr2 : Room 2 _ := hr.mono (by decide)
  refine ⟨_, pss_one (by exact (ps_if (pt_not (pt_val (pe_callB call_isiF rfl B.isi PyProof.Rows.boot_isinstance (pa_cons (pv 0) (pa_cons (pe_glob (v := .ref C) rfl mV rfl) pa_nil)))))
    (pss_one (by exact (ps_raise rfl (takes_of rfl rfl rfl rfl) (pmk_oex TC.ox TC.ini TC.ty GE hr2 bE .nil pass0 rfl TC.m (pa_cons (pv 0) pa_nil))))) pss_nil)), ?_⟩
  rcases h with ⟨x, ss, rs, ns, rfl, iv, q⟩ | ⟨⟨t, ty, kt⟩, g⟩
  · obtain ⟨_, l1, l2, l3, d1, d2, d3, qs, bs, vx⟩ := iv
    obtain ⟨dx, fx, ix, _⟩ := vx.ins
    exact ⟨_, rfl, .ref x, _, _, _, _, rfl, .own C, .inl (.base (.ins ix T.cl T.ha T.hn T.htk T.hm)), T.own, _, rfl, iteF q⟩
  · exact ⟨_, rfl, v, _, _, _, _, rfl, .own C, ty, T.no t kt, _, rfl, iteT ⟨_, rfl, (by show 1 ≤ 1000; decide), raise_one g (Same.refl _)⟩⟩
end
end K1
end
-- WProg3
section
set_option Elab.async false
set_option linter.all false
set_option maxRecDepth 100000
set_option maxHeartbeats 4000000
namespace K1
open PySem PySem.Spec PyProof.Rows L2 W0
theorem nQ {D : Ends} {σ : L2.St} {H : Hp} (h : D.nx σ H) : tNext D σ H := h
theorem upd_same' (H : Hp) (a : Addr) (o : HO) : L2.upd H a o a = some o := upd_same
theorem ValS.same {C : Addr} {H H' : Hp} {x l1 l2 l3 d1 d2 d3 : Addr} {qs : List Addr} {bs : Str → Addr} {ss : List Str} {rs : List (Str × Str)} {ns : List Int} (v : ValS C H x l1 l2 l3 d1 d2 d3 qs bs ss rs ns) (e : Same H H') : ValS C H' x l1 l2 l3 d1 d2 d3 qs bs ss rs ns := by
  obtain ⟨dx, fs, a, r⟩ := v.ins
  obtain ⟨k2, a2, b2⟩ := v.p2
  obtain ⟨k3, a3, b3⟩ := v.p3
  exact ⟨⟨dx, fs, e _ _ a, r⟩, e _ _ v.h1, e _ _ v.h2, TupP.ext v.pr e, e _ _ v.h3, e _ _ v.p1, ⟨k2, e _ _ a2, b2⟩, ⟨k3, e _ _ a3, b3⟩, fun s hs => e _ _ (v.nb s hs)⟩
theorem IsV.same {C : Addr} {H H' : Hp} {x : Addr} {ss : List Str} {rs : List (Str × Str)} {ns : List Int} (v : IsV C H x ss rs ns) (e : Same H H') : IsV C H' x ss rs ns := by
  obtain ⟨l, l1, l2, l3, d1, d2, d3, qs, bs, h⟩ := v
  exact ⟨l, l1, l2, l3, d1, d2, d3, qs, bs, h.same e⟩
/-- an instance, without fields of these names -/
theorem IsV.inst {C : Addr} {H : Hp} {x : Addr} {ss : List Str} {rs : List (Str × Str)} {ns : List Int} (v : IsV C H x ss rs ns) : ∃ dx fs, H x = some (.ins C dx fs) ∧
    ∀ m : Str, (decide (m ≠ "_houses") && (decide (m ≠ "_roads") && (decide (m ≠ "_heads") && (decide (m ≠ "_people") && (decide (m ≠ "_places") && decide (m ≠ "_beside")))))) = true → fs.lookup m = none := by
  obtain ⟨l, l1, l2, l3, d1, d2, d3, qs, bs, h⟩ := v
  obtain ⟨dx, fs, a, _, _, _, _, _, _, f0⟩ := h.ins
  refine ⟨dx, fs, a, fun m hm => ?_⟩
  simp only [Bool.and_eq_true, decide_eq_true_eq] at hm
  exact f0 m hm.1 hm.2.1 hm.2.2.1 hm.2.2.2.1 hm.2.2.2.2.1 hm.2.2.2.2.2
theorem take_snoc {α : Type} {xs : List α} {i : Nat} (hi : i < xs.length) : xs.take (i + 1) = xs.take i ++ [xs[i]] := by
  rw [List.take_succ, List.getElem?_eq_getElem hi]
  rfl
def spHo (C : Addr) : Sp := fun vs H Q _ => ∃ x ss rs ns, vs = [.ref x] ∧ IsV C H x ss rs ns ∧ ∀ l, H l = none → Q (.ref l) (L2.upd H l (.lst (ss.map V.str)))
def spRo (C : Addr) : Sp := fun vs H Q _ => ∃ x ss rs ns, vs = [.ref x] ∧ IsV C H x ss rs ns ∧ ∀ l qs, H l = none → Paired (TupP H) qs rs → Q (.ref l) (L2.upd H l (.lst (qs.map V.ref)))
def isRow (ss : List Str) (rs : List (Str × Str)) : Bool := ss.all fun s => decide ((nbs ss rs s).length ≤ 2)
def isStar (ss : List Str) (rs : List (Str × Str)) : Bool := ss.any fun s => decide ((nbs ss rs s).length = rs.length)
theorem ps_same_upd {H Hc : Hp} {L : Addr} {o : HO} (e : Same H Hc) (n : H L = none) : Same H (L2.upd Hc L o) := fun b u h => by
  rw [upd_ne (ne_of_none h n)]
  exact e b u h
section
variable {P : Program} {w : World} {K : PySem.W.Frag} {mg : Str → Option Value} {base : Heap} {C CN CV : Addr}
theorem ok_Ho {f : Addr} {fd : FuncData} (F : Fun K "houses" "Valley.houses" sVH f fd) (B : Bl mg) (T : VcT K C) : FnOk P w K mg base CX0 1 f fd ["self"] (spHo C) := by
  refine F.ok scVH (fun vs H Q E h => ?_) (fun cdv A outer s H vs Q E hr h => ?_)
  · obtain ⟨x, ss, rs, ns, rfl, _⟩ := h
    rfl
  obtain ⟨x, ss, rs, ns, rfl, iv, q⟩ := h
  obtain ⟨l, l1, l2, l3, d1, d2, d3, qs, bs, vx⟩ := iv
  obtain ⟨dx, fx, ix, x1, x2, x3, _⟩ := vx.ins
  refine ⟨_, pss_one (by exact (ps_ret (pe_callTy call_list_of rfl B.list PyProof.Rows.boot_list (pa_cons (pe_fld (pv 0) rfl) pa_nil)))), ?_⟩
  exact ⟨_, rfl, x, C, dx, fx, _, rfl, ix, T.cl, T.n1, x1, l1, _, rfl, .inl (SqL.of vx.h1), q⟩
theorem ok_Ro {f : Addr} {fd : FuncData} (F : Fun K "roads" "Valley.roads" sVR f fd) (B : Bl mg) (T : VcT K C) : FnOk P w K mg base CX0 1 f fd ["self"] (spRo C) := by
  refine F.ok scVR (fun vs H Q E h => ?_) (fun cdv A outer s H vs Q E hr h => ?_)
  · obtain ⟨x, ss, rs, ns, rfl, _⟩ := h
    rfl
  obtain ⟨x, ss, rs, ns, rfl, iv, q⟩ := h
  obtain ⟨l, l1, l2, l3, d1, d2, d3, qs, bs, vx⟩ := iv
  obtain ⟨dx, fx, ix, x1, x2, x3, _⟩ := vx.ins
  refine ⟨_, pss_one (by exact (ps_ret (pe_callTy call_list_of rfl B.list PyProof.Rows.boot_list (pa_cons (pe_fld (pv 0) rfl) pa_nil)))), ?_⟩
  exact ⟨_, rfl, x, C, dx, fx, _, rfl, ix, T.cl, T.n2, x2, l2, _, rfl, .inl (SqL.of vx.h2), fun l hl => q l qs hl vx.pr⟩
end
end K1
end
-- WRun
section
set_option Elab.async false
set_option linter.all false
set_option maxRecDepth 100000
set_option maxHeartbeats 1000000
namespace K1
open PySem PySem.Spec PyProof.Rows L2 W0
theorem ret_run {te : TE} {D : Ends} {σ : L2.St} {H : Hp} (h : te σ H D.rt) : tRet te D σ H := h
theorem cons_run {t : TE} {ta : TA} {σ : L2.St} {H : Hp} {Q : List V → Hp → Prop} (h : t σ H fun x H1 => ta σ H1 fun xs H2 => Q (x :: xs) H2) : tCons t ta σ H Q := h
theorem tup_runE {ta : TA} {σ : L2.St} {H : Hp} {Q : VK} (h : ta σ H fun xs H1 => xs.length ≤ sizeLine ∧ ∀ p, H1 p = none → Q (.ref p) (L2.upd H1 p (.tup xs))) : tTup ta σ H Q := h
theorem take_filter_succ {f : Str → Bool} {pt : List Str} {i : Nat} (hi : i < pt.length) : (pt.take (i + 1)).filter f = (pt.take i).filter f ++ if f pt[i] = true then [pt[i]] else [] := by
  rw [take_snoc hi, List.filter_append]
  congr 1
  rw [List.filter_cons, List.filter_nil]
theorem paired_snoc {α β : Type} {F : α → β → Prop} : ∀ {xs : List α} {ys : List β}, Paired F xs ys → ∀ {a : α} {b : β}, F a b → Paired F (xs ++ [a]) (ys ++ [b])
  | _, _, .nil, _, _, f => .cons f .nil
  | _, _, .cons g r, _, _, f => .cons g (paired_snoc r f)
end K1
end
-- ERoad
section
set_option Elab.async false
set_option linter.all false
set_option maxRecDepth 100000
set_option maxHeartbeats 1000000
namespace K1
open PySem PySem.Spec PyProof.Rows L2 W0
abbrev sRd : Stmt := inClass (top 21) 9
theorem scRd : FnScope ["self", "thing"] ["self", "thing"] (defScope sRd) := ⟨rfl, rfl, rfl, by decide +kernel, rfl, by decide +kernel, by decide +kernel⟩
def RoadV (H : Hp) (rs : List (Str × Str)) (v : V) (i : Nat) : Prop := ∃ s t : Str, SeqV H v [.str s, .str t] ∧ plOf rs s t = some i
def NoRd (K : PySem.W.Frag) (H : Hp) (ss : List Str) (rs : List (Str × Str)) (v : V) : Prop := NoSeq K H v ∨ (∃ xs, SeqV H v xs ∧ xs.length ≠ 2) ∨
  (∃ x y, SeqV H v [x, y] ∧ (NoHo K H ss x ∨ ∃ s, x = .str s ∧ s ∈ ss ∧ (NoHo K H ss y ∨ ∃ t, y = .str t ∧ t ∈ ss ∧ plOf rs s t = none)))
theorem RoadV.ext {H H' : Hp} {rs : List (Str × Str)} {v : V} {i : Nat} (h : RoadV H rs v i) (e : Same H H') : RoadV H' rs v i := by
  obtain ⟨s, t, a, b⟩ := h
  exact ⟨s, t, a.ext e, b⟩
theorem NoRd.ext {K : PySem.W.Frag} {H H' : Hp} {ss : List Str} {rs : List (Str × Str)} {v : V} (h : NoRd K H ss rs v) (e : Same H H') : NoRd K H' ss rs v := by
  rcases h with h | ⟨xs, a, b⟩ | ⟨x, y, a, h⟩
  · exact .inl (h.ext e)
  · exact .inr (.inl ⟨xs, a.ext e, b⟩)
  · refine .inr (.inr ⟨x, y, a.ext e, ?_⟩)
    rcases h with h | ⟨s, q1, q2, h⟩
    · exact .inl (h.ext e)
    · refine .inr ⟨s, q1, q2, ?_⟩
      rcases h with h | h
      · exact .inl (h.ext e)
      · exact .inr h
def spRd (K : PySem.W.Frag) (C : Addr) : Sp := fun vs H Q _ => ∃ x v ss rs ns, vs = [.ref x, v] ∧ IsV C H x ss rs ns ∧ EndsIn ss rs ∧ (((∃ i, RoadV H rs v i) ∧ ∀ H', Same H H' → Q (.bl true) H') ∨ (NoRd K H ss rs v ∧ ∀ H', Same H H' → Q (.bl false) H'))
theorem plOf_at {rs : List (Str × Str)} {s t : Str} {i : Nat} (h : plOf rs s t = some i) : ∃ hi : i < rs.length, rs[i] = (s, t) ∨ rs[i] = (t, s) := by
  unfold plOf at h
  rw [List.findIdx?_eq_some_iff_getElem] at h
  obtain ⟨hi, h, _⟩ := h
  exact ⟨hi, of_decide_eq_true h⟩
theorem plOf_in {ss : List Str} {rs : List (Str × Str)} (he : EndsIn ss rs) {s t : Str} {i : Nat} (h : plOf rs s t = some i) : s ∈ ss ∧ t ∈ ss := by
  obtain ⟨hi, h⟩ := plOf_at h
  have q := he _ (List.getElem_mem hi)
  rcases h with h | h <;> rw [h] at q
  · exact q
  · exact q.symm
theorem ixSeq {K : PySem.W.Frag} {H : Hp} {v z : V} {xs : List V} {i : Int} {Q : VK} (h : SeqV H v xs) (e : atI xs i = some z) (q : Q z H) : rIx K v (.int i) H Q := by
  obtain ⟨p, rfl, h | h⟩ := h
  · exact .inl ⟨p, xs, i, z, rfl, rfl, SqL.of h, e, q⟩
  · exact .inr (.inl ⟨p, xs, i, z, rfl, rfl, SqT.of h, e, q⟩)
section
variable {P : Program} {w : World} {K : PySem.W.Frag} {mg : Str → Option Value} {base : Heap} {CF C CN CM : Addr}
theorem ok_Rd {f fP fI : Addr} {fd pd id' : FuncData} (F : Fun K "is_road" "Valley.is_road" sRd f fd) (B : Bl mg) (T : VcT K C)
    (GP : FnOk P w K mg base CX0 2 fP pd ["thing"] (spIsPair K)) (bP : Binds K pd ["thing"] []) (kP : PySem.W.keepIn K (.ref fP) = true) (mP : mg "is_pair" = some (.ref fP))
    (GI : FnOk P w K mg base CX0 1 fI id' ["self", "thing"] (spIs K C)) (hI : Meth K C "is_house" fI) (bI : Binds K id' ["self", "thing"] []) : FnOk P w K mg base CX0 3 f fd ["self", "thing"] (spRd K C) := by
  refine F.ok scRd (fun vs H Q E h => ?_) (fun cdv A outer s H vs Q E hr h => ?_)
  · obtain ⟨x, v, ss, rs, ns, rfl, _⟩ := h
    rfl
  obtain ⟨x, v, ss, rs, ns, rfl, iv, he, h⟩ := h
  have hu := hu_of hr
  have hr1 : Room 1 _ := hr.mono (by decide)
  refine ⟨_, pss_cons (by exact (ps_if (PW.pt (pw_or (pt_not (pt_val (pe_call GP hr rfl mP kP bP .nil pass0 (pa_cons (pv 1) pa_nil)))) (pw_or (pt_not (pt_val (pe_meth (pv 0) T.cl hI GI hr1 bI .nil pass0 (pa_cons (pe_ix ix_seq (pv 1) pe_int (fun _ _ => rfl)) pa_nil)))) (pw_or1 (pt_not (pt_val (pe_meth (pv 0) T.cl hI GI hr1 bI .nil pass0 (pa_cons (pe_ix ix_seq (pv 1) pe_int (fun _ _ => rfl)) pa_nil)))))))) (pss_one (by exact (ps_ret pe_bl))) pss_nil))
    (pss_one (by exact (ps_ret (pe_cmp (pc_din hu (pe_tup (pa_cons (pe_ix ix_seq (pv 1) pe_int (fun _ _ => rfl)) (pa_cons (pe_ix ix_seq (pv 1) pe_int (fun _ _ => rfl)) pa_nil))) (pe_fld (pv 0) rfl)) (by with_unfolding_all rfl))))), ?_⟩
  obtain ⟨ln, l1, l2, l3, d1, d2, d3, qs, bs, vx⟩ := id iv
  have inst : ∀ H1, Same H H1 → ∃ dx fx, H1 x = some (.ins C dx fx) ∧ fx.lookup ("is_house" : Str) = none ∧ fx.lookup ("_places" : Str) = some (.ref d2) := fun H1 e => by
    obtain ⟨dx, fx, ix, f1, f2, f3, f4, f5, f6, f0⟩ := vx.ins
    exact ⟨dx, fx, e _ _ ix, f0 _ (by decide +kernel) (by decide +kernel) (by decide +kernel) (by decide +kernel) (by decide +kernel) (by decide +kernel), f5⟩
  have two : ∀ (s t : Str), SeqV H v [.str s, .str t] → s ∈ ss → t ∈ ss → (∀ H', Same H H' → Q (.bl (plOf rs s t).isSome) H') → _ := fun s t sv hs ht q => (⟨s, t, sv, hs, ht, q⟩ : ∃ s t : Str, SeqV H v [.str s, .str t] ∧ s ∈ ss ∧ t ∈ ss ∧ ∀ H', Same H H' → Q (.bl (plOf rs s t).isSome) H')
  have split : (∃ s t : Str, SeqV H v [.str s, .str t] ∧ s ∈ ss ∧ t ∈ ss ∧ ∀ H', Same H H' → Q (.bl (plOf rs s t).isSome) H') ∨ ((∀ H', Same H H' → Q (.bl false) H') ∧ (NoSeq K H v ∨ (∃ xs, SeqV H v xs ∧ xs.length ≠ 2) ∨ ∃ y z, SeqV H v [y, z] ∧ (NoHo K H ss y ∨ ∃ s, y = .str s ∧ s ∈ ss ∧ NoHo K H ss z))) := by
    rcases h with ⟨⟨i, s, t, sv, pl⟩, q⟩ | ⟨n, q⟩
    · obtain ⟨hs, ht⟩ := plOf_in he pl
      exact .inl (two s t sv hs ht (by rw [pl]; exact q))
    · rcases n with n | n | ⟨y, z, sv, n | ⟨s, e1, hs, n | ⟨t, e2, ht, pl⟩⟩⟩
      · exact .inr ⟨q, .inl n⟩
      · exact .inr ⟨q, .inr (.inl n)⟩
      · exact .inr ⟨q, .inr (.inr ⟨y, z, sv, .inl n⟩)⟩
      · exact .inr ⟨q, .inr (.inr ⟨y, z, sv, .inr ⟨s, e1, hs, n⟩⟩)⟩
      · subst e1 e2
        exact .inl (two s t sv hs ht (by rw [pl]; exact q))
  rcases split with ⟨s, t, sv, hs, ht, q⟩ | ⟨q, n | ⟨xs, sv, n⟩ | ⟨y, z, sv, n⟩⟩
  · refine ⟨_, rfl, v, rfl, .inl ⟨_, sv, fun H1 e1 => ⟨_, rfl, iteF ?_⟩⟩⟩
    obtain ⟨dx, fx, ix, f0, f5⟩ := inst H1 e1
    refine ⟨_, rfl, x, dx, fx, rfl, ix, f0, _, rfl, ixSeq (sv.ext e1) rfl ?_⟩
    refine ⟨x, _, ss, rs, ns, rfl, iv.same e1, .inl ⟨s, rfl, hs, _, rfl, iteF ?_⟩⟩
    refine ⟨_, rfl, x, dx, fx, rfl, ix, f0, _, rfl, ixSeq (sv.ext e1) rfl ?_⟩
    refine ⟨x, _, ss, rs, ns, rfl, iv.same e1, .inl ⟨t, rfl, ht, _, rfl, iteF ?_⟩⟩
    refine ⟨_, rfl, ixSeq (sv.ext e1) rfl ?_⟩
    refine ⟨_, rfl, ixSeq (sv.ext e1) rfl ?_⟩
    refine ⟨(by show 2 ≤ sizeLine; decide), fun b hb => ?_⟩
    have eb := K1.Same.upd (H := H1) (p := b) (o := .tup [.str s, .str t]) hb
    obtain ⟨kv, k1, k2, k3⟩ := vx.p2
    refine ⟨_, rfl, x, C, dx, fx, _, rfl, eb _ _ ix, T.cl, T.n5, f5, d2, _, rfl, DGet.t (k := [.inr s, .inr t]) (eb _ _ (e1 _ _ k1)) upd_same, ?_⟩
    rw [k2 s t]
    have := q _ (e1.trans eb)
    cases hp : plOf rs s t with
    | none => rw [hp] at this; exact this
    | some i => rw [hp] at this; exact this
  · exact ⟨_, rfl, v, rfl, .inr ⟨n, fun H1 e1 => ⟨_, rfl, iteT (iteT (q H1 e1))⟩⟩⟩
  · refine ⟨_, rfl, v, rfl, .inl ⟨_, sv, fun H1 e1 => ⟨_, rfl, ?_⟩⟩⟩
    rw [decide_eq_false n]
    exact iteT (iteT (q H1 e1))
  · refine ⟨_, rfl, v, rfl, .inl ⟨_, sv, fun H1 e1 => ⟨_, rfl, iteF ?_⟩⟩⟩
    obtain ⟨dx, fx, ix, f0, f5⟩ := inst H1 e1
    refine ⟨_, rfl, x, dx, fx, rfl, ix, f0, _, rfl, ixSeq (sv.ext e1) rfl ?_⟩
    rcases n with n | ⟨s, rfl, hs, n⟩
    · exact ⟨x, _, ss, rs, ns, rfl, iv.same e1, .inr ⟨n.ext e1, _, rfl, iteT (iteT (q H1 e1))⟩⟩
    · refine ⟨x, _, ss, rs, ns, rfl, iv.same e1, .inl ⟨s, rfl, hs, _, rfl, iteF ?_⟩⟩
      refine ⟨_, rfl, x, dx, fx, rfl, ix, f0, _, rfl, ixSeq (sv.ext e1) rfl ?_⟩
      exact ⟨x, _, ss, rs, ns, rfl, iv.same e1, .inr ⟨n.ext e1, _, rfl, iteT (q H1 e1)⟩⟩
end
end K1
end
-- XSp
section
set_option Elab.async false
set_option linter.all false
set_option maxRecDepth 100000
set_option maxHeartbeats 2000000
namespace K1
open PySem PySem.Spec PyProof.Rows L2 W0
abbrev sSn : Stmt := top 37
theorem scSn : FnScope ["thing"] ["thing"] (defScope sSn) := ⟨rfl, rfl, rfl, by decide +kernel, rfl, by decide +kernel, by decide +kernel⟩
def NotInt (K : PySem.W.Frag) (H : Hp) (y : V) : Prop := ∃ t, TyX K H y (.type t) ∧ t ∈ kinds ∧ t ≠ "int"
theorem NotInt.ext {K : PySem.W.Frag} {H H' : Hp} {y : V} (h : NotInt K H y) (e : Same H H') : NotInt K H' y := by
  obtain ⟨t, a, b⟩ := h
  exact ⟨t, TyX.ext a e, b⟩
/-- what is no span -/
def NoSpan (K : PySem.W.Frag) (H : Hp) (v : V) : Prop := NoSeq K H v ∨ (∃ xs, SeqV H v xs ∧ xs.length ≠ 2) ∨ ∃ y z, SeqV H v [y, z] ∧ (NotInt K H y ∨ ∃ i, y = .int i ∧ (NotInt K H z ∨ ∃ j, z = .int j ∧ j < i))
theorem NoSpan.ext {K : PySem.W.Frag} {H H' : Hp} {v : V} (h : NoSpan K H v) (e : Same H H') : NoSpan K H' v := by
  rcases h with h | ⟨xs, a, b⟩ | ⟨y, z, a, h⟩
  · exact .inl (h.ext e)
  · exact .inr (.inl ⟨xs, a.ext e, b⟩)
  · refine .inr (.inr ⟨y, z, a.ext e, ?_⟩)
    rcases h with h | ⟨i, ey, h | h⟩
    · exact .inl (h.ext e)
    · exact .inr ⟨i, ey, .inl (h.ext e)⟩
    · exact .inr ⟨i, ey, .inr h⟩
def spSn (K : PySem.W.Frag) : Sp := fun vs H Q _ => ∃ v, vs = [v] ∧ ((∃ l m, SeqV H v [.int l, .int m] ∧ l ≤ m ∧ ∀ H', Same H H' → Q (.bl true) H') ∨ (NoSpan K H v ∧ ∀ H', Same H H' → Q (.bl false) H'))
section
variable {P : Program} {w : World} {K : PySem.W.Frag} {mg : Str → Option Value} {base : Heap}
theorem ok_Sn {f fP fI : Addr} {fd pd id' : FuncData} (F : Fun K "_is_span" "_is_span" sSn f fd)
    (GP : FnOk P w K mg base CX0 2 fP pd ["thing"] (spIsPair K)) (bP : Binds K pd ["thing"] []) (kP : PySem.W.keepIn K (.ref fP) = true) (mP : mg "is_pair" = some (.ref fP))
    (GI : FnOk P w K mg base CX0 1 fI id' ["thing"] (spIsInt K)) (bI : Binds K id' ["thing"] []) (kI : PySem.W.keepIn K (.ref fI) = true) (mI : mg "is_integer" = some (.ref fI)) : FnOk P w K mg base CX0 3 f fd ["thing"] (spSn K) := by
  refine F.ok scSn (fun vs H Q E h => ?_) (fun cdv A outer s H vs Q E hr h => ?_)
  · obtain ⟨v, rfl, _⟩ := h
    rfl
  obtain ⟨v, rfl, h⟩ := h
  have hr1 : Room 1 _ := hr.mono (by decide)
  refine ⟨_, (pss_one (by exact (ps_ret (pe_and (pe_call GP hr rfl mP kP bP .nil pass0 (pa_cons (pv 0) pa_nil)) (pe_and (pe_call GI hr1 rfl mI kI bI .nil pass0 (pa_cons (pe_ix ix_seq (pv 0) pe_int (fun _ _ => rfl)) pa_nil)) (pe_and (pe_call GI hr1 rfl mI kI bI .nil pass0 (pa_cons (pe_ix ix_seq (pv 0) pe_int (fun _ _ => rfl)) pa_nil)) (pe_one (pe_cmpR op_le (pe_ix ix_seq (pv 0) pe_int (fun _ _ => rfl)) (pe_ix ix_seq (pv 0) pe_int (fun _ _ => rfl)) (nomark _))))))))), ?_⟩
  have i0 : ∀ (y z : V), atI [y, z] 0 = some y := fun y z => atI_nat (j := 0) rfl
  have i1 : ∀ (y z : V), atI [y, z] 1 = some z := fun y z => atI_nat (j := 1) rfl
  rcases h with ⟨l, m, sv, le, q⟩ | ⟨no | ⟨xs, sv, ne⟩ | ⟨y, z, sv, no⟩, q⟩
  · refine ⟨_, rfl, v, rfl, .inl ⟨_, sv, fun H1 e1 => ⟨_, rfl, ?_⟩⟩⟩
    have s1 := sv.ext e1
    refine iteT ⟨_, rfl, ixSeq s1 (i0 _ _) ⟨_, "int", rfl, .base (.int l), by decide, ⟨_, rfl, ?_⟩⟩⟩
    refine iteT ⟨_, rfl, ixSeq s1 (i1 _ _) ⟨_, "int", rfl, .base (.int m), by decide, ⟨_, rfl, ?_⟩⟩⟩
    refine iteT ⟨_, rfl, ixSeq s1 (i0 _ _) ⟨_, rfl, ixSeq s1 (i1 _ _) ⟨_, _, rfl, rfl, ?_⟩⟩⟩
    show Q (V.bl (decide (l ≤ m))) H1
    rw [decide_eq_true le]
    exact q H1 e1
  · exact ⟨_, rfl, v, rfl, .inr ⟨no, fun H1 e1 => ⟨_, rfl, iteF (q H1 e1)⟩⟩⟩
  · refine ⟨_, rfl, v, rfl, .inl ⟨_, sv, fun H1 e1 => ⟨_, rfl, ?_⟩⟩⟩
    rw [decide_eq_false ne]
    exact iteF (q H1 e1)
  · refine ⟨_, rfl, v, rfl, .inl ⟨_, sv, fun H1 e1 => ⟨_, rfl, ?_⟩⟩⟩
    have s1 := sv.ext e1
    refine iteT ?_
    rcases no with h | ⟨i, rfl, h | ⟨j, rfl, lt⟩⟩
    · obtain ⟨t, ty, kt, nt⟩ := h.ext e1
      refine ⟨_, rfl, ixSeq s1 (i0 _ _) ⟨_, t, rfl, ty, kt, ⟨_, rfl, ?_⟩⟩⟩
      rw [decide_eq_false nt]
      exact iteF (q H1 e1)
    · obtain ⟨t, ty, kt, nt⟩ := h.ext e1
      refine ⟨_, rfl, ixSeq s1 (i0 _ _) ⟨_, "int", rfl, .base (.int i), by decide, ⟨_, rfl, ?_⟩⟩⟩
      refine iteT ⟨_, rfl, ixSeq s1 (i1 _ _) ⟨_, t, rfl, ty, kt, ⟨_, rfl, ?_⟩⟩⟩
      rw [decide_eq_false nt]
      exact iteF (q H1 e1)
    · refine ⟨_, rfl, ixSeq s1 (i0 _ _) ⟨_, "int", rfl, .base (.int i), by decide, ⟨_, rfl, ?_⟩⟩⟩
      refine iteT ⟨_, rfl, ixSeq s1 (i1 _ _) ⟨_, "int", rfl, .base (.int j), by decide, ⟨_, rfl, ?_⟩⟩⟩
      refine iteT ⟨_, rfl, ixSeq s1 (i0 _ _) ⟨_, rfl, ixSeq s1 (i1 _ _) ⟨_, _, rfl, rfl, ?_⟩⟩⟩
      show Q (V.bl (decide (i ≤ j))) H1
      rw [decide_eq_false (Int.not_le.mpr lt)]
      exact q H1 e1
end
end K1
end
-- EPl
section
set_option Elab.async false
set_option linter.all false
set_option maxRecDepth 100000
set_option maxHeartbeats 1000000
namespace K1
open PySem PySem.Spec PyProof.Rows L2 W0
abbrev sBg : Stmt := top 31
abbrev sCg : Stmt := top 33
abbrev sCl : Stmt := inClass (top 9) 0
abbrev sEp : Stmt := top 32
abbrev intsV (js : List Nat) : List V := js.map fun i : Nat => V.int (i : Int)
abbrev keyN (js : List Nat) : List Key := js.map fun i : Nat => (Sum.inl (i : Int) : Key)
theorem keyN_map (js : List Nat) : (keyN js).map kV = intsV js := by
  unfold keyN intsV
  rw [List.map_map]
  rfl
theorem keyN_nodup {js : List Nat} : (keyN js).Nodup ↔ js.Nodup := by
  unfold keyN
  constructor
  · intro h
    exact List.Pairwise.of_map _ (fun a b (ne : (Sum.inl (a : Int) : Key) ≠ Sum.inl (b : Int)) z => ne (by rw [z])) h
  · intro h
    refine List.Pairwise.map _ (fun a b (ne : a ≠ b) z => ne ?_) h
    have := Sum.inl.inj z
    omega
/-- a thing is judged: a road or none -/
def Jud (K : PySem.W.Frag) (H : Hp) (ss : List Str) (rs : List (Str × Str)) (v : V) (b : Bool) : Prop := (b = true ∧ ∃ i, RoadV H rs v i) ∨ (b = false ∧ NoRd K H ss rs v)
theorem Jud.ext {K : PySem.W.Frag} {H H' : Hp} {ss : List Str} {rs : List (Str × Str)} {v : V} {b : Bool} (h : Jud K H ss rs v b) (e : Same H H') : Jud K H' ss rs v b :=
  h.imp (fun ⟨q, i, z⟩ => ⟨q, i, z.ext e⟩) fun ⟨q, z⟩ => ⟨q, z.ext e⟩
/-- unlike roads, as they are opened: their places -/
def BegV (H : Hp) (rs : List (Str × Str)) (v : V) (js : List Nat) : Prop := ∃ xs, SeqV H v xs ∧ xs.length ≤ 1000 ∧ Paired (RoadV H rs) xs js ∧ js.Nodup
def NoBeg (K : PySem.W.Frag) (H : Hp) (ss : List Str) (rs : List (Str × Str)) (v : V) : Prop := NoSeq K H v ∨ (∃ xs bs, SeqV H v xs ∧ xs.length ≤ 1000 ∧ Paired (Jud K H ss rs) xs bs ∧ bs.all id = false) ∨
  (∃ xs js, SeqV H v xs ∧ xs.length ≤ 1000 ∧ Paired (RoadV H rs) xs js ∧ ¬ js.Nodup)
def spBg (K : PySem.W.Frag) (C : Addr) : Sp := fun vs H Q _ => ∃ x v ss rs ns, vs = [.ref x, v] ∧ IsV C H x ss rs ns ∧ EndsIn ss rs ∧
  ((∃ js, BegV H rs v js ∧ ∀ p H', Same H H' → H p = none → H' p = some (.lst (intsV js)) → Q (.ref p) H') ∨ (NoBeg K H ss rs v ∧ ∀ H', Same H H' → Q .non H'))
def EvV (H : Hp) (rs : List (Str × Str)) (v : V) (js : List Nat) : Prop := BegV H rs v js ∧ js.length = rs.length
def NoEv (K : PySem.W.Frag) (H : Hp) (ss : List Str) (rs : List (Str × Str)) (v : V) : Prop := NoBeg K H ss rs v ∨ ∃ js, BegV H rs v js ∧ js.length ≠ rs.length
def spEp (K : PySem.W.Frag) (C : Addr) : Sp := fun vs H Q _ => ∃ x v ss rs ns, vs = [.ref x, v] ∧ IsV C H x ss rs ns ∧ EndsIn ss rs ∧
  ((∃ js, EvV H rs v js ∧ ∀ p H', Same H H' → H p = none → H' p = some (.lst (intsV js)) → Q (.ref p) H') ∨ (NoEv K H ss rs v ∧ ∀ H', Same H H' → Q .non H'))
def spCg (K : PySem.W.Frag) (C CC : Addr) : Sp := fun vs H Q E => ∃ x v ss rs ns, vs = [.ref x, v] ∧ IsV C H x ss rs ns ∧ EndsIn ss rs ∧
  ((∃ js, EvV H rs v js ∧ ∀ p H', Same H H' → H p = none → H' p = some (.lst (intsV js)) → Q (.ref p) H') ∨ (NoEv K H ss rs v ∧ GoesF CC [("evening", v)] H E))
theorem scBg : FnScope ["valley", "thing", "road", "places"] ["valley", "thing"] (defScope sBg) := ⟨rfl, rfl, rfl, by decide +kernel, rfl, by decide +kernel, by decide +kernel⟩
theorem scEp : FnScope ["valley", "thing", "places"] ["valley", "thing"] (defScope sEp) := ⟨rfl, rfl, rfl, by decide +kernel, rfl, by decide +kernel, by decide +kernel⟩
theorem scCg : FnScope ["valley", "evening", "places"] ["valley", "evening"] (defScope sCg) := ⟨rfl, rfl, rfl, by decide +kernel, rfl, by decide +kernel, by decide +kernel⟩
theorem paired_true {H : Hp} {K : PySem.W.Frag} {ss : List Str} {rs : List (Str × Str)} {xs : List V} {js : List Nat} (h : Paired (RoadV H rs) xs js) : Paired (Jud K H ss rs) xs (js.map fun _ => true) := by
  induction h with
  | nil => exact .nil
  | cons a _ ih => exact .cons (.inl ⟨rfl, _, a⟩) ih
section
variable {P : Program} {w : World} {K : PySem.W.Frag} {mg : Str → Option Value} {base : Heap} {CF C CN CO CC : Addr}
theorem ok_Bg {f fL fR fP : Addr} {fd ld rd pd : FuncData} (F : Fun K "begun_places" "begun_places" sBg f fd) (B : Bl mg) (T : VcT K C) (ms : mg "set" = none)
    (GL : FnOk P w K mg base CX0 1 fL ld ["thing"] (spIsList K)) (bL : Binds K ld ["thing"] []) (kL : PySem.W.keepIn K (.ref fL) = true) (mL : mg "is_list" = some (.ref fL))
    (GR : FnOk P w K mg base CX0 3 fR rd ["self", "thing"] (spRd K C)) (hR : Meth K C "is_road" fR) (bR : Binds K rd ["self", "thing"] [])
    (GP : FnOk P w K mg base (L2.CX P w) 4 fP pd ["self", "one", "other"] (spPl K C CN CO)) (hP : Meth K C "place" fP) (bP : Binds K pd ["self", "one", "other"] []) : FnOk P w K mg base CX0 5 f fd ["valley", "thing"] (spBg K C) := by
  refine F.ok scBg (fun vs H Q E h => ?_) (fun cdv A outer s H vs Q E hr h => ?_)
  · obtain ⟨x, v, ss, rs, ns, rfl, _⟩ := h
    rfl
  obtain ⟨x, v, ss, rs, ns, rfl, iv, he, h⟩ := h
  have nd := scBg.nd
  have hr1 : Room 1 _ := hr.mono (by decide)
  have hr3 : Room 3 _ := hr.mono (by decide)
  have hr4 : Room 4 _ := hr.mono (by decide)
  refine ⟨_, (pss_cons (by exact (ps_if (PW.pt (pw_or (pt_not (pt_val (pe_call GL hr1 rfl mL kL bL .nil pass0 (pa_cons (pv 1) pa_nil)))) (pw_or1 (pt_not (pt_val (pe_callB (cr_all rfl) rfl B.all PyProof.Rows.boot_all (pa_cons (pe_lc (own := [("road", 2)]) (g := gName 2) (tt := tYes) (te := tMeth C "is_road" (spRd K C) [] E0 (tVar 0) (tCons (tVar 2) tNil)) rfl nd (by exact pi_seqV 1 (pv 1)) (by exact blkOk_by (N := ["valley", "thing", "road", "places"]) (sc := defScope sBg) (by decide +kernel)) (fun _ _ _ _ _ => by exact (pg_name (i := 2) nd rfl (.inl rfl))) (fun _ _ _ _ _ => by exact pts_nil) (fun _ _ _ _ _ => by exact (pe_meth (pv 0) T.cl hR GR hr3 bR .nil pass0 (pa_cons (pv 2) pa_nil)))) pa_nil))))))) (pss_one (by exact (ps_ret pe_non))) pss_nil))
  (pss_cons (by exact (ps_setLc (i := 3) (own := [("road", 2)]) (g := gName 2) (tt := tYes) (te := tMeth C "place" (spPl K C CN CO) [] E0 (tVar 0) (tCons (tOp (rIx K) (tVar 2) (tC (.int 0))) (tCons (tOp (rIx K) (tVar 2) (tC (.int 1))) tNil))) rfl nd rfl rfl (sw_true rfl rfl rfl (by decide +kernel)) (by exact pi_seqV 1 (pv 1)) (by exact blkOk_by (N := ["valley", "thing", "road", "places"]) (sc := defScope sBg) (by decide +kernel)) (fun _ _ _ _ _ => by exact (pg_name (i := 2) nd rfl (.inl rfl))) (fun _ _ _ _ _ => by exact pts_nil) (fun _ _ _ _ _ => by exact (pe_meth (pv 0) T.cl hP GP hr4 bP .nil passL (pa_cons (pe_ix ix_seq (pv 2) pe_int (fun _ _ => rfl)) (pa_cons (pe_ix ix_seq (pv 2) pe_int (fun _ _ => rfl)) pa_nil))))))
  (pss_cons (by exact (ps_if (pt_cmpR op_ne (pe_callB (r := rLenS P w) cr_lenS rfl B.len PySem.boot_len (pa_cons (pe_callTy (r := rSetL K P w) (cr_setL rfl) rfl ms PyProof.Rows.boot_set (pa_cons (pv 3) pa_nil)) pa_nil)) (pe_callB call_len_seq rfl B.len PySem.boot_len (pa_cons (pv 3) pa_nil)) (nomark _)) (pss_one (by exact (ps_ret pe_non))) pss_nil))
  (pss_one (by exact (ps_ret (pv 3))))))), ?_⟩
  have inst : ∀ H1, Same H H1 → ∃ dx fx, H1 x = some (.ins C dx fx) ∧ fx.lookup ("is_road" : Str) = none ∧ fx.lookup ("place" : Str) = none := fun H1 e => by
    obtain ⟨dx, fx, ix, f0⟩ := iv.inst
    exact ⟨dx, fx, e _ _ ix, f0 _ (by decide +kernel), f0 _ (by decide +kernel)⟩
  -- the first list: what is a road
  have judge : ∀ (H1 : Hp) (xs : List V) (bs : List Bool) (QQ : VK), Same H H1 → SeqV H v xs → xs.length ≤ 1000 → Paired (Jud K H ss rs) xs bs → (∀ D H2, Same H1 H2 → H2 D = some (.lst (bs.map V.bl)) → QQ (.ref D) H2) →
      tLc (iSeqV K 1) (gName 2) tYes (tMeth C "is_road" (spRd K C) [] E0 (tVar 0) (tCons (tVar 2) tNil)) [2] [some (.ref x), some v, none, none] H1 QQ := by
    intro H1 xs bs QQ e1 sv lx pr qq
    obtain ⟨p, rfl, hp⟩ := sv
    have hp1 : H1 p = some (.lst xs) ∨ H1 p = some (.tup xs) := hp.imp (e1 _ _) (e1 _ _)
    have lb : xs.length = bs.length := pr.length
    refine ⟨p, xs, rfl, hp1.imp (fun h => SqL.of h) (fun h => SqT.of h), fun J G wk hG D hD => ?_⟩
    refine lc_it wk (fun i Hc => Same H1 Hc ∧ Hc D = some (.lst ((bs.take i).map V.bl))) ⟨K1.Same.upd hD, upd_same⟩ (fun i Hc _ h => hG Hc fun o ho => h.1 _ _ ho) ?_ ?_
    · rintro i y Hc H' hi ⟨c1, c2⟩ ⟨rfl, hy⟩
      have hi2 : i < bs.length := by omega
      obtain ⟨y', ey, ry⟩ := paired_get pr hi2
      obtain rfl : y' = y := Option.some.inj (ey.symm.trans hy)
      refine ⟨rfl, ?_⟩
      unfold tYes
      refine iteT ?_
      obtain ⟨dx, fx, ix, f1, _⟩ := inst H' (e1.trans c1)
      refine ⟨_, rfl, x, dx, fx, rfl, ix, f1, _, rfl, x, y', ss, rs, ns, rfl, iv.same (e1.trans c1), he, ?_⟩
      have us := take_snoc (xs := bs) hi2
      have fin : ∀ b, b = bs[i] → ∀ H2, Same H' H2 → ∃ acc, H2 D = some (.lst acc) ∧ acc.length < sizeLine ∧ (Same H1 (L2.upd H2 D (.lst (acc ++ [V.bl b]))) ∧ L2.upd H2 D (.lst (acc ++ [V.bl b])) D = some (.lst ((bs.take (i + 1)).map V.bl))) := by
        rintro b rfl H2 e2
        refine ⟨_, e2 _ _ c2, by rw [List.length_map, List.length_take]; exact small1000 (by omega), ps_same_upd (c1.trans e2) hD, ?_⟩
        rw [upd_same, us, List.map_append]
        rfl
      rcases ry with ⟨eb, z⟩ | ⟨eb, z⟩
      · obtain ⟨j, z⟩ := z
        exact .inl ⟨⟨j, z.ext (e1.trans c1)⟩, fin true eb.symm⟩
      · exact .inr ⟨z.ext (e1.trans c1), fin false eb.symm⟩
    · rintro Hc ⟨c1, c2⟩
      rw [lb, List.take_length] at c2
      exact qq D Hc c1 c2
  -- the second list: the places
  have plac : ∀ (H1 : Hp) (xs : List V) (js : List Nat) (QQ : VK), Same H H1 → SeqV H v xs → xs.length ≤ 1000 → Paired (RoadV H rs) xs js → (∀ D H2, Same H1 H2 → H1 D = none → H2 D = some (.lst (intsV js)) → QQ (.ref D) H2) →
      tLc (iSeqV K 1) (gName 2) tYes (tMeth C "place" (spPl K C CN CO) [] E0 (tVar 0) (tCons (tOp (rIx K) (tVar 2) (tC (.int 0))) (tCons (tOp (rIx K) (tVar 2) (tC (.int 1))) tNil))) [2] [some (.ref x), some v, none, none] H1 QQ := by
    intro H1 xs js QQ e1 sv lx pr qq
    obtain ⟨p, rfl, hp⟩ := sv
    have hp1 : H1 p = some (.lst xs) ∨ H1 p = some (.tup xs) := hp.imp (e1 _ _) (e1 _ _)
    have lb : xs.length = js.length := pr.length
    refine ⟨p, xs, rfl, hp1.imp (fun h => SqL.of h) (fun h => SqT.of h), fun J G wk hG D hD => ?_⟩
    refine lc_it wk (fun i Hc => Same H1 Hc ∧ Hc D = some (.lst (intsV (js.take i)))) ⟨K1.Same.upd hD, upd_same⟩ (fun i Hc _ h => hG Hc fun o ho => h.1 _ _ ho) ?_ ?_
    · rintro i y Hc H' hi ⟨c1, c2⟩ ⟨rfl, hy⟩
      have hi2 : i < js.length := by omega
      obtain ⟨y', ey, s, t, sv, pl⟩ := paired_get pr hi2
      obtain rfl : y' = y := Option.some.inj (ey.symm.trans hy)
      refine ⟨rfl, ?_⟩
      unfold tYes
      refine iteT ?_
      have e2 := e1.trans c1
      obtain ⟨dx, fx, ix, _, f1⟩ := inst H' e2
      obtain ⟨hs, ht⟩ := plOf_in he pl
      refine ⟨_, rfl, x, dx, fx, rfl, ix, f1, _, rfl, ixSeq (sv.ext e2) rfl ?_⟩
      refine ⟨_, rfl, ixSeq (sv.ext e2) rfl ?_⟩
      refine ⟨x, _, _, ss, rs, ns, rfl, iv.same e2, .inr ⟨s, rfl, hs, .inr ⟨t, rfl, ht, .inr ⟨js[i], pl, fun H2 e3 => ?_⟩⟩⟩⟩
      have us := take_snoc (xs := js) hi2
      refine ⟨_, e3 _ _ c2, by unfold intsV; rw [List.length_map, List.length_take]; exact small1000 (by omega), ps_same_upd (c1.trans e3) hD, ?_⟩
      unfold intsV
      rw [upd_same, us, List.map_append]
      rfl
    · rintro Hc ⟨c1, c2⟩
      rw [lb, List.take_length] at c2
      exact qq D Hc c1 hD c2
  have go : (∃ xs js, SeqV H v xs ∧ xs.length ≤ 1000 ∧ Paired (RoadV H rs) xs js ∧ ∀ p H3, Same H H3 → H p = none → H3 p = some (.lst (intsV js)) → ∀ H4, Same H3 H4 → if js.Nodup then Q (.ref p) H4 else Q .non H4) ∨ ((∀ H', Same H H' → Q .non H') ∧ (NoSeq K H v ∨ ∃ xs bs, SeqV H v xs ∧ xs.length ≤ 1000 ∧ Paired (Jud K H ss rs) xs bs ∧ bs.all id = false)) := by
    rcases h with ⟨js, ⟨xs, sv, lx, pr, ndj⟩, q⟩ | ⟨n | n | ⟨xs, js, sv, lx, pr, ndj⟩, q⟩
    · exact .inl ⟨xs, js, sv, lx, pr, fun p H3 e3 np gp H4 e4 => by rw [if_pos ndj]; exact q p H4 (e3.trans e4) np (e4 _ _ gp)⟩
    · exact .inr ⟨q, .inl n⟩
    · exact .inr ⟨q, .inr n⟩
    · exact .inl ⟨xs, js, sv, lx, pr, fun p H3 e3 np gp H4 e4 => by rw [if_neg ndj]; exact q H4 (e3.trans e4)⟩
  rcases go with ⟨xs, js, sv, lx, pr, z⟩ | ⟨q, n | ⟨xs, bs, sv, lx, pr, al⟩⟩
  · obtain ⟨t, ty, kt, st⟩ := sv.ty (K := K)
    refine ⟨_, rfl, v, t, rfl, ty, kt, fun H1 e1 => ⟨_, rfl, ?_⟩⟩
    rw [st]
    refine iteF ?_
    unfold tNot tB tCB
    refine cons_run ?_
    refine judge H1 xs (js.map fun _ => true) _ e1 sv lx (paired_true pr) fun D H2 e2 gD => ?_
    refine ⟨D, _, rfl, SqL.of gD, _, rfl, ?_⟩
    have al : (js.map fun _ => true).all id = true := by simp
    rw [al]
    refine iteF ?_
    have e12 := e1.trans e2
    refine nQ ?_
    with_reducible refine sQ ?_
    unfold tAsg
    refine plac H2 xs js _ e12 sv lx pr fun p H3 e3 np gp => ?_
    refine K1.gN ?_
    have lj : js.length ≤ 1000 := by rw [← pr.length]; exact lx
    refine ⟨_, rfl, p, keyN js, rfl, SqL.of (by rw [keyN_map]; exact gp), by unfold keyN; rw [List.length_map]; exact lj, fun m hm => ?_⟩
    have e4 := K1.Same.upd (H := H3) (p := m) (o := setOn P w m (keyN js)) hm
    have gm := upd_same' H3 m (setOn P w m (keyN js))
    generalize L2.upd H3 m (setOn P w m (keyN js)) = H4 at e4 gm ⊢
    have lk : (keyN js).length = js.length := by unfold keyN; rw [List.length_map]
    have lo : (once [] (keyN js)).length ≤ 1000 := by have := once_len (keyN js) []; simp only [List.length_nil] at this; omega
    refine ⟨m, _, _, rfl, gm, lo, ?_⟩
    refine ⟨_, rfl, p, _, rfl, .inl (SqL.of (e4 _ _ gp)), ?_⟩
    have z4 := z p H3 (e12.trans e3) (e12.free np) gp H4 e4
    have ne : decide (V.int ((once [] (keyN js)).length : Int) = V.int ((intsV js).length : Int)) = decide js.Nodup := by
      refine decide_eq_decide.mpr ?_
      have li : (intsV js).length = js.length := List.length_map ..
      rw [li, ← keyN_nodup, ← once_full, lk]
      exact ⟨fun q => by have := V.int.inj q; omega, fun q => by rw [q]⟩
    refine ⟨rfl, _, congrArg (fun b => V.bl (!b)) ne, ?_⟩
    by_cases nj : js.Nodup
    · rw [if_pos nj] at z4
      rw [decide_eq_true nj]
      exact iteF ⟨_, rfl, z4⟩
    · rw [if_neg nj] at z4
      rw [decide_eq_false nj]
      exact iteT z4
  · obtain ⟨t, ty, kt, st⟩ := n
    refine ⟨_, rfl, v, t, rfl, ty, kt, fun H1 e1 => ⟨_, rfl, ?_⟩⟩
    rw [st]
    exact iteT (iteT (q H1 e1))
  · obtain ⟨t, ty, kt, st⟩ := sv.ty (K := K)
    refine ⟨_, rfl, v, t, rfl, ty, kt, fun H1 e1 => ⟨_, rfl, ?_⟩⟩
    rw [st]
    refine iteF ?_
    unfold tNot tB tCB
    refine cons_run ?_
    refine judge H1 xs bs _ e1 sv lx pr fun D H2 e2 gD => ?_
    refine ⟨D, bs, rfl, SqL.of gD, _, rfl, ?_⟩
    rw [al]
    exact iteT (q H2 (e1.trans e2))
end
end K1
end
-- EPl2
section
set_option Elab.async false
set_option linter.all false
set_option maxRecDepth 100000
set_option maxHeartbeats 1000000
namespace K1
open PySem PySem.Spec PyProof.Rows L2 W0
theorem scCl : FnScope ["self", "evening"] ["self", "evening"] (defScope sCl) := ⟨rfl, rfl, rfl, by decide +kernel, rfl, by decide +kernel, by decide +kernel⟩
section
variable {P : Program} {w : World} {K : PySem.W.Frag} {mg : Str → Option Value} {base : Heap} {CF C CN CO CC : Addr}
theorem ok_Ep {f fB fR : Addr} {fd bd rd : FuncData} (F : Fun K "evening_places" "evening_places" sEp f fd) (B : Bl mg) (T : VcT K C)
    (GB : FnOk P w K mg base CX0 5 fB bd ["valley", "thing"] (spBg K C)) (bB : Binds K bd ["valley", "thing"] []) (kB : PySem.W.keepIn K (.ref fB) = true) (mB : mg "begun_places" = some (.ref fB))
    (GR : FnOk P w K mg base CX0 1 fR rd ["self"] (spRo C)) (hR : Meth K C "roads" fR) (bR : Binds K rd ["self"] []) : FnOk P w K mg base CX0 6 f fd ["valley", "thing"] (spEp K C) := by
  refine F.ok scEp (fun vs H Q E h => ?_) (fun cdv A outer s H vs Q E hr h => ?_)
  · obtain ⟨x, v, ss, rs, ns, rfl, _⟩ := h
    rfl
  obtain ⟨x, v, ss, rs, ns, rfl, iv, he, h⟩ := h
  have nd := scEp.nd
  have hr1 : Room 1 _ := hr.mono (by decide)
  refine ⟨_, pss_cons (by exact (ps_set (i := 2) nd rfl (.inl rfl) (pe_call GB hr rfl mB kB bB .nil pass0 (pa_cons (pv 0) (pa_cons (pv 1) pa_nil)))))
    (pss_cons (by exact (ps_if (PW.pt (pw_or (pt_cmpR op_isN (pv 2) pe_non (nomark _)) (pw_or1 (pt_cmpR op_ne (pe_callB call_len_seq rfl B.len PySem.boot_len (pa_cons (pv 2) pa_nil)) (pe_callB call_len_seq rfl B.len PySem.boot_len (pa_cons (pe_meth0 (pv 0) T.cl hR GR hr1 bR .nil pass0) pa_nil)) (nomark _))))) (pss_one (by exact (ps_ret pe_non))) pss_nil))
    (pss_one (by exact (ps_ret (pv 2))))), ?_⟩
  have good : ∀ js, BegV H rs v js → (∀ p H', Same H H' → H p = none → H' p = some (.lst (intsV js)) → if js.length = rs.length then Q (.ref p) H' else Q .non H') → _ := fun js b q => (⟨js, b, q⟩ : ∃ js, BegV H rs v js ∧ ∀ p H', Same H H' → H p = none → H' p = some (.lst (intsV js)) → if js.length = rs.length then Q (.ref p) H' else Q .non H')
  have go : (∃ js, BegV H rs v js ∧ ∀ p H', Same H H' → H p = none → H' p = some (.lst (intsV js)) → if js.length = rs.length then Q (.ref p) H' else Q .non H') ∨ (NoBeg K H ss rs v ∧ ∀ H', Same H H' → Q .non H') := by
    rcases h with ⟨js, ⟨b, l⟩, q⟩ | ⟨n | ⟨js, b, l⟩, q⟩
    · exact .inl ⟨js, b, fun p H' e n g => by rw [if_pos l]; exact q p H' e n g⟩
    · exact .inr ⟨n, q⟩
    · exact .inl ⟨js, b, fun p H' e n g => by rw [if_neg l]; exact q H' e⟩
  rcases go with ⟨js, b, q⟩ | ⟨n, q⟩
  · refine ⟨_, rfl, _, rfl, x, v, ss, rs, ns, rfl, iv, he, .inl ⟨js, b, fun p H1 e1 np gp => ?_⟩⟩
    refine K1.gN ?_
    obtain ⟨dx, fx, ix, f0⟩ := (iv.same e1).inst
    refine ⟨_, rfl, rfl, _, rfl, iteF ?_⟩
    refine ⟨_, rfl, p, _, rfl, .inl (SqL.of gp), ?_⟩
    refine ⟨_, rfl, x, dx, fx, rfl, ix, f0 _ (by decide +kernel), x, ss, rs, ns, rfl, iv.same e1, fun l qs hl pq => ?_⟩
    have e2 := K1.Same.upd (H := H1) (p := l) (o := .lst (qs.map V.ref)) hl
    have gl := upd_same' H1 l (.lst (qs.map V.ref))
    generalize L2.upd H1 l (.lst (qs.map V.ref)) = H2 at e2 gl ⊢
    refine ⟨l, _, rfl, .inl (SqL.of gl), rfl, ?_⟩
    have z := q p H2 (e1.trans e2) np (e2 _ _ gp)
    have ne : decide (V.int ((intsV js).length : Int) = V.int ((qs.map V.ref).length : Int)) = decide (js.length = rs.length) := by
      refine decide_eq_decide.mpr ?_
      have l1 : (intsV js).length = js.length := List.length_map ..
      have l2 : (qs.map V.ref).length = rs.length := by rw [List.length_map, pq.length]
      rw [l1, l2]
      exact ⟨fun q => by have := V.int.inj q; omega, fun q => by rw [q]⟩
    refine ⟨_, congrArg (fun b => V.bl (!b)) ne, ?_⟩
    by_cases nj : js.length = rs.length
    · rw [if_pos nj] at z
      rw [decide_eq_true nj]
      exact iteF ⟨_, rfl, z⟩
    · rw [if_neg nj] at z
      rw [decide_eq_false nj]
      exact iteT z
  · refine ⟨_, rfl, _, rfl, x, v, ss, rs, ns, rfl, iv, he, .inr ⟨n, fun H1 e1 => ?_⟩⟩
    exact K1.gN ⟨_, rfl, rfl, _, rfl, iteT (iteT (q H1 e1))⟩
theorem ok_iCl {f C : Addr} {fd : FuncData} (F : Fun K "__init__" "BadEvening.__init__" sCl f fd) (T : FeC K mg CF) (TC : ErF K mg "BadEvening" C f ["evening"]) : FnOk P w K mg base CX0 1 f fd ["self", "evening"] (spEr1 C "evening") := by
  refine F.ok scCl (fun vs H Q E h => ?_) (fun cdv A outer s H vs Q E hr h => ?_)
  · obtain ⟨a, v, rfl, _⟩ := h
    rfl
  obtain ⟨a, v, rfl, ha, q⟩ := h
  refine ⟨_, pss_cons (by exact ps_expr (pe_feinit rfl T (pa_cons (pv 0) (pa_cons pe_str pa_nil)))) (pss_one (by exact ps_ost (pv 0) (pv 1))), ?_⟩
  refine ⟨_, rfl, a, C, [.str _], rfl, (by decide), TC.ox, ha, _, rfl, _, rfl, a, C, rfl, TC.ox, TC.no _ (by simp), .inl ⟨ha, fun d hd n => q d hd n⟩⟩
theorem ok_Cg {f fB fE : Addr} {fd bd ed : FuncData} (F : Fun K "need_evening" "need_evening" sCg f fd)
    (GB : FnOk P w K mg base CX0 6 fB bd ["valley", "thing"] (spEp K C)) (bB : Binds K bd ["valley", "thing"] []) (kB : PySem.W.keepIn K (.ref fB) = true) (mB : mg "evening_places" = some (.ref fB))
    (TF : FeC K mg CF) (TC : ErF K mg "BadEvening" CC fE ["evening"]) (FE : Fun K "__init__" "BadEvening.__init__" sCl fE ed) (bE : Binds K ed ["self", "evening"] []) : FnOk P w K mg base (L2.CX P w) 7 f fd ["valley", "evening"] (spCg K C CC) := by
  have GE := ok_iCl (P := P) (w := w) (base := base) FE TF TC
  refine F.okX scCg (fun vs H Q E h => ?_) (fun cdv A outer s H vs Q E hr h => ?_)
  · obtain ⟨x, v, ss, rs, ns, rfl, _⟩ := h
    rfl
  obtain ⟨x, v, ss, rs, ns, rfl, iv, he, h⟩ := h
  have nd := scCg.nd
  have hr2 : Room 2 _ := hr.mono (by decide)
  refine ⟨_, pss_cons (by exact (ps_set (i := 2) nd rfl (.inl rfl) (pe_call GB hr rfl mB kB bB .nil pass0 (pa_cons (pv 0) (pa_cons (pv 1) pa_nil)))))
    (pss_cons (by exact (ps_if (pt_cmpR op_isN (pv 2) pe_non (nomark _)) (pss_one (by exact (ps_raise rfl (takes_of rfl rfl rfl rfl) (pmk_oex TC.ox TC.ini TC.ty GE hr2 bE .nil pass0 rfl TC.m (pa_cons (pv 1) pa_nil))))) pss_nil))
    (pss_one (by exact (ps_ret (pv 2))))), ?_⟩
  rcases h with ⟨js, b, q⟩ | ⟨n, g⟩
  · refine ⟨_, rfl, _, rfl, x, v, ss, rs, ns, rfl, iv, he, .inl ⟨js, b, fun p H1 e1 np gp => ?_⟩⟩
    exact K1.gN ⟨_, rfl, rfl, _, rfl, iteF ⟨_, rfl, q p H1 e1 np gp⟩⟩
  · refine ⟨_, rfl, _, rfl, x, v, ss, rs, ns, rfl, iv, he, .inr ⟨n, fun H1 e1 => ?_⟩⟩
    exact K1.gN ⟨_, rfl, rfl, _, rfl, iteT ⟨_, rfl, (by show 1 ≤ 1000; decide), raise_one g e1⟩⟩
end
end K1
end
-- XNs
section
set_option Elab.async false
set_option linter.all false
set_option maxRecDepth 100000
set_option maxHeartbeats 4000000
namespace K1
open PySem PySem.Spec PyProof.Rows L2 W0
abbrev sNs : Stmt := top 35
abbrev sIB : Stmt := inClass (top 10) 0
theorem scNs : FnScope ["valley", "spans", "taken", "index", "span", "least", "most"] ["valley", "spans"] (defScope sNs) := ⟨rfl, rfl, rfl, by decide +kernel, rfl, by decide +kernel, by decide +kernel⟩
theorem scIB : FnScope ["self", "index"] ["self", "index"] (defScope sIB) := ⟨rfl, rfl, rfl, by decide +kernel, rfl, by decide +kernel, by decide +kernel⟩
/-- one of two ways to take a value apart -/
theorem pg_or {X : Cx} {e : Expr} {g1 g2 : TG} (h1 : PG X e g1) (h2 : PG X e g2) : PG X e (fun v σ H Q => g1 v σ H Q ∨ g2 v σ H Q) :=
  ⟨fun pins s σ H v u Q I r h => h.elim (fun z => h1.run pins s σ H v u Q I r z) fun z => h2.run pins s σ H v u Q I r z⟩
abbrev SpaV (H : Hp) (x : V) (e : Int × Int) : Prop := SeqV H x [.int e.1, .int e.2]
/-- dates that are told for sure -/
def lones (sps : List (Int × Int)) : List Int := (sps.filter fun e => decide (e.1 = e.2)).map (·.1)
/-- good spans -/
def GoodSp (sps : List (Int × Int)) : Prop := (∀ e ∈ sps, e.1 ≤ e.2) ∧ (lones sps).Nodup
/-- no span behind these -/
def BadSp (K : PySem.W.Frag) (H : Hp) (sps : List (Int × Int)) (x : V) : Prop := NoSpan K H x ∨ ∃ d, SpaV H x (d, d) ∧ d ∈ lones sps
theorem BadSp.ext {K : PySem.W.Frag} {H H' : Hp} {sps : List (Int × Int)} {x : V} (h : BadSp K H sps x) (e : Same H H') : BadSp K H' sps x := h.imp (fun z => z.ext e) fun ⟨d, a, b⟩ => ⟨d, SeqV.ext a e, b⟩
theorem lones_snoc {sps : List (Int × Int)} {i : Nat} (hi : i < sps.length) (u : Int) : u ∈ lones (sps.take (i + 1)) ↔ u ∈ lones (sps.take i) ∨ (sps[i].1 = sps[i].2 ∧ u = sps[i].1) := by
  unfold lones
  rw [List.take_add_one, List.getElem?_eq_getElem hi, Option.toList, List.filter_append, List.map_append, List.mem_append]
  refine or_congr Iff.rfl ?_
  by_cases h : sps[i].1 = sps[i].2
  · rw [List.filter_cons, decide_eq_true h]
    simp [h]
  · rw [List.filter_cons, decide_eq_false h]
    simp [h]
theorem lone_new {sps : List (Int × Int)} {i : Nat} (hi : i < sps.length) (nd : (lones sps).Nodup) (h : sps[i].1 = sps[i].2) : sps[i].1 ∉ lones (sps.take i) := fun m => by
  have e : lones sps = lones (sps.take i) ++ (sps[i].1 :: lones (sps.drop (i + 1))) := by
    have c : sps = sps.take i ++ (sps[i] :: sps.drop (i + 1)) := by rw [← List.drop_eq_getElem_cons hi, List.take_append_drop]
    have d : lones (sps[i] :: sps.drop (i + 1)) = sps[i].1 :: lones (sps.drop (i + 1)) := by
      unfold lones
      rw [List.filter_cons, decide_eq_true h]
      rfl
    have f : ∀ as bs : List (Int × Int), lones (as ++ bs) = lones as ++ lones bs := fun as bs => by
      unfold lones
      rw [List.filter_append, List.map_append]
    rw [← d, ← f, ← c]
  rw [e] at nd
  exact (List.nodup_append.mp nd).2.2 _ m _ (List.mem_cons_self ..) rfl
/-- what the spans of a valley are, or where they fail first -/
def spNs (K : PySem.W.Frag) (C CB : Addr) : Sp := fun vs H Q E => ∃ x v ss rs ns, vs = [.ref x, v] ∧ IsV C H x ss rs ns ∧ rs.length ≤ 1000 ∧
  ((NoSeq K H v ∧ Goes CB 0 H E) ∨
   ∃ (sps : List (Int × Int)) (us rest : List V), SeqV H v (us ++ rest) ∧ Paired (SpaV H) us sps ∧ GoodSp sps ∧ (us ++ rest).length ≤ 2000 ∧ sps.length ≤ rs.length ∧
    ((rest = [] ∧ sps.length = rs.length ∧ ∀ H', Same H H' → Q .non H') ∨ (rest = [] ∧ sps.length < rs.length ∧ Goes CB (sps.length : Nat) H E) ∨
     (∃ z r, rest = z :: r ∧ (sps.length = rs.length ∨ BadSp K H sps z) ∧ Goes CB (sps.length : Nat) H E)))
section
variable {P : Program} {w : World} {K : PySem.W.Frag} {mg : Str → Option Value} {base : Heap} {C CB CF : Addr}
theorem ok_iB {f C : Addr} {fd : FuncData} (F : Fun K "__init__" "BadSpans.__init__" sIB f fd) (T : FeC K mg CF) (TC : ErC K mg "BadSpans" C f) : FnOk P w K mg base CX0 1 f fd ["self", "index"] (spErI C) := by
  refine F.ok scIB (fun vs H Q E h => ?_) (fun cdv A outer s H vs Q E hr h => ?_)
  · obtain ⟨a, v, rfl, _⟩ := h
    rfl
  obtain ⟨a, v, rfl, ha, q⟩ := h
  refine ⟨_, pss_cons (by exact ps_expr (pe_feinit rfl T (pa_cons (pv 0) (pa_cons pe_str pa_nil)))) (pss_one (by exact ps_ost (pv 0) (pv 1))), ?_⟩
  exact ⟨_, rfl, a, C, [.str _], rfl, (by decide), TC.ox, ha, _, rfl, _, rfl, a, C, rfl, TC.ox, TC.no, .inl ⟨ha, fun d hd n => q d hd n⟩⟩
theorem ok_Ns {f g fS fR fE : Addr} {fd gd nd rd ed : FuncData} (F : Fun K "need_spans" "need_spans" sNs f fd) (B : Bl mg) (T : VcT K C) (me : mg "enumerate" = none) (ms : mg "set" = none)
    (FI : Fun K "is_list" "is_list" sIsList g gd) (b : Binds K gd ["thing"] []) (m : mg "is_list" = some (.ref g))
    (GN : FnOk P w K mg base CX0 3 fS nd ["thing"] (spSn K)) (bN : Binds K nd ["thing"] []) (kN : PySem.W.keepIn K (.ref fS) = true) (mN : mg "_is_span" = some (.ref fS))
    (GR : FnOk P w K mg base CX0 1 fR rd ["self"] (spRo C)) (hR : Meth K C "roads" fR) (bR : Binds K rd ["self"] [])
    (TF : FeC K mg CF) (TC : ErC K mg "BadSpans" CB fE) (FE : Fun K "__init__" "BadSpans.__init__" sIB fE ed) (bE : Binds K ed ["self", "index"] []) :
    FnOk P w K mg base (L2.CX P w) 4 f fd ["valley", "spans"] (spNs K C CB) := by
  have G := ok_isList (P := P) (w := w) (base := base) FI B
  have GE := ok_iB (P := P) (w := w) (base := base) FE TF TC
  refine F.okX scNs (fun vs H Q E h => ?_) (fun cdv A outer s H vs Q E hr h => ?_)
  · obtain ⟨x, v, ss, rs, ns, rfl, _⟩ := h
    rfl
  obtain ⟨x, v, ss, rs, ns, rfl, iv, lr, h⟩ := h
  have nd := scNs.nd
  have hu := hu_of hr
  have hr1 : Room 1 _ := hr.mono (by decide)
  have hr2 : Room 2 _ := hr.mono (by decide)
  have hr3 : Room 3 _ := hr.mono (by decide)
  refine ⟨_, (pss_cons (by exact (ps_if (pt_not (pt_val (pe_call G hr1 rfl m FI.kp b .nil pass0 (pa_cons (pv 1) pa_nil)))) (pss_one (by exact (ps_raise rfl (takes_of rfl rfl rfl rfl) (pmk_oex TC.ox TC.ini TC.ty GE hr2 bE .nil pass0 rfl TC.m (pa_cons pe_int pa_nil))))) pss_nil))
    (pss_cons (by exact (ps_set (i := 2) nd rfl (.inl rfl) (pe_callTy0 cr_set0K rfl ms PyProof.Rows.boot_set)))
    (pss_cons (by exact (ps_for (passes_of rfl) rfl (by exact pi_enumV 1 rfl me (pv 1)) (pg_tup rfl (pgs_cons (pg_name (i := 3) nd rfl (.inl rfl)) (pgs_cons (pg_name (i := 4) nd rfl (.inl rfl)) pgs_nil))) (pss_cons (by exact (ps_if (PW.pt (pw_or (pt_cmpR op_ge (pv 3) (pe_callB call_len_seq rfl B.len PySem.boot_len (pa_cons (pe_meth0 (pv 0) T.cl hR GR hr1 bR .nil pass0) pa_nil)) (nomark _)) (pw_or1 (pt_not (pt_val (pe_call GN hr3 rfl mN kN bN .nil pass0 (pa_cons (pv 4) pa_nil))))))) (pss_one (by exact (ps_raise rfl (takes_of rfl rfl rfl rfl) (pmk_oex TC.ox TC.ini TC.ty GE hr2 bE .nil pass0 rfl TC.m (pa_cons (pv 3) pa_nil))))) pss_nil))
    (pss_cons (by exact (ps_asg (pv 4) (pg_or (pg_tup rfl (pgs_cons (pg_name (i := 5) nd rfl (.inl rfl)) (pgs_cons (pg_name (i := 6) nd rfl (.inl rfl)) pgs_nil))) (pg_lst rfl (pgs_cons (pg_name (i := 5) nd rfl (.inl rfl)) (pgs_cons (pg_name (i := 6) nd rfl (.inl rfl)) pgs_nil))))))
    (pss_one (by exact (ps_if (pt_cmpR op_eq (pv 5) (pv 6) (nomark _)) (pss_cons (by exact (ps_if (pt_cmpR or_sinK (pv 5) (pv 2) (by with_unfolding_all rfl)) (pss_one (by exact (ps_raise rfl (takes_of rfl rfl rfl rfl) (pmk_oex TC.ox TC.ini TC.ty GE hr2 bE .nil pass0 rfl TC.m (pa_cons (pv 3) pa_nil))))) pss_nil))
    (pss_one (by exact (ps_expr (pe_saddK (pv 2) (pa_cons (pv 5) pa_nil)))))) pss_nil)))))))
    (pss_one (by exact (ps_if (pt_cmpR op_lt (pe_callB call_len_seq rfl B.len PySem.boot_len (pa_cons (pv 1) pa_nil)) (pe_callB call_len_seq rfl B.len PySem.boot_len (pa_cons (pe_meth0 (pv 0) T.cl hR GR hr1 bR .nil pass0) pa_nil)) (nomark _)) (pss_one (by exact (ps_raise rfl (takes_of rfl rfl rfl rfl) (pmk_oex TC.ox TC.ini TC.ty GE hr2 bE .nil pass0 rfl TC.m (pa_cons (pe_callB call_len_seq rfl B.len PySem.boot_len (pa_cons (pv 1) pa_nil)) pa_nil))))) pss_nil)))))), ?_⟩
  obtain ⟨dx, fx, ix, f0⟩ := iv.inst
  rcases h with ⟨⟨t, ty, kt, nt⟩, g⟩ | ⟨sps, us, rest, sv, pr, good, l2, lsr, rest2⟩
  · refine ⟨_, rfl, v, t, rfl, ty, kt, fun H' e => ⟨_, rfl, ?_⟩⟩
    rw [nt]
    exact iteT ⟨by decide, raise_idx g e⟩
  obtain ⟨t, ty, kt, st⟩ := sv.ty (K := K)
  have lus : us.length = sps.length := pr.length
  refine ⟨_, rfl, v, t, rfl, ty, kt, fun H1 e1 => ⟨_, rfl, ?_⟩⟩
  rw [st]
  refine iteF ?_
  obtain ⟨p, rfl, hp⟩ := sv.ext e1
  have sq : SqA K H1 p (us ++ rest) := hp.imp (fun h => SqL.of h) (fun h => SqT.of h)
  refine ⟨rfl, fun sA hsA => ?_⟩
  have e2 : Same H (upd H1 sA (SetK P w sA (fun _ => false) 0)) := e1.trans (K1.Same.upd hsA)
  have hsA0 : H sA = none := e1.free hsA
  have sq2 : SqA K (upd H1 sA (SetK P w sA (fun _ => false) 0)) p (us ++ rest) := SqA.same (H := H1) sq (K1.Same.upd hsA)
  refine ⟨p, us ++ rest, rfl, sq2, fun J G wk hG => ?_⟩
  have pn : p ≠ sA := hp.elim (fun h => ne_of_none h hsA) (fun h => ne_of_none h hsA)
  refine for_it wk (fun i σ Hc => i ≤ sps.length ∧ (∃ a b c d, σ = [some (.ref x), some (.ref p), some (.ref sA), a, b, c, d]) ∧ Same H Hc ∧ (∀ c o, c ≠ sA → upd H1 sA (SetK P w sA (fun _ => false) 0) c = some o → Hc c = some o) ∧
      ∃ (S : Key → Bool) (k : Nat), Hc sA = some (SetK P w sA S k) ∧ k ≤ i ∧ ∀ u : Int, S (.inl u) = decide (u ∈ lones (sps.take i))) ?_ ?_ ?_ ?_
  · exact ⟨Nat.zero_le _, ⟨_, _, _, _, rfl⟩, e2, fun c o _ h => h, _, 0, upd_same, Nat.le_refl _, fun u => by simp [lones]⟩
  · rintro i σ Hc hi ⟨h1, h2, h3, h4, h5⟩
    exact hG Hc fun o ho => h4 p o pn ho
  · rintro i y σ Hc H' hi ⟨h1, ⟨sa, sb, sc, sd, rfl⟩, h3, h4, S, k, h5, h6, h7⟩ ⟨T', x1, x2, rfl, hT, rfl, e1', e2'⟩
    obtain rfl : x1 = .int (i : Nat) := (Option.some.inj e1').symm
    have e2' : (us ++ rest)[i]? = some x2 := e2'
    have hT2 := K1.Same.upd (H := Hc) (p := T') (o := .tup [.int (i : Nat), x2]) hT
    have eT : Same H (upd Hc T' (.tup [.int (i : Nat), x2])) := h3.trans hT2
    refine ⟨T', _, rfl, SqT.of upd_same, rfl, _, _, rfl, _, _, rfl, rfl, ?_⟩
    generalize upd Hc T' (.tup [.int (i : Nat), x2]) = H2 at hT2 eT ⊢
    refine ⟨_, rfl, _, rfl, x, dx, fx, rfl, eT _ _ ix, f0 _ (by decide +kernel), x, ss, rs, ns, rfl, iv.same eT, fun l qs hl pq => ?_⟩
    have hl2 := K1.Same.upd (H := H2) (p := l) (o := .lst (qs.map V.ref)) hl
    have gl := upd_same' H2 l (.lst (qs.map V.ref))
    generalize L2.upd H2 l (.lst (qs.map V.ref)) = H3 at hl2 gl ⊢
    have e3 : Same H H3 := eT.trans hl2
    have sA3 : H3 sA = some (SetK P w sA S k) := hl2 _ _ (hT2 _ _ h5)
    have lq : ((qs.map V.ref).length : Int) = (rs.length : Int) := by rw [List.length_map, pq.length]
    refine ⟨l, _, rfl, .inl (SqL.of gl), _, _, rfl, rfl, _, rfl, ?_⟩
    rw [lq]
    by_cases hlt : i < sps.length
    · have hir : ¬ ((rs.length : Int) ≤ (i : Nat)) := by omega
      rw [decide_eq_false hir]
      refine iteF ?_
      obtain ⟨y2, ey, sy⟩ := paired_get pr hlt
      rw [List.getElem?_append_left (by omega), ey] at e2'
      obtain rfl := Option.some.inj e2'
      have le := good.1 sps[i] (List.getElem_mem hlt)
      refine ⟨_, rfl, y2, rfl, .inl ⟨_, _, SeqV.ext sy e3, le, fun H4 e4 => ⟨_, rfl, ?_⟩⟩⟩
      refine iteF ?_
      have e5 : Same H H4 := e3.trans e4
      have sA4 := e4 _ _ sA3
      have k4 : ∀ c o, c ≠ sA → upd H1 sA (SetK P w sA (fun _ => false) 0) c = some o → H4 c = some o := fun c o n z => e4 _ _ (hl2 _ _ (hT2 _ _ (h4 c o n z)))
      obtain ⟨q2, rfl, hq⟩ := SeqV.ext sy e5
      rcases hq with hq | hq
      · refine ⟨_, rfl, .inr ⟨q2, _, rfl, SqL.of hq, rfl, ⟨_, _, rfl, K1.gN ⟨_, _, rfl, K1.gN ⟨rfl, ?_⟩⟩⟩⟩⟩
        refine ⟨_, rfl, _, rfl, rfl, _, rfl, ?_⟩
        by_cases heq : sps[i].1 = sps[i].2
        · rw [decide_eq_true (by rw [heq])]
          refine iteT ?_
          refine ⟨_, rfl, _, rfl, .inl sps[i].1, sA, S, k, rfl, rfl, sA4, _, rfl, ?_⟩
          rw [h7, decide_eq_false (lone_new hlt good.2 heq)]
          refine iteF ?_
          refine ⟨_, rfl, ⟨sA, S, k, rfl, sA4⟩, _, rfl, sA, .inl sps[i].1, S, k, rfl, rfl, sA4, (by show k + 1 < 4096; omega), ?_⟩
          refine ⟨hlt, ⟨_, _, _, _, rfl⟩, fun c o n => ?_, fun c o n1 n2 => ?_, _, _, upd_same, ?_, fun u => ?_⟩
          · rw [upd_ne (ne_of_none n hsA0)]
            exact e5 _ _ n
          · rw [upd_ne n1]
            exact k4 c o n1 n2
          · split <;> omega
          · show (S (.inl u) || decide ((Sum.inl u : Key) = Sum.inl sps[i].1)) = decide (u ∈ lones (sps.take (i + 1)))
            rw [h7, show decide ((Sum.inl u : Key) = Sum.inl sps[i].1) = decide (u = sps[i].1) from decide_eq_decide.mpr ⟨fun z => by cases z; rfl, fun z => by rw [z]⟩, ← Bool.decide_or]
            exact decide_eq_decide.mpr ((or_congr Iff.rfl ⟨fun z => ⟨heq, z⟩, fun z => z.2⟩).trans (lones_snoc hlt u).symm)
        · rw [decide_eq_false (fun z => heq (V.int.inj z))]
          refine iteF ?_
          refine ⟨hlt, ⟨_, _, _, _, rfl⟩, e5, k4, S, k, sA4, by omega, fun u => ?_⟩
          rw [h7]
          exact decide_eq_decide.mpr (Iff.symm ((lones_snoc hlt u).trans ⟨fun z => z.elim id fun y => absurd y.1 heq, .inl⟩))
      · refine ⟨_, rfl, .inl ⟨q2, _, rfl, SqT.of hq, rfl, ⟨_, _, rfl, K1.gN ⟨_, _, rfl, K1.gN ⟨rfl, ?_⟩⟩⟩⟩⟩
        refine ⟨_, rfl, _, rfl, rfl, _, rfl, ?_⟩
        by_cases heq : sps[i].1 = sps[i].2
        · rw [decide_eq_true (by rw [heq])]
          refine iteT ?_
          refine ⟨_, rfl, _, rfl, .inl sps[i].1, sA, S, k, rfl, rfl, sA4, _, rfl, ?_⟩
          rw [h7, decide_eq_false (lone_new hlt good.2 heq)]
          refine iteF ?_
          refine ⟨_, rfl, ⟨sA, S, k, rfl, sA4⟩, _, rfl, sA, .inl sps[i].1, S, k, rfl, rfl, sA4, (by show k + 1 < 4096; omega), ?_⟩
          refine ⟨hlt, ⟨_, _, _, _, rfl⟩, fun c o n => ?_, fun c o n1 n2 => ?_, _, _, upd_same, ?_, fun u => ?_⟩
          · rw [upd_ne (ne_of_none n hsA0)]
            exact e5 _ _ n
          · rw [upd_ne n1]
            exact k4 c o n1 n2
          · split <;> omega
          · show (S (.inl u) || decide ((Sum.inl u : Key) = Sum.inl sps[i].1)) = decide (u ∈ lones (sps.take (i + 1)))
            rw [h7, show decide ((Sum.inl u : Key) = Sum.inl sps[i].1) = decide (u = sps[i].1) from decide_eq_decide.mpr ⟨fun z => by cases z; rfl, fun z => by rw [z]⟩, ← Bool.decide_or]
            exact decide_eq_decide.mpr ((or_congr Iff.rfl ⟨fun z => ⟨heq, z⟩, fun z => z.2⟩).trans (lones_snoc hlt u).symm)
        · rw [decide_eq_false (fun z => heq (V.int.inj z))]
          refine iteF ?_
          refine ⟨hlt, ⟨_, _, _, _, rfl⟩, e5, k4, S, k, sA4, by omega, fun u => ?_⟩
          rw [h7]
          exact decide_eq_decide.mpr (Iff.symm ((lones_snoc hlt u).trans ⟨fun z => z.elim id fun y => absurd y.1 heq, .inl⟩))
    · have ei : i = sps.length := by omega
      subst ei
      obtain ⟨z, r, rfl, bad, g⟩ : ∃ z r, rest = z :: r ∧ (sps.length = rs.length ∨ BadSp K H sps z) ∧ Goes CB (sps.length : Nat) H E := by
        rcases rest2 with ⟨h, _⟩ | ⟨h, _⟩ | h
        · rw [h, List.append_nil] at hi
          omega
        · rw [h, List.append_nil] at hi
          omega
        · exact h
      rw [List.getElem?_append_right (by omega), lus, Nat.sub_self] at e2'
      obtain rfl : z = x2 := Option.some.inj e2'
      by_cases full : sps.length = rs.length
      · rw [decide_eq_true (show (rs.length : Int) ≤ (sps.length : Nat) by omega)]
        exact iteT (iteT ⟨_, rfl, (by show 1 ≤ 1000; decide), raise_idx g e3⟩)
      · rw [decide_eq_false (show ¬ (rs.length : Int) ≤ (sps.length : Nat) by omega)]
        refine iteF ?_
        rcases bad.resolve_left full with no | ⟨d, sd, hm⟩
        · exact ⟨_, rfl, z, rfl, .inr ⟨no.ext e3, fun H4 e4 => ⟨_, rfl, iteT ⟨_, rfl, (by show 1 ≤ 1000; decide), raise_idx g (e3.trans e4)⟩⟩⟩⟩
        · refine ⟨_, rfl, z, rfl, .inl ⟨_, _, SeqV.ext sd e3, Int.le_refl d, fun H4 e4 => ⟨_, rfl, ?_⟩⟩⟩
          refine iteF ?_
          have e5 : Same H H4 := e3.trans e4
          have sA4 := e4 _ _ sA3
          obtain ⟨q2, rfl, hq⟩ := SeqV.ext sd e5
          rcases hq with hq | hq
          · refine ⟨_, rfl, .inr ⟨q2, _, rfl, SqL.of hq, rfl, ⟨_, _, rfl, K1.gN ⟨_, _, rfl, K1.gN ⟨rfl, ?_⟩⟩⟩⟩⟩
            refine ⟨_, rfl, _, rfl, rfl, _, rfl, ?_⟩
            rw [decide_eq_true rfl]
            refine iteT ⟨_, rfl, _, rfl, .inl d, sA, S, k, rfl, rfl, sA4, _, rfl, ?_⟩
            rw [h7, List.take_of_length_le (Nat.le_refl _), decide_eq_true hm]
            exact iteT ⟨_, rfl, (by show 1 ≤ 1000; decide), raise_idx g e5⟩
          · refine ⟨_, rfl, .inl ⟨q2, _, rfl, SqT.of hq, rfl, ⟨_, _, rfl, K1.gN ⟨_, _, rfl, K1.gN ⟨rfl, ?_⟩⟩⟩⟩⟩
            refine ⟨_, rfl, _, rfl, rfl, _, rfl, ?_⟩
            rw [decide_eq_true rfl]
            refine iteT ⟨_, rfl, _, rfl, .inl d, sA, S, k, rfl, rfl, sA4, _, rfl, ?_⟩
            rw [h7, List.take_of_length_le (Nat.le_refl _), decide_eq_true hm]
            exact iteT ⟨_, rfl, (by show 1 ≤ 1000; decide), raise_idx g e5⟩
  · rintro σ Hc ⟨h1, ⟨sa, sb, sc, sd, rfl⟩, h3, h4, S, k, h5, h6, h7⟩
    have r0 : rest = [] := by
      cases rest with
      | nil => rfl
      | cons y ys => rw [List.length_append, List.length_cons] at h1; omega
    have sqc : SqA K Hc p (us ++ rest) := hp.imp (fun h => SqL.of (h4 p _ pn (K1.Same.upd hsA _ _ h))) (fun h => SqT.of (h4 p _ pn (K1.Same.upd hsA _ _ h)))
    refine ⟨_, rfl, p, _, rfl, sqc, _, rfl, x, dx, fx, rfl, h3 _ _ ix, f0 _ (by decide +kernel), x, ss, rs, ns, rfl, iv.same h3, fun l qs hl pq => ?_⟩
    have hl2 := K1.Same.upd (H := Hc) (p := l) (o := .lst (qs.map V.ref)) hl
    have gl := upd_same' Hc l (.lst (qs.map V.ref))
    generalize L2.upd Hc l (.lst (qs.map V.ref)) = H3 at hl2 gl ⊢
    have e3 : Same H H3 := h3.trans hl2
    have lq : ((qs.map V.ref).length : Int) = (rs.length : Int) := by rw [List.length_map, pq.length]
    have lv : ((us ++ rest).length : Int) = (sps.length : Int) := by rw [r0, List.append_nil, lus]
    refine ⟨l, _, rfl, .inl (SqL.of gl), _, _, rfl, rfl, _, rfl, ?_⟩
    rw [lq, lv]
    rcases rest2 with ⟨_, el, q⟩ | ⟨_, lt, g⟩ | ⟨z, r, er, _⟩
    · rw [decide_eq_false (by omega)]
      exact iteF (q H3 e3)
    · rw [decide_eq_true (by omega)]
      refine iteT ⟨_, rfl, p, _, rfl, SqA.same (H := Hc) sqc hl2, (by show 1 ≤ 1000; decide), ?_⟩
      rw [lv]
      exact raise_idx g e3
    · rw [r0] at er
      cases er
end
end K1
end
-- WLaw1
section
set_option Elab.async false
set_option linter.all false
set_option maxRecDepth 100000
set_option maxHeartbeats 4000000
namespace K1
open PySem PySem.Spec PyProof.Rows L2
abbrev sSpring : Stmt := top 43
def spSpring (K : PySem.W.Frag) : Sp := fun vs H Q _ => ∃ (a : Addr) (t : Int) (ns : List Int), vs = [.ref a, .int t] ∧ SqL K H a (ns.map V.int) ∧ 0 ≤ t ∧ t ≤ 1000 ∧ ns.length ≤ 1000 ∧ ∀ p H', Same H H' → H p = none → Spr H' p 0 → Q (.ref p) H'
theorem scSpring : FnScope ["script", "turn", "cell", "mix", "at", "one"] ["script", "turn"] (defScope sSpring) := ⟨rfl, rfl, rfl, by decide +kernel, rfl, by decide +kernel, by decide +kernel⟩
theorem atI_map {ns : List Int} {t : Int} (h0 : 0 ≤ t) (h1 : t < (ns.length : Int)) : ∃ n : Int, atI (ns.map V.int) t = some (.int n) := by
  have hk : t.toNat < ns.length := by omega
  have q : atI (ns.map V.int) ((t.toNat : Nat) : Int) = some (.int ns[t.toNat]) := atI_nat (by rw [List.getElem?_map, List.getElem?_eq_getElem hk]; rfl)
  rw [show ((t.toNat : Nat) : Int) = t by omega] at q
  exact ⟨_, q⟩
section
variable {P : Program} {w : World} {K : PySem.W.Frag} {mg : Str → Option Value} {base : Heap}
theorem ok_spring {f : Addr} {fd : FuncData} (F : Fun K "_law_spring" "_law_spring" sSpring f fd) (B : Bl mg) (me : mg "enumerate" = none) : FnOk P w K mg base CX0 1 f fd ["script", "turn"] (spSpring K) := by
  refine F.ok scSpring (fun vs H Q E h => ?_) (fun cdv A outer s H vs Q E hr h => ?_)
  · obtain ⟨a, t, ns, rfl, _⟩ := h
    rfl
  obtain ⟨a, t, ns, rfl, hS, t0, t1, hl, q⟩ := h
  have nd := scSpring.nd
  refine ⟨_, pss_cons (by exact (ps_par (i := 2) (j := 3) rfl nd rfl rfl (by decide) rfl rfl (pa_cons (pe_ifExp (pt_cmpR op_lt (pv 1) (pe_callB call_len_seq rfl B.len PySem.boot_len (pa_cons (pv 0) pa_nil)) (nomark _)) (pe_ix ix_list (pv 0) (pv 1) (fun _ _ => rfl))
      (pe_op op_add (pe_op op_mul pe_int (pv 1)) (pe_callB call_len_seq rfl B.len PySem.boot_len (pa_cons (pv 0) pa_nil)))) (pa_cons (pe_op op_add pe_int (pe_op op_mul pe_int (pv 1))) pa_nil)) (by rfl)))
    (pss_cons (by exact (ps_for PassesOwn.never rfl (by exact pi_enum rfl me (pa_cons (pe_slice sl_list (pv 0) po_none (po_some pe_int)) pa_nil)) (pg_tup rfl (pgs_cons (pg_name (i := 4) nd rfl (.inl rfl)) (pgs_cons (pg_name (i := 5) nd rfl (.inl rfl)) pgs_nil)))
      (pss_one (by exact (ps_set (i := 3) nd rfl (.inl rfl) (pe_op op_mod (pe_callTy call_int1 rfl B.int PyProof.Rows.boot_int (pa_cons (pe_op op_add (pe_op op_add (pe_op op_add (pe_op op_mul (pv 3) pe_int) (pv 5)) (pe_op op_mul pe_int (pv 4))) pe_int) pa_nil)) pe_int))))))
    (pss_one (by exact (ps_ret (pe_lst (pa_cons (pe_ifExp (pt_cmpR op_ge (pv 2) (pe_op op_pow pe_int pe_int) (nomark _)) (pv 2) pe_int)
      (pa_cons (pe_op op_mod (pe_callTy call_int1 rfl B.int PyProof.Rows.boot_int (pa_cons (pe_op op_add (pv 3) (pe_op op_mul (pv 2) pe_int)) pa_nil)) pe_int) (pa_cons pe_int pa_nil)))))))), ?_⟩
  have hlen : (ns.map V.int).length = ns.length := List.length_map _
  refine ⟨_, rfl, _, rfl, a, _, rfl, .inl hS, _, _, rfl, rfl, _, rfl, ?_⟩
  refine ite2 (fun c => ?_) (fun c => ?_)
  all_goals first
    | (have c' : t < (((ns.map V.int).length : Nat) : Int) := of_decide_eq_true c
       rw [hlen] at c'
       obtain ⟨cell, ec⟩ := atI_map t0 c'
       refine ⟨_, rfl, _, rfl, a, _, _, _, rfl, rfl, hS, ec, ?_⟩)
    | refine ⟨_, rfl, _, _, rfl, rfl, .inl (by constructor <;> decide), _, rfl, a, _, rfl, .inl hS, _, _, rfl, rfl, ?_⟩
  all_goals
    refine ⟨_, rfl, _, _, rfl, rfl, .inl (by constructor <;> decide), _, _, rfl, rfl, _, _, rfl, ?_⟩
    refine ⟨_, rfl, 63, rfl, a, _, rfl, hS, fun L hL => ⟨L, _, rfl, SqL.of upd_same, ?_⟩⟩
    have eL := K1.Same.upd (o := .lst (cutV (ns.map V.int) none (some 63))) hL
    refine for_it (walk_enum (K := K)) (fun i σ Hc => (∃ (c m : Int) (sa sb : Option V), σ = [some (.ref a), some (.int t), some (.int c), some (.int m), sa, sb] ∧ 0 ≤ m ∧ m < 1000000000000) ∧ Same H Hc ∧ Hc L = some (.lst (cutV (ns.map V.int) none (some 63)))) ⟨⟨_, _, _, _, rfl, by omega, by omega⟩, eL, upd_same⟩ (fun i σ Hc _ h => SqL.of h.2.2) ?_ ?_
    · rintro i x σ Hc H' hi ⟨⟨c, m, sa, sb, rfl, m0, m1⟩, h1, h2⟩ ⟨T, x1, x2, rfl, hT, rfl, e1', e2'⟩
      obtain rfl : x1 = .int (i : Nat) := (Option.some.inj e1').symm
      have e2' : (cutV (ns.map V.int) none (some 63))[i]? = some x2 := e2'
      obtain ⟨n, rfl⟩ : ∃ n : Int, x2 = .int n := by
        have m1 := List.mem_of_mem_drop (List.mem_of_mem_take (List.mem_of_getElem? e2'))
        obtain ⟨n, _, e⟩ := List.mem_map.mp m1
        exact ⟨n, e.symm⟩
      have hT2 := K1.Same.upd (H := Hc) (p := T) (o := .tup [.int (i : Nat), .int n]) hT
      refine ⟨T, _, rfl, SqT.of upd_same, rfl, _, _, rfl, _, _, rfl, rfl, ?_⟩
      refine ⟨_, rfl, _, _, rfl, rfl, .inl ⟨by omega, by omega⟩, _, rfl, _, _, rfl, rfl, _, rfl, _, _, rfl, rfl, .inl (by constructor <;> decide), _, _, rfl, rfl, _, _, rfl, rfl, .inl ⟨_, rfl, _, _, rfl, rfl, (by show (0 : Int) < 2147483629; decide), ?_⟩⟩
      refine ⟨⟨c, _, _, _, rfl, Int.emod_nonneg _ (by decide), ?_⟩, h1.trans hT2, hT2 _ _ h2⟩
      have := Int.emod_lt_of_pos (m * 69069 + n + 5 * (i : Nat) + 1) (show (0 : Int) < 2147483629 by decide)
      omega
    · rintro σ Hc ⟨⟨c, m, sa, sb, rfl, m0, m1⟩, h1, h2⟩
      refine ⟨_, rfl, _, _, rfl, rfl, ⟨by decide, by decide, by decide⟩, _, _, rfl, rfl, _, rfl, ?_⟩
      have y0 := Int.emod_nonneg (m + c * 31) (show (2147483647 : Int) ≠ 0 by decide)
      have y1 := Int.emod_lt_of_pos (m + c * 31) (show (0 : Int) < 2147483647 by decide)
      refine ite2 (fun c2 => ?_) (fun c2 => ?_)
      · have c3 : c ≥ 10 ^ ((18 : Int).toNat) := of_decide_eq_true c2
        refine ⟨_, rfl, _, rfl, _, rfl, _, _, rfl, rfl, .inr (by constructor <;> decide), _, _, rfl, rfl, .inl ⟨_, rfl, _, _, rfl, rfl, (by show (0 : Int) < 2147483647; decide), (by show 3 ≤ sizeLine; decide), fun l hl => ?_⟩⟩
        exact q l _ (h1.trans (K1.Same.upd hl)) (h1.free hl) ⟨c, _, 0, upd_same, Int.le_trans (by decide) c3, y0, y1, Int.le_refl 0, Int.le_refl 0⟩
      · refine ⟨_, rfl, _, rfl, _, _, rfl, rfl, .inr (by constructor <;> decide), _, _, rfl, rfl, .inl ⟨_, rfl, _, _, rfl, rfl, (by show (0 : Int) < 2147483647; decide), (by show 3 ≤ sizeLine; decide), fun l hl => ?_⟩⟩
        exact q l _ (h1.trans (K1.Same.upd hl)) (h1.free hl) ⟨0, _, 0, upd_same, Int.le_refl 0, y0, y1, Int.le_refl 0, Int.le_refl 0⟩
end
end K1
end
-- WLaw2
section
set_option Elab.async false
set_option linter.all false
set_option maxRecDepth 100000
set_option maxHeartbeats 1000000
namespace K1
open PySem PySem.Spec PyProof.Rows L2 W0
abbrev sVN : Stmt := top 49
def names17 : List Str := ["b", "aa", "c3", "z", "mill", "a", "x0", "eight888", "q", "m1", "no", "y7", "dd", "k", "w2w", "r", "t9"]
def names3 : List Str := ["u", "ii", "hh"]
def nameK (k : Nat) : Str := ("h" : Str) ++ Str.ofString (toString ((0 : Int) + (k : Int)))
def names40 : List Str := (List.range 40).map nameK
def names60 : List Str := names17 ++ names3 ++ names40
def goodB (ss : List Str) : Bool := ss.Nodup && ss.all fun s => nameOk s && decide (s.length ≤ 1000)
theorem good_of {ss : List Str} (h : decide ss.Nodup = true) (h2 : (ss.all fun s => nameOk s && decide (s.length ≤ 1000)) = true) : Good ss := by
  refine ⟨of_decide_eq_true h, fun s hs => ?_⟩
  have := List.all_eq_true.mp h2 s hs
  exact ⟨(Bool.and_eq_true_iff.mp this).1, of_decide_eq_true (Bool.and_eq_true_iff.mp this).2⟩
theorem good60 : Good names60 := good_of (by decide +kernel) (by decide +kernel)
/-- nobody is none of them -/
def NoBody (ss : List Str) : Prop := ("nobody" : Str) ∉ ss
theorem nobody60 : NoBody names60 := by unfold NoBody; decide +kernel
theorem NoBody.perm {as bs : List Str} (g : NoBody bs) (p : as.Perm bs) : NoBody as := fun h => g (p.mem_iff.mp h)
theorem NoBody.take {as : List Str} (g : NoBody as) (n : Nat) : NoBody (as.take n) := fun h => g (List.mem_of_mem_take h)
theorem Good.perm {as bs : List Str} (g : Good bs) (p : as.Perm bs) : Good as := ⟨p.nodup_iff.mpr g.1, fun s hs => g.2 s (p.mem_iff.mp hs)⟩
theorem Good.take {as : List Str} (g : Good as) (n : Nat) : Good (as.take n) := ⟨g.1.sublist (List.take_sublist _ _), fun s hs => g.2 s (List.mem_of_mem_take hs)⟩
def unS : V → Str
  | .str s => s
  | _ => ""
theorem unS_map (ss : List Str) : (ss.map V.str).map unS = ss := by
  rw [List.map_map]
  exact List.map_id _
theorem perm_str {ys : List V} {ss : List Str} (p : ys.Perm (ss.map V.str)) : ∃ ts : List Str, ys = ts.map V.str ∧ ts.Perm ss := by
  refine ⟨ys.map unS, ?_, by have := p.map unS; rwa [unS_map] at this⟩
  rw [List.map_map]
  have : ∀ y ∈ ys, (V.str ∘ unS) y = y := fun y hy => by
    obtain ⟨s, _, rfl⟩ := List.mem_map.mp (p.mem_iff.mp hy)
    rfl
  exact (List.map_congr_left this).trans (List.map_id _) |>.symm
theorem cut_to (xs : List V) (k : Nat) : cutV xs none (some (k : Int)) = xs.take k := by
  unfold cutV
  rw [HT.sIx_none, HT.sIx_nat, List.drop_zero, Nat.sub_zero]
  by_cases h : k ≤ xs.length
  · rw [Nat.min_eq_left h]
  · rw [Nat.min_eq_right (by omega), List.take_length, List.take_of_length_le (by omega)]
def spVN : Sp := fun vs H Q _ => ∃ (a : Addr) (m n : Nat), vs = [.ref a, .int (m : Int)] ∧ Spr H a n ∧ n + 2000 ≤ 1000000 ∧ 1 ≤ m ∧ m ≤ 60 ∧
  ∀ (r : Addr) (ss : List Str) (H' : Hp), H r = none → r ≠ a → Kept a H H' → Spr H' a (n + 60) → H' r = some (.lst (ss.map V.str)) → (Good ss ∧ NoBody ss) → ss.length = m → Q (.ref r) H'
theorem scVN : FnScope ["spring", "many", "some", "k"] ["spring", "many"] (defScope sVN) := ⟨rfl, rfl, rfl, by decide +kernel, rfl, by decide +kernel, by decide +kernel⟩
section
variable {P : Program} {w : World} {K : PySem.W.Frag} {mg : Str → Option Value} {base : Heap} {fM : Addr} {fdM : FuncData}
theorem ok_VN {f : Addr} {fd : FuncData} (F : Fun K "_law_v_names" "_law_v_names" sVN f fd) (B : Bl mg) (mr : mg "range" = none)
    (GM : FnOk P w K mg base CX0 2 fM fdM ["spring", "some"] spMixed) (bM : Binds K fdM ["spring", "some"] []) (kM : PySem.W.keepIn K (.ref fM) = true) (mM : mg "_law_mixed" = some (.ref fM)) :
    FnOk P w K mg base CX0 3 f fd ["spring", "many"] spVN := by
  refine F.ok scVN (fun vs H Q E h => ?_) (fun cdv A outer s H vs Q E hr h => ?_)
  · obtain ⟨a, m, n, rfl, _⟩ := h
    rfl
  obtain ⟨a, m, n, rfl, hs, hn, hl, hm, q⟩ := h
  have nd := scVN.nd
  refine ⟨_, pss_cons (by exact (ps_set (i := 2) nd rfl (.inl rfl) (pe_lst (pa_cons pe_str (pa_cons pe_str (pa_cons pe_str (pa_cons pe_str (pa_cons pe_str (pa_cons pe_str (pa_cons pe_str (pa_cons pe_str (pa_cons pe_str (pa_cons pe_str (pa_cons pe_str (pa_cons pe_str (pa_cons pe_str (pa_cons pe_str (pa_cons pe_str (pa_cons pe_str (pa_cons pe_str pa_nil))))))))))))))))))))
    (pss_one (by exact (ps_ret (pe_slice sl_list (pe_call GM hr rfl mM kM bM .nil pass0 (pa_cons (pv 0) (pa_cons (pe_op op_cat (pe_op op_cat (pv 2) (pe_lst (pa_cons pe_str (pa_cons pe_str (pa_cons pe_str pa_nil))))) (pe_lc (own := [("k", 3)]) (g := gName 3) (tt := tYes) (te := _) rfl nd (by exact pi_range1 rfl mr (pa_cons pe_int pa_nil)) (by exact blkOk_by (N := ["spring", "many", "some", "k"]) (sc := defScope sVN) (by decide +kernel)) (fun _ _ _ _ _ => by exact (pg_name (i := 3) nd rfl (.inl rfl))) (fun _ _ _ _ _ => by exact pts_nil) (fun _ _ _ _ _ => by exact (pe_op op_add_str pe_str (pe_callTy call_str_int rfl B.str PyProof.Rows.boot_str (pa_cons (pv 3) pa_nil)))))) pa_nil))) po_none (po_some (pv 1)))))), ?_⟩
  refine ⟨(by show 17 ≤ sizeLine; decide), fun L hL => ?_⟩
  generalize hU : L2.upd H L _ = H1
  have e1 : Same H H1 := by rw [← hU]; exact K1.Same.upd hL
  have gL : H1 L = some (.lst (names17.map V.str)) := by rw [← hU]; exact upd_same
  refine K1.gN ?_
  refine ⟨_, rfl, _, rfl, (by show 3 ≤ sizeLine; decide), fun M hM => ?_⟩
  generalize hU2 : L2.upd H1 M _ = H2
  have e2 : Same H1 H2 := by rw [← hU2]; exact K1.Same.upd hM
  have gM : H2 M = some (.lst (names3.map V.str)) := by rw [← hU2]; exact upd_same
  refine ⟨L, M, names17.map V.str, names3.map V.str, rfl, rfl, e2 _ _ gL, gM, (by show 20 ≤ sizeLine; decide), fun p1 hp1 => ?_⟩
  rw [← List.map_append]
  have e3 := K1.Same.upd (H := H2) (p := p1) (o := .lst ((names17 ++ names3).map V.str)) hp1
  have g3 := upd_same' H2 p1 (.lst ((names17 ++ names3).map V.str))
  generalize L2.upd H2 p1 (.lst ((names17 ++ names3).map V.str)) = H3 at e3 g3 ⊢
  refine ⟨40, rfl, by decide, by decide, fun D hD => ?_⟩
  refine lc_range (fun i Hc => Same H3 Hc ∧ Hc D = some (.lst ((names40.take i).map V.str))) ⟨K1.Same.upd hD, upd_same⟩ ?_ ?_
  · rintro i Hc hi ⟨f1, f2⟩
    refine ⟨rfl, ?_⟩
    unfold tYes
    refine iteT ?_
    have hi2 : i < 40 := hi
    have e60 : names40[i]? = some (nameK i) := by
      unfold names40
      rw [List.getElem?_map, List.getElem?_range hi2]
      rfl
    refine ⟨_, rfl, _, rfl, ?_, _, _, rfl, rfl, ?_, _, f2, ?_, ps_same_upd f1 hD, ?_⟩
    · have : ((0 : Int) + (i : Int)).natAbs < 64 := by omega
      exact Nat.lt_of_le_of_lt (Nat.log2_le_self _) (by omega)
    · have mem : nameK i ∈ names60 := List.mem_append_right _ (List.mem_of_getElem? e60)
      have := (good60.2 (nameK i) mem).2
      unfold nameK at this
      have e : (("h" : Str) ++ Str.ofString (toString ((0 : Int) + (i : Int)))).length = ("h" : Str).length + (Str.ofString (toString ((0 : Int) + (i : Int)))).length := Array.size_append
      rw [e] at this
      exact Nat.le_trans this (by decide)
    · rw [List.length_map]
      exact small1000 (Nat.le_trans (List.length_take_le _ _) (by omega))
    · rw [upd_same, map_take_succ e60]
      rfl
  · rintro Hc ⟨f1, f2⟩
    have f3 : Hc D = some (.lst (names40.map V.str)) := by
      have e : names40.take 40 = names40 := List.take_of_length_le (by rw [show names40.length = 40 by decide +kernel]; decide)
      rw [← e]
      exact f2
    refine ⟨p1, D, (names17 ++ names3).map V.str, names40.map V.str, rfl, rfl, f1 _ _ g3, f3, (by rw [List.length_map, List.length_map, show (names17 ++ names3).length = 20 by decide +kernel, show names40.length = 40 by decide +kernel]; decide), fun p2 hp2 => ?_⟩
    rw [← List.map_append, show names17 ++ names3 ++ names40 = names60 from rfl]
    have e4 := K1.Same.upd (H := Hc) (p := p2) (o := .lst (names60.map V.str)) hp2
    have g4 := upd_same' Hc p2 (.lst (names60.map V.str))
    generalize L2.upd Hc p2 (.lst (names60.map V.str)) = H4 at e4 g4 ⊢
    have all : Same H H4 := e1.trans (e2.trans (e3.trans (f1.trans e4)))
    have s4 : Spr H4 a n := by
      obtain ⟨x, y, z, e, r⟩ := hs
      exact ⟨x, y, z, all _ _ e, r⟩
    have pa : p2 ≠ a := by
      obtain ⟨x, y, z, e, r⟩ := hs
      exact fun zz => by
        have := (e1.trans (e2.trans (e3.trans f1))) _ _ e
        rw [← zz, hp2] at this
        cases this
    have l60 : names60.length = 60 := by decide +kernel
    refine ⟨a, p2, names60.map V.str, n, rfl, s4, by omega, g4, pa, by rw [List.length_map, l60]; decide, fun r ys H5 pm rn ra hr5 k5 s5 => ?_⟩
    obtain ⟨us, rfl, pu⟩ := perm_str pm
    refine ⟨_, rfl, _, rfl, r, _, rfl, SqL.of hr5, fun z hz => ?_⟩
    have za := s5.ne hz
    have k6 : Kept a H H5 := (Kept.same all).trans k5
    have zH : H z = none := by
      cases e : H z with
      | none => rfl
      | some o => rw [k6 _ _ za e] at hz; cases hz
    have e : cutV (us.map V.str) none (some (m : Int)) = (us.take m).map V.str := by
      rw [cut_to, ← List.map_take]
    have lu := pu.length_eq
    rw [l60] at lu
    refine q z (us.take m) _ zH za (k6.trans (Kept.new hz)) ((s5.upd za).mono (by rw [List.length_map, l60]; exact Nat.le_refl _)) (by rw [upd_same, e]) ⟨(good60.perm pu).take _, (nobody60.perm pu).take _⟩ ?_
    rw [List.length_take]
    omega
end
end K1
end
-- WLaw5
section
set_option Elab.async false
set_option linter.all false
set_option maxRecDepth 100000
set_option maxHeartbeats 4000000
namespace K1
open PySem PySem.Spec PyProof.Rows L2 W0
abbrev sLo : Stmt := top 48
theorem fr_kept {a : Addr} {H Hx : Hp} {z : Addr} (kx : Kept a H Hx) (hz : Hx z = none) (za : z ≠ a) : H z = none := by
  cases e : H z with
  | none => rfl
  | some o => rw [kx _ _ za e] at hz; cases hz
open Classical in
/-- the heap without these -/
noncomputable def wo (Z : Addr → Prop) (H : Hp) : Hp := fun b => if Z b then none else H b
theorem wo_some {Z : Addr → Prop} {H : Hp} {b : Addr} {o : HO} : wo Z H b = some o ↔ ¬ Z b ∧ H b = some o := by
  unfold wo
  by_cases h : Z b
  · rw [if_pos h]
    exact ⟨fun q => (by cases q), fun q => absurd h q.1⟩
  · rw [if_neg h]
    exact ⟨fun q => ⟨h, q⟩, fun q => q.2⟩
theorem wo_same {Z : Addr → Prop} {H H' : Hp} (k : ∀ b o, ¬ Z b → H b = some o → H' b = some o) : Same (wo Z H) (wo Z H') := fun b o e => by
  obtain ⟨n, e⟩ := wo_some.mp e
  exact wo_some.mpr ⟨n, k b o n e⟩
theorem wo_le {Z Z' : Addr → Prop} {H : Hp} (k : ∀ b, Z b → Z' b) : Same (wo Z' H) (wo Z H) := fun b o e => by
  obtain ⟨n, e⟩ := wo_some.mp e
  exact wo_some.mpr ⟨fun z => n (k b z), e⟩
theorem wo_out {Z : Addr → Prop} {H : Hp} : Same (wo Z H) H := fun b o e => (wo_some.mp e).2
abbrev Rel (α : Type) := Hp → V → α → Prop
def MonR {α : Type} (R : Rel α) : Prop := ∀ H H' v x, Same H H' → R H v x → R H' v x
def SeqR {α : Type} (R : Rel α) : Rel (List α) := fun H v xs => ∃ vs, SeqV H v vs ∧ xs.length ≤ 60 ∧ Paired (R H) vs xs
def Flat0 (K : PySem.W.Frag) : Rel V := fun H v x => v = x ∧ NoSeq K H v
theorem mon_flat0 {K : PySem.W.Frag} : MonR (Flat0 K) := fun H H' v x e h => ⟨h.1, h.2.ext e⟩
theorem mon_seq {α : Type} {R : Rel α} (m : MonR R) : MonR (SeqR R) := fun H H' v x e ⟨vs, a, b, c⟩ => ⟨vs, a.ext e, b, paired_imp (fun _ _ q => m _ _ _ _ e q) c⟩
def spLo {α : Type} (R : Rel α) (c : Nat) : Sp := fun vs H Q _ => ∃ (a : Addr) (v : V) (x : α) (n : Nat) (Z : Addr → Prop), vs = [.ref a, v] ∧ Spr H a n ∧ n + c ≤ 1000000 ∧ Z a ∧ (∀ z, Z z → H z ≠ none) ∧ R (wo Z H) v x ∧
  ∀ y H', Kept a H H' → Spr H' a (n + c) → R (wo Z H') y x → Q y H'
theorem scLo : FnScope ["spring", "thing", "found", "part"] ["spring", "thing"] (defScope sLo) := ⟨rfl, rfl, rfl, by decide +kernel, rfl, by decide +kernel, by decide +kernel⟩
theorem Spr.same {H H' : Hp} {a : Addr} {n : Nat} (s : Spr H a n) (e : Same H H') : Spr H' a n := by
  obtain ⟨x, y, z, h, r⟩ := s
  exact ⟨x, y, z, e _ _ h, r⟩
section
variable {P : Program} {w : World} {K : PySem.W.Frag} {mg : Str → Option Value} {base : Heap} {fD : Addr} {fdD : FuncData}
theorem ok_lo0 {f : Addr} {fd : FuncData} (F : Fun K "_law_loose" "_law_loose" sLo f fd) (B : Bl mg) : FnOk P w K mg base CX0 1 f fd ["spring", "thing"] (spLo (Flat0 K) 0) := by
  refine F.ok scLo (fun vs H Q E h => ?_) (fun cdv A outer s H vs Q E hr h => ?_)
  · obtain ⟨a, v, x, n, Z, rfl, _⟩ := h
    rfl
  obtain ⟨a, v, x, n, Z, rfl, hs, hn, za, hz, ⟨rfl, t, ty, kt, st⟩, q⟩ := h
  have nd := scLo.nd
  refine ⟨_, (pss_cons (by exact (ps_if (pt_not (pt_val (pe_callB call_isiT rfl B.isi PyProof.Rows.boot_isinstance (pa_cons (pv 1) (pa_cons (pe_tup (pa_cons (pe_bltn (v := .ty "list") rfl B.list PyProof.Rows.boot_list rfl) (pa_cons (pe_bltn (v := .ty "tuple") rfl B.tuple PyProof.Rows.boot_tuple rfl) pa_nil))) pa_nil))))) (pss_one (by exact (ps_ret (pv 1)))) pss_nil)) (pss_cons (by exact (ps_never)) (pss_one (by exact (ps_never))))), ?_⟩
  refine ⟨_, rfl, (by show 2 ≤ sizeLine; decide), fun p hp => ?_⟩
  have e := K1.Same.upd (H := H) (p := p) (o := .tup [.ty "list", .ty "tuple"]) hp
  refine ⟨v, p, _, _, _, _, rfl, upd_same, .cons (.ty "list") (.cons (.ty "tuple") .nil), TyX.ext ty (wo_out.trans e), kit_seq kt, _, rfl, ?_⟩
  rw [st]
  refine iteT ⟨_, rfl, q _ _ (Kept.same e) (hs.same e) ⟨rfl, t, TyX.ext ty (wo_same fun b o _ h => e b o h), kt, st⟩⟩
theorem ok_lo {α : Type} {R : Rel α} {c k : Nat} {f : Addr} {fd : FuncData} (mon : MonR R) (F : Fun K "_law_loose" "_law_loose" sLo f fd) (B : Bl mg) (mF : mg "_law_loose" = some (.ref f)) (b : Binds K fd ["spring", "thing"] [])
    (GD : FnOk P w K mg base CX0 1 fD fdD ["spring", "many"] spDraw) (bD : Binds K fdD ["spring", "many"] []) (kD : PySem.W.keepIn K (.ref fD) = true) (mD : mg "_law_draw" = some (.ref fD))
    (hk : 1 ≤ k) (G : FnOk P w K mg base CX0 k f fd ["spring", "thing"] (spLo R c)) : FnOk P w K mg base CX0 (k + 1) f fd ["spring", "thing"] (spLo (SeqR R) (60 * c + 1)) := by
  refine F.ok scLo (fun vs H Q E h => ?_) (fun cdv A outer s H vs Q E hr h => ?_)
  · obtain ⟨a, v, x, n, Z, rfl, _⟩ := h
    rfl
  obtain ⟨a, v, xs, n, Z, rfl, hs, hn, za, hz, ⟨vs, sv, hl, pv_⟩, q⟩ := h
  have nd := scLo.nd
  have hr1 : Room 1 _ := hr.mono hk
  refine ⟨_, (pss_cons (by exact (ps_if (pt_not (pt_val (pe_callB call_isiT rfl B.isi PyProof.Rows.boot_isinstance (pa_cons (pv 1) (pa_cons (pe_tup (pa_cons (pe_bltn (v := .ty "list") rfl B.list PyProof.Rows.boot_list rfl) (pa_cons (pe_bltn (v := .ty "tuple") rfl B.tuple PyProof.Rows.boot_tuple rfl) pa_nil))) pa_nil))))) (pss_one (by exact (ps_ret (pv 1)))) pss_nil)) (pss_cons (by exact (ps_setLc (i := 2) (own := [("part", 3)]) (g := gName 3) (tt := tYes) rfl nd rfl rfl (sw_true rfl rfl rfl (by decide +kernel)) (by exact pi_seqV 1 (pv 1)) (by exact blkOk_by (N := ["spring", "thing", "found", "part"]) (sc := defScope sLo) (by decide +kernel)) (fun _ _ _ _ _ => by exact (pg_name (i := 3) nd rfl (.inl rfl))) (fun _ _ _ _ _ => by exact pts_nil) (fun _ _ _ _ _ => by exact (pe_call G hr rfl mF F.kp b .nil pass0 (pa_cons (pv 0) (pa_cons (pv 3) pa_nil)))))) (pss_one (by exact (ps_ret (pe_ifExp (pt_cmpR op_eq (pe_call GD hr1 rfl mD kD bD .nil pass0 (pa_cons (pv 0) (pa_cons pe_int pa_nil))) pe_int (nomark _)) (pv 2) (pe_callTy call_tuple_of rfl B.tuple PyProof.Rows.boot_tuple (pa_cons (pv 2) pa_nil)))))))), ?_⟩
  obtain ⟨t, ty, kt, st⟩ := sv.ty (K := K)
  refine ⟨_, rfl, (by show 2 ≤ sizeLine; decide), fun p hp => ?_⟩
  have e := K1.Same.upd (H := H) (p := p) (o := .tup [.ty "list", .ty "tuple"]) hp
  refine ⟨v, p, _, _, _, _, rfl, upd_same, .cons (.ty "list") (.cons (.ty "tuple") .nil), TyX.ext ty (wo_out.trans e), kit_seq kt, _, rfl, ?_⟩
  rw [st]
  refine iteF ?_
  have hs1 := hs.same e
  have kp1 : Kept a H (L2.upd H p (.tup [.ty "list", .ty "tuple"])) := Kept.same e
  generalize L2.upd H p (.tup [.ty "list", .ty "tuple"]) = H1 at e hs1 kp1 ⊢
  obtain ⟨pv0, rfl, hpv⟩ := id sv
  have hpz : ¬ Z pv0 := hpv.elim (fun h => (wo_some.mp h).1) (fun h => (wo_some.mp h).1)
  have pva : pv0 ≠ a := fun z => hpz (by rw [z]; exact za)
  have hpv1 : H1 pv0 = some (.lst vs) ∨ H1 pv0 = some (.tup vs) := hpv.imp (fun h => e _ _ (wo_some.mp h).2) (fun h => e _ _ (wo_some.mp h).2)
  refine ⟨pv0, vs, rfl, hpv1.imp (fun h => SqL.of h) (fun h => SqT.of h), fun J Gw wk hG D hD => ?_⟩
  have Da := hs1.ne hD
  have DH : H D = none := e.free hD
  have lvs : vs.length = xs.length := pv_.length
  have nzD : ¬ Z D := fun z => hz D z DH
  refine lc_it wk (fun i Hc => Kept a H1 Hc ∧ Spr Hc a (n + c * i) ∧ ∃ acc, Hc D = some (.lst acc) ∧ acc.length = i ∧ Paired (R (wo (fun z => Z z ∨ z = D) Hc)) acc (xs.take i)) ⟨Kept.new hD, (hs1.upd Da).mono (by omega), [], upd_same, rfl, .nil⟩ (fun i Hc _ h => hG Hc fun o ho => h.1 _ _ pva ho) ?_ ?_
  · rintro i y Hc H' hi ⟨c1, c2, acc, c3, c4, c5⟩ ⟨rfl, hy⟩
    have hi2 : i < xs.length := by omega
    obtain ⟨y', ey, ry⟩ := paired_get pv_ hi2
    have : y' = y := Option.some.inj (ey.symm.trans hy)
    subst this
    refine ⟨rfl, ?_⟩
    unfold tYes
    refine iteT ?_
    have sm : Same (wo Z H) (wo (fun z => Z z ∨ z = D) H') := fun b o eb => by
      obtain ⟨n1, e1⟩ := wo_some.mp eb
      refine wo_some.mpr ⟨fun z => z.elim n1 fun z => ?_, c1 _ _ (fun z => n1 (by rw [z]; exact za)) (e _ _ e1)⟩
      rw [z, DH] at e1
      cases e1
    have hci : c * i + c ≤ c * 60 := by
      have : c * (i + 1) ≤ c * 60 := Nat.mul_le_mul (Nat.le_refl c) (by omega)
      rwa [Nat.mul_add, Nat.mul_one] at this
    refine ⟨_, rfl, _, rfl, a, y', xs[i], n + c * i, fun z => Z z ∨ z = D, rfl, c2, by omega, .inl za, fun z zz => ?_, mon _ _ _ _ sm ry, fun y2 H6 k6 s6 r6 => ?_⟩
    · rcases zz with zz | rfl
      · intro q0
        by_cases z1 : z = a
        · rw [z1] at q0
          exact c2.kept q0
        · exact hz z zz (fr_kept (kp1.trans c1) q0 z1)
      · rw [c3]
        exact Option.some_ne_none _
    · have sD : ∀ acc', Same (wo (fun z => Z z ∨ z = D) H6) (wo (fun z => Z z ∨ z = D) (L2.upd H6 D acc')) := fun acc' => wo_same fun b o nb eb => by
        rw [upd_ne (fun z => nb (.inr z))]
        exact eb
      have c3' := k6 _ _ Da c3
      refine ⟨acc, c3', by rw [c4]; exact small1000 (by omega), fun b o nb eb => ?_, (s6.upd Da).mono (by rw [Nat.mul_add, Nat.mul_one]; omega), acc ++ [y2], upd_same, by rw [List.length_append, c4]; rfl, ?_⟩
      · rw [upd_ne (ne_of_none eb hD)]
        exact k6 b o nb (c1 b o nb eb)
      · rw [List.take_add_one, List.getElem?_eq_getElem hi2]
        have s36 : Same (wo (fun z => Z z ∨ z = D) H') (wo (fun z => Z z ∨ z = D) H6) := wo_same fun b o nb eb => k6 b o (fun z => nb (.inl (by rw [z]; exact za))) eb
        have pz : ∀ {as : List V} {bs : List α}, Paired (R (wo (fun z => Z z ∨ z = D) H')) as bs → Paired (R (wo (fun z => Z z ∨ z = D) (L2.upd H6 D (.lst (acc ++ [y2]))))) (as ++ [y2]) (bs ++ [xs[i]]) := by
          intro as bs h
          induction h with
          | nil => exact .cons (mon _ _ _ _ (sD _) r6) .nil
          | cons f1 f2 ih => exact .cons (mon _ _ _ _ (s36.trans (sD _)) f1) ih
        exact pz c5
  · rintro Hc ⟨c1, c2, acc, c3, c4, c5⟩
    rw [lvs, List.take_length] at c5
    have hcl : c * vs.length ≤ 60 * c := by rw [Nat.mul_comm]; exact Nat.mul_le_mul (by omega) (Nat.le_refl c)
    refine ⟨_, rfl, a, 2, _, rfl, c2, by omega, by decide, by decide, fun d H6 d0 d1 k6 s6 => ⟨rfl, _, rfl, ?_⟩⟩
    have c36 := k6 _ _ Da c3
    have kall : Kept a H H6 := kp1.trans (c1.trans k6)
    have s6' : Spr H6 a (n + (60 * c + 1)) := s6.mono (by omega)
    have fin : ∀ Hf, Same H6 Hf → Paired (R (wo Z Hf)) acc xs := fun Hf ef => paired_imp (fun _ _ r => mon _ _ _ _ (Same.trans (wo_le fun b z => .inl z) (wo_same fun b o nb eb => ef _ _ (k6 b o (fun z => nb (by rw [z]; exact za)) eb))) r) c5
    refine ite2 (fun cc => ?_) (fun cc => ?_)
    rotate_left
    · refine ⟨_, rfl, D, acc, rfl, .inl ⟨SqL.of c36, fun u hu => ?_⟩⟩
      have eu := K1.Same.upd (o := .tup acc) hu
      have ua := s6.ne hu
      exact q (.ref u) _ (kall.trans (Kept.new hu)) (s6'.same eu) ⟨acc, ⟨u, rfl, .inr (wo_some.mpr ⟨fun z => hz u z (fr_kept kall hu ua), upd_same⟩)⟩, hl, fin _ eu⟩
    · exact ⟨_, rfl, q (.ref D) _ kall s6' ⟨acc, ⟨D, rfl, .inl (wo_some.mpr ⟨nzD, c36⟩)⟩, hl, fin _ (Same.refl _)⟩⟩
end
end K1
end
-- WLaw6
section
set_option Elab.async false
set_option linter.all false
set_option maxRecDepth 100000
set_option maxHeartbeats 1000000
namespace K1
open PySem PySem.Spec PyProof.Rows L2 W0
abbrev sVM : Stmt := top 51
/-- the law's own valley: a triple of three lists -/
structure VAt (a : Addr) (H : Hp) (t p1 p2 p3 : Addr) (qs : List Addr) (ss : List Str) (rs : List (Str × Str)) (ns : List Int) : Prop where
  t0 : H t = some (.lst [.ref p1, .ref p2, .ref p3])
  h1 : H p1 = some (.lst (ss.map V.str))
  h2 : H p2 = some (.lst (qs.map V.ref))
  pr : Paired (TupP H) qs rs
  h3 : H p3 = some (.lst (ns.map V.int))
  n0 : t ≠ a
  n1 : p1 ≠ a
  n2 : p2 ≠ a
  n3 : p3 ≠ a
structure VOk (ss : List Str) (rs : List (Str × Str)) (ns : List Int) : Prop where
  good : Good ss
  pos : 1 ≤ ss.length
  le : ss.length ≤ 60
  cut : Cut rs
  ends : EndsIn ss rs
  rl : rs.length + 1 = ss.length
  nl : ns.length = ss.length
  ge : ∀ n ∈ ns, 1 ≤ n
  nob : NoBody ss
theorem VAt.kept {a : Addr} {H H' : Hp} {t p1 p2 p3 : Addr} {qs : List Addr} {ss : List Str} {rs : List (Str × Str)} {ns : List Int} {n : Nat} (v : VAt a H t p1 p2 p3 qs ss rs ns) (s : Spr H a n) (k : Kept a H H') : VAt a H' t p1 p2 p3 qs ss rs ns :=
  ⟨k _ _ v.n0 v.t0, k _ _ v.n1 v.h1, k _ _ v.n2 v.h2, TupP.kept v.pr s k, k _ _ v.n3 v.h3, v.n0, v.n1, v.n2, v.n3⟩
theorem flat_str {K : PySem.W.Frag} {H : Hp} (s : Str) : Flat0 K H (.str s) (.str s) := ⟨rfl, "str", .base (.str s), by decide, by decide⟩
theorem flat_int {K : PySem.W.Frag} {H : Hp} (s : Int) : Flat0 K H (.int s) (.int s) := ⟨rfl, "int", .base (.int s), by decide, by decide⟩
theorem paired_same {α : Type} {F : α → α → Prop} : ∀ {xs : List α}, (∀ x ∈ xs, F x x) → Paired F xs xs
  | [], _ => .nil
  | x :: xs, h => .cons (h x (List.mem_cons_self ..)) (paired_same fun y hy => h y (List.mem_cons_of_mem _ hy))
theorem flat_eq {K : PySem.W.Frag} {H : Hp} : ∀ {vs xs : List V}, Paired (Flat0 K H) vs xs → vs = xs
  | _, _, .nil => rfl
  | _, _, .cons f r => by rw [f.1, flat_eq r]
theorem paired_map {α β γ : Type} {F : α → β → Prop} {g : γ → β} : ∀ {xs : List α} {ys : List γ}, Paired F xs (ys.map g) → Paired (fun x y => F x (g y)) xs ys
  | _, [], .nil => .nil
  | _, _ :: _, .cons f r => .cons f (paired_map r)
theorem map_paired {α β γ : Type} {F : α → β → Prop} {g : γ → α} : ∀ {xs : List γ} {ys : List β}, Paired (fun x y => F (g x) y) xs ys → Paired F (xs.map g) ys
  | _, _, .nil => .nil
  | _, _, .cons f r => .cons f (map_paired r)
def prV (r : Str × Str) : List V := [.str r.1, .str r.2]
theorem scVM : FnScope ["spring", "form"] ["spring", "form"] (defScope sVM) := ⟨rfl, rfl, rfl, by decide +kernel, rfl, by decide +kernel, by decide +kernel⟩
theorem same_make {H : Hp} {x dx C : Addr} (nx : H x = none) (nd : H dx = none) : Same H (L2.upd (L2.upd H dx (.own x)) x (.ins C dx [])) := fun b o e => by
  rw [upd_ne (ne_of_none e nx), upd_ne (ne_of_none e nd)]
  exact e
theorem Spr.keptx {H H' : Hp} {a x : Addr} {n : Nat} (s : Spr H a n) (ne : a ≠ x) (k : Kept x H H') : Spr H' a n := by
  obtain ⟨u, y, z, e, r⟩ := s
  exact ⟨u, y, z, k _ _ ne e, r⟩
/-- the Valley's lists are not the spring -/
def OffV (a l1 l2 l3 : Addr) (bs : Str → Addr) (ss : List Str) : Prop := l1 ≠ a ∧ l2 ≠ a ∧ l3 ≠ a ∧ ∀ s ∈ ss, bs s ≠ a
theorem ValS.kept {C a : Addr} {H H' : Hp} {x l1 l2 l3 d1 d2 d3 : Addr} {qs : List Addr} {bs : Str → Addr} {ss : List Str} {rs : List (Str × Str)} {ns : List Int} {n : Nat} (v : ValS C H x l1 l2 l3 d1 d2 d3 qs bs ss rs ns) (o : OffV a l1 l2 l3 bs ss) (s : Spr H a n) (k : Kept a H H') : ValS C H' x l1 l2 l3 d1 d2 d3 qs bs ss rs ns := by
  obtain ⟨dx, fs, h, r⟩ := v.ins
  obtain ⟨k2, a2, b2⟩ := v.p2
  obtain ⟨k3, a3, b3⟩ := v.p3
  obtain ⟨u, y, z, es, _⟩ := s
  have off : ∀ b o, H b = some o → (∀ xs, o ≠ .lst xs) → b ≠ a := fun b o e n z => by
    rw [z, es] at e
    exact n _ (Option.some.inj e).symm
  exact ⟨⟨dx, fs, k _ _ (off _ _ h fun _ z => by cases z) h, r⟩, k _ _ o.1 v.h1, k _ _ o.2.1 v.h2, paired_imp (fun _ _ q => k _ _ (off _ _ q fun _ z => by cases z) q) v.pr, k _ _ o.2.2.1 v.h3, k _ _ (off _ _ v.p1 fun _ z => by cases z) v.p1, ⟨k2, k _ _ (off _ _ a2 fun _ z => by cases z) a2, b2⟩, ⟨k3, k _ _ (off _ _ a3 fun _ z => by cases z) a3, b3⟩, fun s hs => k _ _ (o.2.2.2 s hs) (v.nb s hs)⟩
def spMd (C : Addr) : Sp := fun vs H Q _ => ∃ (a t p1 p2 p3 : Addr) (qs : List Addr) (ss : List Str) (rs : List (Str × Str)) (ns : List Int) (n : Nat), vs = [.ref a, .ref t] ∧ Spr H a n ∧ n + 200 ≤ 1000000 ∧ VAt a H t p1 p2 p3 qs ss rs ns ∧ VOk ss rs ns ∧
  ∀ x l1 l2 l3 d1 d2 d3 qs' bs H', Kept a H H' → Spr H' a (n + 200) → ValS C H' x l1 l2 l3 d1 d2 d3 qs' bs ss rs ns → OffV a l1 l2 l3 bs ss → Q (.ref x) H'
/-- the three lists, handed in some way, make a Valley -/
theorem made_ofS {K : PySem.W.Frag} {C a x dx : Addr} {H H3 : Hp} {Q : VK} {E : XK} {y1 y2 y3 : V} {ss : List Str} {rs : List (Str × Str)} {ns : List Int} {n : Nat} (ok : VOk ss rs ns) (s3 : Spr H3 a n) (k3 : Kept a H H3) (s0 : H a ≠ none) (nx : H3 x = none) (ndx : H3 dx = none)
    (v1 : SeqV H3 y1 (ss.map V.str)) (v2 : ∃ vs, SeqV H3 y2 vs ∧ Paired (PairV H3) vs rs) (v3 : SeqV H3 y3 (ns.map V.int))
    (q : ∀ l1 l2 l3 d1 d2 d3 qs' bs H', Kept a H H' → Spr H' a n → ValS C H' x l1 l2 l3 d1 d2 d3 qs' bs ss rs ns → OffV a l1 l2 l3 bs ss → Same H3 H' → Q .non H') :
    spVS K C ([.ref x, y1, y2, y3]) (L2.upd (L2.upd H3 dx (.own x)) x (.ins C dx [])) Q E := by
  have e := same_make (C := C) nx ndx
  obtain ⟨vs, a1, a2⟩ := v2
  have hne : ss ≠ [] := fun z => by have := ok.pos; rw [z] at this; simp at this
  refine ⟨x, y1, y2, y3, dx, ss, rs, ns, rfl, upd_same, ⟨v1.ext e, hne, by have := ok.le; omega, ok.good⟩, ⟨vs, a1.ext e, paired_imp (fun _ _ q => SeqV.ext q e) a2, ok.ends, ok.cut.forest, ok.rl⟩, ⟨v3.ext e, ok.ge, ok.nl⟩, fun H' l1 l2 l3 d1 d2 d3 qs bs k v nv => ?_⟩
  have ax : a ≠ x := fun z => by
    rw [← z] at nx
    exact s3.kept nx
  have back : ∀ {z}, L2.upd (L2.upd H3 dx (.own x)) x (.ins C dx []) z = none → H3 z = none := fun {z} hz => by
    cases q : H3 z with
    | none => rfl
    | some o => rw [e _ _ q] at hz; cases hz
  have sm : Same H3 H' := fun b o eb => k b o (ne_of_none eb nx) (e b o eb)
  exact q l1 l2 l3 d1 d2 d3 qs bs H' (k3.trans (Kept.same sm)) (s3.same sm) v ⟨s3.ne (back nv.1), s3.ne (back nv.2.1), s3.ne (back nv.2.2.1), fun s hs => s3.ne (back (nv.2.2.2.2.2.2.2 s hs))⟩ sm
section
variable {P : Program} {w : World} {K : PySem.W.Frag} {mg : Str → Option Value} {base : Heap} {C fL fV : Addr} {fdL fdV : FuncData}
theorem ok_Md {f : Addr} {fd : FuncData} (F : Fun K "_law_v_made" "_law_v_made" sVM f fd) (mV : mg "Valley" = some (.ref C)) (M : Mk K C fV)
    (GV : FnOk P w K mg base (L2.CX P w) 5 fV fdV ["self", "houses", "roads", "heads"] (spVS K C)) (bV : Binds K fdV ["self", "houses", "roads", "heads"] [])
    (GL1 : FnOk P w K mg base CX0 2 fL fdL ["spring", "thing"] (spLo (SeqR (Flat0 K)) 1)) (GL2 : FnOk P w K mg base CX0 3 fL fdL ["spring", "thing"] (spLo (SeqR (SeqR (Flat0 K))) 61))
    (bL : Binds K fdL ["spring", "thing"] []) (kL : PySem.W.keepIn K (.ref fL) = true) (mL : mg "_law_loose" = some (.ref fL)) :
    FnOk P w K mg base CX0 7 f fd ["spring", "form"] (spMd C) := by
  refine F.ok scVM (fun vs H Q E h => ?_) (fun cdv A outer s H vs Q E hr h => ?_)
  · obtain ⟨a, t, p1, p2, p3, qs, ss, rs, ns, n, rfl, _⟩ := h
    rfl
  obtain ⟨a, t, p1, p2, p3, qs, ss, rs, ns, n, rfl, hs, hn, v, ok, q⟩ := h
  have hrA : Room 2 _ := hr.mono (by decide)
  have hrB : Room 3 _ := hr.mono (by decide)
  refine ⟨_, (pss_one (by exact (ps_ret (pe_make M GV hr rfl mV bV .nil passL (pa_cons (pe_call GL1 hrA rfl mL kL bL .nil pass0 (pa_cons (pv 0) (pa_cons (pe_ix ix_list (pv 1) pe_int (fun _ _ => rfl)) pa_nil))) (pa_cons (pe_call GL2 hrB rfl mL kL bL .nil pass0 (pa_cons (pv 0) (pa_cons (pe_ix ix_list (pv 1) pe_int (fun _ _ => rfl)) pa_nil))) (pa_cons (pe_call GL1 hrA rfl mL kL bL .nil pass0 (pa_cons (pv 0) (pa_cons (pe_ix ix_list (pv 1) pe_int (fun _ _ => rfl)) pa_nil))) pa_nil))))))), ?_⟩
  have zz : ∀ {Hx : Hp} {m : Nat}, Spr Hx a m → ∀ z, z = a → Hx z ≠ none := fun s z e => by rw [e]; exact s.kept
  have i0 : atI [V.ref p1, V.ref p2, V.ref p3] 0 = some (.ref p1) := rfl
  have i1 : atI [V.ref p1, V.ref p2, V.ref p3] 1 = some (.ref p2) := rfl
  have i2 : atI [V.ref p1, V.ref p2, V.ref p3] 2 = some (.ref p3) := rfl
  have pl := ok.le
  refine ⟨_, rfl, _, rfl, t, _, _, _, rfl, rfl, SqL.of v.t0, i0, a, _, ss.map V.str, n, fun z => z = a, rfl, hs, by omega, rfl, zz hs, ⟨ss.map V.str, ⟨p1, rfl, .inl (wo_some.mpr ⟨v.n1, v.h1⟩)⟩, by rw [List.length_map]; exact pl, paired_same fun x hx => ?_⟩, fun y1 H1 k1 s1 r1 => ?_⟩
  · obtain ⟨s, _, rfl⟩ := List.mem_map.mp hx
    exact flat_str s
  have v1 := v.kept hs k1
  refine ⟨_, rfl, _, rfl, t, _, _, _, rfl, rfl, SqL.of v1.t0, i1, a, _, rs.map prV, _, fun z => z = a, rfl, s1, by omega, rfl, zz s1, ⟨qs.map V.ref, ⟨p2, rfl, .inl (wo_some.mpr ⟨v.n2, v1.h2⟩)⟩, by rw [List.length_map]; have := ok.rl; omega, ?_⟩, fun y2 H2 k2 s2 r2 => ?_⟩
  · have : Paired (fun (q : Addr) (r : Str × Str) => SeqR (Flat0 K) (wo (fun z => z = a) H1) (.ref q) (prV r)) qs rs := paired_imp (fun qq r e => ⟨prV r, ⟨qq, rfl, .inr (wo_some.mpr ⟨s1.tup e, e⟩)⟩, by show 2 ≤ 60; decide, .cons (flat_str _) (.cons (flat_str _) .nil)⟩) v1.pr
    have h2 : ∀ {as : List Addr} {bs : List (Str × Str)}, Paired (fun (q : Addr) (r : Str × Str) => SeqR (Flat0 K) (wo (fun z => z = a) H1) (.ref q) (prV r)) as bs → Paired (SeqR (Flat0 K) (wo (fun z => z = a) H1)) (as.map V.ref) (bs.map prV) := by
      intro as bs h
      induction h with
      | nil => exact .nil
      | cons f1 f2 ih => exact .cons f1 ih
    exact h2 this
  have v2 := v1.kept s1 k2
  refine ⟨_, rfl, _, rfl, t, _, _, _, rfl, rfl, SqL.of v2.t0, i2, a, _, ns.map V.int, _, fun z => z = a, rfl, s2, by omega, rfl, zz s2, ⟨ns.map V.int, ⟨p3, rfl, .inl (wo_some.mpr ⟨v.n3, v2.h3⟩)⟩, by rw [List.length_map, ok.nl]; exact pl, paired_same fun x hx => ?_⟩, fun y3 H3 k3 s3 r3 => ?_⟩
  · obtain ⟨s, _, rfl⟩ := List.mem_map.mp hx
    exact flat_int s
  have w1 : Same (wo (fun z => z = a) H1) H3 := Same.trans (wo_same fun b o nb e => k2 b o nb e) (Same.trans (wo_same fun b o nb e => k3 b o nb e) wo_out)
  have w2 : Same (wo (fun z => z = a) H2) H3 := Same.trans (wo_same fun b o nb e => k3 b o nb e) wo_out
  obtain ⟨vs1, sv1, _, q1⟩ := r1
  obtain ⟨vs2, sv2, _, q2⟩ := r2
  obtain ⟨vs3, sv3, _, q3⟩ := r3
  rw [flat_eq q1] at sv1
  rw [flat_eq q3] at sv3
  intro x dx nx ndx nex
  refine made_ofS ok s3 (k1.trans (k2.trans k3)) hs.kept nx ndx (sv1.ext w1) ⟨vs2, sv2.ext w2, ?_⟩ (sv3.ext wo_out) fun l1 l2 l3 d1 d2 d3 qs' bs H' kk ss' vv ov sm => ⟨rfl, ?_⟩
  · refine paired_imp (fun x r h => ?_) (paired_map q2)
    obtain ⟨us, su, _, qu⟩ := h
    rw [flat_eq qu] at su
    exact SeqV.ext su w2
  · exact q x l1 l2 l3 d1 d2 d3 qs' bs H' kk (ss'.mono (by omega)) vv ov
end
end K1
end
-- EHa
section
set_option Elab.async false
set_option linter.all false
set_option maxRecDepth 100000
set_option maxHeartbeats 1000000
namespace K1
open PySem PySem.Spec PyProof.Rows L2 W0
abbrev sHd : Stmt := top 53
/-- the same roads, some the other way round -/
def Turned : List (Str × Str) → List (Str × Str) → Prop := Paired fun e' e => e' = e ∨ e' = (e.2, e.1)
/-- roads as they may be handed: lists, tuples, either way round; not at Z -/
def HandV (K : PySem.W.Frag) (H : Hp) (Z : Addr → Prop) (y : V) (es : List (Str × Str)) : Prop := ∃ es', Turned es' es ∧ SeqR (SeqR (Flat0 K)) (wo Z H) y (es'.map prV)
def spHd (K : PySem.W.Frag) : Sp := fun vs H Q _ => ∃ (a p : Addr) (qs : List Addr) (es : List (Str × Str)) (n : Nat), vs = [.ref a, .ref p] ∧ Spr H a n ∧ n + 200 ≤ 1000000 ∧ H p = some (.lst (qs.map V.ref)) ∧ p ≠ a ∧ Paired (TupP H) qs es ∧ es.length ≤ 59 ∧
  ∀ y H', Kept a H H' → Spr H' a (n + 200) → HandV K H' (fun z => z = a) y es → Q y H'
theorem scHd : FnScope ["spring", "evening", "road", "some"] ["spring", "evening"] (defScope sHd) := ⟨rfl, rfl, rfl, by decide +kernel, rfl, by decide +kernel, by decide +kernel⟩
theorem two_maps {α β γ δ : Type} {R : γ → δ → Prop} {f : α → γ} {g : β → δ} : ∀ {xs : List α} {ys : List β}, Paired (fun x y => R (f x) (g y)) xs ys → Paired R (xs.map f) (ys.map g)
  | _, _, .nil => .nil
  | _, _, .cons a r => .cons a (two_maps r)
section
variable {P : Program} {w : World} {K : PySem.W.Frag} {mg : Str → Option Value} {base : Heap} {fD fL : Addr} {fdD fdL : FuncData}
theorem ok_Hd {f : Addr} {fd : FuncData} (F : Fun K "_law_v_handed" "_law_v_handed" sHd f fd)
    (G : FnOk P w K mg base CX0 2 fD fdD ["spring", "some"] spPick) (b : Binds K fdD ["spring", "some"] []) (k : PySem.W.keepIn K (.ref fD) = true) (m : mg "_law_pick" = some (.ref fD))
    (GL : FnOk P w K mg base CX0 3 fL fdL ["spring", "thing"] (spLo (SeqR (SeqR (Flat0 K))) 61)) (bL : Binds K fdL ["spring", "thing"] []) (kL : PySem.W.keepIn K (.ref fL) = true) (mL : mg "_law_loose" = some (.ref fL)) : FnOk P w K mg base CX0 4 f fd ["spring", "evening"] (spHd K) := by
  refine F.ok scHd (fun vs H Q E h => ?_) (fun cdv A outer s H vs Q E hr h => ?_)
  · obtain ⟨a, p, qs, es, n, rfl, _⟩ := h
    rfl
  obtain ⟨a, p, qs, es, n, rfl, hs, hn, hp, pa, pr, le, q⟩ := h
  have nd := scHd.nd
  have hr2 : Room 2 _ := hr.mono (by decide)
  refine ⟨_, (pss_cons (by exact (ps_setLc (i := 3) (own := [("road", 2)]) (g := gName 2) (tt := tYes) (te := tCall spPick [] E0 (tCons (tVar 0) (tCons (tLst (tCons (tVar 2) (tCons (tBack K (tVar 2)) tNil))) tNil))) rfl nd rfl rfl (sw_true rfl rfl rfl (by decide +kernel)) (by exact pi_list (pv 1)) (by exact blkOk_by (N := ["spring", "evening", "road", "some"]) (sc := defScope sHd) (by decide +kernel)) (fun _ _ _ _ _ => by exact (pg_name (i := 2) nd rfl (.inl rfl))) (fun _ _ _ _ _ => by exact pts_nil) (fun _ _ _ _ _ => by exact (pe_call G hr2 rfl m k b .nil pass0 (pa_cons (pv 0) (pa_cons (pe_lst (pa_cons (pv 2) (pa_cons (pe_back (pv 2)) pa_nil))) pa_nil))))))
  (pss_one (by exact (ps_ret (pe_call GL hr rfl mL kL bL .nil pass0 (pa_cons (pv 0) (pa_cons (pv 3) pa_nil))))))), ?_⟩
  refine ⟨_, rfl, p, rfl, ⟨_, SqL.of hp⟩, fun D hD => ?_⟩
  have Da := hs.ne hD
  have lq : qs.length = es.length := pr.length
  have lm : (qs.map V.ref).length = es.length := by rw [List.length_map, lq]
  refine lc_it (Qd := _) walk_list (fun i Hc => Kept a H Hc ∧ Spr Hc a (n + i) ∧ ∃ (qs' : List Addr) (es' : List (Str × Str)), Hc D = some (.lst (qs'.map V.ref)) ∧ qs'.length = i ∧ Paired (TupP (wo (fun z => z = a ∨ z = D) Hc)) qs' es' ∧ Turned es' (es.take i))
    ⟨Kept.new hD, hs.upd Da, [], [], upd_same, rfl, .nil, .nil⟩ (fun i Hc _ h => SqL.of (h.1 _ _ pa hp)) ?_ ?_
  · rintro i v Hc H' hi ⟨c1, c2, qs', es', c3, c4, c5, c6⟩ ⟨rfl, hv⟩
    rw [lm] at hi
    have hq : (qs.map V.ref)[i]? = some (.ref (qs[i]'(by omega))) := by rw [List.getElem?_map, List.getElem?_eq_getElem (by omega)]; rfl
    obtain ⟨t, et, ht⟩ := paired_ref pr hi hq
    have ev : v = .ref t := by rw [hq, et] at hv; exact (Option.some.inj hv).symm
    subst ev
    refine ⟨rfl, ?_⟩
    unfold tYes
    refine iteT ?_
    have ta : t ≠ a := fun z => by
      obtain ⟨x, y, z0, e0, _⟩ := hs
      rw [z, e0] at ht
      cases ht
    have ht1 : H' t = some (.tup [.str es[i].1, .str es[i].2]) := c1 _ _ ta ht
    refine ⟨_, rfl, _, rfl, _, rfl, t, _, _, rfl, SqT.of ht1, fun u hu => ?_⟩
    have eu := K1.Same.upd (H := H') (p := u) (o := .tup [.str es[i].2, .str es[i].1]) hu
    have gu := upd_same' H' u (.tup [.str es[i].2, .str es[i].1])
    generalize L2.upd H' u (.tup [.str es[i].2, .str es[i].1]) = Hu at eu gu ⊢
    refine ⟨(by show 2 ≤ sizeLine; decide), fun l hl => ?_⟩
    have el := K1.Same.upd (H := Hu) (p := l) (o := .lst [.ref t, .ref u]) hl
    have gl := upd_same' Hu l (.lst [.ref t, .ref u])
    generalize L2.upd Hu l (.lst [.ref t, .ref u]) = Hl at el gl ⊢
    have eul := eu.trans el
    have s2 : Spr Hl a (n + i) := c2.same eul
    have la : l ≠ a := fun z => by
      obtain ⟨x, y, z0, e0, _⟩ := c2.same eu
      rw [z, e0] at hl
      cases hl
    refine ⟨a, l, _, n + i, rfl, s2, by omega, gl, la, by simp, (by decide : 2 ≤ 1000), fun x H3 hx k3 s3 => ?_⟩
    have ht3 : Hl t = some (.tup [.str es[i].1, .str es[i].2]) := eul _ _ ht1
    have gu3 : Hl u = some (.tup [.str es[i].2, .str es[i].1]) := el _ _ gu
    have kk : Kept a H' H3 := fun b o nb eb => k3 _ _ nb (eul _ _ eb)
    have fin : ∀ (t2 : Addr) (e2 : Str × Str), (e2 = es[i] ∨ e2 = (es[i].2, es[i].1)) → Hl t2 = some (.tup [.str e2.1, .str e2.2]) →
        ∃ acc, H3 D = some (.lst acc) ∧ acc.length < sizeLine ∧ (Kept a H (L2.upd H3 D (.lst (acc ++ [V.ref t2]))) ∧ Spr (L2.upd H3 D (.lst (acc ++ [V.ref t2]))) a (n + (i + 1)) ∧ ∃ (qs' : List Addr) (es' : List (Str × Str)), L2.upd H3 D (.lst (acc ++ [V.ref t2])) D = some (.lst (qs'.map V.ref)) ∧ qs'.length = i + 1 ∧ Paired (TupP (wo (fun z => z = a ∨ z = D) (L2.upd H3 D (.lst (acc ++ [V.ref t2]))))) qs' es' ∧ Turned es' (es.take (i + 1))) := by
      intro t2 e2 he2 gl2
      have D3 := kk _ _ Da c3
      have t2a : t2 ≠ a := fun z => by
        obtain ⟨x, y, z0, e0, _⟩ := s2
        rw [z, e0] at gl2
        cases gl2
      have g3 := k3 _ _ t2a gl2
      have t2D : t2 ≠ D := fun z => by rw [z, D3] at g3; cases g3
      have sm : Same (wo (fun z => z = a ∨ z = D) H') (wo (fun z => z = a ∨ z = D) (L2.upd H3 D (.lst (qs'.map V.ref ++ [V.ref t2])))) := wo_same fun c o nb eb => by
        rw [upd_ne fun z => nb (.inr z)]
        exact kk _ _ (fun z => nb (.inl z)) eb
      refine ⟨_, D3, by rw [List.length_map, c4]; exact small1000 (by omega), fun c o nb eb => ?_, (s3.upd Da).mono (by omega), qs' ++ [t2], es' ++ [e2], by rw [upd_same, List.map_append]; rfl, by rw [List.length_append, c4]; rfl, ?_, ?_⟩
      · rw [upd_ne (ne_of_none eb hD)]
        exact kk _ _ nb (c1 _ _ nb eb)
      · refine K1.paired_snoc (TupP.ext c5 sm) ?_
        exact wo_some.mpr ⟨fun z => z.elim t2a t2D, by rw [upd_ne t2D]; exact g3⟩
      · rw [take_snoc hi]
        exact K1.paired_snoc c6 he2
    simp only [List.mem_cons, List.not_mem_nil, or_false] at hx
    rcases hx with rfl | rfl
    · exact fin t es[i] (.inl rfl) ht3
    · exact fin u (es[i].2, es[i].1) (.inr rfl) gu3
  · rintro Hc ⟨c1, c2, qs', es', c3, c4, c5, c6⟩
    rw [lm] at c2
    rw [lm, List.take_length] at c6
    have les : es'.length = es.length := c6.length
    refine ⟨_, rfl, _, rfl, a, .ref D, es'.map prV, n + es.length, fun z => z = a, rfl, c2, by omega, rfl, fun z hz => by rw [hz]; exact c2.kept, ⟨qs'.map V.ref, ⟨D, rfl, .inl (wo_some.mpr ⟨Da, c3⟩)⟩, by rw [List.length_map]; omega, ?_⟩, fun y H6 k6 s6 r6 => q y H6 (c1.trans k6) (s6.mono (by omega)) ⟨es', c6, r6⟩⟩
    exact two_maps (paired_imp (fun t e ht => ⟨prV e, ⟨t, rfl, .inr (wo_some.mpr ⟨fun z => (wo_some.mp ht).1 (.inl z), (wo_some.mp ht).2⟩)⟩, (by show 2 ≤ 60; decide), .cons (flat_str _) (.cons (flat_str _) .nil)⟩) c5)
end
end K1
end
-- EEv
section
set_option Elab.async false
set_option linter.all false
set_option maxRecDepth 100000
set_option maxHeartbeats 1000000
namespace K1
open PySem PySem.Spec PyProof.Rows L2 W0
/-- what may be shown: texts in lists and tuples -/
structure ShowD (n k : Nat) (d : PyData) : Prop where
  lay : d.canLay0 = true
  dep : d.depth ≤ n
  wt : d.weight ≤ k
  sh : d.showable = true
  sm : d.intsShort 8 = true
theorem show_str {s : Str} (h : nameOk s = true) : ShowD 0 8 (.str s) := by
  refine ⟨strOk_of h, Nat.le_refl _, ?_, rfl, by show PyData.intsShort 8 (.str s) = true; simp [PyData.intsShort]⟩
  unfold nameOk at h
  exact of_decide_eq_true (Bool.and_eq_true_iff.mp (Bool.and_eq_true_iff.mp h).2).1
theorem show_all {n k : Nat} : ∀ {ds : List PyData}, (∀ d ∈ ds, ShowD n k d) → PyData.canLayAll0 ds = true ∧ PyData.depthAll ds ≤ n ∧ PyData.weightAll ds ≤ (k + 1) * ds.length ∧ PyData.showableAll ds = true ∧ PyData.intsShortAll 8 ds = true
  | [], _ => ⟨rfl, Nat.zero_le _, Nat.zero_le _, rfl, by simp [PyData.intsShortAll]⟩
  | d :: ds, h => by
    obtain ⟨a1, a2, a3, a4, a5⟩ := h d (List.mem_cons_self ..)
    obtain ⟨b1, b2, b3, b4, b5⟩ := show_all fun x hx => h x (List.mem_cons_of_mem _ hx)
    refine ⟨?_, ?_, ?_, ?_, ?_⟩
    · show (d.canLay0 && PyData.canLayAll0 ds) = true
      rw [a1, b1]; rfl
    · show max d.depth (PyData.depthAll ds) ≤ n
      exact Nat.max_le.mpr ⟨a2, b2⟩
    · show d.weight + 1 + PyData.weightAll ds ≤ (k + 1) * (ds.length + 1)
      rw [Nat.mul_add]
      omega
    · show (d.showable && PyData.showableAll ds) = true
      rw [a4, b4]; rfl
    · simp only [PyData.intsShortAll, a5, b5, Bool.and_self]
theorem show_list {n k m : Nat} {ds : List PyData} (h : ∀ d ∈ ds, ShowD n k d) (l : ds.length ≤ m) : ShowD (n + 1) ((k + 1) * m) (.list ds) ∧ ShowD (n + 1) ((k + 1) * m) (.tuple ds) := by
  obtain ⟨b1, b2, b3, b4, b5⟩ := show_all h
  have wt : PyData.weightAll ds ≤ (k + 1) * m := Nat.le_trans b3 (Nat.mul_le_mul_left _ l)
  exact ⟨⟨b1, Nat.succ_le_succ b2, wt, b4, by simp only [PyData.intsShort, b5]⟩, ⟨b1, Nat.succ_le_succ b2, wt, b4, by simp only [PyData.intsShort, b5]⟩⟩
/-- lists and tuples of what may be shown -/
theorem seq_show {K : PySem.W.Frag} {H : Hp} {v : V} {vs : List V} {n k m : Nat} (sv : SeqV H v vs) (h : ∃ ds, (∀ d ∈ ds, ShowD n k d) ∧ ds.length ≤ m ∧ ∀ H', Same H H' → DpAll K H' vs ds) : ∃ d, ShowD (n + 1) ((k + 1) * m) d ∧ ∀ H', Same H H' → Dp K H' v d := by
  obtain ⟨p, rfl, hp⟩ := sv
  obtain ⟨ds, g, l, dp⟩ := h
  obtain ⟨s1, s2⟩ := show_list g l
  rcases hp with hp | hp
  · exact ⟨.list ds, s1, fun H' e => .lst (SqL.of (e _ _ hp)) (dp H' e)⟩
  · exact ⟨.tuple ds, s2, fun H' e => .tup (SqT.of (e _ _ hp)) (dp H' e)⟩
theorem pairs_show {K : PySem.W.Frag} {H : Hp} : ∀ {vs : List V} {es : List (Str × Str)}, Paired (SeqR (Flat0 K) H) vs (es.map prV) → (∀ e ∈ es, nameOk e.1 = true ∧ nameOk e.2 = true) → ∃ ds, (∀ d ∈ ds, ShowD 1 18 d) ∧ ds.length ≤ es.length ∧ ∀ H', Same H H' → DpAll K H' vs ds
  | _, [], .nil, _ => ⟨[], fun d hd => absurd hd (by simp), Nat.le_refl _, fun _ _ => .nil⟩
  | _, e :: es, .cons a r, h => by
    obtain ⟨ds, g, l, dp⟩ := pairs_show r fun x hx => h x (List.mem_cons_of_mem _ hx)
    obtain ⟨vs, sv, _, pr⟩ := a
    have ev := flat_eq pr
    subst ev
    obtain ⟨h1, h2⟩ := h e (List.mem_cons_self ..)
    obtain ⟨d, sd, dd⟩ := seq_show (K := K) (n := 0) (k := 8) (m := 2) sv ⟨[.str e.1, .str e.2], fun d hd => by
      simp only [List.mem_cons, List.not_mem_nil, or_false] at hd
      rcases hd with rfl | rfl
      · exact show_str h1
      · exact show_str h2, Nat.le_refl _, fun H' _ => .cons (.str _) (.cons (.str _) .nil)⟩
    refine ⟨d :: ds, fun x hx => ?_, Nat.succ_le_succ l, fun H' e' => .cons (dd H' e') (dp H' e')⟩
    rcases List.mem_cons.mp hx with rfl | hx
    · exact sd
    · exact g x hx
theorem turned_names {es' es : List (Str × Str)} (t : Turned es' es) (h : ∀ e ∈ es, nameOk e.1 = true ∧ nameOk e.2 = true) : ∀ e ∈ es', nameOk e.1 = true ∧ nameOk e.2 = true := by
  induction t with
  | nil => intro e he; cases he
  | cons a _ ih =>
    intro e he
    rcases List.mem_cons.mp he with rfl | he
    · have q := h _ (List.mem_cons_self ..)
      rcases a with rfl | rfl
      · exact q
      · exact q.symm
    · exact ih (fun x hx => h x (List.mem_cons_of_mem _ hx)) e he
/-- roads that were handed: what repr tells of them -/
theorem hand_show {K : PySem.W.Frag} {H : Hp} {Z : Addr → Prop} {y : V} {es : List (Str × Str)} (h : HandV K H Z y es) (g : ∀ e ∈ es, nameOk e.1 = true ∧ nameOk e.2 = true) (l : es.length ≤ 59) :
    ∃ (b : Addr) (d : PyData), y = .ref b ∧ d.showable = true ∧ d.hasDict = false ∧ d.depth ≤ 60 ∧ d.shown.length ≤ sizeLine ∧ ∀ H', Same (wo Z H) H' → Dp K H' y d := by
  obtain ⟨es', t, vs, sv, _, pr⟩ := h
  have les : es'.length = es.length := t.length
  obtain ⟨ds, g2, l2, dp⟩ := pairs_show pr (turned_names t g)
  obtain ⟨d, sd, dd⟩ := seq_show (m := 59) sv ⟨ds, g2, by omega, dp⟩
  obtain ⟨b, rfl, _⟩ := sv
  refine ⟨b, d, rfl, sd.sh, PyData.hasDict_of_canLay d sd.lay, Nat.le_trans sd.dep (by decide), ?_, dd⟩
  refine PyData.shown_fits_of_layable0 (B := 8) (by decide) (by decide) ?_ sd.sm
  show (d.canLay0 && decide (d.depth ≤ 64) && decide (d.weight ≤ 2 ^ 20)) = true
  have h1 := sd.dep
  have h2 := sd.wt
  rw [sd.lay, decide_eq_true (by omega), decide_eq_true (by omega)]
  rfl
/-- the place of a road is where it stands -/
theorem plOf_of {rs : List (Str × Str)} (f : Forest rs) {j : Nat} (hj : j < rs.length) : plOf rs rs[j].1 rs[j].2 = some j := by
  have fr := f.fresh hj
  unfold plOf at fr ⊢
  rw [List.findIdx?_eq_some_iff_getElem]
  refine ⟨hj, decide_eq_true (.inl rfl), fun i hi => ?_⟩
  rw [List.findIdx?_eq_none_iff] at fr
  have := fr rs[i] (List.mem_take_iff_getElem.mpr ⟨i, by omega, rfl⟩)
  rw [this]
  exact Bool.false_ne_true
/-- an evening as the law has it: roads, and their places -/
def AtPl (rs : List (Str × Str)) (js : List Nat) (es : List (Str × Str)) : Prop := Paired (fun j e => rs[j]? = some e) js es
theorem hand_roads {K : PySem.W.Frag} {H : Hp} {rs : List (Str × Str)} (f : Forest rs) : ∀ {vs : List V} {es' es : List (Str × Str)} {js : List Nat}, Paired (SeqR (Flat0 K) H) vs (es'.map prV) → Turned es' es → AtPl rs js es → Paired (RoadV H rs) vs js
  | _, [], _, [], .nil, .nil, _ => .nil
  | _, [], _, _ :: _, .nil, .nil, h => by cases h
  | _, e' :: es', e :: es, j :: js, .cons a r, .cons t ts, .cons h hs => by
    refine .cons ?_ (hand_roads f r ts hs)
    obtain ⟨vs, sv, _, pr⟩ := a
    have ev := flat_eq pr
    subst ev
    obtain ⟨hj, rfl⟩ := List.getElem?_eq_some_iff.mp h
    have pl := plOf_of f hj
    rcases t with rfl | rfl
    · exact ⟨_, _, sv, pl⟩
    · exact ⟨_, _, sv, by rw [plOf_swap]; exact pl⟩
theorem hand_ev {K : PySem.W.Frag} {H : Hp} {Z : Addr → Prop} {y : V} {rs es : List (Str × Str)} {js : List Nat} (f : Forest rs) (h : HandV K H Z y es) (at_ : AtPl rs js es) (nd : js.Nodup) (len : js.length = rs.length) : EvV H rs y js := by
  obtain ⟨es', t, vs, sv, l, pr⟩ := h
  have lv : vs.length = (es'.map prV).length := pr.length
  exact ⟨⟨vs, sv.ext wo_out, by rw [lv]; omega, hand_roads f (paired_imp (fun x y q => mon_seq mon_flat0 _ _ _ _ wo_out q) pr) t at_, nd⟩, len⟩
end K1
end
-- VWord
section
set_option Elab.async false
set_option linter.all false
set_option maxRecDepth 100000
set_option maxHeartbeats 1000000
namespace K1
open PySem PySem.Spec PyProof PyProof.Rows L2 PySem.W
theorem refs_are : ∀ {ps : List Addr} {us : List Value}, Vals (ps.map V.ref) us → us = ps.map Value.ref
  | [], us, r => by cases r; rfl
  | p :: ps, us, r => by
    rw [List.map_cons] at r
    cases r with
    | cons h t => cases h; rw [List.map_cons, refs_are t]
/-- pairs whose first is a tuple of keys -/
def PrK (K : PySem.W.Frag) (H : Hp) (p : Addr) (e : List Key × Addr × V) : Prop := SqT K H p [.ref e.2.1, e.2.2] ∧ H e.2.1 = some (.tup (e.1.map kV))
theorem prk_of {X : Cx} {pins : List (Addr × Obj)} {σ : L2.St} {H : Hp} {s : Shared} (I : Inv X pins σ H s) : ∀ {ps : List Addr} {es : List (List Key × Addr × V)}, Paired (PrK X.K H) ps es →
    ∃ qs : List (List Key × Addr × Value), qs.length = ps.length ∧ Paired (fun (p : List Key × V) (q : List Key × Addr × Value) => p.1 = q.1 ∧ H q.2.1 = some (.tup (p.1.map kV)) ∧ RelV p.2 q.2.2) (es.map fun e => (e.1, e.2.2)) qs ∧
      (qs.map (·.1)) = es.map (·.1) ∧ ∀ (j : Nat) (q : List Key × Addr × Value), qs[j]? = some q → ∃ b, ps[j]? = some b ∧ IsTup s.heap b #[.ref q.2.1, q.2.2]
  | _, _, .nil => ⟨[], rfl, .nil, rfl, fun j q e => by simp at e⟩
  | p :: _, e :: _, .cons h t => by
    obtain ⟨qs, l, r, ks, hq⟩ := prk_of I t
    obtain ⟨its, rv, ht, _⟩ := I.tuple h.1
    obtain ⟨u, y, ei, ru, ry⟩ := vals2 rv
    cases ru
    subst ei
    refine ⟨(e.1, e.2.1, y) :: qs, by simp [l], .cons ⟨rfl, h.2, ry⟩ r, by simp [ks], fun j q z => ?_⟩
    cases j with
    | zero =>
      obtain rfl : (e.1, e.2.1, y) = q := Option.some.inj z
      exact ⟨p, rfl, ht⟩
    | succ j =>
      obtain ⟨b, z1, z2⟩ := hq j q (by simpa using z)
      exact ⟨b, by simpa using z1, z2⟩
theorem stored_all {K : Type} [DecidableEq K] : ∀ (ps xs : List (K × Addr × Value)), ((xs ++ ps).map (·.1)).Nodup → storedAllH xs ps = xs ++ ps
  | [], xs, _ => (List.append_nil xs).symm
  | q :: ps, xs, n => by
    have hq : q.1 ∉ xs.map (·.1) := fun h => by
      rw [List.map_append, List.map_cons] at n
      exact (List.nodup_append.mp n).2.2 _ h _ (List.mem_cons_self ..) rfl
    have ha : atKey xs q.1 = none := by
      cases e : atKey xs q.1 with
      | none => rfl
      | some z =>
        exfalso
        refine hq ?_
        clear hq n
        induction xs with
        | nil => cases e
        | cons x xs ih =>
          by_cases h : x.1 = q.1
          · rw [List.map_cons, h]
            exact List.mem_cons_self ..
          · refine List.mem_cons_of_mem _ (ih ?_)
            unfold atKey at e ⊢
            rw [List.find?_cons, decide_eq_false (fun z => h z)] at e
            exact e
    show storedAllH (storedH xs q.1 q.2.1 q.2.2) ps = _
    rw [storedH_new ha, stored_all ps (xs ++ [q]) (by rw [List.append_assoc]; exact n), List.append_assoc]
    rfl
/-- dict(xs) of pairs whose first is a tuple of keys, no two of them alike -/
theorem call_dictT {X : Cx} (calm : X.calm = true) (hu : X.A.units + 2 < cLine) : CallR X (.type "dict") (fun xs H Q => ∃ (a : Addr) (ps : List Addr) (es : List (List Key × Addr × V)), xs = [V.ref a] ∧ SqL X.K H a (ps.map V.ref) ∧ Paired (PrK X.K H) ps es ∧ (es.map (·.1)).Nodup ∧
    ∀ p, H p = none → Q (.ref p) (L2.upd H p (.dT (es.map fun e => (e.1, e.2.2))))) := by
  intro pins s σ H xs us Q I r q
  obtain ⟨a, ps, es, ex, hq, hp, nk, q⟩ := q
  subst ex
  obtain ⟨u, eu, rx⟩ := vals1 r
  subst eu
  cases rx
  obtain ⟨its, rv, pl, hz⟩ := I.list hq
  have ei := refs_are rv
  subst ei
  rw [List.length_map] at hz
  obtain ⟨qs, lq, kt, ks, hqs⟩ := prk_of I hp
  have lp : ps.length = es.length := hp.length
  have hsm : (s.heap.objs.size == sysModules) = false := beq_eq_false_iff_ne.mpr (Nat.ne_of_gt I.big)
  have keyH : ∀ x ∈ qs, H x.2.1 = some (.tup (x.1.map kV)) := fun x hx => by
    obtain ⟨j, hj, rfl⟩ := List.mem_iff_getElem.mp hx
    obtain ⟨y, h1, h2, h3, h4⟩ := paired_get kt hj
    rw [← h2]
    exact h3
  refine call_dict_pairsH (knd := tupleKind (mixKind X.prog X.w)) (ps := qs) (PairArg.list a (ps.map Value.ref).toArray (fun j => ps.getD j 0) (qs.map fun x => (Value.ref x.2.1, x.2.2))) (I.ok.hd calm) ?room ⟨?plain, ?items⟩ ⟨?len, ?have_⟩ ?stay ?size fun h' tk hd' hk => ?fin
  case room => exact hu
  case plain =>
    obtain ⟨o, n, ho, hc, hd, hdat⟩ := pl
    exact ⟨o, n, ho, hc, hd, hdat⟩
  case items =>
    refine ⟨by simp [lq], fun j k v hj => ?_⟩
    rw [List.getElem?_map] at hj
    obtain ⟨x, hx, he⟩ := Option.map_eq_some_iff.mp hj
    cases he
    obtain ⟨b, z1, z2⟩ := hqs j x hx
    have z3 : ps.getD j 0 = b := by rw [List.getD_eq_getElem?_getD, z1]; rfl
    refine ⟨by simp [z1], ?_⟩
    show PairAt s.heap (ps.getD j 0) _ _
    rw [z3]
    exact .inl z2
  case len => simp
  case have_ =>
    intro i key v hj
    have hj : (qs.map fun x => (Value.ref x.2.1, x.2.2))[i]? = some (key, v) := hj
    rw [List.getElem?_map] at hj
    obtain ⟨x, hx, he⟩ := Option.map_eq_some_iff.mp hj
    cases he
    exact ⟨x.1, x.2.1, hx, rfl⟩
  case stay =>
    intro h' keep x hx
    obtain ⟨_, its, r', o, h1, h2, n, h3⟩ := (show ObjOk X.prog X.w H s.heap x.2.1 (.tup (x.1.map kV)) from I.hok _ _ (keyH x hx))
    exact ⟨o, its.toArray, n, keep _ _ (Nat.ne_of_lt (Heap.lt_size h1)) (by simp) h1, h2, h3, by simpa using items_are r'⟩
  case size => rw [List.length_map, lq]; exact hz
  case fin =>
    have sa := stored_all qs [] (by rw [List.nil_append, ks]; exact nk)
    rw [List.nil_append] at sa
    rw [sa] at hd'
    obtain ⟨o, es', ep, g1, g2, g3, g4, g5, g6⟩ := hd'
    have fr : ∀ b u, H b = some u → b ≠ s.heap.objs.size := fun b u e z => by
      rw [z, I.hok.fresh (Nat.le_refl _)] at e
      cases e
    refine ⟨.ref s.heap.objs.size, L2.upd H s.heap.objs.size (.dT (es.map fun e => (e.1, e.2.2))), I.laid (t' := tk) (fun b u e => hk b u (by simp) e) (Nat.le_refl _) (show ObjOk X.prog X.w _ _ _ (.dT (es.map fun e => (e.1, e.2.2))) from ⟨by rw [List.length_map, ← lp]; exact hz, hsm, qs, ?_, o, es', ep, g1, g2, g3, g4, g6⟩), rfl, q _ (I.hok.fresh (Nat.le_refl _))⟩
    exact paired_imp (fun p x z => ⟨z.1, by rw [upd_ne (fr _ _ z.2.1)]; exact z.2.1, z.2.2⟩) kt
end K1
end
-- VSame
section
set_option Elab.async false
set_option linter.all false
set_option maxRecDepth 100000
set_option maxHeartbeats 1000000
namespace K1
open PySem PySem.Spec PyProof PyProof.Rows L2 PySem.W PySem.SeqAt
open AutoSeq1 (wpAny_loadPart')
open MeetsSeq MeetsSeq2 MeetsSeq3 SeqRoads2
section
variable {prog : Program} {w : World} {K : Type} [DecidableEq K] {knd : HeapKind prog w K} {A : Around} {E : Value → Shared → Prop} {s : Shared}
theorem all_drop {e : Nat → Bool} {n i : Nat} (hi : i < n) : ((List.range n).drop i).all e = (e i && ((List.range n).drop (i + 1)).all e) := by
  rw [List.drop_eq_getElem_cons (by simpa using hi), List.all_cons]
  simp
/-- two dicts with the same keys (tuples) at the same places -/
theorem same_keyed {nm : String} {a b : Addr} {ka kb : List (K × Addr × Value)} {e : Nat → Bool} {Q : Bool → Shared → Prop} (hu : knd.room A) (ha : (a == sysModules) = false) (hb : (b == sysModules) = false)
    (da : s.heap.DictOfH knd a ka) (db : s.heap.DictOfH knd b kb) (ln : ka.length = kb.length) (ks : ∀ i x y, ka[i]? = some x → kb[i]? = some y → x.1 = y.1 ∧ EqP prog w A s x.2.2 y.2.2 (e i)) (h : Q ((List.range ka.length).all e) s) :
    wpAny (model prog w) A (Builtin.Dict.samePairs nm a b) Q E s := by
  obtain ⟨oa, es, ep, hoa, _, hda, hka, hia, _⟩ := da
  obtain ⟨ob, fs, ep', hob, _, hdb, hkb, hib, hnb⟩ := db
  have za := size_of_entries hka
  have zb := size_of_entries hkb
  unfold Builtin.Dict.samePairs Builtin.Dict.showsAll
  rw [if_neg (show ¬ (a == sysModules) = true by rw [ha]; exact Bool.false_ne_true), if_neg (show ¬ (b == sysModules) = true by rw [hb]; exact Bool.false_ne_true)]
  refine wpAny_bind (wpAny_pure (wpAny_bind (wpAny_pure ?_)))
  refine wpAny_bind (wpAny_dictEntries hoa hda ?_)
  dsimp only
  refine wpAny_bind (wpAny_dictEntries hob hdb ?_)
  rw [if_neg (by rw [za, zb, ln]; simp)]
  refine wpAny_bind (wpAny_dictEpoch hoa hda ?_)
  refine wpAny_bind ?_
  rw [Std.Legacy.Range.forIn_eq_forIn_range']
  simp only [Std.Legacy.Range.size, Nat.sub_zero, Nat.add_sub_cancel, Nat.div_one]
  refine wpAny_forIn_list _ (fun rest q s' => s' = s ∧ q = (none, ()) ∧ ∃ i, rest = List.range' i (es.size - i) ∧ i ≤ es.size ∧ ((List.range ka.length).all e) = ((List.range ka.length).drop i).all e) _ ?_ ?_ _ _ ⟨rfl, rfl, 0, by simp, Nat.zero_le _, by simp⟩
  · rintro x rest q s' ⟨rfl, rfl, i, hr, hi, hpre⟩
    have hlt : i < es.size := by
      rcases Nat.lt_or_ge i es.size with h | h
      · exact h
      · rw [Nat.sub_eq_zero_of_le h] at hr; simp at hr
    obtain ⟨rfl, hrest⟩ : x = i ∧ rest = List.range' (i + 1) (es.size - (i + 1)) := by
      have e : es.size - i = (es.size - (i + 1)) + 1 := by omega
      rw [e, List.range'_succ] at hr
      injection hr with h1 h2
      exact ⟨h1, h2⟩
    have la : x < ka.length := by omega
    have lb : x < kb.length := by omega
    obtain ⟨ke, ve⟩ := ks x _ _ (List.getElem?_eq_getElem la) (List.getElem?_eq_getElem lb)
    refine wpAny_bind (wpAny_dictEntries hoa hda ?_)
    rw [entry_at hka x, List.getElem?_eq_getElem la]
    show wpAny _ _ (holding [Value.ref ka[x].2.1, ka[x].2.2] _ >>= _) _ _ _
    have key := hia _ (List.getElem_mem la)
    rw [all_drop la] at hpre
    refine wpAny_bind (wpAny_holding (wpAny_bind (wpAny_dictFind_heap hu key hob hdb hkb hib hnb ?_ ?_)))
    · intro hno
      exact absurd (show kb[x]? = some (ka[x].1, kb[x].2) by rw [List.getElem?_eq_getElem lb, ke]) (hno x _)
    · intro j p hj
      obtain ⟨jl, je⟩ := List.getElem?_eq_some_iff.mp hj
      obtain rfl : j = x := idxH_unique hnb hj (show kb[x]? = some (ka[x].1, kb[x].2) by rw [List.getElem?_eq_getElem lb, ke])
      refine wpAny_bind (wpAny_dictEntries hob hdb ?_)
      rw [entry_at hkb j, List.getElem?_eq_getElem lb]
      refine wpAny_holding (ve _ _ ?_)
      cases ee : e j with
      | false =>
        rw [ee, Bool.false_and] at hpre
        rw [hpre] at h
        show wpAny _ _ (if (!false) = true then _ else _) _ _ _
        rw [if_pos (by decide)]
        exact wpAny_pure (wpAny_pure h)
      | true =>
        rw [ee, Bool.true_and] at hpre
        show wpAny _ _ (if (!true) = true then _ else _) _ _ _
        rw [if_neg (by decide)]
        refine wpAny_bind (wpAny_dictEpoch hoa hda ?_)
        rw [if_neg (by simp)]
        exact wpAny_pure ⟨rfl, rfl, j + 1, hrest, hlt, hpre⟩
  · rintro q s' ⟨rfl, rfl, i, hr, hi, hpre⟩
    have hin : i = es.size := by
      rcases Nat.lt_or_ge i es.size with h | h
      · have e : es.size - i = (es.size - (i + 1)) + 1 := by omega
        rw [e, List.range'_succ] at hr; exact nomatch hr
      · exact Nat.le_antisymm hi h
    refine wpAny_pure ?_
    rw [hpre, hin, za, show (List.range ka.length).drop ka.length = [] by simp] at h
    exact h
/-- == of two dicts with the same keys (tuples) at the same places -/
theorem eq_keyed {a b : Addr} {ka kb : List (K × Addr × Value)} {e : Nat → Bool} (hu : knd.room A.in1) (hr : A.units < cLine) (ha : (a == sysModules) = false) (hb : (b == sysModules) = false) (ne : a ≠ b)
    (da : s.heap.DictOfH knd a ka) (db : s.heap.DictOfH knd b kb) (ln : ka.length = kb.length) (ks : ∀ i x y, ka[i]? = some x → kb[i]? = some y → x.1 = y.1 ∧ EqP prog w A.in1 s x.2.2 y.2.2 (e i)) : EqP prog w A s (.ref a) (.ref b) ((List.range ka.length).all e) := by
  refine eqP_refs ne fun E Q h => ?_
  refine wpAny_richCompare_same_room (op := .Eq) da.typeIs db.typeIs PySem.F.slot_dict_eq (wpAny_call_entry PySem.F.slot_dict_eq da.typeIs PySem.F.entry_dict_eq ?_ (PySem.F.args_dict_eq_2 _ _)) hr
  show wpAny _ _ (Builtin.Dict.dictSlotArgs "__eq__" ⟨[.ref a, .ref b], []⟩ >>= _) _ _ s
  refine wpAny_bind ?_
  unfold Builtin.Dict.dictSlotArgs
  refine wpAny_bind (wpAny_notOrdered_dict da.typeIs ?_)
  show wpAny _ _ (pure (Value.ref a, Value.ref b)) _ _ s
  refine wpAny_pure ?_
  refine wpAny_bind (wpAny_isInstance (T := "dict") db.typeIs PySem.F.sub_dict_dict ?_)
  simp only [Bool.not_true, Bool.false_eq_true, if_false]
  refine wpAny_bind (wpAny_pure (wpAny_bind (wpAny_pure ?_)))
  refine wpAny_bind (same_keyed hu ha hb da db ln ks ?_)
  refine wpAny_pure ⟨_, rfl, ?_, ?_⟩
  · exact fun x => nomatch x
  · simpa using h
end
section
variable {prog : Program} {w : World}
/-- a list's walk for an equal item, each comparison told -/
theorem has_loop (l : Addr) (items : Array Value) (n : Nat) (dd : Option Addr) (sl : Array (Option Value)) (x : Value) (e : Nat → Bool) : ∀ k i : Nat, items.size - i = k →
    MeetsIn prog w (Builtin.«list.__contains__.loop» ⟨[.ref l, x, rawInt i], []⟩) fun A R s => s.heap.get? l = some { cls := .type "list", dict := dd, data := .seq items n, slots := sl } ∧
      (∀ j (hj : j < items.size), EqP prog w A.in1 s items[j] x (e j)) ∧ R (.ok (.ret (.bool (((List.range items.size).drop i).any e)))) s
  | 0, i, hk => by
    intro A R s h
    obtain ⟨hp, g, d, tk, os⟩ := s
    obtain ⟨hl, he, h⟩ := h
    wp_walk using wpAny_loadPart' hl
    have h0 : items[((i : Nat) : Int).toNat]? = none := by simp; omega
    have h1 : (List.range items.size).drop i = [] := by simp; omega
    rw [h1] at h
    rw [h0]
    wp_walk
    exact h
  | k + 1, i, hk => by
    intro A R s h
    obtain ⟨hp, g, d, tk, os⟩ := s
    obtain ⟨hl, he, h⟩ := h
    wp_walk using wpAny_loadPart' hl
    have lt : i < items.size := by omega
    have h0 : items[((i : Nat) : Int).toNat]? = some items[i] := by simp [lt]
    have h1 : (List.range items.size).drop i = i :: (List.range items.size).drop (i + 1) := by simp [List.drop_eq_getElem_cons, lt]
    rw [h1, List.any_cons] at h
    rw [h0]
    refine wpAny_bind (he i lt _ _ ?_)
    cases eb : e i with
    | true =>
      rw [eb] at h
      wp_walk
      exact h
    | false =>
      rw [eb] at h
      wp_walk
      rw [show ((i : Int) + 1) = ((i + 1 : Nat) : Int) by push_cast; rfl]
      exact ⟨plainId_quiet plain_contains_loop _, codeAny_builtin entry_contains_loop (by
        rw [Around.under_plainId plain_contains_loop _]
        exact has_loop l items n dd sl x e k (i + 1) (by omega) A R _ ⟨hl, he, by simpa using h⟩)⟩
theorem has_list (l : Addr) (items : Array Value) (n : Nat) (dd : Option Addr) (sl : Array (Option Value)) (x : Value) (e : Nat → Bool) :
    MeetsIn prog w (Builtin.«list.__contains__» ⟨[.ref l, x], []⟩) fun A R s => s.heap.get? l = some { cls := .type "list", dict := dd, data := .seq items n, slots := sl } ∧
      (∀ j (hj : j < items.size), EqP prog w A.in1 s items[j] x (e j)) ∧ R (.ok (.ret (.bool ((List.range items.size).any e)))) s := by
  intro A R s h
  obtain ⟨hp, g, d, tk, os⟩ := s
  obtain ⟨hl, he, h⟩ := h
  wp_walk using wpAny_loadPart' hl
  exact ⟨plainId_quiet plain_contains_loop _, codeAny_builtin entry_contains_loop (by
    rw [Around.under_plainId plain_contains_loop _]
    exact has_loop l items n dd sl x e _ 0 rfl A R _ ⟨hl, he, by simpa using h⟩)⟩
theorem not_in {A : Around} {E : Value → Shared → Prop} {s : Shared} {l : Addr} {items : Array Value} {x : Value} {e : Nat → Bool} {Q : Value → Shared → Prop} (hl : s.heap.IsList l items) (he : ∀ j (hj : j < items.size), EqP prog w A.in1 s items[j] x (e j))
    (h : Q (.bool (!((List.range items.size).any e))) s) : wpAny (model prog w) A (compareOp .NotIn x (.ref l)) Q E s := by
  obtain ⟨⟨cls, dd, data, sl⟩, ho, hc, n, hd⟩ := id hl
  simp only at hc hd
  subst hc hd
  show wpAny _ A (do return .bool (!(← contains (.ref l) x))) Q E s
  have run : wpAny (model prog w) A (call (.builtin "list.__contains__") [.ref l, x]) (fun v s' => ∃ b, v = .bool b ∧ Q (.bool (!b)) s') E s :=
    call_meetsIn PySem.F.slot_list_contains ⟨_, ho, rfl⟩ PySem.F.entry_list_contains (PySem.F.args_list_contains_2 _ _) (has_list l items n dd sl x e) ⟨ho, he, _, rfl, h⟩
  refine wpAny_bind (wpAny_contains_slot (T := "list") ⟨_, ho, rfl⟩ PySem.F.slot_list_contains (wpAny_mono run (fun v s' hv => ?_) fun _ _ z => z))
  obtain ⟨b, rfl, hq⟩ := hv
  exact wpAny_truthy_bool (wpAny_pure hq)
end
end K1
end
-- VNotIn
section
set_option Elab.async false
set_option linter.all false
set_option maxRecDepth 100000
set_option maxHeartbeats 1000000
namespace K1
open PySem PySem.Spec PyProof PyProof.Rows L2 PySem.W PySem.SeqAt
/-- a road as a key -/
def keyR (e : Str × Str) : List Key := [.inr e.1, .inr e.2]
theorem keyR_inj {a b : Str × Str} (h : keyR a = keyR b) : a = b := by
  unfold keyR at h
  simp at h
  exact Prod.ext h.1 h.2
/-- a dict that tells of each of these roads a list of names -/
def VecD (H : Hp) (a : Addr) (rs : List (Str × Str)) (gs : List (List Str)) : Prop := ∃ ls : List Addr, H a = some (.dT ((rs.zip ls).map fun e => (keyR e.1, V.ref e.2))) ∧ ls.length = rs.length ∧ Paired (fun (l : Addr) (g : List Str) => H l = some (.lst (g.map V.str))) ls gs
theorem VecD.len {H : Hp} {a : Addr} {rs : List (Str × Str)} {gs : List (List Str)} (h : VecD H a rs gs) : gs.length = rs.length := by
  obtain ⟨ls, _, l, p⟩ := h
  rw [← l]
  exact p.length.symm
section
variable {X : Cx} {pins : List (Addr × Obj)} {σ : L2.St} {H : Hp} {s : Shared} {A : Around}
theorem strs_vals : ∀ {g : List Str} {us : List Value}, Vals (g.map V.str) us → us.length = g.length ∧ ∀ (i : Nat) (x : Str), g[i]? = some x → ∃ t, us[i]? = some (.str x t)
  | [], us, r => by cases r; exact ⟨rfl, fun i x h => by simp at h⟩
  | y :: g, us, r => by
    rw [List.map_cons] at r
    cases r with
    | cons h t =>
      obtain ⟨tk, rfl⟩ := h
      obtain ⟨l, f⟩ := strs_vals t
      refine ⟨by simp [l], fun i x h => ?_⟩
      cases i with
      | zero =>
        obtain rfl : y = x := Option.some.inj h
        exact ⟨tk, rfl⟩
      | succ i => exact f i x (by simpa using h)
/-- two lists of names -/
theorem eq_strs (I : Inv X pins σ H s) {P : Program} {w : World} {a b : Addr} {g g' : List Str} (hu : A.units < cLine) (ha : H a = some (.lst (g.map V.str))) (hb : H b = some (.lst (g'.map V.str))) : EqP P w A s (.ref a) (.ref b) (decide (g = g')) := by
  by_cases ne : a = b
  · subst ne
    rw [ha] at hb
    have : g.map V.str = g'.map V.str := by
      have := Option.some.inj hb
      injection this
    have e : g = g' := by
      have h2 := congrArg (List.map fun v : V => match v with | .str x => x | _ => "") this
      simpa [List.map_map, Function.comp_def] using h2
    rw [decide_eq_true e]
    exact (EqAt.same _).eqP
  obtain ⟨_, us, n, r1, o1⟩ := (show ObjOk X.prog X.w H s.heap a (.lst (g.map V.str)) from I.hok _ _ ha)
  obtain ⟨_, ws, m, r2, o2⟩ := (show ObjOk X.prog X.w H s.heap b (.lst (g'.map V.str)) from I.hok _ _ hb)
  obtain ⟨l1, f1⟩ := strs_vals r1
  obtain ⟨l2, f2⟩ := strs_vals r2
  have i1 : s.heap.IsList a us.toArray := ⟨_, o1, rfl, n, rfl⟩
  have i2 : s.heap.IsList b ws.toArray := ⟨_, o2, rfl, m, rfl⟩
  by_cases hl : g.length = g'.length
  · have key : decide (g = g') = (List.range us.toArray.size).all fun i => decide (g[i]? = g'[i]?) := by
      rw [Bool.eq_iff_iff, decide_eq_true_eq, List.all_eq_true]
      constructor
      · rintro rfl i _
        exact decide_eq_true rfl
      · intro h
        refine List.ext_getElem? fun i => ?_
        by_cases hi : i < g.length
        · exact of_decide_eq_true (h i (List.mem_range.mpr (by simp [l1]; exact hi)))
        · rw [List.getElem?_eq_none (by omega), List.getElem?_eq_none (by omega)]
    rw [key]
    refine eqP_refs ne fun E Q h => rcP_lists i1 i2 (by simp [l1, l2, hl]) hu (fun j h1 h2 => ?_) E Q h
    have j1 : j < g.length := by simp [l1] at h1; exact h1
    have j2 : j < g'.length := by omega
    obtain ⟨t, e1⟩ := f1 j _ (List.getElem?_eq_getElem j1)
    obtain ⟨t', e2⟩ := f2 j _ (List.getElem?_eq_getElem j2)
    have q1 : us.toArray[j] = .str g[j] t := by
      have := (List.getElem?_eq_some_iff.mp e1).2
      simpa using this
    have q2 : ws.toArray[j] = .str g'[j] t' := by
      have := (List.getElem?_eq_some_iff.mp e2).2
      simpa using this
    rw [q1, q2]
    have := ((SeqRoads2.EqGives.str g[j] g'[j] t t').at A.in1 s).eqP (prog := P) (w := w)
    have e : (g[j].cps.toList == g'[j].cps.toList) = decide (g[j]? = g'[j]?) := by
      rw [List.getElem?_eq_getElem j1, List.getElem?_eq_getElem j2, Bool.eq_iff_iff, beq_iff_eq, decide_eq_true_eq, Option.some.injEq]
      constructor
      · intro h
        have : g[j].cps = g'[j].cps := Array.toList_inj.mp h
        cases hx : g[j]
        cases hy : g'[j]
        rw [hx, hy] at this
        simpa using this
      · intro h; rw [h]
    rw [e] at this
    exact this
  · rw [decide_eq_false fun z => hl (by rw [z])]
    refine eqP_refs ne fun E Q h => ?_
    exact RcAt.lists_lengths i1 i2 (by simp [l1, l2]; exact hl) hu P w E Q h
/-- what stands at a place of such a dict -/
theorem vec_at (I : Inv X pins σ H s) {a : Addr} {rs : List (Str × Str)} {gs : List (List Str)} (h : VecD H a rs gs) : ∃ xs : List (List Key × Addr × Value), (a == sysModules) = false ∧ s.heap.DictOfH (tupleKind (mixKind X.prog X.w)) a xs ∧ xs.length = rs.length ∧
    ∀ (i : Nat) (e : Str × Str), rs[i]? = some e → ∃ (k l : Addr) (g : List Str), xs[i]? = some (keyR e, k, .ref l) ∧ gs[i]? = some g ∧ H l = some (.lst (g.map V.str)) := by
  obtain ⟨ls, hd, ll, pr⟩ := h
  obtain ⟨_, hs, xs, kt, dd⟩ := dt_of I.hok hd
  have lx : xs.length = rs.length := by
    have := kt.length
    rw [List.length_map, List.length_zip, ll, Nat.min_self] at this
    exact this.symm
  refine ⟨xs, hs, dd, lx, fun i e he => ?_⟩
  obtain ⟨hi, he2⟩ := List.getElem?_eq_some_iff.mp he
  obtain ⟨p, h1, h2, h3, h4⟩ := paired_get kt (i := i) (by omega)
  have hl : i < ls.length := by omega
  have hg : i < gs.length := by have := pr.length; omega
  have hp : ((rs.zip ls).map fun e => (keyR e.1, V.ref e.2))[i]? = some (keyR e, V.ref ls[i]) := by
    rw [List.getElem?_map, List.getElem?_zip_eq_some (z := (e, ls[i])).mpr ⟨he, List.getElem?_eq_getElem hl⟩]
    rfl
  rw [hp] at h1
  cases h1
  have h4 : xs[i].2.2 = Value.ref ls[i] := h4
  obtain ⟨l, q1, q2⟩ := paired_get pr (i := i) hg
  rw [List.getElem?_eq_getElem hl] at q1
  cases q1
  refine ⟨xs[i].2.1, ls[i], gs[i], ?_, List.getElem?_eq_getElem hg, q2⟩
  rw [List.getElem?_eq_getElem (by omega)]
  show some xs[i] = some (keyR e, xs[i].2.1, Value.ref ls[i])
  rw [← h4]
  have h2 : keyR e = xs[i].1 := h2
  rw [h2]
theorem eq_vecs (I : Inv X pins σ H s) {a b : Addr} {rs : List (Str × Str)} {gs gs' : List (List Str)} (hu : A.units + 2 < cLine) (ne : a ≠ b) (ha : VecD H a rs gs) (hb : VecD H b rs gs') : EqP X.prog X.w A s (.ref a) (.ref b) (decide (gs = gs')) := by
  have la := ha.len
  have lb := hb.len
  obtain ⟨xs, sa, da, lx, fx⟩ := vec_at I ha
  obtain ⟨ys, sb, db, ly, fy⟩ := vec_at I hb
  have key : decide (gs = gs') = (List.range xs.length).all fun i => decide (gs[i]? = gs'[i]?) := by
    rw [Bool.eq_iff_iff, decide_eq_true_eq, List.all_eq_true]
    constructor
    · rintro rfl i _
      exact decide_eq_true rfl
    · intro h
      refine List.ext_getElem? fun i => ?_
      by_cases hi : i < xs.length
      · exact of_decide_eq_true (h i (List.mem_range.mpr hi))
      · rw [List.getElem?_eq_none (by omega), List.getElem?_eq_none (by omega)]
  rw [key]
  refine eq_keyed (knd := tupleKind (mixKind X.prog X.w)) (by show A.units + 1 < cLine; omega) (by omega) sa sb ne da db (by omega) fun i x y hx hy => ?_
  have hi : i < rs.length := by
    have := (List.getElem?_eq_some_iff.mp hx).1
    omega
  obtain ⟨k, l, g, e1, e2, e3⟩ := fx i _ (List.getElem?_eq_getElem hi)
  obtain ⟨k', l', g', e1', e2', e3'⟩ := fy i _ (List.getElem?_eq_getElem hi)
  rw [hx] at e1
  rw [hy] at e1'
  cases e1
  cases e1'
  refine ⟨rfl, ?_⟩
  have := eq_strs I (P := X.prog) (w := X.w) (A := A.in1) (by show A.units + 1 < cLine; omega) e3 e3'
  rw [e2, e2']
  rw [show decide (some g = some g') = decide (g = g') from decide_eq_decide.mpr ⟨Option.some.inj, fun z => by rw [z]⟩]
  exact this
/-- not in: a dict of that kind, a list of such dicts -/
def rNotInV : R2 := fun x y H Q => ∃ (a m : Addr) (as : List Addr) (rs : List (Str × Str)) (gs : List (List Str)) (Gs : List (List (List Str))), x = .ref a ∧ y = .ref m ∧ H m = some (.lst (as.map V.ref)) ∧ a ∉ as ∧ VecD H a rs gs ∧ Paired (fun (b : Addr) (g : List (List Str)) => VecD H b rs g) as Gs ∧ Q (.bl (decide (gs ∉ Gs))) H
theorem op_notInV (hu : X.A.units + 3 < cLine) : OpR X (compareOp .NotIn) rNotInV := by
  intro pins s σ H x y v u Q I rx ry h
  obtain ⟨a, m, as, rs, gs, Gs, rfl, rfl, hm, ha, vd, pr, q⟩ := h
  cases rx
  cases ry
  obtain ⟨_, us, n, r1, o1⟩ := (show ObjOk X.prog X.w H s.heap m (.lst (as.map V.ref)) from I.hok _ _ hm)
  have ei := refs_are r1
  subst ei
  have lG : as.length = Gs.length := pr.length
  refine not_in (e := fun j => decide (Gs[j]? = some gs)) (items := (as.map Value.ref).toArray) ⟨_, o1, rfl, n, rfl⟩ (fun j hj => ?_) ?_
  · have hj2 : j < as.length := by simpa using hj
    obtain ⟨b, e1, e2⟩ := paired_get pr (i := j) (by omega)
    rw [List.getElem?_eq_getElem hj2] at e1
    cases e1
    have ne : as[j] ≠ a := fun z => ha (z ▸ List.getElem_mem hj2)
    have := eq_vecs I (A := X.A.in1) (by show X.A.units + 1 + 2 < cLine; omega) ne e2 vd
    rw [List.getElem?_eq_getElem (show j < Gs.length by omega)]
    rw [show decide (some Gs[j] = some gs) = decide (Gs[j] = gs) from decide_eq_decide.mpr ⟨Option.some.inj, fun z => by rw [z]⟩]
    simpa using this
  · have e : (!((List.range (as.map Value.ref).toArray.size).any fun j => decide (Gs[j]? = some gs))) = decide (gs ∉ Gs) := by
      rw [Bool.eq_iff_iff, Bool.not_eq_true', decide_eq_true_eq, List.any_eq_false]
      constructor
      · intro h hg
        obtain ⟨j, hj, e⟩ := List.mem_iff_getElem.mp hg
        exact h j (List.mem_range.mpr (by simp; omega)) (decide_eq_true (by rw [List.getElem?_eq_getElem hj, e]))
      · intro h j _ z
        obtain ⟨hj, e⟩ := List.getElem?_eq_some_iff.mp (of_decide_eq_true z)
        exact h (e ▸ List.getElem_mem hj)
    rw [e]
    exact ⟨.bl _, H, I, rfl, q⟩
end
end K1
end
-- VMath
section
set_option Elab.async false
set_option linter.all false
set_option maxRecDepth 100000
set_option maxHeartbeats 1000000
namespace K1
open PySem PySem.Spec PyProof.Rows L2 W0
/-- the houses that are joined to one by some roads -/
def comp (ss : List Str) (es : List (Str × Str)) (s : Str) : List Str := ss.filter fun t => decide (rtOf es t = rtOf es s)
/-- the roads at these places -/
def esOf (rs : List (Str × Str)) (js : List Nat) : List (Str × Str) := js.filterMap fun j => rs[j]?
theorem esOf_snoc {rs : List (Str × Str)} {js : List Nat} {j : Nat} (hj : j < rs.length) : esOf rs (js ++ [j]) = esOf rs js ++ [rs[j]] := by
  unfold esOf
  rw [List.filterMap_append, List.filterMap_cons, List.filterMap_nil, List.getElem?_eq_getElem hj]
theorem joinRt_iff {rt : Str → Str} {a b s t : Str} : joinRt rt a b t = joinRt rt a b s ↔ rt t = rt s ∨ ((rt t = rt a ∨ rt t = rt b) ∧ (rt s = rt a ∨ rt s = rt b)) := by
  unfold joinRt
  by_cases h1 : rt t = rt a <;> by_cases h2 : rt s = rt a
  · rw [if_pos h1, if_pos h2]
    exact ⟨fun _ => .inl (h1.trans h2.symm), fun _ => rfl⟩
  · rw [if_pos h1, if_neg h2]
    constructor
    · exact fun q => .inr ⟨.inl h1, .inr q.symm⟩
    · rintro (q | ⟨_, q | q⟩)
      · exact absurd (q.symm.trans h1) h2
      · exact absurd q h2
      · exact q.symm
  · rw [if_neg h1, if_pos h2]
    constructor
    · exact fun q => .inr ⟨.inr q, .inl h2⟩
    · rintro (q | ⟨q | q, _⟩)
      · exact absurd (q.trans h2) h1
      · exact absurd q h1
      · exact q
  · rw [if_neg h1, if_neg h2]
    constructor
    · exact .inl
    · rintro (q | ⟨q | q, q2 | q2⟩)
      · exact q
      · exact absurd q h1
      · exact absurd q h1
      · exact absurd q2 h2
      · exact q.trans q2.symm
theorem mem_comp {ss : List Str} {es : List (Str × Str)} {s t : Str} : t ∈ comp ss es s ↔ t ∈ ss ∧ rtOf es t = rtOf es s := by
  unfold comp
  rw [List.mem_filter, decide_eq_true_eq]
theorem comp_nil {ss : List Str} (nd : ss.Nodup) {s : Str} (hs : s ∈ ss) : comp ss [] s = [s] := by
  unfold comp
  show ss.filter (fun t => decide (t = s)) = [s]
  induction ss with
  | nil => cases hs
  | cons a r ih =>
    have n := List.nodup_cons.mp nd
    rcases List.mem_cons.mp hs with rfl | h
    · rw [List.filter_cons, if_pos (decide_eq_true rfl)]
      have : r.filter (fun t => decide (t = s)) = [] := List.filter_eq_nil_iff.mpr fun x hx => by
        rw [decide_eq_true_eq]
        exact fun z => n.1 (by rw [← z]; exact hx)
      rw [this]
    · rw [List.filter_cons, if_neg (by rw [decide_eq_true_eq]; exact fun z => n.1 (by rw [z]; exact h)), ih n.2 h]
theorem comp_len {ss : List Str} {es : List (Str × Str)} {s : Str} : (comp ss es s).length ≤ ss.length := List.length_filter_le _ _
/-- a road more: who lies at one of its ends -/
theorem comp_new {ss : List Str} {es : List (Str × Str)} {e : Str × Str} {s : Str} (h : rtOf es s = rtOf es e.1 ∨ rtOf es s = rtOf es e.2) : comp ss (es ++ [e]) s = ss.filter fun t => decide (t ∈ comp ss es e.1 ++ comp ss es e.2) := by
  refine List.filter_congr fun t ht => decide_eq_decide.mpr ?_
  rw [rtOf_snoc, joinRt_iff, List.mem_append, mem_comp, mem_comp]
  constructor
  · rintro (q | ⟨q, _⟩)
    · rw [q]
      exact h.imp (fun z => ⟨ht, z⟩) fun z => ⟨ht, z⟩
    · exact q.imp (fun z => ⟨ht, z⟩) fun z => ⟨ht, z⟩
  · exact fun q => .inr ⟨q.imp And.right And.right, h⟩
theorem comp_old {ss : List Str} {es : List (Str × Str)} {e : Str × Str} {s : Str} (h : ¬ (rtOf es s = rtOf es e.1 ∨ rtOf es s = rtOf es e.2)) : comp ss (es ++ [e]) s = comp ss es s := by
  refine List.filter_congr fun t ht => decide_eq_decide.mpr ?_
  rw [rtOf_snoc, joinRt_iff]
  exact ⟨fun q => q.resolve_right fun z => h z.2, .inl⟩
theorem mem_new {ss : List Str} {es : List (Str × Str)} {e : Str × Str} {s : Str} (hs : s ∈ ss) : s ∈ (ss.filter fun t => decide (t ∈ comp ss es e.1 ++ comp ss es e.2)) ↔ rtOf es s = rtOf es e.1 ∨ rtOf es s = rtOf es e.2 := by
  rw [List.mem_filter, decide_eq_true_eq, List.mem_append, mem_comp, mem_comp]
  exact ⟨fun q => q.2.imp And.right And.right, fun q => ⟨hs, q.imp (fun z => ⟨hs, z⟩) fun z => ⟨hs, z⟩⟩⟩
end K1
end
-- WRepr
section
set_option Elab.async false
set_option linter.all false
set_option maxRecDepth 100000
set_option maxHeartbeats 4000000
/-! repr of data of any depth: it is asked where nothing else is being shown; so the defs from the law down to it promise with that premise (FnG) -/
namespace Wr
open PySem PySem.Spec PyProof.Rows L2
abbrev Bare0 (A : Around) : Prop := A.guards = some []
structure FnG (P : Program) (w : World) (K : PySem.W.Frag) (mg : Str → Option Value) (base : Heap) (CX : CXT) (k : Nat) (f : Addr) (fd : FuncData) (ps : List Str) (sp : Sp) : Prop where
  ln : ∀ xs H Q E, sp xs H Q E → xs.length = ps.length
  go : ∀ (A : Around) (out : List Env) (s : Shared) (H : Hp) (ar : Args) (us : List Value) (xs : List V) (Q : VK) (E : XK), Bare0 A → Room k A → Env0 P w K mg base A out s H → BindsTo s fd ar (ps.zip us) → Vals xs us → sp xs H Q E → codeAny (model P w) A (.call (.ref f) ar) (CR CX out P w H s Q E) s
theorem FnG.of {P : Program} {w : World} {K : PySem.W.Frag} {mg : Str → Option Value} {base : Heap} {CX : CXT} {k : Nat} {f : Addr} {fd : FuncData} {ps : List Str} {sp : Sp} (F : FnOk P w K mg base CX k f fd ps sp) : FnG P w K mg base CX k f fd ps sp :=
  ⟨F.len, fun A out s H ar us xs Q E _ hr => F.run A out s H ar us xs Q E hr⟩
theorem FnG.mono {P : Program} {w : World} {K : PySem.W.Frag} {mg : Str → Option Value} {base : Heap} {CX : CXT} {j k : Nat} {f : Addr} {fd : FuncData} {ps : List Str} {sp : Sp} (F : FnG P w K mg base CX j f fd ps sp) (h : j ≤ k) : FnG P w K mg base CX k f fd ps sp :=
  ⟨F.ln, fun A out s H ar us xs Q E hb hr => F.go A out s H ar us xs Q E hb (hr.mono h)⟩
section
variable {K : PySem.W.Frag} {P : Program} {w : World} {base : Heap} {mg : Str → Option Value}
theorem fnG_of {CX : CXT} {k : Nat} {f : Addr} {nm qu : Str} {pa : Arguments} {bd : List Stmt} {sc : Scope} {dV kV doc pm cv ct oc : Value} {an od : Option Addr} {osl : Array (Option Value)} {N ps : List Str} {sp : Sp}
    (lk : K.lookup f = some ⟨oc, od, .func (PySem.W.fnOf nm qu pa bd sc dV kV doc pm an cv ct), osl⟩) (hc : PySem.W.codeIn K cv qu = true) (S : FnScope N ps sc) (ln : ∀ xs H Q E, sp xs H Q E → xs.length = ps.length)
    (hb : ∀ (A : Around) (out : List Env) (s : Shared) (H : Hp) (xs : List V) (Q : VK) (E : XK), Bare0 A → Room k (A.deeper (envOfC qu sc s.heap.objs.size f cv)) → sp xs H Q E →
      ∃ t, PSs (cxOf CX P w K mg base N qu sc f cv A out s H E) bd t ∧ t { nx := fun _ H2 => Q .non H2, rt := Q } (start N xs) H) : FnG P w K mg base CX (k + 1) f (PySem.W.fnOf nm qu pa bd sc dV kV doc pm an cv ct) ps sp := by
  refine ⟨ln, fun A out s H ar us xs Q E hA hr e0 hbi r hsp => ?_⟩
  have hl := ln _ _ _ _ hsp
  have KI : K.In s.heap := e0.mod.kin.keeps fun c o e => (e0.bs c o e).1
  have li : s.heap.NoLimit := e0.mod.nolimit.keeps fun c o e => (e0.bs c o e).1
  have hk : ∀ y ∈ ps.zip us, sc.names.lookup y.1 = some .local ∨ (sc.names.lookup y.1 = some .cell ∧ ((cellsFrom (s.heap.objs.size + 1) sc.names []).lookup y.1).isSome = true) := by
    rintro ⟨n, v⟩ hy
    exact (S.par n (List.of_mem_zip hy).1).imp id fun q => ⟨q, PySem.W.cellsFrom_some _ _ _ (.inl q)⟩
  refine codeAny_call_function hr.depth (KI _ _ lk) rfl S.co S.gen rfl (PySem.W.codeRec_of KI hc) (hbi _ _ _ _ ?_)
  refine wpAny_newFunctionEnv_cells S.kind hk fun en he s1 z => ?_
  subst he
  refine ⟨li.keeps z.toInCall.keep, codeAny_func ?_⟩
  obtain ⟨t, ht, hq⟩ := hb A out s H xs Q E hA (hr.deeper _) hsp
  have I : Inv (cxOf CX P w K mg base N qu sc f cv A out s H E) [] (start N xs) H s1 := inv_start S hr.hd e0 hl r z
  have fi : ∀ {τ : L2.St} {H2 : Hp} {v : V} {u : Value} {s2 : Shared}, Inv (cxOf CX P w K mg base N qu sc f cv A out s H E) [] τ H2 s2 → RelV v u → Q v H2 → CE out P w H s Q u s2 := fun {τ H2 v u s2} J rv q => ⟨v, H2, J.os, J.bare, J.base, J.hok, rv, q⟩
  refine wpAny_mono (ht.run [] s1 (start N xs) H _ I hq) (fun fl s2 hs => ?_) fun e s2 hs => hs
  cases fl with
  | ret u =>
    obtain ⟨v, τ, H2, J, rv, q⟩ := hs
    exact fi J rv q
  | next =>
    obtain ⟨τ, H2, J, q⟩ := hs
    exact fi (v := V.non) (u := Value.none) J rfl q
  | brk =>
    obtain ⟨_, _, _, q⟩ := hs
    exact q.elim
  | cont =>
    obtain ⟨_, _, _, q⟩ := hs
    exact q.elim
/-- Fun.ok with the premise -/
theorem okG {x qu : Str} {st : Stmt} {f : Addr} {fd : FuncData} {N ps : List Str} {k : Nat} {sp : Sp} (F : Fun K x qu st f fd) (S : FnScope N ps (defScope st)) (ln : ∀ xs H Q E, sp xs H Q E → xs.length = ps.length)
    (hb : ∀ (cv : Value) (A : Around) (out : List Env) (s : Shared) (H : Hp) (xs : List V) (Q : VK) (E : XK), Bare0 A → Room k (A.deeper (envOfC qu (defScope st) s.heap.objs.size f cv)) → sp xs H Q E →
      ∃ t, PSs (cxOf CX0 P w K mg base N qu (defScope st) f cv A out s H E).nox (defBody st) t ∧ t { nx := fun _ H2 => Q .non H2, rt := Q } (start N xs) H) : FnG P w K mg base CX0 (k + 1) f fd ps sp := by
  obtain ⟨oc, od, kV, doc, pm, an, cv, ct, osl, rfl, lk, hc⟩ := F.ex
  exact fnG_of lk hc S ln fun A out s H xs Q E hA hr hsp => by
    obtain ⟨t, h, q⟩ := hb cv A out s H xs Q E hA hr hsp
    exact ⟨t, h.nox, q⟩
end
section
variable {X : Cx} {CX : CXT} {k : Nat} {f : Addr} {fd : FuncData} {ps : List Str} {sp : Sp} {dvs : List V} {ds : List Value} {E : XK} {x : Str} {p pos : Pos} {e : Expr} {es : List Expr} {t : TA}
theorem runG {pins : List (Addr × Obj)} {σ : L2.St} {H : Hp} {s : Shared} {Q : VK} {us : List Value} {vs : List V} (hA : Bare0 X.A) (F : FnG X.prog X.w X.K X.mg X.base CX k f fd ps sp) (hr : Room k X.A) (hb : Binds X.K fd ps ds) (hd : Vals dvs ds) (hx : Passes CX X E)
    (I : Inv X pins σ H s) (rV : Vals vs us) (h : sp (vs ++ dvs) H Q E) : wpAny (model X.prog X.w) X.A (call (.ref f) us) (EP X pins σ Q) X.xe s := by
  have r3 : Vals (vs ++ dvs) (us ++ ds) := rV.append hd
  have hl : (us ++ ds).length = ps.length := by rw [← r3.length]; exact F.ln _ _ _ _ h
  refine wpAny_call (codeAny_mono (F.go X.A X.stack s H ⟨us, []⟩ (us ++ ds) (vs ++ dvs) Q E hA hr I.env0 (hb s us I.kIn hl) r3 h) fun z s2 hq => ?_)
  cases z with
  | error e => exact hx pins σ H s e s2 I hq
  | ok fl =>
    cases fl with
    | ret u => exact I.after hq
    | next => exact hq.elim
    | brk => exact hq.elim
    | cont => exact hq.elim
theorem pe_callG (hA : Bare0 X.A) (F : FnG X.prog X.w X.K X.mg X.base CX k f fd ps sp) (hr : Room k X.A) (hg : Gl X x) (hm : X.mg x = some (.ref f)) (hk : PySem.W.keepIn X.K (.ref f) = true) (hb : Binds X.K fd ps ds) (hd : Vals dvs ds) (hx : Passes CX X E)
    (ha : PA X (e :: es) t) (hdb : (x == ("__debug__" : Str)) = false := by decide) (he : starEach (e :: es) X.env = (false, eval e X.env) :: starEach es X.env := by rfl) (hpl : (backTo pos (starEach es X.env)).any (·.1) = false := by rfl) : PE X (.Call (.Name x p) (e :: es) [] pos) (tCall sp dvs E t) := by
  refine ⟨fun pins s σ H Q I h => wpAny_Call_Name_kw (ld_glob I hg hm ?_ hdb)⟩
  refine PySem.W.callWith_K (h₀ := X.base) I.ok.mod.kin hk (thn (ha.run pos pins s σ H _ I h) fun us s2 ⟨vs, H2, J, r, q⟩ => ⟨J.kIn, ?_⟩) he hpl
  exact runG hA F hr hb hd hx J r q
/-- repr(x) of lists, tuples at any depth -/
def rRepr (K : PySem.W.Frag) : List V → Hp → VK → Prop := fun vs H Q => ∃ (a : Addr) (d : PyData), vs = [.ref a] ∧ Dp K H (.ref a) d ∧ d.showable = true ∧ d.hasDict = false ∧ d.depth ≤ 60 ∧ d.shown.length ≤ sizeLine ∧ Q (.str d.shown) H
theorem cr_repr (hA : Bare0 X.A) (hu : X.A.units + 64 < cLine) : CallR X (.builtin "repr") (rRepr X.K) := by
  rintro pins s σ H xs us Q I r ⟨a, d, rfl, hd, h1, h2, h3, h4, q⟩
  cases r with
  | cons r0 rt =>
    cases rt
    cases r0
    obtain ⟨as, rd⟩ := Dp.reads I d (.ref a) (.ref a) hd rfl
    exact repr_of_reads' rd h1 (PyData.noDict_hsm h2) hA (by omega) (fun _ _ e => e) (fun h' u tk hk => ⟨.str d.shown, H, I.kept hk, ⟨u, rfl⟩, q⟩) h4
end
end Wr
end
-- EJr0
section
set_option Elab.async false
set_option linter.all false
set_option maxRecDepth 100000
set_option maxHeartbeats 1000000
namespace K1
open PySem PySem.Spec PyProof.Rows L2 W0
/-- their places -/
def jsOf (rs es : List (Str × Str)) : List Nat := es.map fun e => rs.idxOf e
theorem jsOf_at {rs : List (Str × Str)} : ∀ {es : List (Str × Str)}, (∀ e ∈ es, e ∈ rs) → AtPl rs (jsOf rs es) es
  | [], _ => .nil
  | e :: es, h => .cons (by
      have hl := List.idxOf_lt_length_of_mem (h e (List.mem_cons_self ..))
      rw [List.getElem?_eq_getElem hl, List.getElem_idxOf hl]) (jsOf_at fun x hx => h x (List.mem_cons_of_mem _ hx))
theorem jsOf_nodup {rs : List (Str × Str)} : ∀ {es : List (Str × Str)}, (∀ e ∈ es, e ∈ rs) → es.Nodup → (jsOf rs es).Nodup
  | [], _, _ => .nil
  | e :: es, h, nd => by
    have n := List.nodup_cons.mp nd
    refine List.nodup_cons.mpr ⟨fun z => ?_, jsOf_nodup (fun x hx => h x (List.mem_cons_of_mem _ hx)) n.2⟩
    obtain ⟨x, hx, ex⟩ := List.mem_map.mp z
    have h1 := List.idxOf_lt_length_of_mem (h e (List.mem_cons_self ..))
    have h2 := List.idxOf_lt_length_of_mem (h x (List.mem_cons_of_mem _ hx))
    have g1 := List.getElem_idxOf h1
    have g2 := List.getElem_idxOf h2
    have : x = e := by rw [← g1, ← g2]; simp only [ex]
    exact n.1 (by rw [← this]; exact hx)
theorem esOf_at {rs : List (Str × Str)} : ∀ {js : List Nat} {es : List (Str × Str)}, AtPl rs js es → esOf rs js = es
  | [], [], .nil => rfl
  | j :: js, e :: es, .cons a r => by
    unfold esOf
    rw [List.filterMap_cons, a]
    show e :: esOf rs js = _
    rw [esOf_at r]
theorem forest_nodup {rs : List (Str × Str)} (f : Forest rs) : rs.Nodup := by
  rw [List.nodup_iff_pairwise_ne, List.pairwise_iff_getElem]
  intro i j hi hj hij e
  have h1 := plOf_of f hi
  have h2 := plOf_of f hj
  rw [e, h2] at h1
  have := Option.some.inj h1
  omega
/-- an evening of the law: its roads' tuples, in some order -/
structure ClAt (a : Addr) (H : Hp) (c : Addr) (cq : List Addr) (rs es : List (Str × Str)) : Prop where
  h : H c = some (.lst (cq.map V.ref))
  n : c ≠ a
  pr : Paired (TupP H) cq es
  perm : es.Perm rs
theorem ClAt.kept {a : Addr} {H H' : Hp} {c : Addr} {cq : List Addr} {rs es : List (Str × Str)} {n : Nat} (v : ClAt a H c cq rs es) (s : Spr H a n) (k : Kept a H H') : ClAt a H' c cq rs es := ⟨k _ _ v.n v.h, v.n, TupP.kept v.pr s k, v.perm⟩
theorem ClAt.at_ {a : Addr} {H : Hp} {c : Addr} {cq : List Addr} {rs es : List (Str × Str)} (v : ClAt a H c cq rs es) (f : Forest rs) : AtPl rs (jsOf rs es) es ∧ (jsOf rs es).Nodup ∧ (jsOf rs es).length = rs.length := by
  have hin : ∀ e ∈ es, e ∈ rs := fun e he => v.perm.mem_iff.mp he
  exact ⟨jsOf_at hin, jsOf_nodup hin (v.perm.nodup_iff.mpr (forest_nodup f)), by unfold jsOf; rw [List.length_map, v.perm.length_eq]⟩
theorem ClAt.ends {a : Addr} {H : Hp} {c : Addr} {cq : List Addr} {ss : List Str} {rs es : List (Str × Str)} (v : ClAt a H c cq rs es) (h : EndsIn ss rs) : EndsIn ss es := fun r hr => h r (v.perm.mem_iff.mp hr)
theorem Cut.drop {es : List (Str × Str)} (m : Nat) (h : Cut es) : Cut (es.drop m) := by
  refine ⟨h.1.sublist (List.drop_sublist m es), fun e he => ?_⟩
  obtain ⟨c, h1, h2⟩ := h.2 e (List.mem_of_mem_drop he)
  exact ⟨c, h1, fun e' he' => h2 e' (List.mem_of_mem_drop he')⟩
/-- the law's own list, as it is handed -/
theorem ClAt.ev {a : Addr} {H : Hp} {c : Addr} {cq : List Addr} {rs es : List (Str × Str)} (v : ClAt a H c cq rs es) (f : Forest rs) (l : rs.length ≤ 1000) : EvV H rs (.ref c) (jsOf rs es) := by
  obtain ⟨at_, nd, len⟩ := v.at_ f
  have go : ∀ {cq : List Addr} {es : List (Str × Str)} {js : List Nat}, Paired (TupP H) cq es → AtPl rs js es → Paired (RoadV H rs) (cq.map V.ref) js := by
    intro cq es js h1
    induction h1 generalizing js with
    | nil => intro h2; cases h2; exact .nil
    | cons a _ ih =>
      intro h2
      cases h2 with
      | cons b r =>
        obtain ⟨hj, rfl⟩ := List.getElem?_eq_some_iff.mp b
        exact .cons ⟨_, _, ⟨_, rfl, .inr a⟩, plOf_of f hj⟩ (ih r)
  have lc : cq.length = rs.length := by rw [v.pr.length, v.perm.length_eq]
  exact ⟨⟨_, ⟨c, rfl, .inl v.h⟩, by rw [List.length_map]; omega, go v.pr at_, nd⟩, len⟩
end K1
end
-- WLaw3
section
set_option Elab.async false
set_option linter.all false
set_option maxRecDepth 100000
set_option maxHeartbeats 1000000
namespace K1
open PySem PySem.Spec PyProof.Rows L2 W0
abbrev sVF : Stmt := top 50
def spVF : Sp := fun vs H Q _ => ∃ (a : Addr) (m wd n : Nat), vs = [.ref a, .int (m : Int), .int (wd : Int)] ∧ Spr H a n ∧ n + 5000 ≤ 1000000 ∧ 1 ≤ m ∧ m ≤ 60 ∧ 1 ≤ wd ∧ wd ≤ 1000000000000000 ∧
  ∀ (t p1 p2 p3 : Addr) (qs : List Addr) (ss : List Str) (rs : List (Str × Str)) (ns : List Int) (H' : Hp), Kept a H H' → Spr H' a (n + 1000) → VAt a H' t p1 p2 p3 qs ss rs ns → VOk ss rs ns → (∀ z ∈ ns, z ≤ (wd : Int)) → ss.length = m → Q (.ref t) H'
theorem scVF : FnScope ["spring", "many", "wide", "names", "way", "roads", "rank", "far", "mate", "name"] ["spring", "many", "wide"] (defScope sVF) := ⟨rfl, rfl, rfl, by decide +kernel, rfl, by decide +kernel, by decide +kernel⟩
theorem at5 {i : Nat} {s : Int} (h0 : 0 ≤ s) (h1 : s < 5) : ∃ x : Int, atI [V.int (1 + (i : Int)), V.int 1, V.int (1 + (i : Int)), V.int (if (2 : Int) < 1 + (i : Int) then 2 else 1 + (i : Int)), V.int (1 + (i : Int))] s = some (.int x) ∧ 1 ≤ x ∧ x ≤ 1 + (i : Int) := by
  have : s = 0 ∨ s = 1 ∨ s = 2 ∨ s = 3 ∨ s = 4 := by omega
  rcases this with rfl | rfl | rfl | rfl | rfl
  · exact ⟨_, rfl, by omega, by omega⟩
  · exact ⟨_, rfl, by omega, by omega⟩
  · exact ⟨_, rfl, by omega, by omega⟩
  · refine ⟨_, rfl, ?_, ?_⟩ <;> split <;> omega
  · exact ⟨_, rfl, by omega, by omega⟩
theorem at_str {ss : List Str} {x : Int} {j : Nat} (e : x = (j : Int)) (hj : j < ss.length) : atI (ss.map V.str) x = some (.str ss[j]) := by
  rw [e]
  exact atI_nat (by rw [List.getElem?_map, List.getElem?_eq_getElem hj]; rfl)
theorem mate1 {K : PySem.W.Frag} {σ : L2.St} {H : Hp} {Q : VK} {ss : List Str} {way far : Int} {i : Nat} {p : Addr} (h3 : σ[3]? = some (some (.ref p))) (h4 : σ[4]? = some (some (.int way))) (h6 : σ[6]? = some (some (.int (1 + (i : Int))))) (h7 : σ[7]? = some (some (.int far)))
    (hp : H p = some (.lst (ss.map V.str))) (f0 : 0 ≤ far) (f1 : far ≤ (i : Int)) (hi : i < ss.length) (q : ∀ j (hj : j < ss.length), j ≤ i → Q (.str ss[j]) H) :
    tIf (tTest (tOp rEq (tVar 4) (tC (V.int 1)))) (tOp (rIxL K) (tVar 3) (tC (V.int 0))) (tIf (tTest (tOp rEq (tVar 4) (tC (V.int 3)))) (tOp (rIxL K) (tVar 3) (tOp (rI0 fun i j => V.int (i - j)) (tOp (rI0 fun i j => V.int (i - j)) (tVar 6) (tC (V.int 1))) (tVar 7))) (tOp (rIxL K) (tVar 3) (tVar 7))) σ H Q := by
  refine ⟨_, h4, rfl, _, rfl, ?_⟩
  refine ite2 (fun _ => ?_) (fun _ => ?_)
  · exact ⟨_, h3, p, _, 0, _, rfl, rfl, SqL.of hp, at_str (j := 0) rfl (by omega), q 0 (by omega) (by omega)⟩
  · refine ⟨_, h4, rfl, _, rfl, ?_⟩
    refine ite2 (fun _ => ?_) (fun _ => ?_)
    · have hj : (1 + (i : Int) - 1 - far).toNat < ss.length := by omega
      exact ⟨_, h3, _, h6, _, _, rfl, rfl, _, h7, _, _, rfl, rfl, p, _, _, _, rfl, rfl, SqL.of hp, at_str (j := (1 + (i : Int) - 1 - far).toNat) (by omega) hj, q _ hj (by omega)⟩
    · have hj : far.toNat < ss.length := by omega
      exact ⟨_, h3, _, h7, p, _, _, _, rfl, rfl, SqL.of hp, at_str (j := far.toNat) (by omega) hj, q _ hj (by omega)⟩
theorem mate2 {K : PySem.W.Frag} {σ : L2.St} {H : Hp} {Q : VK} {ss : List Str} {way : Int} {i j0 : Nat} {p : Addr} (hj0 : j0 < ss.length) (l0 : j0 ≤ i) (h3 : σ[3]? = some (some (.ref p))) (h4 : σ[4]? = some (some (.int way))) (h6 : σ[6]? = some (some (.int (1 + (i : Int))))) (h8 : σ[8]? = some (some (.str ss[j0])))
    (hp : H p = some (.lst (ss.map V.str))) (hi : i < ss.length) (q : ∀ j (hj : j < ss.length), j ≤ i → Q (.str ss[j]) H) :
    tIf (tTest (tOp rEq (tVar 4) (tC (V.int 2)))) (tOp (rIxL K) (tVar 3) (tOp (rI0 fun i j => V.int (i - j)) (tVar 6) (tC (V.int 1)))) (tVar 8) σ H Q := by
  refine ⟨_, h4, rfl, _, rfl, ?_⟩
  refine ite2 (fun _ => ?_) (fun _ => ?_)
  · exact ⟨_, h3, _, h6, _, _, rfl, rfl, p, _, _, _, rfl, rfl, SqL.of hp, at_str (j := i) (by omega) hi, q i hi (Nat.le_refl _)⟩
  · exact ⟨_, h8, q j0 hj0 l0⟩
section
variable {P : Program} {w : World} {K : PySem.W.Frag} {mg : Str → Option Value} {base : Heap} {fD fM fN : Addr} {fdD fdM fdN : FuncData}
theorem ok_VF {f : Addr} {fd : FuncData} (F : Fun K "_law_v_form" "_law_v_form" sVF f fd) (B : Bl mg) (mr : mg "range" = none) (mn : mg "min" = none)
    (G : FnOk P w K mg base CX0 1 fD fdD ["spring", "many"] spDraw) (b : Binds K fdD ["spring", "many"] []) (k : PySem.W.keepIn K (.ref fD) = true) (m : mg "_law_draw" = some (.ref fD))
    (GM : FnOk P w K mg base CX0 2 fM fdM ["spring", "some"] spMixed) (bM : Binds K fdM ["spring", "some"] []) (kM : PySem.W.keepIn K (.ref fM) = true) (mM : mg "_law_mixed" = some (.ref fM))
    (GN : FnOk P w K mg base CX0 3 fN fdN ["spring", "many"] spVN) (bN : Binds K fdN ["spring", "many"] []) (kN : PySem.W.keepIn K (.ref fN) = true) (mN : mg "_law_v_names" = some (.ref fN)) :
    FnOk P w K mg base CX0 4 f fd ["spring", "many", "wide"] spVF := by
  refine F.ok scVF (fun vs H Q E h => ?_) (fun cdv A outer s H vs Q E hr h => ?_)
  · obtain ⟨a, m, wd, n, rfl, _⟩ := h
    rfl
  obtain ⟨a, mm, wd, n, rfl, hs, hn, hm1, hm, hw1, hw, q⟩ := h
  have nd := scVF.nd
  have hr1 : Room 1 _ := hr.mono (by decide)
  have hr2 : Room 2 _ := hr.mono (by decide)
  refine ⟨_, (pss_cons (by exact (ps_par (i := 3) (j := 4) rfl nd rfl rfl (by decide) rfl rfl (pa_cons (pe_call GN hr rfl mN kN bN .nil pass0 (pa_cons (pv 0) (pa_cons (pv 1) pa_nil))) (pa_cons (pe_call G hr1 rfl m k b .nil pass0 (pa_cons (pv 0) (pa_cons pe_int pa_nil))) pa_nil)) (by rfl)))
  (pss_cons (by exact (ps_set (i := 5) nd rfl (.inl rfl) (pe_lst pa_nil)))
  (pss_cons (by exact (ps_for PassesOwn.never rfl (by exact pi_range2 rfl mr (pa_cons pe_int (pa_cons (pv 1) pa_nil))) (pg_name (i := 6) nd rfl (.inl rfl)) (pss_cons (by exact (ps_set (i := 7) nd rfl (.inl rfl) (pe_call G hr1 rfl m k b .nil pass0 (pa_cons (pv 0) (pa_cons (pe_ix ix_list (pe_lst (pa_cons (pv 6) (pa_cons pe_int (pa_cons (pv 6) (pa_cons (pe_callB (call_min2 rfl) rfl mn (by decide +kernel) (pa_cons (pv 6) (pa_cons pe_int pa_nil))) (pa_cons (pv 6) pa_nil)))))) (pv 4) (fun _ _ => rfl)) pa_nil)))))
  (pss_cons (by exact (ps_set (i := 8) nd rfl (.inl rfl) (pe_ifExp (pt_cmpR op_eq (pv 4) pe_int (nomark _)) (pe_ix ix_list (pv 3) pe_int (fun _ _ => rfl)) (pe_ifExp (pt_cmpR op_eq (pv 4) pe_int (nomark _)) (pe_ix ix_list (pv 3) (pe_op op_sub (pe_op op_sub (pv 6) pe_int) (pv 7)) (fun _ _ => rfl)) (pe_ix ix_list (pv 3) (pv 7) (fun _ _ => rfl))))))
  (pss_cons (by exact (ps_set (i := 8) nd rfl (.inl rfl) (pe_ifExp (pt_cmpR op_eq (pv 4) pe_int (nomark _)) (pe_ix ix_list (pv 3) (pe_op op_sub (pv 6) pe_int) (fun _ _ => rfl)) (pv 8))))
  (pss_one (by exact (ps_expr (pe_bm PySem.F.plainAttrs_list PySem.F.slot_list_append PySem.F.type_list_append mt_append (pv 5) (pa_cons (pe_ifExp (pt_cmpR op_eq (pe_call G hr1 rfl m k b .nil pass0 (pa_cons (pv 0) (pa_cons pe_int pa_nil))) pe_int (nomark _)) (pe_tup (pa_cons (pe_ix ix_list (pv 3) (pv 6) (fun _ _ => rfl)) (pa_cons (pv 8) pa_nil))) (pe_tup (pa_cons (pv 8) (pa_cons (pe_ix ix_list (pv 3) (pv 6) (fun _ _ => rfl)) pa_nil)))) pa_nil))))))))))
  (pss_one (by exact (ps_ret (pe_lst (pa_cons (pe_call GM hr2 rfl mM kM bM .nil pass0 (pa_cons (pv 0) (pa_cons (pv 3) pa_nil))) (pa_cons (pe_call GM hr2 rfl mM kM bM .nil pass0 (pa_cons (pv 0) (pa_cons (pv 5) pa_nil))) (pa_cons (pe_lc (own := [("name", 9)]) (g := gName 9) (tt := tYes) (te := _) rfl nd (by exact pi_list (pv 3)) (by exact blkOk_by (N := ["spring", "many", "wide", "names", "way", "roads", "rank", "far", "mate", "name"]) (sc := defScope sVF) (by decide +kernel)) (fun _ _ _ _ _ => by exact (pg_name (i := 9) nd rfl (.inl rfl))) (fun _ _ _ _ _ => by exact pts_nil) (fun _ _ _ _ _ => by exact (pe_op op_add pe_int (pe_call G hr1 rfl m k b .nil pass0 (pa_cons (pv 0) (pa_cons (pv 2) pa_nil)))))) pa_nil)))))))))), ?_⟩
  refine ⟨_, rfl, _, rfl, a, mm, n, rfl, hs, by omega, hm1, hm, fun p ss0 H1 p0 pa k1 s1 hp ⟨good, nob⟩ g1 => ?_⟩
  refine ⟨_, rfl, a, 5, _, rfl, s1, by omega, by decide, by decide, fun way H2 w0 w1 k2 s2 => ?_⟩
  have k13 := k2
  have s3 := s2
  have hp3 := k2 _ _ pa hp
  refine ⟨_, _, rfl, ?_⟩
  refine ⟨Nat.zero_le _, fun L hL => ?_⟩
  refine K1.gN ?_
  have La := s3.ne hL
  have pL := ne_of_none hp3 hL
  have k03 := k1.trans k13
  have LH := fr_kept k03 hL La
  refine ⟨_, rfl, _, _, rfl, ⟨by decide, by decide, by omega, by omega⟩, ?_⟩
  have hN : (((mm : Nat) : Int) - 1).toNat = mm - 1 := by omega
  rw [hN]
  refine for_range (lo := 1) (n := mm - 1) (fun i σ Hc => (∃ x6 x7 x8, σ = [some (.ref a), some (.int (mm : Int)), some (.int (wd : Int)), some (.ref p), some (.int way), some (.ref L), x6, x7, x8, none]) ∧ Kept a H2 Hc ∧ Spr Hc a (n + 61 + 3 * i) ∧ Hc p = some (.lst (ss0.map V.str)) ∧ ∃ qs rs, Hc L = some (.lst (qs.map V.ref)) ∧ Paired (TupP Hc) qs rs ∧ Cut rs ∧ EndsIn (ss0.take (i + 1)) rs ∧ rs.length = i) ?_ ?_ ?_
  · exact ⟨⟨_, _, _, rfl⟩, Kept.new hL, (s3.upd La).mono (by omega), by rw [upd_ne pL]; exact hp3, [], [], upd_same, .nil, Cut.nil, fun r hr => absurd hr (by simp), rfl⟩
  · rintro i σ Hc hi ⟨⟨x6, x7, x8, rfl⟩, c1, sc, cp, qs, rs, gL, pr, cut, ends, lrs⟩
    have i59 : i < 60 := by omega
    have hik : i + 1 < ss0.length := by omega
    have hi0 : i < ss0.length := by omega
    refine K1.gN ?_
    refine ⟨_, rfl, ?_⟩
    dsimp only
    refine cons_run ⟨_, rfl, _, rfl, _, rfl, _, _, rfl, _, rfl, (by show 5 ≤ sizeLine; decide), fun l4 hl4 => ?_⟩
    obtain ⟨x5, e5, p5, o5⟩ := at5 (i := i) w0 w1
    have l4a := sc.ne hl4
    have hL4 : Kept a Hc (L2.upd Hc l4 (.lst [V.int (1 + (i : Int)), V.int 1, V.int (1 + (i : Int)), V.int (if (2 : Int) < 1 + (i : Int) then 2 else 1 + (i : Int)), V.int (1 + (i : Int))])) := Kept.new hl4
    have sc4 : Spr (L2.upd Hc l4 (.lst [V.int (1 + (i : Int)), V.int 1, V.int (1 + (i : Int)), V.int (if (2 : Int) < 1 + (i : Int) then 2 else 1 + (i : Int)), V.int (1 + (i : Int))])) a (n + 61 + 3 * i) := sc.upd l4a
    refine ⟨_, rfl, l4, _, way, _, rfl, rfl, SqL.of upd_same, e5, ?_⟩
    generalize L2.upd Hc l4 (.lst [V.int (1 + (i : Int)), V.int 1, V.int (1 + (i : Int)), V.int (if (2 : Int) < 1 + (i : Int) then 2 else 1 + (i : Int)), V.int (1 + (i : Int))]) = H4 at hL4 sc4 ⊢
    refine ⟨a, x5, _, rfl, sc4, by omega, by omega, Nat.lt_of_le_of_lt (show x5.natAbs ≤ 100 by omega) (by decide), fun far H5 f0 f1 k5 s5 => ?_⟩
    refine K1.gN ?_
    have k45 := hL4.trans k5
    have hp5 := k45 _ _ pa cp
    refine mate1 (ss := ss0) (way := way) (far := far) (i := i) (p := p) rfl rfl rfl rfl hp5 f0 (by omega) hi0 fun j1 hj1 lj1 => ?_
    refine K1.gN ?_
    refine mate2 (ss := ss0) (way := way) (i := i) (j0 := j1) (p := p) hj1 lj1 rfl rfl rfl rfl hp5 hi0 fun j hj lj => ?_
    refine K1.gN ?_
    have gL5 := k45 _ _ La gL
    refine ⟨_, rfl, .inl ⟨rfl, _, SqL.of gL5⟩, ?_⟩
    dsimp only
    refine cons_run ⟨_, rfl, a, 2, _, rfl, s5, by omega, by decide, by decide, fun d6 H6 d60 d61 k6 s6 => ⟨rfl, _, rfl, ?_⟩⟩
    have k46 := k45.trans k6
    have hp6 := k46 _ _ pa cp
    have gL6 := k46 _ _ La gL
    have pr6 := TupP.kept pr sc k46
    have nv : ¬ ss0[i + 1] ∈ ss0.take (i + 1) := nodup_take_not good.1 hik
    have mv : ss0[j] ∈ ss0.take (i + 1) := List.mem_take_iff_getElem.mpr ⟨j, by omega, rfl⟩
    have ends2 : ∀ r ∈ rs, r.1 ≠ ss0[i + 1] ∧ r.2 ≠ ss0[i + 1] := fun r hr => ⟨fun z => nv (by rw [← z]; exact (ends r hr).1), fun z => nv (by rw [← z]; exact (ends r hr).2)⟩
    have huv : ss0[j] ≠ ss0[i + 1] := fun z => nv (by rw [← z]; exact mv)
    have up1 : ∀ s ∈ ss0.take (i + 1), s ∈ ss0.take (i + 1 + 1) := fun s hs => (mem_take_succ hik).mpr (.inl hs)
    have lq : qs.length = rs.length := pr.length
    have ek : atI (ss0.map V.str) (1 + (i : Int)) = some (.str ss0[i + 1]) := at_str (j := i + 1) (by omega) hik
    have fin : ∀ (t : Addr) (e0 : Str × Str), (e0 = (ss0[j], ss0[i + 1]) ∨ e0 = (ss0[i + 1], ss0[j])) → H6 t = none →
        ∃ l xs y, V.ref L = .ref l ∧ [V.ref t] = [y] ∧ L2.upd H6 t (.tup [.str e0.1, .str e0.2]) l = some (.lst xs) ∧ xs.length < sizeLine ∧ ((∃ x6 x7 x8, ([some (.ref a), some (.int (mm : Int)), some (.int (wd : Int)), some (.ref p), some (.int way), some (.ref L), some (.int (1 + (i : Int))), some (.int far), some (.str ss0[j]), none] : L2.St) = [some (.ref a), some (.int (mm : Int)), some (.int (wd : Int)), some (.ref p), some (.int way), some (.ref L), x6, x7, x8, none]) ∧
          Kept a H2 (L2.upd (L2.upd H6 t (.tup [.str e0.1, .str e0.2])) l (.lst (xs ++ [y]))) ∧ Spr (L2.upd (L2.upd H6 t (.tup [.str e0.1, .str e0.2])) l (.lst (xs ++ [y]))) a (n + 61 + 3 * (i + 1)) ∧ L2.upd (L2.upd H6 t (.tup [.str e0.1, .str e0.2])) l (.lst (xs ++ [y])) p = some (.lst (ss0.map V.str)) ∧
          ∃ qs rs, L2.upd (L2.upd H6 t (.tup [.str e0.1, .str e0.2])) l (.lst (xs ++ [y])) L = some (.lst (qs.map V.ref)) ∧ Paired (TupP (L2.upd (L2.upd H6 t (.tup [.str e0.1, .str e0.2])) l (.lst (xs ++ [y])))) qs rs ∧ Cut rs ∧ EndsIn (ss0.take (i + 1 + 1)) rs ∧ rs.length = i + 1) := by
      intro t e0 he ht
      have ta := s6.ne ht
      have tL : t ≠ L := (ne_of_none gL6 ht).symm
      have e7 := K1.Same.upd (H := H6) (p := t) (o := .tup [.str e0.1, .str e0.2]) ht
      have g7 := upd_same' H6 t (.tup [.str e0.1, .str e0.2])
      have s7 := s6.upd (o := .tup [.str e0.1, .str e0.2]) ta
      generalize L2.upd H6 t (.tup [.str e0.1, .str e0.2]) = H7 at e7 g7 s7 ⊢
      have gL7 := e7 _ _ gL6
      have pr7 := TupP.ext pr6 e7
      have kx : Kept a H2 H7 := c1.trans (k46.trans (Kept.same e7))
      have keepT : ∀ q r, TupP H7 q r → TupP (L2.upd H7 L (.lst (qs.map V.ref ++ [.ref t]))) q r := fun q r e => by
        have ne : q ≠ L := fun z => by
          have e' : H7 q = _ := e
          rw [z, gL7] at e'
          cases e'
        show L2.upd H7 L _ q = _
        rw [upd_ne ne]
        exact e
      refine ⟨L, _, _, rfl, rfl, gL7, by rw [List.length_map]; exact small1000 (by omega), ⟨_, _, _, rfl⟩, fun b o nb e => ?_, (s7.upd La).mono (by omega), by rw [upd_ne pL]; exact e7 _ _ hp6, qs ++ [t], rs ++ [e0], ?_, ?_, cut.add ends2 huv he, fun r hr => ?_, by rw [List.length_append, lrs]; rfl⟩
      · rw [upd_ne (ne_of_none e hL)]
        exact kx b o nb e
      · rw [upd_same, List.map_append]
        rfl
      · exact paired_snoc (paired_imp (fun _ _ q => keepT _ _ q) pr7) (keepT _ _ g7)
      · rcases List.mem_append.mp hr with hr | hr
        · exact ⟨up1 _ (ends r hr).1, up1 _ (ends r hr).2⟩
        · rw [List.mem_singleton.mp hr]
          have m2 : ss0[i + 1] ∈ ss0.take (i + 1 + 1) := (mem_take_succ hik).mpr (.inr rfl)
          rcases he with rfl | rfl
          · exact ⟨up1 _ mv, m2⟩
          · exact ⟨m2, up1 _ mv⟩
    refine ite2 (fun cc => ?_) (fun cc => ?_)
    · exact ⟨_, rfl, _, rfl, p, _, _, _, rfl, rfl, SqL.of hp6, ek, _, rfl, (by show 2 ≤ sizeLine; decide), fun t ht => fin t (ss0[i + 1], ss0[j]) (.inr rfl) ht⟩
    · exact ⟨_, rfl, _, rfl, _, rfl, p, _, _, _, rfl, rfl, SqL.of hp6, ek, (by show 2 ≤ sizeLine; decide), fun t ht => fin t (ss0[j], ss0[i + 1]) (.inl rfl) ht⟩
  · rintro σ Hc ⟨⟨x6, x7, x8, rfl⟩, c1, sc, cp, qs, rs, gL, pr, cut, ends, lrs⟩
    have l0 : rs.length + 1 = mm := by omega
    have take0 : EndsIn ss0 rs := fun r hr => ⟨List.mem_of_mem_take (ends r hr).1, List.mem_of_mem_take (ends r hr).2⟩
    have lq : qs.length = rs.length := pr.length
    have k0c : Kept a H Hc := k03.trans c1
    refine ⟨_, rfl, _, rfl, a, p, ss0.map V.str, _, rfl, sc, by omega, cp, pa, by rw [List.length_map]; omega, fun r1 ys H4 pm rn1 ra1 hr1' k4 s4 => ?_⟩
    rw [List.length_map] at s4
    obtain ⟨ss, rfl, ps⟩ := perm_str pm
    have lss := ps.length_eq
    have cp4 := k4 _ _ pa cp
    have gL4 := k4 _ _ La gL
    dsimp only
    refine cons_run ⟨_, rfl, _, rfl, a, L, qs.map V.ref, _, rfl, s4, by omega, gL4, La, by rw [List.length_map]; omega, fun r2 ys2 H5 pm2 rn2 ra2 hr2' k5 s5 => ?_⟩
    rw [List.length_map] at s5
    obtain ⟨qs', rs', rfl, pq', prs', pr5⟩ := paired_perm (TupP.kept pr sc (k4.trans k5)) pm2
    have lrs' := prs'.length_eq
    have cp5 := k5 _ _ pa cp4
    have g15 := k5 _ _ ra1 hr1'
    refine cons_run ⟨_, rfl, p, rfl, ⟨_, SqL.of cp5⟩, fun D hD => ?_⟩
    have Da := s5.ne hD
    refine lc_it (Qd := _) walk_list (fun i Hd => Kept a H5 Hd ∧ Spr Hd a (n + 400 + i) ∧ ∃ ns : List Int, Hd D = some (.lst (ns.map V.int)) ∧ ns.length = i ∧ ∀ z ∈ ns, 1 ≤ z ∧ z ≤ (wd : Int)) ⟨Kept.new hD, (s5.upd Da).mono (by omega), [], upd_same, rfl, fun z hz => absurd hz (by simp)⟩ (fun i Hd _ h => SqL.of (h.1 _ _ pa cp5)) ?_ ?_
    · rintro i y Hd H' hi ⟨d1, d2, ns, d3, d4, d5⟩ ⟨rfl, hy⟩
      rw [List.length_map] at hi
      refine ⟨rfl, ?_⟩
      unfold tYes
      refine iteT ?_
      refine ⟨_, rfl, _, rfl, a, (wd : Int), _, rfl, d2, by omega, by omega, Nat.lt_of_le_of_lt (show (wd : Int).natAbs ≤ 1000000000000000 by omega) (by decide), fun d H6 e0 e1 k6 s6 => ?_⟩
      have d3' := k6 _ _ Da d3
      refine ⟨_, _, rfl, rfl, _, d3', by rw [List.length_map]; exact small1000 (by omega), fun b o nb e => ?_, (s6.upd Da).mono (by omega), ns ++ [1 + d], by rw [upd_same, List.map_append]; rfl, by rw [List.length_append, d4]; rfl, fun z hz => ?_⟩
      · rw [upd_ne (ne_of_none e hD)]
        exact k6 b o nb (d1 b o nb e)
      · rcases List.mem_append.mp hz with hz | hz
        · exact d5 z hz
        · rw [List.mem_singleton.mp hz]
          omega
    · rintro Hd ⟨d1, d2, ns, d3, d4, d5⟩
      rw [List.length_map] at d4
      refine ⟨(by show 3 ≤ sizeLine; decide), fun t ht => ?_⟩
      have ta := d2.ne ht
      have kk : Kept a Hd (L2.upd Hd t (.lst [.ref r1, .ref r2, .ref D])) := Kept.new ht
      refine q t r1 r2 D qs' ss rs' ns _ (k0c.trans (k4.trans (k5.trans (d1.trans kk)))) ((d2.upd ta).mono (by rw [List.length_map]; omega))
        ⟨upd_same, kk _ _ ra1 (d1 _ _ ra1 g15), kk _ _ ra2 (d1 _ _ ra2 hr2'), TupP.kept pr5 s5 (d1.trans kk), kk _ _ Da d3, ta, ra1, ra2, Da⟩
        ⟨good.perm ps, by omega, by omega, cut.perm prs', fun r hr => ⟨ps.mem_iff.mpr (take0 r (prs'.mem_iff.mp hr)).1, ps.mem_iff.mpr (take0 r (prs'.mem_iff.mp hr)).2⟩, by omega, by omega, fun z hz => (d5 z hz).1, nob.perm ps⟩ (fun z hz => (d5 z hz).2) (by omega)
end
end K1
end
-- WItT
section
set_option Elab.async false
set_option linter.all false
set_option maxRecDepth 100000
set_option maxHeartbeats 2000000
/-! list(d.items()) of a dict keyed by tuples, or by ints and texts -/
namespace WIt
open PySem PySem.W PySem.Calls PyProof.Rows PyProof.V PySem.Spec DT
section
variable {prog : Program} {w : World} {A : Around} {E : Value → Shared → Prop} {s : Shared} {r d : Addr} {es : Array DictEntry} {ep : Nat}
theorem init_items {R : Result → Shared → Prop} (hh : A.handled = none) (hv : s.heap.IsItemsView r d) (hm : Raw s.heap d es ep) (S : Addr) (hSr : S ≠ r) (hSd : d ≠ S) (hS : s.heap.get? S = some { cls := .type "list", data := .seq #[] })
    (hR : ∀ h' tk acc c as, (∀ b o, b ≠ S → s.heap.get? b = some o → h'.get? b = some o) → h'.get? S = some { cls := .type "list", dict := none, data := .seq acc c, slots := #[] } → as.length = es.size → Made es S h' as →
      acc.toList = as.map Value.ref → R (.ok (.ret .none)) { s with heap := h', toks := tk }) (hn : es.size ≤ sizeLine) :
    wpAny (model prog w) A.in1 (Builtin.«list.__init__» ⟨[.ref S, .ref r], []⟩)
      (fun fin s' => match fin with | .done f => R (.ok f) s' | .again c' => c'.quiet = true ∧ codeAny (model prog w) A c' R s') (fun e s' => R (.error e) s') s := by
  show wpAny _ _ (do let before ← Builtin.List.listItems (.ref S); Builtin.List.listUpdate (.ref S) (fun _ => #[]); letGo before.toList.reverse; Builtin.List.listExtendWith (.ref S) (.ref r) .none) _ _ s
  refine wpAny_bind ?_
  unfold Builtin.List.listItems
  refine wpAny_bind (wpAny_seqItems hS rfl (wpAny_pure ?_))
  show wpAny _ _ (updateSeq S (fun _ => #[]) >>= fun _ => letGo (#[] : Array Value).toList.reverse >>= fun _ => Builtin.List.listExtendWith (.ref S) (.ref r) .none) _ _ s
  refine wpAny_bind (wpAny_updateSeq hS rfl ?_)
  have g2 := Heap.get?_update_self (Obj.mapSeq (fun _ => (#[] : Array Value))) hS rfl
  have ot : ∀ b o, b ≠ S → s.heap.get? b = some o → (s.heap.update S (Obj.mapSeq (fun _ => (#[] : Array Value)))).get? b = some o := fun b o n e => (Heap.get?_update_other _ _ (Ne.symm n)).trans e
  refine wpAny_bind (wpAny_letGo ?_)
  refine extI (es := es) (ep := ep) hh (let ⟨o, ho, x⟩ := hv; ⟨o, ot r o hSr.symm ho, x⟩) (hm.at' fun o e => ot d o hSd e) S hSr hSd .none _ g2 (fun h' tk acc c as hk g3 hl hG hacc => ?_) hn
  exact hR h' tk acc c as (fun b o n e => hk b o n (ot b o n e)) g3 hl (hG.low (Nat.le_of_lt (Heap.lt_size g2))) hacc
theorem call_items {Q : Value → Shared → Prop} (hh : A.handled = none) (hv : s.heap.IsItemsView r d) (hm : Raw s.heap d es ep) (hn : es.size ≤ sizeLine)
    (hQ : ∀ h' tk acc c as, (∀ b o, s.heap.get? b = some o → h'.get? b = some o) → h'.get? s.heap.objs.size = some { cls := .type "list", dict := none, data := .seq acc c, slots := #[] } → as.length = es.size → Made es s.heap.objs.size h' as →
      acc.toList = as.map Value.ref → Q (.ref s.heap.objs.size) { s with heap := h', toks := tk }) :
    wpAny (model prog w) A (call (.type "list") [.ref r]) Q E s := by
  refine callType_codes (Q₁ := fun obj s₁ => obj = .ref s.heap.objs.size ∧ s₁ = { s with heap := s.heap.push { cls := .type "list", data := .seq #[] } }) PySem.F.called_list (PySem.F.typeCall_list_1 _) PySem.F.entry_list_init
    (code_list_new _ ⟨rfl, rfl⟩) fun obj s₁ h₁ => ?_
  obtain ⟨rfl, rfl⟩ := h₁
  have gS : (s.heap.push { cls := .type "list", data := .seq #[] }).get? s.heap.objs.size = some { cls := .type "list", data := .seq #[] } := Heap.get?_push_size _ rfl
  have lr : r < s.heap.objs.size := let ⟨_, ho, _⟩ := hv; Heap.lt_size ho
  have ld : d < s.heap.objs.size := hm.lt
  refine ⟨⟨_, gS, rfl⟩, PySem.F.args_list_init_2 _ _, init_items (es := es) (ep := ep) (A := A.in1) hh (let ⟨o, ho, x⟩ := hv; ⟨o, Heap.get?_push_of_some _ ho, x⟩) (hm.push _) _ (Nat.ne_of_gt lr) (Nat.ne_of_lt ld) gS (fun h' tk acc c as hk g3 hl hG hacc => ?_) hn⟩
  exact ⟨rfl, hQ h' tk acc c as (fun b o e => hk b o (Nat.ne_of_lt (Heap.lt_size e)) (Heap.get?_push_of_some _ e)) g3 hl hG hacc⟩
end
open L2 LiI
/-- the pairs tracked at their addresses -/
def putP : Hp → List Addr → List (V × V) → Hp
  | H, a :: as, p :: ps => putP (L2.upd H a (.tup [p.1, p.2])) as ps
  | H, _, _ => H
theorem putP_off {b : Addr} : ∀ (as : List Addr) (ps : List (V × V)) (H : Hp), b ∉ as → putP H as ps b = H b
  | [], _, _, _ => rfl
  | _ :: _, [], _, _ => rfl
  | a :: as, p :: ps, H, h => by
    show putP (L2.upd H a (.tup [p.1, p.2])) as ps b = H b
    rw [putP_off as ps _ (fun z => h (List.mem_cons_of_mem _ z)), upd_ne (fun z => h (by rw [z]; exact List.mem_cons_self))]
theorem putP_at : ∀ (as : List Addr) (ps : List (V × V)) (H : Hp), as.length = ps.length → as.Nodup → Paired (fun (t : Addr) (p : V × V) => putP H as ps t = some (.tup [p.1, p.2])) as ps
  | [], [], _, _, _ => .nil
  | [], _ :: _, _, h, _ => by cases h
  | _ :: _, [], _, h, _ => by cases h
  | a :: as, p :: ps, H, h, hn => by
    have hn' := List.nodup_cons.mp hn
    refine .cons ?_ (putP_at as ps (L2.upd H a (.tup [p.1, p.2])) (Nat.succ.inj h) hn'.2)
    show putP (L2.upd H a (.tup [p.1, p.2])) as ps a = some (.tup [p.1, p.2])
    rw [putP_off as ps _ hn'.1, upd_same]
/-- what the dict's keys and values are, as tracked -/
theorem dT_pairs {H : Hp} : ∀ {kvs : List (List L2.Key × V)} {xs : List (List L2.Key × Addr × Value)}, Paired (fun (p : List L2.Key × V) (q : List L2.Key × Addr × Value) => p.1 = q.1 ∧ H q.2.1 = some (.tup (p.1.map kV)) ∧ RelV p.2 q.2.2) kvs xs →
    ∃ ps : List (V × V), ps.length = xs.length ∧ Paired (fun (p : V × V) (q : List L2.Key × V) => ∃ b, p.1 = .ref b ∧ H b = some (.tup (q.1.map kV)) ∧ p.2 = q.2) ps kvs ∧ ∀ (j : Nat) (x : List L2.Key × Addr × Value), xs[j]? = some x → ∃ p, ps[j]? = some p ∧ RelV p.1 (.ref x.2.1) ∧ RelV p.2 x.2.2
  | _, _, .nil => ⟨[], rfl, .nil, fun j x e => by simp at e⟩
  | _, _, .cons (a := q) (b := x) h t => by
    obtain ⟨ps, l, pr, f⟩ := dT_pairs t
    refine ⟨(.ref x.2.1, q.2) :: ps, by simp [l], .cons ⟨_, rfl, h.2.1, rfl⟩ pr, fun j y e => ?_⟩
    cases j with
    | zero =>
      obtain rfl := Option.some.inj e
      exact ⟨_, rfl, rfl, h.2.2⟩
    | succ j =>
      obtain ⟨p, e1, e2⟩ := f j y (by simpa using e)
      exact ⟨p, by simpa using e1, e2⟩
def rItemsT2 : V → Hp → VK → Prop := fun x H Q => ∃ (d : Addr) (kvs : List (List L2.Key × V)), x = .ref d ∧ H d = some (.dT kvs) ∧
  ∀ (H' : Hp) (p : Addr) (ts : List Addr) (ps : List (V × V)), (∀ b o, H b = some o → H' b = some o) → H p = none → (∀ t ∈ ts, H t = none) → p ∉ ts → H' p = some (.lst (ts.map V.ref)) → Paired (fun (t : Addr) (q : V × V) => H' t = some (.tup [q.1, q.2])) ts ps →
    Paired (fun (p : V × V) (q : List L2.Key × V) => ∃ b, p.1 = .ref b ∧ H b = some (.tup (q.1.map kV)) ∧ p.2 = q.2) ps kvs → Q (.ref p) H'
def tItemsB (te : TE) : TE := fun σ H Q => te σ H fun x H1 => rItemsL x H1 Q ∨ rItemsT2 x H1 Q
section
variable {X : Cx} {e : Expr} {te : TE} {p apos cpos pos : Pos}
theorem items_laidT {pins : List (Addr × Obj)} {σ : L2.St} {H : Hp} {s : Shared} {h' : Heap} {tk : Nat} {es : Array DictEntry} {kvs : List (List L2.Key × V)} {xs : List (List L2.Key × Addr × Value)} {knd : HeapKind X.prog X.w (List L2.Key)} {acc : Array Value} {c : Nat} {as : List Addr} (I : Inv X pins σ H s) (hz : xs.length ≤ sizeLine)
    (kv : Paired (fun (p : List L2.Key × V) (q : List L2.Key × Addr × Value) => p.1 = q.1 ∧ H q.2.1 = some (.tup (p.1.map kV)) ∧ RelV p.2 q.2.2) kvs xs) (he : es.toList = xs.map (entryOfKey knd))
    (hk : ∀ b o, s.heap.get? b = some o → h'.get? b = some o) (hS : h'.get? s.heap.objs.size = some { cls := .type "list", dict := none, data := .seq acc c, slots := #[] }) (hl : as.length = es.size) (hG : Made es s.heap.objs.size h' as) (hacc : acc.toList = as.map Value.ref) :
    ∃ (H' : Hp) (ps : List (V × V)), (∀ b o, H b = some o → H' b = some o) ∧ H s.heap.objs.size = none ∧ (∀ t ∈ as, H t = none) ∧ s.heap.objs.size ∉ as ∧ H' s.heap.objs.size = some (.lst (as.map V.ref)) ∧ Paired (fun (t : Addr) (q : V × V) => H' t = some (.tup [q.1, q.2])) as ps ∧
      Paired (fun (p : V × V) (q : List L2.Key × V) => ∃ b, p.1 = .ref b ∧ H b = some (.tup (q.1.map kV)) ∧ p.2 = q.2) ps kvs ∧ Inv X pins σ H' { s with heap := h', toks := tk } := by
  obtain ⟨ps, lp, pr, f⟩ := dT_pairs kv
  have sz := size_of_entries he
  have hSn : s.heap.objs.size ∉ as := fun z => Nat.lt_irrefl _ (hG.above _ z)
  have nd : as.Nodup := List.Pairwise.imp (fun {a b} (h : a < b) => Nat.ne_of_lt h) hG.rise
  have new : ∀ t ∈ as, H t = none := fun t ht => I.hok.fresh (Nat.le_of_lt (hG.above t ht))
  have newS : H s.heap.objs.size = none := I.hok.fresh (Nat.le_refl _)
  have atP := putP_at as ps (L2.upd H s.heap.objs.size (.lst (as.map V.ref))) (by omega) nd
  have off : ∀ b, b ∉ as → b ≠ s.heap.objs.size → putP (L2.upd H s.heap.objs.size (.lst (as.map V.ref))) as ps b = H b := fun b h1 h2 => by rw [putP_off as ps _ h1, upd_ne h2]
  have low : ∀ b o, s.heap.get? b = some o → b ∉ as ∧ b ≠ s.heap.objs.size := fun b o e => ⟨fun z => absurd (Heap.lt_size e) (Nat.not_lt.mpr (Nat.le_of_lt (hG.above b z))), Nat.ne_of_lt (Heap.lt_size e)⟩
  have kp : ∀ b u, H b = some u → (putP (L2.upd H s.heap.objs.size (.lst (as.map V.ref))) as ps) b = some u := fun b u e => by
    rw [off b (fun z => by rw [new b z] at e; cases e) (fun z => by rw [z, newS] at e; cases e)]
    exact e
  have eS : putP (L2.upd H s.heap.objs.size (.lst (as.map V.ref))) as ps s.heap.objs.size = some (.lst (as.map V.ref)) := by rw [putP_off as ps _ hSn, upd_same]
  refine ⟨putP (L2.upd H s.heap.objs.size (.lst (as.map V.ref))) as ps, ps, kp, newS, new, hSn, eS, atP, pr, ?_⟩
  refine I.call' (ch := []) rfl ⟨fun b o q _ _ _ => hk b o q, fun b o q _ _ _ => ⟨o.slots, hk b o q⟩, fun b o q n _ => ?_, fun b o q _ => ⟨o, hk b o q⟩, fun b xs q => kp b _ q, fun b o u q => kp b _ q, fun b ps q => ⟨#[], by rw [kp b _ q]; simp⟩⟩ (fun b u q => ?_) I.bare fun b z => by simp at z
  · obtain ⟨z1, z2⟩ := low b o q
    rw [off b z1 z2]
    exact n
  · by_cases hb : b ∈ as
    · obtain ⟨j, pk, e1, e2, e3⟩ := LiI.paired_ix atP hb
      rw [e3] at q
      cases q
      obtain ⟨en, f1, f3⟩ := hG.pairs j b e1
      have hx : ∃ x, xs[j]? = some x ∧ entryOfKey knd x = en := by
        rw [entry_at he j] at f1
        obtain ⟨x, y1, y2⟩ := Option.map_eq_some_iff.mp f1
        exact ⟨x, y1, y2⟩
      obtain ⟨x, y1, y2⟩ := hx
      obtain ⟨p', g1, g2, g3⟩ := f j x y1
      rw [e2] at g1
      cases g1
      subst y2
      exact ⟨by show 2 ≤ sizeLine; decide, [.ref x.2.1, x.2.2], .cons g2 (.cons g3 .nil), ⟨_, f3, rfl, _, rfl⟩⟩
    · by_cases hb2 : b = s.heap.objs.size
      · rw [hb2] at q ⊢
        rw [eS] at q
        cases q
        refine ⟨by rw [List.length_map]; omega, acc.toList, c, by rw [hacc]; exact vals_refs as, ?_⟩
        rw [Array.toArray_toList]
        exact hS
      · rw [off b hb hb2] at q
        exact (I.hok b u q).stay (fun d v _ y => hk d v y) (fun d y => kp d _ y) fun d xs y => kp d _ y
/-- list(e.items()), of a dict of either kind -/
theorem pe_listItemsB (hc : X.calm = true) (he : PE X e te) (hg : Gl X "list") (hm : X.mg "list" = none) (hv : bootBuiltins "list" = some (.type "list")) (hbase : attributeBase e "items" X.env (eval e X.env) = eval e X.env := by rfl) (hline : (apos.endLine == cpos.line) = true := by rfl)
    (hs : starEach [.Call (.Attribute e "items" apos) [] [] cpos] X.env = (false, eval (.Call (.Attribute e "items" apos) [] [] cpos) X.env) :: starEach [] X.env := by rfl) :
    PE X (.Call (.Name "list" p) [.Call (.Attribute e "items" apos) [] [] cpos] [] pos) (tItemsB te) := by
  refine ⟨fun pins s σ H Q I hq => ?_⟩
  refine wpAny_Call_Name_kw (ld_blt I hg hm hv ?_)
  refine PyProof.Rows.callWith_type1 ?_ hs rfl
  rw [hs]
  show wpAny _ _ (spliced ((false, eval (.Call (.Attribute e "items" apos) [] [] cpos) X.env) :: backTo pos (starEach [] X.env))) _ _ s
  refine Calls.spliced_cons ?_
  refine wpAny_Call_method (T := "dict") (id := "dict.items") hbase rfl hline F.plainAttrs_dict F.slot_dict_items F.type_dict_items (thn (he.run pins s σ H _ I hq) fun u s1 ⟨x, H1, I1, rx, h⟩ => ?_)
  have I2 : ∀ d, Inv X pins σ H1 { s1 with heap := s1.heap.push { cls := .type "dict_items", data := .fields #[.ref d] } } := fun d => I1.kept (t' := s1.toks) fun b ob q => Heap.get?_push_of_some _ q
  rcases h with ⟨d, kvs, ex, hd, q⟩ | ⟨d, kvs, ex, hd, q⟩
  · subst ex
    obtain rfl : u = Value.ref d := rx
    obtain ⟨hz, hs0, vs, kv, hdo⟩ := I1.hok d _ hd
    obtain ⟨ep, hat⟩ := hdo.dictAt
    have lk : kvs.length = vs.length := Paired.length kv
    refine ⟨hdo.typeIs, hdo.mapOf.noDict, ?_⟩
    show wpAny _ _ (callWith cpos (.builtin "dict.items") [.ref d] [] []) _ X.xe s1
    refine method_meetsIn F.slot_dict_items F.entry_dict_items rfl (PySem.evalArgs_none ⟨rfl, hdo.typeIs, F.args_dict_items_1 _, _, meets_dict_items (mixKind X.prog X.w) d hs0, ⟨vs, hdo⟩, ?_⟩)
    refine Calls.spliced_nil ?_
    refine PySem.W.kdx_call (knd := mixKind X.prog X.w) (kvs := vs) (ep := ep) (I1.ok.hd hc) ⟨_, Heap.get?_push_size _ rfl, rfl, rfl⟩ (hat.push _) (by omega) fun h' tk acc c as hk hS hl hG hacc => ?_
    obtain ⟨H', k1, k2, k3, k4, k5, k6, J⟩ := items_laid (tk := tk) (I2 d) hz kv hk hS hl hG hacc
    exact ⟨.ref _, H', J, rfl, q H' _ as k1 k2 k3 k4 k5 k6⟩
  · subst ex
    obtain rfl : u = Value.ref d := rx
    obtain ⟨hz, hs0, xs, kv, o, es, ep, ho, hx, hdt, hen, hn⟩ := (show ObjOk X.prog X.w H1 s1.heap d (.dT kvs) from I1.hok d _ hd)
    have lk : kvs.length = xs.length := Paired.length kv
    have raw : Raw s1.heap d es ep := ⟨o, ho, hx, hdt⟩
    have sz := size_of_entries hen
    refine ⟨raw.typeIs, ?_, ?_⟩
    · intro a e
      cases e
      exact ⟨o, ho, hx.2.1⟩
    show wpAny _ _ (callWith cpos (.builtin "dict.items") [.ref d] [] []) _ X.xe s1
    refine method_meetsIn F.slot_dict_items F.entry_dict_items rfl (PySem.evalArgs_none ⟨rfl, raw.typeIs, F.args_dict_items_1 _, _, meetsItems (es := es) (ep := ep) hs0, raw, ?_⟩)
    refine Calls.spliced_nil ?_
    refine call_items (es := es) (ep := ep) (I1.ok.hd hc) ⟨_, Heap.get?_push_size _ rfl, rfl, rfl⟩ (raw.push _) (by omega) fun h' tk acc c as hk hS hl hG hacc => ?_
    obtain ⟨H', ps, k1, k2, k3, k4, k5, k6, k7, J⟩ := items_laidT (tk := tk) (I2 d) (by omega) kv hen hk hS hl hG hacc
    exact ⟨.ref _, H', J, rfl, q H' _ as ps k1 k2 k3 k4 k5 k6 k7⟩
end
end WIt
end
-- WSame
section
set_option Elab.async false
set_option linter.all false
set_option maxRecDepth 100000
set_option maxHeartbeats 1000000
namespace K1
open PySem PySem.Spec PyProof.Rows L2 W0
abbrev sSm : Stmt := top 47
abbrev RelE := Hp → V → V → Prop
def MonE (R : RelE) : Prop := ∀ H H' x y, Same H H' → R H x y → R H' x y
def FlatE : RelE := fun _ x y => x = y ∧ ((∃ i, x = .int i) ∨ (∃ b, x = .bl b) ∨ ∃ s, x = .str s)
def SeqE (R : RelE) : RelE := fun H x y => ∃ p q xs ys, x = .ref p ∧ y = .ref q ∧ ((H p = some (.lst xs) ∧ H q = some (.lst ys)) ∨ (H p = some (.tup xs) ∧ H q = some (.tup ys))) ∧ xs.length ≤ 10000 ∧ Paired (R H) xs ys
def NextE (R : RelE) : RelE := fun H x y => FlatE H x y ∨ SeqE R H x y
theorem SeqE.mon {R : RelE} (m : MonE R) : MonE (SeqE R) := fun H H' x y e ⟨p, q, xs, ys, a, b, c, d, f⟩ => ⟨p, q, xs, ys, a, b, c.imp (fun c => ⟨e _ _ c.1, e _ _ c.2⟩) (fun c => ⟨e _ _ c.1, e _ _ c.2⟩), d, paired_imp (fun _ _ r => m _ _ _ _ e r) f⟩
theorem NextE.mon {R : RelE} (m : MonE R) : MonE (NextE R) := fun H H' x y e h => h.imp id (SeqE.mon m H H' x y e)
def spSm (R : RelE) : Sp := fun vs H Q _ => ∃ x y, vs = [x, y] ∧ R H x y ∧ ∀ H', Same H H' → Q (.bl true) H'
theorem scSm : FnScope ["found", "due", "one", "other"] ["found", "due"] (defScope sSm) := ⟨rfl, rfl, rfl, by decide +kernel, rfl, by decide +kernel, by decide +kernel⟩
theorem walk_zipT {K : PySem.W.Frag} {a b : Addr} {xs ys : List V} {n : Nat} (hn : n = min xs.length ys.length) : Walk (RZ.ItzT K a b) n (fun H => SqT K H a xs ∧ SqT K H b ys) (YPair (fun i => xs[i]?) (fun i => ys[i]?)) := by
  subst hn
  refine ⟨fun i _ hi q => ?_, fun _ q => ⟨xs, ys, q.1, q.2, by omega⟩, fun i H v H' _ q y => ?_⟩
  · have z1 : i < xs.length := by omega
    have z2 : i < ys.length := by omega
    exact ⟨xs, ys, xs[i], ys[i], q.1, q.2, by simp [z1], by simp [z2]⟩
  · obtain ⟨T, x, z, e1, e2, e3, e4, e5⟩ := y
    exact ⟨T, x, z, e1, e2, e3, e4 xs q.1, e5 ys q.2⟩
theorem kit_dlt {K : PySem.W.Frag} {t : String} (h : t = "int" ∨ t = "bool" ∨ t = "str") : PySem.W.kitAny K (.type t) [.type "dict", .type "list", .type "tuple"] = some false := by
  unfold PySem.W.kitAny
  rcases h with rfl | rfl | rfl
  · rw [kit_dict (t := "int") (by decide)]; exact kit_seq (t := "int") (by decide)
  · rw [kit_dict (t := "bool") (by decide)]; exact kit_seq (t := "bool") (by decide)
  · rw [kit_dict (t := "str") (by decide)]; exact kit_seq (t := "str") (by decide)
section
variable {P : Program} {w : World} {K : PySem.W.Frag} {mg : Str → Option Value} {base : Heap}
theorem ok_sm_none {f : Addr} {fd : FuncData} : FnOk P w K mg base CX0 0 f fd ["found", "due"] (spSm fun _ _ _ => False) := by
  have no : ∀ vs H Q E, ¬ spSm (fun _ _ _ => False) vs H Q E := fun vs H Q E h => by
    obtain ⟨x, y, _, h, _⟩ := h
    exact h
  exact ⟨fun vs H Q E h => absurd h (no vs H Q E), fun A outer s H args us vs Q E _ _ _ _ h => absurd h (no vs H Q E)⟩
end
def FlatF : RelE := fun _ x y => x = y ∧ ((∃ i, x = .int i) ∨ (∃ b, x = .bl b) ∨ (∃ s, x = .str s) ∨ x = .non)
/-- two dicts that hold the same, whose items are the same by R -/
def DctE (R : RelE) : RelE := fun H x y => ∃ p q kvs, x = .ref p ∧ y = .ref q ∧ H p = some (.dK kvs) ∧ H q = some (.dK kvs) ∧
  ∀ H' a b as bs, Same H H' → H' a = some (.lst (as.map V.ref)) → H' b = some (.lst (bs.map V.ref)) → Paired (fun (t : Addr) (e : Key × V) => H' t = some (.tup [kV e.1, e.2])) as kvs → Paired (fun (t : Addr) (e : Key × V) => H' t = some (.tup [kV e.1, e.2])) bs kvs → R H' (.ref a) (.ref b)
/-- two dicts keyed by tuples that hold the same, whose items are the same by R -/
def DctT (R : RelE) : RelE := fun H x y => ∃ (p q : Addr) (kvs : List (List Key × V)), x = .ref p ∧ y = .ref q ∧ H p = some (.dT kvs) ∧ H q = some (.dT kvs) ∧
  ∀ (H' : Hp) (a b : Addr) (as bs : List Addr) (ps qs : List (V × V)), Same H H' → H' a = some (.lst (as.map V.ref)) → H' b = some (.lst (bs.map V.ref)) → Paired (fun (t : Addr) (e : V × V) => H' t = some (.tup [e.1, e.2])) as ps → Paired (fun (t : Addr) (e : V × V) => H' t = some (.tup [e.1, e.2])) bs qs →
    Paired (fun (p : V × V) (e : List Key × V) => ∃ c, p.1 = .ref c ∧ H' c = some (.tup (e.1.map kV)) ∧ p.2 = e.2) ps kvs → Paired (fun (p : V × V) (e : List Key × V) => ∃ c, p.1 = .ref c ∧ H' c = some (.tup (e.1.map kV)) ∧ p.2 = e.2) qs kvs → R H' (.ref a) (.ref b)
def NextF (R : RelE) : RelE := fun H x y => FlatF H x y ∨ SeqE R H x y ∨ DctE R H x y ∨ DctT R H x y
theorem NextF.mon {R : RelE} (m : MonE R) : MonE (NextF R) := fun H H' x y e h => h.imp id fun h => h.imp (SeqE.mon m H H' x y e) fun h => h.imp (fun ⟨p, q, kvs, a, b, c, d, f⟩ => ⟨p, q, kvs, a, b, e _ _ c, e _ _ d, fun H2 a b as bs e2 => f H2 a b as bs (e.trans e2)⟩) fun ⟨p, q, kvs, a, b, c, d, f⟩ => ⟨p, q, kvs, a, b, e _ _ c, e _ _ d, fun H2 a b as bs ps qs e2 => f H2 a b as bs ps qs (e.trans e2)⟩
theorem kit_dlf {K : PySem.W.Frag} {t : String} (h : t = "int" ∨ t = "bool" ∨ t = "str" ∨ t = "NoneType") : PySem.W.kitAny K (.type t) [.type "dict", .type "list", .type "tuple"] = some false := by
  unfold PySem.W.kitAny
  rcases h with rfl | rfl | rfl | rfl
  · rw [kit_dict (t := "int") (by decide)]; exact kit_seq (t := "int") (by decide)
  · rw [kit_dict (t := "bool") (by decide)]; exact kit_seq (t := "bool") (by decide)
  · rw [kit_dict (t := "str") (by decide)]; exact kit_seq (t := "str") (by decide)
  · rw [kit_dict (t := "NoneType") (by decide)]; exact kit_seq (t := "NoneType") (by decide)
section
variable {P : Program} {w : World} {K : PySem.W.Frag} {mg : Str → Option Value} {base : Heap}
theorem ok_smF {R : RelE} {k : Nat} {f : Addr} {fd : FuncData} (mon : MonE R) (F : Fun K "_law_same" "_law_same" sSm f fd) (B : Bl mg) (mz : mg "zip" = none) (mF : mg "_law_same" = some (.ref f)) (b : Binds K fd ["found", "due"] [])
    (G : FnOk P w K mg base CX0 k f fd ["found", "due"] (spSm R)) : FnOk P w K mg base CX0 (k + 1) f fd ["found", "due"] (spSm (NextF R)) := by
  refine F.ok scSm (fun vs H Q E h => ?_) (fun cdv A outer s H vs Q E hr h => ?_)
  · obtain ⟨x, y, rfl, _⟩ := h
    rfl
  obtain ⟨x, y, rfl, h, q⟩ := h
  have nd := scSm.nd
  refine ⟨_, (pss_cons (by exact (ps_if (pt_val (pe_callB call_isi rfl B.isi PyProof.Rows.boot_isinstance (pa_cons (pv 1) (pa_cons (pe_bltn (v := .ty "dict") rfl B.dict PyProof.Rows.boot_dict rfl) pa_nil)))) (pss_one (by exact (ps_ret (pe_and (pe_callB call_isi rfl B.isi PyProof.Rows.boot_isinstance (pa_cons (pv 0) (pa_cons (pe_bltn (v := .ty "dict") rfl B.dict PyProof.Rows.boot_dict rfl) pa_nil))) (pe_one (pe_call G hr rfl mF F.kp b .nil pass0 (pa_cons (WIt.pe_listItemsB rfl (pv 0) rfl B.list PyProof.Rows.boot_list) (pa_cons (WIt.pe_listItemsB rfl (pv 1) rfl B.list PyProof.Rows.boot_list) pa_nil)))))))) pss_nil)) (pss_cons (by exact (ps_if (pt_val (pe_callB call_isiT rfl B.isi PyProof.Rows.boot_isinstance (pa_cons (pv 1) (pa_cons (pe_tup (pa_cons (pe_bltn (v := .ty "list") rfl B.list PyProof.Rows.boot_list rfl) (pa_cons (pe_bltn (v := .ty "tuple") rfl B.tuple PyProof.Rows.boot_tuple rfl) pa_nil))) pa_nil)))) (pss_cons (by exact (ps_if (PW.pt (pw_or (pt_cmpR op_ne (pe_callB call_isi rfl B.isi PyProof.Rows.boot_isinstance (pa_cons (pv 0) (pa_cons (pe_bltn (v := .ty "list") rfl B.list PyProof.Rows.boot_list rfl) pa_nil))) (pe_callB call_isi rfl B.isi PyProof.Rows.boot_isinstance (pa_cons (pv 1) (pa_cons (pe_bltn (v := .ty "list") rfl B.list PyProof.Rows.boot_list rfl) pa_nil))) (nomark _)) (pw_or1 (pt_cmpR op_ne (pe_callB call_isi rfl B.isi PyProof.Rows.boot_isinstance (pa_cons (pv 0) (pa_cons (pe_bltn (v := .ty "tuple") rfl B.tuple PyProof.Rows.boot_tuple rfl) pa_nil))) (pe_callB call_isi rfl B.isi PyProof.Rows.boot_isinstance (pa_cons (pv 1) (pa_cons (pe_bltn (v := .ty "tuple") rfl B.tuple PyProof.Rows.boot_tuple rfl) pa_nil))) (nomark _))))) (pss_one (by exact (ps_ret pe_bl))) pss_nil)) (pss_one (by exact (ps_ret (pe_and (pe_cmpR op_eq (pe_callB call_len_seq rfl B.len PySem.boot_len (pa_cons (pv 0) pa_nil)) (pe_callB call_len_seq rfl B.len PySem.boot_len (pa_cons (pv 1) pa_nil)) (nomark _)) (pe_one (pe_callB (cr_all rfl) rfl B.all PyProof.Rows.boot_all (pa_cons (pe_lc (own := [("one", 2), ("other", 3)]) (g := gTup K 2 (gCons (gName 2) (gCons (gName 3) gNil))) (tt := tYes) (te := tCall (spSm R) [] E0 (tCons (tVar 2) (tCons (tVar 3) tNil))) rfl nd (by exact RZ.pi_zipA rfl mz (pa_cons (pv 0) (pa_cons (pv 1) pa_nil))) (by exact blkOk_by (N := ["found", "due", "one", "other"]) (sc := defScope sSm) (by decide +kernel)) (fun _ _ _ _ _ => by exact (pg_tup rfl (pgs_cons (pg_name (i := 2) nd rfl (.inl rfl)) (pgs_cons (pg_name (i := 3) nd rfl (.inl rfl)) pgs_nil)))) (fun _ _ _ _ _ => by exact pts_nil) (fun _ _ _ _ _ => by exact (pe_call G hr rfl mF F.kp b .nil pass0 (pa_cons (pv 2) (pa_cons (pv 3) pa_nil))))) pa_nil)))))))) pss_nil)) (pss_cons (by exact (ps_if (PW.pt (pw_or (pt_val (pe_callB call_isiT rfl B.isi PyProof.Rows.boot_isinstance (pa_cons (pv 0) (pa_cons (pe_tup (pa_cons (pe_bltn (v := .ty "dict") rfl B.dict PyProof.Rows.boot_dict rfl) (pa_cons (pe_bltn (v := .ty "list") rfl B.list PyProof.Rows.boot_list rfl) (pa_cons (pe_bltn (v := .ty "tuple") rfl B.tuple PyProof.Rows.boot_tuple rfl) pa_nil)))) pa_nil)))) (pw_or1 (pt_cmpR op_ne (pe_callB call_isi rfl B.isi PyProof.Rows.boot_isinstance (pa_cons (pv 0) (pa_cons (pe_bltn (v := .ty "bool") rfl B.bool PyProof.Rows.boot_bool rfl) pa_nil))) (pe_callB call_isi rfl B.isi PyProof.Rows.boot_isinstance (pa_cons (pv 1) (pa_cons (pe_bltn (v := .ty "bool") rfl B.bool PyProof.Rows.boot_bool rfl) pa_nil))) (nomark _))))) (pss_one (by exact (ps_ret pe_bl))) pss_nil)) (pss_one (by exact (ps_ret (pe_cmpR op_eq (pv 0) (pv 1) (nomark _)))))))), ?_⟩
  rcases h with ⟨rfl, fl⟩ | ⟨p, r, xs, ys, rfl, rfl, kinds2, hl, pr⟩ | ⟨p, r, kvs, rfl, rfl, dp, dr, hD⟩ | ⟨p, r, kvs, rfl, rfl, dp, dr, hD⟩
  · obtain ⟨t, ty, tk⟩ : ∃ t, TyOf K H x (.type t) ∧ (t = "int" ∨ t = "bool" ∨ t = "str" ∨ t = "NoneType") := by
      rcases fl with ⟨i, rfl⟩ | ⟨i, rfl⟩ | ⟨i, rfl⟩ | rfl
      · exact ⟨"int", .int i, .inl rfl⟩
      · exact ⟨"bool", .bl i, .inr (.inl rfl)⟩
      · exact ⟨"str", .str i, .inr (.inr (.inl rfl))⟩
      · exact ⟨"NoneType", .non, .inr (.inr (.inr rfl))⟩
    have kt : t ∈ kinds := by rcases tk with rfl | rfl | rfl | rfl <;> decide
    have nD : decide (t = "dict") = false := by rcases tk with rfl | rfl | rfl | rfl <;> decide
    have nS : isSeqT t = false := by rcases tk with rfl | rfl | rfl | rfl <;> decide
    have tx : ∀ {Hx}, TyX K Hx x (.type t) := fun {Hx} => by
      rcases fl with ⟨i, rfl⟩ | ⟨i, rfl⟩ | ⟨i, rfl⟩ | rfl <;> cases ty
      · exact .base (.int i)
      · exact .base (.bl i)
      · exact .base (.str i)
      · exact .base .non
    refine ⟨_, rfl, x, _, _, _, _, rfl, .ty "dict", tx, kit_dict kt, _, rfl, ?_⟩
    rw [nD]
    refine iteF ?_
    refine ⟨_, rfl, (by show 2 ≤ sizeLine; decide), fun u1 hu1 => ?_⟩
    refine ⟨x, u1, _, _, _, _, rfl, upd_same, .cons (.ty "list") (.cons (.ty "tuple") .nil), tx, kit_seq kt, _, rfl, ?_⟩
    rw [nS]
    refine iteF ?_
    have e1 := K1.Same.upd (H := H) (p := u1) (o := .tup [.ty "list", .ty "tuple"]) hu1
    refine ⟨_, rfl, (by show 3 ≤ sizeLine; decide), fun u2 hu2 => ?_⟩
    refine ⟨x, u2, _, _, _, _, rfl, upd_same, .cons (.ty "dict") (.cons (.ty "list") (.cons (.ty "tuple") .nil)), tx, kit_dlf tk, _, rfl, ?_⟩
    refine iteF ?_
    have e2 := e1.trans (K1.Same.upd (o := .tup [.ty "dict", .ty "list", .ty "tuple"]) hu2)
    refine ⟨_, rfl, x, _, _, _, _, rfl, .ty "bool", tx, kit_bool kt, _, rfl, x, _, _, _, _, rfl, .ty "bool", tx, kit_bool kt, rfl, _, rfl, ?_⟩
    rw [decide_eq_true rfl]
    refine iteF ?_
    have fin : Q (.bl true) _ := q _ e2
    rcases fl with ⟨i, rfl⟩ | ⟨i, rfl⟩ | ⟨i, rfl⟩ | rfl
    · refine ⟨_, rfl, _, rfl, rfl, ?_⟩
      rw [decide_eq_true rfl]
      exact fin
    · refine ⟨_, rfl, _, rfl, rfl, ?_⟩
      rw [decide_eq_true rfl]
      exact fin
    · refine ⟨_, rfl, _, rfl, rfl, ?_⟩
      rw [decide_eq_true rfl]
      exact fin
    · refine ⟨_, rfl, _, rfl, rfl, ?_⟩
      rw [decide_eq_true rfl]
      exact fin
  · obtain ⟨t, kt, nD, nS, tx, ty⟩ : ∃ t, t ∈ kinds ∧ decide (t = "dict") = false ∧ isSeqT t = true ∧ (∀ Hx, Same H Hx → TyX K Hx (.ref p) (.type t)) ∧ (∀ Hx, Same H Hx → TyX K Hx (.ref r) (.type t)) := by
      rcases kinds2 with ⟨h1, h2⟩ | ⟨h1, h2⟩
      · exact ⟨"list", by decide, by decide, by decide, fun Hx e => .base (.lst (e _ _ h1)), fun Hx e => .base (.lst (e _ _ h2))⟩
      · exact ⟨"tuple", by decide, by decide, by decide, fun Hx e => .base (.tup (e _ _ h1)), fun Hx e => .base (.tup (e _ _ h2))⟩
    refine ⟨_, rfl, _, _, _, _, _, rfl, .ty "dict", ty _ (Same.refl _), kit_dict kt, _, rfl, ?_⟩
    rw [nD]
    refine iteF ?_
    refine ⟨_, rfl, (by show 2 ≤ sizeLine; decide), fun u1 hu1 => ?_⟩
    have e1 := K1.Same.upd (H := H) (p := u1) (o := .tup [.ty "list", .ty "tuple"]) hu1
    refine ⟨_, u1, _, _, _, _, rfl, upd_same, .cons (.ty "list") (.cons (.ty "tuple") .nil), ty _ e1, kit_seq kt, _, rfl, ?_⟩
    rw [nS]
    refine iteT ?_
    generalize L2.upd H u1 (.tup [.ty "list", .ty "tuple"]) = H1 at e1 ⊢
    refine ⟨_, rfl, _, _, _, _, _, rfl, .ty "list", tx _ e1, kit_list kt, _, rfl, _, _, _, _, _, rfl, .ty "list", ty _ e1, kit_list kt, rfl, _, rfl, ?_⟩
    rw [decide_eq_true rfl]
    refine iteF ?_
    refine ⟨_, rfl, _, _, _, _, _, rfl, .ty "tuple", tx _ e1, kit_tuple kt, _, rfl, _, _, _, _, _, rfl, .ty "tuple", ty _ e1, kit_tuple kt, rfl, _, rfl, ?_⟩
    rw [decide_eq_true rfl]
    refine iteF ?_
    have ll := pr.length
    have sp : SqA K H1 p xs := kinds2.imp (fun h => SqL.of (e1 _ _ h.1)) (fun h => SqT.of (e1 _ _ h.1))
    have sr : SqA K H1 r ys := kinds2.imp (fun h => SqL.of (e1 _ _ h.2)) (fun h => SqT.of (e1 _ _ h.2))
    refine ⟨_, rfl, p, xs, rfl, sp, _, rfl, r, ys, rfl, sr, rfl, _, rfl, ?_⟩
    rw [ll, decide_eq_true rfl]
    refine iteT ?_
    have pr1 : Paired (R H1) xs ys := paired_imp (fun _ _ z => mon _ _ _ _ e1 z) pr
    -- the walk over both
    have main : ∀ (J : It) (G0 : Hp → Prop), Walk J xs.length G0 (YPair (fun i => xs[i]?) (fun i => ys[i]?)) → (∀ Hx, Same H1 Hx → G0 Hx) → ∀ (D : Addr), H1 D = none → ∃ W : Nat → Nat → Hp → Prop, (∃ m, W 0 m (L2.upd H1 D (.lst []))) ∧ ∀ i m Hc, W i m Hc →
        (J.stop i Hc ∧ ∃ (a : Addr) (bs : List Bool), [V.ref D] = [V.ref a] ∧ SqL K Hc a (bs.map V.bl) ∧ Q (.bl (bs.all id)) Hc) ∨ (J.go i Hc ∧ ∃ Nx : Hp → Prop, (∀ H', Nx H' → ∃ m', m' < m ∧ W (i + 1) m' H') ∧ ∀ v H', J.yld i Hc v H' →
          gTup K 2 (gCons (gName 2) (gCons (gName 3) gNil)) v (wipe (L2.start ["found", "due", "one", "other"] [.ref p, .ref r]) [2, 3]) H' fun σ2 H2 => wipe σ2 [2, 3] = wipe (L2.start ["found", "due", "one", "other"] [.ref p, .ref r]) [2, 3] ∧ tYes σ2 H2 fun b H3 =>
            if b = true then tCall (spSm R) [] E0 (tCons (tVar 2) (tCons (tVar 3) tNil)) σ2 H3 fun y H4 => ∃ acc, H4 D = some (.lst acc) ∧ acc.length < sizeLine ∧ Nx (L2.upd H4 D (.lst (acc ++ [y]))) else Nx H3) := by
      intro J G0 wk hG D hD
      refine lc_it (Qd := fun Hc => ∃ (a : Addr) (bs : List Bool), [V.ref D] = [V.ref a] ∧ SqL K Hc a (bs.map V.bl) ∧ Q (.bl (bs.all id)) Hc) wk (fun i Hc => Same H1 Hc ∧ Hc D = some (.lst ((List.replicate i true).map V.bl))) ⟨K1.Same.upd hD, upd_same⟩ (fun i Hc _ h => hG Hc h.1) ?_ ?_
      · rintro i v Hc H' hi ⟨c1, c2⟩ ⟨T, x1, x2, rfl, hT, rfl, ex1, ex2⟩
        have ex1 : xs[i]? = some x1 := ex1
        have ex2 : ys[i]? = some x2 := ex2
        have hT2 := K1.Same.upd (H := Hc) (p := T) (o := .tup [x1, x2]) hT
        refine ⟨T, _, rfl, SqT.of upd_same, rfl, _, _, rfl, _, _, rfl, rfl, rfl, ?_⟩
        unfold tYes
        refine iteT ?_
        have hi2 : i < ys.length := by omega
        obtain ⟨x1', e3, r3⟩ := paired_get pr1 hi2
        have z1 : x1' = x1 := Option.some.inj (e3.symm.trans ex1)
        have z2 : ys[i] = x2 := Option.some.inj ((List.getElem?_eq_getElem hi2).symm.trans ex2)
        rw [z1, z2] at r3
        refine ⟨_, rfl, _, rfl, x1, x2, rfl, mon _ _ _ _ (c1.trans hT2) r3, fun H6 e6 => ?_⟩
        refine ⟨_, e6 _ _ (hT2 _ _ c2), by rw [List.length_map, List.length_replicate, sizeLine_eq]; omega, fun c o n => ?_, ?_⟩
        · rw [upd_ne (ne_of_none n hD)]
          exact e6 _ _ (hT2 _ _ (c1 _ _ n))
        · rw [upd_same, List.replicate_succ', List.map_append]
          rfl
      · rintro Hc ⟨c1, c2⟩
        refine ⟨D, _, rfl, SqL.of c2, ?_⟩
        have : ((List.replicate xs.length true).all id) = true := by
          rw [List.all_replicate]
          split <;> rfl
        rw [this]
        exact q Hc (e1.trans c1)
    refine ⟨_, rfl, _, rfl, p, r, xs, ys, rfl, ?_⟩
    rcases kinds2 with ⟨h1, h2⟩ | ⟨h1, h2⟩
    · exact .inl ⟨SqL.of (e1 _ _ h1), SqL.of (e1 _ _ h2), fun D hD => main _ _ (walk_zip (by omega)) (fun Hx e => ⟨SqL.of (e _ _ (e1 _ _ h1)), SqL.of (e _ _ (e1 _ _ h2))⟩) D hD⟩
    · exact .inr ⟨SqT.of (e1 _ _ h1), SqT.of (e1 _ _ h2), fun D hD => main _ _ (walk_zipT (by omega)) (fun Hx e => ⟨SqT.of (e _ _ (e1 _ _ h1)), SqT.of (e _ _ (e1 _ _ h2))⟩) D hD⟩
  · -- two dicts
    have tx : ∀ {Hx}, Same H Hx → TyX K Hx (.ref p) (.type "dict") := fun {Hx} e => .base (.dK (e _ _ dp))
    have ty : ∀ {Hx}, Same H Hx → TyX K Hx (.ref r) (.type "dict") := fun {Hx} e => .base (.dK (e _ _ dr))
    refine ⟨_, rfl, .ref r, _, _, _, _, rfl, .ty "dict", ty (Same.refl _), kit_dict (t := "dict") (by decide), _, rfl, ?_⟩
    refine iteT ?_
    refine ⟨_, rfl, .ref p, _, _, _, _, rfl, .ty "dict", tx (Same.refl _), kit_dict (t := "dict") (by decide), _, rfl, ?_⟩
    refine iteT ⟨_, rfl, .inl ⟨p, kvs, rfl, dp, fun H1 a as e1 na nas npa g1 pa => ⟨_, rfl, .inl ⟨r, kvs, rfl, e1 _ _ dr, fun H2 c cs e2 nc ncs npc g2 pc => ⟨_, _, rfl, ?_, fun H3 e3 => ?_⟩⟩⟩⟩⟩
    · exact hD H2 a c as cs (fun b o h => e2 _ _ (e1 _ _ h)) (e2 _ _ g1) g2 (paired_imp (fun _ _ z => e2 _ _ z) pa) pc
    · exact q H3 fun b o h => e3 _ _ (e2 _ _ (e1 _ _ h))
  · -- two dicts keyed by tuples
    have tx : ∀ {Hx}, Same H Hx → TyX K Hx (.ref p) (.type "dict") := fun {Hx} e => .base (.dT (e _ _ dp))
    have ty : ∀ {Hx}, Same H Hx → TyX K Hx (.ref r) (.type "dict") := fun {Hx} e => .base (.dT (e _ _ dr))
    refine ⟨_, rfl, .ref r, _, _, _, _, rfl, .ty "dict", ty (Same.refl _), kit_dict (t := "dict") (by decide), _, rfl, ?_⟩
    refine iteT ?_
    refine ⟨_, rfl, .ref p, _, _, _, _, rfl, .ty "dict", tx (Same.refl _), kit_dict (t := "dict") (by decide), _, rfl, ?_⟩
    refine iteT ⟨_, rfl, .inr ⟨p, kvs, rfl, dp, fun H1 a as ps e1 na nas npa g1 pa ka => ⟨_, rfl, .inr ⟨r, kvs, rfl, e1 _ _ dr, fun H2 c cs qs e2 nc ncs npc g2 pc kc => ⟨_, _, rfl, ?_, fun H3 e3 => ?_⟩⟩⟩⟩⟩
    · exact hD H2 a c as cs ps qs (fun b o h => e2 _ _ (e1 _ _ h)) (e2 _ _ g1) g2 (paired_imp (fun _ _ z => e2 _ _ z) pa) pc (paired_imp (fun _ _ ⟨b, z1, z2, z3⟩ => ⟨b, z1, e2 _ _ (e1 _ _ z2), z3⟩) ka) (paired_imp (fun _ _ ⟨b, z1, z2, z3⟩ => ⟨b, z1, e2 _ _ z2, z3⟩) kc)
    · exact q H3 fun b o h => e3 _ _ (e2 _ _ (e1 _ _ h))

end
end K1
end
-- NTry
section
set_option Elab.async false
set_option linter.all false
set_option maxRecDepth 100000
set_option maxHeartbeats 4000000
/-! several clauses, each with a name for what came: the same slot -/
namespace K1
open PySem PySem.Spec PyProof.Rows L2
abbrev Suite := Addr → Value → Option Addr → TS
/-- a wish where the slots are as many as the names -/
def wLen (N : List Str) (W : WX) : WX := fun cls d σ H => σ.length = N.length → W cls d σ H
/-- the clauses' wish, one behind another -/
def wSome (K : PySem.W.Frag) (i : Nat) (Wout : WX) (D : Ends) : List (Value × Suite) → WX
  | [] => Wout
  | p :: r => wAs K p.1 i p.2 (wSome K i Wout D r) D
inductive HdsN (X : Cx) (n : Str) : List ExceptHandler → List (Value × Suite) → Prop
  | nil : HdsN X n [] []
  | cons {x : Str} {c : Value} {ts : Suite} {st : Stmt} {more : List Stmt} {xp hp : Pos} {hds : List ExceptHandler} {l : List (Value × Suite)} (names : Names X x c)
      (body : ∀ (a : Addr) (oe : Obj) (cls : Value) (d : Option Addr) (pn : List (Addr × Obj)), Zc cls d oe → (∃ vs, oe.data = .fields vs) → PSs (X.suite a ((a, oe) :: pn)) (st :: more) (ts a cls d)) (rest : HdsN X n hds l) :
      HdsN X n (.ExceptHandler (some (.Name x xp)) (some n) (st :: more) hp :: hds) ((c, ts) :: l)
section
variable {X : Cx} {body : List Stmt} {hd : ExceptHandler} {hds : List ExceptHandler} {l : List (Value × Suite)} {pos : Pos} {tb : WX → TS} {Wout : WX} {n : Str} {i : Nat}
theorem ps_try_some (st : X.stack = X.env :: X.outer) (fr : X.env.frame = some X.env.locals) (dup : X.N.Nodup) (at_ : X.N[i]? = some n) (loc : X.env.kindOf n = some .local) (tk : Takes X Wout)
    (hb : ∀ (W : WX) (pn : List (Addr × Obj)) (xe : Value → Shared → Prop), Takes (X.tr pn xe) W → PassesOwn (model X.prog X.w) X.A X.env xe → PSs (X.tr pn xe) body (tb W)) (clauses : HdsN X n (hd :: hds) l) :
    PS X (.Try body (hd :: hds) [] [] pos) (fun D σ H => tb (wLen X.N (wSome X.K i Wout D l)) D σ H) := by
  refine ⟨fun pins s σ H D I h => ?_⟩
  have good := I.ok; have hfr : X.A.frames = some (X.env :: X.outer) := by rw [good.frames, st]
  have hloc : Loc X.env.scope n := .inl loc
  refine wpAny_Try_except (wpAny_mono ((hb (wLen X.N (wSome X.K i Wout D l)) (X.pn ++ pins) (fun e t => wpAny (model X.prog X.w) X.A (noteFrame e X.env) (fun _ t2 => wpAny (model X.prog X.w) X.A (setFlight e none) (fun _ t3 => wpAny (model X.prog X.w) X.A (handleBy e X.env (hd :: hds)) (SP X pins D) X.xe t3) X.xe t2) X.xe t)
    (fun u t xx => ?_) PassesOwn.looking).run [] s σ H D (I.toTry _) h) (fun f t came => ?_) (fun e t z => z))
  · obtain ⟨a, B, sI, pins2, σ2, H2, cls, d, rfl, J0, nb, up, sky0, na, os, ag, wish⟩ := xx
    have J : Inv X pins σ2 H2 sI := J0.ofTry good
    have sky : Sky B (X.env :: X.outer) a (Zc cls d) X.env.locals t.heap := by rw [← st]; exact sky0
    show wpAny (model X.prog X.w) X.A (noteFrame (.ref a) X.env) _ _ _; refine Sky.land Zc.steady hfr fr sky fun g3 fly up3 => ?_
    have J3 : Inv X pins σ2 H2 { t with heap := g3 } := J.landed nb fly.1 (up.trans up3) os ag
    obtain ⟨oe3, ws3, at3, hz3, hd3⟩ := fly.there
    have nfr : a ∉ frs (X.env :: X.outer) := fun m => by
      obtain ⟨_, o2, e2, hnf⟩ := (fly.2.2.1).mem m
      rw [at3] at e2; cases e2; exact hnf _ hd3
    have nL : a ≠ X.env.locals := fun z => nfr (List.mem_filterMap.mpr ⟨X.env, List.mem_cons_self, by rw [fr, z]⟩)
    have nF : a ∉ X.fs := fun m => by obtain ⟨e, he, q⟩ := List.mem_filterMap.mp m; exact nfr (List.mem_filterMap.mpr ⟨e, List.mem_cons_of_mem _ he, q⟩)
    have S3 := J3.suite at3 hd3 na nL nF
    have go : ∀ {ks : List ExceptHandler} {m : List (Value × Suite)}, HdsN X n ks m → wSome X.K i Wout D m cls d σ2 H2 → wpAny (model X.prog X.w) X.A (handleBy (.ref a) X.env ks) (SP X pins D) X.xe { t with heap := g3 } := by
      intro ks m hk
      induction hk with
      | nil =>
        intro w; refine wpAny_handleBy_nil ?_
        obtain ⟨k1, k2, k3, oe, vs, T, oT, vs2, he, hz, hd2, h1, hr⟩ := id fly
        unfold PySem.passOn; refine wpAny_bind (wpAny_field he hd2 h1 ?_)
        rw [if_neg (show ¬ ((Value.ref T == Value.none) = true) by simp)]
        have fin : wpAny (model X.prog X.w) X.A (setFlight (.ref a) X.env.frame) (fun _ t4 => wpAny (model X.prog X.w) X.A (throw (.ref a) : Sem Flow) (SP X pins D) X.xe t4) X.xe { t with heap := g3 } := by
          rw [fr]; refine HandSPX.setFlight_upZ fly fun g4 sky4 up4 => wpAny_throw (tk _ _ ?_)
          exact ⟨a, B, sI, pins, σ2, H2, cls, d, rfl, J, nb, (up.trans up3).trans up4, .inr (.inr (by rw [st]; exact sky4)), na, os, ag, w⟩
        first | exact wpAny_bind (wpAny_pure (wpAny_bind fin)) | exact wpAny_bind fin
      | @cons x c ts s1 more xp hp2 hds2 l2 names suite rest ih =>
        intro w
        obtain ⟨b, eb, yes, no⟩ := w
        refine wpAny_handleBy_cons (codeAny_handlers_test ?_) (by intro q; cases q)
        have LM := PySem.W.exm_one (M := model X.prog X.w) (J3.kIn) (show PySem.W.Looks (model X.prog X.w) g3 (typeOf (.ref a)) cls from fun A Q E s k q => wpAny_typeOf_ref (k _ _ at3) (by rw [hz3.1]; exact q)) eb
        have test : ∀ {Q : Value → Shared → Prop} {E : Value → Shared → Prop}, Q c { t with heap := g3 } → wpAny (model X.prog X.w) (X.A.mark (some (.ref a))) (eval (.Name x xp) X.env) Q E { t with heap := g3 } := fun {Q E} q => by
          obtain ⟨hg, hdb, hm | ⟨hm, hv, hne⟩⟩ := names
          · exact ld_glob (X := X.suite a ((a, oe3) :: (X.pn ++ pins))) S3 hg hm q hdb
          · exact ld_blt (X := X.suite a ((a, oe3) :: (X.pn ++ pins))) S3 hg hm hv q hne hdb
        refine test (LM.here ?_)
        cases b with
        | false => show wpAny _ X.A (handleBy (.ref a) X.env hds2) _ _ _; exact ih (no rfl)
        | true =>
          refine codeAny_handlers_suite_as (HandSPX.lands_againZ fly fun g4 fly4 up4 => ?_)
          have J4 : Inv X pins σ2 H2 { t with heap := g4 } := J.landed nb fly4.1 ((up.trans up3).trans up4) os ag
          obtain ⟨oe4, ws4, at4, hz4, hd4⟩ := fly4.there
          refine store_ok (X := X.suite a ((a, oe4) :: (X.pn ++ pins))) (v := .ref a) (J4.suite at4 hd4 na nL nF) dup at_ hloc rfl (fun s5 S5 => ?_) (.inr loc)
          refine wpAny_mono ((suite a oe4 cls d (X.pn ++ pins) hz4 ⟨_, hd4⟩).run [] s5 _ H2 _ S5 (yes rfl a na)) (fun f s6 came => ?_) (fun _ _ z => False.elim z)
          have gone : ∀ {σ6 : L2.St} {H6 : Hp} {Q : Shared → Prop}, Inv (X.suite a ((a, oe4) :: (X.pn ++ pins))) [] σ6 H6 s6 → (∀ s7, Inv X pins (σ6.set i none) H6 s7 → Q s7) → wpAny (model X.prog X.w) X.A (do bindName X.env n .none; unbindBehindTheSuite X.env n hp2) (fun _ s7 => Q s7) X.xe s6 :=
            fun {σ6 H6 Q} S6 hq => gone_ok (S6.unsuite good) dup at_ loc hq
          cases f with
          | next => obtain ⟨σ6, H6, S6, q6⟩ := came; exact gone S6 fun s7 J7 => ⟨_, _, J7, q6⟩
          | brk => obtain ⟨σ6, H6, S6, q6⟩ := came; exact gone S6 fun s7 J7 => ⟨_, _, J7, q6⟩
          | cont => obtain ⟨σ6, H6, S6, q6⟩ := came; exact gone S6 fun s7 J7 => ⟨_, _, J7, q6⟩
          | ret u => obtain ⟨v6, σ6, H6, S6, r6, q6⟩ := came; exact gone S6 fun s7 J7 => ⟨_, _, _, J7, r6, q6⟩
    exact go clauses (wish J.len)
  · cases f with
    | next => obtain ⟨σ2, H2, J2, q⟩ := came; exact wpAny_execs_nil ⟨σ2, H2, J2.ofTry good, q⟩
    | brk => obtain ⟨σ2, H2, J2, q⟩ := came; exact ⟨σ2, H2, J2.ofTry good, q⟩
    | cont => obtain ⟨σ2, H2, J2, q⟩ := came; exact ⟨σ2, H2, J2.ofTry good, q⟩
    | ret u => obtain ⟨v, σ2, H2, J2, r, q⟩ := came; exact ⟨v, σ2, H2, J2.ofTry good, r, q⟩
end
end K1
end
-- WKw
section
set_option Elab.async false
set_option linter.all false
set_option maxRecDepth 100000
set_option maxHeartbeats 1000000
namespace K1
open PySem PySem.Spec PyProof.Rows L2 W0
section
variable {X : Cx} {CX : CXT} {k n : Nat} {f C : Addr} {fd : FuncData} {ps ks : List Str} {sp : Sp} {E : XK} {x m : Str} {p pos apos : Pos} {e o : Expr} {es : List Expr} {kws : List Keyword} {ta : TE} {t tk : TA} {g : List Value → List Value → List Value} {gV : List V → List V → List V}
/-- the callee runs, its parameters given by name -/
theorem run_fnN {pins : List (Addr × Obj)} {σ : L2.St} {H : Hp} {s : Shared} {Q : VK} {us ws : List Value} {vs zs : List V} (F : FnOk X.prog X.w X.K X.mg X.base CX k f fd ps sp) (hr : Room k X.A) (hb : KBn X.K fd ps n ks g gV) (hx : Passes CX X E)
    (I : Inv X pins σ H s) (r : Vals vs us) (rz : Vals zs ws) (l1 : vs.length = n) (l2 : zs.length = ks.length)
    (h : sp (gV vs zs) H Q E) : wpAny (model X.prog X.w) X.A (call (.ref f) us (ks.zip ws)) (EP X pins σ Q) X.xe s := by
  have r2 := hb.rel r rz
  have go := F.run X.A X.stack s H ⟨us, ks.zip ws⟩ (g us ws) (gV vs zs) Q E
  refine wpAny_call (codeAny_mono (go hr I.env0 (hb.to s us ws I.kIn (r.length.symm.trans l1) (rz.length.symm.trans l2)) r2 h) fun r s' hq => ?_)
  cases r with
  | error e => exact hx pins σ H s e s' I hq
  | ok fl =>
    cases fl with
    | ret u => exact I.after hq
    | next => exact False.elim hq
    | brk => exact False.elim hq
    | cont => exact False.elim hq
def tCallN (k : Nat) (sp : Sp) (gV : List V → List V → List V) (E : XK) (tk : TA) : TE := fun σ H Q => tk σ H fun zs H2 => zs.length = k ∧ sp (gV [] zs) H2 Q E
/-- f(k = v, ..), every parameter by name -/
theorem pe_callN (F : FnOk X.prog X.w X.K X.mg X.base CX k f fd ps sp) (hr : Room k X.A) (hg : Gl X x) (hm : X.mg x = some (.ref f)) (hk : PySem.W.keepIn X.K (.ref f) = true) (hb : KBn X.K fd ps 0 ks g gV) (hx : Passes CX X E) (hkw : PK X kws tk)
    (hall : (backToKw pos (keywordEach kws X.env)).all (·.1.isSome) = true := by rfl) (hks : (backToKw pos (keywordEach kws X.env)).filterMap (·.1) = ks := by rfl)
    (hdb : (x == ("__debug__" : Str)) = false := by decide)
    (hpl : ((backTo pos (starEach [] X.env)).any (·.1) || (backToKw pos (keywordEach kws X.env)).any (·.1.isNone)) = false := by rfl) :
    PE X (.Call (.Name x p) [] kws pos) (tCallN ks.length sp gV E tk) := by
  refine ⟨fun pins s σ H Q I h => ?_⟩
  refine wpAny_Call_Name_kw (ld_glob I hg hm ?_ hdb)
  refine PySem.W.callWith_KW0 (first := []) (h₀ := X.base) I.ok.mod.kin hk hall ?_ hpl
  refine thn (hkw.run pos pins s σ H _ I h) fun ws s2 ⟨zs, H2, I2, rz, l2, q2⟩ => ⟨I2.kIn, ?_⟩
  rw [hks]
  exact run_fnN (us := []) (vs := []) F hr hb hx I2 .nil rz rfl l2 q2
end
end K1
end
-- WLam
section
set_option Elab.async false
set_option linter.all false
set_option maxRecDepth 100000
set_option maxHeartbeats 2000000
/-! a lambda with parameters that is handed to a def and called there; what it captured lies in its maker's frame -/
namespace LamP
open PySem PySem.Spec PyProof.Rows L2 LamX NdefX Wr
/-- a lambda's words, the cells that it captured, its code object -/
structure LF where
  q : Str
  pa : Arguments
  bd : Expr
  sc : Scope
  cl : List (Str × Addr)
  c : Addr
/-- the same as a nested def's words: the context of its body -/
def LF.nf (F : LF) : NF := ⟨"<lambda>", F.q, F.pa, [], F.sc, F.cl, F.c⟩
abbrev LF.ob (F : LF) (pm ctv : Value) : Obj := PySem.W.kla_obj "<lambda>" F.q F.pa F.bd F.sc F.cl pm F.c ctv
def LamAt (h : Heap) (f : Addr) (F : LF) : Prop := ∃ pm ctv : Value, h.get? f = some (F.ob pm ctv)
theorem LamAt.fn {h : Heap} {f : Addr} {F : LF} (l : LamAt h f F) : PySem.W.FnAt f h := by
  obtain ⟨pm, ctv, e⟩ := l
  exact ⟨_, _, _, _, e⟩
/-- the promise of the lambda F at f: ws what it captured -/
structure LOk (P : Program) (w : World) (K : PySem.W.Frag) (mg : Str → Option Value) (base : Heap) (CX : CXT) (k : Nat) (f : Addr) (F : LF) (ps fr : List Str) (sp : List (Option V) → Sp) : Prop where
  ln : ∀ ws xs H Q E, sp ws xs H Q E → xs.length = ps.length
  go : ∀ (A : Around) (out : List Env) (s : Shared) (H : Hp) (us : List Value) (xs : List V) (ws : List (Option V)) (Q : VK) (E : XK), Room k A → Env0 P w K mg base A out s H → LamAt s.heap f F → H F.c = some (CodeO F.c F.q) → CellsAt F.cl fr ws s.heap H → Vals xs us →
    sp ws xs H Q E → codeAny (model P w) A (.call (.ref f) ⟨us, []⟩) (CR CX out P w H s Q E) s
section
variable {CX : CXT} {P : Program} {w : World} {K : PySem.W.Frag} {mg : Str → Option Value} {base : Heap} {N ps fr : List Str} {F : LF} {f : Addr} {k j : Nat} {sp sp2 : List (Option V) → Sp}
theorem LOk.mono (o : LOk P w K mg base CX j f F ps fr sp) (le : j ≤ k) : LOk P w K mg base CX k f F ps fr sp := ⟨o.ln, fun A out s H us xs ws Q E r => o.go A out s H us xs ws Q E (r.mono le)⟩
/-- a lambda by its body -/
theorem lok_of (S : NScope N ps fr F.sc) (bnd : ∀ (pm ctv : Value) (us : List Value), us.length = ps.length → bindArgs (PySem.W.kla_fn "<lambda>" F.q F.pa F.bd F.sc F.cl pm (.ref F.c) ctv) ⟨us, []⟩ = pure (ps.zip us)) (ln : ∀ ws xs H Q E, sp ws xs H Q E → xs.length = ps.length)
    (body : ∀ (A : Around) (out : List Env) (s : Shared) (H : Hp) (xs : List V) (ws : List (Option V)) (Q : VK) (E : XK), Room k (A.deeper (envF F.nf f s.heap.objs.size)) → ws.length = fr.length → sp ws xs H Q E → ∃ t, PE (ncx CX P w K mg base N F.nf f A out s H E) F.bd t ∧ t (startF N xs ws) H Q) :
    LOk P w K mg base CX (k + 1) f F ps fr sp := by
  refine ⟨ln, ?_⟩
  intro A out s H us xs ws Q E rm e0 la hc C rv hsp
  obtain ⟨pm, ctv, ho⟩ := la
  have limit : s.heap.NoLimit := e0.mod.nolimit.keeps fun b o e => (e0.bs b o e).1
  refine PySem.W.kla_callFunE rm.depth ho rfl S.co S.gen rfl (codeO_at e0.hok hc) ?_
  rw [bnd pm ctv us (rv.length.symm.trans (ln _ _ _ _ _ hsp))]
  refine wpAny_pure (wpAny_newFunctionEnv S.nocell (fun y hy => S.par y.1 (List.of_mem_zip (show (y.1, y.2) ∈ ps.zip us from hy)).1) (fun h2 ns sb => ⟨limit.fresh _ sb, ?_⟩) S.kind)
  obtain ⟨t, ht, q⟩ := body A out s H xs ws Q E (rm.deeper _) C.len hsp
  have stays : ∀ b o, s.heap.get? b = some o → h2.get? b = some o := fun b o e => sb.extBut b o (fun z => Nat.lt_irrefl _ (z ▸ Heap.lt_size e)) (Heap.get?_push_of_some _ e)
  have I := inv_startN (CX := CX) (N := N) (F := F.nf) (f := f) (E := E) (tk := s.toks + (ps.zip us).length) S rm.hd e0 (ln _ _ _ _ _ hsp) rv C ns stays
  refine PySem.W.kla_codeExpr (wpAny_mono (ht.run [] _ _ H Q I q) (fun v t2 z => ?_) fun _ _ z => z)
  obtain ⟨v2, H2, J, r2, q2⟩ := z
  exact ⟨v2, H2, J.os, J.bare, J.base, J.hok, r2, q2⟩
end
/-- a lambda as a def finds it that was handed it: its object is no callers' frame, what it captured lies in none that is written meanwhile -/
structure Handed (fr : List Str) (out : List Env) (s : Shared) (H : Hp) (g : Addr) (L : LF) (ws : List (Option V)) : Prop where
  la : LamAt s.heap g L
  un : H g = none
  off : g ∉ frs out
  cells : CellsAt L.cl fr ws s.heap H
  apart : ∀ y c, L.cl.lookup y = some c → c ∉ frs out
/-- the promise of a def that is handed a lambda -/
structure FnA (P : Program) (w : World) (K : PySem.W.Frag) (mg : Str → Option Value) (base : Heap) (CX : CXT) (k : Nat) (f : Addr) (fd : FuncData) (ps fr : List Str) (sp : Addr → LF → List (Option V) → Sp) : Prop where
  ln : ∀ g L ws xs H Q E, sp g L ws xs H Q E → xs.length = ps.length
  go : ∀ (A : Around) (out : List Env) (s : Shared) (H : Hp) (ar : Args) (us : List Value) (xs : List V) (g : Addr) (L : LF) (ws : List (Option V)) (Q : VK) (E : XK), Bare0 A → Room k A → Env0 P w K mg base A out s H → BindsTo s fd ar (ps.zip us) → Vals xs us →
    Handed fr out s H g L ws → sp g L ws xs H Q E → codeAny (model P w) A (.call (.ref f) ar) (CR CX out P w H s Q E) s
theorem okA {K : PySem.W.Frag} {P : Program} {w : World} {base : Heap} {mg : Str → Option Value} {x qu : Str} {st : Stmt} {f : Addr} {fd : FuncData} {N ps fr : List Str} {k : Nat} {sp : Addr → LF → List (Option V) → Sp} (F : Fun K x qu st f fd) (S : FnScope N ps (defScope st))
    (ln : ∀ g L ws xs H Q E, sp g L ws xs H Q E → xs.length = ps.length)
    (hb : ∀ (cv : Value) (A : Around) (out : List Env) (s : Shared) (H : Hp) (xs : List V) (g : Addr) (L : LF) (ws : List (Option V)) (Q : VK) (E : XK), Bare0 A → Room k (A.deeper (envOfC qu (defScope st) s.heap.objs.size f cv)) → Handed fr out s H g L ws → sp g L ws xs H Q E →
      ∃ t, PSs (cxOf CX0 P w K mg base N qu (defScope st) f cv A out s H E).nox (defBody st) t ∧ t { nx := fun _ H2 => Q .non H2, rt := Q } (start N xs) H) : FnA P w K mg base CX0 (k + 1) f fd ps fr sp := by
  obtain ⟨oc, od, kV, doc, pm, an, cv, ct, osl, rfl, lk, hc⟩ := F.ex
  refine ⟨ln, fun A out s H ar us xs g L ws Q E bare rm e0 bnd rv hd q => run_ofS lk hc S rm e0 bnd rv (ln _ _ _ _ _ _ _ q) fun rm2 => ?_⟩
  obtain ⟨t, ht, z⟩ := hb cv A out s H xs g L ws Q E bare rm2 hd q
  exact ⟨t, ht.nox, z⟩
/-- a(..), a the slot that holds the lambda -/
def tAsk (i : Nat) (g : Addr) (F : LF) (ws : List (Option V)) (sp : List (Option V) → Sp) (E : XK) (t : TA) : TE := fun σ H Q => σ[i]? = some (some (.ref g)) ∧ t σ H fun xs H1 => H1 F.c = some (CodeO F.c F.q) ∧ sp ws xs H1 Q E
section
variable {X : Cx} {CX : CXT} {F : LF} {g : Addr} {ps fr : List Str} {ws : List (Option V)} {i k : Nat} {x : Str} {sp : List (Option V) → Sp} {E : XK} {t : TA} {e : Expr} {es : List Expr} {p pos : Pos}
theorem pe_ask (Fn : LOk X.prog X.w X.K X.mg X.base CX k g F ps fr sp) (hd : Handed fr X.outer X.s_0 X.H_0 g F ws) (noex : X.ex = []) (rm : Room k X.A) (hx : Passes CX X E) (hN : X.N[i]? = some x) (hv : Vis X.env.scope x) (ha : PA X (e :: es) t)
    (d1 : (x == ("__debug__" : Str)) = false := by decide) (d2 : (x == ("__classdict__" : Str)) = false := by decide)
    (he : starEach (e :: es) X.env = (false, eval e X.env) :: starEach es X.env := by rfl) (hpl : (backTo pos (starEach es X.env)).any (·.1) = false := by rfl) :
    PE X (.Call (.Name x p) (e :: es) [] pos) (tAsk i g F ws sp E t) := by
  have none_ex : ∀ b : Addr, b ∉ X.ex := fun b z => by
    rw [noex] at z
    cases z
  have there : ∀ {pins : List (Addr × Obj)} {σ : L2.St} {H : Hp} {s : Shared}, Inv X pins σ H s → LamAt s.heap g F := fun {pins σ H s} I => by
    obtain ⟨pm, ctv, ho⟩ := hd.la
    exact ⟨pm, ctv, I.base.keep g _ ho hd.un hd.off (none_ex g)⟩
  constructor
  rintro pins s σ H Q I ⟨hs, ht⟩
  refine wpAny_Call_Name_kw (thn ((pe_var (pos := p) hN hv d1 d2).run pins s σ H (fun v H1 => v = .ref g ∧ H1 = H) I ⟨.ref g, hs, rfl, rfl⟩) ?_)
  rintro u s1 ⟨v, H1, I1, r1, rfl, rfl⟩
  obtain rfl : u = Value.ref g := r1
  refine PySem.W.callWith_F (first := []) (there I1).fn (thn (ha.run pos pins s1 σ H1 _ I1 ht) ?_) he hpl
  rintro us s2 ⟨xs, H2, I2, rv, hc, q⟩
  refine ⟨(there I2).fn, ?_⟩
  refine wpAny_call (codeAny_mono (Fn.go X.A X.stack s2 H2 us xs ws Q E rm I2.env0 (there I2) hc (hd.cells.later hd.apart (fun _ c _ => none_ex c) I2) rv q) fun z s3 hz => ?_)
  match z, hz with
  | .error e, hz => exact hx pins σ H2 s2 e s3 I2 hz
  | .ok (.ret u), hz => exact I2.after hz
end
/-- f(lambda.., ..): made and handed -/
def tCallA (T : List (Addr × Str)) (mk : Addr → LF) (js : List Nat) (sp : Addr → LF → List (Option V) → Sp) (E : XK) (t : TA) : TE := fun σ H Q => Tabs T H ∧ ∀ (f c : Addr) (H1 : Hp), ExtN H H1 → Tabs T H1 → H1 c = some (CodeO c (mk c).q) →
  t σ H1 fun xs H2 => sp f (mk c) (js.map (slotAt σ)) (.ref f :: xs) H2 Q E
section
variable {X : Cx} {CX : CXT} {k : Nat} {f : Addr} {fd : FuncData} {ps fr : List Str} {js : List Nat} {sp : Addr → LF → List (Option V) → Sp} {E : XK} {x : Str} {p lp pos : Pos} {es : List Expr} {t : TA} {T : List (Addr × Str)} {c P : Addr} {pa : Arguments} {bd : Expr} {sc : Scope}
theorem pe_callA (bare : Bare0 X.A) (F : FnA X.prog X.w X.K X.mg X.base CX k f fd ps fr sp) (rm : Room k X.A) (hg : Gl X x) (hm : X.mg x = some (.ref f)) (hk : PySem.W.keepIn X.K (.ref f) = true) (hb : Binds X.K fd ps []) (hx : Passes CX X E)
    (TB : TabB X.base X.mg c P) (hcode : X.env.code = .ref c) (hmT : (P, X.env.qual ++ "<lambda>") ∈ T) (hu : ∀ p ∈ T, p.1 = P → p.2 = X.env.qual ++ "<lambda>") (hdef : defaultsOf pa X.env = ([], []))
    (hfree : ∀ y ∈ sc.names, y.2 = .free → X.env.scope.names.lookup y.1 = some .cell ∨ X.env.scope.names.lookup y.1 = some .free) (hfr : ∀ y ∈ fr, (y, NameKind.free) ∈ sc.names) (hjs : js.map (fun j => X.N[j]?) = fr.map some) (own : ∀ y, X.fn y = true)
    (ha : PA X es t) (hdb : (x == ("__debug__" : Str)) = false := by decide) (he : starEach (.Lambda pa bd sc lp :: es) X.env = (false, eval (.Lambda pa bd sc lp) X.env) :: starEach es X.env := by rfl) (hpl : (backTo pos (starEach es X.env)).any (·.1) = false := by rfl) :
    PE X (.Call (.Name x p) (.Lambda pa bd sc lp :: es) [] pos) (tCallA T (fun c => ⟨X.env.qual ++ "<lambda>", pa, bd, sc, cloFrom X.env.cells sc.names [], c⟩) js sp E t) := by
  constructor
  rintro pins s σ H Q I ⟨hT, h⟩
  refine wpAny_Call_Name_kw (ld_glob I hg hm ?_ hdb)
  refine PySem.W.callWith_K (h₀ := X.base) I.ok.mod.kin hk ?_ he hpl
  rw [he]
  show wpAny _ _ (spliced ((false, eval (.Lambda pa bd sc lp) X.env) :: backTo pos (starEach es X.env))) _ _ s
  refine Calls.spliced_cons (lam_make2 I TB hcode hmT hu hT hdef (fun y hy e => (hfree y hy e).elim (fun z => I.ok.has _ (.inl z)) fun z => I.ok.has _ (.inr z)) ?_)
  intro g c2 pm ctv H1 s1 I1 eN T1 hg1 un1 off1 hc2
  -- the lambda's object is kept an eye on while the other arguments are worked out
  have nl : g ≠ X.env.locals := fun z => by
    obtain ⟨m, ⟨o, es', ep, e1, e2, _⟩, _⟩ := I1.loc
    rw [← z, hg1] at e1
    cases e1
    cases e2
  have nfs : g ∉ X.fs := fun z => off1 (by
    rcases I1.ok.stk with e | ⟨e, hf⟩
    · rw [e]
      exact z
    · rw [e]
      unfold frs
      rw [List.filterMap_cons, hf]
      exact List.mem_cons_of_mem _ z)
  generalize hob : PySem.W.kla_obj "<lambda>" (X.env.qual ++ "<lambda>") pa bd sc (cloFrom X.env.cells sc.names []) pm c2 ctv = ob at hg1
  have pins2 : ∀ q ∈ X.pn ++ (pins ++ [(g, ob)]), s1.heap.get? q.1 = some q.2 ∧ H1 q.1 = none ∧ q.1 ≠ X.env.locals ∧ q.1 ∉ X.fs ∧ ∀ v, q.2.data ≠ .cell v := by
    intro q hq
    rcases List.mem_append.mp hq with hq | hq
    · exact I1.pin q (List.mem_append_left _ hq)
    · rcases List.mem_append.mp hq with hq | hq
      · exact I1.pin q (List.mem_append_right _ hq)
      · rw [List.mem_singleton.mp hq]
        exact ⟨hg1, un1, nl, nfs, fun v z => by rw [← hob] at z; cases z⟩
  have I2 : Inv X (pins ++ [(g, ob)]) σ H1 s1 := ⟨I1.ok, I1.os, I1.bare, I1.base, I1.loc, I1.cell, I1.free, I1.freeC, pins2, I1.hok, I1.len⟩
  refine thn (ha.run pos _ s1 σ H1 _ I2 (h g c2 H1 eN T1 hc2)) ?_
  rintro us s2 ⟨xs, H2, J, rv, q⟩
  have hp := J.pin (g, _) (List.mem_append_right _ (List.mem_append_right _ (List.mem_singleton.mpr rfl)))
  have J2 : Inv X pins σ H2 s2 := J.unpinned
  refine ⟨J2.kIn, ?_⟩
  have cp := Caps.made (fr := fr) (js := js) J2.ok hfree hfr hjs
  have hd : Handed fr X.stack s2 H2 g ⟨X.env.qual ++ "<lambda>", pa, bd, sc, cloFrom X.env.cells sc.names [], c2⟩ (js.map (slotAt σ)) := by
    refine ⟨⟨pm, ctv, hp.1.trans (congrArg some hob.symm)⟩, hp.2.1, off1, cells_of J2 cp, fun y d hy z => ?_⟩
    have hy' := cp.sub y d hy
    rcases List.mem_cons.mp (J2.stkSub d z) with e | e
    · exact J2.cne y d hy' e
    · obtain ⟨_, o, ho, _⟩ := J2.ok.funs.mem e
      exact Nat.lt_irrefl _ (Nat.lt_of_lt_of_le (Heap.lt_size ho) (J2.ok.cab y d (own y) hy'))
  have b := hb s2 (.ref g :: us) J2.kIn (by rw [List.append_nil, List.length_cons, ← rv.length]; exact F.ln _ _ _ _ _ _ _ q)
  rw [List.append_nil] at b
  refine wpAny_call (codeAny_mono (F.go X.A X.stack s2 H2 ⟨.ref g :: us, []⟩ (.ref g :: us) (.ref g :: xs) g _ _ Q E bare rm J2.env0 b (.cons rfl rv) hd q) fun z s3 hz => ?_)
  match z, hz with
  | .error e, hz => exact hx pins σ H2 s2 e s3 J2 hz
  | .ok (.ret u), hz => exact J2.after hz
end
end LamP
end
-- WReprT
section
set_option Elab.async false
set_option linter.all false
set_option maxRecDepth 100000
set_option maxHeartbeats 2000000
/-! repr of what a function tells: data without dicts, or a dict keyed by tuples whose values are ints -/
namespace Wr
open PySem PySem.Spec PyProof PyProof.Rows L2
def keyD : L2.Key → PyData
  | .inl i => .int i
  | .inr x => .str x
def dictD (kvs : List (List L2.Key × Int)) : PyData := .dict (kvs.map fun e => (.tuple (e.1.map keyD), .int e.2))
/-- how it is shown -/
def ShowsAs (K : PySem.W.Frag) (H : Hp) (v : V) (t : Str) : Prop := (∃ (a : Addr) (d : PyData), v = .ref a ∧ Dp K H (.ref a) d ∧ d.showable = true ∧ d.hasDict = false ∧ d.depth ≤ 60 ∧ d.shown.length ≤ sizeLine ∧ t = d.shown) ∨
  (∃ (a : Addr) (kvs : List (List L2.Key × Int)), v = .ref a ∧ H a = some (.dT (kvs.map fun e => (e.1, V.int e.2))) ∧ (dictD kvs).showable = true ∧ (dictD kvs).shown.length ≤ sizeLine ∧ t = (dictD kvs).shown) ∨
  ∃ b : Bool, v = .bl b ∧ t = (if b = true then Str.ofString "True" else Str.ofString "False")
section
variable {X : Cx} {pins : List (Addr × Obj)} {σ : L2.St} {H : Hp} {s : Shared}
theorem reads_key {h : Heap} : ∀ {ks : List L2.Key} {us : List Value}, Vals (ks.map kV) us → ReadsAll h us (ks.map keyD) []
  | [], us, r => by
    cases r
    exact .nil
  | k :: ks, us, r => by
    rw [List.map_cons] at r
    cases r with
    | cons e t =>
      have h2 := reads_key (h := h) t
      cases k with
      | inl i =>
        obtain ⟨tk, rfl⟩ := e
        exact .cons (as := []) (bs := []) (.int i tk) h2
      | inr x =>
        obtain ⟨tk, rfl⟩ := e
        exact .cons (as := []) (bs := []) (.str x tk) h2
theorem reads_dT {P : Program} {w : World} {h : Heap} (hok : HOk P w H h) : ∀ {kvs : List (List L2.Key × Int)} {xs : List (List L2.Key × Addr × Value)}, Paired (fun (p : List L2.Key × V) (q : List L2.Key × Addr × Value) => p.1 = q.1 ∧ H q.2.1 = some (.tup (p.1.map kV)) ∧ RelV p.2 q.2.2) (kvs.map fun e => (e.1, V.int e.2)) xs →
    ReadsAll h (xs.map fun x => Value.ref x.2.1) (kvs.map fun e => PyData.tuple (e.1.map keyD)) [] ∧ ReadsAll h (xs.map fun x => x.2.2) (kvs.map fun e => PyData.int e.2) []
  | [], xs, r => by
    cases r
    exact ⟨.nil, .nil⟩
  | e :: kvs, xs, r => by
    rw [List.map_cons] at r
    cases r with
    | cons z t =>
      obtain ⟨z1, z2, z3⟩ := z
      obtain ⟨r1, r2⟩ := reads_dT hok t
      obtain ⟨_, its, rv, o, g1, g2, n, g3⟩ := (show ObjOk P w H h _ (.tup (e.1.map kV)) from hok _ _ z2)
      refine ⟨.cons (as := []) (bs := []) (.tuple g1 g2 g3 (by simpa using reads_key rv)) r1, ?_⟩
      obtain ⟨tk, e2⟩ := z3
      refine .cons (as := []) (bs := []) ?_ r2
      dsimp only
      rw [e2]
      exact .int e.2 tk
/-- repr(x) -/
def rReprS (K : PySem.W.Frag) : List V → Hp → VK → Prop := fun vs H Q => ∃ (v : V) (t : Str), vs = [v] ∧ ShowsAs K H v t ∧ Q (.str t) H
theorem cr_reprS (hA : Bare0 X.A) (hu : X.A.units + 64 < cLine) : CallR X (.builtin "repr") (rReprS X.K) := by
  rintro pins s σ H xs us Q I r ⟨v, t, rfl, hs, q⟩
  cases r with
  | cons r0 rt =>
    cases rt
    rcases hs with ⟨a, d, rfl, hd, h1, h2, h3, h4, rfl⟩ | ⟨a, kvs, rfl, ha, h1, h2, rfl⟩ | ⟨bb, rfl, rfl⟩
    · cases r0
      obtain ⟨as, rd⟩ := Dp.reads I d (.ref a) (.ref a) hd rfl
      exact repr_of_reads' rd h1 (PyData.noDict_hsm h2) hA (by omega) (fun _ _ e => e) (fun h' u tk hk => ⟨.str d.shown, H, I.kept hk, ⟨u, rfl⟩, q⟩) h4
    · cases r0
      obtain ⟨hz, hs0, ys, kv, o, es, ep, e1, e2, e3, e4, e5⟩ := (show ObjOk X.prog X.w H s.heap a (.dT _) from I.hok a _ ha)
      obtain ⟨r1, r2⟩ := reads_dT I.hok kv
      have rd : Reads s.heap (.ref a) (dictD kvs) (a :: [] ++ []) := by
        unfold dictD
        refine .dict e1 e2.1 e3 ?_ ?_
        · rw [e4, List.map_map, List.map_map]
          exact r1
        · rw [e4, List.map_map, List.map_map]
          exact r2
      have hdep : (dictD kvs).depth ≤ 60 := by
        unfold dictD
        simp only [PyData.depth]
        have key : ∀ ks : List L2.Key, PyData.depthAll (ks.map keyD) = 0 := by
          intro ks
          induction ks with
          | nil => simp [PyData.depthAll]
          | cons k ks ih =>
            rw [List.map_cons]
            simp only [PyData.depthAll, ih]
            cases k <;> simp [keyD, PyData.depth]
        have : ∀ l : List (List L2.Key × Int), PyData.depthKv (l.map fun e => (PyData.tuple (e.1.map keyD), PyData.int e.2)) ≤ 1 := by
          intro l
          induction l with
          | nil => simp [PyData.depthKv]
          | cons e l ih =>
            rw [List.map_cons]
            simp only [PyData.depthKv, PyData.depth, key]
            omega
        have := this kvs
        omega
      refine repr_of_reads' rd h1 (fun _ z => ?_) hA (by omega) (fun _ _ e => e) (fun h' u tk hk => ⟨.str (dictD kvs).shown, H, I.kept hk, ⟨u, rfl⟩, q⟩) h2
      simp at z
      rw [← z] at hs0
      simp at hs0
    · cases r0
      exact PySem.P.repr_of_bool ⟨.str (if bb = true then Str.ofString "True" else Str.ofString "False"), H, I.tok _, ⟨_, rfl⟩, q⟩
end
end Wr
end
-- WUpd
section
set_option Elab.async false
set_option linter.all false
set_option maxRecDepth 100000
set_option maxHeartbeats 4000000
/-! d.update(l), l a list of pairs (k, v) whose keys are ints or texts -/
namespace Wu
open PySem PySem.Spec PyProof.Rows L2
section
variable {X : Cx}
theorem pairs2_of {pins : List (Addr × Obj)} {σ : L2.St} {H : Hp} {s : Shared} (I : Inv X pins σ H s) : ∀ {ps : List Addr} {kvs : List (Key × V)}, Paired (fun p kv => SqT X.K H p [kV kv.1, kv.2]) ps kvs →
    ∃ (prs : List (Key × Value)) (zs : List (Value × Value)), KV kvs prs ∧ prs.length = ps.length ∧ zs.length = ps.length ∧ ∀ (j : Nat) (z : Value × Value), zs[j]? = some z → ∃ b q, ps[j]? = some b ∧ prs[j]? = some q ∧ q.2 = z.2 ∧ IsTup s.heap b #[z.1, z.2] ∧ keyIs q.1 z.1 = true
  | _, _, .nil => ⟨[], [], .nil, rfl, rfl, fun j q e => by simp at e⟩
  | _, _, .cons (a := p) (b := kv) h t => by
    obtain ⟨prs, zs, r, hl, hz, hp⟩ := pairs2_of I t
    obtain ⟨its, rv, ht, _⟩ := I.tuple h
    obtain ⟨u, y, rfl, ru, ry⟩ := vals2 rv
    refine ⟨(kv.1, y) :: prs, (u, y) :: zs, .cons ⟨rfl, ry⟩ r, by rw [List.length_cons, List.length_cons, hl], by rw [List.length_cons, List.length_cons, hz], fun j z e => ?_⟩
    cases j with
    | zero =>
      obtain rfl := Option.some.inj e
      exact ⟨p, (kv.1, y), rfl, rfl, rfl, ht, kV_is (P := X.prog) (w := X.w) ru⟩
    | succ j => exact hp j z e
/-- later pairs win -/
def rUpdP (K : PySem.W.Frag) : V → List V → Hp → VK → Prop := fun x xs H Q => ∃ (d a : Addr) (ps : List Addr) (old kvs : List (Key × V)), x = .ref d ∧ xs = [.ref a] ∧ H d = some (.dK old) ∧ SqL K H a (ps.map V.ref) ∧ Paired (fun p kv => SqT K H p [kV kv.1, kv.2]) ps kvs ∧
  old.length + kvs.length ≤ 100000 ∧ Q .non (upd H d (.dK (mergeK old kvs)))
theorem mt_updP (hcalm : X.calm = true) : MtR X "dict.update" (rUpdP X.K) := by
  rintro pins s σ H x xs v us Q I rx r ⟨d, a, ps, old, kvs, rfl, rfl, hd, hq, hp, hl, q⟩
  obtain ⟨u1, rfl, r1⟩ := vals1 r
  cases rx
  cases r1
  obtain ⟨z1, s1, vs, rel, d1⟩ := dk_of I.hok hd
  obtain ⟨its, rv, pl, hz⟩ := I.list hq
  have ei := refs_at rv
  subst ei
  rw [List.length_map] at hz
  obtain ⟨prs, zs, rel2, hl2, hz2, hpr⟩ := pairs2_of I hp
  obtain ⟨o, n, ho, hc, hdn, hdat⟩ := pl
  have lv : vs.length = old.length := rel.length.symm
  have lp : prs.length = kvs.length := rel2.length.symm
  obtain ⟨od, esd, epd, hod, hdd, rest⟩ := id d1
  have items : PairItems s.heap (ps.map Value.ref).toArray (fun j => ps.getD j 0) zs := by
    refine ⟨by simp [hz2], fun j k v e => ?_⟩
    obtain ⟨b, q0, e1, e2, e3, e4, e5⟩ := hpr j (k, v) e
    have eb : ps.getD j 0 = b := by rw [List.getD_eq_getElem?_getD, e1]; rfl
    show _ = some (Value.ref (ps.getD j 0)) ∧ PairAt s.heap (ps.getD j 0) k v
    rw [eb]
    exact ⟨by simp [e1], .inl e4⟩
  have dict_ne : ∀ {b : Addr} {t : String} {ob : Obj}, s.heap.get? b = some ob → ob.cls = .type t → t ≠ "dict" → d ≠ b := fun {b t ob} e1 e2 ne z => by
    rw [← z] at e1
    obtain ⟨o2, h2, h3⟩ := d1.typeIs
    have : ob = o2 := Option.some.inj (e1.symm.trans h2)
    rw [this, h3] at e2
    injection e2 with e2
    exact ne e2.symm
  refine call_update_pairs (knd := mixKind X.prog X.w) (acc := vs) (kvs := prs) (PairArg.list a (ps.map Value.ref).toArray (fun j => ps.getD j 0) zs) (I.ok.hd hcalm) ⟨⟨o, n, ho, hc, hdn, hdat⟩, items⟩ ?_ ⟨by rw [hl2, hz2], fun i key v h => ?_⟩ d1 ?_ fun h' tk e1 e2 => ?_
  · intro z
    rcases List.mem_cons.mp z with z | z
    · exact dict_ne ho hc (by decide) z
    · obtain ⟨j, hj, z⟩ := List.mem_map.mp z
      rw [List.mem_range] at hj
      obtain ⟨o3, h3, c3⟩ := (items.2 j zs[j].1 zs[j].2 (List.getElem?_eq_getElem hj)).2.there
      exact c3.elim (fun c3 => dict_ne h3 c3 (by decide) z.symm) fun c3 => dict_ne h3 c3 (by decide) z.symm
  · obtain ⟨b, q0, g1, g2, g3, g4, g5⟩ := hpr i (key, v) h
    refine ⟨q0.1, ?_, g5⟩
    have g3' : q0.2 = v := g3
    rw [g2, ← g3']
  · rw [lv, hz2, ← hl2, lp]
    exact Nat.le_trans hl (by decide)
  · have he : ∃ o, h'.get? d = some o := let ⟨o, _, _, ho, _⟩ := e1; ⟨o, ho⟩
    have hln : (mergeK old kvs).length ≤ sizeLine := Nat.le_trans (length_mergeK kvs old) (Nat.le_trans hl (by decide))
    exact ⟨.non, _, I.write (x := d) (e := d) (by rw [hd]; exact True.intro) (.inl rfl) (fun b u nb z => e2 b u nb (by simp) z) he (dk_new hln s1 (KV.merge rel2 rel) e1), rfl, q⟩
end
end Wu
end
-- UFrm
section
set_option Elab.async false
set_option linter.all false
set_option maxRecDepth 100000
set_option maxHeartbeats 1000000
namespace K1
open PySem PySem.Spec PyProof.Rows L2 W0
theorem putK_new {kvs : List (Key × V)} {k : Key} {v : V} (h : k ∉ kvs.map (·.1)) : putK kvs k v = kvs ++ [(k, v)] := by
  unfold putK
  rw [if_neg]
  intro z
  rw [List.any_eq_true] at z
  obtain ⟨e, he, hk⟩ := z
  exact h (List.mem_map.mpr ⟨e, he, of_decide_eq_true hk⟩)
theorem str_at {ss : List Str} {i : Nat} {x : V} (e : (ss.map V.str)[i]? = some x) : ∃ h : i < ss.length, x = .str ss[i] := by
  rw [List.getElem?_map] at e
  rcases Nat.lt_or_ge i ss.length with hi | hi
  · rw [List.getElem?_eq_getElem hi] at e
    exact ⟨hi, (Option.some.inj e).symm⟩
  · rw [List.getElem?_eq_none hi] at e
    cases e
theorem snoc_paired {α β : Type} {F G : α → β → Prop} {a : α} {b : β} (h : G a b) : ∀ {xs : List α} {ys : List β}, Paired F xs ys → (∀ x y, x ∈ xs → F x y → G x y) → Paired G (xs ++ [a]) (ys ++ [b])
  | _, _, .nil, _ => .cons h .nil
  | _, _, .cons f r, k => .cons (k _ _ (List.mem_cons_self ..) f) (snoc_paired h r fun x y hx => k x y (List.mem_cons_of_mem _ hx))
theorem merge_new : ∀ {ps : List (Key × V)} {acc : List (Key × V)}, (∀ p ∈ ps, p.1 ∉ acc.map (·.1)) → (ps.map (·.1)).Nodup → mergeK acc ps = acc ++ ps
  | [], acc, _, _ => by
    show acc = acc ++ []
    rw [List.append_nil]
  | p :: ps, acc, h1, h2 => by
    rw [List.map_cons, List.nodup_cons] at h2
    have h0 := h1 p (List.mem_cons_self ..)
    show mergeK (putK acc p.1 p.2) ps = _
    rw [putK_new h0, merge_new (fun q hq => ?_) h2.2, List.append_assoc]
    · rfl
    · rw [List.map_append, List.mem_append]
      rintro (z | z)
      · exact h1 q (List.mem_cons_of_mem _ hq) z
      · have z : q.1 = p.1 := List.mem_singleton.mp z
        exact h2.1 (List.mem_map.mpr ⟨q, hq, z⟩)
structure Frm (H : Hp) (t p1 p2 : Addr) (x3 : V) (qs : List Addr) (ss : List Str) (rs : List (Str × Str)) : Prop where
  t0 : H t = some (.lst [.ref p1, .ref p2, x3])
  h1 : H p1 = some (.lst (ss.map V.str))
  h2 : H p2 = some (.lst (qs.map V.ref))
  pr : Paired (TupP H) qs rs
  tr : Tree ss rs
  ls : ss.length ≤ 60
  ok : ∀ s ∈ ss, nameOk s = true
theorem Frm.lr {H : Hp} {t p1 p2 : Addr} {x3 : V} {qs : List Addr} {ss : List Str} {rs : List (Str × Str)} (f : Frm H t p1 p2 x3 qs ss rs) : rs.length ≤ 60 := by
  have := f.tr.len
  have := f.ls
  omega
theorem Frm.same {H H' : Hp} {t p1 p2 : Addr} {x3 : V} {qs : List Addr} {ss : List Str} {rs : List (Str × Str)} (f : Frm H t p1 p2 x3 qs ss rs) (e : Same H H') : Frm H' t p1 p2 x3 qs ss rs :=
  ⟨e _ _ f.t0, e _ _ f.h1, e _ _ f.h2, TupP.ext f.pr e, f.tr, f.ls, f.ok⟩
theorem valV_no {kvs : List (Key × V)} {k : Key} (h : k ∉ kvs.map (·.1)) : valV kvs k = none := by
  unfold valV
  rw [List.find?_eq_none.mpr]
  · rfl
  · intro p hp z
    exact h (List.mem_map.mpr ⟨p, hp, of_decide_eq_true z⟩)
theorem asg_run {te : TE} {g : TG} {D : Ends} {σ : L2.St} {H : Hp} (h : te σ H fun x H1 => g x σ H1 D.nx) : tAsg te g D σ H := h
theorem cb_run {r : List V → Hp → VK → Prop} {t : TA} {σ : L2.St} {H : Hp} {Q : VK} (h : t σ H fun vs H1 => r vs H1 Q) : tCB r t σ H Q := h
theorem call_run {sp : Sp} {dvs : List V} {E : XK} {t : TA} {σ : L2.St} {H : Hp} {Q : VK} (h : t σ H fun vs H1 => sp (vs ++ dvs) H1 Q E) : tCall sp dvs E t σ H Q := h
end K1
end
-- VParts
section
set_option Elab.async false
set_option linter.all false
set_option maxRecDepth 100000
set_option maxHeartbeats 2000000
namespace K1
open PySem PySem.Spec PyProof.Rows L2 W0
def rLst (K : PySem.W.Frag) : List V → Hp → VK → Prop := fun xs H Q => ∃ p ys, xs = [V.ref p] ∧ (SqL K H p ys ∨ SqT K H p ys) ∧ ∀ l, H l = none → Q (.ref l) (L2.upd H l (.lst ys))
theorem paired_maps {α β γ δ : Type} {f : α → γ} {g : β → δ} {F : γ → δ → Prop} : ∀ {xs : List α} {ys : List β}, Paired (fun x y => F (f x) (g y)) xs ys → Paired F (xs.map f) (ys.map g)
  | _, _, .nil => .nil
  | _, _, .cons h t => .cons h (paired_maps t)
end K1
end
-- EVc
section
set_option Elab.async false
set_option linter.all false
set_option maxRecDepth 100000
set_option maxHeartbeats 2000000
namespace K1
open PySem PySem.Spec PyProof.Rows L2 W0 Wr LamP
abbrev sVc : Stmt := top 60
/-- an asker that is handed a list of these things shows t -/
def Asks (K : PySem.W.Frag) (spA : List (Option V) → Sp) (ws : List (Option V)) (H : Hp) (us : List V) (t : Str) : Prop := ∀ (p : Addr) (H1 : Hp) (Q : VK), Same H H1 → H1 p = some (.lst us) → (∀ v H2, Same H1 H2 → ShowsAs K H2 v t → Q v H2) → spA ws [.ref p] H1 Q E0
/-- the words of the lambda -/
def IsL (q : Str) (pa : Arguments) (bd : Expr) (sc : Scope) (L : LF) : Prop := ∃ cl c, L = ⟨q, pa, bd, sc, cl, c⟩
def spVc (K : PySem.W.Frag) (spA : List (Option V) → Sp) (I : LF → Prop) : Addr → LF → List (Option V) → Sp := fun g L ws vs H Q _ => ∃ (p1 p2 : Addr) (us1 us2 : List V) (t1 t2 : Str), vs = [.ref g, .ref p1, .ref p2] ∧ I L ∧ H L.c = some (LamX.CodeO L.c L.q) ∧ H p1 = some (.lst us1) ∧ H p2 = some (.lst us2) ∧ us1.length ≤ 1000 ∧ us2.length ≤ 1000 ∧
  Asks K spA ws H us1 t1 ∧ Asks K spA ws H us2 t2 ∧ ∀ H', Same H H' → Q (.bl true) H'
theorem scVc : FnScope ["ask", "mine", "theirs", "held", "told"] ["ask", "mine", "theirs"] (defScope sVc) := ⟨rfl, rfl, rfl, by decide +kernel, rfl, by decide +kernel, by decide +kernel⟩
section
variable {P : Program} {w : World} {K : PySem.W.Frag} {mg : Str → Option Value} {base : Heap}
theorem ok_Vc {spA : List (Option V) → Sp} {Il : LF → Prop} {k : Nat} {f : Addr} {fd : FuncData} {ps fr : List Str} (F : Fun K "_law_v_changed" "_law_v_changed" sVc f fd) (B : Bl mg) (mrp : mg "repr" = none)
    (GA : ∀ g L, Il L → LOk P w K mg base CX0 k g L ps fr spA) : FnA P w K mg base CX0 (k + 1) f fd ["ask", "mine", "theirs"] fr (spVc K spA Il) := by
  refine okA F scVc (fun g L ws xs H Q E h => ?_) (fun cdv A outer s H vs g L ws Q E hA hr hd h => ?_)
  · obtain ⟨p1, p2, us1, us2, t1, t2, rfl, _⟩ := h
    rfl
  obtain ⟨p1, p2, us1, us2, t1, t2, rfl, il, hc, h1, h2, l1, l2, a1, a2, q⟩ := h
  have nd := scVc.nd
  have hu : (A.deeper (envOfC "_law_v_changed" (defScope sVc) s.heap.objs.size f cdv)).units + 64 < cLine := hr.units
  have G := GA g L il
  refine ⟨_, (pss_cons (by exact (ps_set (i := 3) nd rfl (.inl rfl) (pe_ifExp (pt_val (pe_callB call_isi rfl B.isi PyProof.Rows.boot_isinstance (pa_cons (pv 1) (pa_cons (pe_bltn (v := .ty "dict") rfl B.dict PyProof.Rows.boot_dict rfl) pa_nil)))) (pe_callTy (call_dictP rfl) rfl B.dict PyProof.Rows.boot_dict (pa_cons (LiI.pe_listItems rfl (pv 1) rfl B.list PyProof.Rows.boot_list) pa_nil)) (pe_callTy (r := rLst K) call_list_of rfl B.list PyProof.Rows.boot_list (pa_cons (pv 1) pa_nil)))))
  (pss_cons (by exact (ps_set (i := 4) nd rfl (.inl rfl) (pe_lst (pa_cons (pe_callB (cr_reprS hA hu) rfl mrp (by decide +kernel) (pa_cons (pe_ask (i := 0) G hd rfl hr pass0 rfl (.inl rfl) (pa_cons (pv 3) pa_nil)) pa_nil)) pa_nil))))
  (pss_cons (by exact (ps_expr (pe_bm0 PySem.F.plainAttrs_list PySem.F.slot_list_clear PySem.F.type_list_clear mt_clear (pv 3))))
  (pss_cons (by exact (ps_if (pt_val (pe_callB call_isi rfl B.isi PyProof.Rows.boot_isinstance (pa_cons (pv 2) (pa_cons (pe_bltn (v := .ty "dict") rfl B.dict PyProof.Rows.boot_dict rfl) pa_nil)))) (pss_one (by exact (ps_expr (pe_bm PySem.F.plainAttrs_dict PySem.F.slot_dict_update PySem.F.type_dict_update (Wu.mt_updP rfl) (pv 3) (pa_cons (pv 2) pa_nil))))) (pss_one (by exact (ps_expr (pe_bm PySem.F.plainAttrs_list PySem.F.slot_list_extend PySem.F.type_list_extend mt_extend (pv 3) (pa_cons (pv 2) pa_nil)))))))
  (pss_cons (by exact (ps_expr (pe_bm PySem.F.plainAttrs_list PySem.F.slot_list_append PySem.F.type_list_append mt_append (pv 4) (pa_cons (pe_callB (cr_reprS hA hu) rfl mrp (by decide +kernel) (pa_cons (pe_ask (i := 0) G hd rfl hr pass0 rfl (.inl rfl) (pa_cons (pv 3) pa_nil)) pa_nil)) pa_nil))))
  (pss_one (by exact (ps_ret (pe_cmpR (op_eqV hu) (pv 4) (pe_lst (pa_cons (pe_callB (cr_reprS hA hu) rfl mrp (by decide +kernel) (pa_cons (pe_ask (i := 0) G hd rfl hr pass0 rfl (.inl rfl) (pa_cons (pv 1) pa_nil)) pa_nil)) (pa_cons (pe_callB (cr_reprS hA hu) rfl mrp (by decide +kernel) (pa_cons (pe_ask (i := 0) G hd rfl hr pass0 rfl (.inl rfl) (pa_cons (pv 2) pa_nil)) pa_nil)) pa_nil))) (nomark _)))))))))), ?_⟩
  have tl : ∀ {Hx : Hp} {p : Addr} {us : List V}, Hx p = some (.lst us) → TyX K Hx (.ref p) (.type "list") := fun h => .base (.lst h)
  have kl := kit_dict (K := K) (t := "list") (by decide)
  refine ⟨_, rfl, .ref p1, _, _, _, _, rfl, .ty "dict", tl h1, kl, _, rfl, iteF ?_⟩
  refine ⟨_, rfl, p1, us1, rfl, .inl (SqL.of h1), fun l hl => ?_⟩
  have e1 := K1.Same.upd (H := H) (p := l) (o := .lst us1) hl
  have gl := upd_same' H l (.lst us1)
  generalize L2.upd H l (.lst us1) = H1 at e1 gl ⊢
  refine K1.gN ?_
  with_reducible refine sQ ?_
  have lp2 : l ≠ p2 := fun z => by rw [z, h2] at hl; cases hl
  have lp1 : l ≠ p1 := fun z => by rw [z, h1] at hl; cases hl
  have lc : l ≠ L.c := fun z => by rw [z, hc] at hl; cases hl
  -- the first answer
  refine ⟨rfl, _, rfl, e1 _ _ hc, a1 l H1 _ e1 gl fun v1 H2 e2 sh1 => ⟨v1, t1, rfl, sh1, (by show 1 ≤ sizeLine; decide), fun r hr0 => ?_⟩⟩
  have e12 := e1.trans e2
  have e3 := K1.Same.upd (H := H2) (p := r) (o := .lst [.str t1]) hr0
  have gr := upd_same' H2 r (.lst [.str t1])
  generalize L2.upd H2 r (.lst [.str t1]) = H3 at e3 gr ⊢
  have rl : r ≠ l := fun z => by rw [z, e2 _ _ gl] at hr0; cases hr0
  have r0 : H r = none := e12.free hr0
  refine K1.gN ?_
  with_reducible refine sQ ?_
  have e13 := e12.trans e3
  have gl3 : H3 l = some (.lst us1) := e3 _ _ (e2 _ _ gl)
  -- the list is emptied, and filled again
  refine ⟨_, rfl, .inl ⟨rfl, _, SqL.of gl3⟩, l, us1, rfl, rfl, gl3, ?_⟩
  have e14 : Same H (L2.upd H3 l (.lst [])) := ps_same_upd e13 hl
  have gl4 := upd_same' H3 l (.lst [])
  have gr4 : L2.upd H3 l (.lst []) r = some (.lst [.str t1]) := (upd_ne rl).trans gr
  generalize L2.upd H3 l (.lst []) = H4 at e14 gl4 gr4 ⊢
  with_reducible refine sQ ?_
  refine ⟨_, rfl, .ref p2, _, _, _, _, rfl, .ty "dict", tl (e14 _ _ h2), kl, _, rfl, iteF ?_⟩
  refine ⟨_, rfl, .inl ⟨rfl, _, SqL.of gl4⟩, _, rfl, l, p2, _, _, rfl, rfl, gl4, e14 _ _ h2, Nat.le_of_lt (small1000 (by simpa using l2)), ?_⟩
  rw [List.nil_append]
  have e15 : Same H (L2.upd H4 l (.lst us2)) := ps_same_upd e14 hl
  have gl5 := upd_same' H4 l (.lst us2)
  have gr5 : L2.upd H4 l (.lst us2) r = some (.lst [.str t1]) := (upd_ne rl).trans gr4
  generalize L2.upd H4 l (.lst us2) = H5 at e15 gl5 gr5 ⊢
  refine nQ ?_
  with_reducible refine sQ ?_
  -- the second answer
  refine ⟨_, rfl, .inl ⟨rfl, _, SqL.of gr5⟩, rfl, _, rfl, e15 _ _ hc, a2 l H5 _ e15 gl5 fun v2 H6 e6 sh2 => ⟨v2, t2, rfl, sh2, r, _, _, rfl, rfl, e6 _ _ gr5, (by show 1 < sizeLine; decide), ?_⟩⟩
  have e16 := e15.trans e6
  have e17 : Same H (L2.upd H6 r (.lst ([V.str t1] ++ [V.str t2]))) := ps_same_upd e16 r0
  have gr7 := upd_same' H6 r (.lst ([V.str t1] ++ [V.str t2]))
  generalize L2.upd H6 r (.lst ([V.str t1] ++ [V.str t2])) = H7 at e17 gr7 ⊢
  refine ⟨_, rfl, rfl, _, rfl, e17 _ _ hc, a1 p1 H7 _ e17 (e17 _ _ h1) fun v3 H8 e8 sh3 => ⟨v3, t1, rfl, sh3, ?_⟩⟩
  have e18 := e17.trans e8
  refine ⟨rfl, _, rfl, e18 _ _ hc, a2 p2 H8 _ e18 (e18 _ _ h2) fun v4 H9 e9 sh4 => ⟨v4, t2, rfl, sh4, (by show 2 ≤ sizeLine; decide), fun z hz => ?_⟩⟩
  have e10 := K1.Same.upd (H := H9) (p := z) (o := .lst [.str t1, .str t2]) hz
  have gz := upd_same' H9 z (.lst [.str t1, .str t2])
  generalize L2.upd H9 z (.lst [.str t1, .str t2]) = H10 at e10 gz ⊢
  refine ⟨1, by decide, .inl ⟨r, z, _, _, rfl, rfl, SqL.of (e10 _ _ (e9 _ _ (e8 _ _ gr7))), SqL.of gz, .cons (.inl ⟨rfl, rfl⟩) (.cons (.inl ⟨rfl, rfl⟩) .nil)⟩, ?_⟩
  exact q _ (e18.trans (e9.trans e10))
end
end K1
end
-- EKw
section
set_option Elab.async false
set_option linter.all false
set_option maxRecDepth 100000
set_option maxHeartbeats 1000000
namespace K1
open PySem PySem.Spec PyProof.Rows L2 W0
/-! what is the same, to a depth -/
def RF : Nat → RelE
  | 0 => fun _ _ _ => False
  | n + 1 => NextF (RF n)
theorem r_str {R : RelE} {H : Hp} (s : Str) : NextF R H (.str s) (.str s) := .inl ⟨rfl, .inr (.inr (.inl ⟨s, rfl⟩))⟩
theorem r_int {R : RelE} {H : Hp} (i : Int) : NextF R H (.int i) (.int i) := .inl ⟨rfl, .inl ⟨i, rfl⟩⟩
theorem r_bl {R : RelE} {H : Hp} (b : Bool) : NextF R H (.bl b) (.bl b) := .inl ⟨rfl, .inr (.inl ⟨b, rfl⟩)⟩
theorem r_strs {R : RelE} {H : Hp} : ∀ ss : List Str, Paired (NextF R H) (ss.map V.str) (ss.map V.str)
  | [] => .nil
  | s :: ss => .cons (r_str s) (r_strs ss)
theorem r_ints {R : RelE} {H : Hp} : ∀ ss : List Int, Paired (NextF R H) (ss.map V.int) (ss.map V.int)
  | [] => .nil
  | s :: ss => .cons (r_int s) (r_ints ss)
theorem r_lists {R : RelE} {H : Hp} {p q : Addr} {xs ys : List V} (h1 : H p = some (.lst xs)) (h2 : H q = some (.lst ys)) (l : xs.length ≤ 100) (r : Paired (R H) xs ys) : NextF R H (.ref p) (.ref q) := .inr (.inl ⟨p, q, xs, ys, rfl, rfl, .inl ⟨h1, h2⟩, Nat.le_trans l (by decide), r⟩)
theorem r_listsL {R : RelE} {H : Hp} {p q : Addr} {xs ys : List V} (h1 : H p = some (.lst xs)) (h2 : H q = some (.lst ys)) (l : xs.length ≤ 10000) (r : Paired (R H) xs ys) : NextF R H (.ref p) (.ref q) := .inr (.inl ⟨p, q, xs, ys, rfl, rfl, .inl ⟨h1, h2⟩, l, r⟩)
theorem r_tups {R : RelE} {H : Hp} {p q : Addr} {xs ys : List V} (h1 : H p = some (.tup xs)) (h2 : H q = some (.tup ys)) (l : xs.length ≤ 100) (r : Paired (R H) xs ys) : NextF R H (.ref p) (.ref q) := .inr (.inl ⟨p, q, xs, ys, rfl, rfl, .inr ⟨h1, h2⟩, Nat.le_trans l (by decide), r⟩)
theorem r_pairs {R : RelE} {H : Hp} : ∀ {as bs : List Addr} {rs : List (Str × Str)}, Paired (TupP H) as rs → Paired (TupP H) bs rs → Paired (NextF (NextF R) H) (as.map V.ref) (bs.map V.ref)
  | _, _, _, .nil, .nil => .nil
  | _, _, _, .cons f1 g1, .cons f2 g2 => .cons (r_tups f1 f2 (by show 2 ≤ 100; decide) (.cons (r_str _) (.cons (r_str _) .nil))) (r_pairs g1 g2)
theorem r_non {R : RelE} {H : Hp} : NextF R H .non .non := .inl ⟨rfl, .inr (.inr (.inr rfl))⟩
theorem vals_at {vs : List V} {us : List Value} (h : Vals vs us) : ∀ i, RelV (vs.getD i .non) (us.getD i .none) := by
  induction h with
  | nil => intro i; exact rfl
  | cons a r ih =>
    intro i
    cases i with
    | zero => exact a
    | succ i => exact ih i

/-- two parameters by name, the last one first -/
def kwR2 : List V → List V → List V := fun _ zs => [zs.getD 1 .non, zs.getD 0 .non]
def kwR2v : List Value → List Value → List Value := fun _ zs => [zs.getD 1 .none, zs.getD 0 .none]
/-- a Valley that is off the spring -/
def IsVO (C a : Addr) (H : Hp) (x : Addr) (ss : List Str) (rs : List (Str × Str)) (ns : List Int) : Prop := ss.length = ns.length ∧ ∃ l1 l2 l3 d1 d2 d3 qs bs, ValS C H x l1 l2 l3 d1 d2 d3 qs bs ss rs ns ∧ OffV a l1 l2 l3 bs ss
theorem IsVO.kept {C a : Addr} {H H' : Hp} {x : Addr} {ss : List Str} {rs : List (Str × Str)} {ns : List Int} {n : Nat} (v : IsVO C a H x ss rs ns) (s : Spr H a n) (k : Kept a H H') : IsVO C a H' x ss rs ns := by
  obtain ⟨l, l1, l2, l3, d1, d2, d3, qs, bs, vs, o⟩ := v
  exact ⟨l, l1, l2, l3, d1, d2, d3, qs, bs, vs.kept o s k, o⟩
theorem IsVO.is {C a : Addr} {H : Hp} {x : Addr} {ss : List Str} {rs : List (Str × Str)} {ns : List Int} (v : IsVO C a H x ss rs ns) : IsV C H x ss rs ns := by
  obtain ⟨l, l1, l2, l3, d1, d2, d3, qs, bs, vs, o⟩ := v
  exact ⟨l, l1, l2, l3, d1, d2, d3, qs, bs, vs⟩
theorem VOk.tree {ss : List Str} {rs : List (Str × Str)} {ns : List Int} (v : VOk ss rs ns) : Tree ss rs := ⟨v.good.1, v.ends, v.cut, v.rl⟩
end K1
end
-- WZip
section
set_option Elab.async false
set_option linter.all false
set_option maxRecDepth 100000
set_option maxHeartbeats 2000000
/-! a word: list(zip(xs, ys)) -/
namespace Wz
open PySem PySem.Calls PySem.Spec PyProof.Rows L2
/-- a zip walked so far: no tuple is out yet, or the one told last is -/
def ZSt (h : Heap) (z TI TO i1 i2 l1 l2 S : Addr) (us vs : Array Value) (n : Nat) : Prop :=
  IsPair h TI (.ref i1) (.ref i2) ∧ h.IsListIter i1 l1 n ∧ h.IsListIter i2 l2 n ∧ h.IsList l1 us ∧ h.IsList l2 vs ∧
  ((IsZip h z TI TO .none ∧ ∃ p q, IsPair h TO p q) ∨ ∃ T b o, IsZipHeld h z TI TO T b ∧ h.get? T = some o ∧ T ≠ z ∧ T ≠ i1 ∧ T ≠ i2 ∧ T ≠ S)
structure ZOff (z TI TO i1 i2 l1 l2 S : Addr) : Prop where
  z : S ≠ z
  TI : S ≠ TI
  TO : S ≠ TO
  i1 : S ≠ i1
  i2 : S ≠ i2
  l1 : S ≠ l1
  l2 : S ≠ l2
theorem ZSt.keep {h h' : Heap} {z TI TO i1 i2 l1 l2 S : Addr} {us vs : Array Value} {n : Nat} (x : ZSt h z TI TO i1 i2 l1 l2 S us vs n) (O : ZOff z TI TO i1 i2 l1 l2 S)
    (k : ∀ b o, b ≠ S → h.get? b = some o → h'.get? b = some o) : ZSt h' z TI TO i1 i2 l1 l2 S us vs n := by
  obtain ⟨a1, a2, a3, a4, a5, a6⟩ := x
  refine ⟨k _ _ (Ne.symm O.TI) a1, a2.at fun o e => k _ o (Ne.symm O.i1) e, a3.at fun o e => k _ o (Ne.symm O.i2) e, a4.at fun o e => k _ o (Ne.symm O.l1) e, a5.at fun o e => k _ o (Ne.symm O.l2) e, ?_⟩
  rcases a6 with ⟨b1, p, q, b2⟩ | ⟨T, b, o, b1, b2, r1, r2, r3, r4⟩
  · exact .inl ⟨k _ _ (Ne.symm O.z) b1, p, q, k _ _ (Ne.symm O.TO) b2⟩
  · exact .inr ⟨T, b, o, k _ _ (Ne.symm O.z) b1, k _ _ r4 b2, r1, r2, r3, r4⟩
section
variable {prog : Program} {w : World} {A : Around} {E : Value → Shared → Prop} {s : Shared} {z TI TO i1 i2 l1 l2 S : Addr} {us vs : Array Value} {n : Nat}
theorem zs_next {x y : Value} {Q : Option Value → Shared → Prop} (D : ZipApart z TI TO i1 i2 l1 l2) (st : ZSt s.heap z TI TO i1 i2 l1 l2 S us vs n) (hS : S < s.heap.objs.size) (hx : us[n]? = some x) (hy : vs[n]? = some y)
    (hQ : ∀ h', ZSt h' z TI TO i1 i2 l1 l2 S us vs (n + 1) → IsPair h' s.heap.objs.size x y → h'.objs.size = s.heap.objs.size + 1 →
      (∀ b o, b ≠ z → b ≠ TO → b ≠ i1 → b ≠ i2 → s.heap.get? b = some o → h'.get? b = some o) → Q (some (.ref s.heap.objs.size)) { s with heap := h' }) :
    wpAny (model prog w) A (pyNext (.ref z)) Q E s := by
  obtain ⟨a1, a2, a3, a4, a5, a6⟩ := st
  have gone : ∀ {c o}, s.heap.get? c = some o → s.heap.objs.size ≠ c := fun e => Nat.ne_of_gt (Heap.lt_size e)
  have m1 : s.heap.objs.size ≠ i1 := let ⟨_, e, _⟩ := a2; gone e
  have m2 : s.heap.objs.size ≠ i2 := let ⟨_, e, _⟩ := a3; gone e
  rcases a6 with ⟨b1, p, q, b2⟩ | ⟨T, b, o, b1, b2, r1, r2, r3, r4⟩
  · refine wpAny_pyNext_zip_item D b1 a1 b2 a2 a3 a4 a5 hx hy fun h' c1 c2 c3 c4 c5 c6 kp => hQ h' ⟨?_, c3, c4, ?_, ?_, ?_⟩ c5 c6 kp
    · exact kp _ _ D.TIz D.TITO D.TIi1 D.TIi2 a1
    · exact a4.at fun o e => kp _ o D.l1z D.l1TO D.l1i1 D.l1i2 e
    · exact a5.at fun o e => kp _ o D.l2z D.l2TO D.l2i1 D.l2i2 e
    · exact .inr ⟨_, false, _, c1, c5, gone b1, m1, m2, Nat.ne_of_gt hS⟩
  · refine wpAny_pyNext_zip_item_held D b1 b2 a1 a2 a3 a4 a5 hx hy fun h' c1 c3 c4 c5 c6 kp => hQ h' ⟨?_, c3, c4, ?_, ?_, ?_⟩ c5 c6 fun b o g1 _ g3 g4 e => kp b o g1 g3 g4 e
    · exact kp _ _ D.TIz D.TIi1 D.TIi2 a1
    · exact a4.at fun o e => kp _ o D.l1z D.l1i1 D.l1i2 e
    · exact a5.at fun o e => kp _ o D.l2z D.l2i1 D.l2i2 e
    · exact .inr ⟨T, true, o, c1, kp _ _ r1 r2 r3 b2, r1, r2, r3, r4⟩
theorem zs_end {Q : Option Value → Shared → Prop} (hh : A.handled = none) (D : ZipApart z TI TO i1 i2 l1 l2) (st : ZSt s.heap z TI TO i1 i2 l1 l2 S us vs n) (fin : us[n]? = none ∨ vs[n]? = none)
    (hQ : ∀ h', (∀ b o, b ≠ z → b ≠ TO → b ≠ i1 → b ≠ i2 → s.heap.get? b = some o → h'.get? b = some o) → Q none { s with heap := h' }) : wpAny (model prog w) A (pyNext (.ref z)) Q E s := by
  obtain ⟨a1, a2, a3, a4, a5, a6⟩ := st
  rcases a6 with ⟨b1, p, q, b2⟩ | ⟨T, b, o, b1, b2, _, _, _, _⟩
  · exact wpAny_pyNext_zip_end hh D b1 a1 b2 a2 a3 a4 a5 fin hQ
  · exact wpAny_pyNext_zip_end_held hh D b1 b2 a1 a2 a3 a4 a5 fin fun h' kp => hQ h' fun b o g1 _ g3 g4 e => kp b o g1 g3 g4 e
end
/-- the pairs told so far -/
structure ZG (us vs : Array Value) (lo : Addr) (h : Heap) (ps : List Addr) : Prop where
  up : ps.Pairwise (· < ·)
  over : ∀ p ∈ ps, lo < p
  told : ∀ (j : Nat) (p : Addr), ps[j]? = some p → ∃ x y, us[j]? = some x ∧ vs[j]? = some y ∧ IsPair h p x y
theorem ZG.lt {us vs : Array Value} {lo : Addr} {h : Heap} {ps : List Addr} (g : ZG us vs lo h ps) {p : Addr} (hp : p ∈ ps) : p < h.objs.size := by
  obtain ⟨j, hj⟩ := List.mem_iff_getElem?.mp hp
  obtain ⟨_, _, _, _, e⟩ := g.told j p hj
  exact Heap.lt_size e
section
variable {prog : Program} {w : World} {A : Around} {s : Shared} {R : Result → Shared → Prop} {z TI TO i1 i2 l1 l2 S : Addr} {us vs : Array Value}
abbrev lstO (acc : Array Value) (c : Nat) : Obj := { cls := .type "list", dict := none, data := .seq acc c, slots := #[] }
theorem zs_loop (hh : A.handled = none) (D : ZipApart z TI TO i1 i2 l1 l2) (O : ZOff z TI TO i1 i2 l1 l2 S) (lz : z < S) (lT : TO < S) (lj : i1 < S) (lk : i2 < S) (hn : min us.size vs.size ≤ sizeLine) (res : Value) {h₁ : Heap}
    (hR : ∀ h' tk acc c ps, (∀ b o, b ≠ S → b ≠ z → b ≠ TO → b ≠ i1 → b ≠ i2 → h₁.get? b = some o → h'.get? b = some o) → h'.get? S = some (lstO acc c) → ps.length = min us.size vs.size → ZG us vs S h' ps →
      acc.toList = ps.map Value.ref → R (.ok (.ret res)) { s with heap := h', toks := tk }) :
    ∀ (k n : Nat) (h : Heap) (tk c : Nat) (acc : Array Value) (ps : List Addr), min us.size vs.size - n = k → n ≤ min us.size vs.size → ZSt h z TI TO i1 i2 l1 l2 S us vs n →
      (∀ b o, b ≠ S → b ≠ z → b ≠ TO → b ≠ i1 → b ≠ i2 → h₁.get? b = some o → h.get? b = some o) → h.get? S = some (lstO acc c) → acc.toList = ps.map Value.ref → ps.length = n → ZG us vs S h ps → S < h.objs.size →
      codeAny (model prog w) A (.builtin "list.extend.loop" ⟨[.ref S, .ref z, res], []⟩) R { s with heap := h, toks := tk } := by
  intro k
  induction k with
  | zero =>
    intro n h tk c acc ps hk hi st kp hS hacc hl g lS
    have en : n = min us.size vs.size := by omega
    have fin : us[n]? = none ∨ vs[n]? = none := by
      rcases Nat.le_total us.size vs.size with y | y
      · exact .inl (Array.getElem?_eq_none (by rw [en, Nat.min_eq_left y]; exact Nat.le_refl _))
      · exact .inr (Array.getElem?_eq_none (by rw [en, Nat.min_eq_right y]; exact Nat.le_refl _))
    refine codeAny_builtin PySem.F.entry_extend_loop ?_
    rw [Around.under_plainId PySem.F.plain_extend_loop _]
    show wpAny _ A.in1 (pyNext (.ref z) >>= _) _ _ _
    refine wpAny_bind (zs_end (s := { s with heap := h, toks := tk }) (A := A.in1) hh D st fin fun h' kq => wpAny_pure (hR h' tk acc c ps (fun b o g1 g2 g3 g4 g5 e => kq b o g2 g3 g4 g5 (kp b o g1 g2 g3 g4 g5 e)) (kq S _ O.z O.TO O.i1 O.i2 hS) (by omega) ⟨g.up, g.over, fun j p hj => ?_⟩ hacc))
    obtain ⟨x, y, e1, e2, e3⟩ := g.told j p hj
    have hp := g.over p (List.mem_of_getElem? hj)
    exact ⟨x, y, e1, e2, kq p _ (Nat.ne_of_gt (Nat.lt_trans lz hp)) (Nat.ne_of_gt (Nat.lt_trans lT hp)) (Nat.ne_of_gt (Nat.lt_trans lj hp)) (Nat.ne_of_gt (Nat.lt_trans lk hp)) e3⟩
  | succ k ih =>
    intro n h tk c acc ps hk hi st kp hS hacc hl g lS
    have hlt : n < min us.size vs.size := by omega
    have h1 : n < us.size := by omega
    have h2 : n < vs.size := by omega
    have asz : acc.size = n := by rw [← Array.length_toList, hacc, List.length_map, hl]
    refine codeAny_builtin PySem.F.entry_extend_loop ?_
    rw [Around.under_plainId PySem.F.plain_extend_loop _]
    show wpAny _ A.in1 (pyNext (.ref z) >>= _) _ _ _
    refine wpAny_bind (zs_next (s := { s with heap := h, toks := tk }) D st lS (Array.getElem?_eq_getElem h1) (Array.getElem?_eq_getElem h2) fun h' st' ht hz kq => ?_)
    dsimp only at ht hz kq ⊢
    have hS' := kq S _ O.z O.TO O.i1 O.i2 hS
    have put : ∀ b o, b ≠ S → h'.get? b = some o → (h'.update S (Obj.mapSeq (·.push (Value.ref h.objs.size)))).get? b = some o := fun b o hb e => (Heap.get?_update_other _ _ (Ne.symm hb)).trans e
    show wpAny _ A.in1 (updateSeq S (·.push (Value.ref h.objs.size)) >>= _) _ _ _
    refine wpAny_bind ?_
    refine wpAny_updateSeq hS' rfl (wpAny_pure ⟨plainId_quiet PySem.F.plain_extend_loop _, ih (n + 1) _ tk _ (acc.push (Value.ref h.objs.size)) (ps ++ [h.objs.size]) (by omega) hlt (st'.keep O put)
      (fun b o g1 g2 g3 g4 g5 e => put b o g1 (kq b o g2 g3 g4 g5 (kp b o g1 g2 g3 g4 g5 e))) (Heap.get?_update_self _ hS' rfl) (by rw [Array.toList_push, hacc, List.map_append]; rfl) (by rw [List.length_append, hl]; rfl) ⟨?_, ?_, ?_⟩ ?_⟩) (by rw [asz]; omega) (by show (acc.push (Value.ref h.objs.size)).size ≤ sizeLine + 1; rw [Array.size_push, asz]; omega)
    · refine List.pairwise_append.mpr ⟨g.up, List.pairwise_singleton _ _, fun a ha b hb => ?_⟩
      rw [List.mem_singleton.mp hb]
      exact g.lt ha
    · intro a ha
      rcases List.mem_append.mp ha with ha | ha
      · exact g.over a ha
      · rw [List.mem_singleton.mp ha]
        exact lS
    · intro j b hj
      rcases Nat.lt_trichotomy j ps.length with y | y | y
      · rw [List.getElem?_append_left y] at hj
        obtain ⟨x1, x2, e1, e2, e3⟩ := g.told j b hj
        have hb := g.over b (List.mem_of_getElem? hj)
        exact ⟨x1, x2, e1, e2, put b _ (Nat.ne_of_gt hb) (kq b _ (Nat.ne_of_gt (Nat.lt_trans lz hb)) (Nat.ne_of_gt (Nat.lt_trans lT hb)) (Nat.ne_of_gt (Nat.lt_trans lj hb)) (Nat.ne_of_gt (Nat.lt_trans lk hb)) e3)⟩
      · subst y
        have hb : h.objs.size = b := by simpa using hj
        subst hb
        exact ⟨_, _, by rw [hl]; exact Array.getElem?_eq_getElem h1, by rw [hl]; exact Array.getElem?_eq_getElem h2, put _ _ (Nat.ne_of_gt lS) ht⟩
      · have none' : (ps ++ [h.objs.size])[j]? = none := List.getElem?_eq_none (by rw [List.length_append, List.length_singleton]; omega)
        rw [none'] at hj
        cases hj
    · have e : (h'.update S (Obj.mapSeq (·.push (Value.ref h.objs.size)))).get? h.objs.size = _ := put _ _ (Nat.ne_of_gt lS) ht
      exact Nat.lt_trans lS (Heap.lt_size e)
end
theorem zip_len_none : typeLookup (.type "zip") "__len__" = pure none := am_miss_of_fast (by decide +kernel)
theorem zip_hint_none : typeLookup (.type "zip") "__length_hint__" = pure none := am_miss_of_fast (by decide +kernel)
section
variable {prog : Program} {w : World} {A : Around} {E : Value → Shared → Prop} {s : Shared} {z TI TO i1 i2 l1 l2 S : Addr} {us vs : Array Value}
theorem zs_hint (hT : s.TypeIs (.ref z) "zip") {Q : Bool → Shared → Prop} (h : Q true s) : wpAny (model prog w) A (Builtin.List.listLengthHint (.ref z)) Q E s := by
  unfold Builtin.List.listLengthHint
  refine wpAny_bind (wpAny_specialOf hT zip_len_none ?_)
  show wpAny _ _ (specialOf (Value.ref z) (Str.ofString "__length_hint__") >>= _) _ _ _
  refine wpAny_bind (wpAny_specialOf hT zip_hint_none ?_)
  exact wpAny_pure h
theorem zs_extend {R : Result → Shared → Prop} (hh : A.handled = none) (D : ZipApart z TI TO i1 i2 l1 l2) (O : ZOff z TI TO i1 i2 l1 l2 S) (lz : z < S) (lT : TO < S) (lj : i1 < S) (lk : i2 < S) (st : ZSt s.heap z TI TO i1 i2 l1 l2 S us vs 0) (hz : IsZip s.heap z TI TO .none)
    (res : Value) (c₀ : Nat) (hS : s.heap.get? S = some { cls := .type "list", data := .seq #[] c₀ })
    (hR : ∀ h' tk acc c ps, (∀ b o, b ≠ S → b ≠ z → b ≠ TO → b ≠ i1 → b ≠ i2 → s.heap.get? b = some o → h'.get? b = some o) → h'.get? S = some (lstO acc c) → ps.length = min us.size vs.size → ZG us vs S h' ps →
      acc.toList = ps.map Value.ref → R (.ok (.ret res)) { s with heap := h', toks := tk }) (hn : min us.size vs.size ≤ sizeLine) :
    wpAny (model prog w) A.in1 (Builtin.List.listExtendWith (.ref S) (.ref z) res)
      (fun end' t => match end' with | .done y => R (.ok y) t | .again more => more.quiet = true ∧ codeAny (model prog w) A more R t) (fun x t => R (.error x) t) s := by
  have hT : s.TypeIs (.ref z) "zip" := ⟨_, hz, rfl⟩
  have key : ∀ (h : Heap) (c₁ tk : Nat), (∀ b o, b ≠ S → s.heap.get? b = some o → h.get? b = some o) → h.get? S = some { cls := .type "list", data := .seq #[] c₁ } →
      codeAny (model prog w) A (.builtin "list.extend.loop" ⟨[.ref S, .ref z, res], []⟩) R { s with heap := h, toks := tk } := by
    intro h c₁ tk k g
    exact zs_loop (s := s) (h₁ := s.heap) hh D O lz lT lj lk hn res hR _ 0 h tk c₁ #[] [] rfl (Nat.zero_le _) (st.keep O k) (fun b o g1 _ _ _ _ e => k b o g1 e) g rfl rfl ⟨List.Pairwise.nil, fun _ q => (nomatch q), fun j p q => by simp at q⟩ (Heap.lt_size g)
  unfold Builtin.List.listExtendWith
  refine wpAny_bind (wpAny_typeOf (T := "zip") hT ?_)
  have q1 : Builtin.List.listSameRef (.ref S) (.ref z) = false := by simp [Builtin.List.listSameRef, O.z]
  have q2 : (Value.type "zip" == Value.type "list") = false := by decide
  have q3 : (Value.type "zip" == Value.type "tuple") = false := by decide
  simp only [q1, q2, q3, Bool.or_false, Bool.false_eq_true, if_false]
  refine wpAny_bind (wpAny_pyIter_zip hz ?_)
  refine wpAny_bind (wpAny_holding (zs_hint hT ?_))
  refine wpAny_ite_split (fun _ => ?_) (fun q => absurd (by simp) q)
  refine wpAny_bind (wpAny_rule ?_)
  refine wpAny_bind ?_
  show wpAny _ _ (updateSeq S (·.push .none) >>= fun _ => updateSeq S (·.pop)) _ _ _
  refine wpAny_bind (wpAny_updateSeq hS rfl ?_)
  have g2 := Heap.get?_update_self (Obj.mapSeq (·.push Value.none)) hS rfl
  refine wpAny_updateSeq (hz := by seq_fits) g2 rfl ?_
  have g3 := Heap.get?_update_self (Obj.mapSeq (·.pop)) g2 rfl
  refine wpAny_pure ⟨plainId_quiet PySem.F.plain_extend_loop _, key _ _ _ (fun b o hb e => ?_) g3⟩
  exact (Heap.get?_update_other _ _ (Ne.symm hb)).trans ((Heap.get?_update_other _ _ (Ne.symm hb)).trans e)
theorem zs_init {R : Result → Shared → Prop} (hh : A.handled = none) (D : ZipApart z TI TO i1 i2 l1 l2) (O : ZOff z TI TO i1 i2 l1 l2 S) (lz : z < S) (lT : TO < S) (lj : i1 < S) (lk : i2 < S) (st : ZSt s.heap z TI TO i1 i2 l1 l2 S us vs 0) (hz : IsZip s.heap z TI TO .none)
    (hS : s.heap.get? S = some { cls := .type "list", data := .seq #[] })
    (hR : ∀ h' tk acc c ps, (∀ b o, b ≠ S → b ≠ z → b ≠ TO → b ≠ i1 → b ≠ i2 → s.heap.get? b = some o → h'.get? b = some o) → h'.get? S = some (lstO acc c) → ps.length = min us.size vs.size → ZG us vs S h' ps →
      acc.toList = ps.map Value.ref → R (.ok (.ret .none)) { s with heap := h', toks := tk }) (hn : min us.size vs.size ≤ sizeLine) :
    wpAny (model prog w) A.in1 (Builtin.«list.__init__» ⟨[.ref S, .ref z], []⟩)
      (fun end' t => match end' with | .done y => R (.ok y) t | .again more => more.quiet = true ∧ codeAny (model prog w) A more R t) (fun x t => R (.error x) t) s := by
  show wpAny _ _ (do let was ← Builtin.List.listItems (.ref S); Builtin.List.listUpdate (.ref S) (fun _ => #[]); letGo was.toList.reverse; Builtin.List.listExtendWith (.ref S) (.ref z) .none) _ _ s
  refine wpAny_bind ?_
  unfold Builtin.List.listItems
  refine wpAny_bind (wpAny_seqItems hS rfl (wpAny_pure ?_))
  show wpAny _ _ (updateSeq S (fun _ => #[]) >>= fun _ => letGo (#[] : Array Value).toList.reverse >>= fun _ => Builtin.List.listExtendWith (.ref S) (.ref z) .none) _ _ s
  refine wpAny_bind (wpAny_updateSeq hS rfl ?_)
  have g2 := Heap.get?_update_self (Obj.mapSeq (fun _ => (#[] : Array Value))) hS rfl
  have oth : ∀ b o, b ≠ S → s.heap.get? b = some o → (s.heap.update S (Obj.mapSeq (fun _ => (#[] : Array Value)))).get? b = some o := fun b o hb e => (Heap.get?_update_other _ _ (Ne.symm hb)).trans e
  refine wpAny_bind (wpAny_letGo ?_)
  exact zs_extend (us := us) (vs := vs) hh D O lz lT lj lk (st.keep O oth) (oth _ _ (Ne.symm O.z) hz) .none _ g2 (fun h' tk acc c ps k q1 q2 q3 q4 => hR h' tk acc c ps (fun b o y1 y2 y3 y4 y5 e => k b o y1 y2 y3 y4 y5 (oth b o y1 e)) q1 q2 q3 q4) hn
theorem zs_call {Q : Value → Shared → Prop} (hh : A.handled = none) (D : ZipApart z TI TO i1 i2 l1 l2) (lz : z < s.heap.objs.size) (lI : TI < s.heap.objs.size) (lT : TO < s.heap.objs.size) (lj : i1 < s.heap.objs.size) (lk : i2 < s.heap.objs.size) (la : l1 < s.heap.objs.size) (lb : l2 < s.heap.objs.size)
    (st : IsPair s.heap TI (.ref i1) (.ref i2) ∧ s.heap.IsListIter i1 l1 0 ∧ s.heap.IsListIter i2 l2 0 ∧ s.heap.IsList l1 us ∧ s.heap.IsList l2 vs) (hz : IsZip s.heap z TI TO .none) (hTO : ∃ p q, IsPair s.heap TO p q) (hn : min us.size vs.size ≤ sizeLine)
    (hQ : ∀ h' tk acc c ps, (∀ b o, b ≠ z → b ≠ TO → b ≠ i1 → b ≠ i2 → s.heap.get? b = some o → h'.get? b = some o) → h'.get? s.heap.objs.size = some (lstO acc c) → ps.length = min us.size vs.size → ZG us vs s.heap.objs.size h' ps →
      acc.toList = ps.map Value.ref → Q (.ref s.heap.objs.size) { s with heap := h', toks := tk }) :
    wpAny (model prog w) A (call (.type "list") [.ref z]) Q E s := by
  refine callType_codes (Q₁ := fun ob t => ob = .ref s.heap.objs.size ∧ t = { s with heap := s.heap.push { cls := .type "list", data := .seq #[] } }) PySem.F.called_list (PySem.F.typeCall_list_1 _) PySem.F.entry_list_init
    (code_list_new _ ⟨rfl, rfl⟩) fun ob t both => ?_
  obtain ⟨rfl, rfl⟩ := both
  have gS : (s.heap.push { cls := .type "list", data := .seq #[] }).get? s.heap.objs.size = some { cls := .type "list", data := .seq #[] } := Heap.get?_push_size _ rfl
  have up : ∀ b o, s.heap.get? b = some o → (s.heap.push { cls := .type "list", data := .seq #[] }).get? b = some o := fun b o e => Heap.get?_push_of_some _ e
  obtain ⟨a1, a2, a3, a4, a5⟩ := st
  obtain ⟨p, q, a6⟩ := hTO
  refine ⟨⟨_, gS, rfl⟩, PySem.F.args_list_init_2 _ _, zs_init (us := us) (vs := vs) (A := A.in1) hh D ⟨Nat.ne_of_gt lz, Nat.ne_of_gt lI, Nat.ne_of_gt lT, Nat.ne_of_gt lj, Nat.ne_of_gt lk, Nat.ne_of_gt la, Nat.ne_of_gt lb⟩ lz lT lj lk
    ⟨up _ _ a1, a2.at fun o e => up _ o e, a3.at fun o e => up _ o e, a4.at fun o e => up _ o e, a5.at fun o e => up _ o e, .inl ⟨up _ _ hz, p, q, up _ _ a6⟩⟩ (up _ _ hz) gS (fun h' tk acc c ps k q1 q2 q3 q4 => ?_) hn⟩
  exact ⟨rfl, hQ h' tk acc c ps (fun b o y2 y3 y4 y5 e => k b o (Nat.ne_of_lt (Heap.lt_size e)) y2 y3 y4 y5 (up _ _ e)) q1 q2 q3 q4⟩
end
/-- the pairs tracked -/
def putZ : Hp → List Addr → List (V × V) → Hp
  | H, p :: ps, e :: es => putZ (upd H p (.tup [e.1, e.2])) ps es
  | H, _, _ => H
theorem putZ_off {b : Addr} : ∀ (ps : List Addr) (es : List (V × V)) (H : Hp), b ∉ ps → putZ H ps es b = H b
  | [], _, _, _ => rfl
  | _ :: _, [], _, _ => rfl
  | p :: ps, e :: es, H, h => by
    show putZ (upd H p (.tup [e.1, e.2])) ps es b = H b
    rw [putZ_off ps es _ fun q => h (List.mem_cons_of_mem _ q), upd_ne fun q => h (by rw [q]; exact List.mem_cons_self)]
theorem putZ_at : ∀ (ps : List Addr) (es : List (V × V)) (H : Hp), ps.length = es.length → ps.Nodup → Paired (fun (t : Addr) (e : V × V) => putZ H ps es t = some (.tup [e.1, e.2])) ps es
  | [], [], _, _, _ => .nil
  | [], _ :: _, _, h, _ => by cases h
  | _ :: _, [], _, h, _ => by cases h
  | p :: ps, e :: es, H, h, hn => by
    have hc := List.nodup_cons.mp hn
    refine .cons ?_ (putZ_at ps es (upd H p (.tup [e.1, e.2])) (Nat.succ.inj h) hc.2)
    show putZ (upd H p (.tup [e.1, e.2])) ps es p = some (.tup [e.1, e.2])
    rw [putZ_off ps es _ hc.1, upd_same]
theorem vals_at {xs : List V} : ∀ {us : List Value}, Vals xs us → ∀ {i : Nat} {u : Value}, us[i]? = some u → ∃ x, xs[i]? = some x ∧ RelV x u := by
  induction xs with
  | nil =>
    intro us r i u h
    cases r
    simp at h
  | cons x xs ih =>
    intro us r i u h
    cases r with
    | cons r1 r2 =>
      cases i with
      | zero =>
        simp only [List.getElem?_cons_zero, Option.some.injEq] at h
        subst h
        exact ⟨x, rfl, r1⟩
      | succ i =>
        simp only [List.getElem?_cons_succ] at h
        exact ih r2 h
def rZipL (K : PySem.W.Frag) : List V → Hp → VK → Prop := fun vs H Q => ∃ a b xs ys, vs = [.ref a, .ref b] ∧ SqL K H a xs ∧ SqL K H b ys ∧
  ∀ (H' : Hp) (p : Addr) (ts : List Addr), (∀ b o, H b = some o → H' b = some o) → H p = none → (∀ t ∈ ts, H t = none) → p ∉ ts → H' p = some (.lst (ts.map V.ref)) → Paired (fun (t : Addr) (e : V × V) => H' t = some (.tup [e.1, e.2])) ts (xs.zip ys) → Q (.ref p) H'
def tListZip (K : PySem.W.Frag) (t : TA) : TE := fun σ H Q => t σ H fun vs H1 => rZipL K vs H1 Q
section
variable {X : Cx} {e e2 : Expr} {t : TA} {p q pos pos2 : Pos}
theorem pairs_laid {pins : List (Addr × Obj)} {σ : L2.St} {H : Hp} {s : Shared} {h' : Heap} {tk : Nat} {xs ys : List V} {us vs : List Value} {acc : Array Value} {c : Nat} {ps : List Addr} {S : Addr} (I : Inv X pins σ H s) (rx : Vals xs us) (ry : Vals ys vs) (zx : xs.length ≤ sizeLine)
    (hk : ∀ b o, s.heap.get? b = some o → h'.get? b = some o) (lo : s.heap.objs.size ≤ S) (hS : h'.get? S = some (lstO acc c)) (hl : ps.length = min us.toArray.size vs.toArray.size) (g : ZG us.toArray vs.toArray S h' ps) (hacc : acc.toList = ps.map Value.ref) :
    ∃ H' : Hp, (∀ b o, H b = some o → H' b = some o) ∧ H S = none ∧ (∀ t ∈ ps, H t = none) ∧ S ∉ ps ∧ H' S = some (.lst (ps.map V.ref)) ∧ Paired (fun (t : Addr) (e : V × V) => H' t = some (.tup [e.1, e.2])) ps (xs.zip ys) ∧ Inv X pins σ H' { s with heap := h', toks := tk } := by
  have lx := rx.length
  have ly := ry.length
  have lz : ps.length = (xs.zip ys).length := by
    rw [hl, List.length_zip, lx, ly, List.size_toArray, List.size_toArray]
  have nS : S ∉ ps := fun y => Nat.lt_irrefl _ (g.over _ y)
  have nd : ps.Nodup := List.Pairwise.imp (fun {a b} (h : a < b) => Nat.ne_of_lt h) g.up
  have new : ∀ t ∈ ps, H t = none := fun t ht => I.hok.fresh (Nat.le_of_lt (Nat.lt_of_le_of_lt lo (g.over t ht)))
  have newS : H S = none := I.hok.fresh lo
  have atP := putZ_at ps (xs.zip ys) (upd H S (.lst (ps.map V.ref))) lz nd
  have off : ∀ b, b ∉ ps → b ≠ S → putZ (upd H S (.lst (ps.map V.ref))) ps (xs.zip ys) b = H b := fun b h1 h2 => by rw [putZ_off ps _ _ h1, upd_ne h2]
  have low : ∀ b o, s.heap.get? b = some o → b ∉ ps ∧ b ≠ S := fun b o e => ⟨fun y => absurd (Heap.lt_size e) (Nat.not_lt.mpr (Nat.le_of_lt (Nat.lt_of_le_of_lt lo (g.over b y)))), fun y => absurd (Heap.lt_size e) (Nat.not_lt.mpr (by rw [y]; exact lo))⟩
  have kp : ∀ b u, H b = some u → (putZ (upd H S (.lst (ps.map V.ref))) ps (xs.zip ys)) b = some u := fun b u e => by
    rw [off b (fun y => by rw [new b y] at e; cases e) (fun y => by rw [y, newS] at e; cases e)]
    exact e
  have eS : putZ (upd H S (.lst (ps.map V.ref))) ps (xs.zip ys) S = some (.lst (ps.map V.ref)) := by rw [putZ_off ps _ _ nS, upd_same]
  refine ⟨putZ (upd H S (.lst (ps.map V.ref))) ps (xs.zip ys), kp, newS, new, nS, eS, atP, ?_⟩
  refine I.call' (ch := []) rfl ⟨fun b o y _ _ _ => hk b o y, fun b o y _ _ _ => ⟨o.slots, hk b o y⟩, fun b o y n _ => ?_, fun b o y _ => ⟨o, hk b o y⟩, fun b xs y => kp b _ y, fun b o u y => kp b _ y, fun b ps y => ⟨#[], by rw [kp b _ y]; simp⟩⟩ (fun b u y => ?_) I.bare fun b y => by simp at y
  · obtain ⟨z1, z2⟩ := low b o y
    rw [off b z1 z2]
    exact n
  · by_cases hb : b ∈ ps
    · obtain ⟨j, pk, e1, e2, e3⟩ := LiI.paired_ix atP hb
      rw [e3] at y
      cases y
      obtain ⟨x1, y1, f1, f2, f3⟩ := g.told j b e1
      rw [List.getElem?_toArray] at f1 f2
      obtain ⟨v1, k1, r1⟩ := vals_at rx f1
      obtain ⟨v2, k2, r2⟩ := vals_at ry f2
      have ez : pk = (v1, v2) := by
        rw [List.getElem?_zip_eq_some] at e2
        obtain ⟨w1, w2⟩ := e2
        rw [k1] at w1
        rw [k2] at w2
        exact Prod.ext (Option.some.inj w1).symm (Option.some.inj w2).symm
      subst ez
      exact ⟨by show 2 ≤ sizeLine; decide, [x1, y1], .cons r1 (.cons r2 .nil), ⟨_, f3, rfl, _, rfl⟩⟩
    · by_cases hb2 : b = S
      · rw [hb2] at y ⊢
        rw [eS] at y
        cases y
        refine ⟨by rw [List.length_map, lz, List.length_zip]; omega, acc.toList, c, by rw [hacc]; exact LiI.vals_refs ps, ?_⟩
        rw [Array.toArray_toList]
        exact hS
      · rw [off b hb hb2] at y
        exact (I.hok b u y).stay (fun d v _ q => hk d v q) (fun d q => kp d _ q) fun d xs q => kp d _ q
/-- list(zip(e, e2)) -/
theorem pe_listZip (hc : X.calm = true) (hg : Gl X "list") (hm : X.mg "list" = none) (hv : bootBuiltins "list" = some (.type "list")) (hg2 : Gl X "zip") (hm2 : X.mg "zip" = none) (ha : PA X [e, e2] t)
    (hs2 : starEach [e, e2] X.env = (false, eval e X.env) :: starEach [e2] X.env := by rfl) (hpl : (backTo pos2 (starEach [e2] X.env)).any (·.1) = false := by rfl)
    (hs : starEach [.Call (.Name "zip" q) [e, e2] [] pos2] X.env = (false, eval (.Call (.Name "zip" q) [e, e2] [] pos2) X.env) :: starEach [] X.env := by rfl) :
    PE X (.Call (.Name "list" p) [.Call (.Name "zip" q) [e, e2] [] pos2] [] pos) (tListZip X.K t) := by
  refine ⟨fun pins s σ H Q I hq => ?_⟩
  refine wpAny_Call_Name_kw (ld_blt I hg hm hv ?_)
  refine PyProof.Rows.callWith_type1 ?_ hs rfl
  rw [hs]
  show wpAny _ _ (spliced ((false, eval (.Call (.Name "zip" q) [e, e2] [] pos2) X.env) :: backTo pos (starEach [] X.env))) _ _ s
  refine Calls.spliced_cons ?_
  refine wpAny_Call_Name_kw (ld_blt I hg2 hm2 PyProof.Rows.boot_zip ?_)
  refine PyProof.Rows.callWith_type1 (thn (ha.run pos2 pins s σ H _ I hq) fun us s1 ⟨vs, H1, I1, r1, q1⟩ => ?_) hs2 hpl
  obtain ⟨a, b, xs, ys, ex, hqx, hqy, w⟩ := q1
  subst ex
  cases r1 with
  | cons r rr =>
    cases rr with
    | cons r' rr =>
      cases rr
      cases r
      cases r'
      obtain ⟨its, rv, p1, zx⟩ := I1.list hqx
      obtain ⟨its2, rv2, p2, _⟩ := I1.list hqy
      have la : a < s1.heap.objs.size := p1.lt
      have lb : b < s1.heap.objs.size := p2.lt
      refine call_zip_2 p1.isList p2.isList fun h' hz hTI hTO h1 h2 hsz hk => ?_
      refine Calls.spliced_nil ?_
      have len : min its.toArray.size its2.toArray.size ≤ sizeLine := by
        have := rv.length
        rw [List.size_toArray, List.size_toArray]
        omega
      have lt : ∀ {k : Nat}, k < 5 → s1.heap.objs.size + k < h'.objs.size := fun hk5 => by rw [hsz]; omega
      refine zs_call (s := { s1 with heap := h' }) (us := its.toArray) (vs := its2.toArray) (I1.ok.hd hc) (PySem.W.ktu_apart s1.heap.objs.size a b la lb) (lt (k := 4) (by decide)) (lt (k := 2) (by decide)) (lt (k := 3) (by decide)) (lt (k := 0) (by decide)) (lt (k := 1) (by decide)) (by show a < h'.objs.size; rw [hsz]; exact Nat.lt_of_lt_of_le la (Nat.le_add_right _ 5)) (by show b < h'.objs.size; rw [hsz]; exact Nat.lt_of_lt_of_le lb (Nat.le_add_right _ 5))
        ⟨hTI, h1, h2, p1.isList.at fun o e => hk _ o e, p2.isList.at fun o e => hk _ o e⟩ hz ⟨_, _, hTO⟩ len fun h2' tk acc c ps k2 g1 g2 g3 g4 => ?_
      have hk2 : ∀ b o, s1.heap.get? b = some o → h2'.get? b = some o := fun b o e => by
        have lt := Heap.lt_size e
        exact k2 b o (Nat.ne_of_lt (Nat.lt_of_lt_of_le lt (Nat.le_add_right _ 4))) (Nat.ne_of_lt (Nat.lt_of_lt_of_le lt (Nat.le_add_right _ 3))) (Nat.ne_of_lt lt) (Nat.ne_of_lt (Nat.lt_of_lt_of_le lt (Nat.le_add_right _ 1))) (hk b o e)
      obtain ⟨H', j1, j2, j3, j4, j5, j6, J⟩ := pairs_laid (tk := tk) I1 rv rv2 zx hk2 (by show s1.heap.objs.size ≤ h'.objs.size; rw [hsz]; exact Nat.le_add_right _ 5) g1 g2 g3 g4
      exact ⟨.ref _, H', J, rfl, w H' _ ps j1 j2 j3 j4 j5 j6⟩
end
end Wz
end
-- EVz
section
set_option Elab.async false
set_option linter.all false
set_option maxRecDepth 100000
set_option maxHeartbeats 1000000
namespace K1
open PySem PySem.Spec PyProof.Rows L2 W0
abbrev sEe : Stmt := top 52
/-- the law's evening: its roads in some order -/
def spEe : Sp := fun vs H Q _ => ∃ (a t p1 p2 : Addr) (x3 : V) (qs : List Addr) (ss : List Str) (rs : List (Str × Str)) (n : Nat), vs = [.ref a, .ref t] ∧ Spr H a n ∧ n + 1000 ≤ 1000000 ∧ Frm H t p1 p2 x3 qs ss rs ∧ p2 ≠ a ∧
  ∀ (c : Addr) (cq : List Addr) (es : List (Str × Str)) (H' : Hp), H c = none → Kept a H H' → Spr H' a (n + 60) → ClAt a H' c cq rs es → Q (.ref c) H'
theorem scEe : FnScope ["spring", "form"] ["spring", "form"] (defScope sEe) := ⟨rfl, rfl, rfl, by decide +kernel, rfl, by decide +kernel, by decide +kernel⟩
theorem perm_tups {H : Hp} {qs cq : List Addr} {rs : List (Str × Str)} (pr : Paired (TupP H) qs rs) (p : cq.Perm qs) : ∃ es : List (Str × Str), es.Perm rs ∧ Paired (TupP H) cq es := by
  induction p generalizing rs with
  | nil => exact ⟨rs, .refl _, pr⟩
  | cons x _ ih =>
    cases pr with
    | cons f r =>
      obtain ⟨es, h1, h2⟩ := ih r
      exact ⟨_ :: es, h1.cons _, .cons f h2⟩
  | swap x y l =>
    cases pr with
    | cons f r =>
      cases r with
      | cons g r => exact ⟨_, .swap _ _ _, .cons g (.cons f r)⟩
  | trans _ _ ih1 ih2 =>
    obtain ⟨es, h1, h2⟩ := ih2 pr
    obtain ⟨es2, h3, h4⟩ := ih1 h2
    exact ⟨es2, h3.trans h1, h4⟩
theorem perm_refs {xs : List V} {qs : List Addr} (p : xs.Perm (qs.map V.ref)) : ∃ cq : List Addr, xs = cq.map V.ref ∧ cq.Perm qs := by
  have all : ∀ x ∈ xs, ∃ q, x = V.ref q := fun x hx => by
    obtain ⟨q, _, rfl⟩ := List.mem_map.mp (p.mem_iff.mp hx)
    exact ⟨q, rfl⟩
  obtain ⟨cq, rfl⟩ : ∃ cq : List Addr, xs = cq.map V.ref := by
    clear p
    induction xs with
    | nil => exact ⟨[], rfl⟩
    | cons x xs ih =>
      obtain ⟨q, rfl⟩ := all x (List.mem_cons_self ..)
      obtain ⟨cq, e⟩ := ih fun y hy => all y (List.mem_cons_of_mem _ hy)
      exact ⟨q :: cq, by rw [e]; rfl⟩
  refine ⟨cq, rfl, ?_⟩
  have h := p.map (fun v : V => match v with | .ref q => q | _ => 0)
  simpa [List.map_map, Function.comp_def] using h
section
variable {P : Program} {w : World} {K : PySem.W.Frag} {mg : Str → Option Value} {base : Heap}
theorem ok_Ee {f fM : Addr} {fd md : FuncData} (F : Fun K "_law_v_evening" "_law_v_evening" sEe f fd)
    (G : FnOk P w K mg base CX0 2 fM md ["spring", "some"] spMixed) (b : Binds K md ["spring", "some"] []) (k : PySem.W.keepIn K (.ref fM) = true) (m : mg "_law_mixed" = some (.ref fM)) : FnOk P w K mg base CX0 3 f fd ["spring", "form"] spEe := by
  refine F.ok scEe (fun vs H Q E h => ?_) (fun cdv A outer s H vs Q E hr h => ?_)
  · obtain ⟨a, t, p1, p2, x3, qs, ss, rs, n, rfl, _⟩ := h
    rfl
  obtain ⟨a, t, p1, p2, x3, qs, ss, rs, n, rfl, hs, hn, fm, pa, q⟩ := h
  refine ⟨_, (pss_one (by exact (ps_ret (pe_call G hr rfl m k b .nil pass0 (pa_cons (pv 0) (pa_cons (pe_ix ix_list (pv 1) pe_int (fun _ _ => rfl)) pa_nil)))))), ?_⟩
  have lr := fm.lr
  have lq : qs.length = rs.length := fm.pr.length
  refine ⟨_, rfl, _, rfl, t, _, 1, .ref p2, rfl, rfl, SqL.of fm.t0, rfl, a, p2, qs.map V.ref, n, rfl, hs, hn, fm.h2, pa, by rw [List.length_map]; omega, fun r ys H' pm nr ra gr kp sp => ?_⟩
  obtain ⟨cq, rfl, pc⟩ := perm_refs pm
  obtain ⟨es, pe, pt⟩ := perm_tups fm.pr pc
  rw [List.length_map] at sp
  exact q r cq es H' nr kp (sp.mono (by omega)) ⟨gr, ra, paired_imp (fun u e h => kp _ _ (fun z => by
    obtain ⟨x, y, z0, e0, _⟩ := hs
    have h : H u = some (.tup [.str e.1, .str e.2]) := h
    rw [z, e0] at h
    cases h) h) pt, pe⟩
end
end K1
end
-- EOd
section
set_option Elab.async false
set_option linter.all false
set_option maxRecDepth 100000
set_option maxHeartbeats 2000000
namespace K1
open PySem PySem.Spec PyProof.Rows L2 W0
/-! displays, over a heap that is known: what they make is new, all else stays -/
abbrev PV := Hp → V → Prop
structure Mr (H0 : Hp) (t : TE) (σ : L2.St) (P : PV) : Prop where
  mono : ∀ H H' v, Same H H' → P H v → P H' v
  run : ∀ H, Same H0 H → ∀ Q : VK, (∀ v H', Same H H' → P H' v → Q v H') → t σ H Q
structure MrA (H0 : Hp) (t : TA) (σ : L2.St) (Ps : List PV) : Prop where
  mono : ∀ P ∈ Ps, ∀ H H' v, Same H H' → P H v → P H' v
  run : ∀ H, Same H0 H → ∀ Q : List V → Hp → Prop, (∀ vs H', Same H H' → Paired (fun v P => P H' v) vs Ps → Q vs H') → t σ H Q
abbrev eqP (x : V) : PV := fun _ v => v = x
def tupP (Ps : List PV) : PV := fun H v => ∃ p xs, v = .ref p ∧ H p = some (.tup xs) ∧ Paired (fun v P => P H v) xs Ps
def lstP (Ps : List PV) : PV := fun H v => ∃ p xs, v = .ref p ∧ H p = some (.lst xs) ∧ Paired (fun v P => P H v) xs Ps
def dicP : PV := fun H v => ∃ p, v = .ref p ∧ H p = some (.dK [])
section
variable {H0 : Hp} {σ : L2.St} {t : TE} {ta : TA} {P : PV} {Ps : List PV}
theorem mr_c (x : V) : Mr H0 (tC x) σ (eqP x) := ⟨fun _ _ _ _ h => h, fun H _ Q q => q x H (Same.refl _) rfl⟩
theorem mr_v {i : Nat} {x : V} (h : σ[i]? = some (some x) := by rfl) : Mr H0 (tVar i) σ (eqP x) := ⟨fun _ _ _ _ h => h, fun H _ Q q => ⟨x, h, q x H (Same.refl _) rfl⟩⟩
theorem mr_ix {K : PySem.W.Frag} {i : Nat} {p : Addr} {xs : List V} {x : V} (h : σ[i]? = some (some (.ref p))) (hp : H0 p = some (.lst xs)) (hx : atI xs 0 = some x) : Mr H0 (tOp (rIxL K) (tVar i) (tC (.int 0))) σ (eqP x) :=
  ⟨fun _ _ _ _ h => h, fun H e Q q => ⟨_, h, p, xs, 0, x, rfl, rfl, SqL.of (e _ _ hp), hx, q x H (Same.refl _) rfl⟩⟩
theorem mr_nil : MrA H0 tNil σ [] := ⟨fun P h => absurd h (by simp), fun H _ Q q => q [] H (Same.refl _) .nil⟩
theorem mr_cons (h1 : Mr H0 t σ P) (h2 : MrA H0 ta σ Ps) : MrA H0 (tCons t ta) σ (P :: Ps) := by
  refine ⟨fun P' h => ?_, fun H e Q q => h1.run H e _ fun v H1 e1 p1 => h2.run H1 (e.trans e1) _ fun vs H2 e2 p2 => q _ H2 (e1.trans e2) (.cons (h1.mono _ _ _ e2 p1) p2)⟩
  rcases List.mem_cons.mp h with rfl | h
  · exact h1.mono
  · exact h2.mono P' h
theorem paired_mono {H H' : Hp} (e : Same H H') : ∀ {xs : List V} {Ps : List PV}, (∀ P ∈ Ps, ∀ H H' v, Same H H' → P H v → P H' v) → Paired (fun v P => P H v) xs Ps → Paired (fun v P => P H' v) xs Ps
  | _, _, _, .nil => .nil
  | _, _, m, .cons f r => .cons (m _ (List.mem_cons_self ..) _ _ _ e f) (paired_mono e (fun P h => m P (List.mem_cons_of_mem _ h)) r)
theorem mr_tup (h : MrA H0 ta σ Ps) (l : Ps.length ≤ 1000 := by exact Nat.le_of_ble_eq_true rfl) : Mr H0 (tTup ta) σ (tupP Ps) := by
  refine ⟨fun H H' v e ⟨p, xs, a, b, c⟩ => ⟨p, xs, a, e _ _ b, paired_mono e h.mono c⟩, fun H e0 Q q => h.run H e0 _ fun vs H1 e1 p1 => ⟨?_, fun p hp => ?_⟩⟩
  · rw [p1.length]
    exact Nat.le_trans l (by decide)
  · have e := K1.Same.upd (H := H1) (p := p) (o := .tup vs) hp
    exact q _ _ (e1.trans e) ⟨p, vs, rfl, upd_same, paired_mono e h.mono p1⟩
theorem mr_lst (h : MrA H0 ta σ Ps) (l : Ps.length ≤ 1000 := by exact Nat.le_of_ble_eq_true rfl) : Mr H0 (tLst ta) σ (lstP Ps) := by
  refine ⟨fun H H' v e ⟨p, xs, a, b, c⟩ => ⟨p, xs, a, e _ _ b, paired_mono e h.mono c⟩, fun H e0 Q q => h.run H e0 _ fun vs H1 e1 p1 => ⟨?_, fun p hp => ?_⟩⟩
  · rw [p1.length]
    exact Nat.le_trans l (by decide)
  · have e := K1.Same.upd (H := H1) (p := p) (o := .lst vs) hp
    exact q _ _ (e1.trans e) ⟨p, vs, rfl, upd_same, paired_mono e h.mono p1⟩
theorem mr_dict : Mr H0 tDNewK σ dicP := ⟨fun H H' v e ⟨p, a, b⟩ => ⟨p, a, e _ _ b⟩, fun H _ Q q => fun p hp => q _ _ (K1.Same.upd hp) ⟨p, rfl, upd_same⟩⟩
end
/-! the heap without tables -/
noncomputable def nt (H : Hp) : Hp := fun b => match H b with | some (.tbl _) => none | o => o
theorem nt_some {H : Hp} {b : Addr} {o : HO} : nt H b = some o ↔ H b = some o ∧ ∀ ps, o ≠ .tbl ps := by
  unfold nt
  constructor
  · intro h
    split at h
    · cases h
    · rename_i x y
      refine ⟨h, fun ps z => y ps ?_⟩
      rw [h, z]
  · intro ⟨h, n⟩
    rw [h]
    split
    · rename_i x ps e
      exact absurd (Option.some.inj e) (n ps)
    · rfl
theorem nt_same {H H' : Hp} (e : LamX.ExtN H H') : Same (nt H) (nt H') := fun b o h => by
  obtain ⟨h1, h2⟩ := nt_some.mp h
  exact nt_some.mpr ⟨e b o h1 h2, h2⟩
theorem nt_out {H : Hp} : Same (nt H) H := fun b o h => (nt_some.mp h).1
theorem nt_to {H H' : Hp} (e : LamX.ExtN H H') : Same (nt H) H' := (nt_same e).trans nt_out
theorem nt_mono {H H' : Hp} (e : Same H H') : Same (nt H) (nt H') := nt_same (LamX.ExtN.of e)
theorem nt_l {H : Hp} {p : Addr} {xs : List V} (h : H p = some (.lst xs)) : nt H p = some (.lst xs) := nt_some.mpr ⟨h, fun _ z => by cases z⟩
theorem nt_t {H : Hp} {p : Addr} {xs : List V} (h : H p = some (.tup xs)) : nt H p = some (.tup xs) := nt_some.mpr ⟨h, fun _ z => by cases z⟩
theorem nt_d {H : Hp} {p : Addr} {xs : List (Key × V)} (h : H p = some (.dK xs)) : nt H p = some (.dK xs) := nt_some.mpr ⟨h, fun _ z => by cases z⟩
/-- no evening, and the same as itself -/
def OddE (K : PySem.W.Frag) (ss : List Str) (rs : List (Str × Str)) (G : Hp) (y : V) : Prop := NoEv K G ss rs y ∧ RF 5 G y y
theorem RF.mon : ∀ n, MonE (RF n)
  | 0 => fun _ _ _ _ _ h => h
  | n + 1 => NextF.mon (RF.mon n)
theorem NoBeg.ext {K : PySem.W.Frag} {H H' : Hp} {ss : List Str} {rs : List (Str × Str)} {v : V} (h : NoBeg K H ss rs v) (e : Same H H') : NoBeg K H' ss rs v := by
  rcases h with h | ⟨xs, bs, a, b, c, d⟩ | ⟨xs, js, a, b, c, d⟩
  · exact .inl (h.ext e)
  · exact .inr (.inl ⟨xs, bs, a.ext e, b, paired_imp (fun _ _ z => z.ext e) c, d⟩)
  · exact .inr (.inr ⟨xs, js, a.ext e, b, paired_imp (fun _ _ z => z.ext e) c, d⟩)
theorem BegV.ext {H H' : Hp} {rs : List (Str × Str)} {v : V} {js : List Nat} (h : BegV H rs v js) (e : Same H H') : BegV H' rs v js := by
  obtain ⟨xs, a, b, c, d⟩ := h
  exact ⟨xs, a.ext e, b, paired_imp (fun _ _ z => z.ext e) c, d⟩
theorem NoEv.ext {K : PySem.W.Frag} {H H' : Hp} {ss : List Str} {rs : List (Str × Str)} {v : V} (h : NoEv K H ss rs v) (e : Same H H') : NoEv K H' ss rs v := by
  rcases h with h | ⟨js, a, b⟩
  · exact .inl (h.ext e)
  · exact .inr ⟨js, a.ext e, b⟩
theorem OddE.ext {K : PySem.W.Frag} {ss : List Str} {rs : List (Str × Str)} {G G' : Hp} {y : V} (h : OddE K ss rs G y) (e : Same G G') : OddE K ss rs G' y := ⟨h.1.ext e, RF.mon 5 _ _ _ _ e h.2⟩
/-! what is the same as itself -/
theorem self_lst {n : Nat} {G : Hp} {p : Addr} {xs : List V} (h : G p = some (.lst xs)) (l : xs.length ≤ 100) (r : ∀ x ∈ xs, RF n G x x) : RF (n + 1) G (.ref p) (.ref p) := r_lists h h l (paired_same r)
theorem self_tup {n : Nat} {G : Hp} {p : Addr} {xs : List V} (h : G p = some (.tup xs)) (l : xs.length ≤ 100) (r : ∀ x ∈ xs, RF n G x x) : RF (n + 1) G (.ref p) (.ref p) := r_tups h h l (paired_same r)
theorem RF.up {n : Nat} {G : Hp} {x y : V} (h : RF n G x y) : RF (n + 1) G x y := by
  induction n generalizing G x y with
  | zero => exact h.elim
  | succ n ih =>
    rcases h with h | ⟨p, q, xs, ys, a, b, c, d, e⟩ | ⟨p, q, kvs, a, b, c, d, f⟩ | ⟨p, q, kvs, a, b, c, d, f⟩
    · exact .inl h
    · exact .inr (.inl ⟨p, q, xs, ys, a, b, c, d, paired_imp (fun _ _ z => ih z) e⟩)
    · exact .inr (.inr (.inl ⟨p, q, kvs, a, b, c, d, fun H2 a2 b2 as bs e2 h1 h2 h3 h4 => ih (f H2 a2 b2 as bs e2 h1 h2 h3 h4)⟩))
    · exact .inr (.inr (.inr ⟨p, q, kvs, a, b, c, d, fun H2 a2 b2 as bs ps qs e2 h1 h2 h3 h4 h5 h6 => ih (f H2 a2 b2 as bs ps qs e2 h1 h2 h3 h4 h5 h6)⟩))
/-- a list or tuple of things of which one is no road -/
theorem no_list {K : PySem.W.Frag} {G : Hp} {ss : List Str} {rs : List (Str × Str)} {v : V} {xs ys : List V} {z : V} {js1 js2 : List Nat} (sv : SeqV G v (xs ++ z :: ys)) (l : (xs ++ z :: ys).length ≤ 1000) (h1 : Paired (RoadV G rs) xs js1) (h2 : Paired (RoadV G rs) ys js2) (hz : NoRd K G ss rs z) : NoEv K G ss rs v := by
  have ap : ∀ {as cs : List V} {bs ds : List Bool}, Paired (Jud K G ss rs) as bs → Paired (Jud K G ss rs) cs ds → Paired (Jud K G ss rs) (as ++ cs) (bs ++ ds) := by
    intro as cs bs ds h
    induction h with
    | nil => exact id
    | cons a _ ih => exact fun q => .cons a (ih q)
  refine .inl (.inr (.inl ⟨_, _, sv, l, ap (paired_true h1) (.cons (.inr ⟨rfl, hz⟩) (paired_true h2)), ?_⟩))
  rw [List.all_append, List.all_cons]
  simp
/-- too few, or one twice -/
theorem no_perm {K : PySem.W.Frag} {G : Hp} {ss : List Str} {rs : List (Str × Str)} {v : V} {xs : List V} {js : List Nat} (sv : SeqV G v xs) (l : xs.length ≤ 1000) (h : Paired (RoadV G rs) xs js) (bad : ¬ js.Nodup ∨ js.length ≠ rs.length) : NoEv K G ss rs v := by
  by_cases nd : js.Nodup
  · exact .inr ⟨js, ⟨xs, sv, l, h, nd⟩, bad.resolve_left fun z => z nd⟩
  · exact .inl (.inr (.inr ⟨xs, js, sv, l, h, nd⟩))
def dctP (kvs : List (Key × V)) : PV := fun H v => ∃ p, v = .ref p ∧ H p = some (.dK (mergeK [] kvs))
theorem mr_dctP {K : PySem.W.Frag} {H0 : Hp} {σ : L2.St} {i : Nat} {R : Addr} {cq : List Addr} {kvs : List (Key × V)} (h : σ[i]? = some (some (.ref R))) (hR : H0 R = some (.lst (cq.map V.ref))) (pr : Paired (fun (p : Addr) (kv : Key × V) => H0 p = some (.tup [kV kv.1, kv.2])) cq kvs) :
    Mr H0 (tCB (fun xs H Q => ∃ (a : Addr) (ps : List Addr) (kvs : List (Key × V)), xs = [.ref a] ∧ SqL K H a (ps.map V.ref) ∧ Paired (fun p kv => SqT K H p [kV kv.1, kv.2]) ps kvs ∧ ∀ p, H p = none → Q (.ref p) (upd H p (.dK (mergeK [] kvs)))) (tCons (tVar i) tNil)) σ (dctP kvs) :=
  ⟨fun H H' v e ⟨p, a, b⟩ => ⟨p, a, e _ _ b⟩, fun H e Q q => ⟨_, h, R, cq, kvs, rfl, SqL.of (e _ _ hR), paired_imp (fun p kv z => SqT.of (e _ _ z)) pr, fun p hp => q _ _ (K1.Same.upd hp) ⟨p, rfl, upd_same⟩⟩⟩
def kvOf (es : List (Str × Str)) : List (Key × V) := es.map fun e => ((Sum.inr e.1 : Key), V.str e.2)
theorem noSeq_ty {K : PySem.W.Frag} {G : Hp} {v : V} {t : String} (h : TyX K G v (.type t)) (k : t ∈ kinds) (s : isSeqT t = false) : NoSeq K G v := ⟨t, h, k, s⟩
theorem putK_flat {R : RelE} {kvs : List (Key × V)} {k : Key} {v : V} (h : ∀ e ∈ kvs, (∃ s : Str, e.1 = .inr s) ∧ ∃ s : Str, e.2 = .str s) (hk : ∃ s : Str, k = .inr s) (hv : ∃ s : Str, v = .str s) : ∀ e ∈ putK kvs k v, (∃ s : Str, e.1 = .inr s) ∧ ∃ s : Str, e.2 = .str s := by
  intro e he
  unfold putK at he
  split at he
  · obtain ⟨x, hx, rfl⟩ := List.mem_map.mp he
    have := h x hx
    split
    · exact ⟨this.1, hv⟩
    · exact this
  · rcases List.mem_append.mp he with he | he
    · exact h e he
    · rw [List.mem_singleton.mp he]
      exact ⟨hk, hv⟩
theorem kvOf_flat : ∀ {es : List (Str × Str)} {acc : List (Key × V)}, (∀ e ∈ acc, (∃ s : Str, e.1 = .inr s) ∧ ∃ s : Str, e.2 = .str s) → ∀ e ∈ mergeK acc (kvOf es), (∃ s : Str, e.1 = .inr s) ∧ ∃ s : Str, e.2 = .str s
  | [], acc, h => h
  | x :: es, acc, h => kvOf_flat (es := es) (acc := putK acc (.inr x.1) (.str x.2)) (putK_flat (R := fun _ _ _ => True) h ⟨_, rfl⟩ ⟨_, rfl⟩)
theorem roads_go {G : Hp} {rs : List (Str × Str)} (f : Forest rs) {cq : List Addr} {es : List (Str × Str)} {js : List Nat} (h1 : Paired (TupP G) cq es) : AtPl rs js es → Paired (RoadV G rs) (cq.map V.ref) js := by
  induction h1 generalizing js with
  | nil => intro h2; cases h2; exact .nil
  | cons a _ ih =>
    intro h2
    cases h2 with
    | cons b r =>
      obtain ⟨hj, rfl⟩ := List.getElem?_eq_some_iff.mp b
      exact .cons ⟨_, _, ⟨_, rfl, .inr a⟩, plOf_of f hj⟩ (ih r)
theorem paired_take {α β : Type} {R : α → β → Prop} : ∀ (m : Nat) {xs : List α} {ys : List β}, Paired R xs ys → Paired R (xs.take m) (ys.take m)
  | 0, _, _, _ => .nil
  | _ + 1, _, _, .nil => .nil
  | m + 1, _, _, .cons a r => .cons a (paired_take m r)
end K1
end
-- EBe
section
set_option Elab.async false
set_option linter.all false
set_option maxRecDepth 100000
set_option maxHeartbeats 2000000
namespace K1
open PySem PySem.Spec PyProof.Rows L2 W0
abbrev sBe : Stmt := top 54
theorem scBe : FnScope ["spring", "form", "names", "roads", "at", "found", "odd"] ["spring", "form"] (defScope sBe) := ⟨rfl, rfl, rfl, by decide +kernel, rfl, by decide +kernel, by decide +kernel⟩
theorem paired_drop {α β : Type} {R : α → β → Prop} : ∀ (m : Nat) {xs : List α} {ys : List β}, Paired R xs ys → Paired R (xs.drop m) (ys.drop m)
  | 0, _, _, h => h
  | _ + 1, _, _, .nil => .nil
  | m + 1, _, _, .cons _ r => paired_drop m r
theorem paired_app {α β : Type} {R : α → β → Prop} {cs : List α} {ds : List β} : ∀ {xs : List α} {ys : List β}, Paired R xs ys → Paired R cs ds → Paired R (xs ++ cs) (ys ++ ds)
  | _, _, .nil, h => h
  | _, _, .cons f r, h => .cons f (paired_app r h)
theorem at_range {rs : List (Str × Str)} : AtPl rs (List.range rs.length) rs := by
  have key : ∀ (k : Nat) (es : List (Str × Str)), (∀ i, i < es.length → rs[k + i]? = es[i]?) → Paired (fun j e => rs[j]? = some e) (List.range' k es.length) es := by
    intro k es
    induction es generalizing k with
    | nil => intro _; exact .nil
    | cons e es ih =>
      intro h
      rw [List.length_cons, List.range'_succ]
      refine .cons ?_ (ih (k + 1) fun i hi => ?_)
      · have := h 0 (by simp)
        simpa using this
      · have := h (i + 1) (by simpa using hi)
        rw [show k + 1 + i = k + (i + 1) by omega, this]
        simp
  have := key 0 rs fun i _ => by rw [Nat.zero_add]
  rw [← List.range_eq_range'] at this
  exact this
theorem cut_from {xs : List V} {k : Nat} : cutV xs (some (k : Int)) none = xs.drop k := by
  unfold cutV
  rw [HT.sIx_none, HT.sIx_nat]
  by_cases h : k ≤ xs.length
  · rw [Nat.min_eq_left h, List.take_of_length_le]
    rw [List.length_drop]
    exact Nat.le_refl _
  · rw [Nat.min_eq_right (by omega), Nat.sub_self, List.take_zero, List.drop_eq_nil_of_le (by omega)]
/-! lists out of a list -/
def lsX (xs : List V) : PV := fun H v => ∃ p, v = .ref p ∧ H p = some (.lst xs)
def lsE (H0 : Hp) (xs : List V) (P : PV) (ys : List V) : PV := fun H v => ∃ p z, v = .ref p ∧ H0 p = none ∧ H p = some (.lst (xs ++ z :: ys)) ∧ P H z
section
variable {H0 : Hp} {σ : L2.St} {t te te2 : TE} {P : PV} {K : PySem.W.Frag} {i m m2 : Nat} {R : Addr} {xs : List V}
theorem mr_cutF (h : σ[i]? = some (some (.ref R))) (hR : H0 R = some (.lst xs)) (ht : Mr H0 te σ (eqP (.int (m : Nat)))) : Mr H0 (tSl (rSlL K) (tVar i) (tPart te) tNoPart) σ (lsX (xs.drop m)) :=
  ⟨fun H H' v e ⟨p, a, b⟩ => ⟨p, a, e _ _ b⟩, fun H e Q q => ⟨_, h, ht.run H e _ fun v H1 e1 ev => ⟨(m : Int), ev, R, xs, rfl, SqL.of ((e.trans e1) _ _ hR), fun p hp => by
    rw [cut_from]
    exact q _ _ (e1.trans (K1.Same.upd hp)) ⟨p, rfl, upd_same⟩⟩⟩⟩
/-- xs + xs[:m] -/
theorem mr_more (h : σ[i]? = some (some (.ref R))) (hR : H0 R = some (.lst xs)) (ht : Mr H0 te σ (eqP (.int (m : Nat)))) (l : xs.length ≤ 60) : Mr H0 (tOp rCat (tVar i) (tSl (rSlL K) (tVar i) tNoPart (tPart te))) σ (lsX (xs ++ xs.take m)) := by
  refine ⟨fun H H' v e ⟨p, a, b⟩ => ⟨p, a, e _ _ b⟩, fun H e Q q => ⟨_, h, _, h, ht.run H e _ fun v H1 e1 ev => ⟨(m : Int), ev, R, xs, rfl, SqL.of ((e.trans e1) _ _ hR), fun p hp => ?_⟩⟩⟩
  rw [cut_to]
  have e2 := K1.Same.upd (H := H1) (p := p) (o := .lst (xs.take m)) hp
  refine ⟨R, p, _, _, rfl, rfl, (e.trans (e1.trans e2)) _ _ hR, upd_same, Nat.le_of_lt (small1000 (by rw [List.length_take]; omega)), fun p2 hp2 => ?_⟩
  exact q _ _ (e1.trans (e2.trans (K1.Same.upd hp2))) ⟨p2, rfl, upd_same⟩
/-- xs[:m] + [t] + xs[m2:] -/
theorem mr_mid (h : σ[i]? = some (some (.ref R))) (hR : H0 R = some (.lst xs)) (l : xs.length ≤ 60) (h1 : Mr H0 te σ (eqP (.int (m : Nat)))) (ht : Mr H0 t σ P) (h2 : Mr H0 te2 σ (eqP (.int (m2 : Nat)))) :
    Mr H0 (tOp rCat (tOp rCat (tSl (rSlL K) (tVar i) tNoPart (tPart te)) (tLst (tCons t tNil))) (tSl (rSlL K) (tVar i) (tPart te2) tNoPart)) σ (lsE H0 (xs.take m) P (xs.drop m2)) := by
  refine ⟨fun H H' v e ⟨p, z, a, n, b, c⟩ => ⟨p, z, a, n, e _ _ b, ht.mono _ _ _ e c⟩, fun H e Q q => ⟨_, h, h1.run H e _ fun v H1 e1 ev => ⟨(m : Int), ev, R, xs, rfl, SqL.of ((e.trans e1) _ _ hR), fun p hp => ?_⟩⟩⟩
  rw [cut_to]
  have e2 := K1.Same.upd (H := H1) (p := p) (o := .lst (xs.take m)) hp
  have g2 := upd_same' H1 p (.lst (xs.take m))
  generalize L2.upd H1 p (.lst (xs.take m)) = H2 at e2 g2 ⊢
  have e02 := e.trans (e1.trans e2)
  refine ht.run H2 e02 _ fun z H3 e3 pz => ⟨(by show 1 ≤ sizeLine; decide), fun p2 hp2 => ?_⟩
  have e4 := K1.Same.upd (H := H3) (p := p2) (o := .lst [z]) hp2
  have g4 := upd_same' H3 p2 (.lst [z])
  generalize L2.upd H3 p2 (.lst [z]) = H4 at e4 g4 ⊢
  have lt : (xs.take m).length ≤ 60 := by rw [List.length_take]; omega
  have ld : (xs.drop m2).length ≤ 60 := by rw [List.length_drop]; omega
  refine ⟨p, p2, _, _, rfl, rfl, (e3.trans e4) _ _ g2, g4, Nat.le_of_lt (small1000 (by simp only [List.length_cons, List.length_nil]; omega)), fun p3 hp3 => ?_⟩
  have e5 := K1.Same.upd (H := H4) (p := p3) (o := .lst (xs.take m ++ [z])) hp3
  have g5 := upd_same' H4 p3 (.lst (xs.take m ++ [z]))
  generalize L2.upd H4 p3 (.lst (xs.take m ++ [z])) = H5 at e5 g5 ⊢
  have e25 := e3.trans (e4.trans e5)
  refine ⟨_, h, h2.run H5 (e02.trans e25) _ fun v2 H6 e6 ev2 => ⟨(m2 : Int), ev2, R, xs, rfl, SqL.of ((e02.trans (e25.trans e6)) _ _ hR), fun p4 hp4 => ?_⟩⟩
  rw [cut_from]
  have e7 := K1.Same.upd (H := H6) (p := p4) (o := .lst (xs.drop m2)) hp4
  have g7 := upd_same' H6 p4 (.lst (xs.drop m2))
  generalize L2.upd H6 p4 (.lst (xs.drop m2)) = H7 at e7 g7 ⊢
  refine ⟨p3, p4, _, _, rfl, rfl, (e6.trans e7) _ _ g5, g7, Nat.le_of_lt (small1000 (by rw [List.length_append]; simp only [List.length_cons, List.length_nil]; omega)), fun p5 hp5 => ?_⟩
  have e8 := K1.Same.upd (H := H7) (p := p5) (o := .lst (xs.take m ++ [z] ++ xs.drop m2)) hp5
  refine q _ _ (e1.trans (e2.trans (e25.trans (e6.trans (e7.trans e8))))) ⟨p5, z, rfl, (e02.trans (e25.trans (e6.trans e7))).free hp5, ?_, ht.mono _ _ _ (e4.trans (e5.trans (e6.trans (e7.trans e8)))) pz⟩
  rw [upd_same, List.append_assoc]
  rfl
theorem mr_add1 {d : Nat} (h : σ[i]? = some (some (.int (d : Nat)))) : Mr H0 (tOp rAdd (tVar i) (tC (.int 1))) σ (eqP (.int ((d + 1 : Nat) : Int))) :=
  ⟨fun _ _ _ _ h => h, fun H e Q q => ⟨_, h, _, _, rfl, rfl, q _ H (Same.refl _) rfl⟩⟩
end
/-! what is no evening -/
theorem tup_self {G : Hp} {qs : List Addr} {rs : List (Str × Str)} (pr : Paired (TupP G) qs rs) : ∀ x ∈ qs.map V.ref, RF 4 G x x := fun x hx => by
  obtain ⟨p, hp, rfl⟩ := List.mem_map.mp hx
  obtain ⟨k, hk, rfl⟩ := List.mem_iff_getElem.mp hp
  have hke : k < rs.length := by rw [← pr.length]; exact hk
  obtain ⟨p', ep, tp⟩ := paired_get pr hke
  rw [List.getElem?_eq_getElem hk] at ep
  obtain rfl := Option.some.inj ep
  refine self_tup (n := 3) tp (by show 2 ≤ 100; decide) fun y hy => ?_
  simp only [List.mem_cons, List.not_mem_nil, or_false] at hy
  rcases hy with rfl | rfl
  · exact r_str _
  · exact r_str _
theorem odd_mid {K : PySem.W.Frag} {G : Hp} {ss : List Str} {rs : List (Str × Str)} {qs : List Addr} {p : Addr} {z : V} {d : Nat} (f : Forest rs) (pr : Paired (TupP G) qs rs) (lr : rs.length ≤ 59) (hd : d < rs.length) (hp : G p = some (.lst ((qs.map V.ref).take d ++ z :: (qs.map V.ref).drop (d + 1))))
    (hz : NoRd K G ss rs z ∨ ∃ j, RoadV G rs z j ∧ j < rs.length ∧ j ≠ d) (sm : RF 4 G z z) : OddE K ss rs G (.ref p) := by
  have go := roads_go f pr at_range
  have lq : (qs.map V.ref).length = rs.length := by rw [List.length_map, pr.length]
  have ll : ((qs.map V.ref).take d ++ z :: (qs.map V.ref).drop (d + 1)).length ≤ 100 := by rw [List.length_append, List.length_cons, List.length_take, List.length_drop]; omega
  refine ⟨?_, self_lst (n := 4) hp ll fun x hx => ?_⟩
  · rcases hz with hz | ⟨j, hj, h1, h2⟩
    · exact no_list (xs := (qs.map V.ref).take d) (ys := (qs.map V.ref).drop (d + 1)) ⟨p, rfl, .inl hp⟩ (by omega) (paired_take d go) (paired_drop (d + 1) go) hz
    · refine no_perm (js := (List.range rs.length).take d ++ j :: (List.range rs.length).drop (d + 1)) ⟨p, rfl, .inl hp⟩ (by omega) (paired_app (paired_take d go) (.cons hj (paired_drop (d + 1) go))) (.inl fun nd => ?_)
      have nd2 := (List.nodup_append.mp nd)
      have n3 := List.nodup_cons.mp nd2.2.1
      have key : j ∈ (List.range rs.length).take d ∨ j ∈ (List.range rs.length).drop (d + 1) := by
        rcases Nat.lt_or_gt_of_ne h2 with h | h
        · left
          rw [List.mem_iff_getElem]
          exact ⟨j, by rw [List.length_take, List.length_range]; omega, by rw [List.getElem_take, List.getElem_range]⟩
        · right
          rw [List.mem_iff_getElem]
          exact ⟨j - (d + 1), by rw [List.length_drop, List.length_range]; omega, by rw [List.getElem_drop, List.getElem_range]; omega⟩
      rcases key with h | h
      · exact nd2.2.2 _ h _ (List.mem_cons_self ..) rfl
      · exact n3.1 h
  · rcases List.mem_append.mp hx with hx | hx
    · exact tup_self pr x (List.mem_of_mem_take hx)
    · rcases List.mem_cons.mp hx with rfl | hx
      · exact sm
      · exact tup_self pr x (List.mem_of_mem_drop hx)
/-- the first eight -/
def beA (kvs : List (Key × V)) (xs : List V) : List PV := [eqP .non, eqP (.int 5), eqP (.str "ab"), dicP, eqP (.bl true), lsX (xs.drop 1), lsX (xs ++ xs.take 1), dctP kvs]
theorem self_dict {G : Hp} {p : Addr} {kvs : List (Key × V)} (hp : G p = some (.dK kvs)) (fl : ∀ e ∈ kvs, (∃ s : Str, e.1 = .inr s) ∧ ∃ s : Str, e.2 = .str s) (ll : kvs.length ≤ 100) : RF 4 G (.ref p) (.ref p) := by
  refine .inr (.inr (.inl ⟨p, p, kvs, rfl, rfl, hp, hp, fun H' a b as bs e ha hb pa pb => ?_⟩))
  refine r_lists (R := RF 2) ha hb (by rw [List.length_map, pa.length]; exact ll) ?_
  have go : ∀ {as bs : List Addr} {kvs : List (Key × V)}, (∀ e ∈ kvs, (∃ s : Str, e.1 = .inr s) ∧ ∃ s : Str, e.2 = .str s) → Paired (fun (t : Addr) (e : Key × V) => H' t = some (.tup [kV e.1, e.2])) as kvs → Paired (fun (t : Addr) (e : Key × V) => H' t = some (.tup [kV e.1, e.2])) bs kvs → Paired (RF 2 H') (as.map V.ref) (bs.map V.ref) := by
    intro as bs kvs hf h1
    induction h1 generalizing bs with
    | nil => intro h2; cases h2; exact .nil
    | @cons x e1 xs es1 a1 _ ih =>
      intro h2
      cases h2 with
      | cons b1 r =>
        obtain ⟨⟨s1, e2⟩, s2, e3⟩ := hf e1 (List.mem_cons_self ..)
        refine .cons ?_ (ih (fun e he => hf e (List.mem_cons_of_mem _ he)) r)
        rw [e2, e3] at a1 b1
        exact r_tups (R := RF 1) a1 b1 (by show 2 ≤ 100; decide) (.cons (r_str (R := RF 0) s1) (.cons (r_str (R := RF 0) s2) .nil))
  exact go fl pa pb
theorem beA_ok {K : PySem.W.Frag} {ss : List Str} {rs : List (Str × Str)} {qs : List Addr} {H : Hp} (f : Forest rs) (pr : Paired (TupP (nt H)) qs rs) (lr : rs.length ≤ 59) (pos : 1 ≤ rs.length) {v : V} {P : PV} (hP : P ∈ beA (kvOf rs) (qs.map V.ref)) (h : P H v) : OddE K ss rs (nt H) v := by
  unfold beA at hP
  simp only [List.mem_cons, List.not_mem_nil, or_false] at hP
  have ns : ∀ {t : String}, TyX K (nt H) v (.type t) → t ∈ kinds → isSeqT t = false → NoEv K (nt H) ss rs v := fun a b c => .inl (.inl (noSeq_ty a b c))
  have go := roads_go f pr at_range
  have lq : (qs.map V.ref).length = rs.length := by rw [List.length_map, pr.length]
  rcases hP with rfl | rfl | rfl | rfl | rfl | rfl | rfl | rfl
  · cases h
    exact ⟨ns (.base .non) (by decide) rfl, r_non⟩
  · cases h
    exact ⟨ns (.base (.int 5)) (by decide) rfl, r_int 5⟩
  · cases h
    exact ⟨ns (.base (.str "ab")) (by decide) rfl, r_str _⟩
  · obtain ⟨p, rfl, hp⟩ := h
    exact ⟨ns (.base (.dK (nt_d hp))) (by decide) rfl, RF.up (self_dict (nt_d hp) (fun e he => by cases he) (by decide))⟩
  · cases h
    exact ⟨ns (.base (.bl true)) (by decide) rfl, r_bl _⟩
  · obtain ⟨p, rfl, hp⟩ := h
    refine ⟨no_perm (js := (List.range rs.length).drop 1) ⟨p, rfl, .inl (nt_l hp)⟩ (by rw [List.length_drop]; omega) (paired_drop 1 go) (.inr (by rw [List.length_drop, List.length_range]; omega)), self_lst (n := 4) (nt_l hp) (by rw [List.length_drop]; omega) fun x hx => tup_self pr x (List.mem_of_mem_drop hx)⟩
  · obtain ⟨p, rfl, hp⟩ := h
    refine ⟨no_perm (js := List.range rs.length ++ (List.range rs.length).take 1) ⟨p, rfl, .inl (nt_l hp)⟩ (by rw [List.length_append, List.length_take]; omega) (paired_app go (paired_take 1 go)) (.inr (by rw [List.length_append, List.length_take, List.length_range]; omega)), self_lst (n := 4) (nt_l hp) (by rw [List.length_append, List.length_take]; omega) fun x hx => ?_⟩
    rcases List.mem_append.mp hx with hx | hx
    · exact tup_self pr x hx
    · exact tup_self pr x (List.mem_of_mem_take hx)
  · obtain ⟨p, rfl, hp⟩ := h
    refine ⟨ns (.base (.dK (nt_d hp))) (by decide) rfl, RF.up (self_dict (nt_d hp) (kvOf_flat (es := rs) (acc := []) fun e he => by cases he) ?_)⟩
    have := mergeK_len [] (kvOf rs)
    unfold kvOf at this
    rw [List.length_map, List.length_nil] at this
    unfold kvOf
    omega
/-- what is put in a road's place -/
def oddO (s0 s1 : Str) : List PV := [eqP .non, eqP (.int 5), eqP (.str "ab"), tupP [], tupP [eqP (.str s0)], tupP [eqP (.str s0), eqP (.str s0)], tupP [eqP (.str s0), eqP (.str "nobody")], lstP [eqP (.str s1), eqP .non], dicP]
theorem oddO_ok {K : PySem.W.Frag} {ss : List Str} {rs : List (Str × Str)} {H : Hp} {s0 s1 : Str} (f : Forest rs) (h0 : s0 ∈ ss) (h1 : s1 ∈ ss) (nob : ("nobody" : Str) ∉ ss) {v : V} {P : PV} (hP : P ∈ oddO s0 s1) (h : P H v) : NoRd K H ss rs v ∧ RF 4 H v v := by
  unfold oddO at hP
  simp only [List.mem_cons, List.not_mem_nil, or_false] at hP
  have sts : ∀ {n : Nat} {G : Hp} {xs : List V}, (∀ x ∈ xs, ∃ s : Str, x = .str s) → ∀ x ∈ xs, K1.RF (n + 1) G x x := fun h x hx => by
    obtain ⟨s, rfl⟩ := h x hx
    exact r_str _
  rcases hP with rfl | rfl | rfl | rfl | rfl | rfl | rfl | rfl | rfl
  · cases h
    exact ⟨.inl (noSeq_ty (.base .non) (by decide) rfl), r_non⟩
  · cases h
    exact ⟨.inl (noSeq_ty (.base (.int 5)) (by decide) rfl), r_int 5⟩
  · cases h
    exact ⟨.inl (noSeq_ty (.base (.str "ab")) (by decide) rfl), r_str _⟩
  · obtain ⟨p, xs, rfl, hp, pr⟩ := h
    cases pr
    exact ⟨.inr (.inl ⟨_, ⟨p, rfl, .inr hp⟩, by decide⟩), self_tup (n := 3) hp (by decide) fun x hx => by cases hx⟩
  · obtain ⟨p, xs, rfl, hp, pr⟩ := h
    cases pr with
    | cons a r =>
      cases r
      cases a
      exact ⟨.inr (.inl ⟨_, ⟨p, rfl, .inr hp⟩, by simp⟩), self_tup (n := 3) hp (by show 1 ≤ 100; decide) (sts fun x hx => ⟨_, List.mem_singleton.mp hx⟩)⟩
  · obtain ⟨p, xs, rfl, hp, pr⟩ := h
    cases pr with
    | cons a r =>
      cases r with
      | cons a2 r =>
        cases r
        cases a
        cases a2
        refine ⟨.inr (.inr ⟨_, _, ⟨p, rfl, .inr hp⟩, .inr ⟨_, rfl, h0, .inr ⟨_, rfl, h0, ?_⟩⟩⟩), self_tup (n := 3) hp (by show 2 ≤ 100; decide) (sts fun x hx => ?_)⟩
        · cases hpl : plOf rs s0 s0 with
          | none => rfl
          | some i =>
            obtain ⟨hi, hie⟩ := plOf_at hpl
            have fi := f i hi
            exfalso
            rcases hie with hie | hie <;> rw [hie] at fi <;> exact fi rfl
        · simp only [List.mem_cons, List.not_mem_nil, or_false] at hx
          rcases hx with rfl | rfl <;> exact ⟨_, rfl⟩
  · obtain ⟨p, xs, rfl, hp, pr⟩ := h
    cases pr with
    | cons a r =>
      cases r with
      | cons a2 r =>
        cases r
        cases a
        cases a2
        refine ⟨.inr (.inr ⟨_, _, ⟨p, rfl, .inr hp⟩, .inr ⟨_, rfl, h0, .inl (.inl ⟨_, rfl, nob⟩)⟩⟩), self_tup (n := 3) hp (by show 2 ≤ 100; decide) (sts fun x hx => ?_)⟩
        simp only [List.mem_cons, List.not_mem_nil, or_false] at hx
        rcases hx with rfl | rfl <;> exact ⟨_, rfl⟩
  · obtain ⟨p, xs, rfl, hp, pr⟩ := h
    cases pr with
    | cons a r =>
      cases r with
      | cons a2 r =>
        cases r
        cases a
        cases a2
        refine ⟨.inr (.inr ⟨_, _, ⟨p, rfl, .inl hp⟩, .inr ⟨_, rfl, h1, .inl (.inr ⟨"NoneType", .base .non, by decide, by decide⟩)⟩⟩), self_lst (n := 3) hp (by show 2 ≤ 100; decide) fun x hx => ?_⟩
        simp only [List.mem_cons, List.not_mem_nil, or_false] at hx
        rcases hx with rfl | rfl
        · exact r_str _
        · exact r_non
  · obtain ⟨p, rfl, hp⟩ := h
    exact ⟨.inl (noSeq_ty (.base (.dK hp)) (by decide) rfl), self_dict hp (fun e he => by cases he) (by decide)⟩
end K1
end
-- XAh
section
set_option Elab.async false
set_option linter.all false
set_option maxRecDepth 100000
set_option maxHeartbeats 4000000
namespace K1
open PySem PySem.Spec PyProof.Rows L2 W0
abbrev sAh : Stmt := top 36
abbrev sBo : Stmt := top 41
abbrev sCn : Stmt := top 40
theorem scAh : FnScope ["spans", "place", "later"] ["spans", "place", "later"] (defScope sAh) := ⟨rfl, rfl, rfl, by decide +kernel, rfl, by decide +kernel, by decide +kernel⟩
theorem scBo : FnScope ["valley", "spans", "evening", "places", "roads", "at", "place", "later"] ["valley", "spans", "evening"] (defScope sBo) := ⟨rfl, rfl, rfl, by decide +kernel, rfl, by decide +kernel, by decide +kernel⟩
theorem scCn : FnScope ["valley", "spans", "evening"] ["valley", "spans", "evening"] (defScope sCn) := ⟨rfl, rfl, rfl, by decide +kernel, rfl, by decide +kernel, by decide +kernel⟩
/-- spans of which the one at i ends before the one at j begins, or as it begins -/
def ahB (sps : List (Int × Int)) (i j : Nat) : Bool := decide (i ≠ j) && decide (((sps[i]?).getD (0, 0)).2 ≤ ((sps[j]?).getD (0, 0)).1)
/-- spans, in a list or a tuple -/
def SpsV (H : Hp) (v : V) (sps : List (Int × Int)) : Prop := ∃ us, SeqV H v us ∧ Paired (SpaV H) us sps
theorem SpsV.ext {H H' : Hp} {v : V} {sps : List (Int × Int)} (h : SpsV H v sps) (e : Same H H') : SpsV H' v sps := by
  obtain ⟨us, a, b⟩ := h
  exact ⟨us, a.ext e, paired_imp (fun _ _ z => SeqV.ext z e) b⟩
def spAh : Sp := fun vs H Q _ => ∃ (v : V) (sps : List (Int × Int)) (i j : Nat), vs = [v, .int (i : Int), .int (j : Int)] ∧ SpsV H v sps ∧ i < sps.length ∧ j < sps.length ∧ Q (.bl (ahB sps i j)) H
section
variable {P : Program} {w : World} {K : PySem.W.Frag} {mg : Str → Option Value} {base : Heap} {C CV CC CB : Addr}
theorem ok_Ah {f : Addr} {fd : FuncData} (F : Fun K "is_surely_ahead" "is_surely_ahead" sAh f fd) : FnOk P w K mg base CX0 1 f fd ["spans", "place", "later"] spAh := by
  refine F.ok scAh (fun vs H Q E h => ?_) (fun cdv A outer s H vs Q E hr h => ?_)
  · obtain ⟨v, sps, i, j, rfl, _⟩ := h
    rfl
  obtain ⟨v, sps, i, j, rfl, ⟨us, sv, pr⟩, hi, hj, q⟩ := h
  refine ⟨_, (pss_one (by exact (ps_ret (pe_and (pe_cmpR op_ne (pv 1) (pv 2) (nomark _)) (pe_one (pe_cmpR op_le (pe_ix ix_seq (pe_ix ix_seq (pv 0) (pv 1) (fun _ _ => rfl)) pe_int (fun _ _ => rfl)) (pe_ix ix_seq (pe_ix ix_seq (pv 0) (pv 2) (fun _ _ => rfl)) pe_int (fun _ _ => rfl)) (nomark _))))))), ?_⟩
  obtain ⟨x, ex, sx⟩ := paired_get pr hi
  obtain ⟨y, ey, sy⟩ := paired_get pr hj
  have gi : (sps[i]?).getD (0, 0) = sps[i] := by rw [List.getElem?_eq_getElem hi]; rfl
  have gj : (sps[j]?).getD (0, 0) = sps[j] := by rw [List.getElem?_eq_getElem hj]; rfl
  unfold ahB at q
  rw [gi, gj] at q
  refine ⟨_, rfl, _, rfl, rfl, _, rfl, ?_⟩
  by_cases ne : i = j
  · subst ne
    rw [decide_eq_false (fun z => z rfl)] at q
    rw [decide_eq_true rfl]
    exact iteF q
  · rw [decide_eq_true ne] at q
    rw [decide_eq_false (show ¬ (V.int (i : Int) = V.int (j : Int)) from fun z => ne (by have := V.int.inj z; omega))]
    refine iteT ?_
    refine ⟨_, rfl, _, rfl, ixSeq sv (atI_nat ex) (ixSeq sx (atI_nat (j := 1) rfl) ⟨_, rfl, _, rfl, ixSeq sv (atI_nat ey) (ixSeq sy (atI_nat (j := 0) rfl) ⟨_, _, rfl, rfl, ?_⟩)⟩)⟩
    exact q
end
/-- where spans fail first -/
def SpBad (K : PySem.W.Frag) (H : Hp) (v : V) (rs : List (Str × Str)) (i : Nat) : Prop := (NoSeq K H v ∧ i = 0) ∨
  ∃ (sps : List (Int × Int)) (us rest : List V), SeqV H v (us ++ rest) ∧ Paired (SpaV H) us sps ∧ GoodSp sps ∧ (us ++ rest).length ≤ 2000 ∧ sps.length ≤ rs.length ∧ i = sps.length ∧
    ((rest = [] ∧ sps.length < rs.length) ∨ ∃ z r, rest = z :: r ∧ (sps.length = rs.length ∨ BadSp K H sps z))
/-- good spans, one for each road -/
def SpsOk (H : Hp) (v : V) (rs : List (Str × Str)) (sps : List (Int × Int)) : Prop := SpsV H v sps ∧ GoodSp sps ∧ sps.length = rs.length
theorem SpsOk.ext {H H' : Hp} {v : V} {rs : List (Str × Str)} {sps : List (Int × Int)} (h : SpsOk H v rs sps) (e : Same H H') : SpsOk H' v rs sps := ⟨h.1.ext e, h.2⟩
theorem SpBad.ext {K : PySem.W.Frag} {H H' : Hp} {v : V} {rs : List (Str × Str)} {i : Nat} (h : SpBad K H v rs i) (e : Same H H') : SpBad K H' v rs i := by
  rcases h with ⟨a, b⟩ | ⟨sps, us, rest, a, b, c, d, f, g, h⟩
  · exact .inl ⟨a.ext e, b⟩
  · exact .inr ⟨sps, us, rest, a.ext e, paired_imp (fun _ _ z => SeqV.ext z e) b, c, d, f, g, h.imp id fun ⟨z, r, x, y⟩ => ⟨z, r, x, y.imp id fun q => q.ext e⟩⟩
/-- an evening that can be: none stands ahead of one that is surely ahead of it -/
abbrev CanB (sps : List (Int × Int)) (js : List Nat) : Prop := js.Pairwise fun a b => ahB sps b a = false
def spBo (K : PySem.W.Frag) (C CV CC CB : Addr) : Sp := fun vs H Q E => ∃ v s u, vs = [v, s, u] ∧ ((NoV K H v ∧ GoesF CV [("thing", v)] H E) ∨ ∃ x ss rs ns, v = .ref x ∧ IsV C H x ss rs ns ∧ EndsIn ss rs ∧ rs.length ≤ 1000 ∧
  ((∃ i, SpBad K H s rs i ∧ Goes CB (i : Nat) H E) ∨ ∃ sps, SpsOk H s rs sps ∧ ((NoEv K H ss rs u ∧ GoesF CC [("evening", u)] H E) ∨ ∃ js, EvV H rs u js ∧ (∀ j ∈ js, j < rs.length) ∧ ∀ z H', Same H H' → ((CanB sps js ∧ z = .non) ∨ (¬ CanB sps js ∧ ∃ r, z = .ref r)) → Q z H')))
section
variable {P : Program} {w : World} {K : PySem.W.Frag} {mg : Str → Option Value} {base : Heap} {C CV CC CB : Addr}
theorem ok_Bo {f fV fN fC fR fA : Addr} {fd vd nd_ cd rd ad : FuncData} (F : Fun K "bar_of" "bar_of" sBo f fd) (T : VcT K C) (me : mg "enumerate" = none)
    (GV : FnOk P w K mg base (L2.CX P w) 3 fV vd ["valley"] (spNv K C CV)) (bV : Binds K vd ["valley"] []) (kV : PySem.W.keepIn K (.ref fV) = true) (mV : mg "need_valley" = some (.ref fV))
    (GN : FnOk P w K mg base (L2.CX P w) 4 fN nd_ ["valley", "spans"] (spNs K C CB)) (bN : Binds K nd_ ["valley", "spans"] []) (kN : PySem.W.keepIn K (.ref fN) = true) (mN : mg "need_spans" = some (.ref fN))
    (GC : FnOk P w K mg base (L2.CX P w) 7 fC cd ["valley", "evening"] (spCg K C CC)) (bC : Binds K cd ["valley", "evening"] []) (kC : PySem.W.keepIn K (.ref fC) = true) (mC : mg "need_evening" = some (.ref fC))
    (GR : FnOk P w K mg base CX0 1 fR rd ["self"] (spRo C)) (hR : Meth K C "roads" fR) (bR : Binds K rd ["self"] [])
    (GA : FnOk P w K mg base CX0 1 fA ad ["spans", "place", "later"] spAh) (bA : Binds K ad ["spans", "place", "later"] []) (kA : PySem.W.keepIn K (.ref fA) = true) (mA : mg "is_surely_ahead" = some (.ref fA)) :
    FnOk P w K mg base (L2.CX P w) 8 f fd ["valley", "spans", "evening"] (spBo K C CV CC CB) := by
  refine F.okX scBo (fun vs H Q E h => ?_) (fun cdv A outer s H vs Q E hr h => ?_)
  · obtain ⟨v, sp, u, rfl, _⟩ := h
    rfl
  obtain ⟨v, sp, u, rfl, h⟩ := h
  have nd := scBo.nd
  have hr1 : Room 1 _ := hr.mono (by decide)
  have hr3 : Room 3 _ := hr.mono (by decide)
  have hr4 : Room 4 _ := hr.mono (by decide)
  refine ⟨_, (pss_cons (by exact (ps_expr (pe_call GV hr3 rfl mV kV bV .nil (passes_call (takes_of rfl rfl rfl rfl) (fun _ _ _ _ h => h)) (pa_cons (pv 0) pa_nil))))
    (pss_cons (by exact (ps_expr (pe_call GN hr4 rfl mN kN bN .nil (passes_call (takes_of rfl rfl rfl rfl) (fun _ _ _ _ h => h)) (pa_cons (pv 0) (pa_cons (pv 1) pa_nil)))))
    (pss_cons (by exact (ps_set (i := 3) nd rfl (.inl rfl) (pe_call GC hr rfl mC kC bC .nil (passes_call (takes_of rfl rfl rfl rfl) (fun _ _ _ _ h => h)) (pa_cons (pv 0) (pa_cons (pv 2) pa_nil)))))
    (pss_cons (by exact (ps_set (i := 4) nd rfl (.inl rfl) (pe_meth0 (pv 0) T.cl hR GR hr1 bR .nil pass0)))
    (pss_cons (by exact (ps_for (passes_of rfl) rfl (by exact pi_enumV 3 rfl me (pv 3)) (pg_tup rfl (pgs_cons (pg_name (i := 5) nd rfl (.inl rfl)) (pgs_cons (pg_name (i := 6) nd rfl (.inl rfl)) pgs_nil))) (pss_one (by exact (ps_for (passes_of rfl) rfl (by exact pi_list (pe_slice sl_list (pv 3) (po_some (pe_op op_add (pv 5) pe_int)) po_none)) (pg_name (i := 7) nd rfl (.inl rfl)) (pss_one (by exact (ps_if (pt_val (pe_call GA hr1 rfl mA kA bA .nil pass0 (pa_cons (pv 1) (pa_cons (pv 7) (pa_cons (pv 6) pa_nil))))) (pss_one (by exact (ps_ret (pe_tup (pa_cons (pe_ix ix_list (pv 4) (pv 6) (fun _ _ => rfl)) (pa_cons (pe_ix ix_list (pv 4) (pv 7) (fun _ _ => rfl)) pa_nil)))))) pss_nil))))))))
    (pss_one (by exact (ps_ret pe_non)))))))), ?_⟩
  rcases h with ⟨n, g⟩ | ⟨x, ss, rs, ns, rfl, iv, he, lrs, h⟩
  · exact ⟨_, rfl, _, rfl, .inr ⟨n, g⟩⟩
  refine ⟨_, rfl, _, rfl, .inl ⟨x, ss, rs, ns, rfl, iv, ?_⟩⟩
  with_reducible refine sQ ?_
  rcases h with ⟨i, bad, g⟩ | ⟨sps, sok, h⟩
  · rcases bad with ⟨a, rfl⟩ | ⟨sps, us, rest, a, b, c, d, f, rfl, h⟩
    · exact ⟨_, rfl, _, rfl, x, sp, ss, rs, ns, rfl, iv, lrs, .inl ⟨a, g⟩⟩
    · rcases h with ⟨r, lt⟩ | ⟨z, r, e, q⟩
      · exact ⟨_, rfl, _, rfl, x, sp, ss, rs, ns, rfl, iv, lrs, .inr ⟨sps, us, rest, a, b, c, d, f, .inr (.inl ⟨r, lt, g⟩)⟩⟩
      · exact ⟨_, rfl, _, rfl, x, sp, ss, rs, ns, rfl, iv, lrs, .inr ⟨sps, us, rest, a, b, c, d, f, .inr (.inr ⟨z, r, e, q, g⟩)⟩⟩
  obtain ⟨⟨us, su, pu⟩, gs, ls⟩ := id sok
  have lpu := pu.length
  refine ⟨_, rfl, _, rfl, x, sp, ss, rs, ns, rfl, iv, lrs, .inr ⟨sps, us, [], by rw [List.append_nil]; exact su, pu, gs, by rw [List.append_nil]; omega, by omega, .inl ⟨rfl, ls, fun H1 e1 => ?_⟩⟩⟩
  with_reducible refine sQ ?_
  have iv1 := iv.same e1
  rcases h with ⟨n, g⟩ | ⟨js, ev, lt, q⟩
  · exact ⟨_, rfl, _, rfl, x, u, ss, rs, ns, rfl, iv1, he, .inr ⟨n.ext e1, g.ext e1⟩⟩
  refine ⟨_, rfl, _, rfl, x, u, ss, rs, ns, rfl, iv1, he, .inl ⟨js, ⟨ev.1.ext e1, ev.2⟩, fun p H2 e2 np gp => ?_⟩⟩
  refine K1.gN ?_
  have e12 := e1.trans e2
  have iv2 := iv.same e12
  obtain ⟨dx, fx, ix, f0⟩ := iv2.inst
  refine ⟨_, rfl, x, dx, fx, rfl, ix, f0 _ (by decide +kernel), x, ss, rs, ns, rfl, iv2, fun R qs hR0 pq => ?_⟩
  refine K1.gN ?_
  have e3 := K1.Same.upd (H := H2) (p := R) (o := .lst (qs.map V.ref)) hR0
  have gR := upd_same' H2 R (.lst (qs.map V.ref))
  generalize L2.upd H2 R (.lst (qs.map V.ref)) = H3 at e3 gR ⊢
  have gp3 := e3 _ _ gp
  have e13 := e12.trans e3
  have liv : (intsV js).length = js.length := List.length_map ..
  have ejs : js.length = rs.length := ev.2
  have atJ : ∀ {k : Nat} (hk : k < js.length), (intsV js)[k]? = some (.int ((js[k] : Nat) : Int)) := fun {k} hk => by
    unfold intsV
    rw [List.getElem?_map, List.getElem?_eq_getElem hk]
    rfl
  have atR : ∀ {k : Nat} (hk : k < js.length), ∃ v, atI (qs.map V.ref) ((js[k] : Nat) : Int) = some v := fun {k} hk => by
    obtain ⟨q0, eq0, _⟩ := paired_get pq (lt _ (List.getElem_mem hk))
    exact ⟨_, atI_nat (by rw [List.getElem?_map, eq0]; rfl)⟩
  have ltS : ∀ {k : Nat} (hk : k < js.length), js[k] < sps.length := fun {k} hk => by have := lt _ (List.getElem_mem hk); omega
  refine ⟨p, intsV js, rfl, .inl (SqL.of gp3), fun J G wk hG => ?_⟩
  refine for_it wk (fun i σ Hc => (∃ a b c, σ = [some (.ref x), some sp, some u, some (.ref p), some (.ref R), a, b, c]) ∧ Same H3 Hc ∧ ∀ (a b : Nat) (ha : a < js.length) (hb : b < js.length), a < i → a < b → ahB sps js[b] js[a] = false) ⟨⟨_, _, _, rfl⟩, Same.refl _, fun a b _ _ h => absurd h (Nat.not_lt_zero _)⟩ ?_ ?_ ?_
  · rintro i σ Hc hi ⟨h1, h2, h3⟩
    exact hG Hc fun o ho => h2 p o ho
  · rintro i y σ Hc H' hi ⟨⟨sa, sb, sc, rfl⟩, h2, h3⟩ ⟨T', x1, x2, rfl, hT, rfl, e1', e2'⟩
    rw [liv] at hi
    obtain rfl : x1 = .int (i : Nat) := (Option.some.inj e1').symm
    have e2' : (intsV js)[i]? = some x2 := e2'
    rw [atJ hi] at e2'
    obtain rfl := Option.some.inj e2'
    have hT2 := K1.Same.upd (H := Hc) (p := T') (o := .tup [.int (i : Nat), .int ((js[i] : Nat) : Int)]) hT
    refine ⟨T', _, rfl, SqT.of upd_same, rfl, _, _, rfl, _, _, rfl, rfl, ?_⟩
    generalize upd Hc T' (.tup [.int (i : Nat), .int ((js[i] : Nat) : Int)]) = H4 at hT2 ⊢
    have e34 : Same H3 H4 := h2.trans hT2
    refine Mr.run (H0 := H4) (P := lsX ((intsV js).drop (i + 1))) (mr_cutF (m := i + 1) (by rfl) (e34 _ _ gp3) (mr_add1 (by rfl))) H4 (Same.refl _) _ fun L0 H5 e5 pl => ?_
    obtain ⟨L, rfl, gL⟩ := pl
    refine ⟨L, rfl, ⟨_, SqL.of gL⟩, ?_⟩
    have ldr : ((intsV js).drop (i + 1)).length = js.length - (i + 1) := by rw [List.length_drop, liv]
    refine for_it walk_list (fun k σ Hd => (∃ c, σ = [some (.ref x), some sp, some u, some (.ref p), some (.ref R), some (.int (i : Nat)), some (.int ((js[i] : Nat) : Int)), c]) ∧ Same H5 Hd ∧ ∀ (b : Nat) (hb : b < js.length), i < b → b < i + 1 + k → ahB sps js[b] js[i] = false) ⟨⟨_, rfl⟩, Same.refl _, fun b hb h1 h2 => by omega⟩ (fun k σ Hd _ h => SqL.of (h.2.1 _ _ gL)) ?_ ?_
    · rintro k z σ Hd H'' hk ⟨⟨sd, rfl⟩, d2, d3⟩ ⟨rfl, hz⟩
      rw [ldr] at hk
      have hik : i + 1 + k < js.length := by omega
      rw [List.getElem?_drop, atJ hik] at hz
      obtain rfl := Option.some.inj hz
      have e3d : Same H3 H'' := e34.trans (e5.trans d2)
      refine K1.gN ?_
      refine ⟨_, rfl, _, rfl, _, rfl, sp, sps, js[i + 1 + k], js[i], rfl, (sok.1.ext e13).ext e3d, ltS hik, ltS hi, ⟨_, rfl, ?_⟩⟩
      cases ha : ahB sps js[i + 1 + k] js[i] with
      | true =>
        refine iteT ?_
        obtain ⟨v1, r1⟩ := atR hi
        obtain ⟨v2, r2⟩ := atR hik
        refine ⟨_, rfl, _, rfl, R, _, _, v1, rfl, rfl, SqL.of (e3d _ _ gR), r1, _, rfl, _, rfl, R, _, _, v2, rfl, rfl, SqL.of (e3d _ _ gR), r2, (by show 2 ≤ sizeLine; decide), fun r hr => ?_⟩
        refine q _ _ (e13.trans (e3d.trans (K1.Same.upd hr))) (.inr ⟨fun cb => ?_, r, rfl⟩)
        have := List.pairwise_iff_getElem.mp cb i (i + 1 + k) hi hik (by omega)
        rw [ha] at this
        cases this
      | false =>
        refine iteF ⟨⟨_, rfl⟩, d2, fun b hb h4 h5 => ?_⟩
        by_cases z : b = i + 1 + k
        · subst z
          exact ha
        · exact d3 b hb h4 (by omega)
    · rintro σ Hd ⟨⟨sd, rfl⟩, d2, d3⟩
      rw [ldr] at d3
      refine ⟨⟨_, _, _, rfl⟩, e34.trans (e5.trans d2), fun a b ha hb h4 h5 => ?_⟩
      by_cases z : a = i
      · subst z
        exact d3 b hb h5 (by omega)
      · exact h3 a b ha hb (by omega) h5
  · rintro σ Hc ⟨⟨sa, sb, sc, rfl⟩, h2, h3⟩
    rw [liv] at h3
    refine q _ _ (e13.trans h2) (.inl ⟨List.pairwise_iff_getElem.mpr fun a b ha hb hab => h3 a b ha hb ha hab, rfl⟩)
end
end K1
end
-- XCn
section
set_option Elab.async false
set_option linter.all false
set_option maxRecDepth 100000
set_option maxHeartbeats 4000000
namespace K1
open PySem PySem.Spec PyProof.Rows L2 W0
def spCn (K : PySem.W.Frag) (C CV CC CB : Addr) : Sp := fun vs H Q E => ∃ v s u, vs = [v, s, u] ∧ ((NoV K H v ∧ GoesF CV [("thing", v)] H E) ∨ ∃ x ss rs ns, v = .ref x ∧ IsV C H x ss rs ns ∧ EndsIn ss rs ∧ rs.length ≤ 1000 ∧
  ((∃ i, SpBad K H s rs i ∧ Goes CB (i : Nat) H E) ∨ ∃ sps, SpsOk H s rs sps ∧ ((NoEv K H ss rs u ∧ GoesF CC [("evening", u)] H E) ∨ ∃ js, EvV H rs u js ∧ (∀ j ∈ js, j < rs.length) ∧ ∀ H', Same H H' → Q (.bl (decide (CanB sps js))) H')))
section
variable {P : Program} {w : World} {K : PySem.W.Frag} {mg : Str → Option Value} {base : Heap} {C CV CC CB : Addr}
theorem ok_Cn {f fB : Addr} {fd bd : FuncData} (F : Fun K "can_be" "can_be" sCn f fd)
    (GB : FnOk P w K mg base (L2.CX P w) 8 fB bd ["valley", "spans", "evening"] (spBo K C CV CC CB)) (bB : Binds K bd ["valley", "spans", "evening"] []) (kB : PySem.W.keepIn K (.ref fB) = true) (mB : mg "bar_of" = some (.ref fB)) :
    FnOk P w K mg base (L2.CX P w) 9 f fd ["valley", "spans", "evening"] (spCn K C CV CC CB) := by
  refine F.okX scCn (fun vs H Q E h => ?_) (fun cdv A outer s H vs Q E hr h => ?_)
  · obtain ⟨v, sp, u, rfl, _⟩ := h
    rfl
  obtain ⟨v, sp, u, rfl, h⟩ := h
  refine ⟨_, (pss_one (by exact (ps_ret (pe_cmpR op_isN (pe_call GB hr rfl mB kB bB .nil (passes_call (takes_of rfl rfl rfl rfl) (fun _ _ _ _ h => h)) (pa_cons (pv 0) (pa_cons (pv 1) (pa_cons (pv 2) pa_nil)))) pe_non (nomark _))))), ?_⟩
  rcases h with ⟨n, g⟩ | ⟨x, ss, rs, ns, rfl, iv, he, lrs, ⟨i, bad, g⟩ | ⟨sps, sok, ⟨n, g⟩ | ⟨js, ev, lt, q⟩⟩⟩
  · exact ⟨_, rfl, _, rfl, _, rfl, v, sp, u, rfl, .inl ⟨n, g⟩⟩
  · exact ⟨_, rfl, _, rfl, _, rfl, .ref x, sp, u, rfl, .inr ⟨x, ss, rs, ns, rfl, iv, he, lrs, .inl ⟨i, bad, g⟩⟩⟩
  · exact ⟨_, rfl, _, rfl, _, rfl, .ref x, sp, u, rfl, .inr ⟨x, ss, rs, ns, rfl, iv, he, lrs, .inr ⟨sps, sok, .inl ⟨n, g⟩⟩⟩⟩
  · refine ⟨_, rfl, _, rfl, _, rfl, .ref x, sp, u, rfl, .inr ⟨x, ss, rs, ns, rfl, iv, he, lrs, .inr ⟨sps, sok, .inr ⟨js, ev, lt, fun z H' e hz => ⟨rfl, ?_⟩⟩⟩⟩⟩
    have h := q H' e
    rcases hz with ⟨c, rfl⟩ | ⟨c, r, rfl⟩
    · rw [decide_eq_true c] at h
      exact h
    · rw [decide_eq_false c] at h
      exact h
end
end K1
end
-- XSa
section
set_option Elab.async false
set_option linter.all false
set_option maxRecDepth 100000
set_option maxHeartbeats 4000000
namespace K1
open PySem PySem.Spec PyProof.Rows L2 W0
abbrev sSa : Stmt := top 39
theorem scSa : FnScope ["valley", "spans", "roads", "place", "road", "far", "later"] ["valley", "spans"] (defScope sSa) := ⟨rfl, rfl, rfl, by decide +kernel, rfl, by decide +kernel, by decide +kernel⟩
/-- a walk's ghost, whatever is done with what it yields -/
theorem walk_gen {J : It} {n : Nat} {G : Hp → Prop} {Y : Nat → Hp → V → Hp → Prop} (w : Walk J n G Y) {B : (Hp → Prop) → V → Hp → Prop} {H0 : Hp} {Qd : Hp → Prop} (Pv : Nat → Hp → Prop) (h0 : Pv 0 H0) (hG : ∀ i H, i ≤ n → Pv i H → G H)
    (hs : ∀ i x H H', i < n → Pv i H → Y i H x H' → B (Pv (i + 1)) x H') (hd : ∀ H, Pv n H → Qd H) :
    ∃ W : Nat → Nat → Hp → Prop, (∃ m, W 0 m H0) ∧ ∀ i m H, W i m H → (J.stop i H ∧ Qd H) ∨ (J.go i H ∧ ∃ Nx : Hp → Prop, (∀ H', Nx H' → ∃ m', m' < m ∧ W (i + 1) m' H') ∧ ∀ x H', J.yld i H x H' → B Nx x H') := by
  refine ⟨fun i m H => m = n - i ∧ i ≤ n ∧ Pv i H, ⟨n, by omega, Nat.zero_le _, h0⟩, ?_⟩
  rintro i m H ⟨em, hi, p⟩
  have g := hG i H hi p
  rcases Nat.lt_or_ge i n with lt | ge
  · exact .inr ⟨w.goes i H lt g, Pv (i + 1), fun H' z => ⟨n - (i + 1), by omega, rfl, lt, z⟩, fun x H' y => hs i x H H' lt p (w.yields i H x H' lt g y)⟩
  · have e : i = n := by omega
    rw [e] at p ⊢
    exact .inl ⟨w.stops H g, hd H p⟩
/-- all pairs of which the first is surely ahead of the second, in order -/
def aheadOf (sps : List (Int × Int)) (n i : Nat) : List (Nat × Nat) := ((List.range n).filter fun j => ahB sps i j).map fun j => (i, j)
def aheadL (sps : List (Int × Int)) (n : Nat) : List (Nat × Nat) := (List.range n).flatMap (aheadOf sps n)
/-- what is told: pairs of the roads that stand at these places -/
def PairsV (H : Hp) (qs : List Addr) (ts : List Addr) (ps : List (Nat × Nat)) : Prop := Paired (fun (t : Addr) (e : Nat × Nat) => ∃ a b, qs[e.1]? = some a ∧ qs[e.2]? = some b ∧ H t = some (.tup [.ref a, .ref b])) ts ps
theorem PairsV.keep {H H' : Hp} {D : Addr} {xs : List V} {qs ts : List Addr} {ps : List (Nat × Nat)} (p : PairsV H qs ts ps) (gD : H D = some (.lst xs)) (k : Kept D H H') : PairsV H' qs ts ps :=
  paired_imp (fun t e ⟨a, b, h1, h2, h3⟩ => ⟨a, b, h1, h2, k _ _ (fun z => by rw [z, gD] at h3; cases h3) h3⟩) p
theorem range_snoc_filter {f : Nat → Bool} {i j : Nat} : (((List.range (j + 1)).filter f).map fun x => (i, x)) = (((List.range j).filter f).map fun x => (i, x)) ++ (if f j = true then [(i, j)] else []) := by
  rw [List.range_succ, List.filter_append, List.map_append]
  congr 1
  by_cases h : f j = true
  · rw [if_pos h, List.filter_cons, if_pos h]
    rfl
  · rw [if_neg h, List.filter_cons, if_neg h]
    rfl
theorem range_snoc_flat {f : Nat → List (Nat × Nat)} {i : Nat} : (List.range (i + 1)).flatMap f = (List.range i).flatMap f ++ f i := by
  rw [List.range_succ, List.flatMap_append]
  simp
def spSa (K : PySem.W.Frag) (C CV CB : Addr) : Sp := fun vs H Q E => ∃ v s, vs = [v, s] ∧ ((NoV K H v ∧ GoesF CV [("thing", v)] H E) ∨ ∃ x ss rs ns, v = .ref x ∧ IsV C H x ss rs ns ∧ rs.length ≤ 1000 ∧
  ((∃ i, SpBad K H s rs i ∧ Goes CB (i : Nat) H E) ∨ ∃ sps, SpsOk H s rs sps ∧ ∀ r ts qs H', Same H H' → H r = none → H' r = some (.lst (ts.map V.ref)) → Paired (TupP H') qs rs → PairsV H' qs ts (aheadL sps rs.length) → Q (.ref r) H'))
section
variable {P : Program} {w : World} {K : PySem.W.Frag} {mg : Str → Option Value} {base : Heap} {C CV CB : Addr}
theorem ok_Sa {f fV fN fR fA : Addr} {fd vd nd_ rd ad : FuncData} (F : Fun K "surely_ahead" "surely_ahead" sSa f fd) (T : VcT K C) (me : mg "enumerate" = none)
    (GV : FnOk P w K mg base (L2.CX P w) 3 fV vd ["valley"] (spNv K C CV)) (bV : Binds K vd ["valley"] []) (kV : PySem.W.keepIn K (.ref fV) = true) (mV : mg "need_valley" = some (.ref fV))
    (GN : FnOk P w K mg base (L2.CX P w) 4 fN nd_ ["valley", "spans"] (spNs K C CB)) (bN : Binds K nd_ ["valley", "spans"] []) (kN : PySem.W.keepIn K (.ref fN) = true) (mN : mg "need_spans" = some (.ref fN))
    (GR : FnOk P w K mg base CX0 1 fR rd ["self"] (spRo C)) (hR : Meth K C "roads" fR) (bR : Binds K rd ["self"] [])
    (GA : FnOk P w K mg base CX0 1 fA ad ["spans", "place", "later"] spAh) (bA : Binds K ad ["spans", "place", "later"] []) (kA : PySem.W.keepIn K (.ref fA) = true) (mA : mg "is_surely_ahead" = some (.ref fA)) :
    FnOk P w K mg base (L2.CX P w) 5 f fd ["valley", "spans"] (spSa K C CV CB) := by
  refine F.okX scSa (fun vs H Q E h => ?_) (fun cdv A outer s H vs Q E hr h => ?_)
  · obtain ⟨v, sp, rfl, _⟩ := h
    rfl
  obtain ⟨v, sp, rfl, h⟩ := h
  have nd := scSa.nd
  have hr1 : Room 1 _ := hr.mono (by decide)
  have hr3 : Room 3 _ := hr.mono (by decide)
  have hr4 : Room 4 _ := hr.mono (by decide)
  refine ⟨_, (pss_cons (by exact (ps_expr (pe_call GV hr3 rfl mV kV bV .nil (passes_call (takes_of rfl rfl rfl rfl) (fun _ _ _ _ h => h)) (pa_cons (pv 0) pa_nil))))
    (pss_cons (by exact (ps_expr (pe_call GN hr4 rfl mN kN bN .nil (passes_call (takes_of rfl rfl rfl rfl) (fun _ _ _ _ h => h)) (pa_cons (pv 0) (pa_cons (pv 1) pa_nil)))))
    (pss_cons (by exact (ps_set (i := 2) nd rfl (.inr rfl) (pe_meth0 (pv 0) T.cl hR GR hr1 bR .nil pass0)))
    (pss_one (by exact (ps_ret (pe_lc2 (own := [("place", 3), ("road", 4), ("far", 5), ("later", 6)]) (vs1 := [5, 6]) (g := gTup K 2 (gCons (gName 3) (gCons (gName 4) gNil))) (g1 := gTup K 2 (gCons (gName 5) (gCons (gName 6) gNil))) (tt := tYes) (tt1 := tB (tCall spAh [] E0 (tCons (tVar 1) (tCons (tVar 3) (tCons (tVar 5) tNil))))) (te := tTup (tCons (tVar 4) (tCons (tVar 6) tNil))) (wi1 := iEnumV K 2) rfl nd (by exact pi_enumV 2 rfl me (pv 2)) (by exact blkOk_by (N := ["valley", "spans", "roads", "place", "road", "far", "later"]) (sc := defScope sSa) (by decide +kernel)) (by decide) (fun _ _ _ _ _ => by exact (pg_tup rfl (pgs_cons (pg_name (i := 3) nd rfl (.inl rfl)) (pgs_cons (pg_name (i := 4) nd rfl (.inl rfl)) pgs_nil)))) (fun _ _ _ _ _ => by exact pts_nil) (fun _ _ _ _ _ => by exact pi_enumV 2 rfl me (pv 2)) (fun _ _ _ _ _ => by exact (pg_tup rfl (pgs_cons (pg_name (i := 5) nd rfl (.inl rfl)) (pgs_cons (pg_name (i := 6) nd rfl (.inl rfl)) pgs_nil)))) (fun _ _ _ _ _ => by exact (pts_one (pt_val (pe_call GA hr1 rfl mA kA bA .nil pass0 (pa_cons (pv 1) (pa_cons (pv 3) (pa_cons (pv 5) pa_nil))))))) (fun _ _ _ _ _ => by exact (pe_tup (pa_cons (pv 4) (pa_cons (pv 6) pa_nil))))))))))), ?_⟩
  rcases h with ⟨n, g⟩ | ⟨x, ss, rs, ns, rfl, iv, lrs, h⟩
  · exact ⟨_, rfl, _, rfl, .inr ⟨n, g⟩⟩
  refine ⟨_, rfl, _, rfl, .inl ⟨x, ss, rs, ns, rfl, iv, ?_⟩⟩
  with_reducible refine sQ ?_
  rcases h with ⟨i, bad, g⟩ | ⟨sps, sok, q⟩
  · rcases bad with ⟨a, rfl⟩ | ⟨sps, us, rest, a, b, c, d, f, rfl, h⟩
    · exact ⟨_, rfl, _, rfl, x, sp, ss, rs, ns, rfl, iv, lrs, .inl ⟨a, g⟩⟩
    · rcases h with ⟨r, lt⟩ | ⟨z, r, e, q⟩
      · exact ⟨_, rfl, _, rfl, x, sp, ss, rs, ns, rfl, iv, lrs, .inr ⟨sps, us, rest, a, b, c, d, f, .inr (.inl ⟨r, lt, g⟩)⟩⟩
      · exact ⟨_, rfl, _, rfl, x, sp, ss, rs, ns, rfl, iv, lrs, .inr ⟨sps, us, rest, a, b, c, d, f, .inr (.inr ⟨z, r, e, q, g⟩)⟩⟩
  obtain ⟨⟨us, su, pu⟩, gs, ls⟩ := id sok
  have lpu := pu.length
  refine ⟨_, rfl, _, rfl, x, sp, ss, rs, ns, rfl, iv, lrs, .inr ⟨sps, us, [], by rw [List.append_nil]; exact su, pu, gs, by rw [List.append_nil]; omega, by omega, .inl ⟨rfl, ls, fun H1 e1 => ?_⟩⟩⟩
  with_reducible refine sQ ?_
  have iv1 := iv.same e1
  obtain ⟨dx, fx, ix, f0⟩ := iv1.inst
  refine ⟨_, rfl, x, dx, fx, rfl, ix, f0 _ (by decide +kernel), x, ss, rs, ns, rfl, iv1, fun R qs hR0 pq => ?_⟩
  refine K1.gN ?_
  have e3 := K1.Same.upd (H := H1) (p := R) (o := .lst (qs.map V.ref)) hR0
  have gR := upd_same' H1 R (.lst (qs.map V.ref))
  have pq3 : Paired (TupP (L2.upd H1 R (.lst (qs.map V.ref)))) qs rs := TupP.ext pq e3
  generalize L2.upd H1 R (.lst (qs.map V.ref)) = H3 at e3 gR pq3 ⊢
  have e13 := e1.trans e3
  have lq : qs.length = rs.length := pq.length
  have lqm : (qs.map V.ref).length = rs.length := by rw [List.length_map, lq]
  have atq : ∀ {k : Nat} (hk : k < rs.length), ∃ a, qs[k]? = some a ∧ (qs.map V.ref)[k]? = some (.ref a) := fun {k} hk => by
    obtain ⟨a, ea, _⟩ := paired_get pq hk
    exact ⟨a, ea, by rw [List.getElem?_map, ea]; rfl⟩
  refine ⟨R, qs.map V.ref, rfl, .inl (SqL.of gR), fun J G wk hG => ?_⟩
  intro D hD
  have RD : R ≠ D := fun z => by rw [z, hD] at gR; cases gR
  rw [lqm] at wk
  refine walk_gen wk (fun i Hc => Same H3 Hc ∧ ∃ ts : List Addr, Hc D = some (.lst (ts.map V.ref)) ∧ PairsV Hc qs ts ((List.range i).flatMap (aheadOf sps rs.length)) ∧ ts.length ≤ i * 1000) ⟨K1.Same.upd hD, [], upd_same, .nil, Nat.zero_le _⟩ (fun i Hc _ h => hG Hc fun o ho => h.1 R o ho) ?_ ?_
  · rintro i y Hc H' hi ⟨k1, ts, g1, p1, l1⟩ ⟨T', x1, x2, rfl, hT, rfl, e1', e2'⟩
    obtain rfl : x1 = .int (i : Nat) := (Option.some.inj e1').symm
    have e2' : (qs.map V.ref)[i]? = some x2 := e2'
    obtain ⟨a1, ea1, eb1⟩ := atq hi
    rw [eb1] at e2'
    obtain rfl := Option.some.inj e2'
    have hT2 := K1.Same.upd (H := Hc) (p := T') (o := .tup [.int (i : Nat), .ref a1]) hT
    refine ⟨T', _, rfl, SqT.of upd_same, rfl, _, _, rfl, _, _, rfl, rfl, ?_⟩
    generalize upd Hc T' (.tup [.int (i : Nat), .ref a1]) = H4 at hT2 ⊢
    refine ⟨rfl, ?_⟩
    unfold tYes
    refine iteT ?_
    have k4 : Same H3 H4 := k1.trans hT2
    refine ⟨R, qs.map V.ref, rfl, .inl (SqL.of (k4 _ _ gR)), fun J1 G1 wk1 hG1 => ?_⟩
    rw [lqm] at wk1
    refine walk_gen wk1 (fun j Hd => Same H3 Hd ∧ (∀ o, H4 R = some o → Hd R = some o) ∧ ∃ ts : List Addr, Hd D = some (.lst (ts.map V.ref)) ∧ PairsV Hd qs ts ((List.range i).flatMap (aheadOf sps rs.length) ++ (((List.range j).filter fun j => ahB sps i j).map fun x => (i, x))) ∧ ts.length ≤ i * 1000 + j) ?_ (fun j Hd _ h => hG1 Hd fun o ho => h.2.1 o ho) ?_ ?_
    · exact ⟨k4, fun _ h => h, ts, hT2 _ _ g1, by simpa using p1.keep g1 (Kept.same hT2), by omega⟩
    · rintro j z Hd H'' hj ⟨m1, m2, ts2, g2, p2, l2⟩ ⟨T2, y1, y2, rfl, hT3, rfl, f1', f2'⟩
      obtain rfl : y1 = .int (j : Nat) := (Option.some.inj f1').symm
      have f2' : (qs.map V.ref)[j]? = some y2 := f2'
      obtain ⟨a2, ea2, eb2⟩ := atq hj
      rw [eb2] at f2'
      obtain rfl := Option.some.inj f2'
      have hT4 := K1.Same.upd (H := Hd) (p := T2) (o := .tup [.int (j : Nat), .ref a2]) hT3
      refine ⟨T2, _, rfl, SqT.of upd_same, rfl, _, _, rfl, _, _, rfl, rfl, ?_⟩
      generalize upd Hd T2 (.tup [.int (j : Nat), .ref a2]) = H5 at hT4 ⊢
      have m5 : Same H3 H5 := m1.trans hT4
      have p5 := p2.keep g2 (Kept.same hT4)
      refine ⟨rfl, ?_⟩
      refine ⟨_, rfl, _, rfl, _, rfl, sp, sps, i, j, rfl, (sok.1.ext e13).ext m5, by omega, by omega, ⟨_, rfl, ?_⟩⟩
      cases ha : ahB sps i j with
      | true =>
        refine iteT ?_
        refine ⟨_, rfl, _, rfl, (by show 2 ≤ sizeLine; decide), fun t ht => ?_⟩
        have h6 := K1.Same.upd (H := H5) (p := t) (o := .tup [.ref a1, .ref a2]) ht
        have gt := upd_same' H5 t (.tup [.ref a1, .ref a2])
        generalize L2.upd H5 t (.tup [.ref a1, .ref a2]) = H6 at h6 gt ⊢
        have g6 := h6 _ _ (hT4 _ _ g2)
        have tD : t ≠ D := fun z => by rw [z, g6] at gt; cases gt
        refine ⟨_, g6, ?_, fun b o hb => ?_, fun o ho => ?_, ts2 ++ [t], by rw [upd_same, List.map_append]; rfl, ?_, ?_⟩
        · rw [List.length_map, sizeLine_eq]
          have : i * 1000 ≤ 1000 * 1000 := Nat.mul_le_mul_right _ (by omega)
          omega
        · rw [upd_ne (ne_of_none hb hD)]
          exact h6 _ _ (m5 _ _ hb)
        · rw [upd_ne RD]
          exact h6 _ _ (hT4 _ _ (m2 o ho))
        · rw [range_snoc_filter, if_pos ha, ← List.append_assoc]
          have p6 := (p5.keep (hT4 _ _ g2) (Kept.same h6)).keep g6 (Kept.upd (o := .lst (ts2.map V.ref ++ [.ref t])))
          exact paired_snoc p6 ⟨a1, a2, ea1, ea2, by rw [upd_ne tD]; exact gt⟩
        · rw [List.length_append, List.length_singleton]
          omega
      | false =>
        refine iteF ⟨m5, fun o ho => hT4 _ _ (m2 o ho), ts2, hT4 _ _ g2, ?_, by omega⟩
        rw [range_snoc_filter, if_neg (by rw [ha]; exact Bool.false_ne_true), List.append_nil]
        exact p5
    · rintro Hd ⟨m1, m2, ts2, g2, p2, l2⟩
      refine ⟨m1, ts2, g2, ?_, by omega⟩
      rw [range_snoc_flat]
      exact p2
  · rintro Hc ⟨k1, ts, g1, p1, l1⟩
    exact q D ts qs Hc (e13.trans k1) (e13.free hD) g1 (TupP.ext pq3 k1) p1
end
end K1
end
-- XDa
section
set_option Elab.async false
set_option linter.all false
set_option maxRecDepth 100000
set_option maxHeartbeats 4000000
namespace K1
open PySem PySem.Spec PyProof.Rows L2 W0
abbrev sDa : Stmt := top 56
theorem scDa : FnScope ["known", "road", "later"] ["known", "road", "later"] (defScope sDa) := ⟨rfl, rfl, rfl, by decide +kernel, rfl, by decide +kernel, by decide +kernel⟩
theorem sh_pair {e : Str × Str} (h : nameOk e.1 = true ∧ nameOk e.2 = true) : SeqAt.shaped (.tuple [.str e.1, .str e.2]) = true := by
  show (PyData.canLay0 (.tuple [.str e.1, .str e.2]) && decide (PyData.depth (.tuple [.str e.1, .str e.2]) ≤ 64)) = true
  have h1 := strOk_of h.1
  have h2 := strOk_of h.2
  simp [PyData.canLay0, PyData.canLayAll0, PyData.depth, PyData.depthAll, h1, h2]
/-- a dict that tells of each road its span -/
def KnV (H : Hp) (d : Addr) (rs : List (Str × Str)) (sps : List (Int × Int)) : Prop := ∃ ls : List Addr, H d = some (.dT ((rs.zip ls).map fun e => (keyR e.1, V.ref e.2))) ∧ ls.length = rs.length ∧ Paired (fun (l : Addr) (e : Int × Int) => H l = some (.tup [.int e.1, .int e.2])) ls sps
theorem KnV.ext {H H' : Hp} {d : Addr} {rs : List (Str × Str)} {sps : List (Int × Int)} (h : KnV H d rs sps) (e : Same H H') : KnV H' d rs sps := by
  obtain ⟨ls, a, b, c⟩ := h
  exact ⟨ls, e _ _ a, b, paired_imp (fun _ _ z => e _ _ z) c⟩
theorem val_of_road : ∀ {rs : List (Str × Str)} {ls : List Addr} {i : Nat} {l : Addr} (hi : i < rs.length), rs.Nodup → ls[i]? = some l → valV ((rs.zip ls).map fun e => (keyR e.1, V.ref e.2)) (keyR rs[i]) = some (.ref l)
  | [], _, _, _, hi, _, _ => absurd hi (Nat.not_lt_zero _)
  | e :: rs, [], _, _, _, _, h => by simp at h
  | e :: rs, k :: ls, 0, l, _, _, h => by
    obtain rfl : k = l := by simpa using h
    show valV ((keyR e, V.ref k) :: _) (keyR e) = _
    exact valV_pos rfl
  | e :: rs, k :: ls, i + 1, l, hi, nd, h => by
    obtain ⟨n1, n2⟩ := List.nodup_cons.mp nd
    have hi' : i < rs.length := by simpa using hi
    have r := val_of_road (ls := ls) hi' n2 (by simpa using h)
    show valV ((keyR e, V.ref k) :: ((rs.zip ls).map fun e => (keyR e.1, V.ref e.2))) (keyR rs[i]) = _
    rw [valV_neg (fun z => n1 (by rw [keyR_inj z]; exact List.getElem_mem hi'))]
    exact r
theorem KnV.get {H : Hp} {d u : Addr} {rs : List (Str × Str)} {sps : List (Int × Int)} (h : KnV H d rs sps) (nd : rs.Nodup) (ls : sps.length = rs.length) {i : Nat} (hi : i < rs.length) (hu : H u = some (.tup [.str rs[i].1, .str rs[i].2])) :
    ∃ l, DGet H d (.ref u) (some (.ref l)) ∧ H l = some (.tup [.int (sps[i]'(by omega)).1, .int (sps[i]'(by omega)).2]) := by
  obtain ⟨ks, a, b, c⟩ := h
  obtain ⟨l, el, hl⟩ := paired_get c (show i < sps.length by omega)
  exact ⟨l, .inr ⟨_, keyR rs[i], u, .inl a, rfl, hu, (val_of_road hi nd el).symm⟩, hl⟩
def spDa : Sp := fun vs H Q _ => ∃ (d u1 u2 : Addr) (rs : List (Str × Str)) (sps : List (Int × Int)) (i j : Nat) (hi : i < rs.length) (hj : j < rs.length), vs = [.ref d, .ref u1, .ref u2] ∧ KnV H d rs sps ∧ rs.Nodup ∧ sps.length = rs.length ∧ (∀ e ∈ rs, nameOk e.1 = true ∧ nameOk e.2 = true) ∧
  H u1 = some (.tup [.str rs[i].1, .str rs[i].2]) ∧ H u2 = some (.tup [.str rs[j].1, .str rs[j].2]) ∧ Q (.bl (ahB sps i j)) H
section
variable {P : Program} {w : World} {K : PySem.W.Frag} {mg : Str → Option Value} {base : Heap}
theorem ok_Da {f : Addr} {fd : FuncData} (F : Fun K "_law_d_ahead" "_law_d_ahead" sDa f fd) : FnOk P w K mg base CX0 1 f fd ["known", "road", "later"] spDa := by
  refine F.ok scDa (fun vs H Q E h => ?_) (fun cdv A outer s H vs Q E hr h => ?_)
  · obtain ⟨d, u1, u2, rs, sps, i, j, hi, hj, rfl, _⟩ := h
    rfl
  obtain ⟨d, u1, u2, rs, sps, i, j, hi, hj, rfl, kn, nd, ls, nms, hu1, hu2, q⟩ := h
  have hu := hu_of hr
  have hu64 : (A.deeper (envOfC "_law_d_ahead" (defScope sDa) s.heap.objs.size f cdv)).units + 64 < cLine := hr.units
  refine ⟨_, (pss_one (by exact (ps_ret (pe_and (pe_cmpR (op_neD hu64) (pv 1) (pv 2) (nomark _)) (pe_one (pe_cmpR op_le (pe_ix ix_tup (pe_dget hu (pv 0) (pv 1) (fun _ _ => rfl)) pe_int (fun _ _ => rfl)) (pe_ix ix_tup (pe_dget hu (pv 0) (pv 2) (fun _ _ => rfl)) pe_int (fun _ _ => rfl)) (nomark _))))))), ?_⟩
  obtain ⟨l1, g1, h1⟩ := kn.get nd ls hi hu1
  obtain ⟨l2, g2, h2⟩ := kn.get nd ls hj hu2
  have gi : (sps[i]?).getD (0, 0) = sps[i]'(by omega) := by rw [List.getElem?_eq_getElem (by omega)]; rfl
  have gj : (sps[j]?).getD (0, 0) = sps[j]'(by omega) := by rw [List.getElem?_eq_getElem (by omega)]; rfl
  unfold ahB at q
  rw [gi, gj] at q
  have sp1 := sh_pair (nms _ (List.getElem_mem hi))
  have sp2 := sh_pair (nms _ (List.getElem_mem hj))
  have dp1 : Dp K H (.ref u1) (.tuple [.str rs[i].1, .str rs[i].2]) := .tup (SqT.of hu1) (.cons (.str _) (.cons (.str _) .nil))
  have dp2 : Dp K H (.ref u2) (.tuple [.str rs[j].1, .str rs[j].2]) := .tup (SqT.of hu2) (.cons (.str _) (.cons (.str _) .nil))
  have ne0 : PyData.eqv (.tuple [.str rs[i].1, .str rs[i].2]) (.tuple [.str rs[j].1, .str rs[j].2]) = decide (rs[i] = rs[j]) := eqv_pair _ _
  have same : rs[i] = rs[j] ↔ i = j := ⟨fun z => (List.getElem_inj nd).mp z, fun z => by subst z; rfl⟩
  refine ⟨_, rfl, _, rfl, _, _, dp1, dp2, sp1, sp2, _, rfl, ?_⟩
  rw [ne0]
  by_cases ne : i = j
  · subst ne
    rw [decide_eq_false (fun z => z rfl)] at q
    rw [decide_eq_true rfl]
    exact iteF q
  · rw [decide_eq_true ne] at q
    rw [decide_eq_false (fun z => ne (same.mp z))]
    refine iteT ?_
    refine ⟨_, rfl, _, rfl, d, .ref l1, rfl, g1, l1, _, 1, _, rfl, rfl, SqT.of h1, atI_nat (j := 1) rfl, ?_⟩
    refine ⟨_, rfl, _, rfl, d, .ref l2, rfl, g2, l2, _, 0, _, rfl, rfl, SqT.of h2, atI_nat (j := 0) rfl, _, _, rfl, rfl, ?_⟩
    exact q
end
end K1
end
-- XDb
section
set_option Elab.async false
set_option linter.all false
set_option maxRecDepth 100000
set_option maxHeartbeats 4000000
namespace K1
open PySem PySem.Spec PyProof.Rows L2 W0
abbrev sDb : Stmt := top 57
theorem scDb : FnScope ["known", "evening", "place", "road", "later"] ["known", "evening"] (defScope sDb) := ⟨rfl, rfl, rfl, by decide +kernel, rfl, by decide +kernel, by decide +kernel⟩
def spDb : Sp := fun vs H Q _ => ∃ (d c : Addr) (cq : List Addr) (rs es : List (Str × Str)) (sps : List (Int × Int)) (js : List Nat), vs = [.ref d, .ref c] ∧ KnV H d rs sps ∧ rs.Nodup ∧ sps.length = rs.length ∧ (∀ e ∈ rs, nameOk e.1 = true ∧ nameOk e.2 = true) ∧
  H c = some (.lst (cq.map V.ref)) ∧ Paired (TupP H) cq es ∧ AtPl rs js es ∧ ∀ z H', Same H H' → ((CanB sps js ∧ z = .non) ∨ (¬ CanB sps js ∧ ∃ r, z = .ref r)) → Q z H'
section
variable {P : Program} {w : World} {K : PySem.W.Frag} {mg : Str → Option Value} {base : Heap}
theorem ok_Db {f fA : Addr} {fd ad : FuncData} (F : Fun K "_law_d_bar" "_law_d_bar" sDb f fd) (me : mg "enumerate" = none)
    (GA : FnOk P w K mg base CX0 1 fA ad ["known", "road", "later"] spDa) (bA : Binds K ad ["known", "road", "later"] []) (kA : PySem.W.keepIn K (.ref fA) = true) (mA : mg "_law_d_ahead" = some (.ref fA)) :
    FnOk P w K mg base CX0 2 f fd ["known", "evening"] spDb := by
  refine F.ok scDb (fun vs H Q E h => ?_) (fun cdv A outer s H vs Q E hr h => ?_)
  · obtain ⟨d, c, cq, rs, es, sps, js, rfl, _⟩ := h
    rfl
  obtain ⟨d, c, cq, rs, es, sps, js, rfl, kn, ndr, ls, nms, hc, pr, ap, q⟩ := h
  have nd := scDb.nd
  refine ⟨_, (pss_cons (by exact (ps_for PassesOwn.never rfl (by exact pi_enumV 1 rfl me (pv 1)) (pg_tup rfl (pgs_cons (pg_name (i := 2) nd rfl (.inl rfl)) (pgs_cons (pg_name (i := 3) nd rfl (.inl rfl)) pgs_nil))) (pss_one (by exact (ps_for PassesOwn.never rfl (by exact pi_list (pe_slice sl_list (pv 1) (po_some (pe_op op_add (pv 2) pe_int)) po_none)) (pg_name (i := 4) nd rfl (.inl rfl)) (pss_one (by exact (ps_if (pt_val (pe_call GA hr rfl mA kA bA .nil pass0 (pa_cons (pv 0) (pa_cons (pv 4) (pa_cons (pv 3) pa_nil))))) (pss_one (by exact (ps_ret (pe_tup (pa_cons (pv 3) (pa_cons (pv 4) pa_nil)))))) pss_nil))))))))
    (pss_one (by exact (ps_ret pe_non)))), ?_⟩
  have lce : cq.length = es.length := pr.length
  have lje : js.length = es.length := ap.length
  have lcm : (cq.map V.ref).length = js.length := by rw [List.length_map]; omega
  -- what stands at a place of the evening
  have atc : ∀ {k : Nat} (hk : k < js.length), ∃ b : Addr, (cq.map V.ref)[k]? = some (.ref b) ∧ ∃ hj : js[k] < rs.length, ∀ Hx, Same H Hx → Hx b = some (.tup [.str rs[js[k]].1, .str rs[js[k]].2]) := fun {k} hk => by
    obtain ⟨b, eb, tb⟩ := paired_get pr (i := k) (by omega)
    obtain ⟨j, ej, rj⟩ := paired_get ap (i := k) (by omega)
    rw [List.getElem?_eq_getElem hk] at ej
    obtain rfl := Option.some.inj ej
    obtain ⟨hj, er⟩ := List.getElem?_eq_some_iff.mp rj
    exact ⟨b, by rw [List.getElem?_map, eb]; rfl, hj, fun Hx e => by rw [er]; exact e _ _ tb⟩
  refine ⟨c, cq.map V.ref, rfl, .inl (SqL.of hc), fun J G wk hG => ?_⟩
  refine for_it wk (fun i σ Hc => (∃ a b e, σ = [some (.ref d), some (.ref c), a, b, e]) ∧ Same H Hc ∧ ∀ (a b : Nat) (ha : a < js.length) (hb : b < js.length), a < i → a < b → ahB sps js[b] js[a] = false) ⟨⟨_, _, _, rfl⟩, Same.refl _, fun a b _ _ h => absurd h (Nat.not_lt_zero _)⟩ ?_ ?_ ?_
  · rintro i σ Hc hi ⟨h1, h2, h3⟩
    exact hG Hc fun o ho => h2 c o ho
  · rintro i y σ Hc H' hi ⟨⟨sa, sb, sc, rfl⟩, h2, h3⟩ ⟨T', x1, x2, rfl, hT, rfl, e1', e2'⟩
    rw [lcm] at hi
    obtain rfl : x1 = .int (i : Nat) := (Option.some.inj e1').symm
    have e2' : (cq.map V.ref)[i]? = some x2 := e2'
    obtain ⟨b1, eb1, hj1, gb1⟩ := atc hi
    rw [eb1] at e2'
    obtain rfl := Option.some.inj e2'
    have hT2 := K1.Same.upd (H := Hc) (p := T') (o := .tup [.int (i : Nat), .ref b1]) hT
    refine ⟨T', _, rfl, SqT.of upd_same, rfl, _, _, rfl, _, _, rfl, rfl, ?_⟩
    generalize upd Hc T' (.tup [.int (i : Nat), .ref b1]) = H4 at hT2 ⊢
    have e34 : Same H H4 := h2.trans hT2
    refine Mr.run (H0 := H4) (P := lsX ((cq.map V.ref).drop (i + 1))) (mr_cutF (m := i + 1) (by rfl) (e34 _ _ hc) (mr_add1 (by rfl))) H4 (Same.refl _) _ fun L0 H5 e5 pl => ?_
    obtain ⟨L, rfl, gL⟩ := pl
    refine ⟨L, rfl, ⟨_, SqL.of gL⟩, ?_⟩
    have ldr : ((cq.map V.ref).drop (i + 1)).length = js.length - (i + 1) := by rw [List.length_drop, lcm]
    refine for_it walk_list (fun k σ Hd => (∃ e, σ = [some (.ref d), some (.ref c), some (.int (i : Nat)), some (.ref b1), e]) ∧ Same H5 Hd ∧ ∀ (b : Nat) (hb : b < js.length), i < b → b < i + 1 + k → ahB sps js[b] js[i] = false) ⟨⟨_, rfl⟩, Same.refl _, fun b hb h1 h2 => by omega⟩ (fun k σ Hd _ h => SqL.of (h.2.1 _ _ gL)) ?_ ?_
    · rintro k z σ Hd H'' hk ⟨⟨sd, rfl⟩, d2, d3⟩ ⟨rfl, hz⟩
      rw [ldr] at hk
      have hik : i + 1 + k < js.length := by omega
      obtain ⟨b2, eb2, hj2, gb2⟩ := atc hik
      rw [List.getElem?_drop, eb2] at hz
      obtain rfl := Option.some.inj hz
      have e3d : Same H H'' := e34.trans (e5.trans d2)
      refine K1.gN ?_
      refine ⟨_, rfl, _, rfl, _, rfl, d, b2, b1, rs, sps, js[i + 1 + k], js[i], hj2, hj1, rfl, kn.ext e3d, ndr, ls, nms, gb2 _ e3d, gb1 _ e3d, ⟨_, rfl, ?_⟩⟩
      cases ha : ahB sps js[i + 1 + k] js[i] with
      | true =>
        refine iteT ?_
        refine ⟨_, rfl, _, rfl, (by show 2 ≤ sizeLine; decide), fun r hr => ?_⟩
        refine q _ _ (e3d.trans (K1.Same.upd hr)) (.inr ⟨fun cb => ?_, r, rfl⟩)
        have := List.pairwise_iff_getElem.mp cb i (i + 1 + k) hi hik (by omega)
        rw [ha] at this
        cases this
      | false =>
        refine iteF ⟨⟨_, rfl⟩, d2, fun b hb h4 h5 => ?_⟩
        by_cases z : b = i + 1 + k
        · subst z
          exact ha
        · exact d3 b hb h4 (by omega)
    · rintro σ Hd ⟨⟨sd, rfl⟩, d2, d3⟩
      rw [ldr] at d3
      refine ⟨⟨_, _, _, rfl⟩, e34.trans (e5.trans d2), fun a b ha hb h4 h5 => ?_⟩
      by_cases z : a = i
      · subst z
        exact d3 b hb h5 (by omega)
      · exact h3 a b ha hb (by omega) h5
  · rintro σ Hc ⟨⟨sa, sb, sc, rfl⟩, h2, h3⟩
    rw [lcm] at h3
    refine q _ _ h2 (.inl ⟨List.pairwise_iff_getElem.mpr fun a b ha hb hab => h3 a b ha hb ha hab, rfl⟩)
end
end K1
end
-- XDs
section
set_option Elab.async false
set_option linter.all false
set_option maxRecDepth 100000
set_option maxHeartbeats 4000000
namespace K1
open PySem PySem.Spec PyProof.Rows L2 W0
abbrev sDs : Stmt := top 55
theorem scDs : FnScope ["spring", "form", "far", "wide", "lone", "found", "road", "least", "most"] ["spring", "form"] (defScope sDs) := ⟨rfl, rfl, rfl, by decide +kernel, rfl, by decide +kernel, by decide +kernel⟩
theorem lones_add {sps : List (Int × Int)} {e : Int × Int} : lones (sps ++ [e]) = lones sps ++ (if e.1 = e.2 then [e.1] else []) := by
  unfold lones
  rw [List.filter_append, List.map_append]
  congr 1
  by_cases h : e.1 = e.2
  · rw [if_pos h, List.filter_cons, decide_eq_true h]
    rfl
  · rw [if_neg h, List.filter_cons, decide_eq_false h]
    rfl
theorem inV_int {x : Int} : ∀ {xs : List Int}, inV (.int x) (xs.map V.int) = decide (x ∈ xs)
  | [] => rfl
  | y :: xs => by
    have ih := inV_int (x := x) (xs := xs)
    unfold inV at ih ⊢
    rw [List.map_cons, List.any_cons, ih]
    have : eqV (.int y) (.int x) = decide (y = x) := rfl
    rw [this]
    by_cases h : y = x
    · subst h
      simp
    · have h2 : ¬ x = y := fun z => h z.symm
      simp [h, h2]
theorem flat_ints (xs : List Int) : (xs.map V.int).all flatV = true := List.all_eq_true.mpr fun v hv => by
  obtain ⟨s, _, rfl⟩ := List.mem_map.mp hv
  rfl
def TupI (H : Hp) (l : Addr) (e : Int × Int) : Prop := H l = some (.tup [.int e.1, .int e.2])
/-- within what is drawn -/
def SmallSp (sps : List (Int × Int)) : Prop := ∀ e ∈ sps, e.1.natAbs ≤ 1000000000000000 ∧ e.2.natAbs ≤ 1000000000000000
def spDs : Sp := fun vs H Q _ => ∃ (a t p2 : Addr) (x1 x3 : V) (qs : List Addr) (n : Nat), vs = [.ref a, .ref t] ∧ Spr H a n ∧ n + 200 ≤ 1000000 ∧ H t = some (.lst [x1, .ref p2, x3]) ∧ t ≠ a ∧ H p2 = some (.lst (qs.map V.ref)) ∧ p2 ≠ a ∧ qs.length ≤ 60 ∧
  ∀ (r : Addr) (ls : List Addr) (sps : List (Int × Int)) (H' : Hp), Kept a H H' → Spr H' a (n + 200) → H r = none → H' r = some (.lst (ls.map V.ref)) → Paired (TupI H') ls sps → GoodSp sps → SmallSp sps → sps.length = qs.length → Q (.ref r) H'
theorem far_of {x : V} (h : x ∈ [V.int 3, .int 9, .int ((10 : Int) ^ (14 : Int).toNat)]) : ∃ f : Int, x = .int f ∧ 3 ≤ f ∧ f ≤ 100000000000000 := by
  simp only [List.mem_cons, List.not_mem_nil, or_false] at h
  rcases h with rfl | rfl | rfl
  · exact ⟨3, rfl, by decide, by decide⟩
  · exact ⟨9, rfl, by decide, by decide⟩
  · exact ⟨100000000000000, rfl, by decide, by decide⟩
theorem near_of {x : V} (h : x ∈ [V.int 2, .int 5, .int ((10 : Int) ^ (14 : Int).toNat)]) : ∃ f : Int, x = .int f ∧ 2 ≤ f ∧ f ≤ 100000000000000 := by
  simp only [List.mem_cons, List.not_mem_nil, or_false] at h
  rcases h with rfl | rfl | rfl
  · exact ⟨2, rfl, by decide, by decide⟩
  · exact ⟨5, rfl, by decide, by decide⟩
  · exact ⟨100000000000000, rfl, by decide, by decide⟩
section
variable {P : Program} {w : World} {K : PySem.W.Frag} {mg : Str → Option Value} {base : Heap}
theorem ok_Ds {f fP fD : Addr} {fd pd dd : FuncData} (F : Fun K "_law_d_spans" "_law_d_spans" sDs f fd) (B : Bl mg)
    (GP : FnOk P w K mg base CX0 2 fP pd ["spring", "some"] spPick) (bP : Binds K pd ["spring", "some"] []) (kP : PySem.W.keepIn K (.ref fP) = true) (mP : mg "_law_pick" = some (.ref fP))
    (GD : FnOk P w K mg base CX0 1 fD dd ["spring", "many"] spDraw) (bD : Binds K dd ["spring", "many"] []) (kD : PySem.W.keepIn K (.ref fD) = true) (mD : mg "_law_draw" = some (.ref fD)) :
    FnOk P w K mg base CX0 3 f fd ["spring", "form"] spDs := by
  refine F.ok scDs (fun vs H Q E h => ?_) (fun cdv A outer s H vs Q E hr h => ?_)
  · obtain ⟨a, t, p2, x1, x3, qs, n, rfl, _⟩ := h
    rfl
  obtain ⟨a, t, p2, x1, x3, qs, n, rfl, hs, hn, ht, ta, hp2, pa, lq, q⟩ := h
  have nd := scDs.nd
  have hr1 : Room 1 _ := hr.mono (by decide)
  refine ⟨_, (pss_cons (by exact (ps_asg (pe_tup (pa_cons (pe_call GP hr rfl mP kP bP .nil pass0 (pa_cons (pv 0) (pa_cons (pe_lst (pa_cons pe_int (pa_cons pe_int (pa_cons (pe_op op_pow pe_int pe_int) pa_nil)))) pa_nil))) (pa_cons (pe_call GP hr rfl mP kP bP .nil pass0 (pa_cons (pv 0) (pa_cons (pe_lst (pa_cons pe_int (pa_cons pe_int (pa_cons (pe_op op_pow pe_int pe_int) pa_nil)))) pa_nil))) (pa_cons (pe_lst pa_nil) (pa_cons (pe_lst pa_nil) pa_nil))))) (pg_tup rfl (pgs_cons (pg_name (i := 2) nd rfl (.inl rfl)) (pgs_cons (pg_name (i := 3) nd rfl (.inl rfl)) (pgs_cons (pg_name (i := 4) nd rfl (.inl rfl)) (pgs_cons (pg_name (i := 5) nd rfl (.inl rfl)) pgs_nil)))))))
    (pss_cons (by exact (ps_for PassesOwn.never rfl (by exact pi_list (pe_ix ix_list (pv 1) pe_int (fun _ _ => rfl))) (pg_name (i := 6) nd rfl (.inl rfl)) (pss_cons (by exact (ps_set (i := 7) nd rfl (.inl rfl) (pe_op op_sub (pe_call GD hr1 rfl mD kD bD .nil pass0 (pa_cons (pv 0) (pa_cons (pe_op op_add (pe_op op_mul pe_int (pv 2)) pe_int) pa_nil))) (pv 2))))
    (pss_cons (by exact (ps_set (i := 8) nd rfl (.inl rfl) (pe_op op_add (pv 7) (pe_call GD hr1 rfl mD kD bD .nil pass0 (pa_cons (pv 0) (pa_cons (pv 3) pa_nil))))))
    (pss_cons (by exact (ps_set (i := 8) nd rfl (.inl rfl) (pe_op op_add (pv 8) (pe_callTy call_int1 rfl B.int PyProof.Rows.boot_int (pa_cons (pe_and (pe_cmpR op_eq (pv 7) (pv 8) (nomark _)) (pe_one (pe_cmpR op_in_seq (pv 7) (pv 4) (by with_unfolding_all rfl)))) pa_nil)))))
    (pss_cons (by exact (ps_expr (pe_bm PySem.F.plainAttrs_list PySem.F.slot_list_extend PySem.F.type_list_extend mt_extend (pv 4) (pa_cons (pe_ifExp (pt_cmpR op_eq (pv 7) (pv 8) (nomark _)) (pe_lst (pa_cons (pv 7) pa_nil)) (pe_lst pa_nil)) pa_nil))))
    (pss_one (by exact (ps_expr (pe_bm PySem.F.plainAttrs_list PySem.F.slot_list_append PySem.F.type_list_append mt_append (pv 5) (pa_cons (pe_tup (pa_cons (pv 7) (pa_cons (pv 8) pa_nil))) pa_nil)))))))))))
    (pss_one (by exact (ps_ret (pv 5)))))), ?_⟩
  with_reducible refine sQ ?_
  refine ⟨_, rfl, (10 : Int), (14 : Int), rfl, rfl, ⟨by decide, by decide, by decide⟩, (by show 3 ≤ sizeLine; decide), fun Y hY => ?_⟩
  have e1 := K1.Same.upd (H := H) (p := Y) (o := .lst [.int 3, .int 9, .int ((10 : Int) ^ (14 : Int).toNat)]) hY
  have gY := upd_same' H Y (.lst [.int 3, .int 9, .int ((10 : Int) ^ (14 : Int).toNat)])
  have Ya := hs.ne hY
  generalize L2.upd H Y (.lst [.int 3, .int 9, .int ((10 : Int) ^ (14 : Int).toNat)]) = H1 at e1 gY ⊢
  refine ⟨a, Y, _, n, rfl, hs.same e1, by omega, gY, Ya, by simp, (by show 3 ≤ 1000; decide), fun xf H2 hxf k2 s2 => ?_⟩
  obtain ⟨far, rfl, fa1, fa2⟩ := far_of hxf
  refine ⟨_, rfl, (10 : Int), (14 : Int), rfl, rfl, ⟨by decide, by decide, by decide⟩, (by show 3 ≤ sizeLine; decide), fun Y2 hY2 => ?_⟩
  have e3 := K1.Same.upd (H := H2) (p := Y2) (o := .lst [.int 2, .int 5, .int ((10 : Int) ^ (14 : Int).toNat)]) hY2
  have gY2 := upd_same' H2 Y2 (.lst [.int 2, .int 5, .int ((10 : Int) ^ (14 : Int).toNat)])
  have Ya2 := s2.ne hY2
  generalize L2.upd H2 Y2 (.lst [.int 2, .int 5, .int ((10 : Int) ^ (14 : Int).toNat)]) = H3 at e3 gY2 ⊢
  refine ⟨a, Y2, _, n + 1, rfl, s2.same e3, by omega, gY2, Ya2, by simp, (by show 3 ≤ 1000; decide), fun xw H4 hxw k4 s4 => ?_⟩
  obtain ⟨wd, rfl, wd1, wd2⟩ := near_of hxw
  have k14 : Kept a H H4 := (Kept.same e1).trans (k2.trans ((Kept.same e3).trans k4))
  refine ⟨(by show 0 ≤ sizeLine; decide), fun Lo hLo => ?_⟩
  have e5 := K1.Same.upd (H := H4) (p := Lo) (o := .lst []) hLo
  have gL5 := upd_same' H4 Lo (.lst [])
  have Loa := s4.ne hLo
  generalize L2.upd H4 Lo (.lst []) = H5 at e5 gL5 ⊢
  refine ⟨(by show 0 ≤ sizeLine; decide), fun Fd hFd => ?_⟩
  have e6 := K1.Same.upd (H := H5) (p := Fd) (o := .lst []) hFd
  have gF6 := upd_same' H5 Fd (.lst [])
  have Fda := (s4.same e5).ne hFd
  have LF : Lo ≠ Fd := fun z => by rw [z, hFd] at gL5; cases gL5
  generalize L2.upd H5 Fd (.lst []) = H6 at e6 gF6 ⊢
  have gL6 := e6 _ _ gL5
  refine ⟨(by show 4 ≤ sizeLine; decide), fun T hT => ?_⟩
  have e7 := K1.Same.upd (H := H6) (p := T) (o := .tup [.int far, .int wd, .ref Lo, .ref Fd]) hT
  have gT := upd_same' H6 T (.tup [.int far, .int wd, .ref Lo, .ref Fd])
  generalize L2.upd H6 T (.tup [.int far, .int wd, .ref Lo, .ref Fd]) = H7 at e7 gT ⊢
  refine ⟨T, _, rfl, SqT.of gT, rfl, _, _, rfl, K1.gN ⟨_, _, rfl, K1.gN ⟨_, _, rfl, K1.gN ⟨_, _, rfl, K1.gN ⟨rfl, ?_⟩⟩⟩⟩⟩
  have k17 : Kept a H H7 := k14.trans (Kept.same (e5.trans (e6.trans e7)))
  have s7 : Spr H7 a (n + 2) := ((s4.same e5).same e6).same e7
  have gL7 := e7 _ _ gL6
  have gF7 := e7 _ _ gF6
  have ht7 := k17 _ _ ta ht
  have hp7 := k17 _ _ pa hp2
  have lqm : (qs.map V.ref).length = qs.length := List.length_map ..
  have newF : H Fd = none := by
    cases e : H Fd with
    | none => rfl
    | some o =>
      have := e5 _ _ (k14 _ _ Fda e)
      rw [hFd] at this
      cases this
  have newL : H Lo = none := by
    cases e : H Lo with
    | none => rfl
    | some o =>
      have := k14 _ _ Loa e
      rw [hLo] at this
      cases this
  with_reducible refine sQ ?_
  refine ⟨_, rfl, t, _, 1, .ref p2, rfl, rfl, SqL.of ht7, atI_nat (j := 1) rfl, p2, rfl, ⟨_, SqL.of hp7⟩, ?_⟩
  refine for_it walk_list (fun i σ Hc => (∃ b c d, σ = [some (.ref a), some (.ref t), some (.int far), some (.int wd), some (.ref Lo), some (.ref Fd), b, c, d]) ∧ Kept a H Hc ∧ Spr Hc a (n + 2 + 2 * i) ∧ ∃ (ls : List Addr) (sps : List (Int × Int)), Hc Fd = some (.lst (ls.map V.ref)) ∧ Hc Lo = some (.lst ((lones sps).map V.int)) ∧ Paired (TupI Hc) ls sps ∧ GoodSp sps ∧ SmallSp sps ∧ sps.length = i)
    ⟨⟨_, _, _, rfl⟩, k17, s7, [], [], gF7, gL7, .nil, ⟨fun e he => (by cases he), List.nodup_nil⟩, fun e he => (by cases he), rfl⟩ (fun i σ Hc _ h => SqL.of (h.2.1 _ _ pa hp2)) ?_ ?_
  · rintro i v σ Hc H' hi ⟨⟨b, c, d, rfl⟩, c1, c2, ls, sps, c3, c4, c5, c6, c7, c8⟩ ⟨rfl, hv⟩
    rw [lqm] at hi
    have Fda2 := Fda
    refine K1.gN ?_
    with_reducible refine sQ ?_
    refine ⟨_, rfl, _, rfl, (2 : Int), far, rfl, rfl, .inl ⟨by decide, by decide⟩, _, _, rfl, rfl, ?_⟩
    refine ⟨a, 2 * far + 1, _, rfl, c2, by omega, by omega, Nat.lt_of_le_of_lt (show (2 * far + 1).natAbs ≤ 1000000000000000 by omega) (by decide), fun x1 G1 x10 x11 k1 s1 => ?_⟩
    refine ⟨_, rfl, _, _, rfl, rfl, ?_⟩
    refine K1.gN ?_
    with_reducible refine sQ ?_
    refine ⟨_, rfl, _, rfl, _, rfl, ?_⟩
    refine ⟨a, wd, _, rfl, s1, by omega, by omega, Nat.lt_of_le_of_lt (show wd.natAbs ≤ 1000000000000000 by omega) (by decide), fun x2 G2 x20 x21 k2' s2' => ?_⟩
    refine ⟨_, _, rfl, rfl, ?_⟩
    refine K1.gN ?_
    with_reducible refine sQ ?_
    obtain ⟨least, hle⟩ : ∃ l : Int, l = x1 - far := ⟨_, rfl⟩
    obtain ⟨most, hmo⟩ : ∃ m : Int, m = x1 - far + x2 := ⟨_, rfl⟩
    have kk : Kept a H' G2 := k1.trans k2'
    have gF2 := kk _ _ Fda c3
    have gL2 := kk _ _ Loa c4
    have lls : ls.length = i := by rw [c5.length, c8]
    have llo : (lones sps).length ≤ i := by
      unfold lones
      rw [List.length_map]
      exact Nat.le_trans (List.length_filter_le ..) (by omega)
    have fin : ∀ (mo : Int) (new : List V) (G3 : Hp) (tt : Addr), new = (if x1 - far = mo then [V.int (x1 - far)] else []) → x1 - far ≤ mo → mo.natAbs ≤ 1000000000000000 → (x1 - far = mo → x1 - far ∉ lones sps) → Same G2 G3 → (L2.upd G3 Lo (.lst ((lones sps).map V.int ++ new))) tt = none →
        Kept a H (L2.upd (L2.upd (L2.upd G3 Lo (.lst ((lones sps).map V.int ++ new))) tt (.tup [.int (x1 - far), .int mo])) Fd (.lst (ls.map V.ref ++ [.ref tt]))) ∧ Spr (L2.upd (L2.upd (L2.upd G3 Lo (.lst ((lones sps).map V.int ++ new))) tt (.tup [.int (x1 - far), .int mo])) Fd (.lst (ls.map V.ref ++ [.ref tt]))) a (n + 2 + 2 * (i + 1)) ∧
        ∃ (ls' : List Addr) (sps' : List (Int × Int)), (L2.upd (L2.upd (L2.upd G3 Lo (.lst ((lones sps).map V.int ++ new))) tt (.tup [.int (x1 - far), .int mo])) Fd (.lst (ls.map V.ref ++ [.ref tt]))) Fd = some (.lst (ls'.map V.ref)) ∧ (L2.upd (L2.upd (L2.upd G3 Lo (.lst ((lones sps).map V.int ++ new))) tt (.tup [.int (x1 - far), .int mo])) Fd (.lst (ls.map V.ref ++ [.ref tt]))) Lo = some (.lst ((lones sps').map V.int)) ∧
          Paired (TupI (L2.upd (L2.upd (L2.upd G3 Lo (.lst ((lones sps).map V.int ++ new))) tt (.tup [.int (x1 - far), .int mo])) Fd (.lst (ls.map V.ref ++ [.ref tt])))) ls' sps' ∧ GoodSp sps' ∧ SmallSp sps' ∧ sps'.length = i + 1 := by
      intro mo new G3 tt hnew hle hmo hni g1 htt
      have tL : tt ≠ Lo := fun z => by rw [z, upd_same] at htt; cases htt
      have tF : tt ≠ Fd := fun z => by rw [z, upd_ne LF.symm, g1 _ _ gF2] at htt; cases htt
      have s3 : Spr G3 a (n + 2 + 2 * i + 1 + 1) := s2'.same g1
      have ta' : tt ≠ a := fun z => by
        rw [z, upd_ne Loa.symm] at htt
        exact absurd htt s3.kept
      have keep : ∀ b o, b ≠ a → b ≠ Lo → b ≠ Fd → b ≠ tt → H' b = some o → (L2.upd (L2.upd (L2.upd G3 Lo (.lst ((lones sps).map V.int ++ new))) tt (.tup [.int (x1 - far), .int mo])) Fd (.lst (ls.map V.ref ++ [.ref tt]))) b = some o := fun b o n1 n2 n3 n4 hb => by
        rw [upd_ne n3, upd_ne n4, upd_ne n2]
        exact g1 _ _ (kk _ _ n1 hb)
      have off : ∀ b o, b ≠ a → H' b = some o → b ≠ tt := fun b o n1 hb z => by
        have h2 := g1 _ _ (kk _ _ n1 hb)
        by_cases zl : b = Lo
        · exact tL (z.symm.trans zl)
        · rw [← z, upd_ne zl, h2] at htt
          cases htt
      refine ⟨fun b o nb hb => ?_, ((s3.upd (o := .lst ((lones sps).map V.int ++ new)) Loa).upd ta').upd Fda |>.mono (by omega), ls ++ [tt], sps ++ [(x1 - far, mo)], by rw [upd_same, List.map_append]; rfl, ?_, ?_, ⟨fun e he => ?_, ?_⟩, fun e he => ?_, by rw [List.length_append, c8]; rfl⟩
      · have hb' := c1 _ _ nb hb
        exact keep b o nb (fun z => by rw [z, newL] at hb; cases hb) (fun z => by rw [z, newF] at hb; cases hb) (off b o nb hb') hb'
      · rw [upd_ne LF, upd_ne tL.symm, upd_same, lones_add, hnew, List.map_append]
        by_cases z : x1 - far = mo
        · rw [if_pos z, if_pos z]
          rfl
        · rw [if_neg z, if_neg z]
          rfl
      · refine paired_snoc (paired_imp (fun l e (h : H' l = _) => ?_) c5) ?_
        · have la : l ≠ a := fun z => by
            obtain ⟨u1, u2, u3, g, _⟩ := c2
            rw [z, g] at h; cases h
          exact keep l _ la (fun z => by rw [z, c4] at h; cases h) (fun z => by rw [z, c3] at h; cases h) (off l _ la h) h
        · show _ = _
          rw [upd_ne tF, upd_same]
      · rcases List.mem_append.mp he with he | he
        · exact c6.1 e he
        · rw [List.mem_singleton.mp he]
          exact hle
      · rw [lones_add]
        by_cases z : x1 - far = mo
        · rw [if_pos z]
          exact List.nodup_append.mpr ⟨c6.2, List.nodup_cons.mpr ⟨by simp, List.nodup_nil⟩, fun u hu w hw => by
            rw [List.mem_singleton.mp hw]
            exact fun q => hni z (by rw [show x1 - far = u from q.symm]; exact hu)⟩
        · rw [if_neg z, List.append_nil]
          exact c6.2
      · rcases List.mem_append.mp he with he | he
        · exact c7 e he
        · rw [List.mem_singleton.mp he]
          exact ⟨by show (x1 - far).natAbs ≤ _; omega, hmo⟩
    by_cases heq : x1 - far = x1 - far + x2
    · refine ⟨_, rfl, _, rfl, _, rfl, rfl, _, rfl, ?_⟩
      rw [decide_eq_true (show V.int (x1 - far) = V.int (x1 - far + x2) from congrArg V.int heq)]
      refine iteT ?_
      refine ⟨_, rfl, _, rfl, Lo, _, rfl, .inl (SqL.of gL2), rfl, flat_ints _, .inr ⟨_, rfl, ?_⟩⟩
      rw [inV_int]
      by_cases hin : x1 - far ∈ lones sps
      · rw [decide_eq_true hin]
        have heq2 : ¬ (x1 - far = x1 - far + x2 + 1) := fun z => by omega
        have hni : x1 - far = x1 - far + x2 + 1 → x1 - far ∉ lones sps := fun z => absurd z heq2
        refine ⟨_, _, rfl, rfl, ?_⟩
        refine K1.gN ?_
        with_reducible refine sQ ?_
        refine ⟨_, rfl, .inl ⟨rfl, _, SqL.of gL2⟩, ?_⟩
        refine ⟨.int (x1 - far), rfl, .int (x1 - far + x2 + 1), rfl, rfl, _, rfl, ?_⟩
        rw [decide_eq_false (show ¬ (V.int (x1 - far) = V.int (x1 - far + x2 + 1)) from fun z => heq2 (V.int.inj z))]
        refine iteF ⟨(by show 0 ≤ sizeLine; decide), fun X hX => ?_⟩
        have g1 := K1.Same.upd (H := G2) (p := X) (o := .lst []) hX
        have gX := upd_same' G2 X (.lst [])
        generalize L2.upd G2 X (.lst []) = G3 at g1 gX ⊢
        refine ⟨Lo, X, _, _, rfl, rfl, g1 _ _ gL2, gX, Nat.le_of_lt (small1000 (by rw [List.length_map]; simp only [List.length_cons, List.length_nil]; omega)), ?_⟩
        have gF4 : L2.upd G3 Lo (.lst ((lones sps).map V.int ++ ([] : List V))) Fd = some (.lst (ls.map V.ref)) := by rw [upd_ne LF.symm]; exact g1 _ _ gF2
        refine ⟨_, rfl, .inl ⟨rfl, _, SqL.of gF4⟩, ?_⟩
        refine cons_run ?_
        refine ⟨.int (x1 - far), rfl, .int (x1 - far + x2 + 1), rfl, (by show 2 ≤ sizeLine; decide), fun tt htt => ?_⟩
        have tF : tt ≠ Fd := fun z => by rw [z, gF4] at htt; cases htt
        obtain ⟨r1, r2, r3⟩ := fin (x1 - far + x2 + 1) ([] : List V) G3 tt (by rw [if_neg heq2]) (by omega) (by omega) hni g1 htt
        exact ⟨Fd, _, _, rfl, rfl, (by rw [upd_ne tF.symm]; exact gF4), small1000 (by rw [List.length_map]; omega), ⟨_, _, _, rfl⟩, r1, r2, r3⟩
      · rw [decide_eq_false hin]
        have heq2 : x1 - far = x1 - far + x2 + 0 := by omega
        have hni : x1 - far = x1 - far + x2 + 0 → x1 - far ∉ lones sps := fun _ => hin
        refine ⟨_, _, rfl, rfl, ?_⟩
        refine K1.gN ?_
        with_reducible refine sQ ?_
        refine ⟨_, rfl, .inl ⟨rfl, _, SqL.of gL2⟩, ?_⟩
        refine ⟨.int (x1 - far), rfl, .int (x1 - far + x2 + 0), rfl, rfl, _, rfl, ?_⟩
        rw [decide_eq_true (show V.int (x1 - far) = V.int (x1 - far + x2 + 0) from congrArg V.int heq2)]
        refine iteT ⟨.int (x1 - far), rfl, (by show 1 ≤ sizeLine; decide), fun X hX => ?_⟩
        have g1 := K1.Same.upd (H := G2) (p := X) (o := .lst [.int (x1 - far)]) hX
        have gX := upd_same' G2 X (.lst [.int (x1 - far)])
        generalize L2.upd G2 X (.lst [.int (x1 - far)]) = G3 at g1 gX ⊢
        refine ⟨Lo, X, _, _, rfl, rfl, g1 _ _ gL2, gX, Nat.le_of_lt (small1000 (by rw [List.length_map]; simp only [List.length_cons, List.length_nil]; omega)), ?_⟩
        have gF4 : L2.upd G3 Lo (.lst ((lones sps).map V.int ++ [V.int (x1 - far)])) Fd = some (.lst (ls.map V.ref)) := by rw [upd_ne LF.symm]; exact g1 _ _ gF2
        refine ⟨_, rfl, .inl ⟨rfl, _, SqL.of gF4⟩, ?_⟩
        refine cons_run ?_
        refine ⟨.int (x1 - far), rfl, .int (x1 - far + x2 + 0), rfl, (by show 2 ≤ sizeLine; decide), fun tt htt => ?_⟩
        have tF : tt ≠ Fd := fun z => by rw [z, gF4] at htt; cases htt
        obtain ⟨r1, r2, r3⟩ := fin (x1 - far + x2 + 0) [V.int (x1 - far)] G3 tt (by rw [if_pos heq2]) (by omega) (by omega) hni g1 htt
        exact ⟨Fd, _, _, rfl, rfl, (by rw [upd_ne tF.symm]; exact gF4), small1000 (by rw [List.length_map]; omega), ⟨_, _, _, rfl⟩, r1, r2, r3⟩
    · refine ⟨_, rfl, _, rfl, _, rfl, rfl, _, rfl, ?_⟩
      rw [decide_eq_false (show ¬ (V.int (x1 - far) = V.int (x1 - far + x2)) from fun z => heq (V.int.inj z))]
      refine iteF (.inr ⟨_, rfl, ?_⟩)
      have heq2 : ¬ (x1 - far = x1 - far + x2 + 0) := fun z => heq (by omega)
      refine ⟨_, _, rfl, rfl, ?_⟩
      refine K1.gN ?_
      with_reducible refine sQ ?_
      refine ⟨_, rfl, .inl ⟨rfl, _, SqL.of gL2⟩, ?_⟩
      refine ⟨.int (x1 - far), rfl, .int (x1 - far + x2 + 0), rfl, rfl, _, rfl, ?_⟩
      rw [decide_eq_false (show ¬ (V.int (x1 - far) = V.int (x1 - far + x2 + 0)) from fun z => heq2 (V.int.inj z))]
      refine iteF ⟨(by show 0 ≤ sizeLine; decide), fun X hX => ?_⟩
      have g1 := K1.Same.upd (H := G2) (p := X) (o := .lst []) hX
      have gX := upd_same' G2 X (.lst [])
      generalize L2.upd G2 X (.lst []) = G3 at g1 gX ⊢
      refine ⟨Lo, X, _, _, rfl, rfl, g1 _ _ gL2, gX, Nat.le_of_lt (small1000 (by rw [List.length_map]; simp only [List.length_cons, List.length_nil]; omega)), ?_⟩
      have hni : x1 - far = x1 - far + x2 + 0 → x1 - far ∉ lones sps := fun z => absurd z heq2
      have gF4 : L2.upd G3 Lo (.lst ((lones sps).map V.int ++ ([] : List V))) Fd = some (.lst (ls.map V.ref)) := by rw [upd_ne LF.symm]; exact g1 _ _ gF2
      refine ⟨_, rfl, .inl ⟨rfl, _, SqL.of gF4⟩, ?_⟩
      refine cons_run ?_
      refine ⟨.int (x1 - far), rfl, .int (x1 - far + x2 + 0), rfl, (by show 2 ≤ sizeLine; decide), fun tt htt => ?_⟩
      have tF : tt ≠ Fd := fun z => by rw [z, gF4] at htt; cases htt
      obtain ⟨r1, r2, r3⟩ := fin (x1 - far + x2 + 0) ([] : List V) G3 tt (by rw [if_neg heq2]) (by omega) (by omega) hni g1 htt
      exact ⟨Fd, _, _, rfl, rfl, (by rw [upd_ne tF.symm]; exact gF4), small1000 (by rw [List.length_map]; omega), ⟨_, _, _, rfl⟩, r1, r2, r3⟩
  · rintro σ Hc ⟨⟨b, c, d, rfl⟩, c1, c2, ls, sps, c3, c4, c5, c6, c7, c8⟩
    rw [lqm] at c2 c8
    exact ⟨_, rfl, q Fd ls sps Hc c1 (c2.mono (by omega)) newF c3 c5 c6 c7 c8⟩
end
end K1
end
-- XDg
section
set_option Elab.async false
set_option linter.all false
set_option maxRecDepth 100000
set_option maxHeartbeats 4000000
namespace K1
open PySem PySem.Spec PyProof.Rows L2 W0
abbrev sDg : Stmt := top 58
theorem scDg : FnScope ["spring", "form", "known", "left", "found", "road", "other", "free"] ["spring", "form", "known"] (defScope sDg) := ⟨rfl, rfl, rfl, by decide +kernel, rfl, by decide +kernel, by decide +kernel⟩
/-- by begin, then by end -/
def spLe (a b : Int × Int) : Bool := decide (a.1 < b.1) || (decide (a.1 = b.1) && decide (a.2 ≤ b.2))
theorem least_of {f : Nat → Int × Int} : ∀ {js : List Nat}, js ≠ [] → ∃ m ∈ js, ∀ j ∈ js, spLe (f m) (f j) = true
  | [], h => absurd rfl h
  | [j], _ => ⟨j, List.mem_singleton.mpr rfl, fun k hk => by rw [List.mem_singleton.mp hk]; simp [spLe]⟩
  | j :: k :: js, _ => by
    obtain ⟨m, hm, h⟩ := least_of (f := f) (js := k :: js) (by simp)
    by_cases le : spLe (f j) (f m) = true
    · refine ⟨j, List.mem_cons_self .., fun i hi => ?_⟩
      rcases List.mem_cons.mp hi with rfl | hi
      · simp [spLe]
      · have a := h i hi
        simp only [spLe, Bool.or_eq_true, Bool.and_eq_true, decide_eq_true_eq] at le a ⊢
        omega
    · refine ⟨m, List.mem_cons_of_mem _ hm, fun i hi => ?_⟩
      rcases List.mem_cons.mp hi with rfl | hi
      · simp only [spLe, Bool.or_eq_true, Bool.and_eq_true, decide_eq_true_eq] at le ⊢
        omega
      · exact h i hi
theorem lone_twice {sps : List (Int × Int)} {i j : Nat} (hi : i < sps.length) (hj : j < sps.length) (nd : (lones sps).Nodup) (ei : sps[i].1 = sps[i].2) (ej : sps[j].1 = sps[j].2) (e : sps[i].1 = sps[j].1) : i = j := by
  rcases Nat.lt_trichotomy i j with h | h | h
  · have n := lone_new hj nd ej
    rw [← e] at n
    refine absurd ?_ n
    unfold lones
    refine List.mem_map.mpr ⟨sps[i], List.mem_filter.mpr ⟨?_, decide_eq_true ei⟩, rfl⟩
    exact List.mem_iff_getElem.mpr ⟨i, by rw [List.length_take]; omega, by rw [List.getElem_take]⟩
  · exact h
  · have n := lone_new hi nd ei
    rw [e] at n
    refine absurd ?_ n
    unfold lones
    refine List.mem_map.mpr ⟨sps[j], List.mem_filter.mpr ⟨?_, decide_eq_true ej⟩, rfl⟩
    exact List.mem_iff_getElem.mpr ⟨j, by rw [List.length_take]; omega, by rw [List.getElem_take]⟩
/-- among roads there is one that none is ahead of -/
theorem free_one {sps : List (Int × Int)} (g : GoodSp sps) {js : List Nat} (lt : ∀ j ∈ js, j < sps.length) (ne : js ≠ []) : ∃ m ∈ js, ∀ j ∈ js, ahB sps j m = false := by
  obtain ⟨m, hm, h⟩ := least_of (f := fun j => (sps[j]?).getD (0, 0)) ne
  refine ⟨m, hm, fun j hj => ?_⟩
  cases e : ahB sps j m with
  | false => rfl
  | true =>
    have a := h j hj
    have lj := lt j hj
    have lm := lt m hm
    unfold ahB at e
    have gj : (sps[j]?).getD (0, 0) = sps[j] := by rw [List.getElem?_eq_getElem lj]; rfl
    have gm : (sps[m]?).getD (0, 0) = sps[m] := by rw [List.getElem?_eq_getElem lm]; rfl
    rw [gj, gm] at a e
    have oj := g.1 sps[j] (List.getElem_mem lj)
    have om := g.1 sps[m] (List.getElem_mem lm)
    simp only [Bool.and_eq_true, decide_eq_true_eq] at e
    simp only [spLe, Bool.or_eq_true, Bool.and_eq_true, decide_eq_true_eq] at a
    have := lone_twice lj lm g.2 (by omega) (by omega) (by omega)
    exact absurd this e.1
end K1
end
-- XDg2
section
set_option Elab.async false
set_option linter.all false
set_option maxRecDepth 100000
set_option maxHeartbeats 4000000
namespace K1
open PySem PySem.Spec PyProof.Rows L2 W0
section
variable {P : Program} {w : World} {K : PySem.W.Frag} {mg : Str → Option Value} {base : Heap}
theorem has_Dg {f fM fP fA : Addr} {md pd ad : FuncData} (B2 : mg "any" = none)
    (GM : FnOk P w K mg base CX0 2 fM md ["spring", "some"] spMixed) (bM : Binds K md ["spring", "some"] []) (kM : PySem.W.keepIn K (.ref fM) = true) (mM : mg "_law_mixed" = some (.ref fM))
    (GP : FnOk P w K mg base CX0 2 fP pd ["spring", "some"] spPick) (bP : Binds K pd ["spring", "some"] []) (kP : PySem.W.keepIn K (.ref fP) = true) (mP : mg "_law_pick" = some (.ref fP))
    (GA : FnOk P w K mg base CX0 1 fA ad ["known", "road", "later"] spDa) (bA : Binds K ad ["known", "road", "later"] []) (kA : PySem.W.keepIn K (.ref fA) = true) (mA : mg "_law_d_ahead" = some (.ref fA))
    (cdv : Value) (A : Around) (outer : List Env) (s : Shared) (H : Hp) (E : XK) (hr : Room 2 (A.deeper (envOfC "_law_d_good" (defScope sDg) s.heap.objs.size f cdv))) :
    ∃ t, PSs (cxOf CX0 P w K mg base ["spring", "form", "known", "left", "found", "road", "other", "free"] "_law_d_good" (defScope sDg) f cdv A outer s H E).nox (defBody sDg) t := by
  have nd := scDg.nd
  have hu64 : (A.deeper (envOfC "_law_d_good" (defScope sDg) s.heap.objs.size f cdv)).units + 64 < cLine := hr.units
  have hr2 : Room 2 _ := hr
  have hr1 : Room 1 _ := hr.mono (by decide)
  exact ⟨_, (pss_cons (by exact (ps_asg (pe_tup (pa_cons (pe_call GM hr2 rfl mM kM bM .nil pass0 (pa_cons (pv 0) (pa_cons (pe_ix ix_list (pv 1) pe_int (fun _ _ => rfl)) pa_nil))) (pa_cons (pe_lst pa_nil) pa_nil))) (pg_tup rfl (pgs_cons (pg_name (i := 3) nd rfl (.inr rfl)) (pgs_cons (pg_name (i := 4) nd rfl (.inr rfl)) pgs_nil)))))
    (pss_cons (by exact (ps_while PassesOwn.never (pt_cmpR (op_neD hu64) (pv 3) (pe_lst pa_nil) (nomark _)) (pss_cons (by exact (ps_setLc (i := 7) (own := [("road", 5)]) (g := gName 5) (tt := (tNot (tB (tCB (rAny K) (tCons (tLc (iList K (tVar 3)) (gName 6) tYes (tCall spDa [] E0 (tCons (tVar 2) (tCons (tVar 6) (tCons (tVar 5) tNil)))) [6]) tNil))))) (te := tVar 5) rfl nd rfl rfl (sw_true rfl rfl rfl (by decide +kernel)) (by exact pi_list (pv 3)) (by exact blkOk_by (N := ["spring", "form", "known", "left", "found", "road", "other", "free"]) (sc := defScope sDg) (by decide +kernel)) (fun _ _ _ _ _ => by exact (pg_name (i := 5) nd rfl (.inr rfl))) (fun _ _ _ _ _ => by exact (pts_one (pt_not (pt_val (pe_callB (cr_any rfl) rfl B2 (by decide +kernel) (pa_cons (pe_lc (own := [("other", 6)]) (g := gName 6) (tt := tYes) (te := (tCall spDa [] E0 (tCons (tVar 2) (tCons (tVar 6) (tCons (tVar 5) tNil))))) rfl nd (by exact pi_list (pv 3)) (by exact blkOk_by (N := ["spring", "form", "known", "left", "found", "road", "other", "free"]) (sc := _) (by with_unfolding_all rfl)) (fun _ _ _ _ _ => by exact (pg_name (i := 6) nd rfl (.inl rfl))) (fun _ _ _ _ _ => by exact pts_nil) (fun _ _ _ _ _ => by exact (pe_call GA hr1 rfl mA kA bA .nil pass0 (pa_cons (pv 2) (pa_cons (pv 6) (pa_cons (pv 5) pa_nil)))))) pa_nil)))))) (fun _ _ _ _ _ => by exact (pv 5))))
    (pss_cons (by exact (ps_expr (pe_bm PySem.F.plainAttrs_list PySem.F.slot_list_append PySem.F.type_list_append mt_append (pv 4) (pa_cons (pe_call GP hr2 rfl mP kP bP .nil pass0 (pa_cons (pv 0) (pa_cons (pv 7) pa_nil))) pa_nil))))
    (pss_one (by exact (ps_set (i := 3) nd rfl (.inr rfl) (pe_lc (own := [("road", 5)]) (g := gName 5) (tt := (tTest (tOp (rNeD K) (tVar 5) (tOp (rIxL K) (tVar 4) (tUn (rU fun i => .int (-i)) (tC (.int 1))))))) (te := tVar 5) rfl nd (by exact pi_list (pv 3)) (by exact blkOk_by (N := ["spring", "form", "known", "left", "found", "road", "other", "free"]) (sc := defScope sDg) (by decide +kernel)) (fun _ _ _ _ _ => by exact (pg_name (i := 5) nd rfl (.inl rfl))) (fun _ _ _ _ _ => by exact (pts_one (pt_cmpR (op_neD hu64) (pv 5) (pe_ix ix_list (pv 4) (pe_un un_neg pe_int) (fun _ _ => rfl)) (nomark _)))) (fun _ _ _ _ _ => by exact (pv 5))))))))))
    (pss_one (by exact (ps_ret (pv 4))))))⟩
end
end K1
end
-- XDg3
section
set_option Elab.async false
set_option linter.all false
set_option maxRecDepth 100000
set_option maxHeartbeats 4000000
namespace K1
open PySem PySem.Spec PyProof.Rows L2 W0
def spDg : Sp := fun vs H Q _ => ∃ (a t d p2 : Addr) (x1 x3 : V) (qs : List Addr) (rs : List (Str × Str)) (sps : List (Int × Int)) (n : Nat), vs = [.ref a, .ref t, .ref d] ∧ Spr H a n ∧ n + 1200 ≤ 1000000 ∧ H t = some (.lst [x1, .ref p2, x3]) ∧ t ≠ a ∧ H p2 = some (.lst (qs.map V.ref)) ∧ p2 ≠ a ∧ Paired (TupP H) qs rs ∧ KnV H d rs sps ∧ rs.Nodup ∧ rs.length ≤ 59 ∧ sps.length = rs.length ∧ GoodSp sps ∧
  (∀ e ∈ rs, nameOk e.1 = true ∧ nameOk e.2 = true) ∧ ∀ r cq es H', H r = none → Kept a H H' → Spr H' a (n + 200) → ClAt a H' r cq rs es → Q (.ref r) H'
theorem KnV.kept {a : Addr} {n : Nat} {H H' : Hp} {d : Addr} {rs : List (Str × Str)} {sps : List (Int × Int)} (h : KnV H d rs sps) (s : Spr H a n) (k : Kept a H H') : KnV H' d rs sps := by
  obtain ⟨x, y, z, g, _⟩ := s
  obtain ⟨ls, p, q, r⟩ := h
  exact ⟨ls, k _ _ (fun w => by rw [w, g] at p; cases p) p, q, paired_imp (fun l e w => k _ _ (fun v => by rw [v, g] at w; cases w) w) r⟩
theorem at_idx {rs : List (Str × Str)} : ∀ {ls : List (Str × Str)}, (∀ e ∈ ls, e ∈ rs) → AtPl rs (ls.map fun e => rs.idxOf e) ls
  | [], _ => .nil
  | e :: ls, h => .cons (List.getElem?_eq_some_iff.mpr ⟨List.idxOf_lt_length_of_mem (h e (List.mem_cons_self ..)), List.getElem_idxOf _⟩) (at_idx fun x hx => h x (List.mem_cons_of_mem _ hx))
section
variable {P : Program} {w : World} {K : PySem.W.Frag} {mg : Str → Option Value} {base : Heap}
theorem ok_Dg {f fM fP fA : Addr} {fd md pd ad : FuncData} (F : Fun K "_law_d_good" "_law_d_good" sDg f fd) (B2 : mg "any" = none)
    (GM : FnOk P w K mg base CX0 2 fM md ["spring", "some"] spMixed) (bM : Binds K md ["spring", "some"] []) (kM : PySem.W.keepIn K (.ref fM) = true) (mM : mg "_law_mixed" = some (.ref fM))
    (GP : FnOk P w K mg base CX0 2 fP pd ["spring", "some"] spPick) (bP : Binds K pd ["spring", "some"] []) (kP : PySem.W.keepIn K (.ref fP) = true) (mP : mg "_law_pick" = some (.ref fP))
    (GA : FnOk P w K mg base CX0 1 fA ad ["known", "road", "later"] spDa) (bA : Binds K ad ["known", "road", "later"] []) (kA : PySem.W.keepIn K (.ref fA) = true) (mA : mg "_law_d_ahead" = some (.ref fA)) :
    FnOk P w K mg base CX0 3 f fd ["spring", "form", "known"] spDg := by
  refine F.ok scDg (fun vs H Q E h => ?_) (fun cdv A outer s H vs Q E hr h => ?_)
  · obtain ⟨a, t, d, p2, x1, x3, qs, rs, sps, n, rfl, _⟩ := h
    rfl
  obtain ⟨a, t, d, p2, x1, x3, qs, rs, sps, n, rfl, hs, hn, ht, ta, hp2, pa, pq, kn, ndr, lr, lsp, good, nms, q⟩ := h
  have nd := scDg.nd
  have hu64 : (A.deeper (envOfC "_law_d_good" (defScope sDg) s.heap.objs.size f cdv)).units + 64 < cLine := hr.units
  have hr2 : Room 2 _ := hr
  have hr1 : Room 1 _ := hr.mono (by decide)
  refine ⟨_, (pss_cons (by exact (ps_asg (pe_tup (pa_cons (pe_call GM hr2 rfl mM kM bM .nil pass0 (pa_cons (pv 0) (pa_cons (pe_ix ix_list (pv 1) pe_int (fun _ _ => rfl)) pa_nil))) (pa_cons (pe_lst pa_nil) pa_nil))) (pg_tup rfl (pgs_cons (pg_name (i := 3) nd rfl (.inr rfl)) (pgs_cons (pg_name (i := 4) nd rfl (.inr rfl)) pgs_nil)))))
    (pss_cons (by exact (ps_while PassesOwn.never (pt_cmpR (op_neD hu64) (pv 3) (pe_lst pa_nil) (nomark _)) (pss_cons (by exact (ps_setLc (i := 7) (own := [("road", 5)]) (g := gName 5) (tt := (tNot (tB (tCB (rAny K) (tCons (tLc (iList K (tVar 3)) (gName 6) tYes (tCall spDa [] E0 (tCons (tVar 2) (tCons (tVar 6) (tCons (tVar 5) tNil)))) [6]) tNil))))) (te := tVar 5) rfl nd rfl rfl (sw_true rfl rfl rfl (by decide +kernel)) (by exact pi_list (pv 3)) (by exact blkOk_by (N := ["spring", "form", "known", "left", "found", "road", "other", "free"]) (sc := defScope sDg) (by decide +kernel)) (fun _ _ _ _ _ => by exact (pg_name (i := 5) nd rfl (.inr rfl))) (fun _ _ _ _ _ => by exact (pts_one (pt_not (pt_val (pe_callB (cr_any rfl) rfl B2 (by decide +kernel) (pa_cons (pe_lc (own := [("other", 6)]) (g := gName 6) (tt := tYes) (te := (tCall spDa [] E0 (tCons (tVar 2) (tCons (tVar 6) (tCons (tVar 5) tNil))))) rfl nd (by exact pi_list (pv 3)) (by exact blkOk_by (N := ["spring", "form", "known", "left", "found", "road", "other", "free"]) (sc := _) (by with_unfolding_all rfl)) (fun _ _ _ _ _ => by exact (pg_name (i := 6) nd rfl (.inl rfl))) (fun _ _ _ _ _ => by exact pts_nil) (fun _ _ _ _ _ => by exact (pe_call GA hr1 rfl mA kA bA .nil pass0 (pa_cons (pv 2) (pa_cons (pv 6) (pa_cons (pv 5) pa_nil)))))) pa_nil)))))) (fun _ _ _ _ _ => by exact (pv 5))))
    (pss_cons (by exact (ps_expr (pe_bm PySem.F.plainAttrs_list PySem.F.slot_list_append PySem.F.type_list_append mt_append (pv 4) (pa_cons (pe_call GP hr2 rfl mP kP bP .nil pass0 (pa_cons (pv 0) (pa_cons (pv 7) pa_nil))) pa_nil))))
    (pss_one (by exact (ps_set (i := 3) nd rfl (.inr rfl) (pe_lc (own := [("road", 5)]) (g := gName 5) (tt := (tTest (tOp (rNeD K) (tVar 5) (tOp (rIxL K) (tVar 4) (tUn (rU fun i => .int (-i)) (tC (.int 1))))))) (te := tVar 5) rfl nd (by exact pi_list (pv 3)) (by exact blkOk_by (N := ["spring", "form", "known", "left", "found", "road", "other", "free"]) (sc := defScope sDg) (by decide +kernel)) (fun _ _ _ _ _ => by exact (pg_name (i := 5) nd rfl (.inl rfl))) (fun _ _ _ _ _ => by exact (pts_one (pt_cmpR (op_neD hu64) (pv 5) (pe_ix ix_list (pv 4) (pe_un un_neg pe_int) (fun _ _ => rfl)) (nomark _)))) (fun _ _ _ _ _ => by exact (pv 5))))))))))
    (pss_one (by exact (ps_ret (pv 4)))))), ?_⟩
  have lq : qs.length = rs.length := pq.length
  with_reducible refine sQ ?_
  refine ⟨_, rfl, _, rfl, t, _, 1, .ref p2, rfl, rfl, SqL.of ht, atI_nat (j := 1) rfl, a, p2, qs.map V.ref, n, rfl, hs, by omega, hp2, pa, by rw [List.length_map]; omega, fun Lf ys H1 pm nL La gL k1 s1 => ?_⟩
  obtain ⟨lq0, rfl, pc⟩ := perm_refs pm
  obtain ⟨es0, pe0, pt0⟩ := perm_tups pq pc
  have pt1 := TupP.kept pt0 hs k1
  refine ⟨(by show 0 ≤ sizeLine; decide), fun Fd hFd => ?_⟩
  have e2 := K1.Same.upd (H := H1) (p := Fd) (o := .lst []) hFd
  have gF2 := upd_same' H1 Fd (.lst [])
  have Fda := s1.ne hFd
  have LF : Lf ≠ Fd := fun z => by rw [z, hFd] at gL; cases gL
  generalize L2.upd H1 Fd (.lst []) = H2 at e2 gF2 ⊢
  refine ⟨(by show 2 ≤ sizeLine; decide), fun T hT => ?_⟩
  have e3 := K1.Same.upd (H := H2) (p := T) (o := .tup [.ref Lf, .ref Fd]) hT
  have gT := upd_same' H2 T (.tup [.ref Lf, .ref Fd])
  generalize L2.upd H2 T (.tup [.ref Lf, .ref Fd]) = H3 at e3 gT ⊢
  refine ⟨T, _, rfl, SqT.of gT, rfl, _, _, rfl, K1.gN ⟨_, _, rfl, K1.gN ⟨rfl, ?_⟩⟩⟩
  have e13 := e2.trans e3
  have k3 : Kept a H H3 := k1.trans (Kept.same e13)
  have s3 := s1.same e13
  rw [List.length_map, lq] at s3
  have nF : H Fd = none := by
    cases e : H Fd with
    | none => rfl
    | some o => have := k1 _ _ Fda e; rw [hFd] at this; cases this
  with_reducible refine sQ ?_
  refine while_gh (fun m σ Hc => ∃ (Lx : Addr) (lx fx : List Addr) (ls fs : List (Str × Str)), (∃ y5 y6 y7, σ = [some (.ref a), some (.ref t), some (.ref d), some (.ref Lx), some (.ref Fd), y5, y6, y7]) ∧ m = ls.length ∧ Kept a H Hc ∧ Spr Hc a (n + rs.length + fs.length) ∧ Hc Lx = some (.lst (lx.map V.ref)) ∧ Paired (TupP Hc) lx ls ∧ Hc Fd = some (.lst (fx.map V.ref)) ∧ Paired (TupP Hc) fx fs ∧ (fs ++ ls).Perm rs ∧ Lx ≠ a ∧ Lx ≠ Fd) es0.length
    ⟨Lf, lq0, [], es0, [], ⟨_, _, _, rfl⟩, rfl, k3, s3, e13 _ _ gL, TupP.ext pt1 e13, e3 _ _ gF2, .nil, by simpa using pe0, La, LF⟩ ?_ ?_
  · rintro m σ Hc ⟨Lx, lx, fx, ls, fs, ⟨y5, y6, y7, rfl⟩, rfl, c1, c2, c3, c4, c5, c6, c7, c8, c9⟩
    have inR : ∀ e ∈ ls, e ∈ rs := fun e he => c7.mem_iff.mp (List.mem_append_right _ he)
    have nml : ∀ e ∈ ls, nameOk e.1 = true ∧ nameOk e.2 = true := fun e he => nms e (inR e he)
    refine ⟨_, rfl, (by show 0 ≤ sizeLine; decide), fun l0 hl0 => ?_⟩
    have e5 := K1.Same.upd (H := Hc) (p := l0) (o := .lst []) hl0
    have gl5 := upd_same' Hc l0 (.lst [])
    generalize L2.upd Hc l0 (.lst []) = H5 at e5 gl5 ⊢
    have p5 := TupP.ext c4 e5
    refine ⟨dR ls, .list [], dp_dR (e5 _ _ c3) p5, .lst (SqL.of gl5) .nil, shaped_dR nml, rfl, _, rfl, ?_⟩
    have lall : fs.length + ls.length = rs.length := by rw [← List.length_append]; exact c7.length_eq
    by_cases hls : ls = []
    · subst hls
      rw [show (!PyData.eqv (dR []) (.list [])) = false from rfl]
      refine iteF ?_
      refine ⟨_, rfl, q Fd fx fs H5 nF (c1.trans (Kept.same e5)) ((c2.same e5).mono (by omega)) ⟨e5 _ _ c5, Fda, TupP.ext c6 e5, by simpa using c7⟩⟩
    rw [show (!PyData.eqv (dR ls) (.list [])) = true from by cases ls with | nil => exact absurd rfl hls | cons _ _ => rfl]
    refine iteT ?_
    have ap := at_idx inR
    obtain ⟨js, ejs⟩ : ∃ js, js = ls.map fun e => rs.idxOf e := ⟨_, rfl⟩
    rw [← ejs] at ap
    have ljs : js.length = ls.length := by rw [ejs, List.length_map]
    have llx : lx.length = ls.length := c4.length
    have s5 := c2.same e5
    have kn5 : KnV H5 d rs sps := (kn.kept hs c1).ext e5
    have atl : ∀ {k : Nat} (hk : k < js.length), ∃ b : Addr, (lx.map V.ref)[k]? = some (.ref b) ∧ b ∈ lx ∧ ∃ hj : js[k] < rs.length, ∀ Hx, Same H5 Hx → Hx b = some (.tup [.str rs[js[k]].1, .str rs[js[k]].2]) := fun {k} hk => by
      obtain ⟨b, eb, tb⟩ := paired_get p5 (i := k) (by omega)
      obtain ⟨j, ej, rj⟩ := paired_get ap (i := k) (by omega)
      rw [List.getElem?_eq_getElem hk] at ej
      obtain rfl := Option.some.inj ej
      obtain ⟨hj, er⟩ := List.getElem?_eq_some_iff.mp rj
      exact ⟨b, by rw [List.getElem?_map, eb]; rfl, List.mem_of_getElem? eb, hj, fun Hx e => by rw [er]; exact e _ _ tb⟩
    have lxm : (lx.map V.ref).length = js.length := by rw [List.length_map]; omega
    with_reducible refine sQ (asg_run ?_)
    refine ⟨_, rfl, Lx, rfl, ⟨_, SqL.of (e5 _ _ c3)⟩, fun D hD => ?_⟩
    refine lc_it (Qd := _) walk_list (fun i Hd => Same H5 Hd ∧ ∃ fr : List Addr, Hd D = some (.lst (fr.map V.ref)) ∧ fr.length ≤ i ∧ (∀ b ∈ fr, b ∈ lx) ∧ ∀ k, (hk : k < js.length) → k < i → (js.any fun j => ahB sps j js[k]) = false → fr ≠ []) ⟨K1.Same.upd hD, [], upd_same, Nat.le_refl _, fun b hb => (by cases hb), fun k _ h => absurd h (Nat.not_lt_zero _)⟩ (fun i Hd _ h => SqL.of (h.1 _ _ (e5 _ _ c3))) ?_ ?_
    · rintro i v Hd H' hi ⟨d1, fr, d2, d3, d4, d5⟩ ⟨rfl, hv⟩
      rw [lxm] at hi
      obtain ⟨b1, eb1, mb1, hj1, gb1⟩ := atl hi
      rw [eb1] at hv
      obtain rfl := Option.some.inj hv
      refine ⟨rfl, ?_⟩
      refine ⟨_, rfl, Lx, rfl, ⟨_, SqL.of (d1 _ _ (e5 _ _ c3))⟩, fun D2 hD2 => ?_⟩
      refine lc_it (Qd := _) walk_list (fun k He => Same H' He ∧ He D2 = some (.lst (((js.take k).map fun j => ahB sps j js[i]).map V.bl))) ⟨K1.Same.upd hD2, upd_same⟩ (fun k He _ h => SqL.of (h.1 _ _ (d1 _ _ (e5 _ _ c3)))) ?_ ?_
      · rintro k v2 He H'' hk ⟨g1, g2⟩ ⟨rfl, hv2⟩
        rw [lxm] at hk
        obtain ⟨b2, eb2, mb2, hj2, gb2⟩ := atl hk
        rw [eb2] at hv2
        obtain rfl := Option.some.inj hv2
        refine ⟨rfl, ?_⟩
        unfold tYes
        refine iteT ?_
        have e6 : Same H5 H'' := d1.trans g1
        refine ⟨_, rfl, _, rfl, _, rfl, d, b2, b1, rs, sps, js[k], js[i], hj2, hj1, rfl, kn5.ext e6, ndr, lsp, nms, gb2 _ e6, gb1 _ e6, ?_⟩
        refine ⟨_, g2, by rw [List.length_map, List.length_map, List.length_take]; exact small1000 (by omega), fun b o hb => ?_, ?_⟩
        · rw [upd_ne (ne_of_none hb hD2)]
          exact g1 _ _ hb
        · rw [upd_same, List.take_add_one, List.getElem?_eq_getElem hk, List.map_append, List.map_append]
          rfl
      · rintro He ⟨g1, g2⟩
        rw [lxm, List.take_of_length_le (Nat.le_refl _)] at g2
        refine ⟨D2, _, rfl, SqL.of g2, ⟨_, rfl, ?_⟩⟩
        have D2D : D ≠ D2 := fun z => by rw [z, hD2] at d2; cases d2
        have any_eq : ((js.map fun j => ahB sps j js[i]).any id) = js.any fun j => ahB sps j js[i] := by rw [List.any_map]; rfl
        rw [any_eq]
        cases hany : js.any fun j => ahB sps j js[i] with
        | true =>
          refine iteF ⟨d1.trans g1, fr, g1 _ _ d2, by omega, d4, fun k hk hki hf => ?_⟩
          by_cases z : k = i
          · subst z
            rw [hany] at hf
            cases hf
          · exact d5 k hk (by omega) hf
        | false =>
          refine iteT ⟨_, rfl, _, g1 _ _ d2, by rw [List.length_map]; exact small1000 (by omega), fun b o hb => ?_, fr ++ [b1], by rw [upd_same, List.map_append]; rfl, by rw [List.length_append, List.length_singleton]; omega, fun b hb => ?_, fun k hk hki hf => by simp⟩
          · rw [upd_ne (ne_of_none hb hD)]
            exact g1 _ _ (d1 _ _ hb)
          · rcases List.mem_append.mp hb with hb | hb
            · exact d4 b hb
            · rw [List.mem_singleton.mp hb]
              exact mb1
    · rintro Hd ⟨d1, fr, d2, d3, d4, d5⟩
      rw [lxm] at d3 d5
      have frne : fr ≠ [] := by
        obtain ⟨m, hm, hf⟩ := free_one good (js := js) (fun j hj => by
          obtain ⟨k, hk, rfl⟩ := List.mem_iff_getElem.mp hj
          obtain ⟨_, _, _, h, _⟩ := atl hk
          omega) (fun z => hls (List.length_eq_zero_iff.mp (by rw [← ljs, z]; rfl)))
        obtain ⟨k, hk, rfl⟩ := List.mem_iff_getElem.mp hm
        exact d5 k hk hk (List.any_eq_false.mpr fun j hj => by rw [hf j hj]; exact Bool.false_ne_true)
      refine K1.gN ?_
      with_reducible refine sQ ?_
      have Da : D ≠ a := s5.ne hD
      have gF9 := d1 _ _ (e5 _ _ c5)
      have lfx : fx.length = fs.length := c6.length
      refine ⟨_, rfl, .inl ⟨rfl, _, SqL.of gF9⟩, ?_⟩
      refine cons_run ?_
      refine ⟨_, rfl, _, rfl, a, D, fr.map V.ref, _, rfl, s5.same d1, by omega, d2, Da, (fun z => frne (List.map_eq_nil_iff.mp z)), by rw [List.length_map]; omega, fun xq H6 hx k6 s6 => ?_⟩
      obtain ⟨q0, hq0, rfl⟩ := List.mem_map.mp hx
      have gF6 := k6 _ _ Fda gF9
      refine ⟨Fd, _, _, rfl, rfl, gF6, small1000 (by rw [List.length_map]; omega), ?_⟩
      have gF7 : L2.upd H6 Fd (.lst (fx.map V.ref ++ [.ref q0])) Fd = some (.lst ((fx ++ [q0]).map V.ref)) := by rw [upd_same, List.map_append]; rfl
      have s7 := s6.upd (o := .lst (fx.map V.ref ++ [.ref q0])) Fda
      have k7 : ∀ b o, b ≠ a → b ≠ Fd → H5 b = some o → L2.upd H6 Fd (.lst (fx.map V.ref ++ [.ref q0])) b = some o := fun b o n1 n2 hb => by
        rw [upd_ne n2]
        exact k6 _ _ n1 (d1 _ _ hb)
      have kk7 : Kept a H (L2.upd H6 Fd (.lst (fx.map V.ref ++ [.ref q0]))) := fun b o nb hb => k7 b o nb (fun z => by rw [z, nF] at hb; cases hb) (e5 _ _ (c1 _ _ nb hb))
      generalize L2.upd H6 Fd (.lst (fx.map V.ref ++ [.ref q0])) = H7 at gF7 s7 k7 kk7 ⊢
      have tup7 : ∀ {b : Addr} {e : Str × Str}, TupP H5 b e → TupP H7 b e := fun {b e} h => by
        have h : H5 b = _ := h
        obtain ⟨u1, u2, u3, g, _⟩ := s5
        exact k7 _ _ (fun z => by rw [z, g] at h; cases h) (fun z => by rw [z, e5 _ _ c5] at h; cases h) h
      have gL7 := k7 _ _ c8 c9 (e5 _ _ c3)
      obtain ⟨k0, hk0, ek0⟩ := List.mem_iff_getElem.mp (d4 q0 hq0)
      have hk0l : k0 < ls.length := by omega
      obtain ⟨b0, eb0, tb0⟩ := paired_get p5 hk0l
      rw [List.getElem?_eq_getElem hk0, ek0] at eb0
      obtain rfl := Option.some.inj eb0
      have e0in : ls[k0] ∈ ls := List.getElem_mem hk0l
      obtain ⟨e0, he0⟩ : ∃ e0, e0 = ls[k0] := ⟨_, rfl⟩
      rw [← he0] at tb0 e0in
      have ndl : ls.Nodup := (List.nodup_append.mp (c7.nodup_iff.mpr ndr)).2.1
      refine ⟨_, rfl, Lx, rfl, ⟨_, SqL.of gL7⟩, fun D3 hD3 => ?_⟩
      refine lc_it (Qd := _) walk_list (fun i Hd => Same H7 Hd ∧ ∃ (l2 : List Addr), Hd D3 = some (.lst (l2.map V.ref)) ∧ Paired (TupP Hd) l2 ((ls.take i).filter fun e => !decide (e = e0)) ∧ l2.length ≤ i) ⟨K1.Same.upd hD3, [], upd_same, .nil, Nat.le_refl _⟩ (fun i Hd _ h => SqL.of (h.1 _ _ gL7)) ?_ ?_
      · rintro i v He H' hi ⟨f1, l2, f2, f3, f4⟩ ⟨rfl, hv⟩
        rw [List.length_map] at hi
        have hil : i < ls.length := by omega
        obtain ⟨b1, eb1, tb1⟩ := paired_get p5 hil
        rw [List.getElem?_map, eb1] at hv
        obtain rfl := Option.some.inj hv
        have t1 : H' b1 = some (.tup [.str ls[i].1, .str ls[i].2]) := f1 _ _ (tup7 tb1)
        have t0 : H' q0 = some (.tup [.str e0.1, .str e0.2]) := f1 _ _ (tup7 tb0)
        refine ⟨rfl, ?_⟩
        have sp1 := sh_pair (nml _ (List.getElem_mem hil))
        have sp2 := sh_pair (nml _ e0in)
        have dp1 : Dp K H' (.ref b1) (.tuple [.str ls[i].1, .str ls[i].2]) := .tup (SqT.of t1) (.cons (.str _) (.cons (.str _) .nil))
        have dp2 : Dp K H' (.ref q0) (.tuple [.str e0.1, .str e0.2]) := .tup (SqT.of t0) (.cons (.str _) (.cons (.str _) .nil))
        have ne0 : PyData.eqv (.tuple [.str ls[i].1, .str ls[i].2]) (.tuple [.str e0.1, .str e0.2]) = decide (ls[i] = e0) := eqv_pair _ _
        have al : atI ((fx ++ [q0]).map V.ref) (-1) = some (.ref q0) := by rw [List.map_append]; exact atI_last _ _
        refine ⟨_, rfl, _, rfl, 1, rfl, Fd, _, -1, .ref q0, rfl, rfl, SqL.of (f1 _ _ gF7), al, _, _, dp1, dp2, sp1, sp2, ⟨_, rfl, ?_⟩⟩
        rw [ne0]
        have tk : (ls.take (i + 1)).filter (fun e => !decide (e = e0)) = (ls.take i).filter (fun e => !decide (e = e0)) ++ (if ls[i] = e0 then [] else [ls[i]]) := by
          rw [List.take_add_one, List.getElem?_eq_getElem hil, Option.toList, List.filter_append]
          congr 1
          by_cases z : ls[i] = e0
          · rw [if_pos z, List.filter_cons, decide_eq_true z]
            rfl
          · rw [if_neg z, List.filter_cons, decide_eq_false z]
            rfl
        by_cases z : ls[i] = e0
        · rw [decide_eq_true z]
          refine iteF ⟨f1, l2, f2, ?_, by omega⟩
          rw [tk, if_pos z, List.append_nil]
          exact f3
        · rw [decide_eq_false z]
          have bD : b1 ≠ D3 := fun w => by rw [w, f2] at t1; cases t1
          refine iteT ⟨_, rfl, _, f2, by rw [List.length_map]; exact small1000 (by omega), fun b o hb => ?_, l2 ++ [b1], by rw [upd_same, List.map_append]; rfl, ?_, by rw [List.length_append, List.length_singleton]; omega⟩
          · rw [upd_ne (ne_of_none hb hD3)]
            exact f1 _ _ hb
          · rw [tk, if_neg z]
            refine paired_snoc (paired_imp (fun p e (h : H' p = _) => ?_) f3) ?_
            · show _ = _
              rw [upd_ne (fun w => by rw [w, f2] at h; cases h)]
              exact h
            · show _ = _
              rw [upd_ne bD]
              exact t1
      · rintro He ⟨f1, l2, f2, f3, f4⟩
        rw [List.length_map, List.take_of_length_le (by omega)] at f3
        refine K1.gN ?_
        have pme : ls.Perm (e0 :: ls.filter fun e => !decide (e = e0)) := by
          have h := List.perm_cons_erase e0in
          rw [ndl.erase_eq_filter] at h
          have : (ls.filter fun e => !decide (e = e0)) = ls.filter (fun x => x != e0) := by
            congr 1
            funext x
            by_cases z : x = e0
            · rw [decide_eq_true z, z]
              simp
            · rw [decide_eq_false z]
              simp [z]
          rw [this]
          exact h
        have D3a : D3 ≠ a := s7.ne hD3
        have D3F : D3 ≠ Fd := fun w => by rw [w, gF7] at hD3; cases hD3
        have e6' := (TupP.ext c6 e5)
        refine ⟨(ls.filter fun e => !decide (e = e0)).length, by have := pme.length_eq; rw [List.length_cons] at this; omega, D3, l2, fx ++ [q0], ls.filter fun e => !decide (e = e0), fs ++ [e0], ⟨_, _, _, rfl⟩, rfl, kk7.trans (Kept.same f1), (s7.same f1).mono (by rw [List.length_append, List.length_singleton]; omega), f2, f3, f1 _ _ gF7, ?_, ?_, D3a, D3F⟩
        · exact paired_snoc (paired_imp (fun p e h => f1 _ _ (tup7 h)) e6') (f1 _ _ (tup7 tb0))
        · rw [List.append_assoc]
          exact ((List.Perm.refl fs).append pme.symm).trans c7
  · rintro σ Hx R R' f ⟨x, hx, l, g⟩
    exact ⟨x, hx, l, fun p hp => by
      obtain ⟨d1, d2, p1, p2', p3, p4, k, ek, z⟩ := g p hp
      exact ⟨d1, d2, p1, p2', p3, p4, k, ek, f _ _ z⟩⟩
end
end K1
end
-- XBs
section
set_option Elab.async false
set_option linter.all false
set_option maxRecDepth 100000
set_option maxHeartbeats 4000000
namespace K1
open PySem PySem.Spec PyProof.Rows L2 W0
abbrev sBs : Stmt := top 59
theorem scBs : FnScope ["spring", "spans", "at", "found", "odd"] ["spring", "spans"] (defScope sBs) := ⟨rfl, rfl, rfl, by decide +kernel, rfl, by decide +kernel, by decide +kernel⟩
section
variable {P : Program} {w : World} {K : PySem.W.Frag} {mg : Str → Option Value} {base : Heap}
/-- its derivation -/
theorem has_Bs {f fD : Addr} {dd : FuncData} (B : Bl mg) (GD : FnOk P w K mg base CX0 1 fD dd ["spring", "many"] spDraw) (bD : Binds K dd ["spring", "many"] []) (kD : PySem.W.keepIn K (.ref fD) = true) (mD : mg "_law_draw" = some (.ref fD))
    (cdv : Value) (A : Around) (outer : List Env) (s : Shared) (H : Hp) (E : XK) (hr : Room 1 (A.deeper (envOfC "_law_d_bad_spans" (defScope sBs) s.heap.objs.size f cdv))) :
    ∃ t, PSs (cxOf CX0 P w K mg base ["spring", "spans", "at", "found", "odd"] "_law_d_bad_spans" (defScope sBs) f cdv A outer s H E).nox (defBody sBs) t := by
  have nd := scBs.nd
  exact ⟨_, (pss_cons (by exact (ps_par (i := 2) (j := 3) rfl nd rfl rfl (by decide) rfl rfl (pa_cons (pe_call GD hr rfl mD kD bD .nil pass0 (pa_cons (pv 0) (pa_cons (pe_callB call_len_seq rfl B.len PySem.boot_len (pa_cons (pv 1) pa_nil)) pa_nil))) (pa_cons (pe_lst (pa_cons (pe_tup (pa_cons pe_non (pa_cons pe_int pa_nil))) (pa_cons (pe_tup (pa_cons pe_int (pa_cons pe_int pa_nil))) (pa_cons (pe_tup (pa_cons pe_str (pa_cons pe_int pa_nil))) (pa_cons (pe_tup (pa_cons pe_dnewK (pa_cons pe_int pa_nil))) (pa_cons (pe_tup (pa_cons pe_bl (pa_cons pe_int pa_nil))) pa_nil)))))) pa_nil)) (by rfl)))
    (pss_cons (by exact (ps_for PassesOwn.never rfl (by exact pi_tup (pe_tup (pa_cons pe_non (pa_cons pe_int (pa_cons pe_str (pa_cons (pe_tup (pa_cons pe_int pa_nil)) (pa_cons (pe_tup (pa_cons pe_int (pa_cons pe_int pa_nil))) (pa_cons (pe_tup (pa_cons pe_int (pa_cons pe_str pa_nil))) (pa_cons (pe_tup (pa_cons pe_bl (pa_cons pe_int pa_nil))) (pa_cons (pe_tup (pa_cons pe_int (pa_cons pe_int (pa_cons pe_int pa_nil)))) (pa_cons (pe_lst (pa_cons (pe_lst (pa_cons pe_int pa_nil)) (pa_cons pe_int pa_nil))) (pa_cons (pe_disp (pps_cons pe_int pe_int (pps_cons pe_int pe_int pps_nil)) (by rfl) (by rfl) (fun z => by cases z) (by decide)) pa_nil)))))))))))) (pg_name (i := 4) nd rfl (.inl rfl)) (pss_cons (by exact (ps_expr (pe_bm PySem.F.plainAttrs_list PySem.F.slot_list_append PySem.F.type_list_append mt_append (pv 3) (pa_cons (pe_tup (pa_cons (pe_op op_cat (pe_op op_cat (pe_slice sl_list (pv 1) po_none (po_some (pv 2))) (pe_lst (pa_cons (pv 4) pa_nil))) (pe_slice sl_list (pv 1) (po_some (pe_op op_add (pv 2) pe_int)) po_none)) (pa_cons (pv 2) pa_nil))) pa_nil))))
    (pss_one (by exact (ps_expr (pe_bm PySem.F.plainAttrs_list PySem.F.slot_list_append PySem.F.type_list_append mt_append (pv 3) (pa_cons (pe_tup (pa_cons (pe_op op_cat (pe_op op_cat (pe_op op_cat (pe_slice sl_list (pv 1) po_none (po_some (pv 2))) (pe_lst (pa_cons (pv 4) (pa_cons pe_non pa_nil)))) (pe_slice sl_list (pv 1) (po_some (pe_op op_add (pv 2) pe_int)) po_none)) (pe_lst (pa_cons (pe_tup (pa_cons pe_int (pa_cons pe_int pa_nil))) pa_nil))) (pa_cons (pv 2) pa_nil))) pa_nil))))))))
    (pss_cons (by exact (ps_expr (pe_bm PySem.F.plainAttrs_list PySem.F.slot_list_extend PySem.F.type_list_extend mt_extend (pv 3) (pa_cons (pe_lst (pa_cons (pe_tup (pa_cons (pe_slice sl_list (pv 1) po_none (po_some (pe_un un_neg pe_int))) (pa_cons (pe_op op_sub (pe_callB call_len_seq rfl B.len PySem.boot_len (pa_cons (pv 1) pa_nil)) pe_int) pa_nil))) (pa_cons (pe_tup (pa_cons (pe_op op_cat (pv 1) (pe_lst (pa_cons (pe_tup (pa_cons pe_int (pa_cons (pe_op op_pow pe_int pe_int) pa_nil))) pa_nil))) (pa_cons (pe_callB call_len_seq rfl B.len PySem.boot_len (pa_cons (pv 1) pa_nil)) pa_nil))) (pa_cons (pe_tup (pa_cons (pe_op op_cat (pv 1) (pe_lst (pa_cons pe_non pa_nil))) (pa_cons (pe_callB call_len_seq rfl B.len PySem.boot_len (pa_cons (pv 1) pa_nil)) pa_nil))) pa_nil)))) pa_nil))))
    (pss_cons (by exact (ps_if (pt_cmpR op_gt (pe_callB call_len_seq rfl B.len PySem.boot_len (pa_cons (pv 1) pa_nil)) pe_int (nomark _)) (pss_one (by exact (ps_expr (pe_bm PySem.F.plainAttrs_list PySem.F.slot_list_append PySem.F.type_list_append mt_append (pv 3) (pa_cons (pe_tup (pa_cons (pe_op op_cat (pe_op op_rep (pe_lst (pa_cons (pe_tup (pa_cons (pe_op op_pow pe_int pe_int) (pa_cons (pe_op op_pow pe_int pe_int) pa_nil))) pa_nil)) pe_int) (pe_slice sl_list (pv 1) (po_some pe_int) po_none)) (pa_cons pe_int pa_nil))) pa_nil))))) pss_nil))
    (pss_one (by exact (ps_ret (pv 3))))))))⟩
end
end K1
end
-- XBs2
section
set_option Elab.async false
set_option linter.all false
set_option maxRecDepth 100000
set_option maxHeartbeats 2000000
namespace K1
open PySem PySem.Spec PyProof.Rows L2 W0
/-- a thing that is no spans, with the index where it fails first -/
def BadPair (K : PySem.W.Frag) (rs : List (Str × Str)) (G : Hp) (y : V) : Prop := ∃ (p : Addr) (v : V) (i : Nat), y = .ref p ∧ G p = some (.tup [v, .int (i : Int)]) ∧ SpBad K G v rs i
theorem BadPair.ext {K : PySem.W.Frag} {rs : List (Str × Str)} {G G' : Hp} {y : V} (h : BadPair K rs G y) (e : Same G G') : BadPair K rs G' y := by
  obtain ⟨p, v, i, a, b, c⟩ := h
  exact ⟨p, v, i, a, e _ _ b, c.ext e⟩
theorem GoodSp.take {sps : List (Int × Int)} (g : GoodSp sps) (d : Nat) : GoodSp (sps.take d) := by
  refine ⟨fun e he => g.1 e (List.mem_of_mem_take he), ?_⟩
  have h := g.2
  unfold lones at h ⊢
  exact h.sublist (((List.take_sublist d sps).filter _).map _)
theorem tupI_spa {G : Hp} {ls : List Addr} {sps : List (Int × Int)} (h : Paired (TupI G) ls sps) : Paired (SpaV G) (ls.map V.ref) sps := by
  induction h with
  | nil => exact .nil
  | cons a _ ih => exact .cons ⟨_, rfl, .inr a⟩ ih
/-- one that is no span in a span's place -/
theorem bad_mid {K : PySem.W.Frag} {G : Hp} {rs : List (Str × Str)} {ls : List Addr} {sps : List (Int × Int)} {l : Addr} {z : V} {r : List V} {d : Nat} (g : GoodSp sps) (pr : Paired (TupI G) ls sps) (lr : sps.length = rs.length) (l60 : rs.length ≤ 60) (hd : d ≤ sps.length) (lrest : r.length ≤ 1000) (hl : G l = some (.lst ((ls.map V.ref).take d ++ z :: r))) (bad : sps.length = d ∨ NoSpan K G z) : SpBad K G (.ref l) rs d := by
  have lls : ls.length = sps.length := pr.length
  have ltk : (sps.take d).length = d := by rw [List.length_take]; omega
  refine .inr ⟨sps.take d, (ls.map V.ref).take d, z :: r, ⟨l, rfl, .inl hl⟩, paired_take d (tupI_spa pr), g.take d, ?_, by omega, ltk.symm, .inr ⟨z, r, rfl, ?_⟩⟩
  · rw [List.length_append, List.length_take, List.length_map, List.length_cons]
    omega
  · rcases bad with h | h
    · exact .inl (by omega)
    · exact .inr (.inl h)
/-- one too few -/
theorem bad_few {K : PySem.W.Frag} {G : Hp} {rs : List (Str × Str)} {ls : List Addr} {sps : List (Int × Int)} {l : Addr} (g : GoodSp sps) (pr : Paired (TupI G) ls sps) (lr : sps.length = rs.length) (l60 : rs.length ≤ 60) (pos : 1 ≤ sps.length) (hl : G l = some (.lst ((ls.map V.ref).take (sps.length - 1)))) : SpBad K G (.ref l) rs (sps.length - 1) := by
  have lls : ls.length = sps.length := pr.length
  have ltk : (sps.take (sps.length - 1)).length = sps.length - 1 := by rw [List.length_take]; omega
  refine .inr ⟨sps.take (sps.length - 1), (ls.map V.ref).take (sps.length - 1), [], ⟨l, rfl, .inl (by rw [List.append_nil]; exact hl)⟩, paired_take _ (tupI_spa pr), g.take _, ?_, by omega, ltk.symm, .inl ⟨rfl, by omega⟩⟩
  rw [List.append_nil, List.length_take, List.length_map]
  omega
/-- one date twice -/
theorem bad_twice {K : PySem.W.Frag} {G : Hp} {rs : List (Str × Str)} {l a : Addr} {u : Int} {r : List V} (h2 : 2 ≤ rs.length) (lrest : r.length ≤ 1000) (hl : G l = some (.lst (.ref a :: .ref a :: r))) (ha : G a = some (.tup [.int u, .int u])) : SpBad K G (.ref l) rs 1 := by
  have sa : SpaV G (.ref a) (u, u) := ⟨a, rfl, .inr ha⟩
  have lo : lones [(u, u)] = [u] := by simp [lones]
  refine .inr ⟨[(u, u)], [.ref a], .ref a :: r, ⟨l, rfl, .inl hl⟩, .cons sa .nil, ⟨fun e he => ?_, by rw [lo]; exact List.nodup_cons.mpr ⟨by simp, List.nodup_nil⟩⟩, ?_, by show 1 ≤ rs.length; omega, rfl, .inr ⟨_, r, rfl, .inr (.inr ⟨u, sa, by rw [lo]; exact List.mem_singleton.mpr rfl⟩)⟩⟩
  · rw [List.mem_singleton.mp he]
    exact Int.le_refl _
  · simp only [List.length_append, List.length_cons, List.length_nil]
    omega
/-- what is no sequence -/
theorem bad_flat {K : PySem.W.Frag} {G : Hp} {rs : List (Str × Str)} {v : V} (h : NoSeq K G v) : SpBad K G v rs 0 := .inl ⟨h, rfl⟩
end K1
end
-- EBe2
section
set_option Elab.async false
set_option linter.all false
set_option maxRecDepth 100000
set_option maxHeartbeats 2000000
namespace K1
open PySem PySem.Spec PyProof.Rows L2 W0
def spBe (K : PySem.W.Frag) : Sp := fun vs H Q _ => ∃ (a t p1 p2 p3 : Addr) (qs : List Addr) (ss : List Str) (rs : List (Str × Str)) (ns : List Int) (n : Nat), vs = [.ref a, .ref t] ∧ Spr H a n ∧ n + 200 ≤ 1000000 ∧ VAt a H t p1 p2 p3 qs ss rs ns ∧ VOk ss rs ns ∧ 1 ≤ rs.length ∧
  ∀ (r : Addr) (ys : List V) (H' : Hp), Kept a H H' → Spr H' a (n + 1) → H r = none → H' r = some (.lst ys) → ys.length ≤ 100 → (∀ y ∈ ys, OddE K ss rs (nt H') y) → Q (.ref r) H'
/-! more displays -/
def tupX (xs : List V) : PV := fun H v => ∃ p, v = .ref p ∧ H p = some (.tup xs)
section
variable {H0 : Hp} {σ : L2.St} {t te : TE} {K : PySem.W.Frag} {i : Nat} {p : Addr} {xs : List V} {x y : V} {k : Int}
theorem mr_at (h : σ[i]? = some (some (.ref p))) (hp : H0 p = some (.lst xs)) (ht : Mr H0 te σ (eqP (.int k))) (hx : atI xs k = some x) : Mr H0 (tOp (rIxL K) (tVar i) te) σ (eqP x) :=
  ⟨fun _ _ _ _ h => h, fun H e Q q => ⟨_, h, ht.run H e _ fun v H1 e1 ev => ⟨p, xs, k, x, rfl, ev, SqL.of ((e.trans e1) _ _ hp), hx, q x H1 e1 rfl⟩⟩⟩
theorem mr_at0T (ht : Mr H0 t σ (eqP (.ref p))) (hp : H0 p = some (.tup xs)) (hx : atI xs 0 = some x) : Mr H0 (tOp (rIxT K) t (tC (.int 0))) σ (eqP x) :=
  ⟨fun _ _ _ _ h => h, fun H e Q q => ht.run H e _ fun v H1 e1 ev => ⟨p, xs, 0, x, ev, rfl, SqT.of ((e.trans e1) _ _ hp), hx, q x H1 e1 rfl⟩⟩
theorem tupX_mono {xs : List V} : ∀ H H' v, Same H H' → tupX xs H v → tupX xs H' v := fun H H' v e ⟨p, a, b⟩ => ⟨p, a, e _ _ b⟩
theorem mr_backT (ht : Mr H0 t σ (eqP (.ref p))) (hp : H0 p = some (.tup [x, y])) : Mr H0 (tBack K t) σ (tupX [y, x]) :=
  ⟨tupX_mono, fun H e Q q => ht.run H e _ fun v H1 e1 ev => ⟨p, x, y, ev, SqT.of ((e.trans e1) _ _ hp), fun r hr => q _ _ (e1.trans (K1.Same.upd hr)) ⟨r, rfl, upd_same⟩⟩⟩
theorem mr_three (ht : Mr H0 t σ (eqP (.ref p))) (hp : H0 p = some (.tup [x, y])) : Mr H0 (tOp (rCatT K) t (tSl (rSlT K) t tNoPart (tPart (tC (.int 1))))) σ (tupX [x, y, x]) :=
  ⟨tupX_mono, fun H e Q q => ht.run H e _ fun v H1 e1 ev => ht.run H1 (e.trans e1) _ fun v2 H2 e2 ev2 => ⟨1, rfl, p, [x, y], ev2, SqT.of ((e.trans (e1.trans e2)) _ _ hp), (by show ¬ (HT.sIx 2 0 none = 0 ∧ HT.sIx 2 2 (some 1) = 2); decide), fun r hr => by
    have u : cutV [x, y] none (some 1) = [x] := rfl
    rw [u]
    have e3 := K1.Same.upd (H := H2) (p := r) (o := .tup [x]) hr
    refine ⟨p, r, [x, y], [x], ev, rfl, SqT.of ((e.trans (e1.trans (e2.trans e3))) _ _ hp), SqT.of upd_same, by simp, (by show 3 ≤ sizeLine; decide), fun z => (by cases z), fun _ r2 hr2 => ?_⟩
    exact q _ _ (e1.trans (e2.trans (e3.trans (K1.Same.upd hr2)))) ⟨r2, rfl, upd_same⟩⟩⟩
theorem mr_sub1 {d : Int} (h : σ[i]? = some (some (.int d))) : Mr H0 (tOp (rI0 fun i j => .int (i - j)) (tVar i) (tC (.int 1))) σ (eqP (.int (d - 1))) :=
  ⟨fun _ _ _ _ h => h, fun H e Q q => ⟨_, h, _, _, rfl, rfl, q _ H (Same.refl _) rfl⟩⟩
end
theorem atI_neg1 {xs : List V} {k : Nat} {x : V} (h : xs.length = k + 1) (hx : xs[k]? = some x) : atI xs (-1) = some x := by
  unfold atI ixN
  rw [if_neg (by decide), if_pos (by rw [h]; omega), h]
  show xs[((-1 : Int) + ((k + 1 : Nat) : Int)).toNat]? = _
  rw [show ((-1 : Int) + ((k + 1 : Nat) : Int)).toNat = k by omega]
  exact hx
/-! the list of what is found, told so far -/
def FdI (K : PySem.W.Frag) (ss : List Str) (rs : List (Str × Str)) (Fd : Addr) (Hs : Hp) (m : Nat) (Hc : Hp) : Prop := Kept Fd Hs Hc ∧ ∃ zs, Hc Fd = some (.lst zs) ∧ zs.length = m ∧ ∀ y ∈ zs, OddE K ss rs (nt (wo (fun b => b = Fd) Hc)) y
theorem app_odd {te : TE} {σ : L2.St} {K : PySem.W.Frag} {ss : List Str} {rs : List (Str × Str)} {Fd : Addr} {Hs Hc : Hp} {m : Nat} {xs ys : List V} {P : PV} {Q : VK} (w : FdI K ss rs Fd Hs m Hc) (hm : m ≤ 50) (ht : Mr Hc te σ (lsE Hc xs P ys))
    (hP : ∀ H1 z p, Same Hc H1 → P H1 z → nt (wo (fun b => b = Fd) H1) p = some (.lst (xs ++ z :: ys)) → OddE K ss rs (nt (wo (fun b => b = Fd) H1)) (.ref p))
    (q : ∀ v H1 zs, H1 Fd = some (.lst zs) → zs.length < sizeLine → FdI K ss rs Fd Hs (m + 1) (L2.upd H1 Fd (.lst (zs ++ [v]))) → Q v H1) : te σ Hc Q := by
  obtain ⟨w1, zs, w2, w3, w4⟩ := w
  refine ht.run Hc (Same.refl _) _ fun v H1 e1 ⟨p, z, ev, np, gp, pz⟩ => ?_
  have pn : p ≠ Fd := fun h => by rw [h, w2] at np; cases np
  have lift : Same (wo (fun b => b = Fd) H1) (wo (fun b => b = Fd) (L2.upd H1 Fd (.lst (zs ++ [v])))) := wo_same fun b0 o nb hb => by rw [upd_ne nb]; exact hb
  have lift0 : Same (wo (fun b => b = Fd) Hc) (wo (fun b => b = Fd) H1) := wo_same fun b0 o nb hb => e1 _ _ hb
  refine q v H1 zs (e1 _ _ w2) (by rw [w3]; exact small1000 (by omega)) ⟨fun b o nb hb => by rw [upd_ne nb]; exact e1 _ _ (w1 _ _ nb hb), _, upd_same, by rw [List.length_append, w3]; rfl, fun y hy => ?_⟩
  rcases List.mem_append.mp hy with hy | hy
  · exact (w4 y hy).ext (nt_mono (lift0.trans lift))
  · subst ev
    rw [List.mem_singleton.mp hy]
    exact (hP H1 z p e1 pz (nt_l (wo_some.mpr ⟨pn, gp⟩))).ext (nt_mono lift)
theorem paired_mem {α β : Type} {R : α → β → Prop} {xs : List α} {ys : List β} (h : Paired R xs ys) {x : α} (hx : x ∈ xs) : ∃ y ∈ ys, R x y := by
  induction h with
  | nil => cases hx
  | cons a _ ih =>
    rcases List.mem_cons.mp hx with rfl | hx
    · exact ⟨_, List.mem_cons_self .., a⟩
    · obtain ⟨y, h1, h2⟩ := ih hx
      exact ⟨y, List.mem_cons_of_mem _ h1, h2⟩
theorem paired_eqs {H : Hp} {xs : List V} : ∀ {ys : List V}, Paired (fun v (P : PV) => P H v) xs (ys.map eqP) → xs = ys := by
  induction xs with
  | nil => intro ys h; cases ys with | nil => rfl | cons _ _ => cases h
  | cons x xs ih => intro ys h; cases ys with
    | nil => cases h
    | cons y ys => cases h with | cons a r => rw [ih r]; cases a; rfl
theorem eqs_paired {H : Hp} : ∀ {ys : List V}, Paired (fun v (P : PV) => P H v) ys (ys.map eqP)
  | [] => .nil
  | _ :: _ => .cons rfl eqs_paired
/-- what is put in a road's place doesn't lean on the list that is being filled -/
theorem oddO_wo {H : Hp} {s0 s1 : Str} {Fd : Addr} {zs : List V} (gF : H Fd = some (.lst zs)) (lz : zs.length = 8) {v : V} {P : PV} (hP : P ∈ oddO s0 s1) (h : P H v) : P (nt (wo (fun b => b = Fd) H)) v := by
  have tp : ∀ {ys : List V}, tupP (ys.map eqP) H v → tupP (ys.map eqP) (nt (wo (fun b => b = Fd) H)) v := fun {ys} ⟨p, xs, a, b, c⟩ => by
    obtain rfl := paired_eqs c
    exact ⟨p, _, a, nt_t (wo_some.mpr ⟨(fun z => by rw [z, gF] at b; cases b), b⟩), eqs_paired⟩
  have lp : ∀ {ys : List V}, ys.length ≠ 8 → lstP (ys.map eqP) H v → lstP (ys.map eqP) (nt (wo (fun b => b = Fd) H)) v := fun {ys} l ⟨p, xs, a, b, c⟩ => by
    obtain rfl := paired_eqs c
    exact ⟨p, _, a, nt_l (wo_some.mpr ⟨(fun z => by rw [z, gF] at b; cases b; exact l lz), b⟩), eqs_paired⟩
  unfold oddO at hP
  simp only [List.mem_cons, List.not_mem_nil, or_false] at hP
  rcases hP with rfl | rfl | rfl | rfl | rfl | rfl | rfl | rfl | rfl
  · exact h
  · exact h
  · exact h
  · exact tp (ys := []) h
  · exact tp (ys := [.str s0]) h
  · exact tp (ys := [.str s0, .str s0]) h
  · exact tp (ys := [.str s0, .str "nobody"]) h
  · exact lp (ys := [.str s1, .non]) (by show 2 ≠ 8; decide) h
  · obtain ⟨p, a, b⟩ := h
    exact ⟨p, a, nt_d (wo_some.mpr ⟨(fun z => by rw [z, gF] at b; cases b), b⟩)⟩
theorem paired_rmap {α β γ : Type} {F : α → γ → Prop} {g : β → γ} {xs : List α} {ys : List β} (h : Paired (fun x y => F x (g y)) xs ys) : Paired F xs (ys.map g) := by
  induction h with
  | nil => exact .nil
  | cons a _ ih => exact .cons a ih
theorem tlst_run {ta : TA} {σ : L2.St} {H : Hp} {Q : VK} (h : ta σ H fun xs H1 => xs.length ≤ sizeLine ∧ ∀ p, H1 p = none → Q (.ref p) (L2.upd H1 p (.lst xs))) : tLst ta σ H Q := h
section
variable {P : Program} {w : World} {K : PySem.W.Frag} {mg : Str → Option Value} {base : Heap} {fD : Addr} {fdD : FuncData}
theorem ok_Be {f : Addr} {fd : FuncData} (F : Fun K "_law_v_bad_evenings" "_law_v_bad_evenings" sBe f fd) (B : Bl mg)
    (G : FnOk P w K mg base CX0 1 fD fdD ["spring", "many"] spDraw) (b : Binds K fdD ["spring", "many"] []) (k : PySem.W.keepIn K (.ref fD) = true) (m : mg "_law_draw" = some (.ref fD)) :
    FnOk P w K mg base CX0 2 f fd ["spring", "form"] (spBe K) := by
  refine F.ok scBe (fun vs H Q E h => ?_) (fun cdv A outer s0 H vs Q E hr h => ?_)
  · obtain ⟨a, t, p1, p2, p3, qs, ss, rs, ns, n, rfl, _⟩ := h
    rfl
  obtain ⟨a, t, p1, p2, p3, qs, ss, rs, ns, n, rfl, hs, hn, va, ok, pos, q⟩ := h
  have nd := scBe.nd
  refine ⟨_, (pss_cons (by exact (ps_par (i := 2) (j := 3) rfl nd rfl rfl (by decide) rfl rfl (pa_cons (pe_ix ix_list (pv 1) pe_int (fun _ _ => rfl)) (pa_cons (pe_callTy (r := rLst K) call_list_of rfl B.list PyProof.Rows.boot_list (pa_cons (pe_ix ix_list (pv 1) pe_int (fun _ _ => rfl)) pa_nil)) pa_nil)) (by rfl)))
  (pss_cons (by exact (ps_par (i := 4) (j := 5) rfl nd rfl rfl (by decide) rfl rfl (pa_cons (pe_call G hr rfl m k b .nil pass0 (pa_cons (pv 0) (pa_cons (pe_callB call_len_seq rfl B.len PySem.boot_len (pa_cons (pv 3) pa_nil)) pa_nil))) (pa_cons (pe_lst (pa_cons pe_non (pa_cons pe_int (pa_cons pe_str (pa_cons pe_dnewK (pa_cons pe_bl (pa_cons (pe_slice sl_list (pv 3) (po_some pe_int) po_none) (pa_cons (pe_op op_cat (pv 3) (pe_slice sl_list (pv 3) po_none (po_some pe_int))) (pa_cons (pe_callTy (call_dictP rfl) rfl B.dict PyProof.Rows.boot_dict (pa_cons (pv 3) pa_nil)) pa_nil))))))))) pa_nil)) (by rfl)))
  (pss_cons (by exact (ps_for PassesOwn.never rfl (by exact pi_tup (pe_tup (pa_cons pe_non (pa_cons pe_int (pa_cons pe_str (pa_cons (pe_tup pa_nil) (pa_cons (pe_tup (pa_cons (pe_ix ix_list (pv 2) pe_int (fun _ _ => rfl)) pa_nil)) (pa_cons (pe_tup (pa_cons (pe_ix ix_list (pv 2) pe_int (fun _ _ => rfl)) (pa_cons (pe_ix ix_list (pv 2) pe_int (fun _ _ => rfl)) pa_nil))) (pa_cons (pe_tup (pa_cons (pe_ix ix_list (pv 2) pe_int (fun _ _ => rfl)) (pa_cons pe_str pa_nil))) (pa_cons (pe_lst (pa_cons (pe_ix ix_tup (pe_ix ix_list (pv 3) (pv 4) (fun _ _ => rfl)) pe_int (fun _ _ => rfl)) (pa_cons pe_non pa_nil))) (pa_cons pe_dnewK pa_nil))))))))))) (pg_name (i := 6) nd rfl (.inl rfl)) (pss_one (by exact (ps_expr (pe_bm PySem.F.plainAttrs_list PySem.F.slot_list_append PySem.F.type_list_append mt_append (pv 5) (pa_cons (pe_op op_cat (pe_op op_cat (pe_slice sl_list (pv 3) po_none (po_some (pv 4))) (pe_lst (pa_cons (pv 6) pa_nil))) (pe_slice sl_list (pv 3) (po_some (pe_op op_add (pv 4) pe_int)) po_none)) pa_nil)))))))
  (pss_cons (by exact (ps_if (pt_cmpR op_gt (pe_callB call_len_seq rfl B.len PySem.boot_len (pa_cons (pv 3) pa_nil)) pe_int (nomark _)) (pss_cons (by exact (ps_expr (pe_bm PySem.F.plainAttrs_list PySem.F.slot_list_append PySem.F.type_list_append mt_append (pv 5) (pa_cons (pe_op op_cat (pe_op op_cat (pe_slice sl_list (pv 3) po_none (po_some (pv 4))) (pe_lst (pa_cons (pe_back (pe_ix ix_list (pv 3) (pe_op op_sub (pv 4) pe_int) (fun _ _ => rfl))) pa_nil))) (pe_slice sl_list (pv 3) (po_some (pe_op op_add (pv 4) pe_int)) po_none)) pa_nil))))
  (pss_one (by exact (ps_expr (pe_bm PySem.F.plainAttrs_list PySem.F.slot_list_append PySem.F.type_list_append mt_append (pv 5) (pa_cons (pe_op op_cat (pe_op op_cat (pe_slice sl_list (pv 3) po_none (po_some (pv 4))) (pe_lst (pa_cons (pe_op op_catT (pe_ix ix_list (pv 3) (pv 4) (fun _ _ => rfl)) (pe_slice sl_tup (pe_ix ix_list (pv 3) (pv 4) (fun _ _ => rfl)) po_none (po_some pe_int))) pa_nil))) (pe_slice sl_list (pv 3) (po_some (pe_op op_add (pv 4) pe_int)) po_none)) pa_nil)))))) pss_nil))
  (pss_one (by exact (ps_ret (pv 5)))))))), ?_⟩
  refine ⟨_, rfl, t, _, 0, .ref p1, rfl, rfl, SqL.of va.t0, rfl, _, rfl, t, _, 1, .ref p2, rfl, rfl, SqL.of va.t0, rfl, p2, _, rfl, .inl (SqL.of va.h2), fun R hR => ⟨_, _, rfl, ?_⟩⟩
  have Ra := hs.ne hR
  have e1 := K1.Same.upd (H := H) (p := R) (o := .lst (qs.map V.ref)) hR
  have gR1 := upd_same' H R (.lst (qs.map V.ref))
  have s1 := hs.upd (o := .lst (qs.map V.ref)) Ra
  generalize L2.upd H R (.lst (qs.map V.ref)) = H1 at e1 gR1 s1 ⊢
  have lq : qs.length = rs.length := va.pr.length
  have lqm : (qs.map V.ref).length = rs.length := by rw [List.length_map, lq]
  have lr : rs.length ≤ 59 := by have := ok.rl; have := ok.le; omega
  with_reducible refine sQ ?_
  refine ⟨_, rfl, _, rfl, R, _, rfl, .inl (SqL.of gR1), a, _, n, rfl, s1, by omega, by omega, ?_, fun d H2 d0 d1 k2 s2 => ?_⟩
  · refine Nat.lt_of_le_of_lt (show ((((qs.map V.ref).length : Nat) : Int)).natAbs ≤ 100 by omega) (by decide)
  have k12 : Kept a H H2 := (Kept.same e1).trans k2
  have va2 := va.kept hs k12
  have gR2 := k2 _ _ Ra gR1
  have kvp : Paired (fun (p : Addr) (kv : Key × V) => H2 p = some (.tup [kV kv.1, kv.2])) qs (kvOf rs) := paired_rmap va2.pr
  refine tlst_run ?_
  refine (mr_cons (mr_c _) (mr_cons (mr_c _) (mr_cons (mr_c _) (mr_cons mr_dict (mr_cons (mr_c _) (mr_cons (mr_cutF (m := 1) rfl gR2 (mr_c _)) (mr_cons (mr_more (m := 1) rfl gR2 (mr_c _) (by omega)) (mr_cons (mr_dctP (kvs := kvOf rs) rfl gR2 kvp) mr_nil)))))))).run H2 (Same.refl _) _ fun ys H3 e3 pys0 => ⟨by rw [pys0.length]; show 8 ≤ sizeLine; decide, fun Fd hFd => ⟨_, _, rfl, ?_⟩⟩
  have pys : Paired (fun v P => P H3 v) ys (beA (kvOf rs) (qs.map V.ref)) := pys0
  have s3 := s2.same e3
  have lys : ys.length = 8 := pys.length
  have frs : Forest rs := ok.cut.forest
  have nob := ok.nob
  obtain ⟨m, rfl⟩ : ∃ m : Nat, d = (m : Int) := ⟨d.toNat, by omega⟩
  have hm : m < rs.length := by rw [lqm] at d1; omega
  have e4 := K1.Same.upd (H := H3) (p := Fd) (o := .lst ys) hFd
  have gF4 := upd_same' H3 Fd (.lst ys)
  have w4 : Same H3 (wo (fun b => b = Fd) (L2.upd H3 Fd (.lst ys))) := fun b0 o hb => wo_some.mpr ⟨(fun z => by rw [z, hFd] at hb; cases hb), e4 _ _ hb⟩
  generalize L2.upd H3 Fd (.lst ys) = H4 at e4 gF4 w4 ⊢
  have k4 : Kept a H H4 := k12.trans (Kept.same (e3.trans e4))
  have s4 := s3.same e4
  have Fa : Fd ≠ a := s3.ne hFd
  have va3 := va2.kept s2 (Kept.same e3)
  have va4 := va.kept hs k4
  have gR4 := e4 _ _ (e3 _ _ gR2)
  have RF : R ≠ Fd := fun z => by
    have h := e3 _ _ gR2
    rw [z, hFd] at h
    cases h
  have prn : ∀ {G : Hp}, Same H3 G → Paired (TupP (nt (wo (fun b => b = Fd) G))) qs rs := fun {G} e => paired_imp (fun p e1 h => nt_t (wo_some.mpr ⟨(fun z => by have h : H3 p = _ := h; rw [z, hFd] at h; cases h), e _ _ h⟩)) va3.pr
  have ok4 : ∀ y ∈ ys, OddE K ss rs (nt (wo (fun b => b = Fd) H4)) y := fun y hy => by
    obtain ⟨P, hP, py⟩ := paired_mem pys hy
    exact (beA_ok frs (paired_imp (fun p e1 h => nt_t h) va3.pr) lr pos hP py).ext (nt_mono w4)
  have Fd0 : H Fd = none := by
    cases e : H Fd with
    | none => rfl
    | some o =>
      by_cases z : Fd = a
      · exact absurd z Fa
      · have := e3 _ _ (k12 _ _ z e)
        rw [hFd] at this
        cases this
  obtain ⟨s0, hs0, as0⟩ : ∃ s0 : Str, s0 ∈ ss ∧ atI (ss.map V.str) 0 = some (.str s0) := by
    cases ss with
    | nil => have := ok.pos; simp at this
    | cons x xs => exact ⟨x, List.mem_cons_self .., atI_nat (j := 0) rfl⟩
  obtain ⟨qm, eqm, tqm⟩ := paired_get va4.pr hm
  have atm : atI (qs.map V.ref) (m : Int) = some (.ref qm) := atI_nat (by rw [List.getElem?_map, eqm]; rfl)
  have ends := ok.ends _ (List.getElem_mem hm)
  refine K1.gN ?_
  with_reducible refine sQ ?_
  refine Mr.run (H0 := H4) (P := tupP (oddO s0 rs[m].1)) ?_ H4 (Same.refl _) _ fun T0 U e5 pt => ?_
  · refine mr_tup (Ps := oddO s0 rs[m].1) ?_
    refine mr_cons (mr_c _) (mr_cons (mr_c _) (mr_cons (mr_c _) (mr_cons (mr_tup mr_nil) (mr_cons ?_ (mr_cons ?_ (mr_cons ?_ (mr_cons ?_ (mr_cons mr_dict mr_nil))))))))
    · exact mr_tup (mr_cons (mr_ix (by rfl) va4.h1 as0) mr_nil)
    · exact mr_tup (mr_cons (mr_ix (by rfl) va4.h1 as0) (mr_cons (mr_ix (by rfl) va4.h1 as0) mr_nil))
    · exact mr_tup (mr_cons (mr_ix (by rfl) va4.h1 as0) (mr_cons (mr_c _) mr_nil))
    · exact mr_lst (mr_cons (mr_at0T (mr_at (by rfl) gR4 (mr_v (by rfl)) atm) tqm (atI_nat (j := 0) rfl)) (mr_cons (mr_c _) mr_nil))
  obtain ⟨T, ts, rfl, gT, pts⟩ := pt
  refine ⟨T, rfl, ⟨_, SqT.of gT⟩, ?_⟩
  have gF5 := e5 _ _ gF4
  have gR5 := e5 _ _ gR4
  have TF : T ≠ Fd := fun z => by rw [z, gF5] at gT; cases gT
  refine for_it walk_tup (fun i σ Hc => (∃ x1, σ = [some (.ref a), some (.ref t), some (.ref p1), some (.ref R), some (.int m), some (.ref Fd), x1]) ∧ FdI K ss rs Fd U (8 + i) Hc)
    ⟨⟨_, rfl⟩, Kept.refl, ys, gF5, lys, fun y hy => (ok4 y hy).ext (nt_mono (wo_same fun b0 o nb hb => e5 _ _ hb))⟩ (fun i σ Hc _ h => SqT.of (h.2.1 _ _ TF gT)) ?_ ?_
  · rintro i v σ Hc H' hi ⟨⟨x1, rfl⟩, w⟩ ⟨rfl, hv⟩
    refine K1.gN ?_
    have hi9 : i < 9 := by have h := pts.length; have h2 : (oddO s0 rs[m].1).length = 9 := rfl; rw [h2] at h; omega
    obtain ⟨P, hP, pv⟩ := paired_mem pts (List.mem_of_getElem? hv)
    have od := oddO_ok (K := K) frs hs0 ends.1 nob hP (oddO_wo (e5 _ _ gF4) lys hP pv)
    have k5 := w.1
    have gR6 := k5 _ _ RF gR5
    have upw : Same (wo (fun b => b = Fd) U) (wo (fun b => b = Fd) H') := wo_same fun b0 o nb hb => k5 _ _ nb hb
    obtain ⟨zs0, gz, lz, _⟩ := w.2
    refine ⟨_, rfl, .inl ⟨rfl, _, SqL.of gz⟩, ?_⟩
    refine cons_run ?_
    refine app_odd w (by omega) (mr_mid (m := m) (m2 := m + 1) (P := eqP v) (by rfl) gR6 (by omega) (mr_v (by rfl)) (mr_v (by rfl)) (mr_add1 (by rfl))) (fun H1 z p e1 pz gp => ?_) fun v2 H1 zs g l fn => ⟨Fd, _, _, rfl, rfl, g, l, ⟨_, rfl⟩, fn⟩
    cases pz
    have up1 : Same (wo (fun b => b = Fd) H') (wo (fun b => b = Fd) H1) := wo_same fun b0 o nb hb => e1 _ _ hb
    have up := nt_mono (upw.trans up1)
    exact odd_mid frs (paired_imp (fun p e1 h => up _ _ h) (prn (e4.trans e5))) lr hm gp (.inl (od.1.ext up)) (K1.RF.mon 4 _ _ _ _ up od.2)
  · rintro σ Hc ⟨⟨x1, rfl⟩, w⟩
    rw [show ts.length = 9 from pts.length] at w
    have fin : ∀ {Hz : Hp} {mm : Nat}, FdI K ss rs Fd U mm Hz → mm ≤ 50 → Q (.ref Fd) Hz := fun {Hz mm} w hm => by
      obtain ⟨w1, zs, w2, w3, w4⟩ := w
      refine q Fd zs Hz (fun b0 o nb hb => ?_) ((s4.same e5).keptx Fa.symm w1) Fd0 w2 (by omega) fun y hy => (w4 y hy).ext (nt_mono wo_out)
      exact w1 _ _ (fun z => by rw [z, Fd0] at hb; cases hb) (e5 _ _ (k4 _ _ nb hb))
    have tU : ∀ {Hz : Hp} {mm : Nat}, FdI K ss rs Fd U mm Hz → ∀ {p : Addr} {e0 : Str × Str}, TupP H4 p e0 → Hz p = some (.tup [.str e0.1, .str e0.2]) := fun {Hz mm} w {p e0} h => by
      have h : H4 p = _ := h
      exact w.1 _ _ (fun z => by rw [z, gF4] at h; cases h) (e5 _ _ h)
    have upU : ∀ {Hz H1 : Hp} {mm : Nat}, FdI K ss rs Fd U mm Hz → Same Hz H1 → Paired (TupP (nt (wo (fun b => b = Fd) H1))) qs rs := fun {Hz H1 mm} w e => by
      have u1 : Same (wo (fun b => b = Fd) U) (wo (fun b => b = Fd) H1) := wo_same fun b0 o nb hb => e _ _ (w.1 _ _ nb hb)
      have up := nt_mono u1
      exact paired_imp (fun p e1 h => up _ _ h) (prn (e4.trans e5))
    have tX : ∀ {Hz H1 : Hp} {mm : Nat} {xs : List V} {p : Addr}, FdI K ss rs Fd U mm Hz → Same Hz H1 → H1 p = some (.tup xs) → nt (wo (fun b => b = Fd) H1) p = some (.tup xs) := fun {Hz H1 mm xs p} w e h => by
      obtain ⟨_, zs, w2, _⟩ := w
      exact nt_t (wo_some.mpr ⟨(fun z => by rw [z, e _ _ w2] at h; cases h), h⟩)
    have sts : ∀ {n : Nat} {G : Hp} {xs : List V}, (∀ x ∈ xs, ∃ s : Str, x = .str s) → ∀ x ∈ xs, K1.RF (n + 1) G x x := fun h x hx => by
      obtain ⟨s, rfl⟩ := h x hx
      exact r_str _
    with_reducible refine sQ ?_
    refine ⟨_, rfl, R, _, rfl, .inl (SqL.of (w.1 _ _ RF gR5)), _, _, rfl, rfl, _, rfl, ?_⟩
    by_cases big : rs.length ≤ 1
    · rw [decide_eq_false (show ¬ ((1 : Int) < (((qs.map V.ref).length : Nat) : Int)) by rw [lqm]; omega)]
      refine iteF ?_
      exact ⟨_, rfl, fin w (by decide)⟩
    · rw [decide_eq_true (show ((1 : Int) < (((qs.map V.ref).length : Nat) : Int)) by rw [lqm]; omega)]
      refine iteT ?_
      obtain ⟨j, hj, jm, qj, aj, tj⟩ : ∃ j, ∃ hj : j < rs.length, j ≠ m ∧ ∃ qj : Addr, atI (qs.map V.ref) ((m : Int) - 1) = some (.ref qj) ∧ TupP H4 qj rs[j] := by
        cases m with
        | zero =>
          have hl : rs.length - 1 < rs.length := by omega
          obtain ⟨x, ex, tx⟩ := paired_get va4.pr hl
          refine ⟨_, hl, by omega, x, ?_, tx⟩
          exact atI_neg1 (k := rs.length - 1) (by omega) (by rw [List.getElem?_map, ex]; rfl)
        | succ m' =>
          have hl : m' < rs.length := by omega
          obtain ⟨x, ex, tx⟩ := paired_get va4.pr hl
          refine ⟨_, hl, by omega, x, ?_, tx⟩
          rw [show ((m' + 1 : Nat) : Int) - 1 = (m' : Int) by omega]
          exact atI_nat (by rw [List.getElem?_map, ex]; rfl)
      with_reducible refine sQ ?_
      obtain ⟨zs0, gz, lz, _⟩ := w.2
      refine ⟨_, rfl, .inl ⟨rfl, _, SqL.of gz⟩, ?_⟩
      refine cons_run ?_
      refine app_odd w (by decide) (mr_mid (m := m) (m2 := m + 1) (P := tupX [.str rs[j].2, .str rs[j].1]) (by rfl) (w.1 _ _ RF gR5) (by omega) (mr_v (by rfl)) (mr_backT (mr_at (by rfl) (w.1 _ _ RF gR5) (mr_sub1 (by rfl)) aj) (tU w tj)) (mr_add1 (by rfl))) (fun H1 z p e1 pz gp => ?_) fun v2 H1 zs g l fn => ⟨Fd, _, _, rfl, rfl, g, l, ?_⟩
      · obtain ⟨pz, rfl, gz⟩ := pz
        have gz' := tX w e1 gz
        refine odd_mid frs (upU w e1) lr hm gp (.inr ⟨j, ⟨_, _, ⟨pz, rfl, .inr gz'⟩, by rw [plOf_swap]; exact plOf_of frs hj⟩, hj, jm⟩) (self_tup (n := 3) gz' (by show 2 ≤ 100; decide) (sts fun x hx => ?_))
        simp only [List.mem_cons, List.not_mem_nil, or_false] at hx
        rcases hx with rfl | rfl <;> exact ⟨_, rfl⟩
      · obtain ⟨zs1, gz1, lz1, _⟩ := fn.2
        refine ⟨_, rfl, .inl ⟨rfl, _, SqL.of gz1⟩, ?_⟩
        refine cons_run ?_
        have at2 := mr_at (H0 := L2.upd H1 Fd (.lst (zs ++ [v2]))) (K := K) (te := tVar 4) (σ := [some (.ref a), some (.ref t), some (.ref p1), some (.ref R), some (.int m), some (.ref Fd), x1]) (i := 3) (by rfl) (fn.1 _ _ RF gR5) (mr_v (by rfl)) atm
        refine app_odd fn (by decide) (mr_mid (m := m) (m2 := m + 1) (P := tupX [.str rs[m].1, .str rs[m].2, .str rs[m].1]) (by rfl) (fn.1 _ _ RF gR5) (by omega) (mr_v (by rfl)) (mr_three at2 (tU fn tqm)) (mr_add1 (by rfl))) (fun H2 z p e1 pz gp => ?_) fun v3 H2 zs2 g2 l2 fn2 => ⟨Fd, _, _, rfl, rfl, g2, l2, ?_⟩
        · obtain ⟨pz, rfl, gz⟩ := pz
          have gz' := tX fn e1 gz
          refine odd_mid frs (upU fn e1) lr hm gp (.inl (.inr (.inl ⟨_, ⟨pz, rfl, .inr gz'⟩, by simp⟩))) (self_tup (n := 3) gz' (by show 3 ≤ 100; decide) (sts fun x hx => ?_))
          simp only [List.mem_cons, List.not_mem_nil, or_false] at hx
          rcases hx with rfl | rfl | rfl <;> exact ⟨_, rfl⟩
        · exact ⟨_, rfl, fin fn2 (by decide)⟩
end
end K1
end
-- XBs3
section
set_option Elab.async false
set_option linter.all false
set_option maxRecDepth 100000
set_option maxHeartbeats 2000000
namespace K1
open PySem PySem.Spec PyProof.Rows L2 W0
def dcX (kvs : List (Key × V)) : PV := fun H v => ∃ p, v = .ref p ∧ H p = some (.dK kvs)
/-- what is put in a span's place -/
def spOdd : List PV := [eqP .non, eqP (.int 5), eqP (.str "ab"), tupP [eqP (.int 1)], tupP [eqP (.int 2), eqP (.int 1)], tupP [eqP (.int 1), eqP (.str "2")], tupP [eqP (.bl true), eqP (.int 2)], tupP [eqP (.int 1), eqP (.int 2), eqP (.int 3)], lstP [lstP [eqP (.int 1)], eqP (.int 2)], dcX [(.inl 1, .int 2), (.inl 2, .int 3)]]
theorem spOdd_ok {K : PySem.W.Frag} {H : Hp} {v : V} {P : PV} (hP : P ∈ spOdd) (h : P H v) : NoSpan K H v := by
  unfold spOdd at hP
  simp only [List.mem_cons, List.not_mem_nil, or_false] at hP
  rcases hP with rfl | rfl | rfl | rfl | rfl | rfl | rfl | rfl | rfl | rfl
  · cases h
    exact .inl (noSeq_ty (.base .non) (by decide) rfl)
  · cases h
    exact .inl (noSeq_ty (.base (.int 5)) (by decide) rfl)
  · cases h
    exact .inl (noSeq_ty (.base (.str "ab")) (by decide) rfl)
  · obtain ⟨p, xs, rfl, hp, pr⟩ := h
    have := paired_eqs (ys := [.int 1]) pr
    subst this
    exact .inr (.inl ⟨_, ⟨p, rfl, .inr hp⟩, by decide⟩)
  · obtain ⟨p, xs, rfl, hp, pr⟩ := h
    have := paired_eqs (ys := [.int 2, .int 1]) pr
    subst this
    exact .inr (.inr ⟨_, _, ⟨p, rfl, .inr hp⟩, .inr ⟨2, rfl, .inr ⟨1, rfl, by decide⟩⟩⟩)
  · obtain ⟨p, xs, rfl, hp, pr⟩ := h
    have := paired_eqs (ys := [.int 1, .str "2"]) pr
    subst this
    exact .inr (.inr ⟨_, _, ⟨p, rfl, .inr hp⟩, .inr ⟨1, rfl, .inl ⟨"str", .base (.str "2"), by decide, by decide⟩⟩⟩)
  · obtain ⟨p, xs, rfl, hp, pr⟩ := h
    have := paired_eqs (ys := [.bl true, .int 2]) pr
    subst this
    exact .inr (.inr ⟨_, _, ⟨p, rfl, .inr hp⟩, .inl ⟨"bool", .base (.bl true), by decide, by decide⟩⟩)
  · obtain ⟨p, xs, rfl, hp, pr⟩ := h
    have := paired_eqs (ys := [.int 1, .int 2, .int 3]) pr
    subst this
    exact .inr (.inl ⟨_, ⟨p, rfl, .inr hp⟩, by decide⟩)
  · obtain ⟨p, xs, rfl, hp, pr⟩ := h
    cases pr with
    | cons a r =>
    cases r with
    | cons b r =>
    cases r
    cases b
    obtain ⟨p2, xs2, rfl, hp2, pr2⟩ := a
    exact .inr (.inr ⟨_, _, ⟨p, rfl, .inl hp⟩, .inl ⟨"list", .base (.lst hp2), by decide, by decide⟩⟩)
  · obtain ⟨p, rfl, hp⟩ := h
    exact .inl (noSeq_ty (.base (.dK hp)) (by decide) rfl)
end K1
end
-- XBs4
section
set_option Elab.async false
set_option linter.all false
set_option maxRecDepth 100000
set_option maxHeartbeats 2000000
namespace K1
open PySem PySem.Spec PyProof.Rows L2 W0
/-! lists put together, of at most so many things -/
abbrev LF1 := Hp → List V → Prop
def MonF (F : LF1) : Prop := ∀ H H' ws, Same H H' → F H ws → F H' ws
def lsQ (n : Nat) (F : LF1) : PV := fun H v => ∃ p ws, v = .ref p ∧ H p = some (.lst ws) ∧ ws.length ≤ n ∧ F H ws
def lsN (H0 : Hp) (n : Nat) (F : LF1) : PV := fun H v => ∃ p ws, v = .ref p ∧ H0 p = none ∧ H p = some (.lst ws) ∧ ws.length ≤ n ∧ F H ws
def catF (F1 F2 : LF1) : LF1 := fun H ws => ∃ us vs, ws = us ++ vs ∧ F1 H us ∧ F2 H vs
abbrev isF (xs : List V) : LF1 := fun _ ws => ws = xs
theorem mon_is {xs : List V} : MonF (isF xs) := fun _ _ _ _ h => h
theorem mon_cat {F1 F2 : LF1} (h1 : MonF F1) (h2 : MonF F2) : MonF (catF F1 F2) := fun H H' ws e ⟨us, vs, a, b, c⟩ => ⟨us, vs, a, h1 _ _ _ e b, h2 _ _ _ e c⟩
/-- an expression that makes a list, or names one -/
structure ML (H0 : Hp) (t : TE) (σ : L2.St) (n : Nat) (F : LF1) : Prop where
  mr : Mr H0 t σ (lsQ n F)
  mon : MonF F
/-- one that makes a new list -/
structure MLN (H0 : Hp) (t : TE) (σ : L2.St) (n : Nat) (F : LF1) : Prop where
  mr : Mr H0 t σ (lsN H0 n F)
  mon : MonF F
abbrev psF (Ps : List PV) : LF1 := fun H ws => Paired (fun v P => P H v) ws Ps
section
variable {H0 : Hp} {σ : L2.St} {t t1 t2 te : TE} {ta : TA} {K : PySem.W.Frag} {i n n1 n2 m : Nat} {R : Addr} {xs : List V} {F F1 F2 : LF1} {P : PV} {Ps : List PV}
theorem MLN.q (h : MLN H0 t σ n F) : ML H0 t σ n F :=
  ⟨⟨fun H H' v e ⟨p, ws, a, b, c, d⟩ => ⟨p, ws, a, e _ _ b, c, h.mon _ _ _ e d⟩, fun H e Q q => h.mr.run H e _ fun v H1 e1 ⟨p, ws, a, _, b, c, d⟩ => q v H1 e1 ⟨p, ws, a, b, c, d⟩⟩, h.mon⟩
theorem ml_cat (h1 : ML H0 t1 σ n1 F1) (h2 : ML H0 t2 σ n2 F2) (l : n1 + n2 ≤ 900) : MLN H0 (tOp rCat t1 t2) σ (n1 + n2) (catF F1 F2) := by
  have mm := mon_cat h1.mon h2.mon
  refine ⟨⟨fun H H' v e ⟨p, ws, a, b, c, d, f⟩ => ⟨p, ws, a, b, e _ _ c, d, mm _ _ _ e f⟩, fun H e Q q => h1.mr.run H e _ fun v1 H1 e1 ⟨p1, us, ev1, g1, l1, f1⟩ => h2.mr.run H1 (e.trans e1) _ fun v2 H2 e2 ⟨p2, vs, ev2, g2, l2, f2⟩ => ?_⟩, mm⟩
  refine ⟨p1, p2, us, vs, ev1, ev2, e2 _ _ g1, g2, Nat.le_of_lt (small1000 (by omega)), fun p3 hp3 => ?_⟩
  have e3 := K1.Same.upd (H := H2) (p := p3) (o := .lst (us ++ vs)) hp3
  exact q _ _ (e1.trans (e2.trans e3)) ⟨p3, us ++ vs, rfl, (e.trans (e1.trans e2)).free hp3, upd_same, by rw [List.length_append]; omega, us, vs, rfl, h1.mon _ _ _ (e2.trans e3) f1, h2.mon _ _ _ e3 f2⟩
theorem ml_to (h : σ[i]? = some (some (.ref R))) (hR : H0 R = some (.lst xs)) (ht : Mr H0 te σ (eqP (.int (m : Nat)))) (l : xs.length ≤ n) : MLN H0 (tSl (rSlL K) (tVar i) tNoPart (tPart te)) σ n (isF (xs.take m)) :=
  ⟨⟨fun H H' v e ⟨p, ws, a, b, c, d, f⟩ => ⟨p, ws, a, b, e _ _ c, d, f⟩, fun H e Q q => ⟨_, h, ht.run H e _ fun v H1 e1 ev => ⟨(m : Int), ev, R, xs, rfl, SqL.of ((e.trans e1) _ _ hR), fun p hp => by
    rw [cut_to]
    exact q _ _ (e1.trans (K1.Same.upd hp)) ⟨p, _, rfl, (e.trans e1).free hp, upd_same, by rw [List.length_take]; omega, rfl⟩⟩⟩⟩, mon_is⟩
theorem ml_from (h : σ[i]? = some (some (.ref R))) (hR : H0 R = some (.lst xs)) (ht : Mr H0 te σ (eqP (.int (m : Nat)))) (l : xs.length ≤ n) : MLN H0 (tSl (rSlL K) (tVar i) (tPart te) tNoPart) σ n (isF (xs.drop m)) :=
  ⟨⟨fun H H' v e ⟨p, ws, a, b, c, d, f⟩ => ⟨p, ws, a, b, e _ _ c, d, f⟩, fun H e Q q => ⟨_, h, ht.run H e _ fun v H1 e1 ev => ⟨(m : Int), ev, R, xs, rfl, SqL.of ((e.trans e1) _ _ hR), fun p hp => by
    rw [cut_from]
    exact q _ _ (e1.trans (K1.Same.upd hp)) ⟨p, _, rfl, (e.trans e1).free hp, upd_same, by rw [List.length_drop]; omega, rfl⟩⟩⟩⟩, mon_is⟩
theorem cut_but1 {xs : List V} : cutV xs none (some (-1)) = xs.take (xs.length - 1) := by
  unfold cutV
  rw [HT.sIx_none]
  simp only [List.drop_zero, Nat.sub_zero]
  congr 1
  unfold HT.sIx
  cases xs with
  | nil => rfl
  | cons x xs =>
    simp only [List.length_cons]
    first | rfl | omega | (split <;> omega)
theorem ml_but1 (h : σ[i]? = some (some (.ref R))) (hR : H0 R = some (.lst xs)) (l : xs.length ≤ n) : MLN H0 (tSl (rSlL K) (tVar i) tNoPart (tPart (tUn (rU fun i => .int (-i)) (tC (.int 1))))) σ n (isF (xs.take (xs.length - 1))) :=
  ⟨⟨fun H H' v e ⟨p, ws, a, b, c, d, f⟩ => ⟨p, ws, a, b, e _ _ c, d, f⟩, fun H e Q q => ⟨_, h, _, rfl, _, rfl, R, xs, rfl, SqL.of (e _ _ hR), fun p hp => by
    rw [show (-1 : Int) = -1 from rfl, cut_but1]
    exact q _ _ (K1.Same.upd hp) ⟨p, _, rfl, e.free hp, upd_same, by rw [List.length_take]; omega, rfl⟩⟩⟩, mon_is⟩
theorem ml_var (h : σ[i]? = some (some (.ref R))) (hR : H0 R = some (.lst xs)) (l : xs.length ≤ n) : ML H0 (tVar i) σ n (isF xs) :=
  ⟨⟨fun H H' v e ⟨p, ws, a, b, c, d⟩ => ⟨p, ws, a, e _ _ b, c, d⟩, fun H e Q q => ⟨_, h, q _ H (Same.refl _) ⟨R, xs, rfl, e _ _ hR, l, rfl⟩⟩⟩, mon_is⟩
theorem ml_ps (h : MrA H0 ta σ Ps) (l : Ps.length ≤ 900 := by exact Nat.le_of_ble_eq_true rfl) : MLN H0 (tLst ta) σ Ps.length (psF Ps) := by
  refine ⟨⟨fun H H' v e ⟨p, ws, a, b, c, d, f⟩ => ⟨p, ws, a, b, e _ _ c, d, paired_mono e h.mono f⟩, fun H e0 Q q => h.run H e0 _ fun vs H1 e1 p1 => ⟨?_, fun p hp => ?_⟩⟩, fun _ _ _ e f => paired_mono e h.mono f⟩
  · rw [p1.length]
    exact Nat.le_trans l (by decide)
  · have e := K1.Same.upd (H := H1) (p := p) (o := .lst vs) hp
    exact q _ _ (e1.trans e) ⟨p, vs, rfl, (e0.trans e1).free hp, upd_same, by rw [p1.length]; exact Nat.le_refl _, paired_mono e h.mono p1⟩
def twF (F : LF1) : LF1 := fun H ws => ∃ us, ws = us ++ us ∧ F H us
theorem ml_twice (h : ML H0 t σ 1 F) : MLN H0 (tOp rRep t (tC (.int 2))) σ 2 (twF F) := by
  refine ⟨⟨fun H H' v e ⟨p, ws, a, b, c, d, us, f, g⟩ => ⟨p, ws, a, b, e _ _ c, d, us, f, h.mon _ _ _ e g⟩, fun H e Q q => h.mr.run H e _ fun v1 H1 e1 ⟨p1, us, ev1, g1, l1, f1⟩ => ?_⟩, fun _ _ _ e ⟨us, f, g⟩ => ⟨us, f, h.mon _ _ _ e g⟩⟩
  refine ⟨p1, 2, us, ev1, rfl, g1, by decide, by decide, ?_, fun p hp => ?_⟩
  · exact Nat.le_trans (Nat.mul_le_mul l1 (Nat.le_refl _)) (by show 1 * 2 ≤ sizeLine; decide)
  · have eu : (List.replicate (2 : Int).toNat us).flatten = us ++ us := by
      show us ++ (us ++ []) = _
      rw [List.append_nil]
    rw [eu]
    have e2 := K1.Same.upd (H := H1) (p := p) (o := .lst (us ++ us)) hp
    exact q _ _ (e1.trans e2) ⟨p, _, rfl, (e.trans e1).free hp, upd_same, by rw [List.length_append]; omega, us, rfl, h.mon _ _ _ e2 f1⟩
theorem mr_pow15 : Mr H0 (tOp (rI CPow fun i j => .int (i ^ j.toNat)) (tC (.int 10)) (tC (.int 15))) σ (eqP (.int 1000000000000000)) :=
  ⟨fun _ _ _ _ h => h, fun H e Q q => ⟨_, _, rfl, rfl, ⟨by decide, by decide, by decide⟩, q _ H (Same.refl _) rfl⟩⟩
abbrev rLn (K : PySem.W.Frag) : List V → Hp → VK → Prop := fun xs H Q => ∃ p ys, xs = [.ref p] ∧ (SqL K H p ys ∨ SqT K H p ys) ∧ Q (.int ys.length) H
theorem mr_len (h : σ[i]? = some (some (.ref R))) (hR : H0 R = some (.lst xs)) : Mr H0 (tCB (rLn K) (tCons (tVar i) tNil)) σ (eqP (.int (xs.length : Nat))) :=
  ⟨fun _ _ _ _ h => h, fun H e Q q => ⟨_, h, R, xs, rfl, .inl (SqL.of (e _ _ hR)), q _ H (Same.refl _) rfl⟩⟩
theorem mr_minus1 {d : Int} (h : Mr H0 t σ (eqP (.int d))) : Mr H0 (tOp (rI0 fun i j => .int (i - j)) t (tC (.int 1))) σ (eqP (.int (d - 1))) :=
  ⟨fun _ _ _ _ h => h, fun H e Q q => h.run H e _ fun v H1 e1 ev => ⟨_, _, ev, rfl, q _ H1 e1 rfl⟩⟩
theorem mr_d2 : Mr H0 (tDisp [(tC (.int 1), tC (.int 2)), (tC (.int 2), tC (.int 3))]) σ (dcX [(.inl 1, .int 2), (.inl 2, .int 3)]) := by
  refine ⟨fun H H' v e ⟨p, a, b⟩ => ⟨p, a, e _ _ b⟩, fun H e Q q => fun p hp => ⟨upd_same, [(.inl 1, .int 2), (.inl 2, .int 3)], rfl, by decide, ?_⟩⟩
  refine q _ _ (fun b o hb => ?_) ⟨p, rfl, ?_⟩
  · have : b ≠ p := fun z => by rw [z, hp] at hb; cases hb
    rw [upd_ne this, upd_ne this]
    exact hb
  · rw [upd_same]
    rfl
end
/-! the list of what is found, told so far -/
def FdB (K : PySem.W.Frag) (rs : List (Str × Str)) (Fd : Addr) (Hs : Hp) (m : Nat) (Hc : Hp) : Prop := Kept Fd Hs Hc ∧ ∃ zs, Hc Fd = some (.lst zs) ∧ zs.length = m ∧ ∀ y ∈ zs, BadPair K rs (nt (wo (fun b => b = Fd) Hc)) y
section
variable {te : TE} {σ : L2.St} {K : PySem.W.Frag} {rs : List (Str × Str)} {Fd : Addr} {Hs Hc : Hp} {m k : Nat} {P : PV} {Q : VK}
theorem app_bad (w : FdB K rs Fd Hs m Hc) (hm : m ≤ 50) (ht : Mr Hc te σ P) (hP : ∀ H1 v, Same Hc H1 → P H1 v → BadPair K rs (nt (wo (fun b => b = Fd) H1)) v)
    (q : ∀ v H1 zs, H1 Fd = some (.lst zs) → zs.length < sizeLine → FdB K rs Fd Hs (m + 1) (L2.upd H1 Fd (.lst (zs ++ [v]))) → Q v H1) : te σ Hc Q := by
  obtain ⟨w1, zs, w2, w3, w4⟩ := w
  refine ht.run Hc (Same.refl _) _ fun v H1 e1 pv => ?_
  have lift : Same (wo (fun b => b = Fd) H1) (wo (fun b => b = Fd) (L2.upd H1 Fd (.lst (zs ++ [v])))) := wo_same fun b0 o nb hb => by rw [upd_ne nb]; exact hb
  have lift0 : Same (wo (fun b => b = Fd) Hc) (wo (fun b => b = Fd) H1) := wo_same fun b0 o nb hb => e1 _ _ hb
  refine q v H1 zs (e1 _ _ w2) (by rw [w3]; exact small1000 (by omega)) ⟨fun b o nb hb => by rw [upd_ne nb]; exact e1 _ _ (w1 _ _ nb hb), _, upd_same, by rw [List.length_append, w3]; rfl, fun y hy => ?_⟩
  rcases List.mem_append.mp hy with hy | hy
  · exact (w4 y hy).ext (nt_mono (lift0.trans lift))
  · rw [List.mem_singleton.mp hy]
    exact (hP H1 v e1 pv).ext (nt_mono lift)
theorem ext_bad (w : FdB K rs Fd Hs m Hc) (hm : m + k ≤ 50) (ht : Mr Hc te σ P) (hP : ∀ H1 v, Same Hc H1 → P H1 v → ∃ b ws, v = .ref b ∧ H1 b = some (.lst ws) ∧ ws.length = k ∧ ∀ y ∈ ws, BadPair K rs (nt (wo (fun b => b = Fd) H1)) y)
    (q : ∀ b ws H1 zs, H1 Fd = some (.lst zs) → H1 b = some (.lst ws) → zs.length + ws.length ≤ sizeLine → FdB K rs Fd Hs (m + k) (L2.upd H1 Fd (.lst (zs ++ ws))) → Q (.ref b) H1) : te σ Hc Q := by
  obtain ⟨w1, zs, w2, w3, w4⟩ := w
  refine ht.run Hc (Same.refl _) _ fun v H1 e1 pv => ?_
  obtain ⟨b, ws, rfl, gb, lw, bw⟩ := hP H1 v e1 pv
  have lift : Same (wo (fun b => b = Fd) H1) (wo (fun b => b = Fd) (L2.upd H1 Fd (.lst (zs ++ ws)))) := wo_same fun b0 o nb hb => by rw [upd_ne nb]; exact hb
  have lift0 : Same (wo (fun b => b = Fd) Hc) (wo (fun b => b = Fd) H1) := wo_same fun b0 o nb hb => e1 _ _ hb
  refine q b ws H1 zs (e1 _ _ w2) gb (by rw [w3, lw]; exact Nat.le_of_lt (small1000 (by omega))) ⟨fun b o nb hb => by rw [upd_ne nb]; exact e1 _ _ (w1 _ _ nb hb), _, upd_same, by rw [List.length_append, w3, lw], fun y hy => ?_⟩
  rcases List.mem_append.mp hy with hy | hy
  · exact (w4 y hy).ext (nt_mono (lift0.trans lift))
  · exact (bw y hy).ext (nt_mono lift)
end
/-- a pair of a thing and an int -/
theorem tup2 {P : PV} {x : V} {H : Hp} {v : V} (h : tupP [P, eqP x] H v) : ∃ p z, v = .ref p ∧ H p = some (.tup [z, x]) ∧ P H z := by
  obtain ⟨p, xs, a, b, c⟩ := h
  cases c with
  | cons c1 c2 =>
    cases c2 with
    | cons d1 d2 =>
      cases d2
      cases d1
      exact ⟨p, _, a, b, c1⟩
/-- off the list that is being filled -/
theorem off_t {H : Hp} {Fd p : Addr} {zs xs : List V} (gF : H Fd = some (.lst zs)) (h : H p = some (.tup xs)) : nt (wo (fun b => b = Fd) H) p = some (.tup xs) := nt_t (wo_some.mpr ⟨(fun z => by rw [z, gF] at h; cases h), h⟩)
theorem off_d {H : Hp} {Fd p : Addr} {zs : List V} {kvs : List (Key × V)} (gF : H Fd = some (.lst zs)) (h : H p = some (.dK kvs)) : nt (wo (fun b => b = Fd) H) p = some (.dK kvs) := nt_d (wo_some.mpr ⟨(fun z => by rw [z, gF] at h; cases h), h⟩)
theorem off_l {H : Hp} {Fd p : Addr} {xs : List V} (n : p ≠ Fd) (h : H p = some (.lst xs)) : nt (wo (fun b => b = Fd) H) p = some (.lst xs) := nt_l (wo_some.mpr ⟨n, h⟩)
/-- the first five -/
def spFive : List PV := [tupP [eqP .non, eqP (.int 0)], tupP [eqP (.int 5), eqP (.int 0)], tupP [eqP (.str "ab"), eqP (.int 0)], tupP [dicP, eqP (.int 0)], tupP [eqP (.bl true), eqP (.int 0)]]
theorem spFive_ok {K : PySem.W.Frag} {rs : List (Str × Str)} {H : Hp} {v : V} {P : PV} (hP : P ∈ spFive) (h : P H v) : BadPair K rs (nt H) v := by
  have key : ∀ {P : PV}, tupP [P, eqP (.int 0)] H v → (∀ z, P H z → NoSeq K (nt H) z) → BadPair K rs (nt H) v := fun {P} h ns => by
    obtain ⟨p, z, rfl, gp, pz⟩ := tup2 h
    exact ⟨p, z, 0, rfl, nt_t gp, bad_flat (ns z pz)⟩
  unfold spFive at hP
  simp only [List.mem_cons, List.not_mem_nil, or_false] at hP
  rcases hP with rfl | rfl | rfl | rfl | rfl
  · exact key h fun z hz => by cases hz; exact noSeq_ty (.base .non) (by decide) rfl
  · exact key h fun z hz => by cases hz; exact noSeq_ty (.base (.int 5)) (by decide) rfl
  · exact key h fun z hz => by cases hz; exact noSeq_ty (.base (.str "ab")) (by decide) rfl
  · exact key h fun z hz => by
      obtain ⟨p, rfl, hp⟩ := hz
      exact noSeq_ty (.base (.dK (nt_d hp))) (by decide) rfl
  · exact key h fun z hz => by cases hz; exact noSeq_ty (.base (.bl true)) (by decide) rfl
/-- what is put in a span's place doesn't lean on the list that is being filled -/
theorem spOdd_wo {H : Hp} {Fd : Addr} {zs : List V} (gF : H Fd = some (.lst zs)) (lz : zs.length = 5) {v : V} {P : PV} (hP : P ∈ spOdd) (h : P H v) : P (nt (wo (fun b => b = Fd) H)) v := by
  have tp : ∀ {ys : List V}, tupP (ys.map eqP) H v → tupP (ys.map eqP) (nt (wo (fun b => b = Fd) H)) v := fun {ys} ⟨p, xs, a, b, c⟩ => by
    obtain rfl := paired_eqs c
    exact ⟨p, _, a, off_t gF b, eqs_paired⟩
  have lp : ∀ {p : Addr} {ws : List V}, ws.length ≠ 5 → H p = some (.lst ws) → nt (wo (fun b => b = Fd) H) p = some (.lst ws) := fun {p ws} l b => off_l (fun z => by rw [z, gF] at b; cases b; exact l lz) b
  unfold spOdd at hP
  simp only [List.mem_cons, List.not_mem_nil, or_false] at hP
  rcases hP with rfl | rfl | rfl | rfl | rfl | rfl | rfl | rfl | rfl | rfl
  · exact h
  · exact h
  · exact h
  · exact tp (ys := [.int 1]) h
  · exact tp (ys := [.int 2, .int 1]) h
  · exact tp (ys := [.int 1, .str "2"]) h
  · exact tp (ys := [.bl true, .int 2]) h
  · exact tp (ys := [.int 1, .int 2, .int 3]) h
  · obtain ⟨p, xs, rfl, hp, pr⟩ := h
    cases pr with
    | cons a r =>
    cases r with
    | cons b r =>
    cases r
    cases b
    obtain ⟨p2, xs2, rfl, hp2, pr2⟩ := a
    have e2 := paired_eqs (ys := [.int 1]) pr2
    subst e2
    exact ⟨p, _, rfl, lp (by show 2 ≠ 5; decide) hp, .cons ⟨p2, _, rfl, lp (by show 1 ≠ 5; decide) hp2, .cons rfl .nil⟩ (.cons rfl .nil)⟩
  · obtain ⟨p, rfl, hp⟩ := h
    exact ⟨p, rfl, off_d gF hp⟩
end K1
end
-- XBs5
section
set_option Elab.async false
set_option linter.all false
set_option maxRecDepth 100000
set_option maxHeartbeats 2000000
namespace K1
open PySem PySem.Spec PyProof.Rows L2 W0
def spBs (K : PySem.W.Frag) : Sp := fun vs H Q _ => ∃ (a s : Addr) (ls : List Addr) (sps : List (Int × Int)) (rs : List (Str × Str)) (n : Nat), vs = [.ref a, .ref s] ∧ Spr H a n ∧ n + 200 ≤ 1000000 ∧ H s = some (.lst (ls.map V.ref)) ∧ s ≠ a ∧ Paired (TupI H) ls sps ∧ GoodSp sps ∧ sps.length = rs.length ∧ 1 ≤ rs.length ∧ rs.length ≤ 59 ∧
  ∀ (r : Addr) (ys : List V) (H' : Hp), Kept a H H' → Spr H' a (n + 1) → H r = none → H' r = some (.lst ys) → ys.length ≤ 100 → (∀ y ∈ ys, BadPair K rs (nt H') y) → Q (.ref r) H'
section
variable {K : PySem.W.Frag} {rs : List (Str × Str)} {ls : List Addr} {sps : List (Int × Int)} {Hc H1 : Hp} {Fd : Addr} {zs : List V} {d n : Nat} {v z : V}
/-- one put in a span's place, and a pair told of it -/
theorem pair_mid {F : LF1} (g : GoodSp sps) (pr : Paired (TupI (nt (wo (fun b => b = Fd) H1))) ls sps) (lr : sps.length = rs.length) (l59 : rs.length ≤ 59) (hd : d ≤ sps.length) (gF : Hc Fd = some (.lst zs)) (e1 : Same Hc H1) (h : tupP [lsN Hc n F, eqP (.int (d : Nat))] H1 v) (n1 : n ≤ 1000)
    (hF : ∀ ws, F H1 ws → ∃ z r, ws = (ls.map V.ref).take d ++ z :: r ∧ (sps.length = d ∨ NoSpan K (nt (wo (fun b => b = Fd) H1)) z)) : BadPair K rs (nt (wo (fun b => b = Fd) H1)) v := by
  obtain ⟨p, x, rfl, gp, l, ws, rfl, nl, gl, lw, fw⟩ := tup2 h
  obtain ⟨z, r, rfl, bad⟩ := hF ws fw
  have ln : l ≠ Fd := fun q => by rw [q, gF] at nl; cases nl
  refine ⟨p, _, d, rfl, off_t (e1 _ _ gF) gp, bad_mid g pr lr (by omega) hd ?_ (off_l ln gl) bad⟩
  rw [List.length_append, List.length_cons] at lw
  omega
end
section
variable {P : Program} {w : World} {K : PySem.W.Frag} {mg : Str → Option Value} {base : Heap}
theorem ok_Bs {f fD : Addr} {fd dd : FuncData} (F : Fun K "_law_d_bad_spans" "_law_d_bad_spans" sBs f fd) (B : Bl mg)
    (GD : FnOk P w K mg base CX0 1 fD dd ["spring", "many"] spDraw) (bD : Binds K dd ["spring", "many"] []) (kD : PySem.W.keepIn K (.ref fD) = true) (mD : mg "_law_draw" = some (.ref fD)) :
    FnOk P w K mg base CX0 2 f fd ["spring", "spans"] (spBs K) := by
  refine F.ok scBs (fun vs H Q E h => ?_) (fun cdv A outer s0 H vs Q E hr h => ?_)
  · obtain ⟨a, s, ls, sps, rs, n, rfl, _⟩ := h
    rfl
  obtain ⟨a, s, ls, sps, rs, n, rfl, hs, hn, hS, sa, pr, good, lr, pos, l59, q⟩ := h
  have nd := scBs.nd
  refine ⟨_, (pss_cons (by exact (ps_par (i := 2) (j := 3) rfl nd rfl rfl (by decide) rfl rfl (pa_cons (pe_call GD hr rfl mD kD bD .nil pass0 (pa_cons (pv 0) (pa_cons (pe_callB call_len_seq rfl B.len PySem.boot_len (pa_cons (pv 1) pa_nil)) pa_nil))) (pa_cons (pe_lst (pa_cons (pe_tup (pa_cons pe_non (pa_cons pe_int pa_nil))) (pa_cons (pe_tup (pa_cons pe_int (pa_cons pe_int pa_nil))) (pa_cons (pe_tup (pa_cons pe_str (pa_cons pe_int pa_nil))) (pa_cons (pe_tup (pa_cons pe_dnewK (pa_cons pe_int pa_nil))) (pa_cons (pe_tup (pa_cons pe_bl (pa_cons pe_int pa_nil))) pa_nil)))))) pa_nil)) (by rfl)))
    (pss_cons (by exact (ps_for PassesOwn.never rfl (by exact pi_tup (pe_tup (pa_cons pe_non (pa_cons pe_int (pa_cons pe_str (pa_cons (pe_tup (pa_cons pe_int pa_nil)) (pa_cons (pe_tup (pa_cons pe_int (pa_cons pe_int pa_nil))) (pa_cons (pe_tup (pa_cons pe_int (pa_cons pe_str pa_nil))) (pa_cons (pe_tup (pa_cons pe_bl (pa_cons pe_int pa_nil))) (pa_cons (pe_tup (pa_cons pe_int (pa_cons pe_int (pa_cons pe_int pa_nil)))) (pa_cons (pe_lst (pa_cons (pe_lst (pa_cons pe_int pa_nil)) (pa_cons pe_int pa_nil))) (pa_cons (pe_disp (pps_cons pe_int pe_int (pps_cons pe_int pe_int pps_nil)) (by rfl) (by rfl) (fun z => by cases z) (by decide)) pa_nil)))))))))))) (pg_name (i := 4) nd rfl (.inl rfl)) (pss_cons (by exact (ps_expr (pe_bm PySem.F.plainAttrs_list PySem.F.slot_list_append PySem.F.type_list_append mt_append (pv 3) (pa_cons (pe_tup (pa_cons (pe_op op_cat (pe_op op_cat (pe_slice sl_list (pv 1) po_none (po_some (pv 2))) (pe_lst (pa_cons (pv 4) pa_nil))) (pe_slice sl_list (pv 1) (po_some (pe_op op_add (pv 2) pe_int)) po_none)) (pa_cons (pv 2) pa_nil))) pa_nil))))
    (pss_one (by exact (ps_expr (pe_bm PySem.F.plainAttrs_list PySem.F.slot_list_append PySem.F.type_list_append mt_append (pv 3) (pa_cons (pe_tup (pa_cons (pe_op op_cat (pe_op op_cat (pe_op op_cat (pe_slice sl_list (pv 1) po_none (po_some (pv 2))) (pe_lst (pa_cons (pv 4) (pa_cons pe_non pa_nil)))) (pe_slice sl_list (pv 1) (po_some (pe_op op_add (pv 2) pe_int)) po_none)) (pe_lst (pa_cons (pe_tup (pa_cons pe_int (pa_cons pe_int pa_nil))) pa_nil))) (pa_cons (pv 2) pa_nil))) pa_nil))))))))
    (pss_cons (by exact (ps_expr (pe_bm PySem.F.plainAttrs_list PySem.F.slot_list_extend PySem.F.type_list_extend mt_extend (pv 3) (pa_cons (pe_lst (pa_cons (pe_tup (pa_cons (pe_slice sl_list (pv 1) po_none (po_some (pe_un un_neg pe_int))) (pa_cons (pe_op op_sub (pe_callB call_len_seq rfl B.len PySem.boot_len (pa_cons (pv 1) pa_nil)) pe_int) pa_nil))) (pa_cons (pe_tup (pa_cons (pe_op op_cat (pv 1) (pe_lst (pa_cons (pe_tup (pa_cons pe_int (pa_cons (pe_op op_pow pe_int pe_int) pa_nil))) pa_nil))) (pa_cons (pe_callB call_len_seq rfl B.len PySem.boot_len (pa_cons (pv 1) pa_nil)) pa_nil))) (pa_cons (pe_tup (pa_cons (pe_op op_cat (pv 1) (pe_lst (pa_cons pe_non pa_nil))) (pa_cons (pe_callB call_len_seq rfl B.len PySem.boot_len (pa_cons (pv 1) pa_nil)) pa_nil))) pa_nil)))) pa_nil))))
    (pss_cons (by exact (ps_if (pt_cmpR op_gt (pe_callB call_len_seq rfl B.len PySem.boot_len (pa_cons (pv 1) pa_nil)) pe_int (nomark _)) (pss_one (by exact (ps_expr (pe_bm PySem.F.plainAttrs_list PySem.F.slot_list_append PySem.F.type_list_append mt_append (pv 3) (pa_cons (pe_tup (pa_cons (pe_op op_cat (pe_op op_rep (pe_lst (pa_cons (pe_tup (pa_cons (pe_op op_pow pe_int pe_int) (pa_cons (pe_op op_pow pe_int pe_int) pa_nil))) pa_nil)) pe_int) (pe_slice sl_list (pv 1) (po_some pe_int) po_none)) (pa_cons pe_int pa_nil))) pa_nil))))) pss_nil))
    (pss_one (by exact (ps_ret (pv 3)))))))), ?_⟩
  have lls : ls.length = sps.length := pr.length
  have lm : (ls.map V.ref).length = sps.length := by rw [List.length_map, lls]
  refine ⟨_, rfl, _, rfl, s, _, rfl, .inl (SqL.of hS), a, _, n, rfl, hs, by omega, by rw [lm]; omega, ?_, fun d H2 d0 d1 k2 s2 => ?_⟩
  · refine Nat.lt_of_le_of_lt (show (((((ls.map V.ref).length : Nat) : Int))).natAbs ≤ 100 by omega) (by decide)
  have hS2 := k2 _ _ sa hS
  have pr2 : Paired (TupI H2) ls sps := paired_imp (fun p e h => k2 _ _ (fun z => by
    obtain ⟨x, y, z0, e0, _⟩ := hs
    have h : H p = _ := h
    rw [z, e0] at h
    cases h) h) pr
  refine tlst_run ?_
  refine (mr_cons (mr_tup (mr_cons (mr_c _) (mr_cons (mr_c _) mr_nil))) (mr_cons (mr_tup (mr_cons (mr_c _) (mr_cons (mr_c _) mr_nil))) (mr_cons (mr_tup (mr_cons (mr_c _) (mr_cons (mr_c _) mr_nil))) (mr_cons (mr_tup (mr_cons mr_dict (mr_cons (mr_c _) mr_nil))) (mr_cons (mr_tup (mr_cons (mr_c _) (mr_cons (mr_c _) mr_nil))) mr_nil))))).run H2 (Same.refl _) _ fun ys H3 e3 pys0 => ⟨by rw [pys0.length]; show 5 ≤ sizeLine; decide, fun Fd hFd => ⟨_, _, rfl, ?_⟩⟩
  have pys : Paired (fun v P => P H3 v) ys spFive := pys0
  have s3 := s2.same e3
  have lys : ys.length = 5 := pys.length
  obtain ⟨m, rfl⟩ : ∃ m : Nat, d = (m : Int) := ⟨d.toNat, by omega⟩
  have hm : m < sps.length := by rw [lm] at d1; omega
  have e4 := K1.Same.upd (H := H3) (p := Fd) (o := .lst ys) hFd
  have gF4 := upd_same' H3 Fd (.lst ys)
  have w4 : Same H3 (wo (fun b => b = Fd) (L2.upd H3 Fd (.lst ys))) := fun b0 o hb => wo_some.mpr ⟨(fun z => by rw [z, hFd] at hb; cases hb), e4 _ _ hb⟩
  generalize L2.upd H3 Fd (.lst ys) = H4 at e4 gF4 w4 ⊢
  have k4 : Kept a H H4 := k2.trans (Kept.same (e3.trans e4))
  have s4 := s3.same e4
  have Fa : Fd ≠ a := s3.ne hFd
  have hS4 := e4 _ _ (e3 _ _ hS2)
  have SF : s ≠ Fd := fun z => by
    have h := e3 _ _ hS2
    rw [z, hFd] at h
    cases h
  have prn : ∀ {G : Hp}, Same H3 G → Paired (TupI (nt (wo (fun b => b = Fd) G))) ls sps := fun {G} e => paired_imp (fun p e1 h => nt_t (wo_some.mpr ⟨(fun z => by have h : H3 p = _ := e3 _ _ h; rw [z, hFd] at h; cases h), e _ _ (e3 _ _ h)⟩)) pr2
  have ok4 : ∀ y ∈ ys, BadPair K rs (nt (wo (fun b => b = Fd) H4)) y := fun y hy => by
    obtain ⟨P, hP, py⟩ := paired_mem pys hy
    exact (spFive_ok hP py).ext (nt_mono w4)
  have Fd0 : H Fd = none := by
    cases e : H Fd with
    | none => rfl
    | some o =>
      by_cases z : Fd = a
      · exact absurd z Fa
      · have := e3 _ _ (k2 _ _ z e)
        rw [hFd] at this
        cases this
  refine K1.gN ?_
  with_reducible refine sQ ?_
  refine Mr.run (H0 := H4) (P := tupP spOdd) ?_ H4 (Same.refl _) _ fun T0 U e5 pt => ?_
  · refine mr_tup (Ps := spOdd) ?_
    refine mr_cons (mr_c _) (mr_cons (mr_c _) (mr_cons (mr_c _) (mr_cons (mr_tup (mr_cons (mr_c _) mr_nil)) (mr_cons ?_ (mr_cons ?_ (mr_cons ?_ (mr_cons ?_ (mr_cons ?_ (mr_cons mr_d2 mr_nil)))))))))
    · exact mr_tup (mr_cons (mr_c _) (mr_cons (mr_c _) mr_nil))
    · exact mr_tup (mr_cons (mr_c _) (mr_cons (mr_c _) mr_nil))
    · exact mr_tup (mr_cons (mr_c _) (mr_cons (mr_c _) mr_nil))
    · exact mr_tup (mr_cons (mr_c _) (mr_cons (mr_c _) (mr_cons (mr_c _) mr_nil)))
    · exact mr_lst (mr_cons (mr_lst (mr_cons (mr_c _) mr_nil)) (mr_cons (mr_c _) mr_nil))
  obtain ⟨T, ts, rfl, gT, pts⟩ := pt
  refine ⟨T, rfl, ⟨_, SqT.of gT⟩, ?_⟩
  have gF5 := e5 _ _ gF4
  have hS5 := e5 _ _ hS4
  have TF : T ≠ Fd := fun z => by rw [z, gF5] at gT; cases gT
  refine for_it walk_tup (fun i σ Hc => (∃ x1, σ = [some (.ref a), some (.ref s), some (.int m), some (.ref Fd), x1]) ∧ FdB K rs Fd U (5 + 2 * i) Hc)
    ⟨⟨_, rfl⟩, Kept.refl, ys, gF5, lys, fun y hy => (ok4 y hy).ext (nt_mono (wo_same fun b0 o nb hb => e5 _ _ hb))⟩ (fun i σ Hc _ h => SqT.of (h.2.1 _ _ TF gT)) ?_ ?_
  · rintro i v σ Hc H' hi ⟨⟨x1, rfl⟩, w⟩ ⟨rfl, hv⟩
    refine K1.gN ?_
    have hi9 : i < 10 := by have h := pts.length; have h2 : spOdd.length = 10 := rfl; rw [h2] at h; omega
    obtain ⟨P, hP, pv⟩ := paired_mem pts (List.mem_of_getElem? hv)
    have od : NoSpan K (nt (wo (fun b => b = Fd) U)) v := spOdd_ok hP (spOdd_wo gF5 lys hP pv)
    have k5 := w.1
    have hS6 := k5 _ _ SF hS5
    have upw : Same (wo (fun b => b = Fd) U) (wo (fun b => b = Fd) H') := wo_same fun b0 o nb hb => k5 _ _ nb hb
    obtain ⟨zs0, gz, lz, _⟩ := id w.2
    refine ⟨_, rfl, .inl ⟨rfl, _, SqL.of gz⟩, ?_⟩
    refine cons_run ?_
    refine app_bad w (by omega) (mr_tup (mr_cons (ml_cat (ml_cat (ml_to (m := m) (n := 59) (by rfl) hS6 (mr_v (by rfl)) (by omega)).q (ml_ps (mr_cons (mr_v (x := v) (by rfl)) mr_nil)).q (by show 59 + 1 ≤ 900; decide)).q (ml_from (m := m + 1) (n := 59) (by rfl) hS6 (mr_add1 (by rfl)) (by omega)).q (by show 59 + 1 + 59 ≤ 900; decide)).mr (mr_cons (mr_v (by rfl)) mr_nil))) (fun H1 z e1 pz => ?_) fun v2 H1 zs g l fn => ⟨Fd, _, _, rfl, rfl, g, l, ?_⟩
    · have up1 : Same (wo (fun b => b = Fd) H') (wo (fun b => b = Fd) H1) := wo_same fun b0 o nb hb => e1 _ _ hb
      have up := nt_mono (upw.trans up1)
      refine pair_mid good (paired_imp (fun p e1 h => up _ _ h) (prn (e4.trans e5))) lr l59 (by omega) gz e1 pz (by show 59 + 1 + 59 ≤ 1000; decide) fun ws fw => ?_
      obtain ⟨us, vs, rfl, ⟨us2, vs2, rfl, rfl, f2⟩, rfl⟩ := fw
      cases f2 with
      | cons f3 f4 =>
        cases f4
        cases f3
        exact ⟨v, (ls.map V.ref).drop (m + 1), by rw [List.append_assoc]; rfl, .inr (od.ext up)⟩
    · -- the second one
      obtain ⟨zs1, gz1, lz1, _⟩ := id fn.2
      have hS7 := fn.1 _ _ SF hS5
      have upw1 : Same (wo (fun b => b = Fd) U) (wo (fun b => b = Fd) (L2.upd H1 Fd (.lst (zs ++ [v2])))) := wo_same fun b0 o nb hb => fn.1 _ _ nb hb
      generalize L2.upd H1 Fd (.lst (zs ++ [v2])) = G1 at gz1 hS7 upw1 fn ⊢
      refine ⟨_, rfl, .inl ⟨rfl, _, SqL.of gz1⟩, ?_⟩
      refine cons_run ?_
      refine app_bad fn (by omega) (mr_tup (mr_cons (ml_cat (ml_cat (ml_cat (ml_to (m := m) (n := 59) (by rfl) hS7 (mr_v (by rfl)) (by omega)).q (ml_ps (mr_cons (mr_v (x := v) (by rfl)) (mr_cons (mr_c _) mr_nil))).q (by show 59 + 2 ≤ 900; decide)).q (ml_from (m := m + 1) (n := 59) (by rfl) hS7 (mr_add1 (by rfl)) (by omega)).q (by show 59 + 2 + 59 ≤ 900; decide)).q (ml_ps (mr_cons (mr_tup (mr_cons (mr_c _) (mr_cons (mr_c _) mr_nil))) mr_nil)).q (by show 59 + 2 + 59 + 1 ≤ 900; decide)).mr (mr_cons (mr_v (by rfl)) mr_nil))) (fun H2 z e1 pz => ?_) fun v3 H2 zs2 g2 l2 fn2 => ⟨Fd, _, _, rfl, rfl, g2, l2, ⟨_, rfl⟩, by rw [show 5 + 2 * (i + 1) = 5 + 2 * i + 1 + 1 by omega]; exact fn2⟩
      have up1 : Same (wo (fun b => b = Fd) G1) (wo (fun b => b = Fd) H2) := wo_same fun b0 o nb hb => e1 _ _ hb
      have up := nt_mono (upw1.trans up1)
      refine pair_mid good (paired_imp (fun p e1 h => up _ _ h) (prn (e4.trans e5))) lr l59 (by omega) gz1 e1 pz (by show 59 + 2 + 59 + 1 ≤ 1000; decide) fun ws fw => ?_
      obtain ⟨us, vs, rfl, ⟨us2, vs2, rfl, ⟨us3, vs3, rfl, rfl, f2⟩, rfl⟩, _⟩ := fw
      cases f2 with
      | cons f3 f4 =>
        cases f3
        exact ⟨v, _, by rw [List.append_assoc, List.append_assoc]; rfl, .inr (od.ext up)⟩
  · rintro σ Hc ⟨⟨x1, rfl⟩, w⟩
    rw [show ts.length = 10 from pts.length] at w
    have fin : ∀ {Hz : Hp} {mm : Nat}, FdB K rs Fd U mm Hz → mm ≤ 50 → Q (.ref Fd) Hz := fun {Hz mm} w hm => by
      obtain ⟨w1, zs, w2, w3, w4⟩ := w
      refine q Fd zs Hz (fun b0 o nb hb => ?_) ((s4.same e5).keptx Fa.symm w1) Fd0 w2 (by omega) fun y hy => (w4 y hy).ext (nt_mono wo_out)
      exact w1 _ _ (fun z => by rw [z, Fd0] at hb; cases hb) (e5 _ _ (k4 _ _ nb hb))
    have upU : ∀ {Hz H1 : Hp} {mm : Nat}, FdB K rs Fd U mm Hz → Same Hz H1 → Paired (TupI (nt (wo (fun b => b = Fd) H1))) ls sps := fun {Hz H1 mm} w e => by
      have u1 : Same (wo (fun b => b = Fd) U) (wo (fun b => b = Fd) H1) := wo_same fun b0 o nb hb => e _ _ (w.1 _ _ nb hb)
      have up := nt_mono u1
      exact paired_imp (fun p e1 h => up _ _ h) (prn (e4.trans e5))
    with_reducible refine sQ ?_
    -- three more
    obtain ⟨zs0, gz, lz, _⟩ := id w.2
    have hS6 := w.1 _ _ SF hS5
    refine ⟨_, rfl, .inl ⟨rfl, _, SqL.of gz⟩, ?_⟩
    refine cons_run ?_
    refine ext_bad (k := 3) w (by decide) (ml_ps (mr_cons (mr_tup (mr_cons (ml_but1 (n := 59) (by rfl) hS6 (by omega)).mr (mr_cons (mr_minus1 (mr_len (by rfl) hS6)) mr_nil)))
      (mr_cons (mr_tup (mr_cons (ml_cat (ml_var (n := 59) (by rfl) hS6 (by omega)) (ml_ps (mr_cons (mr_tup (mr_cons (mr_c _) (mr_cons mr_pow15 mr_nil))) mr_nil)).q (by show 59 + 1 ≤ 900; decide)).mr (mr_cons (mr_len (by rfl) hS6) mr_nil)))
      (mr_cons (mr_tup (mr_cons (ml_cat (ml_var (n := 59) (by rfl) hS6 (by omega)) (ml_ps (mr_cons (mr_c _) mr_nil)).q (by show 59 + 1 ≤ 900; decide)).mr (mr_cons (mr_len (by rfl) hS6) mr_nil))) mr_nil)))).mr (fun H1 v e1 pz => ?_) fun b ws H1 zs g gb l fn => ⟨Fd, b, _, _, rfl, rfl, g, gb, l, ?_⟩
    · obtain ⟨b, ws, rfl, nb, gb, lw, pw⟩ := pz
      have prx := upU w e1
      cases pw with
      | cons a1 pw =>
      cases pw with
      | cons a2 pw =>
      cases pw with
      | cons a3 pw =>
      cases pw
      refine ⟨b, _, rfl, gb, rfl, fun y hy => ?_⟩
      simp only [List.mem_cons, List.not_mem_nil, or_false] at hy
      rcases hy with rfl | rfl | rfl
      · obtain ⟨p, x, rfl, gp, l, ws, rfl, nl, gl, lw, fw⟩ := tup2 a1
        have ln : l ≠ Fd := fun q => by rw [q, gz] at nl; cases nl
        cases fw
        refine ⟨p, .ref l, sps.length - 1, rfl, ?_, bad_few (l := l) good prx lr (by omega) (by omega) ?_⟩
        · rw [show (((sps.length - 1 : Nat) : Int)) = (((ls.map V.ref).length : Nat) : Int) - 1 by rw [lm]; omega]
          exact off_t (e1 _ _ gz) gp
        · have := off_l ln gl
          rw [lm] at this
          exact this
      · have key : BadPair K rs (nt (wo (fun b => b = Fd) H1)) y := by
          rw [lm] at a2
          refine pair_mid (d := sps.length) good prx lr l59 (Nat.le_refl _) gz e1 a2 (by show 59 + 1 ≤ 1000; decide) fun ws fw => ?_
          obtain ⟨us, vs, rfl, rfl, f2⟩ := fw
          cases f2 with
          | cons f3 f4 =>
            cases f4
            exact ⟨_, [], by rw [List.take_of_length_le (by omega)], .inl rfl⟩
        exact key
      · have key : BadPair K rs (nt (wo (fun b => b = Fd) H1)) y := by
          rw [lm] at a3
          refine pair_mid (d := sps.length) good prx lr l59 (Nat.le_refl _) gz e1 a3 (by show 59 + 1 ≤ 1000; decide) fun ws fw => ?_
          obtain ⟨us, vs, rfl, rfl, f2⟩ := fw
          cases f2 with
          | cons f3 f4 =>
            cases f4
            exact ⟨_, [], by rw [List.take_of_length_le (by omega)], .inl rfl⟩
        exact key
    · -- one date twice
      obtain ⟨zs1, gz1, lz1, _⟩ := id fn.2
      have hS7 := fn.1 _ _ SF hS5
      generalize L2.upd H1 Fd (.lst (zs ++ ws)) = G1 at gz1 hS7 fn ⊢
      with_reducible refine sQ ?_
      refine ⟨_, rfl, s, _, rfl, .inl (SqL.of hS7), _, _, rfl, rfl, _, rfl, ?_⟩
      by_cases big : rs.length ≤ 1
      · rw [decide_eq_false (show ¬ ((1 : Int) < (((ls.map V.ref).length : Nat) : Int)) by rw [lm]; omega)]
        refine iteF ?_
        exact ⟨_, rfl, fin fn (by decide)⟩
      · rw [decide_eq_true (show ((1 : Int) < (((ls.map V.ref).length : Nat) : Int)) by rw [lm]; omega)]
        refine iteT ?_
        refine ⟨_, rfl, .inl ⟨rfl, _, SqL.of gz1⟩, ?_⟩
        refine cons_run ?_
        refine app_bad fn (by decide) (mr_tup (mr_cons (ml_cat (ml_twice (ml_ps (mr_cons (mr_tup (mr_cons mr_pow15 (mr_cons mr_pow15 mr_nil))) mr_nil)).q).q (ml_from (m := 2) (n := 59) (by rfl) hS7 (mr_c _) (by omega)).q (by show 2 + 59 ≤ 900; decide)).mr (mr_cons (mr_c _) mr_nil))) (fun H2 z e1 pz => ?_) fun v3 H2 zs2 g2 l2 fn2 => ⟨Fd, _, _, rfl, rfl, g2, l2, ?_⟩
        · obtain ⟨p, x, rfl, gp, l, ws2, rfl, nl, gl, lw, fw⟩ := tup2 pz
          have ln : l ≠ Fd := fun q => by rw [q, gz1] at nl; cases nl
          obtain ⟨us, vs, rfl, ⟨us2, rfl, f2⟩, rfl⟩ := fw
          cases f2 with
          | cons f3 f4 =>
            cases f4
            obtain ⟨u, xs, rfl, gu, px⟩ := f3
            have e2 := paired_eqs (ys := [.int 1000000000000000, .int 1000000000000000]) px
            subst e2
            refine ⟨p, _, 1, rfl, off_t (e1 _ _ gz1) gp, bad_twice (u := 1000000000000000) (r := (ls.map V.ref).drop 2) (by omega) (by rw [List.length_drop]; omega) (off_l ln gl) (off_t (e1 _ _ gz1) gu)⟩
        · exact ⟨_, rfl, fin fn2 (by decide)⟩
end
end K1
end
-- XSh
section
set_option Elab.async false
set_option linter.all false
set_option maxRecDepth 100000
set_option maxHeartbeats 2000000
namespace K1
open PySem PySem.Spec PyProof.Rows L2 W0 Wr
def spI (e : Int × Int) : List V := [.int e.1, .int e.2]
/-- spans as they may be handed: lists, tuples; not at Z -/
def HandS (K : PySem.W.Frag) (H : Hp) (Z : Addr → Prop) (y : V) (sps : List (Int × Int)) : Prop := SeqR (SeqR (Flat0 K)) (wo Z H) y (sps.map spI)
theorem spa_of {K : PySem.W.Frag} {H : Hp} : ∀ {vs : List V} {sps : List (Int × Int)}, Paired (SeqR (Flat0 K) H) vs (sps.map spI) → Paired (SpaV H) vs sps
  | _, [], .nil => .nil
  | _, e :: sps, .cons a r => by
    obtain ⟨vs, sv, _, pr⟩ := a
    have ev := flat_eq pr
    subst ev
    exact .cons sv (spa_of r)
theorem hand_sps {K : PySem.W.Frag} {H : Hp} {Z : Addr → Prop} {y : V} {sps : List (Int × Int)} (h : HandS K H Z y sps) : SpsV (wo Z H) y sps := by
  obtain ⟨vs, sv, _, pr⟩ := h
  exact ⟨vs, sv, spa_of pr⟩
/-- how a span is shown -/
def SpD (d : PyData) : Prop := ∃ i j : Int, i.natAbs ≤ 1000000000000000 ∧ j.natAbs ≤ 1000000000000000 ∧ (d = .list [.int i, .int j] ∨ d = .tuple [.int i, .int j])
theorem int_small {v : Int} (h : v.natAbs ≤ 1000000000000000) : PyData.showable (.int v) = true ∧ PyData.leavesShort 30 (.int v) = true ∧ PyData.weight (.int v) ≤ 60 := by
  have lg : v.natAbs.log2 < 60 := by
    by_cases z : v.natAbs = 0
    · rw [z]; decide
    · exact (Nat.log2_lt z).mpr (by omega)
  have lv : (PyData.shown (.int v)).length ≤ 30 := by
    have h1 := int_text_length_le10 (a := v) (k := 18) (by decide) (by omega)
    have h2 : PyData.shown (.int v) = Str.ofString (toString v) := by simp only [PyData.shown]
    rw [h2, PySem.ofString_length]
    omega
  refine ⟨decide_eq_true (by omega), by simp only [PyData.leavesShort, lv, decide_true], ?_⟩
  simp only [PyData.weight]
  split <;> omega
theorem spd_all : ∀ {ds : List PyData}, (∀ d ∈ ds, SpD d) → PyData.showableAll ds = true ∧ PyData.leavesShortAll 30 ds = true ∧ PyData.weightAll ds ≤ 200 * ds.length ∧ PyData.hasDictAll ds = false ∧ PyData.depthAll ds ≤ 1
  | [], _ => ⟨rfl, by simp only [PyData.leavesShortAll], Nat.zero_le _, rfl, Nat.zero_le _⟩
  | d :: ds, h => by
    obtain ⟨a, b, c, e, f⟩ := spd_all fun x hx => h x (List.mem_cons_of_mem _ hx)
    obtain ⟨i, j, hi, hj, hd⟩ := h d (List.mem_cons_self ..)
    obtain ⟨i1, i2, i3⟩ := int_small hi
    obtain ⟨j1, j2, j3⟩ := int_small hj
    have key : PyData.showable d = true ∧ PyData.leavesShort 30 d = true ∧ PyData.weight d ≤ 190 ∧ PyData.hasDict d = false ∧ PyData.depth d ≤ 1 := by
      rcases hd with rfl | rfl
      · refine ⟨?_, ?_, ?_, rfl, by simp [PyData.depth, PyData.depthAll]⟩
        · show (PyData.showable (.int i) && (PyData.showable (.int j) && true)) = true
          rw [i1, j1]; rfl
        · simp only [PyData.leavesShort, PyData.leavesShortAll, Bool.and_true, Bool.and_eq_true] at i2 j2 ⊢
          exact ⟨i2, j2⟩
        · show PyData.weight (.int i) + 1 + (PyData.weight (.int j) + 1 + 0) ≤ 190
          omega
      · refine ⟨?_, ?_, ?_, rfl, by simp [PyData.depth, PyData.depthAll]⟩
        · show (PyData.showable (.int i) && (PyData.showable (.int j) && true)) = true
          rw [i1, j1]; rfl
        · simp only [PyData.leavesShort, PyData.leavesShortAll, Bool.and_true, Bool.and_eq_true] at i2 j2 ⊢
          exact ⟨i2, j2⟩
        · show PyData.weight (.int i) + 1 + (PyData.weight (.int j) + 1 + 0) ≤ 190
          omega
    obtain ⟨k1, k2, k3, k4, k5⟩ := key
    refine ⟨?_, ?_, ?_, ?_, ?_⟩
    · show (PyData.showable d && PyData.showableAll ds) = true
      rw [k1, a]; rfl
    · simp only [PyData.leavesShortAll, k2, b, Bool.and_self]
    · show PyData.weight d + 1 + PyData.weightAll ds ≤ 200 * (ds.length + 1)
      omega
    · show (PyData.hasDict d || PyData.hasDictAll ds) = false
      rw [k4, e]; rfl
    · show max (PyData.depth d) (PyData.depthAll ds) ≤ 1
      exact Nat.max_le.mpr ⟨k5, f⟩
theorem spd_list {ds : List PyData} (h : ∀ d ∈ ds, SpD d) (l : ds.length ≤ 60) {d : PyData} (hd : d = .list ds ∨ d = .tuple ds) : d.showable = true ∧ d.hasDict = false ∧ d.depth ≤ 60 ∧ d.shown.length ≤ sizeLine := by
  obtain ⟨a, b, c, e, f⟩ := spd_all h
  rcases hd with rfl | rfl
  · refine ⟨a, e, by show PyData.depthAll ds + 1 ≤ 60; omega, ?_⟩
    have h := PyData.shown_le 30 (by decide) (.list ds) (by simp only [PyData.leavesShort]; exact b)
    have w : PyData.weight (.list ds) = PyData.weightAll ds := by simp only [PyData.weight]
    rw [w] at h
    rw [sizeLine_eq]
    omega
  · refine ⟨a, e, by show PyData.depthAll ds + 1 ≤ 60; omega, ?_⟩
    have h := PyData.shown_le 30 (by decide) (.tuple ds) (by simp only [PyData.leavesShort]; exact b)
    have w : PyData.weight (.tuple ds) = PyData.weightAll ds := by simp only [PyData.weight]
    rw [w] at h
    rw [sizeLine_eq]
    omega
theorem spd_of {K : PySem.W.Frag} {H : Hp} : ∀ {vs : List V} {sps : List (Int × Int)}, Paired (SpaV H) vs sps → SmallSp sps → ∃ ds, (∀ d ∈ ds, SpD d) ∧ ds.length = sps.length ∧ ∀ H', Same H H' → DpAll K H' vs ds
  | _, [], .nil, _ => ⟨[], fun d hd => absurd hd (by simp), rfl, fun _ _ => .nil⟩
  | _, e :: sps, .cons a r, sm => by
    obtain ⟨ds, g, l, dp⟩ := spd_of (K := K) r fun x hx => sm x (List.mem_cons_of_mem _ hx)
    obtain ⟨s1, s2⟩ := sm e (List.mem_cons_self ..)
    obtain ⟨p, rfl, hp⟩ := a
    have two : ∀ {H' : Hp}, DpAll K H' [.int e.1, .int e.2] [.int e.1, .int e.2] := .cons (.int _) (.cons (.int _) .nil)
    rcases hp with hp | hp
    · refine ⟨.list [.int e.1, .int e.2] :: ds, fun d hd => ?_, by rw [List.length_cons, l]; rfl, fun H' e' => .cons (.lst (SqL.of (e' _ _ hp)) two) (dp H' e')⟩
      rcases List.mem_cons.mp hd with rfl | hd
      · exact ⟨_, _, s1, s2, .inl rfl⟩
      · exact g d hd
    · refine ⟨.tuple [.int e.1, .int e.2] :: ds, fun d hd => ?_, by rw [List.length_cons, l]; rfl, fun H' e' => .cons (.tup (SqT.of (e' _ _ hp)) two) (dp H' e')⟩
      rcases List.mem_cons.mp hd with rfl | hd
      · exact ⟨_, _, s1, s2, .inr rfl⟩
      · exact g d hd
/-- spans that were handed: what repr tells of them -/
theorem sps_show {K : PySem.W.Frag} {H : Hp} {y : V} {sps : List (Int × Int)} (h : SpsV H y sps) (sm : SmallSp sps) (l : sps.length ≤ 59) :
    ∃ (b : Addr) (d : PyData), y = .ref b ∧ d.showable = true ∧ d.hasDict = false ∧ d.depth ≤ 60 ∧ d.shown.length ≤ sizeLine ∧ ∀ H', Same H H' → Dp K H' y d := by
  obtain ⟨vs, ⟨b, rfl, hb⟩, pr⟩ := h
  obtain ⟨ds, g, l2, dp⟩ := spd_of (K := K) pr sm
  rcases hb with hb | hb
  · obtain ⟨a1, a2, a3, a4⟩ := spd_list g (by omega) (.inl rfl : PyData.list ds = .list ds ∨ _)
    exact ⟨b, .list ds, rfl, a1, a2, a3, a4, fun H' e => .lst (SqL.of (e _ _ hb)) (dp H' e)⟩
  · obtain ⟨a1, a2, a3, a4⟩ := spd_list g (by omega) (.inr rfl : PyData.tuple ds = .list ds ∨ _)
    exact ⟨b, .tuple ds, rfl, a1, a2, a3, a4, fun H' e => .tup (SqT.of (e _ _ hb)) (dp H' e)⟩
end K1
end
-- WSortK
section
set_option Elab.async false
set_option linter.all false
set_option maxRecDepth 100000
set_option maxHeartbeats 2000000
/-! sorted(xs, key=lambda v: d[v]): d a dict keyed by tuples that the lambda captured, its values pairs of ints -/
namespace SrtKd
open PySem PySem.Spec PyProof.Rows L2 LamX NdefX Wr LamP
theorem key_turn {P : Program} {w : World} {K : PySem.W.Frag} {A : Around} {s : Shared} {H : Hp} {g d t l cc : Addr} {F : LF} {N : List Str} {i j : Int} {kn v : Str} {p1 p2 p3 : Pos} (S : NScope N [v] [kn] F.sc) (hbd : F.bd = .Subscript (.Name kn p1) (.Name v p2) p3)
    (bnd : ∀ (pm ctv : Value) (us : List Value), us.length = 1 → bindArgs (PySem.W.kla_fn "<lambda>" F.q F.pa F.bd F.sc F.cl pm (.ref F.c) ctv) ⟨us, []⟩ = pure ([v].zip us)) (hdep : A.depth < recursionLimit) (hu : A.units + 8 < cLine) (limit : s.heap.NoLimit) (hok : HOk P w H s.heap)
    (la : LamAt s.heap g F) (hc : H F.c = some (CodeO F.c F.q)) (cell : F.cl.lookup kn = some cc) (isc : s.heap.IsCell cc (some (.ref d))) (gd : DGet H d (.ref t) (some (.ref l))) (hl : H l = some (.tup [.int i, .int j]))
    (b1 : (kn == ("__debug__" : Str)) = false) (b2 : (kn == ("__classdict__" : Str)) = false) (b3 : (v == ("__debug__" : Str)) = false) :
    wpAny (model P w) A (call (.ref g) [.ref t]) (PySem.W.KeyPure (.tuple [.int i, .int j]) s) (fun _ _ => False) s := by
  obtain ⟨pm, ctv, ho⟩ := la
  refine wpAny_call (PySem.W.kla_callFunE hdep ho rfl S.co S.gen rfl (codeO_at hok hc) ?_)
  rw [bnd pm ctv [.ref t] rfl]
  refine wpAny_pure (wpAny_newFunctionEnv S.nocell (fun y hy => S.par y.1 (List.of_mem_zip (show (y.1, y.2) ∈ [v].zip [Value.ref t] from hy)).1) (fun h2 ns sb => ⟨limit.fresh _ sb, ?_⟩) S.kind)
  have stays : ∀ b o, s.heap.get? b = some o → h2.get? b = some o := fun b o e => sb.extBut b o (fun z => Nat.lt_irrefl _ (z ▸ Heap.lt_size e)) (Heap.get?_push_of_some _ e)
  have hok2 : HOk P w H h2 := hok.kept stays
  obtain ⟨oc, ec, dc⟩ := isc
  have isc2 : h2.IsCell cc (some (.ref d)) := ⟨oc, stays _ _ ec, dc⟩
  refine PySem.W.kla_codeExpr ?_
  show wpAny _ _ (eval F.bd _) _ _ _
  rw [hbd]
  rcases gd with ⟨kvs, k, e, ey, lv⟩ | ⟨kvs, k, b, e, ey, eb, lv⟩
  · cases k <;> cases ey
  cases ey
  obtain ⟨z, hd, xs, rel, dd⟩ := dt_rd hok2 e
  refine subD_of PySem.F.slot_dict_getitem.lookup (fun _ _ => rfl) (wpAny_Name (wpAny_loadName_free S.kind (S.frk kn (List.mem_singleton.mpr rfl)) cell isc2 ?_ b2) b1)
  refine wpAny_Name (wpAny_loadName_local S.kind (S.par v (List.mem_singleton.mpr rfl)) ns (by
    show List.lookup v [(v, Value.ref t)] = some (Value.ref t)
    simp [List.lookup]) ?_) b3
  obtain ⟨w', hw, rw'⟩ := RelO.some_of (v := .ref l) (o := (PySem.atKey xs k).map (·.2)) (by rw [lv]; exact rel.val k)
  obtain ⟨p, hp, hp2⟩ := Option.map_eq_some_iff.mp hw
  refine ⟨dd.typeIs, wpAny_getItem_heap (tupleKind_room_in1 (by show A.units + 3 + 1 < cLine; omega)) (key_of hok2 eb) dd hp ?_⟩
  rw [hp2]
  cases (show w' = Value.ref l from rw')
  obtain ⟨_, its, r, o, h1, h2', n, h3⟩ := (show ObjOk P w H h2 l (.tup [.int i, .int j]) from hok2 l _ hl)
  refine ⟨h2, _, rfl, stays, ?_⟩
  cases r with
  | cons r1 r2 =>
    cases r2 with
    | cons r3 r4 =>
      cases r4
      obtain ⟨t1, rfl⟩ := r1
      obtain ⟨t2, rfl⟩ := r3
      exact Reads.tuple h1 h2' h3 (ReadsAll.cons (Reads.int i t1) (ReadsAll.cons (Reads.int j t2) ReadsAll.nil))
/-- .. -/
theorem rd_extN {H H' : Hp} {a : Addr} {u : HO} (e : ExtN H H') (n : ∀ ps, u ≠ .tbl ps) (h : Rd H a u) : Rd H' a u := by
  rcases h with h | ⟨o, h⟩
  · exact .inl (e _ _ h n)
  · exact .inr ⟨o, e _ _ h fun ps z => by cases z⟩
theorem dget_extN {H H' : Hp} {d : Addr} {y : V} {r : Option V} (e : ExtN H H') (h : DGet H d y r) : DGet H' d y r := by
  rcases h with ⟨kvs, k, a, b, c⟩ | ⟨kvs, k, b, a, b', c, d'⟩
  · exact .inl ⟨kvs, k, rd_extN e (fun _ z => by cases z) a, b, c⟩
  · exact .inr ⟨kvs, k, b, rd_extN e (fun _ z => by cases z) a, b', e _ _ c (fun _ z => by cases z), d'⟩
theorem vals_each {us : List V} {out : List Value} (h : PySem.W.EachIs (fun (v : Value) (x : V) => RelV x v) out us) : Vals us out := by
  induction h with
  | nil => exact .nil
  | cons a _ ih => exact .cons a ih
theorem each_vals {us : List V} {out : List Value} (h : Vals us out) : PySem.W.EachIs (fun (v : Value) (x : V) => RelV x v) out us := by
  induction h with
  | nil => exact .nil
  | cons a _ ih => exact .cons a ih
/-- the order of pairs -/
abbrev lexL (p q : Int × Int) : Prop := p.1 < q.1 ∨ (p.1 = q.1 ∧ p.2 ≤ q.2)
def tSortK (T : List (Addr × Str)) (K : PySem.W.Frag) (jd : Nat) (te : TE) : TE := fun σ H Q => te σ H fun x H1 => Tabs T H1 ∧ ∃ (a d : Addr) (us : List V) (f : V → Int × Int), [x] = [V.ref a] ∧ H1 a = some (.lst us) ∧ us.length ≤ 1000 ∧ σ[jd]? = some (some (.ref d)) ∧
  (∀ u ∈ us, ∃ t l, u = .ref t ∧ DGet H1 d u (some (.ref l)) ∧ H1 l = some (.tup [.int (f u).1, .int (f u).2])) ∧
  ∀ (p : Addr) (us' : List V) (H2 : Hp), ExtN H1 H2 → Tabs T H2 → H2 p = none → us'.Perm us → us'.Pairwise (fun x y => lexL (f x) (f y)) → Q (.ref p) (upd H2 p (.lst us'))
theorem kw_zip (k : Str) (v : Value) : [k].zip [v] = [(k, v)] := rfl
section
variable {X : Cx} {k jd : Nat} {kn v : Str} {p lp p1 p2 p3 pos kpos : Pos} {e : Expr} {te : TE} {T : List (Addr × Str)} {c P : Addr} {pa : Arguments} {bd : Expr} {sc : Scope} {N : List Str}
theorem pe_sortK (rm : Room 2 X.A) (hg : Gl X "sorted") (hm : X.mg "sorted" = none) (TB : TabB X.base X.mg c P) (hcode : X.env.code = .ref c) (hmT : (P, X.env.qual ++ "<lambda>") ∈ T) (hu : ∀ p ∈ T, p.1 = P → p.2 = X.env.qual ++ "<lambda>") (hdef : defaultsOf pa X.env = ([], []))
    (hfree : ∀ y ∈ sc.names, y.2 = .free → X.env.scope.names.lookup y.1 = some .cell ∨ X.env.scope.names.lookup y.1 = some .free) (hfr : (kn, NameKind.free) ∈ sc.names) (hj : X.N[jd]? = some kn) (own : ∀ y, X.fn y = true)
    (S : NScope N [v] [kn] sc) (hbd : bd = .Subscript (.Name kn p1) (.Name v p2) p3)
    (bnd : ∀ (q : Str) (cl : List (Str × Addr)) (c : Addr) (pm ctv : Value) (us : List Value), us.length = 1 → bindArgs (PySem.W.kla_fn "<lambda>" q pa bd sc cl pm (.ref c) ctv) ⟨us, []⟩ = pure ([v].zip us))
    (ha : PE X e te) (b1 : (kn == ("__debug__" : Str)) = false := by decide) (b2 : (kn == ("__classdict__" : Str)) = false := by decide) (b3 : (v == ("__debug__" : Str)) = false := by decide)
    (he : backTo pos (starEach [e] X.env) = (false, eval e X.env) :: backTo pos (starEach [] X.env) := by rfl) (hpl : (backTo pos (starEach [e] X.env)).any (·.1) = false := by rfl) (hs : starEach [e] X.env = (false, eval e X.env) :: starEach [] X.env := by rfl) :
    PE X (.Call (.Name "sorted" p) [e] [⟨some "key", .Lambda pa bd sc lp, kpos⟩] pos) (tSortK T X.K jd te) := by
  refine ⟨fun pins s σ H Q I h => ?_⟩
  refine wpAny_Call_Name_kw (ld_blt I hg hm (by decide +kernel : bootBuiltins "sorted" = some (.builtin "sorted")) ?_ (by decide) (by decide))
  refine PyProof.Rows.callWith_kw (thn ((pa_cons ha pa_nil hs).run pos pins s σ H (fun vs H1 => Tabs T H1 ∧ ∃ (a d : Addr) (us : List V) (f : V → Int × Int), vs = [.ref a] ∧ H1 a = some (.lst us) ∧ us.length ≤ 1000 ∧ σ[jd]? = some (some (.ref d)) ∧
    (∀ u ∈ us, ∃ t l, u = .ref t ∧ DGet H1 d u (some (.ref l)) ∧ H1 l = some (.tup [.int (f u).1, .int (f u).2])) ∧
    ∀ (p : Addr) (us' : List V) (H2 : Hp), ExtN H1 H2 → Tabs T H2 → H2 p = none → us'.Perm us → us'.Pairwise (fun x y => lexL (f x) (f y)) → Q (.ref p) (upd H2 p (.lst us'))) I ?_) fun us0 s1 ⟨vs, H1, I1, r1, hT, a, d, us, f, ev, ha1, l1, hd, hk, q⟩ => ?_) he hpl rfl rfl
  · exact h
  subst ev
  show wpAny _ _ (evalAll ((do let v ← eval (.Lambda pa bd sc lp) X.env; standAt pos; pure v) :: [])) _ _ s1
  refine wpAny_evalAll_cons (wpAny_bind (lam_make2 I1 TB hcode hmT hu hT hdef (fun y hy e => (hfree y hy e).elim (fun z => I1.ok.has _ (.inl z)) fun z => I1.ok.has _ (.inr z)) fun g c2 pm ctv H2 s2 I2 eN T2 hg2 un2 off2 hc2 => wpAny_bind (wpAny_standAt (wpAny_pure (wpAny_evalAll_nil ?_)))))
  obtain rfl := Vals.ref1 r1
  show wpAny _ _ (call (.builtin "sorted") [.ref a] [(Str.ofString "key", .ref g)]) _ _ s2
  have ha2 := eN _ _ ha1 (fun _ z => by cases z)
  obtain ⟨its, rv, hl, hz⟩ := I2.list (SqL.of ha2)
  have cp := Caps.made (fr := [kn]) (js := [jd]) I2.ok hfree (fun y hy => by rw [List.mem_singleton.mp hy]; exact hfr) (by show [X.N[jd]?] = [some kn]; rw [hj])
  obtain ⟨cc, hcl, hcc⟩ := (cells_of I2 cp).has 0 kn rfl
  have sl : NdefX.slotAt σ jd = some (.ref d) := by
    unfold NdefX.slotAt
    rw [hd]
  obtain ⟨u0, ru0, isc⟩ := hcc (.ref d) (by show some (NdefX.slotAt σ jd) = _; rw [sl])
  cases (show u0 = Value.ref d from ru0)
  refine PySem.W.sorted_key_data (b := false) (R := fun (v : Value) (x : V) => RelV x v) (fun x : V => .tuple [.int (f x).1, .int (f x).2]) hl.isList (each_vals rv) (PySem.W.AllAlike.of fun _ _ => by simp [PySem.W.alike, PySem.W.alikeAll]) (PySem.W.Sortable.tuples fun _ => ⟨_, _, rfl⟩) (Nat.le_trans l1 (by decide)) (fun x _ => ?_) (PyProof.Rows.ksk_s1 _ _) (fun _ => PyProof.Rows.ksk_l1 _ _) (fun _ => PyProof.Rows.ksk_t1 _ _) (fun v x rx hx h tk kp => ?_) fun out c h' tk kp fr hD lo eo => ?_
  · have hdp : (PyData.tuple [.int (f x).1, .int (f x).2]).depth = 1 := by simp [PyData.depth, PyData.depthAll]
    have := rm.units
    omega
  · obtain ⟨t, l, rfl, gd, gl⟩ := hk x hx
    cases (show v = Value.ref t from rx)
    refine key_turn (K := X.K) (F := ⟨X.env.qual ++ "<lambda>", pa, bd, sc, cloFrom X.env.cells sc.names [], c2⟩) (H := H2) S hbd (fun pm ctv us hl => bnd _ _ _ pm ctv us hl) ?_ ?_ ?_ (I2.hok.kept kp) ⟨pm, ctv, kp _ _ hg2⟩ hc2 hcl ?_ (dget_extN eN gd) (eN _ _ gl (fun _ z => by cases z)) b1 b2 b3
    · have := rm.dp
      show X.A.depth < recursionLimit
      omega
    · have := rm.un
      show X.A.units + 1 + 1 + 8 < cLine
      omega
    · exact I2.ok.mod.nolimit.keeps fun b o e => kp b o (I2.bk b o e)
    · obtain ⟨oc, ec, dc⟩ := isc
      exact ⟨oc, kp _ _ ec, dc⟩
  · rw [PySem.W.dataLe_ii (β := V) (fun x => (f x).1) (fun x => (f x).2)] at eo
    have vv := vals_each eo
    have pm := List.mergeSort_perm us (fun p q => decide ((f p).1 < (f q).1 ∨ ((f p).1 = (f q).1 ∧ (f p).2 ≤ (f q).2)))
    refine ⟨.ref _, upd H2 (s2.heap.objs.size + 1) (.lst _), I2.laid (t' := tk) kp (Nat.le_succ _) ⟨by rw [pm.length_eq]; exact hz, out, c, vv, hD⟩, rfl, q _ _ H2 eN T2 (I2.hok.fresh (Nat.le_succ _)) pm ?_⟩
    have := List.pairwise_mergeSort (le := fun p q => decide ((f p).1 < (f q).1 ∨ ((f p).1 = (f q).1 ∧ (f p).2 ≤ (f q).2))) (fun x y z h1 h2 => ?_) (fun x y => ?_) us
    · exact this.imp fun h => of_decide_eq_true h
    · have h1 := of_decide_eq_true h1
      have h2 := of_decide_eq_true h2
      exact decide_eq_true (by omega)
    · by_cases h : (f x).1 < (f y).1 ∨ ((f x).1 = (f y).1 ∧ (f x).2 ≤ (f y).2)
      · rw [decide_eq_true h]; rfl
      · rw [Bool.or_eq_true]
        right
        exact decide_eq_true (by omega)
end
end SrtKd
end
-- XMt
section
set_option Elab.async false
set_option linter.all false
set_option maxRecDepth 100000
set_option maxHeartbeats 1000000
namespace K1
open PySem PySem.Spec PyProof.Rows L2 W0
abbrev sMt : Stmt := top 61
structure MetW (K : PySem.W.Frag) (mg : Str → Option Value) (CV CC : Addr) : Prop where
  mV : mg "BadSpans" = some (.ref CV)
  mC : mg "BadEvening" = some (.ref CC)
  vv : PySem.W.exmOne K (.ref CV) (.ref CV) = some true
  cv : PySem.W.exmOne K (.ref CC) (.ref CV) = some false
  cc : PySem.W.exmOne K (.ref CC) (.ref CC) = some true
  xV : XfC K CV
  xC : XfC K CC
  iV : PySem.W.findIn K (.ref CV) "index" = some none
  iC : PySem.W.findIn K (.ref CC) "evening" = some none
/-- what an asker is told, or how it is refused -/
def XMet (CV CC : Addr) (Q : VK) : XK := fun cls d H' => (cls = .ref CV ∧ ∃ dd v, d = some dd ∧ H' dd = some (.xd [("index", v)]) ∧ ∀ p, H' p = none → Q (.ref p) (upd H' p (.tup [.str "spans", v]))) ∨
  (cls = .ref CC ∧ ∃ dd v, d = some dd ∧ H' dd = some (.xd [("evening", v)]) ∧ ∀ p, H' p = none → Q (.ref p) (upd H' p (.tup [.str "evening", v])))
def TMt (CV CC : Addr) : (XK → Hp → VK → Prop) → Hp → VK → Prop := fun tl H Q =>
  tl (XMet CV CC Q) H (fun v H1 => [V.str "told", v].length ≤ sizeLine ∧ ∀ p, H1 p = none → Q (.ref p) (upd H1 p (.tup [.str "told", v])))
theorem scMt : FnScope ["ask", "e"] ["ask"] (defScope sMt) := ⟨rfl, rfl, rfl, by decide +kernel, rfl, by decide +kernel, by decide +kernel⟩
theorem set_get {α : Type} {l : List α} {i : Nat} {x : α} (h : i < l.length) : (l.set i x)[i]? = some x := by rw [List.getElem?_set_self h]
theorem mt_gives {X : Cx} {g CV CC : Addr} {cdg : Value} {q : Str} (F : MetW X.K X.mg CV CC) : LamX.GivesTo X ["ask", "e"] "_law_met" (defScope sMt) g cdg (defBody sMt) "ask" q (TMt CV CC) := by
  intro f c' s H Q tl act hc h
  have nd := scMt.nd
  refine ⟨_, pss_one (ps_try_some (i := 1) (X := (cxOf C8.CX0 X.prog X.w X.K X.mg X.base ["ask", "e"] "_law_met" (defScope sMt) g cdg X.A X.stack s H C8.E0).nox)
      (l := [(.ref CV, fun a cls d => tRet (tTup (tCons (tC (.str "spans")) (tCons (tXf a cls d CV "index" (tVar 1)) tNil)))), (.ref CC, fun a cls d => tRet (tTup (tCons (tC (.str "evening")) (tCons (tXf a cls d CC "evening" (tVar 1)) tNil))))])
      (tb := fun W D σ H => ∃ Ech : XK, (∀ cls d σ' H', Ech cls d H' → W cls d σ' H') ∧ σ[0]? = some (some (.ref f)) ∧ H c' = some (LamX.CodeO c' q) ∧ tl Ech H (fun v H1 => [V.str "told", v].length ≤ sizeLine ∧ ∀ p, H1 p = none → D.rt (.ref p) (upd H1 p (.tup [.str "told", v]))))
      rfl rfl nd rfl rfl LamX.takes0 (fun W pn xe tk _ => ?_)
      (.cons ⟨rfl, by decide, .inl F.mV⟩ (fun a oe cls d pn hz hf => pss_one (by exact ps_ret (pe_tup (pa_cons pe_str (pa_cons (pe_xf F.xV F.iV hz hf (pv 1)) pa_nil)))))
        (.cons ⟨rfl, by decide, .inl F.mC⟩ (fun a oe cls d pn hz hf => pss_one (by exact ps_ret (pe_tup (pa_cons pe_str (pa_cons (pe_xf F.xC F.iC hz hf (pv 1)) pa_nil))))) .nil))), ?_⟩
  · refine ⟨fun pins s' σ H' D I h' => ?_⟩
    obtain ⟨Ech, hW, h1, h2, h3⟩ := h'
    exact (pss_one (ps_ret (pe_tup (pa_cons pe_str (pa_cons (act W pn xe Ech _ _ tk hW) pa_nil))))).run pins s' σ H' D I ⟨h1, h2, h3⟩
  · refine ⟨_, fun cls d σ' H' hE hl => ?_, rfl, hc, h⟩
    have s1 : ∀ a : Addr, (σ'.set 1 (some (V.ref a)))[1]? = some (some (V.ref a)) := fun a => set_get (by rw [hl]; exact (by decide : 1 < 2))
    rcases hE with ⟨rfl, dd, v, rfl, hx, qq⟩ | ⟨rfl, dd, v, rfl, hx, qq⟩
    · refine ⟨true, F.vv, And.intro (fun _ a _ => ?_) (fun z => Bool.noConfusion z)⟩
      exact ⟨_, s1 a, rfl, rfl, dd, _, v, rfl, hx, rfl, (by show 2 ≤ sizeLine; decide), qq⟩
    · refine ⟨false, F.cv, And.intro (fun z => Bool.noConfusion z) (fun _ => ⟨true, F.cc, And.intro (fun _ a _ => ?_) (fun z => Bool.noConfusion z)⟩)⟩
      exact ⟨_, s1 a, rfl, rfl, dd, _, v, rfl, hx, rfl, (by show 2 ≤ sizeLine; decide), qq⟩
end K1
end
-- XFnd
section
set_option Elab.async false
set_option linter.all false
set_option maxRecDepth 100000
set_option maxHeartbeats 1000000
namespace K1
open PySem PySem.Spec PyProof.Rows L2 W0
theorem tabs_same {T : List (Addr × Str)} {H H' : Hp} (t : LamX.Tabs T H) (e : Same H H') : LamX.Tabs T H' := t.ext e
theorem tabs_kept {T : List (Addr × Str)} {H H' : Hp} {D : Addr} {xs : List V} (t : LamX.Tabs T H) (hD : H D = some (.lst xs)) (k : Kept D H H') : LamX.Tabs T H' := fun p hp => by
  obtain ⟨ps, h1, h2, h3⟩ := t p hp
  refine ⟨ps, k _ _ (fun z => by rw [z, hD] at h1; cases h1) h1, h2, fun pos cv hc => ?_⟩
  obtain ⟨c, e1, e2⟩ := h3 pos cv hc
  refine ⟨c, e1, k _ _ (fun z => ?_) e2⟩
  rw [z, hD] at e2
  have : HO.lst xs = LamX.CodeO D p.2 := Option.some.inj e2
  unfold LamX.CodeO at this
  cases this
/-- a refusal's word, its field, its class -/
def MetBy (CV CC : Addr) (tg fld : Str) (C : Addr) : Prop := (tg = "spans" ∧ fld = "index" ∧ C = CV) ∨ (tg = "evening" ∧ fld = "evening" ∧ C = CC)
theorem met_by {TT : List (Addr × Str)} {CV CC CR : Addr} {tg fld : Str} {t : XK → TE} {σ : L2.St} {H : Hp} {Q : VK} {v : V} (mb : MetBy CV CC tg fld CR) (tb : LamX.Tabs TT H) (hg : ∀ H1, LamX.ExtN H H1 → ∀ (E : XK) (Q' : VK), GoesF CR [(fld, v)] H1 E → t E σ H1 Q')
    (hq : ∀ p H', LamX.ExtN H H' → LamX.Tabs TT H' → (∀ o, H p = some o → ∃ ps, o = .tbl ps) → H' p = some (.tup [.str tg, v]) → Q (.ref p) H') : LamX.tLam TT (TMt CV CC) t σ H Q := by
  refine ⟨tb, fun H1 eN T1 => hg H1 eN _ _ fun d H2 e nd hx => ?_⟩
  have fin : ∀ p, H2 p = none → Q (.ref p) (upd H2 p (.tup [.str tg, v])) := fun p hp => by
    refine hq p _ ?_ ?_ (fun o ho => ?_) upd_same
    · exact eN.trans (LamX.ExtN.of (e.trans (K1.Same.upd hp)))
    · exact T1.ext (e.trans (K1.Same.upd hp))
    · cases o with
      | tbl ps => exact ⟨ps, rfl⟩
      | _ =>
        have h2 := e _ _ (eN p _ ho fun ps z => by cases z)
        rw [hp] at h2
        cases h2
  rcases mb with ⟨rfl, rfl, rfl⟩ | ⟨rfl, rfl, rfl⟩
  · exact .inl ⟨rfl, d, v, rfl, hx, fin⟩
  · exact .inr ⟨rfl, d, v, rfl, hx, fin⟩
/-- how one was refused: a pair, with what was refused -/
def TagP (tg : Str) (H : Hp) (z v : V) : Prop := ∃ p, z = .ref p ∧ H p = some (.tup [.str tg, v])
/-- a list of what was refused, in a heap that has grown since H0 -/
structure Fnd (tg : Str) (TT : List (Addr × Str)) (H0 H : Hp) (Fd : Addr) (zs vs : List V) : Prop where
  ext : LamX.ExtN H0 H
  tb : LamX.Tabs TT H
  lst : H Fd = some (.lst zs)
  new : ∀ o, H0 Fd = some o → ∃ ps, o = .tbl ps
  prs : Paired (TagP tg H) zs vs
theorem extN_upd2 {H0 H : Hp} {Fd : Addr} {o : HO} (e : LamX.ExtN H0 H) (n : ∀ o, H0 Fd = some o → ∃ ps, o = .tbl ps) : LamX.ExtN H0 (L2.upd H Fd o) := fun b u h nt => by
  have bF : b ≠ Fd := fun z => by
    obtain ⟨ps, e2⟩ := n u (by rw [← z]; exact h)
    exact nt ps e2
  rw [upd_ne bF]
  exact e b u h nt
theorem TagP.upd {H : Hp} {Fd : Addr} {xs zs : List V} {tg : Str} {z v : V} (g : H Fd = some (.lst xs)) (h : TagP tg H z v) : TagP tg (L2.upd H Fd (.lst zs)) z v := by
  obtain ⟨p, rfl, hp⟩ := h
  exact ⟨p, rfl, by rw [upd_ne (fun e => by rw [e, g] at hp; cases hp)]; exact hp⟩
theorem TagP.updD {H : Hp} {Fd : Addr} {xs zs : List (Key × V)} {tg : Str} {z v : V} (g : H Fd = some (.dK xs)) (h : TagP tg H z v) : TagP tg (L2.upd H Fd (.dK zs)) z v := by
  obtain ⟨p, rfl, hp⟩ := h
  exact ⟨p, rfl, by rw [upd_ne (fun e => by rw [e, g] at hp; cases hp)]; exact hp⟩
theorem tabs_keptD {T : List (Addr × Str)} {H H' : Hp} {D : Addr} {xs : List (Key × V)} (t : LamX.Tabs T H) (hD : H D = some (.dK xs)) (k : Kept D H H') : LamX.Tabs T H' := fun p hp => by
  obtain ⟨ps, h1, h2, h3⟩ := t p hp
  refine ⟨ps, k _ _ (fun z => by rw [z, hD] at h1; cases h1) h1, h2, fun pos cv hc => ?_⟩
  obtain ⟨c, e1, e2⟩ := h3 pos cv hc
  refine ⟨c, e1, k _ _ (fun z => ?_) e2⟩
  rw [z, hD] at e2
  have : HO.dK xs = LamX.CodeO D p.2 := Option.some.inj e2
  unfold LamX.CodeO at this
  cases this
theorem TagP.ext {H H' : Hp} {tg : Str} {z v : V} (h : TagP tg H z v) (e : LamX.ExtN H H') : TagP tg H' z v := by
  obtain ⟨p, rfl, hp⟩ := h
  exact ⟨p, rfl, e _ _ hp (fun _ z => by cases z)⟩
section
variable {TT : List (Addr × Str)} {CV CC CR : Addr} {tg fld : Str} {t : XK → TE} {σ : L2.St} {H0 H : Hp} {Q : VK} {v : V} {K : PySem.W.Frag}
theorem fnd_first (mb : MetBy CV CC tg fld CR) (tb : LamX.Tabs TT H) (hg : ∀ H1, LamX.ExtN H H1 → ∀ (E : XK) (Q' : VK), GoesF CR [(fld, v)] H1 E → t E σ H1 Q')
    (q : ∀ Fd z H', Fnd tg TT H H' Fd [z] [v] → Q (.ref Fd) H') : tLst (tCons (LamX.tLam TT (TMt CV CC) t) tNil) σ H Q := by
  refine met_by mb tb hg fun p H' e T fr gp => ⟨(by show 1 ≤ sizeLine; decide), fun Fd hFd => ?_⟩
  have s := K1.Same.upd (H := H') (p := Fd) (o := .lst [.ref p]) hFd
  refine q Fd (.ref p) _ ⟨e.trans (LamX.ExtN.of s), tabs_same T s, upd_same, fun o ho => ?_, .cons ⟨p, rfl, s _ _ gp⟩ .nil⟩
  cases o with
  | tbl ps => exact ⟨ps, rfl⟩
  | _ =>
    have h2 := e _ _ ho fun ps z => by cases z
    rw [hFd] at h2
    cases h2
theorem fnd_app {Fd : Addr} {zs vs : List V} {i : Nat} (mb : MetBy CV CC tg fld CR) (f : Fnd tg TT H0 H Fd zs vs) (l : vs.length ≤ 100) (hσ : σ[i]? = some (some (.ref Fd)))
    (hg : ∀ H1, LamX.ExtN H0 H1 → ∀ (E : XK) (Q' : VK), GoesF CR [(fld, v)] H1 E → t E σ H1 Q')
    (q : ∀ z H', Fnd tg TT H0 H' Fd (zs ++ [z]) (vs ++ [v]) → Q .non H') : tBM K "list" rAppend (tVar i) (tCons (LamX.tLam TT (TMt CV CC) t) tNil) σ H Q := by
  refine ⟨_, hσ, .inl ⟨rfl, _, SqL.of f.lst⟩, met_by mb f.tb (fun H1 e1 => hg H1 (f.ext.trans e1)) fun p H' e T fr gp => ?_⟩
  have gF := e _ _ f.lst (fun _ z => by cases z)
  have Fp : p ≠ Fd := fun z => by rw [z, gF] at gp; cases gp
  have ll := f.prs.length
  refine ⟨Fd, _, _, rfl, rfl, gF, small1000 (by omega), q (.ref p) _ ⟨extN_upd2 (f.ext.trans e) f.new, tabs_kept T gF Kept.upd, upd_same, f.new, ?_⟩⟩
  exact paired_snoc (paired_imp (fun _ _ h => (h.ext e).upd gF) f.prs) ⟨p, rfl, by rw [upd_ne Fp]; exact gp⟩
end
theorem ValS.nt {C : Addr} {H : Hp} {x l1 l2 l3 d1 d2 d3 : Addr} {qs : List Addr} {bs : Str → Addr} {ss : List Str} {rs : List (Str × Str)} {ns : List Int} (v : ValS C H x l1 l2 l3 d1 d2 d3 qs bs ss rs ns) : ValS C (nt H) x l1 l2 l3 d1 d2 d3 qs bs ss rs ns := by
  obtain ⟨dx, fs, a, r⟩ := v.ins
  obtain ⟨k2, a2, b2⟩ := v.p2
  obtain ⟨k3, a3, b3⟩ := v.p3
  exact ⟨⟨dx, fs, nt_some.mpr ⟨a, fun _ z => by cases z⟩, r⟩, nt_l v.h1, nt_l v.h2, paired_imp (fun _ _ h => nt_t h) v.pr, nt_l v.h3, nt_d v.p1, ⟨k2, nt_some.mpr ⟨a2, fun _ z => by cases z⟩, b2⟩, ⟨k3, nt_d a3, b3⟩, fun s hs => nt_l (v.nb s hs)⟩
theorem IsV.nt {C : Addr} {H : Hp} {x : Addr} {ss : List Str} {rs : List (Str × Str)} {ns : List Int} (v : IsV C H x ss rs ns) : IsV C (nt H) x ss rs ns := by
  obtain ⟨l, l1, l2, l3, d1, d2, d3, qs, bs, h⟩ := v
  exact ⟨l, l1, l2, l3, d1, d2, d3, qs, bs, h.nt⟩
end K1
end
-- XSr0
section
set_option Elab.async false
set_option linter.all false
set_option maxRecDepth 100000
set_option maxHeartbeats 2000000
namespace K1
open PySem PySem.Spec PyProof.Rows L2 W0 Wr
theorem prk_zip {K : PySem.W.Frag} {H : Hp} {qs : List Addr} {rs : List (Str × Str)} (pr : Paired (TupP H) qs rs) : ∀ {ts ls : List Addr}, Paired (fun (t : Addr) (e : V × V) => H t = some (.tup [e.1, e.2])) ts ((qs.map V.ref).zip (ls.map V.ref)) →
    Paired (PrK K H) ts ((rs.zip (qs.zip ls)).map fun e => (keyR e.1, e.2.1, V.ref e.2.2)) := by
  induction pr with
  | nil =>
    intro ts ls h
    cases h
    exact .nil
  | @cons q e qs rs f _ ih =>
    intro ts ls h
    cases ls with
    | nil =>
      cases h
      exact .nil
    | cons l ls =>
      rw [List.map_cons, List.map_cons, List.zip_cons_cons] at h
      cases h with
      | cons a r => exact .cons ⟨SqT.of a, f⟩ (ih r)
theorem zip_first {rs : List (Str × Str)} {qs ls : List Addr} (h : qs.length = rs.length) (h2 : ls.length = rs.length) : ((rs.zip (qs.zip ls)).map fun e => (keyR e.1, e.2.1, V.ref e.2.2)).map (·.1) = rs.map keyR ∧ ((rs.zip (qs.zip ls)).map fun e => (keyR e.1, e.2.1, V.ref e.2.2)).map (fun e => (e.1, e.2.2)) = (rs.zip ls).map fun e => (keyR e.1, V.ref e.2) := by
  induction rs generalizing qs ls with
  | nil => exact ⟨rfl, rfl⟩
  | cons e rs ih =>
    cases qs with
    | nil => cases h
    | cons q qs =>
      cases ls with
      | nil => cases h2
      | cons l ls =>
        obtain ⟨a, b⟩ := ih (qs := qs) (ls := ls) (by simpa using h) (by simpa using h2)
        exact ⟨by simpa using a, by simpa using b⟩
/-- dict(list(zip(form[1], spans))) -/
theorem known_run {K : PySem.W.Frag} {σ : L2.St} {H : Hp} {Q : VK} {i j : Nat} {t p2 s : Addr} {x1 x3 : V} {qs ls : List Addr} {rs : List (Str × Str)} {sps : List (Int × Int)} (hi : σ[i]? = some (some (.ref t))) (hj : σ[j]? = some (some (.ref s))) (ht : H t = some (.lst [x1, .ref p2, x3])) (hp : H p2 = some (.lst (qs.map V.ref))) (pr : Paired (TupP H) qs rs)
    (hS : H s = some (.lst (ls.map V.ref))) (pl : Paired (TupI H) ls sps) (lsr : sps.length = rs.length) (ndr : rs.Nodup) (q : ∀ d H', Same H H' → H d = none → KnV H' d rs sps → Q (.ref d) H') :
    tCB (fun xs H Q => ∃ (a : Addr) (ps : List Addr) (es : List (List Key × Addr × V)), xs = [V.ref a] ∧ SqL K H a (ps.map V.ref) ∧ Paired (PrK K H) ps es ∧ (es.map (·.1)).Nodup ∧ ∀ p, H p = none → Q (.ref p) (L2.upd H p (.dT (es.map fun e => (e.1, e.2.2))))) (tCons (Wz.tListZip K (tCons (tOp (rIxL K) (tVar i) (tC (.int 1))) (tCons (tVar j) tNil))) tNil) σ H Q := by
  have lq : qs.length = rs.length := pr.length
  have ll : ls.length = rs.length := pl.length.trans lsr
  refine ⟨_, hi, t, _, 1, .ref p2, rfl, rfl, SqL.of ht, rfl, _, hj, p2, s, _, _, rfl, SqL.of hp, SqL.of hS, fun H1 p ts e1 np nts pts gp zp => ?_⟩
  have pr1 : Paired (TupP H1) qs rs := paired_imp (fun _ _ h => e1 _ _ h) pr
  obtain ⟨f1, f2⟩ := zip_first (rs := rs) lq ll
  refine ⟨p, ts, _, rfl, SqL.of gp, prk_zip pr1 zp, ?_, fun d hd => ?_⟩
  · rw [f1]
    exact List.Pairwise.map _ (fun a b (h : a ≠ b) z => h (keyR_inj z)) ndr
  · rw [f2]
    have e2 := K1.Same.upd (H := H1) (p := d) (o := .dT ((rs.zip ls).map fun e => (keyR e.1, V.ref e.2))) hd
    have e12 : Same H (L2.upd H1 d (.dT ((rs.zip ls).map fun e => (keyR e.1, V.ref e.2)))) := fun b o h => e2 _ _ (e1 _ _ h)
    refine q d _ e12 ?_ ⟨ls, upd_same, ll, paired_imp (fun _ _ h => e12 _ _ h) pl⟩
    cases e : H d with
    | none => rfl
    | some o =>
      have := e1 _ _ e
      rw [hd] at this
      cases this
theorem r_pairsV {n : Nat} {H : Hp} {qs1 qs2 : List Addr} {rs : List (Str × Str)} (h1 : Paired (TupP H) qs1 rs) (h2 : Paired (TupP H) qs2 rs) : ∀ {ts1 ts2 : List Addr} {ps : List (Nat × Nat)}, PairsV H qs1 ts1 ps → PairsV H qs2 ts2 ps → Paired (RF (n + 3) H) (ts1.map V.ref) (ts2.map V.ref)
  | _, _, _, .nil, .nil => .nil
  | _, _, _, .cons a1 r1, .cons a2 r2 => by
    refine .cons ?_ (r_pairsV h1 h2 r1 r2)
    obtain ⟨x1, y1, ex1, ey1, g1⟩ := a1
    obtain ⟨x2, y2, ex2, ey2, g2⟩ := a2
    have key : ∀ {i : Nat} {u v : Addr}, qs1[i]? = some u → qs2[i]? = some v → RF (n + 2) H (.ref u) (.ref v) := fun {i u v} e1 e2 => by
      have hi : i < rs.length := by
        rw [← h1.length]
        exact (List.getElem?_eq_some_iff.mp e1).1
      obtain ⟨b1, f1, t1⟩ := paired_get h1 hi
      obtain ⟨b2, f2, t2⟩ := paired_get h2 hi
      rw [e1] at f1
      rw [e2] at f2
      obtain rfl := Option.some.inj f1
      obtain rfl := Option.some.inj f2
      exact r_tups (R := RF (n + 1)) t1 t2 (by show 2 ≤ 100; decide) (.cons (r_str _) (.cons (r_str _) .nil))
    exact r_tups (R := RF (n + 2)) g1 g2 (by show 2 ≤ 100; decide) (.cons (key ex1 ex2) (.cons (key ey1 ey2) .nil))
theorem lone_two {sps : List (Int × Int)} (nd : (lones sps).Nodup) {i j : Nat} (hi : i < sps.length) (hj : j < sps.length) (ne : i ≠ j) (ei : sps[i].1 = sps[i].2) (ej : sps[j].1 = sps[j].2) : sps[i].1 ≠ sps[j].1 := by
  have key : ∀ {a b : Nat} (ha : a < sps.length) (hb : b < sps.length), a < b → sps[a].1 = sps[a].2 → sps[b].1 = sps[b].2 → sps[a].1 ≠ sps[b].1 := fun {a b} ha hb lt ea eb z => by
    refine lone_new hb nd eb ?_
    rw [← z]
    unfold lones
    refine List.mem_map.mpr ⟨sps[a], List.mem_filter.mpr ⟨List.mem_take_iff_getElem.mpr ⟨a, by omega, rfl⟩, decide_eq_true ea⟩, rfl⟩
  rcases Nat.lt_or_gt_of_ne ne with h | h
  · exact key hi hj h ei ej
  · exact fun z => key hj hi h ej ei z.symm
/-- by rising leasts an evening can be -/
theorem rise_can {sps : List (Int × Int)} (g : GoodSp sps) {js : List Nat} (lt : ∀ j ∈ js, j < sps.length) (nd : js.Nodup) (pw : js.Pairwise fun i j => SrtKd.lexL ((sps[i]?).getD (0, 0)) ((sps[j]?).getD (0, 0))) : CanB sps js := by
  have nd2 : js.Pairwise (· ≠ ·) := nd
  refine List.Pairwise.imp_of_mem (fun {i j} hi hj h => ?_) (pw.and nd2)
  obtain ⟨h1, ne⟩ := h
  have li := lt i hi
  have lj := lt j hj
  have gi : (sps[i]?).getD (0, 0) = sps[i] := by rw [List.getElem?_eq_getElem li]; rfl
  have gj : (sps[j]?).getD (0, 0) = sps[j] := by rw [List.getElem?_eq_getElem lj]; rfl
  rw [gi, gj] at h1
  unfold ahB
  rw [gi, gj]
  have wi := g.1 _ (List.getElem_mem li)
  have wj := g.1 _ (List.getElem_mem lj)
  by_cases z : sps[j].2 ≤ sps[i].1
  · exfalso
    rcases h1 with h1 | ⟨h1, h2⟩
    · omega
    · exact lone_two g.2 li lj ne (by omega) (by omega) h1
  · rw [decide_eq_false z, Bool.and_false]
theorem idx_at {rs : List (Str × Str)} (nd : rs.Nodup) {i : Nat} (hi : i < rs.length) : rs.idxOf rs[i] = i := by
  have hl := List.idxOf_lt_length_of_mem (List.getElem_mem hi)
  exact (List.getElem_inj nd).mp (List.getElem_idxOf hl)
theorem js_of_qs {H : Hp} {qs : List Addr} {rs : List (Str × Str)} (pr : Paired (TupP H) qs rs) (nd : rs.Nodup) : ∀ {mq : List Addr} {es : List (Str × Str)}, (∀ q ∈ mq, q ∈ qs) → Paired (TupP H) mq es → jsOf rs es = mq.map qs.idxOf
  | _, _, _, .nil => rfl
  | q :: mq, e :: es, hm, .cons a r => by
    have ih := js_of_qs pr nd (fun x hx => hm x (List.mem_cons_of_mem _ hx)) r
    unfold jsOf at ih ⊢
    rw [List.map_cons, List.map_cons, ih]
    congr 1
    have hl := List.idxOf_lt_length_of_mem (hm q (List.mem_cons_self ..))
    have hr : qs.idxOf q < rs.length := by rw [← pr.length]; exact hl
    obtain ⟨b, eb, tb⟩ := paired_get pr hr
    rw [List.getElem?_eq_getElem hl, List.getElem_idxOf] at eb
    obtain rfl := Option.some.inj eb
    have a : H q = some (.tup [.str e.1, .str e.2]) := a
    have tb : H q = _ := tb
    rw [a] at tb
    have e2 : e = rs[qs.idxOf q] := by
      have := HO.tup.inj (Option.some.inj tb)
      simp only [List.cons.injEq, V.str.injEq, and_true] at this
      exact Prod.ext this.1 this.2
    rw [e2]
    exact idx_at nd hr
/-- the spans of a road that stands at an address -/
def spanAt (qs : List Addr) (sps : List (Int × Int)) : V → Int × Int
  | .ref q => (sps[qs.idxOf q]?).getD (0, 0)
  | _ => (0, 0)
theorem qs_nodup {H : Hp} {qs : List Addr} {rs : List (Str × Str)} (pr : Paired (TupP H) qs rs) (nd : rs.Nodup) : qs.Nodup := by
  induction pr with
  | nil => exact List.nodup_nil
  | @cons q e qs rs f r ih =>
    obtain ⟨n1, n2⟩ := List.nodup_cons.mp nd
    refine List.nodup_cons.mpr ⟨fun hm => ?_, ih n2⟩
    obtain ⟨k, hk, ek⟩ := List.mem_iff_getElem.mp hm
    have hr : k < rs.length := by rw [← r.length]; exact hk
    obtain ⟨b, eb, tb⟩ := paired_get r hr
    rw [List.getElem?_eq_getElem hk, ek] at eb
    obtain rfl := Option.some.inj eb
    have f : H q = some (.tup [.str e.1, .str e.2]) := f
    have tb : H q = _ := tb
    rw [f] at tb
    have e2 : e = rs[k] := by
      have := HO.tup.inj (Option.some.inj tb)
      simp only [List.cons.injEq, V.str.injEq, and_true] at this
      exact Prod.ext this.1 this.2
    exact n1 (by rw [e2]; exact List.getElem_mem hr)
theorem cut_last2 {xs : List V} (h : 2 ≤ xs.length ∨ xs.length ≤ 1) : cutV xs none (some (-2)) = xs.take (xs.length - 2) ∧ cutV xs (some (-2)) none = xs.drop (xs.length - 2) := by
  have e : HT.sIx xs.length xs.length (some (-2)) = xs.length - 2 := by
    show (if (-2 : Int) < 0 then ((-2 : Int) + (xs.length : Int)).toNat else min (-2 : Int).toNat xs.length) = _
    rw [if_pos (by decide)]
    omega
  have e2 : HT.sIx xs.length 0 (some (-2)) = xs.length - 2 := e
  unfold cutV
  rw [e, e2, HT.sIx_none, HT.sIx_none, List.drop_zero, Nat.sub_zero]
  exact ⟨rfl, List.take_of_length_le (by rw [List.length_drop]; exact Nat.le_refl _)⟩
theorem paired_rev {α β : Type} {R : α → β → Prop} {xs : List α} {ys : List β} (h : Paired R xs ys) : Paired R xs.reverse ys.reverse := by
  induction h with
  | nil => exact .nil
  | cons a _ ih =>
    rw [List.reverse_cons, List.reverse_cons]
    exact paired_app ih (.cons a .nil)
/-- the last two the other way round -/
theorem ClAt.swap {a : Addr} {H : Hp} {c c2 : Addr} {cq : List Addr} {rs es : List (Str × Str)} (v : ClAt a H c cq rs es) (k : Nat) (n : c2 ≠ a) (h : H c2 = some (.lst ((cq.map V.ref).take k ++ ((cq.map V.ref).drop k).reverse))) : ClAt a H c2 (cq.take k ++ (cq.drop k).reverse) rs (es.take k ++ (es.drop k).reverse) := by
  refine ⟨?_, n, paired_app (paired_take k v.pr) (paired_rev (paired_drop k v.pr)), ?_⟩
  · rw [h, List.map_append, List.map_reverse, List.map_take, List.map_drop]
  · refine List.Perm.trans ?_ v.perm
    have h1 : (es.take k ++ (es.drop k).reverse).Perm (es.take k ++ es.drop k) := List.Perm.append_left _ (List.reverse_perm _)
    rw [List.take_append_drop] at h1
    exact h1
theorem Spr.nn {H H' : Hp} {a : Addr} {n : Nat} (s : Spr H a n) (e : LamX.ExtN H H') : Spr H' a n := by
  obtain ⟨x, y, z, h, r⟩ := s
  exact ⟨x, y, z, e _ _ h (fun _ z => by cases z), r⟩
theorem VAt.extN {a : Addr} {H H' : Hp} {t p1 p2 p3 : Addr} {qs : List Addr} {ss : List Str} {rs : List (Str × Str)} {ns : List Int} (v : VAt a H t p1 p2 p3 qs ss rs ns) (e : LamX.ExtN H H') : VAt a H' t p1 p2 p3 qs ss rs ns :=
  ⟨e _ _ v.t0 (fun _ z => by cases z), e _ _ v.h1 (fun _ z => by cases z), e _ _ v.h2 (fun _ z => by cases z), paired_imp (fun _ _ z => e _ _ z (fun _ z => by cases z)) v.pr, e _ _ v.h3 (fun _ z => by cases z), v.n0, v.n1, v.n2, v.n3⟩
theorem IsVO.extN {C a : Addr} {H H' : Hp} {x : Addr} {ss : List Str} {rs : List (Str × Str)} {ns : List Int} (v : IsVO C a H x ss rs ns) (e : LamX.ExtN H H') : IsVO C a H' x ss rs ns := by
  obtain ⟨l, l1, l2, l3, d1, d2, d3, qs, bs, vs, o⟩ := v
  exact ⟨l, l1, l2, l3, d1, d2, d3, qs, bs, vs.nt.same (nt_to e), o⟩
theorem Spr.tabs {T : List (Addr × Str)} {H H' : Hp} {a : Addr} {n : Nat} (s : Spr H a n) (t : LamX.Tabs T H) (k : Kept a H H') : LamX.Tabs T H' := by
  obtain ⟨x, y, z, e, _⟩ := s
  exact tabs_kept t e k
theorem VOk.frm {a : Addr} {H : Hp} {t p1 p2 p3 : Addr} {qs : List Addr} {ss : List Str} {rs : List (Str × Str)} {ns : List Int} (ok : VOk ss rs ns) (va : VAt a H t p1 p2 p3 qs ss rs ns) : Frm H t p1 p2 (.ref p3) qs ss rs :=
  ⟨va.t0, va.h1, va.h2, va.pr, ok.tree, ok.le, fun s hs => (ok.good.2 s hs).1⟩
theorem EvV.ext {H H' : Hp} {rs : List (Str × Str)} {v : V} {js : List Nat} (h : EvV H rs v js) (e : Same H H') : EvV H' rs v js := by
  obtain ⟨⟨xs, sv, l, pr, nd⟩, l2⟩ := h
  exact ⟨⟨xs, sv.ext e, l, paired_imp (fun _ _ h => h.ext e) pr, nd⟩, l2⟩
/-- all that is no table, and not at a, is as it was -/
def ExtA (a : Addr) (H H' : Hp) : Prop := ∀ b o, b ≠ a → H b = some o → (∀ ps, o ≠ .tbl ps) → H' b = some o
theorem ExtA.of {a : Addr} {H H' : Hp} (k : Kept a H H') : ExtA a H H' := fun b o n h _ => k b o n h
theorem SeqV.nt {H : Hp} {v : V} {xs : List V} (h : SeqV H v xs) : SeqV (nt H) v xs := by
  obtain ⟨p, rfl, hp⟩ := h
  exact ⟨p, rfl, hp.imp nt_l nt_t⟩
theorem SpsV.nt {H : Hp} {v : V} {sps : List (Int × Int)} (h : SpsV H v sps) : SpsV (K1.nt H) v sps := by
  obtain ⟨us, a, b⟩ := h
  exact ⟨us, a.nt, paired_imp (fun _ _ z => SeqV.nt z) b⟩
/-- spans as the law has them -/
structure SpAt (a : Addr) (H : Hp) (s : Addr) (ls : List Addr) (sps : List (Int × Int)) : Prop where
  h : H s = some (.lst (ls.map V.ref))
  n : s ≠ a
  pr : Paired (TupI H) ls sps
  good : GoodSp sps
  small : SmallSp sps
theorem KnV.extN {H H' : Hp} {d : Addr} {rs : List (Str × Str)} {sps : List (Int × Int)} (h : KnV H d rs sps) (e : LamX.ExtN H H') : KnV H' d rs sps := by
  obtain ⟨ls, a, b, c⟩ := h
  exact ⟨ls, e _ _ a (fun _ z => by cases z), b, paired_imp (fun _ _ z => e _ _ z (fun _ z => by cases z)) c⟩
end K1
end
-- XSr
section
set_option Elab.async false
set_option linter.all false
set_option maxRecDepth 100000
set_option maxHeartbeats 4000000
namespace K1
open PySem PySem.Spec PyProof.Rows L2 W0 Wr
abbrev sSr : Stmt := top 62
theorem scSr : FnScope ["spring", "form", "made", "spans", "known", "handed", "due", "road", "later", "was", "told", "rising", "some", "evening", "is_one", "found"] ["spring", "form", "made", "spans"] (defScope sSr) := ⟨rfl, rfl, rfl, by decide +kernel, rfl, by decide +kernel, by decide +kernel⟩
def qSr : Str := "_law_spans_right.<locals>." ++ "<lambda>"
/-- three parameters by name, the last one first -/
def kwR3 : List V → List V → List V := fun _ zs => [zs.getD 2 .non, zs.getD 1 .non, zs.getD 0 .non]
def kwR3v : List Value → List Value → List Value := fun _ zs => [zs.getD 2 .none, zs.getD 1 .none, zs.getD 0 .none]
def spSr (C : Addr) (TT : List (Addr × Str)) : Sp := fun vs H Q _ => ∃ (a t x s p1 p2 p3 : Addr) (qs ls : List Addr) (ss : List Str) (rs : List (Str × Str)) (ns : List Int) (sps : List (Int × Int)) (n : Nat), vs = [.ref a, .ref t, .ref x, .ref s] ∧ Spr H a n ∧ n + 5000 ≤ 1000000 ∧ VAt a H t p1 p2 p3 qs ss rs ns ∧ VOk ss rs ns ∧ IsVO C a H x ss rs ns ∧ SpAt a H s ls sps ∧ sps.length = rs.length ∧ LamX.Tabs TT H ∧
  ∀ H', ExtA a H H' → Spr H' a (n + 3000) → LamX.Tabs TT H' → Q (.bl true) H'
theorem key_scope : NdefX.NScope ["road", "known"] ["road"] ["known"] { kind := ScopeKind.function, names := [(("road" : Str), NameKind.local), ("known", NameKind.free)], isGenerator := false, isCoroutine := false } := NdefX.nscope_by (by decide +kernel)
theorem lamfree_by {N sc : Scope} (h : (sc.names.all fun y => !decide (y.2 = .free) || decide (N.names.lookup y.1 = some .cell) || decide (N.names.lookup y.1 = some .free)) = true) : ∀ y ∈ sc.names, y.2 = .free → N.names.lookup y.1 = some .cell ∨ N.names.lookup y.1 = some .free := fun y hy e => by
  have := List.all_eq_true.mp h y hy
  simp only [Bool.or_eq_true, Bool.not_eq_true', decide_eq_true_eq, decide_eq_false_iff_not] at this
  rcases this with (z | z) | z
  · exact absurd e z
  · exact .inl z
  · exact .inr z
section
variable {P : Program} {w : World} {K : PySem.W.Frag} {mg : Str → Option Value} {base : Heap} {C CV CC CB : Addr}
theorem ok_Sr {f c TP fA fS fQ fE fG fB fN fH fL : Addr} {ad sd qd ed gd bd nd_ hd ld : FuncData} {oc kVx doc pm ct : Value} {od an : Option Addr} {osl : Array (Option Value)} (B : Bl mg) (mrp : mg "repr" = none) (mso : mg "sorted" = none) (mz : mg "zip" = none) (lk : K.lookup f = some ⟨oc, od, .func (PySem.W.fnOf "_law_spans_right" "_law_spans_right" (defArgs sSr) (defBody sSr) (defScope sSr) .none kVx doc pm an (.ref c) ct), osl⟩) (hcd : PySem.W.codeIn K (.ref c) "_law_spans_right" = true)
    (TB : LamX.TabB base mg c TP) {TT : List (Addr × Str)} (hT : (TP, qSr) ∈ TT) (hU : ∀ p ∈ TT, p.1 = TP → p.2 = qSr)
    (GA : FnOk P w K mg base CX0 1 fA ad ["known", "road", "later"] spDa) (bA : Binds K ad ["known", "road", "later"] []) (kA : PySem.W.keepIn K (.ref fA) = true) (mA : mg "_law_d_ahead" = some (.ref fA))
    (GS : FnOk P w K mg base (L2.CX P w) 5 fS sd ["valley", "spans"] (spSa K C CV CB)) (bS : Binds K sd ["valley", "spans"] []) (nS : KBn K sd ["valley", "spans"] 0 ["spans", "valley"] kwR2v kwR2) (kS : PySem.W.keepIn K (.ref fS) = true) (mS : mg "surely_ahead" = some (.ref fS))
    (GQ : FnOk P w K mg base CX0 7 fQ qd ["found", "due"] (spSm (RF 7))) (bQ : Binds K qd ["found", "due"] []) (kQ : PySem.W.keepIn K (.ref fQ) = true) (mQ : mg "_law_same" = some (.ref fQ))
    (GE : FnOk P w K mg base CX0 3 fE ed ["spring", "form"] spEe) (bE : Binds K ed ["spring", "form"] []) (kE : PySem.W.keepIn K (.ref fE) = true) (mE : mg "_law_v_evening" = some (.ref fE))
    (GG : FnOk P w K mg base CX0 3 fG gd ["spring", "form", "known"] spDg) (bG : Binds K gd ["spring", "form", "known"] []) (kG : PySem.W.keepIn K (.ref fG) = true) (mG : mg "_law_d_good" = some (.ref fG))
    (GB : FnOk P w K mg base CX0 2 fB bd ["known", "evening"] spDb) (bB : Binds K bd ["known", "evening"] []) (kB : PySem.W.keepIn K (.ref fB) = true) (mB : mg "_law_d_bar" = some (.ref fB))
    (GN : FnOk P w K mg base (L2.CX P w) 9 fN nd_ ["valley", "spans", "evening"] (spCn K C CV CC CB)) (bN : Binds K nd_ ["valley", "spans", "evening"] []) (nN : KBn K nd_ ["valley", "spans", "evening"] 0 ["evening", "spans", "valley"] kwR3v kwR3) (kN : PySem.W.keepIn K (.ref fN) = true) (mN : mg "can_be" = some (.ref fN))
    (GH : FnOk P w K mg base CX0 4 fH hd ["spring", "evening"] (spHd K)) (bH : Binds K hd ["spring", "evening"] []) (kH : PySem.W.keepIn K (.ref fH) = true) (mH : mg "_law_v_handed" = some (.ref fH))
    (GL : FnOk P w K mg base CX0 3 fL ld ["spring", "thing"] (spLo (SeqR (SeqR (Flat0 K))) 61)) (bL : Binds K ld ["spring", "thing"] []) (kL : PySem.W.keepIn K (.ref fL) = true) (mL : mg "_law_loose" = some (.ref fL)) :
    FnG P w K mg base CX0 11 f (PySem.W.fnOf "_law_spans_right" "_law_spans_right" (defArgs sSr) (defBody sSr) (defScope sSr) .none kVx doc pm an (.ref c) ct) ["spring", "form", "made", "spans"] (spSr C TT) := by
  refine fnG_of lk hcd scSr (fun vs H Q E h => ?_) (fun A outer s0 H vs Q E hA hr h => ?_)
  · obtain ⟨a, t, x, s, p1, p2, p3, qs, ls, ss, rs, ns, sps, n, rfl, _⟩ := h
    rfl
  obtain ⟨a, t, x, s, p1, p2, p3, qs, ls, ss, rs, ns, sps, n, rfl, hs, hn, va, ok, iv, sp, lsr, tb, q⟩ := h
  suffices hh : ∃ t0, PSs (cxOf CX0 P w K mg base ["spring", "form", "made", "spans", "known", "handed", "due", "road", "later", "was", "told", "rising", "some", "evening", "is_one", "found"] "_law_spans_right" (defScope sSr) f (.ref c) A outer s0 H E).nox (defBody sSr) t0 ∧ t0 { nx := fun _ H' => Q .non H', rt := Q } (L2.start ["spring", "form", "made", "spans", "known", "handed", "due", "road", "later", "was", "told", "rising", "some", "evening", "is_one", "found"] [.ref a, .ref t, .ref x, .ref s]) H by
    obtain ⟨t0, h1, h2⟩ := hh
    exact ⟨t0, h1.nox, h2⟩
  have nd := scSr.nd
  have hu := hu_of hr
  have hu64 : (A.deeper (envOfC "_law_spans_right" (defScope sSr) s0.heap.objs.size f (.ref c))).units + 64 < cLine := hr.units
  have hu2 : (A.deeper (envOfC "_law_spans_right" (defScope sSr) s0.heap.objs.size f (.ref c))).units + 2 < cLine := by have := hr.units; omega
  have hr1 : Room 1 _ := hr.mono (by decide)
  have hr2 : Room 2 _ := hr.mono (by decide)
  have hr3 : Room 3 _ := hr.mono (by decide)
  have hr4 : Room 4 _ := hr.mono (by decide)
  have hr5 : Room 5 _ := hr.mono (by decide)
  have hr7 : Room 7 _ := hr.mono (by decide)
  have hr9 : Room 9 _ := hr.mono (by decide)
  refine ⟨_, (pss_cons (by exact (ps_asg (pe_tup (pa_cons (pe_callTy (call_dictT rfl hu2) rfl B.dict PyProof.Rows.boot_dict (pa_cons (Wz.pe_listZip rfl rfl B.list PyProof.Rows.boot_list rfl mz (pa_cons (pe_ix ix_list (pv 1) pe_int (fun _ _ => rfl)) (pa_cons (pv 3) pa_nil))) pa_nil)) (pa_cons (pe_call GL hr3 rfl mL kL bL .nil pass0 (pa_cons (pv 0) (pa_cons (pv 3) pa_nil))) (pa_cons (pe_lst pa_nil) pa_nil)))) (pg_tup rfl (pgs_cons (pg_name (i := 4) nd rfl (.inr rfl)) (pgs_cons (pg_name (i := 5) nd rfl (.inl rfl)) (pgs_cons (pg_name (i := 6) nd rfl (.inl rfl)) pgs_nil))))))
  (pss_cons (by exact (ps_for PassesOwn.never rfl (by exact pi_list (pe_ix ix_list (pv 1) pe_int (fun _ _ => rfl))) (pg_name (i := 7) nd rfl (.inr rfl)) (pss_one (by exact (ps_expr (pe_bm PySem.F.plainAttrs_list PySem.F.slot_list_extend PySem.F.type_list_extend mt_extend (pv 6) (pa_cons (pe_lc (own := [("later", 8)]) (g := gName 8) (tt := tB (tCall spDa [] E0 (tCons (tVar 4) (tCons (tVar 7) (tCons (tVar 8) tNil))))) (te := tTup (tCons (tVar 7) (tCons (tVar 8) tNil))) rfl nd (by exact pi_list (pe_ix ix_list (pv 1) pe_int (fun _ _ => rfl))) (by exact blkOk_by (N := ["spring", "form", "made", "spans", "known", "handed", "due", "road", "later", "was", "told", "rising", "some", "evening", "is_one", "found"]) (sc := defScope sSr) (by decide +kernel)) (fun _ _ _ _ _ => by exact (pg_name (i := 8) nd rfl (.inl rfl))) (fun _ _ _ _ _ => by exact (pts_one (pt_val (pe_call GA hr1 rfl mA kA bA .nil pass0 (pa_cons (pv 4) (pa_cons (pv 7) (pa_cons (pv 8) pa_nil))))))) (fun _ _ _ _ _ => by exact (pe_tup (pa_cons (pv 7) (pa_cons (pv 8) pa_nil))))) pa_nil)))))))
  (pss_cons (by exact (ps_par (i := 9) (j := 10) rfl nd rfl rfl (by decide) rfl rfl (pa_cons (pe_callB (cr_reprS hA hu64) rfl mrp (by decide +kernel) (pa_cons (pv 5) pa_nil)) (pa_cons (pe_call GS hr5 rfl mS kS bS .nil passL (pa_cons (pv 2) (pa_cons (pv 5) pa_nil))) pa_nil)) (by rfl)))
  (pss_cons (by exact (ps_if (pt_not (pt_val (pe_call GQ hr7 rfl mQ kQ bQ .nil pass0 (pa_cons (pv 10) (pa_cons (pv 6) pa_nil))))) (pss_one (by exact (ps_ret pe_bl))) pss_nil))
  (pss_cons (by exact (ps_expr (pe_bm PySem.F.plainAttrs_list PySem.F.slot_list_append PySem.F.type_list_append mt_append (pv 10) (pa_cons pe_str pa_nil))))
  (pss_cons (by exact (ps_if (pt_not (pt_val (pe_call GQ hr7 rfl mQ kQ bQ .nil pass0 (pa_cons (pe_callN GS hr5 rfl mS kS nS passL (pk_cons (pv 3) (pk_cons (pv 2) pk_nil))) (pa_cons (pv 6) pa_nil))))) (pss_one (by exact (ps_ret pe_bl))) pss_nil))
  (pss_cons (by exact (ps_set (i := 11) nd rfl (.inl rfl) (SrtKd.pe_sortK (jd := 4) (kn := "known") (v := "road") (T := TT) (c := c) (P := TP) hr2 rfl mso TB rfl hT hU rfl (by exact lamfree_by (N := defScope sSr) (by decide +kernel)) (by decide) rfl (fun _ => rfl) (by exact key_scope) rfl (fun q cl c pm ctv us hl => by
    match us, hl with
    | [u], _ => rfl) (pe_ix ix_list (pv 1) pe_int (fun _ _ => rfl)))))
  (pss_cons (by exact (ps_set (i := 12) nd rfl (.inl rfl) (pe_lst (pa_cons (pe_call GE hr3 rfl mE kE bE .nil pass0 (pa_cons (pv 0) (pa_cons (pv 1) pa_nil))) (pa_cons (pe_call GG hr3 rfl mG kG bG .nil pass0 (pa_cons (pv 0) (pa_cons (pv 1) (pa_cons (pv 4) pa_nil)))) (pa_cons (pv 11) pa_nil))))))
  (pss_cons (by exact (ps_expr (pe_bm PySem.F.plainAttrs_list PySem.F.slot_list_append PySem.F.type_list_append mt_append (pv 12) (pa_cons (pe_op op_cat (pe_slice sl_list (pe_ix ix_list (pv 12) pe_int (fun _ _ => rfl)) po_none (po_some (pe_un un_neg pe_int))) (pe_revL (pe_slice sl_list (pe_ix ix_list (pv 12) pe_int (fun _ _ => rfl)) (po_some (pe_un un_neg pe_int)) po_none))) pa_nil))))
  (pss_cons (by exact (ps_for PassesOwn.never rfl (by exact pi_list (pv 12)) (pg_name (i := 13) nd rfl (.inl rfl)) (pss_cons (by exact (ps_set (i := 14) nd rfl (.inl rfl) (pe_cmpR op_isN (pe_call GB hr2 rfl mB kB bB .nil pass0 (pa_cons (pv 4) (pa_cons (pv 13) pa_nil))) pe_non (nomark _))))
  (pss_cons (by exact (ps_set (i := 15) nd rfl (.inl rfl) (pe_lst (pa_cons (pe_call GN hr9 rfl mN kN bN .nil passL (pa_cons (pv 2) (pa_cons (pv 5) (pa_cons (pe_call GH hr4 rfl mH kH bH .nil pass0 (pa_cons (pv 0) (pa_cons (pv 13) pa_nil))) pa_nil)))) pa_nil))))
  (pss_cons (by exact (ps_expr (pe_bm PySem.F.plainAttrs_list PySem.F.slot_list_append PySem.F.type_list_append mt_append (pv 15) (pa_cons (pe_callN GN hr9 rfl mN kN nN passL (pk_cons (pv 13) (pk_cons (pv 3) (pk_cons (pv 2) pk_nil)))) pa_nil))))
  (pss_one (by exact (ps_if (pt_not (pt_val (pe_call GQ hr7 rfl mQ kQ bQ .nil pass0 (pa_cons (pv 15) (pa_cons (pe_op op_rep (pe_lst (pa_cons (pv 14) pa_nil)) pe_int) pa_nil))))) (pss_one (by exact (ps_ret pe_bl))) pss_nil))))))))
  (pss_one (by exact (ps_ret (pe_and (pe_cmpR op_isBl (pe_call GN hr9 rfl mN kN bN .nil passL (pa_cons (pv 2) (pa_cons (pv 5) (pa_cons (pv 11) pa_nil)))) pe_bl (nomark _)) (pe_one (pe_cmpR op_eq (pe_callB (cr_reprS hA hu64) rfl mrp (by decide +kernel) (pa_cons (pv 5) pa_nil)) (pv 9) (nomark _))))))))))))))))), ?_⟩
  have lr : rs.length ≤ 59 := by have := ok.rl; have := ok.le; omega
  have ndr : rs.Nodup := ok.cut.1
  have frs := ok.cut.forest
  have nms : ∀ e ∈ rs, nameOk e.1 = true ∧ nameOk e.2 = true := fun e he => by
    have := ok.ends e he
    exact ⟨(ok.good.2 _ this.1).1, (ok.good.2 _ this.2).1⟩
  have lq : qs.length = rs.length := va.pr.length
  have lqm : (qs.map V.ref).length = rs.length := by rw [List.length_map, lq]
  have lls : ls.length = sps.length := sp.pr.length
  -- the table of spans, the spans as they are handed
  with_reducible refine sQ (asg_run (tup_runE (cons_run ?_)))
  refine known_run rfl rfl va.t0 va.h2 va.pr sp.h sp.pr lsr ndr fun d H1 e1 nd1 kn1 => ?_
  have s1 := hs.same e1
  have k1 : Kept a H H1 := Kept.same e1
  refine ⟨_, rfl, _, rfl, a, .ref s, sps.map spI, n, fun z => z = a, rfl, s1, by omega, rfl, fun z hz => by rw [hz]; exact s1.kept, ⟨ls.map V.ref, ⟨s, rfl, .inl (wo_some.mpr ⟨sp.n, e1 _ _ sp.h⟩)⟩, by rw [List.length_map]; omega, ?_⟩, fun y H2 k2 s2 hy => ?_⟩
  · refine two_maps (paired_imp (fun l e ht => ?_) sp.pr)
    have ht : H l = _ := ht
    have la : l ≠ a := fun z => by
      obtain ⟨x0, y0, z0, e0, _⟩ := hs
      rw [z, e0] at ht
      cases ht
    exact ⟨spI e, ⟨l, rfl, .inr (wo_some.mpr ⟨la, e1 _ _ ht⟩)⟩, (by show 2 ≤ 60; decide), .cons (flat_int _) (.cons (flat_int _) .nil)⟩
  have spv : SpsV (nt (wo (fun z => z = a) H2)) y sps := (hand_sps hy).nt
  obtain ⟨b, dd, rfl, d1, d2, d3, d4, dp⟩ := sps_show (K := K) spv sp.small (by omega)
  refine ⟨(by show 0 ≤ sizeLine; decide), fun D hD => ?_⟩
  have e3 := K1.Same.upd (H := H2) (p := D) (o := .lst []) hD
  have gD3 := upd_same' H2 D (.lst [])
  generalize L2.upd H2 D (.lst []) = H3 at e3 gD3 ⊢
  refine ⟨(by show 3 ≤ sizeLine; decide), fun U hU => ?_⟩
  have e4 := K1.Same.upd (H := H3) (p := U) (o := .tup [.ref d, .ref b, .ref D]) hU
  have gU := upd_same' H3 U (.tup [.ref d, .ref b, .ref D])
  generalize L2.upd H3 U (.tup [.ref d, .ref b, .ref D]) = H4 at e4 gU ⊢
  refine ⟨U, _, rfl, SqT.of gU, rfl, _, _, rfl, _, _, rfl, _, _, rfl, rfl, ?_⟩
  with_reducible refine sQ ?_
  have k12 := k1.trans k2
  have e24 := e3.trans e4
  have k4 : Kept a H H4 := k12.trans (Kept.same e24)
  have s4 := s2.same e24
  have va4 := va.kept hs k4
  have kn4 := (kn1.kept s1 k2).ext e24
  have gD4 := e4 _ _ gD3
  have Da : D ≠ a := s2.ne hD
  have D0 : H D = none := by
    cases e : H D with
    | none => rfl
    | some o =>
      have := k12 _ _ Da e
      rw [hD] at this
      cases this
  have nDt : ∀ {q : Addr} {e : Str × Str}, TupP H4 q e → q ≠ D := fun {q e} h z => by
    have h : H4 q = _ := h
    rw [z, gD4] at h
    cases h
  have D2 : D ≠ t ∧ D ≠ p2 := ⟨(fun z => by have := va.t0; rw [← z, D0] at this; cases this), (fun z => by have := va.h2; rw [← z, D0] at this; cases this)⟩
  have dD : d ≠ D := fun z => by
    obtain ⟨l4, h4, _⟩ := kn4
    rw [z, gD4] at h4
    cases h4
  -- who is surely ahead, by the law
  refine ⟨_, rfl, t, _, 1, .ref p2, rfl, rfl, SqL.of va4.t0, rfl, p2, rfl, ⟨_, SqL.of va4.h2⟩, ?_⟩
  have knk : ∀ {Hx : Hp}, Kept D H4 Hx → KnV Hx d rs sps := fun {Hx} k => by
    obtain ⟨l4, h4, g4, r4⟩ := kn4
    exact ⟨l4, k _ _ dD h4, g4, paired_imp (fun l e h => k _ _ (fun z => by rw [z, gD4] at h; cases h) h) r4⟩
  have tpk : ∀ {Hx : Hp}, Kept D H4 Hx → ∀ {q : Addr} {e : Str × Str}, TupP H4 q e → TupP Hx q e := fun {Hx} k {q e} h => k _ _ (nDt h) h
  refine for_it walk_list (fun i σ Hc => (∃ y7 y8, σ = [some (.ref a), some (.ref t), some (.ref x), some (.ref s), some (.ref d), some (.ref b), some (.ref D), y7, y8, none, none, none, none, none, none, none]) ∧ Kept D H4 Hc ∧
    ∃ zs : List Addr, Hc D = some (.lst (zs.map V.ref)) ∧ PairsV Hc qs zs ((List.range i).flatMap (aheadOf sps rs.length)) ∧ zs.length ≤ i * 60) ⟨⟨_, _, rfl⟩, Kept.refl, [], gD4, .nil, Nat.zero_le _⟩ (fun i σ Hc _ h => SqL.of (h.2.1 _ _ D2.2.symm va4.h2)) ?_ ?_
  · rintro i v σ Hc H' hi ⟨⟨y7, y8, rfl⟩, c1, zs, c2, c3, c4⟩ ⟨rfl, hv⟩
    rw [lqm] at hi
    obtain ⟨q1, eq1, tq1⟩ := paired_get va4.pr hi
    have ev : v = .ref q1 := by
      rw [List.getElem?_map, eq1] at hv
      exact (Option.some.inj hv).symm
    subst ev
    refine K1.gN ?_
    refine ⟨_, rfl, .inl ⟨rfl, _, SqL.of c2⟩, ?_⟩
    refine cons_run ?_
    refine ⟨_, rfl, t, _, 1, .ref p2, rfl, rfl, SqL.of (c1 _ _ D2.1.symm va4.t0), rfl, p2, rfl, ⟨_, SqL.of (c1 _ _ D2.2.symm va4.h2)⟩, fun L hL => ?_⟩
    have kH' : Kept D H4 H' := c1
    refine lc_it (Qd := _) walk_list (fun j Hd => Same H' Hd ∧ ∃ ts : List Addr, Hd L = some (.lst (ts.map V.ref)) ∧ PairsV Hd qs ts (((List.range j).filter fun j => ahB sps i j).map fun x => (i, x)) ∧ ts.length ≤ j) ⟨K1.Same.upd hL, [], upd_same, .nil, Nat.zero_le _⟩ (fun j Hd _ h => SqL.of (h.1 _ _ (c1 _ _ D2.2.symm va4.h2))) ?_ ?_
    · rintro j w Hd H'' hj ⟨m1, ts, g2, p2', l2⟩ ⟨rfl, hw⟩
      rw [lqm] at hj
      obtain ⟨q2, eq2, tq2⟩ := paired_get va4.pr hj
      have ew : w = .ref q2 := by
        rw [List.getElem?_map, eq2] at hw
        exact (Option.some.inj hw).symm
      subst ew
      have kd : Kept D H4 H'' := kH'.trans (Kept.same m1)
      refine ⟨rfl, ?_⟩
      refine ⟨_, rfl, _, rfl, _, rfl, d, q1, q2, rs, sps, i, j, hi, hj, rfl, knk kd, ndr, lsr, nms, tpk kd tq1, tpk kd tq2, ⟨_, rfl, ?_⟩⟩
      cases ha : ahB sps i j with
      | true =>
        refine iteT ?_
        refine ⟨_, rfl, _, rfl, (by show 2 ≤ sizeLine; decide), fun T hT => ?_⟩
        have e6 := K1.Same.upd (H := H'') (p := T) (o := .tup [.ref q1, .ref q2]) hT
        have gT := upd_same' H'' T (.tup [.ref q1, .ref q2])
        generalize L2.upd H'' T (.tup [.ref q1, .ref q2]) = H6 at e6 gT ⊢
        have g6 := e6 _ _ g2
        have TL : T ≠ L := fun z => by rw [z, g6] at gT; cases gT
        refine ⟨_, g6, by rw [List.length_map]; exact small1000 (by omega), ps_same_upd (m1.trans e6) hL, ts ++ [T], by rw [upd_same, List.map_append]; rfl, ?_, by rw [List.length_append]; exact Nat.succ_le_succ l2⟩
        rw [range_snoc_filter, if_pos ha]
        have p6 := (p2'.keep g2 (Kept.same e6)).keep g6 (Kept.upd (o := .lst (ts.map V.ref ++ [.ref T])))
        exact paired_snoc p6 ⟨q1, q2, eq1, eq2, by rw [upd_ne TL]; exact gT⟩
      | false =>
        refine iteF ⟨m1, ts, g2, ?_, by omega⟩
        rw [range_snoc_filter, if_neg (by rw [ha]; exact Bool.false_ne_true), List.append_nil]
        exact p2'
    · rintro Hd ⟨m1, ts, g2, p2', l2⟩
      rw [lqm] at p2' l2
      have gD := m1 _ _ c2
      have lz : zs.length ≤ 60 * 60 := Nat.le_trans c4 (Nat.mul_le_mul_right _ (by omega))
      refine ⟨D, L, _, _, rfl, rfl, gD, g2, by rw [List.length_map, List.length_map, sizeLine_eq]; omega, ⟨_, _, rfl⟩, fun b0 o nb hb => ?_, zs ++ ts, by rw [upd_same, List.map_append], ?_, by rw [List.length_append]; omega⟩
      · rw [upd_ne nb]
        exact m1 _ _ (c1 _ _ nb hb)
      · rw [range_snoc_flat]
        exact paired_app ((c3.keep c2 (Kept.same m1)).keep gD (Kept.upd (o := .lst (zs.map V.ref ++ ts.map V.ref)))) (p2'.keep gD (Kept.upd (o := .lst (zs.map V.ref ++ ts.map V.ref))))
  rintro σ Hc ⟨⟨y7, y8, rfl⟩, c1, zs, gD5, pz, lz⟩
  rw [lqm] at pz lz
  have lz2 : zs.length ≤ 3600 := Nat.le_trans lz (Nat.mul_le_mul_right 60 (show rs.length ≤ 60 by omega))
  have k5 : Kept a H Hc := fun b0 o nb hb => c1 _ _ (fun z => by rw [z, D0] at hb; cases hb) (k4 _ _ nb hb)
  have s5 : Spr Hc a (n + 61) := s4.keptx Da.symm c1
  have va5 := va.kept hs k5
  have iv5 := iv.kept hs k5
  have kn5 := knk c1
  have sb5 : Same (nt (wo (fun z => z = a) H2)) Hc := fun b0 o h => by
    obtain ⟨nb, h⟩ := wo_some.mp (nt_some.mp h).1
    refine c1 _ _ (fun z => ?_) (e24 _ _ h)
    rw [z, hD] at h
    cases h
  with_reducible refine sQ ?_
  -- what the program tells
  refine ⟨_, rfl, .ref b, dd.shown, rfl, .inl ⟨b, dd, rfl, dp Hc sb5, d1, d2, d3, d4, rfl⟩, ?_⟩
  have sok : ∀ {Hx : Hp}, Same (nt (wo (fun z => z = a) H2)) Hx → SpsOk Hx (.ref b) rs sps := fun {Hx} e => ⟨spv.ext e, sp.good, lsr⟩
  refine ⟨_, rfl, _, rfl, .ref x, .ref b, rfl, .inr ⟨x, ss, rs, ns, rfl, iv5.is, by omega, .inr ⟨sps, sok sb5, fun r ts qs' H6 e6 nr gr pq' pv' => ⟨_, _, rfl, ?_⟩⟩⟩⟩
  with_reducible refine sQ ?_
  have pz6 := pz.keep gD5 (Kept.same e6)
  have va6 := va5.kept s5 (Kept.same e6)
  have lts : ts.length = zs.length := pv'.length.trans pz.length.symm
  have sameL : ∀ {Hx : Hp} {r1 : Addr} {ts1 qs1 : List Addr}, Hx r1 = some (.lst (ts1.map V.ref)) → Hx D = some (.lst (zs.map V.ref)) → Paired (TupP Hx) qs1 rs → Paired (TupP Hx) qs rs → PairsV Hx qs1 ts1 (aheadL sps rs.length) → PairsV Hx qs zs (aheadL sps rs.length) → RF 7 Hx (.ref r1) (.ref D) := fun {Hx r1 ts1 qs1} g1 g2 h1 h2 h3 h4 => by
    have l1 : ts1.length = zs.length := h3.length.trans h4.length.symm
    exact r_listsL (R := RF 6) g1 g2 (by rw [List.length_map]; omega) (r_pairsV (n := 3) h1 h2 h3 h4)
  refine ⟨_, rfl, _, rfl, .ref r, .ref D, rfl, sameL gr (e6 _ _ gD5) pq' va6.pr pv' pz6, fun H7 e7 => ⟨_, rfl, iteF (nQ ?_)⟩⟩
  with_reducible refine sQ ?_
  -- what was told is changed
  have e57 := e6.trans e7
  refine ⟨_, rfl, .inl ⟨rfl, _, SqL.of (e7 _ _ gr)⟩, r, _, _, rfl, rfl, e7 _ _ gr, by rw [List.length_map, sizeLine_eq]; omega, ?_⟩
  have e58 : Same Hc (L2.upd H7 r (.lst (ts.map V.ref ++ [.str "late"]))) := ps_same_upd e57 nr
  generalize L2.upd H7 r (.lst (ts.map V.ref ++ [.str "late"])) = H8 at e58 ⊢
  with_reducible refine sQ ?_
  have k8 := k5.trans (Kept.same e58)
  have s8 := s5.same e58
  have iv8 := iv.kept hs k8
  have spK : ∀ {Hx : Hp}, Kept a H Hx → SpsOk Hx (.ref s) rs sps := fun {Hx} k => ⟨⟨ls.map V.ref, ⟨s, rfl, .inl (k _ _ sp.n sp.h)⟩, tupI_spa (paired_imp (fun l e h => k _ _ (fun z => by
    obtain ⟨x0, y0, z0, e0, _⟩ := hs
    have h : H l = _ := h
    rw [z, e0] at h
    cases h) h) sp.pr)⟩, sp.good, lsr⟩
  refine ⟨_, rfl, _, rfl, rfl, .ref x, .ref s, rfl, .inr ⟨x, ss, rs, ns, rfl, iv8.is, by omega, .inr ⟨sps, spK k8, fun r2 ts2 qs2 H9 e9 n9 g9 pq9 pv9 => ?_⟩⟩⟩
  have e59 := e58.trans e9
  have va9 := va5.kept s5 (Kept.same e59)
  refine ⟨_, rfl, .ref r2, .ref D, rfl, sameL g9 (e59 _ _ gD5) pq9 va9.pr pv9 (pz.keep gD5 (Kept.same e59)), fun H10 e10 => ⟨_, rfl, iteF (nQ ?_)⟩⟩
  with_reducible refine sQ ?_
  have e5x := e59.trans e10
  have k10 := k5.trans (Kept.same e5x)
  have s10 := s5.same e5x
  have va10 := va.kept hs k10
  have kn10 := kn5.ext e5x
  have tb10 : LamX.Tabs TT H10 := hs.tabs tb k10
  have qnd : qs.Nodup := qs_nodup va.pr ndr
  -- the roads by rising spans
  refine ⟨_, rfl, t, _, 1, .ref p2, rfl, rfl, SqL.of va10.t0, rfl, tb10, p2, d, qs.map V.ref, spanAt qs sps, rfl, va10.h2, by omega, rfl, fun u hu' => ?_, fun p us' H11 eN T11 hp pm pw => ?_⟩
  · obtain ⟨q0, hq0, rfl⟩ := List.mem_map.mp hu'
    have hl := List.idxOf_lt_length_of_mem hq0
    have hr0 : qs.idxOf q0 < rs.length := by omega
    obtain ⟨b0, eb0, tb0⟩ := paired_get va10.pr hr0
    rw [List.getElem?_eq_getElem hl, List.getElem_idxOf] at eb0
    obtain rfl := Option.some.inj eb0
    obtain ⟨l, gl, hl2⟩ := kn10.get ndr lsr hr0 tb0
    have es : spanAt qs sps (.ref q0) = sps[qs.idxOf q0]'(by omega) := by
      show (sps[qs.idxOf q0]?).getD (0, 0) = _
      rw [List.getElem?_eq_getElem (by omega)]
      rfl
    exact ⟨q0, l, rfl, gl, by rw [es]; exact hl2⟩
  obtain ⟨mq, rfl, pmq⟩ := perm_refs pm
  obtain ⟨es3, pms, ptm⟩ := perm_tups va10.pr pmq
  have e12 := K1.Same.upd (H := H11) (p := p) (o := .lst (mq.map V.ref)) hp
  have gp := upd_same' H11 p (.lst (mq.map V.ref))
  generalize L2.upd H11 p (.lst (mq.map V.ref)) = H12 at e12 gp ⊢
  have x12 : LamX.ExtN H10 H12 := eN.trans (LamX.ExtN.of e12)
  have s12 := s10.nn x12
  have va12 := va10.extN x12
  have iv12 := (iv.kept hs k10).extN x12
  have kn12 := kn10.extN x12
  have tb12 : LamX.Tabs TT H12 := tabs_same T11 e12
  have pa : p ≠ a := (s10.nn eN).ne hp
  have cl12 : ClAt a H12 p mq rs es3 := ⟨gp, pa, paired_imp (fun q e h => x12 _ _ h (fun _ z => by cases z)) ptm, pms⟩
  have can3 : CanB sps (jsOf rs es3) := by
    rw [js_of_qs va10.pr ndr (fun q hq => pmq.mem_iff.mp hq) ptm]
    refine rise_can sp.good (fun j hj => ?_) ?_ ?_
    · obtain ⟨q0, hq0, rfl⟩ := List.mem_map.mp hj
      have := List.idxOf_lt_length_of_mem (pmq.mem_iff.mp hq0)
      omega
    · rw [← js_of_qs va10.pr ndr (fun q hq => pmq.mem_iff.mp hq) ptm]
      exact (cl12.at_ frs).2.1
    · have pw2 : mq.Pairwise (fun a b => SrtKd.lexL (spanAt qs sps (.ref a)) (spanAt qs sps (.ref b))) := (List.pairwise_map (f := V.ref) (R := fun x y => SrtKd.lexL (spanAt qs sps x) (spanAt qs sps y))).mp pw
      exact (List.pairwise_map (f := fun q => qs.idxOf q) (R := fun i j => SrtKd.lexL ((sps[i]?).getD (0, 0)) ((sps[j]?).getD (0, 0)))).mpr pw2
  have xA : ExtA a H H12 := fun b0 o nb hb nt' => x12 _ _ (k10 _ _ nb hb) nt'
  have g0 : ∀ {Hx : Hp}, Kept a H12 Hx → Same (nt (wo (fun z => z = a) H2)) Hx := fun {Hx} k b0 o h => by
    obtain ⟨h1, h2⟩ := nt_some.mp h
    obtain ⟨nb, h3⟩ := wo_some.mp h1
    exact k _ _ nb (x12 _ _ (e5x _ _ (sb5 _ _ h)) h2)
  have sp12 : ∀ {Hx : Hp}, Kept a H12 Hx → SpsOk Hx (.ref s) rs sps := fun {Hx} k => by
    refine ⟨⟨ls.map V.ref, ⟨s, rfl, .inl (k _ _ sp.n (xA _ _ sp.n sp.h fun _ z => by cases z))⟩, tupI_spa (paired_imp (fun l e h => ?_) sp.pr)⟩, sp.good, lsr⟩
    have h : H l = _ := h
    have la : l ≠ a := fun z => by
      obtain ⟨x0, y0, z0, e0, _⟩ := hs
      rw [z, e0] at h
      cases h
    exact k _ _ la (xA _ _ la h fun _ z => by cases z)
  refine K1.gN ?_
  with_reducible refine sQ ?_
  -- the evenings
  refine ⟨_, rfl, _, rfl, a, t, p1, p2, .ref p3, qs, ss, rs, n + 61, rfl, s12, by omega, ok.frm va12, va12.n2, fun v1 cq1 es1 H13 n13 k13 s13 cl1 => ?_⟩
  have va13 := va12.kept s12 k13
  refine ⟨_, rfl, _, rfl, _, rfl, a, t, d, p2, .ref p1, .ref p3, qs, rs, sps, n + 61 + 60, rfl, s13, by omega, va13.t0, va13.n0, va13.h2, va13.n2, va13.pr, kn12.kept s12 k13, ndr, lr, lsr, sp.good, nms, fun v2 cq2 es2 H14 n14 k14 s14 cl2 => ?_⟩
  refine ⟨_, rfl, (by show 3 ≤ sizeLine; decide), fun So hSo => ?_⟩
  have e15 := K1.Same.upd (H := H14) (p := So) (o := .lst [.ref v1, .ref v2, .ref p]) hSo
  have gSo := upd_same' H14 So (.lst [.ref v1, .ref v2, .ref p])
  generalize L2.upd H14 So (.lst [.ref v1, .ref v2, .ref p]) = H15 at e15 gSo ⊢
  refine K1.gN ?_
  with_reducible refine sQ ?_
  have k1415 : Kept a H13 H15 := k14.trans (Kept.same e15)
  have k15 : Kept a H12 H15 := k13.trans k1415
  have s15 := s14.same e15
  have Soa : So ≠ a := s14.ne hSo
  have cl1' := cl1.kept s13 k1415
  have cl2' := cl2.kept s14 (Kept.same e15)
  have cl3' := cl12.kept s12 k15
  -- a good one, its last two the other way round
  refine ⟨_, rfl, .inl ⟨rfl, _, SqL.of gSo⟩, ?_⟩
  refine cons_run ?_
  have lc2 : (cq2.map V.ref).length = rs.length := by rw [List.length_map, cl2.pr.length, cl2.perm.length_eq]
  obtain ⟨ct1, ct2⟩ := cut_last2 (xs := cq2.map V.ref) (by omega)
  refine ⟨_, rfl, So, _, 1, .ref v2, rfl, rfl, SqL.of gSo, rfl, _, rfl, _, rfl, v2, cq2.map V.ref, rfl, SqL.of cl2'.h, fun X1 hX1 => ?_⟩
  generalize hW1 : L2.upd H15 X1 _ = H16
  have g16 : H16 X1 = some (.lst ((cq2.map V.ref).take (rs.length - 2))) := by
    rw [← hW1, upd_same, ← lc2]
    exact congrArg (fun l => some (HO.lst l)) ct1
  have e16 : Same H15 H16 := by
    rw [← hW1]
    exact K1.Same.upd hX1
  clear hW1
  refine ⟨_, rfl, So, _, 1, .ref v2, rfl, rfl, SqL.of (e16 _ _ gSo), rfl, _, rfl, _, rfl, v2, cq2.map V.ref, rfl, SqL.of (e16 _ _ cl2'.h), fun X2 hX2 => ?_⟩
  generalize hW2 : L2.upd H16 X2 _ = H17
  have g17 : H17 X2 = some (.lst ((cq2.map V.ref).drop (rs.length - 2))) := by
    rw [← hW2, upd_same, ← lc2]
    exact congrArg (fun l => some (HO.lst l)) ct2
  have e17 : Same H16 H17 := by
    rw [← hW2]
    exact K1.Same.upd hX2
  clear hW2
  refine ⟨X2, _, rfl, SqL.of g17, fun X3 hX3 => ?_⟩
  have e18 := K1.Same.upd (H := H17) (p := X3) (o := .lst ((cq2.map V.ref).drop (rs.length - 2)).reverse) hX3
  have g18 := upd_same' H17 X3 (.lst ((cq2.map V.ref).drop (rs.length - 2)).reverse)
  generalize L2.upd H17 X3 (.lst ((cq2.map V.ref).drop (rs.length - 2)).reverse) = H18 at e18 g18 ⊢
  refine ⟨X1, X3, _, _, rfl, rfl, e18 _ _ (e17 _ _ g16), g18, by rw [List.length_reverse, List.length_take, List.length_drop, sizeLine_eq]; omega, fun X4 hX4 => ?_⟩
  have e19 := K1.Same.upd (H := H18) (p := X4) (o := .lst ((cq2.map V.ref).take (rs.length - 2) ++ ((cq2.map V.ref).drop (rs.length - 2)).reverse)) hX4
  have g19 := upd_same' H18 X4 (.lst ((cq2.map V.ref).take (rs.length - 2) ++ ((cq2.map V.ref).drop (rs.length - 2)).reverse))
  generalize L2.upd H18 X4 (.lst ((cq2.map V.ref).take (rs.length - 2) ++ ((cq2.map V.ref).drop (rs.length - 2)).reverse)) = H19 at e19 g19 ⊢
  have e1519 : Same H15 H19 := e16.trans (e17.trans (e18.trans e19))
  have s19 := s15.same e1519
  have X4a : X4 ≠ a := (s15.same (e16.trans (e17.trans e18))).ne hX4
  have cl19 : ClAt a H19 X4 _ rs _ := (cl2'.kept s15 (Kept.same e1519)).swap (rs.length - 2) X4a g19
  refine ⟨So, _, _, rfl, rfl, e1519 _ _ gSo, by show 3 < sizeLine; decide, ?_⟩
  have kS : Kept So H19 (L2.upd H19 So (.lst ([.ref v1, .ref v2, .ref p] ++ [.ref X4]))) := Kept.upd
  have gS20 : L2.upd H19 So (.lst ([.ref v1, .ref v2, .ref p] ++ [.ref X4])) So = some (.lst [.ref v1, .ref v2, .ref p, .ref X4]) := upd_same
  have gS19 := e1519 _ _ gSo
  generalize L2.upd H19 So (.lst ([.ref v1, .ref v2, .ref p] ++ [.ref X4])) = H20 at kS gS20 ⊢
  have So12 : H12 So = none := by
    cases e : H12 So with
    | none => rfl
    | some o =>
      have := k14 _ _ Soa (k13 _ _ Soa e)
      rw [hSo] at this
      cases this
  have k20 : Kept a H12 H20 := fun b0 o nb hb => kS _ _ (fun z => by rw [z, So12] at hb; cases hb) (e1519 _ _ (k15 _ _ nb hb))
  have s20 : Spr H20 a (n + 61 + 60 + 200) := s19.keptx Soa.symm kS
  have clS : ∀ {c : Addr} {cq : List Addr} {es : List (Str × Str)}, ClAt a H19 c cq rs es → c ≠ So → ClAt a H20 c cq rs es := fun {c cq es} cl nc => ⟨kS _ _ nc cl.h, cl.n, paired_imp (fun q e h => kS _ _ (fun z => by
    have h : H19 q = _ := h
    rw [z, gS19] at h
    cases h) h) cl.pr, cl.perm⟩
  have nSo : ∀ {c : Addr} {cq : List Addr} {es : List (Str × Str)}, ClAt a H14 c cq rs es → c ≠ So := fun {c cq es} cl z => by
    have := cl.h
    rw [z, hSo] at this
    cases this
  have all4 : ∀ c, V.ref c ∈ [V.ref v1, .ref v2, .ref p, .ref X4] → ∃ cq es, ClAt a H20 c cq rs es := fun c hc => by
    simp only [List.mem_cons, List.not_mem_nil, or_false, V.ref.injEq] at hc
    rcases hc with rfl | rfl | rfl | rfl
    · exact ⟨_, _, clS (cl1'.kept s15 (Kept.same e1519)) (nSo (cl1.kept s13 k14))⟩
    · exact ⟨_, _, clS (cl2'.kept s15 (Kept.same e1519)) (nSo cl2)⟩
    · exact ⟨_, _, clS (cl3'.kept s15 (Kept.same e1519)) (nSo ((cl12.kept s12 k13).kept s13 k14))⟩
    · exact ⟨_, _, clS cl19 (fun z => by
        have := (e16.trans (e17.trans e18)) _ _ gSo
        rw [← z, hX4] at this
        cases this)⟩
  with_reducible refine sQ ?_
  -- each is asked of
  refine ⟨_, rfl, So, rfl, ⟨_, SqL.of gS20⟩, ?_⟩
  refine for_it walk_list (fun i σ Hc => (∃ y13 y14 y15, σ = [some (.ref a), some (.ref t), some (.ref x), some (.ref s), some (.ref d), some (.ref b), some (.ref D), y7, y8, some (.str dd.shown), some (.ref r), some (.ref p), some (.ref So), y13, y14, y15]) ∧ Kept a H20 Hc ∧ Spr Hc a (n + 400 + 200 * i)) ⟨⟨_, _, _, rfl⟩, Kept.refl, s20.mono (by omega)⟩ (fun i σ Hc _ h => SqL.of (h.2.1 _ _ Soa gS20)) ?_ ?_
  · rintro i v σ Hc H' hi ⟨⟨y13, y14, y15, rfl⟩, c1', c2'⟩ ⟨rfl, hv⟩
    have hi4 : i < 4 := hi
    obtain ⟨c, rfl, hc⟩ : ∃ c, v = .ref c ∧ V.ref c ∈ [V.ref v1, .ref v2, .ref p, .ref X4] := by
      have hm := List.mem_of_getElem? hv
      simp only [List.mem_cons, List.not_mem_nil, or_false] at hm
      rcases hm with rfl | rfl | rfl | rfl <;> exact ⟨_, rfl, by simp⟩
    obtain ⟨cq, es, cl20⟩ := all4 c hc
    have clc := cl20.kept s20 c1'
    obtain ⟨at_, jnd, jlen⟩ := clc.at_ frs
    have les : es.length = rs.length := clc.perm.length_eq
    have kc : Kept a H12 H' := k20.trans c1'
    have ltj : ∀ j ∈ jsOf rs es, j < rs.length := fun j hj => by
      obtain ⟨e0, he0, rfl⟩ := List.mem_map.mp hj
      exact List.idxOf_lt_length_of_mem (clc.perm.mem_iff.mp he0)
    refine K1.gN ?_
    with_reducible refine sQ ?_
    refine ⟨_, rfl, _, rfl, d, c, cq, rs, es, sps, jsOf rs es, rfl, kn12.kept s12 kc, ndr, lsr, nms, clc.h, clc.pr, at_, fun z H1' f1 hz => ⟨rfl, ?_⟩⟩
    have ez : decide (z = V.non) = decide (CanB sps (jsOf rs es)) := by
      rcases hz with ⟨c0, rfl⟩ | ⟨c0, r0, rfl⟩
      · rw [decide_eq_true c0, decide_eq_true rfl]
      · rw [decide_eq_false c0]
        exact decide_eq_false fun w => by cases w
    rw [ez]
    refine K1.gN ?_
    with_reducible refine sQ ?_
    have cl1x := clc.kept c2' (Kept.same f1)
    have s1x := c2'.same f1
    refine ⟨_, rfl, _, rfl, _, rfl, _, rfl, a, c, cq, es, n + 400 + 200 * i, rfl, s1x, by omega, cl1x.h, cl1x.n, cl1x.pr, by omega, fun y2 H2' k2' s2' hv2 => ?_⟩
    have k2x : Kept a H12 H2' := kc.trans ((Kept.same f1).trans k2')
    have ev2 := hand_ev frs hv2 at_ jnd jlen
    refine ⟨.ref x, .ref b, y2, rfl, .inr ⟨x, ss, rs, ns, rfl, (iv12.kept s12 k2x).is, ok.ends, by omega, .inr ⟨sps, sok (g0 k2x), .inr ⟨jsOf rs es, ev2, ltj, fun H3' f3 => ?_⟩⟩⟩⟩
    refine ⟨(by show 1 ≤ sizeLine; decide), fun Fn hFn => ?_⟩
    have f4 := K1.Same.upd (H := H3') (p := Fn) (o := .lst [.bl (decide (CanB sps (jsOf rs es)))]) hFn
    have gFn := upd_same' H3' Fn (.lst [.bl (decide (CanB sps (jsOf rs es)))])
    generalize L2.upd H3' Fn (.lst [.bl (decide (CanB sps (jsOf rs es)))]) = H4' at f4 gFn ⊢
    refine K1.gN ?_
    with_reducible refine sQ ?_
    have f34 := f3.trans f4
    have s4x := s2'.same f34
    have k4x : Kept a H12 H4' := k2x.trans (Kept.same f34)
    have cl4x := (cl1x.kept s1x k2').kept s2' (Kept.same f34)
    refine ⟨_, rfl, .inl ⟨rfl, _, SqL.of gFn⟩, ?_⟩
    refine cons_run ?_
    refine ⟨_, rfl, _, rfl, _, rfl, rfl, .ref x, .ref s, .ref c, rfl, .inr ⟨x, ss, rs, ns, rfl, (iv12.kept s12 k4x).is, ok.ends, by omega, .inr ⟨sps, sp12 k4x, .inr ⟨jsOf rs es, cl4x.ev frs (by omega), ltj, fun H5' f5 => ?_⟩⟩⟩⟩
    refine ⟨Fn, _, _, rfl, rfl, f5 _ _ gFn, by show 1 < sizeLine; decide, ?_⟩
    have Fna : Fn ≠ a := (s2'.same f3).ne hFn
    have kF : Kept Fn H5' (L2.upd H5' Fn (.lst ([.bl (decide (CanB sps (jsOf rs es)))] ++ [.bl (decide (CanB sps (jsOf rs es)))]))) := Kept.upd
    have gF6 : L2.upd H5' Fn (.lst ([.bl (decide (CanB sps (jsOf rs es)))] ++ [.bl (decide (CanB sps (jsOf rs es)))])) Fn = some (.lst [.bl (decide (CanB sps (jsOf rs es))), .bl (decide (CanB sps (jsOf rs es)))]) := upd_same
    generalize L2.upd H5' Fn (.lst ([.bl (decide (CanB sps (jsOf rs es)))] ++ [.bl (decide (CanB sps (jsOf rs es)))])) = H6' at kF gF6 ⊢
    have s6x : Spr H6' a (n + 400 + 200 * i + 200) := (s4x.same f5).keptx Fna.symm kF
    have Fn3 : H2' Fn = none := f3.free hFn
    have k6 : Kept a H20 H6' := fun b0 o nb hb => by
      have h := k2' _ _ nb (f1 _ _ (c1' _ _ nb hb))
      exact kF _ _ (fun z => by rw [z, Fn3] at h; cases h) (f5 _ _ (f34 _ _ h))
    refine ⟨_, rfl, _, rfl, (by show 1 ≤ sizeLine; decide), fun L1 hL1 => ?_⟩
    have f7 := K1.Same.upd (H := H6') (p := L1) (o := .lst [.bl (decide (CanB sps (jsOf rs es)))]) hL1
    have gL1 := upd_same' H6' L1 (.lst [.bl (decide (CanB sps (jsOf rs es)))])
    generalize L2.upd H6' L1 (.lst [.bl (decide (CanB sps (jsOf rs es)))]) = H7' at f7 gL1 ⊢
    refine ⟨L1, 2, _, rfl, rfl, gL1, by decide, by decide, by show 1 * 2 ≤ sizeLine; decide, fun L2' hL2 => ?_⟩
    have f8 := K1.Same.upd (H := H7') (p := L2') (o := .lst (List.replicate (2 : Int).toNat [V.bl (decide (CanB sps (jsOf rs es)))]).flatten) hL2
    have gL2 : L2.upd H7' L2' (.lst (List.replicate (2 : Int).toNat [V.bl (decide (CanB sps (jsOf rs es)))]).flatten) L2' = some (.lst [.bl (decide (CanB sps (jsOf rs es))), .bl (decide (CanB sps (jsOf rs es)))]) := upd_same
    generalize L2.upd H7' L2' (.lst (List.replicate (2 : Int).toNat [V.bl (decide (CanB sps (jsOf rs es)))]).flatten) = H8' at f8 gL2 ⊢
    have f68 := f7.trans f8
    refine ⟨.ref Fn, .ref L2', rfl, r_lists (R := RF 6) (f68 _ _ gF6) gL2 (by show 2 ≤ 100; decide) (.cons (r_bl _) (.cons (r_bl _) .nil)), fun H9' f9 => ⟨_, rfl, iteF ⟨⟨_, _, _, rfl⟩, k6.trans (Kept.same (f68.trans f9)), (s6x.same (f68.trans f9)).mono (by omega)⟩⟩⟩
  · rintro σ Hc ⟨⟨y13, y14, y15, rfl⟩, c1', c2'⟩
    have kc : Kept a H12 Hc := k20.trans c1'
    have clc := cl12.kept s12 kc
    have ltj : ∀ j ∈ jsOf rs es3, j < rs.length := fun j hj => by
      obtain ⟨e0, he0, rfl⟩ := List.mem_map.mp hj
      exact List.idxOf_lt_length_of_mem (clc.perm.mem_iff.mp he0)
    refine ⟨_, rfl, _, rfl, _, rfl, .ref x, .ref b, .ref p, rfl, .inr ⟨x, ss, rs, ns, rfl, (iv12.kept s12 kc).is, ok.ends, by omega, .inr ⟨sps, sok (g0 kc), .inr ⟨jsOf rs es3, clc.ev frs (by omega), ltj, fun Hz fz => ?_⟩⟩⟩⟩
    rw [decide_eq_true can3]
    refine ⟨true, true, rfl, rfl, ⟨_, rfl, iteT ?_⟩⟩
    have kz := kc.trans (Kept.same fz)
    refine ⟨_, rfl, .ref b, dd.shown, rfl, .inl ⟨b, dd, rfl, dp Hz (g0 kz), d1, d2, d3, d4, rfl⟩, ?_⟩
    refine ⟨_, rfl, rfl, ?_⟩
    rw [decide_eq_true rfl]
    exact q Hz (fun b0 o nb hb nt' => kz _ _ nb (xA _ _ nb hb nt')) ((c2'.same fz).mono (show n + 400 + 200 * 4 ≤ n + 3000 by omega)) (s12.tabs tb12 kz)
end
end K1
end
-- XRf
section
set_option Elab.async false
set_option linter.all false
set_option maxRecDepth 100000
set_option maxHeartbeats 4000000
namespace K1
open PySem PySem.Spec PyProof.Rows L2 W0
abbrev sRef : Stmt := top 63
theorem scRef : FnScope ["spring", "form", "made", "spans", "odd", "index", "found", "held"] ["spring", "form", "made", "spans"] (defScope sRef) := ⟨rfl, rfl, rfl, by decide +kernel, rfl, by decide +kernel, by decide +kernel⟩
def qRef : Str := "_law_refused_right.<locals>." ++ "<lambda>"
theorem same_reps {H : Hp} {tg : Str} {y : V} {W : Addr} (hW : H W = some (.tup [.str tg, y])) (r : (RF 5) H y y) : ∀ (n : Nat) {zs : List V}, Paired (TagP tg H) zs (List.replicate n y) → Paired (RF 6 H) zs (List.replicate n (.ref W))
  | 0, _, .nil => .nil
  | n + 1, _, .cons ⟨p, e, hp⟩ t => .cons (by subst e; exact r_tups hp hW (by show 2 ≤ 100; decide) (.cons (r_str _) (.cons r .nil))) (same_reps hW r n t)
theorem flat_rep {α : Type} {x : α} : ∀ n : Nat, (List.replicate n [x]).flatten = List.replicate n x
  | 0 => rfl
  | n + 1 => by
    rw [List.replicate_succ, List.flatten_cons, List.replicate_succ, flat_rep n]
    rfl
theorem chk_rep {K : PySem.W.Frag} {D : Ends} {σ : L2.St} {H : Hp} {Fd : Addr} {tg : Str} {y : V} {zs : List V} {i j : Nat} (n : Nat) (hn : n ≤ 10) (h1 : σ[i]? = some (some (.ref Fd))) (h0 : σ[j]? = some (some y)) (gF : H Fd = some (.lst zs)) (p : Paired (TagP tg H) zs (List.replicate n y)) (r : ∀ Hx, Same H Hx → (RF 5) Hx y y)
    (q : ∀ H', Same H H' → D.nx σ H') :
    tIfS (tNot (tB (tCall (spSm (RF 7)) [] E0 (tCons (tVar i) (tCons (tOp rRep (tLst (tCons (tTup (tCons (tC (.str tg)) (tCons (tVar j) tNil))) tNil)) (tC (.int (n : Int)))) tNil))))) (tRet (tC (V.bl false))) tNext D σ H := by
  refine ⟨_, h1, _, h0, (by show 2 ≤ sizeLine; decide), fun W hW => ⟨(by show 1 ≤ sizeLine; decide), fun L hL => ⟨L, (n : Int), _, rfl, rfl, upd_same, by omega, by omega, ?_, fun M hM => ?_⟩⟩⟩
  · show 1 * (n : Int).toNat ≤ 2 ^ 24
    omega
  have s1 := K1.Same.upd (H := H) (p := W) (o := .tup [.str tg, y]) hW
  have gW := upd_same' H W (.tup [.str tg, y])
  generalize L2.upd H W (.tup [.str tg, y]) = H7 at s1 gW hL hM ⊢
  have s2 := K1.Same.upd (H := H7) (p := L) (o := .lst [.ref W]) hL
  generalize L2.upd H7 L (.lst [.ref W]) = H8 at s2 hM ⊢
  have s3 := K1.Same.upd (H := H8) (p := M) (o := .lst (List.replicate (n : Int).toNat [V.ref W]).flatten) hM
  have gM : L2.upd H8 M (.lst (List.replicate (n : Int).toNat [V.ref W]).flatten) M = some (.lst (List.replicate n (V.ref W))) := by
    rw [upd_same, Int.toNat_natCast]
    rw [flat_rep]
  generalize L2.upd H8 M (.lst (List.replicate (n : Int).toNat [V.ref W]).flatten) = H9 at s3 gM ⊢
  have s69 : Same H H9 := s1.trans (s2.trans s3)
  have lz : zs.length = n := by rw [p.length, List.length_replicate]
  have pp : Paired (RF 6 H9) zs (List.replicate n (.ref W)) := same_reps (s3 _ _ (s2 _ _ gW)) (r _ s69) n (paired_imp (fun a b ⟨x, e, hx⟩ => ⟨x, e, s69 _ _ hx⟩) p)
  refine ⟨_, _, rfl, show NextF (RF 6) H9 (.ref Fd) (.ref M) from r_lists (s69 _ _ gF) gM (by omega) pp, fun H10 e10 => ⟨_, rfl, ?_⟩⟩
  exact iteF (q H10 (s69.trans e10))

theorem chk_one {TT : List (Addr × Str)} {CV CC CR : Addr} {D : Ends} {t : XK → TE} {σ : L2.St} {H : Hp} {tg fld : Str} {v : V} {j : Nat} (mb : MetBy CV CC tg fld CR) (tb : LamX.Tabs TT H) (hj : σ[j]? = some (some v)) (hg : ∀ H1, LamX.ExtN H H1 → ∀ (E : XK) (Q' : VK), GoesF CR [(fld, v)] H1 E → t E σ H1 Q') (r : ∀ Hx, LamX.ExtN H Hx → RF 6 Hx v v)
    (q : ∀ H', LamX.ExtN H H' → LamX.Tabs TT H' → D.nx σ H') :
    tIfS (tNot (tB (tCall (spSm (RF 7)) [] E0 (tCons (LamX.tLam TT (TMt CV CC) t) (tCons (tTup (tCons (tC (.str tg)) (tCons (tVar j) tNil))) tNil))))) (tRet (tC (V.bl false))) tNext D σ H := by
  show LamX.tLam TT (TMt CV CC) t σ H _
  refine met_by mb tb hg fun p H1 e T fr gp => ⟨_, hj, (by show 2 ≤ sizeLine; decide), fun W hW => ?_⟩
  have s := K1.Same.upd (H := H1) (p := W) (o := .tup [.str tg, v]) hW
  have gW := upd_same' H1 W (.tup [.str tg, v])
  generalize L2.upd H1 W (.tup [.str tg, v]) = H2 at s gW ⊢
  refine ⟨_, _, rfl, show NextF (RF 6) H2 (.ref p) (.ref W) from r_tups (s _ _ gp) gW (by show 2 ≤ 100; decide) (.cons (r_str _) (.cons (r _ (e.trans (LamX.ExtN.of s))) .nil)), fun H' e' => ⟨_, rfl, ?_⟩⟩
  exact iteF (q H' (e.trans (LamX.ExtN.of (s.trans e'))) (tabs_same T (s.trans e')))
def spRef (C : Addr) (TT : List (Addr × Str)) : Sp := fun vs H Q _ => ∃ (a t x s p1 p2 p3 : Addr) (qs ls : List Addr) (ss : List Str) (rs : List (Str × Str)) (ns : List Int) (sps : List (Int × Int)) (n : Nat), vs = [.ref a, .ref t, .ref x, .ref s] ∧ Spr H a n ∧ n + 400 ≤ 1000000 ∧ IsVO C a H x ss rs ns ∧ VAt a H t p1 p2 p3 qs ss rs ns ∧ VOk ss rs ns ∧ SpAt a H s ls sps ∧ sps.length = rs.length ∧ 1 ≤ rs.length ∧ LamX.Tabs TT H ∧
  ∀ H', ExtA a H H' → Spr H' a (n + 2) → LamX.Tabs TT H' → Q (.bl true) H'
section
variable {P : Program} {w : World} {K : PySem.W.Frag} {mg : Str → Option Value} {base : Heap} {C CV CC CB : Addr}
theorem ok_ref {f c TP fm fS fW fO fN fQ : Addr} {fdm sd sd2 od_ nd_ qd : FuncData} {oc kVx doc pm ct : Value} {od an : Option Addr} {osl : Array (Option Value)} (B : Bl mg) (lk : K.lookup f = some ⟨oc, od, .func (PySem.W.fnOf "_law_refused_right" "_law_refused_right" (defArgs sRef) (defBody sRef) (defScope sRef) .none kVx doc pm an (.ref c) ct), osl⟩) (hcd : PySem.W.codeIn K (.ref c) "_law_refused_right" = true)
    (MG : MetW K mg CB CC) (Fm : Fun K "_law_met" "_law_met" sMt fm fdm) (bm : Binds K fdm ["ask"] []) (mm : mg "_law_met" = some (.ref fm)) (TB : LamX.TabB base mg c TP) {TT : List (Addr × Str)} (hT : (TP, qRef) ∈ TT) (hU : ∀ p ∈ TT, p.1 = TP → p.2 = qRef)
    (GS : FnOk P w K mg base (L2.CX P w) 5 fS sd ["valley", "spans"] (spSa K C CV CB)) (bS : Binds K sd ["valley", "spans"] []) (kS : PySem.W.keepIn K (.ref fS) = true) (mS : mg "surely_ahead" = some (.ref fS))
    (GQ : FnOk P w K mg base CX0 7 fQ qd ["found", "due"] (spSm (RF 7))) (bQ : Binds K qd ["found", "due"] []) (kQ : PySem.W.keepIn K (.ref fQ) = true) (mQ : mg "_law_same" = some (.ref fQ))
    (GN : FnOk P w K mg base (L2.CX P w) 9 fN nd_ ["valley", "spans", "evening"] (spCn K C CV CC CB)) (bN : Binds K nd_ ["valley", "spans", "evening"] []) (kN : PySem.W.keepIn K (.ref fN) = true) (mN : mg "can_be" = some (.ref fN))
    (GW : FnOk P w K mg base CX0 2 fW sd2 ["spring", "spans"] (spBs K)) (bW : Binds K sd2 ["spring", "spans"] []) (kW : PySem.W.keepIn K (.ref fW) = true) (mW : mg "_law_d_bad_spans" = some (.ref fW))
    (GO : FnOk P w K mg base CX0 2 fO od_ ["spring", "form"] (spBe K)) (bO : Binds K od_ ["spring", "form"] []) (kO : PySem.W.keepIn K (.ref fO) = true) (mO : mg "_law_v_bad_evenings" = some (.ref fO)) :
    FnOk P w K mg base CX0 13 f (PySem.W.fnOf "_law_refused_right" "_law_refused_right" (defArgs sRef) (defBody sRef) (defScope sRef) .none kVx doc pm an (.ref c) ct) ["spring", "form", "made", "spans"] (spRef C TT) := by
  obtain ⟨ocm, odm, kVm, docm, pmm, anm, cdvm, ctm, oslm, rfl, lkm, hcm⟩ := Fm.ex
  have km := Fm.kp
  refine fn_of lk hcd scRef (fun vs H Q E h => ?_) (fun A outer s0 H vs Q E hrL h => ?_)
  · obtain ⟨a, t, x, s, p1, p2, p3, qs, ls, ss, rs, ns, sps, n, rfl, _⟩ := h
    rfl
  obtain ⟨a, t, x, s, p1, p2, p3, qs, ls, ss, rs, ns, sps, n, rfl, hs, hn, iv, va, ok, sp, lsr, pos, tb, q⟩ := h
  suffices hh : ∃ t0, PSs (cxOf CX0 P w K mg base ["spring", "form", "made", "spans", "odd", "index", "found", "held"] "_law_refused_right" (defScope sRef) f (.ref c) A outer s0 H E).nox (defBody sRef) t0 ∧ t0 { nx := fun _ H' => Q .non H', rt := Q } (L2.start ["spring", "form", "made", "spans", "odd", "index", "found", "held"] [.ref a, .ref t, .ref x, .ref s]) H by
    obtain ⟨t0, h1, h2⟩ := hh
    exact ⟨t0, h1.nox, h2⟩
  have nd := scRef.nd
  have hu := hu_of hrL
  have hr7 : Room 7 _ := hrL.mono (by decide)
  have hr2 : Room 2 _ := hrL.mono (by decide)
  refine ⟨_, (pss_cons (by exact (ps_for PassesOwn.never rfl (by exact pi_list (pe_call GW hr2 rfl mW kW bW .nil pass0 (pa_cons (pv 0) (pa_cons (pv 3) pa_nil)))) (pg_tup rfl (pgs_cons (pg_name (i := 4) nd rfl (.inr rfl)) (pgs_cons (pg_name (i := 5) nd rfl (.inl rfl)) pgs_nil))) (pss_cons (by exact (ps_set (i := 6) nd rfl (.inl rfl) (pe_lst (pa_cons (LamX.pe_lamcall (k := 10) (t := fun E => tCall (spSa K C CV CB) [] E (tCons (tVar 2) (tCons (tVar 4) tNil))) rfl mm km lkm hcm bm scMt rfl (.inl rfl) (mt_gives MG) TB rfl hT hU (by exact hrL) (LamX.lamS_by (by with_unfolding_all rfl)) rfl (fun _ _ _ _ _ => rfl) (fun A outer s H E f c' hz => by exact (pe_call GS (hz.mono (by decide)) rfl mS kS bS .nil (passes_call (takes_of rfl rfl rfl rfl) (fun _ _ _ _ h => h)) (pa_cons (pv 2) (pa_cons (pv 4) pa_nil))))) pa_nil))))
  (pss_cons (by exact (ps_expr (pe_bm PySem.F.plainAttrs_list PySem.F.slot_list_append PySem.F.type_list_append mt_append (pv 6) (pa_cons (LamX.pe_lamcall (k := 10) (t := fun E => tCall (spCn K C CV CC CB) [] E (tCons (tVar 2) (tCons (tVar 4) (tCons (tC .non) tNil)))) rfl mm km lkm hcm bm scMt rfl (.inl rfl) (mt_gives MG) TB rfl hT hU (by exact hrL) (LamX.lamS_by (by with_unfolding_all rfl)) rfl (fun _ _ _ _ _ => rfl) (fun A outer s H E f c' hz => by exact (pe_call GN (hz.mono (by decide)) rfl mN kN bN .nil (passes_call (takes_of rfl rfl rfl rfl) (fun _ _ _ _ h => h)) (pa_cons (pv 2) (pa_cons (pv 4) (pa_cons pe_non pa_nil)))))) pa_nil))))
  (pss_one (by exact (ps_if (pt_not (pt_val (pe_call GQ hr7 rfl mQ kQ bQ .nil pass0 (pa_cons (pv 6) (pa_cons (pe_op op_rep (pe_lst (pa_cons (pe_tup (pa_cons pe_str (pa_cons (pv 5) pa_nil))) pa_nil)) pe_int) pa_nil))))) (pss_one (by exact (ps_ret pe_bl))) pss_nil)))))))
  (pss_cons (by exact (ps_set (i := 7) nd rfl (.inr rfl) (pe_lst (pa_cons pe_str pa_nil))))
  (pss_cons (by exact (ps_for PassesOwn.never rfl (by exact pi_list (pe_op op_cat (pe_call GO hr2 rfl mO kO bO .nil pass0 (pa_cons (pv 0) (pa_cons (pv 1) pa_nil))) (pe_lst (pa_cons (pv 7) pa_nil)))) (pg_name (i := 4) nd rfl (.inr rfl)) (pss_one (by exact (ps_if (pt_not (pt_val (pe_call GQ hr7 rfl mQ kQ bQ .nil pass0 (pa_cons (LamX.pe_lamcall (k := 10) (t := fun E => tCall (spCn K C CV CC CB) [] E (tCons (tVar 2) (tCons (tVar 3) (tCons (tVar 4) tNil)))) rfl mm km lkm hcm bm scMt rfl (.inl rfl) (mt_gives MG) TB rfl hT hU (by exact hrL) (LamX.lamS_by (by with_unfolding_all rfl)) rfl (fun _ _ _ _ _ => rfl) (fun A outer s H E f c' hz => by exact (pe_call GN (hz.mono (by decide)) rfl mN kN bN .nil (passes_call (takes_of rfl rfl rfl rfl) (fun _ _ _ _ h => h)) (pa_cons (pv 2) (pa_cons (pv 3) (pa_cons (pv 4) pa_nil)))))) (pa_cons (pe_tup (pa_cons pe_str (pa_cons (pv 4) pa_nil))) pa_nil))))) (pss_one (by exact (ps_ret pe_bl))) pss_nil)))))
  (pss_cons (by exact (ps_set (i := 6) nd rfl (.inl rfl) (LamX.pe_lamcall (k := 10) (t := fun E => tCall (spCn K C CV CC CB) [] E (tCons (tVar 2) (tCons (tVar 3) (tCons (tVar 7) tNil)))) rfl mm km lkm hcm bm scMt rfl (.inl rfl) (mt_gives MG) TB rfl hT hU (by exact hrL) (LamX.lamS_by (by with_unfolding_all rfl)) rfl (fun _ _ _ _ _ => rfl) (fun A outer s H E f c' hz => by exact (pe_call GN (hz.mono (by decide)) rfl mN kN bN .nil (passes_call (takes_of rfl rfl rfl rfl) (fun _ _ _ _ h => h)) (pa_cons (pv 2) (pa_cons (pv 3) (pa_cons (pv 7) pa_nil))))))))
  (pss_cons (by exact (ps_expr (pe_bm PySem.F.plainAttrs_list PySem.F.slot_list_append PySem.F.type_list_append mt_append (pv 7) (pa_cons pe_str pa_nil))))
  (pss_one (by exact (ps_ret (pe_call GQ hr7 rfl mQ kQ bQ .nil pass0 (pa_cons (pv 6) (pa_cons (pe_tup (pa_cons pe_str (pa_cons (pe_lst (pa_cons pe_str (pa_cons pe_str pa_nil))) pa_nil))) pa_nil))))))))))), ?_⟩
  have tr := ok.tree
  have lr : rs.length ≤ 59 := by have := ok.rl; have := ok.le; omega
  have mbS : MetBy CB CC "spans" "index" CB := .inl ⟨rfl, rfl, rfl⟩
  have mbE : MetBy CB CC "evening" "evening" CC := .inr ⟨rfl, rfl, rfl⟩
  with_reducible refine sQ ?_
  refine ⟨_, rfl, _, rfl, a, s, ls, sps, rs, n, rfl, hs, by omega, sp.h, sp.n, sp.pr, sp.good, lsr, pos, lr, fun r ys H1 k1 s1 nr gr lys oky => ?_⟩
  refine ⟨r, rfl, ⟨_, SqL.of gr⟩, ?_⟩
  have tb1 := hs.tabs tb k1
  have iv1 := (iv.kept hs k1).is.nt
  refine for_it walk_list (fun k σ Hc => (∃ y4 y5 y6, σ = [some (.ref a), some (.ref t), some (.ref x), some (.ref s), y4, y5, y6, none]) ∧ LamX.ExtN H1 Hc ∧ LamX.Tabs TT Hc) ⟨⟨_, _, _, rfl⟩, LamX.ExtN.refl H1, tb1⟩ (fun k σ Hc _ h => SqL.of (h.2.1 _ _ gr (fun _ z => by cases z))) ?_ ?_
  · rintro k y σ Hc H' hk ⟨⟨y4, y5, y6, rfl⟩, g1, g2⟩ ⟨rfl, hy⟩
    obtain ⟨p, v, i, rfl, gp, bad⟩ := oky y (List.mem_of_getElem? hy)
    refine ⟨p, _, rfl, SqT.of (g1 _ _ (nt_some.mp gp).1 (fun _ z => by cases z)), rfl, _, _, rfl, _, _, rfl, rfl, ?_⟩
    with_reducible refine sQ ?_
    refine fnd_first mbS g2 (fun Ha ea E' Q' g => ⟨_, rfl, _, rfl, .ref x, v, rfl, .inr ⟨x, ss, rs, ns, rfl, iv1.same (nt_to (g1.trans ea)), by omega, .inl ⟨i, bad.ext (nt_to (g1.trans ea)), g⟩⟩⟩) fun Fd z1 H6 f1 => ?_
    refine K1.gN ?_
    with_reducible refine sQ ?_
    refine fnd_app (v := .int (i : Int)) mbS f1 (by simp) rfl (fun Ha ea E' Q' g => ⟨_, rfl, _, rfl, .ref x, v, .non, rfl, .inr ⟨x, ss, rs, ns, rfl, iv1.same (nt_to (g1.trans ea)), ok.ends, by omega, .inl ⟨i, bad.ext (nt_to (g1.trans ea)), g⟩⟩⟩) fun z2 Hh f2 => ?_
    refine chk_rep (K := K) (tg := "spans") (y := .int (i : Int)) (i := 6) (j := 5) 2 (by decide) rfl rfl f2.lst f2.prs (fun Hx ex => r_int _) fun Hz e' => ?_
    exact ⟨⟨_, _, _, rfl⟩, g1.trans (f2.ext.trans (LamX.ExtN.of e')), tabs_same f2.tb e'⟩
  rintro σ Hc ⟨⟨y4, y5, y6, rfl⟩, g1, g2⟩
  with_reducible refine sQ ?_
  refine ⟨(by show 1 ≤ sizeLine; decide), fun A1 hA1 => ?_⟩
  have u1 := K1.Same.upd (H := Hc) (p := A1) (o := .lst [.str "x"]) hA1
  have gA1 := upd_same' Hc A1 (.lst [.str "x"])
  generalize L2.upd Hc A1 (.lst [.str "x"]) = J1 at u1 gA1 ⊢
  refine K1.gN ?_
  with_reducible refine sQ ?_
  have xJ : LamX.ExtN H1 J1 := g1.trans (LamX.ExtN.of u1)
  have sJ : Spr J1 a (n + 1) := s1.nn xJ
  have vaJ := (va.kept hs k1).extN xJ
  have tbJ := tabs_same g2 u1
  have Aa : A1 ≠ a := fun z => by
    obtain ⟨c1, c2, c3, e, _⟩ := sJ
    rw [z, e] at gA1
    have := HO.lst.inj (Option.some.inj gA1)
    cases this
  refine ⟨_, rfl, _, rfl, a, t, p1, p2, p3, qs, ss, rs, ns, n + 1, rfl, sJ, by omega, vaJ, ok, pos, fun r2 ys2 H2 k2 s2 nr2 gr2 lys2 oky2 => ?_⟩
  refine ⟨_, rfl, (by show 1 ≤ sizeLine; decide), fun L hL => ?_⟩
  have e3 := K1.Same.upd (H := H2) (p := L) (o := .lst [.ref A1]) hL
  have gL := upd_same' H2 L (.lst [.ref A1])
  generalize L2.upd H2 L (.lst [.ref A1]) = H3 at e3 gL ⊢
  refine ⟨r2, L, _, _, rfl, rfl, e3 _ _ gr2, gL, by show ys2.length + 1 ≤ sizeLine; rw [sizeLine_eq]; omega, fun M hM => ?_⟩
  have e4 := K1.Same.upd (H := H3) (p := M) (o := .lst (ys2 ++ [.ref A1])) hM
  have gM := upd_same' H3 M (.lst (ys2 ++ [.ref A1]))
  generalize L2.upd H3 M (.lst (ys2 ++ [.ref A1])) = H4 at e4 gM ⊢
  have e24 := e3.trans e4
  have tb4 := tabs_same (sJ.tabs tbJ k2) e24
  have gA2 := k2 _ _ Aa gA1
  have gA4 := e24 _ _ gA2
  have iv4 : IsV C (nt H4) x ss rs ns := (((iv.kept hs k1).extN xJ).kept sJ (k2.trans (Kept.same e24))).is.nt
  have xa : ExtA a H H4 := fun b0 o nb hb nt' => e24 _ _ (k2 _ _ nb (xJ _ _ (k1 _ _ nb hb) nt'))
  have spX : ∀ {Hx : Hp}, LamX.ExtN H4 Hx → SpsOk Hx (.ref s) rs sps := fun {Hx} e => by
    refine ⟨⟨ls.map V.ref, ⟨s, rfl, .inl (e _ _ (xa _ _ sp.n sp.h fun _ z => by cases z) fun _ z => by cases z)⟩, tupI_spa (paired_imp (fun l e0 h => ?_) sp.pr)⟩, sp.good, lsr⟩
    have h : H l = _ := h
    have la : l ≠ a := fun z => by
      obtain ⟨x0, y0, z0, e0, _⟩ := hs
      rw [z, e0] at h
      cases h
    exact e _ _ (xa _ _ la h fun _ z => by cases z) fun _ z => by cases z
  have noX : ∀ {Hx : Hp}, Hx A1 = some (.lst [.str "x"]) → NoEv K Hx ss rs (.ref A1) := fun g => no_list (xs := []) (ys := []) (js1 := []) (js2 := []) ⟨A1, rfl, .inl g⟩ (by show 1 ≤ 1000; decide) .nil .nil (.inl (noSeq_ty (.base (.str "x")) (by decide) rfl))
  have oy : ∀ y, y ∈ ys2 ++ [.ref A1] → ∀ {Hx : Hp}, LamX.ExtN H4 Hx → NoEv K Hx ss rs y ∧ RF 6 Hx y y := fun y hy {Hx} e => by
    rcases List.mem_append.mp hy with hy | hy
    · have o := oky2 y hy
      have u : Same (nt H2) Hx := nt_to ((LamX.ExtN.of e24).trans e)
      exact ⟨o.1.ext u, RF.up (RF.mon 5 _ _ _ _ u o.2)⟩
    · rw [List.mem_singleton.mp hy]
      have g := e _ _ gA4 (fun _ z => by cases z)
      exact ⟨noX g, self_lst (n := 5) g (by show 1 ≤ 100; decide) fun x0 hx0 => by rw [List.mem_singleton.mp hx0]; exact r_str _⟩
  refine ⟨M, rfl, ⟨_, SqL.of gM⟩, ?_⟩
  refine for_it walk_list (fun k σ Hd => (∃ y7, σ = [some (.ref a), some (.ref t), some (.ref x), some (.ref s), y7, y5, y6, some (.ref A1)]) ∧ LamX.ExtN H4 Hd ∧ LamX.Tabs TT Hd) ⟨⟨_, rfl⟩, LamX.ExtN.refl H4, tb4⟩ (fun k σ Hd _ h => SqL.of (h.2.1 _ _ gM (fun _ z => by cases z))) ?_ ?_
  · rintro k y σ Hd H' hk ⟨⟨y7, rfl⟩, h1, h2⟩ ⟨rfl, hy⟩
    have om : ∀ {Hx : Hp}, LamX.ExtN H4 Hx → NoEv K Hx ss rs y ∧ RF 6 Hx y y := fun {Hx} e => oy y (List.mem_of_getElem? hy) e
    refine K1.gN ?_
    exact chk_one mbE h2 rfl (fun Ha ea E' Q' g => ⟨_, rfl, _, rfl, _, rfl, .ref x, .ref s, y, rfl, .inr ⟨x, ss, rs, ns, rfl, iv4.same (nt_to (h1.trans ea)), ok.ends, by omega, .inr ⟨sps, spX (h1.trans ea), .inl ⟨(om (h1.trans ea)).1, g⟩⟩⟩⟩) (fun Hx ex => (om (h1.trans ex)).2) fun Hg e' T' => ⟨⟨_, rfl⟩, h1.trans e', T'⟩
  rintro σ Hd ⟨⟨y7, rfl⟩, h1, h2⟩
  with_reducible refine sQ ?_
  refine met_by (v := .ref A1) mbE h2 (fun Ha ea E' Q' g => ⟨_, rfl, _, rfl, _, rfl, .ref x, .ref s, .ref A1, rfl, .inr ⟨x, ss, rs, ns, rfl, iv4.same (nt_to (h1.trans ea)), ok.ends, by omega, .inr ⟨sps, spX (h1.trans ea), .inl ⟨noX ((h1.trans ea) _ _ gA4 (fun _ z => by cases z)), g⟩⟩⟩⟩) fun p5 H5 e5 T5 fr gp5 => ?_
  refine K1.gN ?_
  with_reducible refine sQ ?_
  have x5 : LamX.ExtN H4 H5 := h1.trans e5
  have gA5 := x5 _ _ gA4 (fun _ z => by cases z)
  have s5 : Spr H5 a (n + 1 + 1) := (s2.same e24).nn x5
  refine ⟨_, rfl, .inl ⟨rfl, _, SqL.of gA5⟩, A1, _, _, rfl, rfl, gA5, by show 1 < sizeLine; decide, ?_⟩
  have p5A : p5 ≠ A1 := fun z => by rw [z, gA5] at gp5; cases gp5
  have m1 : ∀ b, b ≠ A1 → L2.upd H5 A1 (.lst ([.str "x"] ++ [.str "late"])) b = H5 b := fun b n => upd_ne n
  have m2 : L2.upd H5 A1 (.lst ([.str "x"] ++ [.str "late"])) A1 = some (.lst [.str "x", .str "late"]) := upd_same
  have tA := tabs_kept T5 gA5 (Kept.upd (o := .lst ([.str "x"] ++ [.str "late"])))
  have s6 := s5.upd (o := .lst ([.str "x"] ++ [.str "late"])) Aa
  generalize L2.upd H5 A1 (.lst ([.str "x"] ++ [.str "late"])) = H6 at m1 m2 tA s6 ⊢
  have noA : ∀ o, H A1 = some o → ∃ ps, o = .tbl ps := fun o h => by
    cases o with
    | tbl ps => exact ⟨ps, rfl⟩
    | _ =>
      have h2 := g1 _ _ (k1 _ _ Aa h) fun ps z => by cases z
      rw [hA1] at h2
      cases h2
  refine ⟨_, rfl, (by show 2 ≤ sizeLine; decide), fun L1 hL1 => ?_⟩
  have z1 := K1.Same.upd (H := H6) (p := L1) (o := .lst [.str "x", .str "late"]) hL1
  have gL1 := upd_same' H6 L1 (.lst [.str "x", .str "late"])
  generalize L2.upd H6 L1 (.lst [.str "x", .str "late"]) = I1 at z1 gL1 ⊢
  refine ⟨(by show 2 ≤ sizeLine; decide), fun V1 hV1 => ?_⟩
  have z2 := K1.Same.upd (H := I1) (p := V1) (o := .tup [.str "evening", .ref L1]) hV1
  have gV1 := upd_same' I1 V1 (.tup [.str "evening", .ref L1])
  generalize L2.upd I1 V1 (.tup [.str "evening", .ref L1]) = I2 at z2 gV1 ⊢
  have z12 := z1.trans z2
  have gp6 : H6 p5 = some (.tup [.str "evening", .ref A1]) := by rw [m1 _ p5A]; exact gp5
  refine ⟨_, _, rfl, show NextF (RF 6) I2 (.ref p5) (.ref V1) from r_tups (z12 _ _ gp6) gV1 (by show 2 ≤ 100; decide) (.cons (r_str _) (.cons (r_lists (R := RF 5) (z12 _ _ m2) (z2 _ _ gL1) (by show 2 ≤ 100; decide) (.cons (r_str _) (.cons (r_str _) .nil))) .nil)), fun Hz e' => q Hz (fun b0 o nb hb nt' => ?_) (s6.same (z12.trans e')) (tabs_same tA (z12.trans e'))⟩
  have bA : b0 ≠ A1 := fun z => by
    obtain ⟨ps, e2⟩ := noA o (by rw [← z]; exact hb)
    exact nt' ps e2
  refine (z12.trans e') _ _ ?_
  rw [m1 _ bA]
  exact x5 _ _ (xa _ _ nb hb nt') nt'
end
end K1
end
-- XLw0
section
set_option Elab.async false
set_option linter.all false
set_option maxRecDepth 100000
set_option maxHeartbeats 2000000
namespace K1
open PySem PySem.Spec PyProof.Rows L2 W0 Wr LamP
theorem ExtA.kept {a : Addr} {H H' : Hp} (e : ExtA a H H') : Kept a (nt H) H' := fun b o nb hb => e b o nb (nt_some.mp hb).1 (nt_some.mp hb).2
theorem ExtA.trans {a : Addr} {H H1 H2 : Hp} (h1 : ExtA a H H1) (h2 : ExtA a H1 H2) : ExtA a H H2 := fun b o nb hb n => h2 b o nb (h1 b o nb hb n) n
theorem ExtA.ofN {a : Addr} {H H' : Hp} (e : LamX.ExtN H H') : ExtA a H H' := fun b o _ hb n => e b o hb n
theorem Spr.nt {H : Hp} {a : Addr} {n : Nat} (s : Spr H a n) : Spr (K1.nt H) a n := by
  obtain ⟨x, y, z, h, r⟩ := s
  exact ⟨x, y, z, nt_l h, r⟩
theorem VAt.nt {a : Addr} {H : Hp} {t p1 p2 p3 : Addr} {qs : List Addr} {ss : List Str} {rs : List (Str × Str)} {ns : List Int} (v : VAt a H t p1 p2 p3 qs ss rs ns) : VAt a (K1.nt H) t p1 p2 p3 qs ss rs ns :=
  ⟨nt_l v.t0, nt_l v.h1, nt_l v.h2, paired_imp (fun _ _ z => nt_t z) v.pr, nt_l v.h3, v.n0, v.n1, v.n2, v.n3⟩
theorem VAt.extA {a : Addr} {H H' : Hp} {t p1 p2 p3 : Addr} {qs : List Addr} {ss : List Str} {rs : List (Str × Str)} {ns : List Int} {n : Nat} (v : VAt a H t p1 p2 p3 qs ss rs ns) (s : Spr H a n) (e : ExtA a H H') : VAt a H' t p1 p2 p3 qs ss rs ns := v.nt.kept s.nt e.kept
theorem IsVO.nt {C a : Addr} {H : Hp} {x : Addr} {ss : List Str} {rs : List (Str × Str)} {ns : List Int} (v : IsVO C a H x ss rs ns) : IsVO C a (K1.nt H) x ss rs ns := by
  obtain ⟨l, l1, l2, l3, d1, d2, d3, qs, bs, vs, o⟩ := v
  exact ⟨l, l1, l2, l3, d1, d2, d3, qs, bs, vs.nt, o⟩
theorem IsVO.extA {C a : Addr} {H H' : Hp} {x : Addr} {ss : List Str} {rs : List (Str × Str)} {ns : List Int} {n : Nat} (v : IsVO C a H x ss rs ns) (s : Spr H a n) (e : ExtA a H H') : IsVO C a H' x ss rs ns := v.nt.kept s.nt e.kept
theorem TupI.kept {a : Addr} {H H' : Hp} {n : Nat} {ls : List Addr} {sps : List (Int × Int)} (h : Paired (TupI H) ls sps) (s : Spr H a n) (k : Kept a H H') : Paired (TupI H') ls sps := paired_imp (fun l e h => k _ _ (fun z => by
  obtain ⟨x0, y0, z0, e0, _⟩ := s
  have h : H l = _ := h
  rw [z, e0] at h
  cases h) h) h
theorem SpAt.kept {a : Addr} {H H' : Hp} {s : Addr} {ls : List Addr} {sps : List (Int × Int)} {n : Nat} (v : SpAt a H s ls sps) (sp : Spr H a n) (k : Kept a H H') : SpAt a H' s ls sps := ⟨k _ _ v.n v.h, v.n, TupI.kept v.pr sp k, v.good, v.small⟩
theorem SpAt.nt {a : Addr} {H : Hp} {s : Addr} {ls : List Addr} {sps : List (Int × Int)} (v : SpAt a H s ls sps) : SpAt a (K1.nt H) s ls sps := ⟨nt_l v.h, v.n, paired_imp (fun _ _ z => nt_t z) v.pr, v.good, v.small⟩
theorem SpAt.extA {a : Addr} {H H' : Hp} {s : Addr} {ls : List Addr} {sps : List (Int × Int)} {n : Nat} (v : SpAt a H s ls sps) (sp : Spr H a n) (e : ExtA a H H') : SpAt a H' s ls sps := v.nt.kept sp.nt e.kept
theorem ClAt.nt {a : Addr} {H : Hp} {c : Addr} {cq : List Addr} {rs es : List (Str × Str)} (v : ClAt a H c cq rs es) : ClAt a (K1.nt H) c cq rs es := ⟨nt_l v.h, v.n, paired_imp (fun _ _ h => nt_t h) v.pr, v.perm⟩
/-! how what surely_ahead tells is shown -/
def roadD (rs : List (Str × Str)) (i : Nat) : PyData := .tuple [.str ((rs[i]?).getD ("", "")).1, .str ((rs[i]?).getD ("", "")).2]
def pairD (rs : List (Str × Str)) (e : Nat × Nat) : PyData := .tuple [roadD rs e.1, roadD rs e.2]
def aheadD (rs : List (Str × Str)) (sps : List (Int × Int)) : PyData := .list ((aheadL sps rs.length).map (pairD rs))
theorem dp_road {K : PySem.W.Frag} {H : Hp} {qs : List Addr} {rs : List (Str × Str)} (pr : Paired (TupP H) qs rs) {i : Nat} {a : Addr} (h : qs[i]? = some a) : Dp K H (.ref a) (roadD rs i) := by
  have hi : i < rs.length := by
    rw [← pr.length]
    exact (List.getElem?_eq_some_iff.mp h).1
  obtain ⟨b, eb, tb⟩ := paired_get pr hi
  rw [h] at eb
  obtain rfl := Option.some.inj eb
  unfold roadD
  rw [List.getElem?_eq_getElem hi]
  exact .tup (SqT.of tb) (.cons (.str _) (.cons (.str _) .nil))
theorem dp_pairs {K : PySem.W.Frag} {H : Hp} {qs : List Addr} {rs : List (Str × Str)} (pr : Paired (TupP H) qs rs) : ∀ {ts : List Addr} {ps : List (Nat × Nat)}, PairsV H qs ts ps → DpAll K H (ts.map V.ref) (ps.map (pairD rs))
  | _, _, .nil => .nil
  | _, _, .cons a r => by
    obtain ⟨x, y, ex, ey, g⟩ := a
    exact .cons (.tup (SqT.of g) (.cons (dp_road pr ex) (.cons (dp_road pr ey) .nil))) (dp_pairs pr r)
theorem ahead_len {sps : List (Int × Int)} {n : Nat} : ∀ k, ((List.range k).flatMap (aheadOf sps n)).length ≤ k * n
  | 0 => by simp
  | k + 1 => by
    rw [range_snoc_flat, List.length_append, Nat.succ_mul]
    have := ahead_len (sps := sps) (n := n) k
    have h2 : (aheadOf sps n k).length ≤ n := by
      unfold aheadOf
      rw [List.length_map]
      exact Nat.le_trans (List.length_filter_le ..) (by rw [List.length_range]; exact Nat.le_refl _)
    omega
theorem ahead_mem {sps : List (Int × Int)} {n : Nat} {e : Nat × Nat} (h : e ∈ aheadL sps n) : e.1 < n ∧ e.2 < n := by
  unfold aheadL at h
  obtain ⟨i, hi, he⟩ := List.mem_flatMap.mp h
  unfold aheadOf at he
  obtain ⟨j, hj, rfl⟩ := List.mem_map.mp he
  exact ⟨List.mem_range.mp hi, List.mem_range.mp (List.mem_filter.mp hj).1⟩
theorem shows_ahead {K : PySem.W.Frag} {H : Hp} {r : Addr} {ts qs : List Addr} {rs : List (Str × Str)} {sps : List (Int × Int)} (gr : H r = some (.lst (ts.map V.ref))) (pr : Paired (TupP H) qs rs) (pv : PairsV H qs ts (aheadL sps rs.length)) (lr : rs.length ≤ 59) (nms : ∀ e ∈ rs, nameOk e.1 = true ∧ nameOk e.2 = true) :
    ShowsAs K H (.ref r) (aheadD rs sps).shown := by
  have two : ∀ {i : Nat}, i < rs.length → ShowD 1 18 (roadD rs i) := fun {i} hi => by
    unfold roadD
    rw [List.getElem?_eq_getElem hi]
    obtain ⟨n1, n2⟩ := nms _ (List.getElem_mem hi)
    exact (show_list (n := 0) (k := 8) (m := 2) (ds := [.str rs[i].1, .str rs[i].2]) (fun d hd => by
      simp only [List.mem_cons, List.not_mem_nil, or_false] at hd
      rcases hd with rfl | rfl
      · exact show_str n1
      · exact show_str n2) (Nat.le_refl _)).2
  have sd : ShowD 3 (39 * 3600) (aheadD rs sps) := by
    refine (show_list (n := 2) (k := 38) (m := 3600) (fun d hd => ?_) ?_).1
    · obtain ⟨e, he, rfl⟩ := List.mem_map.mp hd
      obtain ⟨h1, h2⟩ := ahead_mem he
      exact (show_list (n := 1) (k := 18) (m := 2) (ds := [roadD rs e.1, roadD rs e.2]) (fun d hd => by
        simp only [List.mem_cons, List.not_mem_nil, or_false] at hd
        rcases hd with rfl | rfl
        · exact two h1
        · exact two h2) (Nat.le_refl _)).2
    · rw [List.length_map]
      exact Nat.le_trans (ahead_len rs.length) (Nat.le_trans (Nat.mul_le_mul lr lr) (by decide))
  refine .inl ⟨r, aheadD rs sps, rfl, .lst (SqL.of gr) (dp_pairs pr pv), sd.sh, PyData.hasDict_of_canLay _ sd.lay, Nat.le_trans sd.dep (by decide), ?_, rfl⟩
  refine PyData.shown_fits_of_layable0 (B := 8) (by decide) (by decide) ?_ sd.sm
  show ((aheadD rs sps).canLay0 && decide ((aheadD rs sps).depth ≤ 64) && decide ((aheadD rs sps).weight ≤ 2 ^ 20)) = true
  have h1 := sd.dep
  have h2 := sd.wt
  rw [sd.lay, decide_eq_true (by omega), decide_eq_true (by omega)]
  rfl
end K1
end
-- XLaw
section
set_option Elab.async false
set_option linter.all false
set_option maxRecDepth 100000
set_option maxHeartbeats 4000000
namespace K1
open PySem PySem.Spec PyProof.Rows L2 W0 Wr LamP
abbrev sLaw : Stmt := top 64
/-- a def of the law, found at its name -/
def Fx (P : Program) (w : World) (K : PySem.W.Frag) (mg : Str → Option Value) (base : Heap) (CX : CXT) (k : Nat) (x : Str) (ps : List Str) (sp : Sp) : Prop :=
  ∃ f fd, FnOk P w K mg base CX k f fd ps sp ∧ Binds K fd ps [] ∧ PySem.W.keepIn K (.ref f) = true ∧ mg x = some (.ref f)
def spLaw (K : PySem.W.Frag) (T : List (Addr × Str)) : Sp := fun vs H Q _ => ∃ (p : Addr) (ns : List Int), vs = [.ref p] ∧ SqL K H p (ns.map V.int) ∧ ns.length ≤ 1000 ∧ LamX.Tabs T H ∧ ∀ H', Q (.bl true) H'
theorem scLaw : FnScope ["script", "turn", "spring", "form", "made", "one", "other", "spans", "rows"] ["script"] (defScope sLaw) := ⟨rfl, rfl, rfl, by decide +kernel, rfl, by decide +kernel, by decide +kernel⟩
theorem seq_extN {K : PySem.W.Frag} {H H' : Hp} {a : Addr} {xs : List V} (e : LamX.ExtN H H') (h : SqL K H a xs) : SqL K H' a xs := by
  rcases h with (h | ⟨o, h⟩) | h
  · exact .inl (.inl (e _ _ h (fun _ z => by cases z)))
  · exact .inl (.inr ⟨o, e _ _ h (fun _ z => by cases z)⟩)
  · exact .inr h
/-- what the lambdas promise -/
def spAsk (K : PySem.W.Frag) (C CV CB : Addr) : List (Option V) → Sp := fun ws xs H Q _ => ∃ x v, ws = [some x] ∧ xs = [v] ∧ spSa K C CV CB [x, v] H Q E0
def AskL (P : Program) (w : World) (K : PySem.W.Frag) (mg : Str → Option Value) (base : Heap) (C CV CB : Addr) (L : LF) : Prop := ∀ g, LOk P w K mg base CX0 10 g L ["spans"] ["made"] (spAsk K C CV CB)
def spAsk2 (K : PySem.W.Frag) (C CV CC CB : Addr) : List (Option V) → Sp := fun ws xs H Q _ => ∃ x o v, ws = [some x, some o] ∧ xs = [v] ∧ spCn K C CV CC CB [x, o, v] H Q E0
def AskL2 (P : Program) (w : World) (K : PySem.W.Frag) (mg : Str → Option Value) (base : Heap) (C CV CC CB : Addr) (L : LF) : Prop := ∀ g, LOk P w K mg base CX0 10 g L ["evening"] ["made", "one"] (spAsk2 K C CV CC CB)
theorem ask_scope : NdefX.NScope ["spans", "made"] ["spans"] ["made"] { kind := ScopeKind.function, names := [(("spans" : Str), NameKind.local), ("made", NameKind.free), ("surely_ahead", NameKind.globalImplicit)], isGenerator := false, isCoroutine := false } := NdefX.nscope_by (by decide +kernel)
theorem ask_scope2 : NdefX.NScope ["evening", "made", "one"] ["evening"] ["made", "one"] { kind := ScopeKind.function, names := [(("evening" : Str), NameKind.local), ("made", NameKind.free), ("one", NameKind.free), ("can_be", NameKind.globalImplicit)], isGenerator := false, isCoroutine := false } := NdefX.nscope_by (by decide +kernel)
theorem size_of {i : Nat} (h : i < 3) : ∃ size : Nat, atI [V.int 4, V.int 10, V.int 29] ((0 : Int) + (i : Int)) = some (.int (size : Int)) ∧ 1 ≤ size ∧ size ≤ 29 := by
  rcases i with _ | _ | _ | i
  · exact ⟨4, rfl, by decide, by decide⟩
  · exact ⟨10, rfl, by decide, by decide⟩
  · exact ⟨29, rfl, by decide, by decide⟩
  · exact absurd h (by omega)
section
variable {P : Program} {w : World} {K : PySem.W.Frag} {mg : Str → Option Value} {base : Heap} {T : List (Addr × Str)} {C CV CC CB fI : Addr} {fdI : FuncData}
def qLaw : Str := "law.<locals>." ++ "<lambda>"
theorem ok_law {f c TP fT fC : Addr} {fdT fdC : FuncData} {oc kVx doc pm ct : Value} {od an : Option Addr} {osl : Array (Option Value)} (B : Bl mg) (lk : K.lookup f = some ⟨oc, od, .func (PySem.W.fnOf "law" "law" (defArgs sLaw) (defBody sLaw) (defScope sLaw) .none kVx doc pm an (.ref c) ct), osl⟩) (hcd : PySem.W.codeIn K (.ref c) "law" = true) (mr : mg "range" = none) (mz : mg "zip" = none)
    (TB : LamX.TabB base mg c TP) (hT : (TP, qLaw) ∈ T) (hU : ∀ p ∈ T, p.1 = TP → p.2 = qLaw)
    (hS : Fx P w K mg base CX0 1 "_law_spring" ["script", "turn"] (spSpring K)) (hD : Fx P w K mg base CX0 1 "_law_draw" ["spring", "many"] spDraw) (hV : Fx P w K mg base CX0 4 "_law_v_form" ["spring", "many", "wide"] spVF)
    (hM : Fx P w K mg base CX0 7 "_law_v_made" ["spring", "form"] (spMd C)) (hP : Fx P w K mg base CX0 3 "_law_d_spans" ["spring", "form"] spDs) (hE : Fx P w K mg base CX0 3 "_law_v_evening" ["spring", "form"] spEe) (hG : Fx P w K mg base CX0 3 "_law_d_good" ["spring", "form", "known"] spDg) (hR : Fx P w K mg base CX0 13 "_law_refused_right" ["spring", "form", "made", "spans"] (spRef C T))
    (hSa : Fx P w K mg base (L2.CX P w) 5 "surely_ahead" ["valley", "spans"] (spSa K C CV CB)) (hCn : Fx P w K mg base (L2.CX P w) 9 "can_be" ["valley", "spans", "evening"] (spCn K C CV CC CB))
    (GT : FnG P w K mg base CX0 11 fT fdT ["spring", "form", "made", "spans"] (spSr C T)) (bT : Binds K fdT ["spring", "form", "made", "spans"] []) (kT : PySem.W.keepIn K (.ref fT) = true) (mT : mg "_law_spans_right" = some (.ref fT))
    (GC : FnA P w K mg base CX0 11 fC fdC ["ask", "mine", "theirs"] ["made"] (spVc K (spAsk K C CV CB) (AskL P w K mg base C CV CB))) (bC : Binds K fdC ["ask", "mine", "theirs"] []) (kC : PySem.W.keepIn K (.ref fC) = true) (mC : mg "_law_v_changed" = some (.ref fC))
    (GC2 : FnA P w K mg base CX0 11 fC fdC ["ask", "mine", "theirs"] ["made", "one"] (spVc K (spAsk2 K C CV CC CB) (AskL2 P w K mg base C CV CC CB))) (mV : mg "Valley" = some (.ref C)) :
    FnG P w K mg base CX0 14 f (PySem.W.fnOf "law" "law" (defArgs sLaw) (defBody sLaw) (defScope sLaw) .none kVx doc pm an (.ref c) ct) ["script"] (spLaw K T) := by
  obtain ⟨fS, fdS, GS, bS, kS, mS⟩ := hS
  obtain ⟨fD, fdD, GD, bD, kD, mD⟩ := hD
  obtain ⟨fV, fdV, GV, bV, kV, mVF⟩ := hV
  obtain ⟨fM, fdM, GM, bM, kM, mM⟩ := hM
  obtain ⟨fP, fdP, GP, bP, kP, mP⟩ := hP
  obtain ⟨fE, fdE, GE, bE, kE, mE⟩ := hE
  obtain ⟨fG, fdG, GG, bG, kG, mG⟩ := hG
  obtain ⟨fR, fdR, GR, bR, kR, mR⟩ := hR
  obtain ⟨fSa, fdSa, GSa, bSa, kSa, mSa⟩ := hSa
  obtain ⟨fCn, fdCn, GCn, bCn, kCn, mCn⟩ := hCn
  have bC2 := bC
  refine fnG_of lk hcd scLaw (fun vs H Q E h => ?_) (fun A outer s0 H vs Q E hA hr h => ?_)
  · obtain ⟨p, ns, rfl, _⟩ := h
    rfl
  obtain ⟨p, ns, rfl, hp, hl, tb, q⟩ := h
  suffices hh : ∃ t0, PSs (cxOf CX0 P w K mg base ["script", "turn", "spring", "form", "made", "one", "other", "spans", "rows"] "law" (defScope sLaw) f (.ref c) A outer s0 H E).nox (defBody sLaw) t0 ∧ t0 { nx := fun _ H' => Q .non H', rt := Q } (L2.start ["script", "turn", "spring", "form", "made", "one", "other", "spans", "rows"] [.ref p]) H by
    obtain ⟨t0, h1, h2⟩ := hh
    exact ⟨t0, h1.nox, h2⟩
  have nd := scLaw.nd
  have hu := hu_of hr
  have hu2 : (A.deeper (envOfC "law" (defScope sLaw) s0.heap.objs.size f (.ref c))).units + 2 < cLine := by have := hr.units; omega
  have hr1 : Room 1 _ := hr.mono (by decide)
  have hr3 : Room 3 _ := hr.mono (by decide)
  have hr4 : Room 4 _ := hr.mono (by decide)
  have hr7 : Room 7 _ := hr.mono (by decide)
  have hr10 : Room 11 _ := hr.mono (by decide)
  have hr11 : Room 11 _ := hr.mono (by decide)
  refine ⟨_, (pss_cons (by exact (ps_for PassesOwn.never rfl (by exact pi_range1 rfl mr (pa_cons pe_int pa_nil)) (pg_name (i := 1) nd rfl (.inl rfl)) (pss_cons (by exact (ps_set (i := 2) nd rfl (.inr rfl) (pe_call GS hr1 rfl mS kS bS .nil pass0 (pa_cons (pv 0) (pa_cons (pv 1) pa_nil)))))
  (pss_cons (by exact (ps_set (i := 3) nd rfl (.inr rfl) (pe_call GV hr4 rfl mVF kV bV .nil pass0 (pa_cons (pv 2) (pa_cons (pe_op op_add pe_int (pe_call GD hr1 rfl mD kD bD .nil pass0 (pa_cons (pv 2) (pa_cons (pe_ix ix_list (pe_lst (pa_cons pe_int (pa_cons pe_int (pa_cons pe_int pa_nil)))) (pv 1) (fun _ _ => rfl)) pa_nil)))) (pa_cons pe_int pa_nil))))))
  (pss_cons (by exact (ps_asg (pe_tup (pa_cons (pe_call GM hr7 rfl mM kM bM .nil pass0 (pa_cons (pv 2) (pa_cons (pv 3) pa_nil))) (pa_cons (pe_call GP hr3 rfl mP kP bP .nil pass0 (pa_cons (pv 2) (pa_cons (pv 3) pa_nil))) (pa_cons (pe_call GP hr3 rfl mP kP bP .nil pass0 (pa_cons (pv 2) (pa_cons (pv 3) pa_nil))) pa_nil)))) (pg_tup rfl (pgs_cons (pg_name (i := 4) nd rfl (.inr rfl)) (pgs_cons (pg_name (i := 5) nd rfl (.inr rfl)) (pgs_cons (pg_name (i := 6) nd rfl (.inl rfl)) pgs_nil))))))
  (pss_cons (by exact (ps_if (pt_not (pt_val (pe_callB (cr_all rfl) rfl B.all PyProof.Rows.boot_all (pa_cons (pe_lc (own := [("spans", 7)]) (g := gName 7) (tt := tYes) (te := tCall (spSr C T) [] E0 (tCons (tVar 2) (tCons (tVar 3) (tCons (tVar 4) (tCons (tVar 7) tNil))))) rfl nd (by exact pi_tup (pe_tup (pa_cons (pv 5) (pa_cons (pv 6) (pa_cons (pv 5) pa_nil))))) (by exact blkOk_by (N := ["script", "turn", "spring", "form", "made", "one", "other", "spans", "rows"]) (sc := defScope sLaw) (by decide +kernel)) (fun _ _ _ _ _ => by exact (pg_name (i := 7) nd rfl (.inl rfl))) (fun _ _ _ _ _ => by exact pts_nil) (fun _ _ _ _ _ => by exact (pe_callG hA GT hr11 rfl mT kT bT .nil pass0 (pa_cons (pv 2) (pa_cons (pv 3) (pa_cons (pv 4) (pa_cons (pv 7) pa_nil))))))) pa_nil)))) (pss_one (by exact (ps_ret pe_bl))) pss_nil))
  (pss_cons (by exact (ps_if (pt_not (pt_val (pe_callA (js := [4]) (T := T) (c := c) (P := TP) hA GC hr10 rfl mC kC bC pass0 TB rfl hT hU rfl (by exact lamfree_by (N := defScope sLaw) (by decide +kernel)) (by decide) rfl (fun _ => rfl) (pa_cons (pv 5) (pa_cons (pv 6) pa_nil))))) (pss_one (by exact (ps_ret pe_bl))) pss_nil))
  (pss_cons (by exact (ps_set (i := 8) nd rfl (.inl rfl) (pe_lst (pa_cons (pe_call GE hr3 rfl mE kE bE .nil pass0 (pa_cons (pv 2) (pa_cons (pv 3) pa_nil))) (pa_cons (pe_call GG hr3 rfl mG kG bG .nil pass0 (pa_cons (pv 2) (pa_cons (pv 3) (pa_cons (pe_callTy (call_dictT rfl hu2) rfl B.dict PyProof.Rows.boot_dict (pa_cons (Wz.pe_listZip rfl rfl B.list PyProof.Rows.boot_list rfl mz (pa_cons (pe_ix ix_list (pv 3) pe_int (fun _ _ => rfl)) (pa_cons (pv 5) pa_nil))) pa_nil)) pa_nil)))) pa_nil)))))
  (pss_cons (by exact (ps_if (pt_not (pt_val (pe_callA (js := [4, 5]) (T := T) (c := c) (P := TP) hA GC2 hr10 rfl mC kC bC2 pass0 TB rfl hT hU rfl (by exact lamfree_by (N := defScope sLaw) (by decide +kernel)) (by decide) rfl (fun _ => rfl) (pa_cons (pe_ix ix_list (pv 8) pe_int (fun _ _ => rfl)) (pa_cons (pe_ix ix_list (pv 8) pe_int (fun _ _ => rfl)) pa_nil))))) (pss_one (by exact (ps_ret pe_bl))) pss_nil))
  (pss_one (by exact (ps_if (pt_not (pt_val (pe_call GR hr rfl mR kR bR .nil pass0 (pa_cons (pv 2) (pa_cons (pv 3) (pa_cons (pv 4) (pa_cons (pv 6) pa_nil))))))) (pss_one (by exact (ps_ret pe_bl))) pss_nil))))))))))))
  (pss_one (by exact (ps_ret pe_bl)))), ?_⟩
  refine ⟨3, rfl, by decide, by decide, ?_⟩
  refine for_range (lo := 0) (fun i σ Hc => (∃ x1 x2 x3 x4 x5 x6 x8, σ = [some (.ref p), x1, x2, x3, x4, x5, x6, none, x8]) ∧ LamX.ExtN H Hc ∧ LamX.Tabs T Hc) ⟨⟨_, _, _, _, _, _, _, rfl⟩, LamX.ExtN.refl H, tb⟩ ?_ ?_
  · rintro i σ Hc hi ⟨⟨x1, x2, x3, x4, x5, x6, x8, rfl⟩, g1, g2⟩
    have hi3 : i < 3 := hi
    refine K1.gN ?_
    refine ⟨_, rfl, _, rfl, p, _, ns, rfl, seq_extN g1 hp, by omega, by omega, hl, fun a H1 e1 na s1 => ?_⟩
    have tb1 := tabs_same g2 e1
    refine K1.gN ?_
    with_reducible refine sQ ?_
    refine ⟨_, rfl, _, rfl, (by show 3 ≤ sizeLine; decide), fun X hX => ?_⟩
    have e2 := K1.Same.upd (H := H1) (p := X) (o := .lst [.int 4, .int 10, .int 29]) hX
    have gX := upd_same' H1 X (.lst [.int 4, .int 10, .int 29])
    generalize L2.upd H1 X (.lst [.int 4, .int 10, .int 29]) = H2 at e2 gX ⊢
    have s2 := s1.same e2
    have tb2 := tabs_same tb1 e2
    obtain ⟨size, es, z1, z2⟩ := size_of hi3
    refine ⟨_, rfl, X, _, (0 : Int) + (i : Int), _, rfl, rfl, SqL.of gX, es, ?_⟩
    refine ⟨a, (size : Int), 0, rfl, s2, by omega, by omega, Nat.lt_of_le_of_lt (show (size : Int).natAbs ≤ 60 by omega) (by decide), fun d H3 d0 d1 k3 s3 => ?_⟩
    obtain ⟨mm, rfl⟩ : ∃ mm : Nat, d = (mm : Int) := ⟨d.toNat, by omega⟩
    have tb3 := s2.tabs tb2 k3
    refine ⟨_, _, rfl, rfl, ?_⟩
    refine ⟨a, mm + 2, 9, 0 + 1, ?_, s3, by omega, by omega, by omega, by omega, by omega, fun t p1 p2 p3 qs ss rs nss H5 k5 s5 va ok bnd hl5 => ?_⟩
    · show [V.ref a, V.int ((2 : Int) + (mm : Int)), V.int 9] ++ [] = _
      rw [show (2 : Int) + (mm : Int) = ((mm + 2 : Nat) : Int) by omega]
      rfl
    have tb5 := s3.tabs tb3 k5
    refine K1.gN ?_
    with_reducible refine sQ (asg_run (tup_runE (cons_run ?_)))
    refine ⟨_, rfl, _, rfl, a, t, p1, p2, p3, qs, ss, rs, nss, _, rfl, s5, by omega, va, ok, fun x l1 l2 l3 d1 d2 d3 qs' bs H6 k6 s6 vs off => ?_⟩
    have tb6 := s5.tabs tb5 k6
    have va6 := va.kept s5 k6
    have iv6 : IsVO C a H6 x ss rs nss := ⟨ok.nl.symm, l1, l2, l3, d1, d2, d3, qs', bs, vs, off⟩
    have lq : qs.length = rs.length := va.pr.length
    have lrs : rs.length + 1 = ss.length := by have := ok.rl; omega
    have lr : rs.length ≤ 59 := by have := ok.le; omega
    have pos : 1 ≤ rs.length := by omega
    have ndr : rs.Nodup := ok.cut.1
    refine ⟨_, rfl, _, rfl, a, t, p2, .ref p1, .ref p3, qs, _, rfl, s6, by omega, va6.t0, va6.n0, va6.h2, va6.n2, by omega, fun o1 ls1 sps1 H7 k7 s7 no1 go1 pl1 gd1 sm1 len1 => ?_⟩
    have tb7 := s6.tabs tb6 k7
    have va7 := va6.kept s6 k7
    have sp1 : SpAt a H7 o1 ls1 sps1 := ⟨go1, s6.ne no1, pl1, gd1, sm1⟩
    refine ⟨_, rfl, _, rfl, a, t, p2, .ref p1, .ref p3, qs, _, rfl, s7, by omega, va7.t0, va7.n0, va7.h2, va7.n2, by omega, fun o2 ls2 sps2 H8 k8 s8 no2 go2 pl2 gd2 sm2 len2 => ?_⟩
    have sp2 : SpAt a H8 o2 ls2 sps2 := ⟨go2, s7.ne no2, pl2, gd2, sm2⟩
    have tb8 := s7.tabs tb7 k8
    have va8 := va7.kept s7 k8
    have iv8 := (iv6.kept s6 k7).kept s7 k8
    have sp1 := sp1.kept s7 k8
    have xA : ExtA a H H8 := fun b o nb hb nt => k8 b o nb (k7 b o nb (k6 b o nb (k5 b o nb (k3 b o nb ((e1.trans e2) b o (g1 b o hb nt))))))
    have nH : H a = none ∨ ∃ ps, H a = some (.tbl ps) := by
      cases e : H a with
      | none => exact .inl rfl
      | some o =>
        cases o with
        | tbl ps => exact .inr ⟨ps, rfl⟩
        | _ =>
          have := g1 _ _ e (fun _ z => by cases z)
          rw [na] at this
          cases this
    have s8 : Spr H8 a 5000 := s8.mono (by omega)
    have ls1r : sps1.length = rs.length := by omega
    have ls2r : sps2.length = rs.length := by omega
    clear e1 e2 k3 k5 k6 k7 k8 s1 s2 s3 s5 s6 s7 tb1 tb2 tb3 tb5 tb6 tb7 va va6 va7 iv6 vs off gX hX no1 no2 go1 go2 pl1 pl2
    refine ⟨(by show 3 ≤ sizeLine; decide), fun U0 hU0 => ?_⟩
    have f0 := K1.Same.upd (H := H8) (p := U0) (o := .tup [.ref x, .ref o1, .ref o2]) hU0
    have gU0 := upd_same' H8 U0 (.tup [.ref x, .ref o1, .ref o2])
    generalize L2.upd H8 U0 (.tup [.ref x, .ref o1, .ref o2]) = H9 at f0 gU0 ⊢
    refine ⟨U0, _, rfl, SqT.of gU0, rfl, _, _, rfl, _, _, rfl, _, _, rfl, rfl, ?_⟩
    with_reducible refine sQ ?_
    refine ⟨_, rfl, _, rfl, _, rfl, (by show 3 ≤ sizeLine; decide), fun U hU => ?_⟩
    have f1 := K1.Same.upd (H := H9) (p := U) (o := .tup [.ref o1, .ref o2, .ref o1]) hU
    have gU := upd_same' H9 U (.tup [.ref o1, .ref o2, .ref o1])
    generalize L2.upd H9 U (.tup [.ref o1, .ref o2, .ref o1]) = G1 at f1 gU ⊢
    have f01 := f0.trans f1
    have sG := s8.same f01
    have vaG := va8.kept s8 (Kept.same f01)
    have ivG := iv8.kept s8 (Kept.same f01)
    have sp1G := sp1.kept s8 (Kept.same f01)
    have sp2G := sp2.kept s8 (Kept.same f01)
    have tbG := tabs_same tb8 f01
    have xG : ExtA a H G1 := xA.trans (ExtA.of (Kept.same f01))
    refine ⟨U, rfl, ⟨_, SqT.of gU⟩, fun D hD => ?_⟩
    have Da : D ≠ a := sG.ne hD
    have Ua := sG.tup gU
    refine lc_it (Qd := _) (walk_tup (xs := [.ref o1, .ref o2, .ref o1])) (fun k Hd => ExtA a G1 Hd ∧ Spr Hd a (5000 + 3000 * k) ∧ LamX.Tabs T Hd ∧ Hd D = some (.lst ((List.replicate k true).map V.bl)))
      ⟨ExtA.of (Kept.new hD), sG.upd Da, tabs_same tbG (K1.Same.upd hD), upd_same⟩ (fun k Hd _ h => SqT.of (h.1 _ _ Ua gU (fun _ z => by cases z))) ?_ ?_
    · rintro k v Hd H' hk ⟨d1, d2, d3, d4⟩ ⟨rfl, hv⟩
      have hk3 : k < 3 := hk
      obtain ⟨oo, lss, spss, rfl, spo, lso⟩ : ∃ oo lss spss, v = .ref oo ∧ SpAt a G1 oo lss spss ∧ spss.length = rs.length := by
        have hv : ([V.ref o1, .ref o2, .ref o1] : List V)[k]? = some v := hv
        rcases k with _ | _ | _ | k
        · exact ⟨o1, _, _, (Option.some.inj hv).symm, sp1G, ls1r⟩
        · exact ⟨o2, _, _, (Option.some.inj hv).symm, sp2G, ls2r⟩
        · exact ⟨o1, _, _, (Option.some.inj hv).symm, sp1G, ls1r⟩
        · omega
      refine ⟨rfl, ?_⟩
      unfold tYes
      refine iteT ?_
      refine ⟨_, rfl, _, rfl, _, rfl, _, rfl, a, t, x, oo, p1, p2, p3, qs, lss, ss, rs, nss, spss, _, rfl, d2, by omega, vaG.extA sG d1, ok, ivG.extA sG d1, spo.extA sG d1, lso, d3, fun He x9 s9 tb9 => ?_⟩
      have gD := x9 _ _ Da d4 (fun _ z => by cases z)
      refine ⟨_, gD, by rw [List.length_map, List.length_replicate]; exact small1000 (by omega), fun b o nb hb nt => ?_, (s9.upd Da).mono (by omega), tabs_kept tb9 gD Kept.upd, ?_⟩
      · rw [upd_ne (ne_of_none hb hD)]
        exact x9 _ _ nb (d1 _ _ nb hb nt) nt
      · rw [upd_same, List.replicate_succ', List.map_append]
        rfl
    · rintro Hd ⟨d1, d2, d3, d4⟩
      refine ⟨D, _, rfl, SqL.of d4, ⟨_, rfl, ?_⟩⟩
      refine iteF ?_
      have va9 := vaG.extA sG d1
      have iv9 := ivG.extA sG d1
      have sp19 := sp1G.extA sG d1
      have sp29 := sp2G.extA sG d1
      have x9 : ExtA a H Hd := xG.trans d1
      have s9 : Spr Hd a 14000 := d2
      have tb9 := d3
      clear d1 d2 d3 d4 sG vaG ivG sp1G sp2G tbG hD Da gU Ua f1 f01 f0 gU0 hU0 hU va8 iv8 sp1 sp2 s8 tb8 xA xG
      refine nQ ?_
      with_reducible refine sQ ?_
      have TR := ok.tree
      have frs := ok.cut.forest
      have nms : ∀ e ∈ rs, nameOk e.1 = true ∧ nameOk e.2 = true := fun e he => by
        have := ok.ends e he
        exact ⟨(ok.good.2 _ this.1).1, (ok.good.2 _ this.2).1⟩
      refine ⟨tb9, fun g c0 H10 eN tb10 hc0 => ⟨_, rfl, _, rfl, ?_⟩⟩
      have va10 := va9.extN eN
      have iv10 := iv9.extN eN
      have s10 := s9.nn eN
      have sp110 := sp19.extA s9 (ExtA.ofN eN)
      have sp210 := sp29.extA s9 (ExtA.ofN eN)
      have asks : ∀ {oo : Addr} {lss : List Addr} {spss : List (Int × Int)}, SpAt a H10 oo lss spss → spss.length = rs.length → Asks K (spAsk K C CV CB) [some (.ref x)] H10 (lss.map V.ref) (aheadD rs spss).shown := fun {oo lss spss} spo lso pp H11 Q' e11 gp qq => by
        have sok : SpsOk H11 (.ref pp) rs spss := ⟨⟨lss.map V.ref, ⟨pp, rfl, .inl gp⟩, tupI_spa (paired_imp (fun _ _ h => e11 _ _ h) spo.pr)⟩, spo.good, lso⟩
        exact ⟨_, _, rfl, rfl, _, _, rfl, .inr ⟨x, ss, rs, nss, rfl, iv10.is.same e11, by omega, .inr ⟨spss, sok, fun r ts qs2 H12 e12 nr gr pq pv => qq _ _ e12 (shows_ahead gr pq pv lr nms)⟩⟩⟩
      refine ⟨o1, o2, _, _, _, _, rfl, ?_, hc0, sp110.h, sp210.h, ?_, ?_, asks sp110 ls1r, asks sp210 ls2r, fun H13 e13 => ⟨_, rfl, ?_⟩⟩
      · intro g2
        refine lok_of (N := ["spans", "made"]) (ps := ["spans"]) (fr := ["made"]) (k := 9) (by exact ask_scope) (fun pm ctv us hus => ?_) (fun ws xs Hz Qz Ez hz => ?_) (fun Az out sz Hz xs ws Qz Ez rm hlen hz => ?_)
        · match us, hus with
          | [u], _ => rfl
        · obtain ⟨y, v, rfl, rfl, _⟩ := hz
          rfl
        · obtain ⟨y, v, rfl, rfl, hz⟩ := hz
          exact ⟨_, pe_call GSa (rm.mono (by decide)) rfl mSa kSa bSa .nil passL (pa_cons (pv 1) (pa_cons (pv 0) pa_nil)), ⟨y, rfl, v, rfl, hz⟩⟩
      · rw [List.length_map, sp110.pr.length]; omega
      · rw [List.length_map, sp210.pr.length]; omega
      refine iteF (nQ ?_)
      with_reducible refine sQ ?_
      have e913 : LamX.ExtN Hd H13 := eN.trans (LamX.ExtN.of e13)
      have s13 := s9.nn e913
      have va13 := va9.extN e913
      have iv13 := iv9.extN e913
      have sp113 := sp19.extA s9 (ExtA.ofN e913)
      have sp213 := sp29.extA s9 (ExtA.ofN e913)
      have tb13 := tabs_same tb10 e13
      have x13 : ExtA a H H13 := x9.trans (ExtA.ofN e913)
      clear s9 va9 iv9 sp19 sp29 x9 tb9 va10 iv10 s10 sp110 sp210 asks
      -- two evenings
      refine ⟨_, rfl, _, rfl, a, t, p1, p2, .ref p3, qs, ss, rs, _, rfl, s13, by omega, ok.frm va13, va13.n2, fun c1 cq1 es1 H14 n14 k14 s14 cl1 => ?_⟩
      have va14 := va13.kept s13 k14
      have sp114 := sp113.kept s13 k14
      refine ⟨_, rfl, _, rfl, ?_⟩
      refine known_run rfl rfl va14.t0 va14.h2 va14.pr sp114.h sp114.pr ls1r ndr fun d H15 e15 nd15 kn15 => ?_
      have va15 := va14.kept s14 (Kept.same e15)
      refine ⟨a, t, d, p2, .ref p1, .ref p3, qs, rs, sps1, _, rfl, s14.same e15, by omega, va15.t0, va15.n0, va15.h2, va15.n2, va15.pr, kn15, ndr, lr, ls1r, sp114.good, nms, fun c2 cq2 es2 H16 n16 k16 s16 cl2 => ?_⟩
      refine ⟨(by show 2 ≤ sizeLine; decide), fun R hR => ?_⟩
      have e17 := K1.Same.upd (H := H16) (p := R) (o := .lst [.ref c1, .ref c2]) hR
      have gR := upd_same' H16 R (.lst [.ref c1, .ref c2])
      generalize L2.upd H16 R (.lst [.ref c1, .ref c2]) = H17 at e17 gR ⊢
      have k1417 : Kept a H14 H17 := (Kept.same e15).trans (k16.trans (Kept.same e17))
      have k1317 : Kept a H13 H17 := k14.trans k1417
      have s17 := s16.same e17
      have va17 := va13.kept s13 k1317
      have iv17 := iv13.kept s13 k1317
      have sp117 := sp113.kept s13 k1317
      have sp217 := sp213.kept s13 k1317
      have c117 := cl1.kept s14 k1417
      have c217 := cl2.kept s16 (Kept.same e17)
      have tb17 := s13.tabs tb13 k1317
      have x17 : ExtA a H H17 := x13.trans (ExtA.of k1317)
      refine K1.gN ?_
      with_reducible refine sQ ?_
      refine ⟨tb17, fun g c0 H20 eN2 tb20 hc20 => ⟨_, rfl, R, _, 0, .ref c1, rfl, rfl, SqL.of (eN2 _ _ gR (fun _ z => by cases z)), rfl, _, rfl, R, _, 1, .ref c2, rfl, rfl, SqL.of (eN2 _ _ gR (fun _ z => by cases z)), rfl, ?_⟩⟩
      have iv20 := iv17.extN eN2
      have sp120 := sp117.extA s17 (ExtA.ofN eN2)
      have asks2 : ∀ {cc : Addr} {cqq : List Addr} {ess : List (Str × Str)}, ClAt a H17 cc cqq rs ess → ∃ tx, Asks K (spAsk2 K C CV CC CB) [some (.ref x), some (.ref o1)] H20 (cqq.map V.ref) tx := fun {cc cqq ess} clc => ⟨_, fun pp H21 Q' e21 gp qq => by
        have prq : Paired (TupP H21) cqq ess := paired_imp (fun _ _ z => e21 _ _ (eN2 _ _ z (fun _ z => by cases z))) clc.pr
        have ppn : ClAt (pp + 1) H21 pp cqq rs ess := ⟨gp, Nat.ne_of_lt (Nat.lt_succ_self pp), prq, clc.perm⟩
        have sok : SpsOk H21 (.ref o1) rs sps1 := ⟨⟨ls1.map V.ref, ⟨o1, rfl, .inl (e21 _ _ sp120.h)⟩, tupI_spa (paired_imp (fun _ _ h => e21 _ _ h) sp120.pr)⟩, sp120.good, ls1r⟩
        have ltj : ∀ j ∈ jsOf rs ess, j < rs.length := fun j hj => by
          obtain ⟨e0, he0, rfl⟩ := List.mem_map.mp hj
          exact List.idxOf_lt_length_of_mem (clc.perm.mem_iff.mp he0)
        exact ⟨_, _, _, rfl, rfl, _, _, _, rfl, .inr ⟨x, ss, rs, nss, rfl, iv20.is.same e21, ok.ends, by omega, .inr ⟨sps1, sok, .inr ⟨_, ppn.ev frs (by omega), ltj, fun H22 e22 => qq _ _ e22 (.inr (.inr ⟨_, rfl, rfl⟩))⟩⟩⟩⟩⟩
      obtain ⟨tx1, ak1⟩ := asks2 c117
      obtain ⟨tx2, ak2⟩ := asks2 c217
      refine ⟨c1, c2, _, _, tx1, tx2, rfl, ?_, hc20, eN2 _ _ c117.h (fun _ z => by cases z), eN2 _ _ c217.h (fun _ z => by cases z), ?_, ?_, ak1, ak2, fun H23 e23 => ⟨_, rfl, ?_⟩⟩
      · intro g2
        refine lok_of (N := ["evening", "made", "one"]) (ps := ["evening"]) (fr := ["made", "one"]) (k := 9) (by exact ask_scope2) (fun pm ctv us hus => ?_) (fun ws xs Hz Qz Ez hz => ?_) (fun Az out sz Hz xs ws Qz Ez rm hlen hz => ?_)
        · match us, hus with
          | [u], _ => rfl
        · obtain ⟨y, o, v, rfl, rfl, _⟩ := hz
          rfl
        · obtain ⟨y, o, v, rfl, rfl, hz⟩ := hz
          exact ⟨_, pe_call GCn rm rfl mCn kCn bCn .nil passL (pa_cons (pv 1) (pa_cons (pv 2) (pa_cons (pv 0) pa_nil))), ⟨y, rfl, o, rfl, v, rfl, hz⟩⟩
      · rw [List.length_map, c117.pr.length, c117.perm.length_eq]; omega
      · rw [List.length_map, c217.pr.length, c217.perm.length_eq]; omega
      refine iteF (nQ ?_)
      have e1723 : LamX.ExtN H17 H23 := eN2.trans (LamX.ExtN.of e23)
      refine ⟨_, rfl, _, rfl, _, rfl, _, rfl, a, t, x, o2, p1, p2, p3, qs, ls2, ss, rs, nss, sps2, _, rfl, s17.nn e1723, by omega, iv17.extN e1723, va17.extN e1723, ok, sp217.extA s17 (ExtA.ofN e1723), ls2r, pos, tabs_same tb20 e23, fun H24 x24 s24 tb24 => ⟨_, rfl, ?_⟩⟩
      refine iteF ⟨⟨_, _, _, _, _, _, _, rfl⟩, fun b o hb nt => ?_, tb24⟩
      have nba : b ≠ a := fun z => by
        rcases nH with e | ⟨ps, e⟩
        · rw [z, e] at hb; cases hb
        · rw [z, e] at hb
          exact nt ps (Option.some.inj hb).symm
      exact x24 b o nba (e1723 b o (x17 b o nba hb nt) nt) nt
  · rintro σ Hc ⟨⟨x1, x2, x3, x4, x5, x6, x8, rfl⟩, g1, g2⟩
    exact q _
end
end K1
end
-- WEndGs
section
set_option Elab.async false
set_option linter.all false
set_option maxRecDepth 100000
set_option maxHeartbeats 2000000
/-! the end of a law that shows (promise Wr.FnG), with any tables of lambdas -/
namespace Wr
open PySem PySem.Spec PyProof.Rows L2 LamX
/-- at the law's own call: the table is empty, the script is a list of the head (fixed) or the call's own (tracked, frozen) -/
noncomputable def H1s (K : PySem.W.Frag) (ts : List Addr) (a : Addr) (us : List Value) (zs : List Int) : Hp := fun b =>
  if b ∈ ts then some (.tbl #[]) else if b = a ∧ K.lookup a = none then some (.frz { cls := .type "list", data := .seq us.toArray } (.lst (zs.map V.int))) else none
section
variable {K : PySem.W.Frag} {ts : List Addr} {a : Addr} {us : List Value} {zs : List Int}
theorem H1s_T {b : Addr} (h : b ∈ ts) : H1s K ts a us zs b = some (.tbl #[]) := if_pos h
theorem H1s_a (n : a ∉ ts) (l : K.lookup a = none) : H1s K ts a us zs a = some (.frz { cls := .type "list", data := .seq us.toArray } (.lst (zs.map V.int))) := (if_neg n).trans (if_pos ⟨rfl, l⟩)
theorem H1s_any {b : Addr} {o : HO} (h : H1s K ts a us zs b = some o) : (b ∈ ts ∧ o = .tbl #[]) ∨ (b = a ∧ b ∉ ts ∧ K.lookup a = none ∧ o = .frz { cls := .type "list", data := .seq us.toArray } (.lst (zs.map V.int))) := by
  unfold H1s at h
  by_cases c : b ∈ ts
  · rw [if_pos c] at h
    exact .inl ⟨c, (Option.some.inj h).symm⟩
  · rw [if_neg c] at h
    by_cases d : b = a ∧ K.lookup a = none
    · rw [if_pos d] at h
      exact .inr ⟨d.1, c, d.2, (Option.some.inj h).symm⟩
    · rw [if_neg d] at h
      cases h
end
theorem end_calls {P : Program} {w : World} {K : PySem.W.Frag} {mg mb : Str → Option Value} {CX : CXT} {k : Nat} {fa a : Addr} {Ts : List (Addr × Addr)} {fd : FuncData} {x : Str} {sp : Sp} {s : Shared} {us : List Value} {zs : List Int}
    (kin : K.In s.heap) (nsG : s.heap.Ns mainGlobals mg) (nsB : s.heap.Ns builtinsNs mb) (mbB : ∀ x : Str, x ≠ "__name__" → mb x = bootBuiltins x) (lim : s.heap.NoLimit) (gens : s.gens = #[])
    (gTs : ∀ p ∈ Ts, s.heap.get? p.2 = some { cls := .none, data := .fields #[] }) (lTs : ∀ p ∈ Ts, K.lookup p.2 = none) (cTs : ∀ p ∈ Ts, PySem.W.CodeHd s.heap p.1 p.2)
    (mod : ∃ (bm : Addr) (ob : Obj), mg "__builtins__" = some (.ref bm) ∧ bm ≠ builtinsNs ∧ s.heap.get? bm = some ob ∧ ob.cls = .type "module" ∧ ob.dict = some builtinsNs ∧ ob.data = .plain)
    (gA : s.heap.get? a = some { cls := .type "list", data := .seq us.toArray }) (isI : IntsAre us zs) (lz : zs.length ≤ sizeLine) (room : Room k callerA)
    (F : ∀ base : Heap, K.In base → base.Ns mainGlobals mg → (∀ p ∈ Ts, TabB base mg p.1 p.2) → FnG P w K mg base CX k fa fd [x] sp) (bnd : ∀ (s : Shared) (u : Value), BindsTo s fd ⟨[u], []⟩ [(x, u)])
    (pre : ∀ H : Hp, (∀ p ∈ Ts, H p.2 = some (.tbl #[])) → SqL K H a (zs.map V.int) → sp [.ref a] H (fun v _ => v = .bl true) fun _ _ _ => False) (noX : ∀ H e s', CX [] H s (fun _ _ _ => False) e s' → False) :
    codeAny (model P w) callerA (.call (.ref fa) ⟨[.ref a], []⟩) (fun r t => r = .ok (.ret (.bool true)) ∧ OldK s.heap t.heap ∧ t.os = s.os ∧ AllBare t.gens) s := by
  obtain ⟨ts, hts⟩ : ∃ ts : List Addr, ts = Ts.map (·.2) := ⟨_, rfl⟩
  have gT : ∀ {T : Addr}, T ∈ ts → s.heap.get? T = some { cls := .none, data := .fields #[] } := fun h => by
    rw [hts] at h
    obtain ⟨p, hp, rfl⟩ := List.mem_map.mp h
    exact gTs p hp
  have lT : ∀ {T : Addr}, T ∈ ts → K.lookup T = none := fun h => by
    rw [hts] at h
    obtain ⟨p, hp, rfl⟩ := List.mem_map.mp h
    exact lTs p hp
  have tIn : ∀ p ∈ Ts, p.2 ∈ ts := fun p hp => by
    rw [hts]
    exact List.mem_map.mpr ⟨p, hp, rfl⟩
  have aT : a ∉ ts := fun z => by
    have g := gT z
    rw [g] at gA
    cases (congrArg Obj.data (Option.some.inj gA) : Data.fields #[] = Data.seq us.toArray 0)
  have vals := vals_ints isI
  have lu := isI.length
  generalize hH : H1s K ts a us zs = H
  have HT : ∀ {T : Addr}, T ∈ ts → H T = some (.tbl #[]) := fun h => by rw [← hH]; exact H1s_T h
  have any : ∀ {b : Addr} {o : HO}, H b = some o → (b ∈ ts ∧ o = .tbl #[]) ∨ (b = a ∧ b ∉ ts ∧ K.lookup a = none ∧ o = .frz { cls := .type "list", data := .seq us.toArray } (.lst (zs.map V.int))) := fun h => by
    rw [← hH] at h
    exact H1s_any h
  have script : SqL K H a (zs.map V.int) := by
    cases hk : K.lookup a with
    | none => exact .inl (.inr ⟨_, by rw [← hH]; exact H1s_a aT hk⟩)
    | some o =>
      have e := (kin a o hk).symm.trans gA
      cases e
      exact .inr ⟨_, us.toArray, _, hk, rfl, rfl, rfl, by rw [List.size_toArray, lu]; exact lz, by simpa using vals⟩
  have good : HOk P w H s.heap := fun b u h => by
    rcases any h with ⟨hb, rfl⟩ | ⟨rfl, _, _, rfl⟩
    · exact gT hb
    · exact ⟨gA, by rw [List.length_map]; exact lz, us, _, vals, gA⟩
  -- what is neither the table nor a list is untracked
  have off : ∀ {b : Addr} {o : Obj}, s.heap.get? b = some o → o.data ≠ .fields #[] → (∀ vs n, o.data ≠ .seq vs n) → H b = none := fun {b o} e n1 n2 => by
    cases q : H b with
    | none => rfl
    | some u =>
      rcases any q with ⟨hb, _⟩ | ⟨rfl, _, _, _⟩
      · exact absurd (congrArg Obj.data (Option.some.inj (e.symm.trans (gT hb)))) n1
      · exact absurd (congrArg Obj.data (Option.some.inj (e.symm.trans gA))) (n2 _ _)
  have keepD : ∀ {b : Addr} {m : Str → Option Value}, s.heap.Ns b m → (hidT s.heap H).Ns b m := fun {b m} ⟨o, es, ep, e, d, r⟩ =>
    ⟨o, es, ep, hidT_get e (off e (fun z => by rw [d] at z; cases z) fun _ _ z => by rw [d] at z; cases z), d, r⟩
  have kinB : K.In (hidT s.heap H) := fun b o e => hidT_get (kin b o e) (by
    cases q : H b with
    | none => rfl
    | some u =>
      rcases any q with ⟨hb, _⟩ | ⟨rfl, _, l, _⟩
      · rw [lT hb] at e
        cases e
      · rw [l] at e
        cases e)
  have modl : L2.Mod K mg (hidT s.heap H) := by
    obtain ⟨mc, k1, k2⟩ := lim
    exact ⟨kinB, keepD nsG, ⟨mb, keepD nsB, mbB⟩, mc, keepD k1, k2⟩
  have tab : ∀ p ∈ Ts, TabB (hidT s.heap H) mg p.1 p.2 := fun p hp => by
    obtain ⟨c, T⟩ := p
    have cT := cTs (c, T) hp
    have gT := gT (tIn (c, T) hp)
    dsimp only at cT gT ⊢
    obtain ⟨og, eg, ep, geg, dg, _⟩ := nsG
    obtain ⟨o, vs, fi, tf, fl, tg, iF, tx, tt, w1, w2, w3, w4, w5, w6, w7, w8, w9, w10⟩ := cT
    obtain ⟨bm, ob, v1, v2, v3, v4, v5, v6⟩ := mod
    refine ⟨⟨o, vs, fi, tf, fl, tg, iF, tx, tt, hidT_get w1 (off w1 (fun z => ?_) fun _ _ z => ?_), w2, w3, w4, w5, w6, w7, w8, w9, w10⟩, ⟨bm, ob, v1, v2, fun z => ?_, fun z => ?_, hidT_get v3 (off v3 (fun z => ?_) fun _ _ z => ?_), v4, v5, v6⟩, fun z => ?_⟩
    · obtain rfl := Data.fields.inj (w3.symm.trans z)
      simp at w4
    · cases w3.symm.trans z
    · rw [z] at v3
      obtain rfl := Option.some.inj (v3.symm.trans geg)
      rw [v6] at dg
      cases dg
    · rw [z] at v3
      obtain rfl := Option.some.inj (v3.symm.trans gT)
      cases v6
    · rw [v6] at z
      cases z
    · rw [v6] at z
      cases z
    · rw [z] at geg
      obtain rfl := Option.some.inj (geg.symm.trans gT)
      cases dg
  have env : Env0 P w K mg (hidT s.heap H) callerA [] s H := ⟨rfl, modl, fun b o e => of_hidT e, Nat.le_of_eq (hidT_size _ _), trivial, fun b hb => (nomatch (show b ∈ ([] : List Addr) from hb)), good, .of_eq gens⟩
  have run := (F _ kinB (keepD nsG) tab).go callerA [] s H ⟨[.ref a], []⟩ [.ref a] [.ref a] _ _ rfl room env (bnd s (.ref a)) (.cons rfl .nil) (pre H (fun p hp => HT (tIn p hp)) script)
  refine codeAny_mono run fun r t h => ?_
  match r, h with
  | .error e, h => exact (noX H e t h).elim
  | .ok .next, h => exact h.elim
  | .ok .brk, h => exact h.elim
  | .ok .cont, h => exact h.elim
  | .ok (.ret u), ⟨v, H2, os, bare, un, good2, rel, tr⟩ =>
    obtain rfl : v = .bl true := tr
    obtain rfl : u = Value.bool true := rel
    have same : ∀ b o, b ∉ ts → s.heap.get? b = some o → t.heap.get? b = some o := fun b o bT e => by
      cases q : H b with
      | none => exact un.keep b o e q (fun z => nomatch (show b ∈ ([] : List Addr) from z)) (by simp)
      | some u =>
        rcases any q with ⟨z, _⟩ | ⟨rfl, _, _, rfl⟩
        · exact absurd z bT
        · obtain ⟨e2, _⟩ := good2 b _ (un.frzs b _ _ q)
          rw [gA] at e
          rw [← e]
          exact e2
    refine ⟨rfl, ⟨fun d u e => ?_, fun d u e => ?_⟩, os, bare⟩
    · by_cases bT : d ∈ ts
      · obtain ⟨more, mT⟩ := un.tbls d #[] (HT bT)
        have gT2 : t.heap.get? d = some { cls := .none, data := .fields (#[] ++ more) } := good2 d _ mT
        obtain rfl := Option.some.inj (e.symm.trans (gT bT))
        have cd : ∃ p ∈ Ts, p.2 = d := by
          rw [hts] at bT
          obtain ⟨p, hp, z⟩ := List.mem_map.mp bT
          exact ⟨p, hp, z⟩
        obtain ⟨p, hp, rfl⟩ := cd
        exact .inr (.inl ⟨((cTs p hp).tab (gT bT)).isCodeTable, rfl, #[], more, rfl, gT2⟩)
      · exact .inl (same d u bT e)
    · by_cases bT : d ∈ ts
      · obtain ⟨more, mT⟩ := un.tbls d #[] (HT bT)
        exact ⟨_, good2 d _ mT⟩
      · exact ⟨u, same d u bT e⟩
/-- what is to be shown of a law with tables of lambdas, at the head's heap -/
def LawGs (l : PySem.W.OpenLaw) (w : World) (K : PySem.W.Frag) (CX : CXT) (k n : Nat) (x : Str) (mg : Str → Option Value) (fa : Addr) (h : Heap) : Prop :=
  ∃ (fd : FuncData) (Ts : List (Addr × Addr)) (sp : Sp), (∀ p ∈ Ts, h.get? p.2 = some { cls := .none, data := .fields #[] }) ∧ (∀ p ∈ Ts, K.lookup p.2 = none) ∧ (∀ p ∈ Ts, PySem.W.CodeHd h p.1 p.2) ∧ (∀ (s : Shared) (u : Value), BindsTo s fd ⟨[u], []⟩ [(x, u)]) ∧
    (∀ (H : Hp) (a : Addr) (zs : List Int), zs.length ≤ n → (∀ p ∈ Ts, H p.2 = some (.tbl #[])) → SqL K H a (zs.map V.int) → sp [.ref a] H (fun v _ => v = .bl true) fun _ _ _ => False) ∧
    ∀ base : Heap, K.In base → base.Ns mainGlobals mg → (∀ p ∈ Ts, TabB base mg p.1 p.2) → FnG l.prog w K mg base CX k fa fd [x] sp
theorem walk_Gs {l : PySem.W.OpenLaw} {n k : Nat} {q : Program} {loose : List Str} {XP : (Str → Option Value) → Heap → Prop} {YP : World → Heap → Prop} {d : DefRec} {K : Params → PySem.W.Frag} {CX : World → CXT} {x : Str}
    (mo : l.most = some n) (n1 : n ≤ sizeLine) (df : d.params.defaults = []) (room : Room k callerA) (yk : ∀ (w : World) (h : Heap), YP w h → (K w.params).In h)
    (at_ : ∀ (w : World) (mg : Str → Option Value) (fa : Addr) (h : Heap), YP w h → (K w.params).In h → h.Ns mainGlobals mg → mg d.name = some (.ref fa) → LawGs l w (K w.params) (CX w) k n x mg fa h)
    (noX : ∀ (w : World) (H : Hp) (s : Shared) (e : Value) (t : Shared), CX w [] H s (fun _ _ _ => False) e t → False) : PySem.W.WalkO q loose XP YP l.row.toRowW d [] (fun f vs => PySem.call f vs) := by
  refine Att.attach_callB mo df fun w s₀ s mg mb fa o pm cd doc a us zs G Y ho hd hcd main obj isI len bits gens => ?_
  have kin := yk w _ Y
  obtain ⟨fd, Ts, sp, t1, t2, t3, bnd, pre, F⟩ := at_ w mg fa _ Y kin G.T.g main
  exact end_calls kin G.T.g G.T.b G.T.builtins G.T.nolimit gens t1 t2 t3 G.T.bmain obj isI (Nat.le_trans len n1) room F bnd (fun H => pre H a zs len) fun H e t => noX w H s e t
end Wr
end
-- XEnd
section
set_option Elab.async false
set_option linter.all false
set_option maxRecDepth 100000
set_option maxHeartbeats 4000000
namespace K1
open PySem PySem.Spec PyProof.Rows L2 W0
abbrev TT3 (TPS TPR TPL : Addr) : List (Addr × Str) := [(TPS, qSr), (TPR, qRef), (TPL, qLaw)]
theorem kb_Sa {K : PySem.W.Frag} {f : Addr} {fd : FuncData} (F : Fun K "surely_ahead" "surely_ahead" sSa f fd) : KBn K fd ["valley", "spans"] 0 ["spans", "valley"] kwR2v kwR2 := by
  obtain ⟨oc, od, kV, doc, pm, an, cv, ct, osl, rfl, lk, hc⟩ := F.ex
  refine ⟨fun s us ws KI l1 l2 => ?_, fun hus hws => ?_⟩
  · match us, ws, l1, l2 with
    | [], [b, c], _, _ => exact .of_eq rfl
  · exact .cons (vals_at hws 1) (.cons (vals_at hws 0) .nil)
theorem kb_Cn {K : PySem.W.Frag} {f : Addr} {fd : FuncData} (F : Fun K "can_be" "can_be" sCn f fd) : KBn K fd ["valley", "spans", "evening"] 0 ["evening", "spans", "valley"] kwR3v kwR3 := by
  obtain ⟨oc, od, kV, doc, pm, an, cv, ct, osl, rfl, lk, hc⟩ := F.ex
  refine ⟨fun s us ws KI l1 l2 => ?_, fun hus hws => ?_⟩
  · match us, ws, l1, l2 with
    | [], [b, c, d], _, _ => exact .of_eq rfl
  · exact .cons (vals_at hws 2) (.cons (vals_at hws 1) (.cons (vals_at hws 0) .nil))
theorem mem3 {α : Type} {p x y z : α} (h : p ∈ [x, y, z]) : p = x ∨ p = y ∨ p = z := by
  simpa using h
theorem all_of_kit {K : PySem.W.Frag} {C : Addr} (h : ((kinds ++ ["function"]).all fun t => PySem.W.kitOne K (.type t) (.ref C) == some false) = true) : ∀ t ∈ kinds ++ ["function"], PySem.W.kitOne K (.type t) (.ref C) = some false := fun t ht => beq_iff_eq.mp (List.all_eq_true.mp h t ht)

theorem all_mk {l : PySem.W.OpenLaw} {w : World} {K : PySem.W.Frag} {h : Heap} {mg : Str → Option Value} {fa : Addr}
    {cd_isInt : Value}
    {f_isInt : Addr} {od_isInt an_isInt : Option Addr} {sl_isInt : Array (Option Value)} {oc_isInt kV_isInt dc_isInt pm_isInt ct_isInt : Value}
    {cd_fromOne : Value}
    {f_fromOne : Addr} {od_fromOne an_fromOne : Option Addr} {sl_fromOne : Array (Option Value)} {oc_fromOne kV_fromOne dc_fromOne pm_fromOne ct_fromOne : Value}
    {cd_isList : Value}
    {f_isList : Addr} {od_isList an_isList : Option Addr} {sl_isList : Array (Option Value)} {oc_isList kV_isList dc_isList pm_isList ct_isList : Value}
    {cd_isPair : Value}
    {f_isPair : Addr} {od_isPair an_isPair : Option Addr} {sl_isPair : Array (Option Value)} {oc_isPair kV_isPair dc_isPair pm_isPair ct_isPair : Value}
    {cd_isName : Value}
    {f_isName : Addr} {od_isName an_isName : Option Addr} {sl_isName : Array (Option Value)} {oc_isName kV_isName dc_isName pm_isName ct_isName : Value}
    {cd_draw : Value}
    {f_draw : Addr} {od_draw an_draw : Option Addr} {sl_draw : Array (Option Value)} {oc_draw kV_draw dc_draw pm_draw ct_draw : Value}
    {cd_pick : Value}
    {f_pick : Addr} {od_pick an_pick : Option Addr} {sl_pick : Array (Option Value)} {oc_pick kV_pick dc_pick pm_pick ct_pick : Value}
    {cd_mixed : Value}
    {f_mixed : Addr} {od_mixed an_mixed : Option Addr} {sl_mixed : Array (Option Value)} {oc_mixed kV_mixed dc_mixed pm_mixed ct_mixed : Value}
    {cd_ND : Value}
    {f_ND : Addr} {od_ND an_ND : Option Addr} {sl_ND : Array (Option Value)} {oc_ND kV_ND dc_ND pm_ND ct_ND : Value}
    {cd_NH : Value}
    {f_NH : Addr} {od_NH an_NH : Option Addr} {sl_NH : Array (Option Value)} {oc_NH kV_NH dc_NH pm_NH ct_NH : Value}
    {cd_NR : Value}
    {f_NR : Addr} {od_NR an_NR : Option Addr} {sl_NR : Array (Option Value)} {oc_NR kV_NR dc_NR pm_NR ct_NR : Value}
    {cd_keys : Value}
    {f_keys : Addr} {od_keys an_keys : Option Addr} {sl_keys : Array (Option Value)} {oc_keys kV_keys dc_keys pm_keys ct_keys : Value}
    {cd_lead : Value}
    {f_lead : Addr} {od_lead an_lead : Option Addr} {sl_lead : Array (Option Value)} {oc_lead kV_lead dc_lead pm_lead ct_lead : Value}
    {cd_BW : Value}
    {f_BW : Addr} {od_BW an_BW : Option Addr} {sl_BW : Array (Option Value)} {oc_BW kV_BW dc_BW pm_BW ct_BW : Value}
    {cd_NB : Value}
    {f_NB : Addr} {od_NB an_NB : Option Addr} {sl_NB : Array (Option Value)} {oc_NB kV_NB dc_NB pm_NB ct_NB : Value}
    {cd_Nv : Value}
    {f_Nv : Addr} {od_Nv an_Nv : Option Addr} {sl_Nv : Array (Option Value)} {oc_Nv kV_Nv dc_Nv pm_Nv ct_Nv : Value}
    {cd_Bg : Value}
    {f_Bg : Addr} {od_Bg an_Bg : Option Addr} {sl_Bg : Array (Option Value)} {oc_Bg kV_Bg dc_Bg pm_Bg ct_Bg : Value}
    {cd_Ep : Value}
    {f_Ep : Addr} {od_Ep an_Ep : Option Addr} {sl_Ep : Array (Option Value)} {oc_Ep kV_Ep dc_Ep pm_Ep ct_Ep : Value}
    {cd_Cg : Value}
    {f_Cg : Addr} {od_Cg an_Cg : Option Addr} {sl_Cg : Array (Option Value)} {oc_Cg kV_Cg dc_Cg pm_Cg ct_Cg : Value}
    {cd_Sn : Value}
    {f_Sn : Addr} {od_Sn an_Sn : Option Addr} {sl_Sn : Array (Option Value)} {oc_Sn kV_Sn dc_Sn pm_Sn ct_Sn : Value}
    {cd_Ns : Value}
    {f_Ns : Addr} {od_Ns an_Ns : Option Addr} {sl_Ns : Array (Option Value)} {oc_Ns kV_Ns dc_Ns pm_Ns ct_Ns : Value}
    {cd_Ah : Value}
    {f_Ah : Addr} {od_Ah an_Ah : Option Addr} {sl_Ah : Array (Option Value)} {oc_Ah kV_Ah dc_Ah pm_Ah ct_Ah : Value}
    {cd_Sa : Value}
    {f_Sa : Addr} {od_Sa an_Sa : Option Addr} {sl_Sa : Array (Option Value)} {oc_Sa kV_Sa dc_Sa pm_Sa ct_Sa : Value}
    {cd_Cn : Value}
    {f_Cn : Addr} {od_Cn an_Cn : Option Addr} {sl_Cn : Array (Option Value)} {oc_Cn kV_Cn dc_Cn pm_Cn ct_Cn : Value}
    {cd_Bo : Value}
    {f_Bo : Addr} {od_Bo an_Bo : Option Addr} {sl_Bo : Array (Option Value)} {oc_Bo kV_Bo dc_Bo pm_Bo ct_Bo : Value}
    {cd_spring : Value}
    {f_spring : Addr} {od_spring an_spring : Option Addr} {sl_spring : Array (Option Value)} {oc_spring kV_spring dc_spring pm_spring ct_spring : Value}
    {cd_VN : Value}
    {f_VN : Addr} {od_VN an_VN : Option Addr} {sl_VN : Array (Option Value)} {oc_VN kV_VN dc_VN pm_VN ct_VN : Value}
    {cd_VF : Value}
    {f_VF : Addr} {od_VF an_VF : Option Addr} {sl_VF : Array (Option Value)} {oc_VF kV_VF dc_VF pm_VF ct_VF : Value}
    {cd_lo : Value}
    {f_lo : Addr} {od_lo an_lo : Option Addr} {sl_lo : Array (Option Value)} {oc_lo kV_lo dc_lo pm_lo ct_lo : Value}
    {cd_VM : Value}
    {f_VM : Addr} {od_VM an_VM : Option Addr} {sl_VM : Array (Option Value)} {oc_VM kV_VM dc_VM pm_VM ct_VM : Value}
    {cd_sm : Value}
    {f_sm : Addr} {od_sm an_sm : Option Addr} {sl_sm : Array (Option Value)} {oc_sm kV_sm dc_sm pm_sm ct_sm : Value}
    {cd_met : Value}
    {f_met : Addr} {od_met an_met : Option Addr} {sl_met : Array (Option Value)} {oc_met kV_met dc_met pm_met ct_met : Value}
    {cd_Hd : Value}
    {f_Hd : Addr} {od_Hd an_Hd : Option Addr} {sl_Hd : Array (Option Value)} {oc_Hd kV_Hd dc_Hd pm_Hd ct_Hd : Value}
    {cd_Ee : Value}
    {f_Ee : Addr} {od_Ee an_Ee : Option Addr} {sl_Ee : Array (Option Value)} {oc_Ee kV_Ee dc_Ee pm_Ee ct_Ee : Value}
    {cd_Be : Value}
    {f_Be : Addr} {od_Be an_Be : Option Addr} {sl_Be : Array (Option Value)} {oc_Be kV_Be dc_Be pm_Be ct_Be : Value}
    {cd_Ds : Value}
    {f_Ds : Addr} {od_Ds an_Ds : Option Addr} {sl_Ds : Array (Option Value)} {oc_Ds kV_Ds dc_Ds pm_Ds ct_Ds : Value}
    {cd_Da : Value}
    {f_Da : Addr} {od_Da an_Da : Option Addr} {sl_Da : Array (Option Value)} {oc_Da kV_Da dc_Da pm_Da ct_Da : Value}
    {cd_Db : Value}
    {f_Db : Addr} {od_Db an_Db : Option Addr} {sl_Db : Array (Option Value)} {oc_Db kV_Db dc_Db pm_Db ct_Db : Value}
    {cd_Dg : Value}
    {f_Dg : Addr} {od_Dg an_Dg : Option Addr} {sl_Dg : Array (Option Value)} {oc_Dg kV_Dg dc_Dg pm_Dg ct_Dg : Value}
    {cd_Bs : Value}
    {f_Bs : Addr} {od_Bs an_Bs : Option Addr} {sl_Bs : Array (Option Value)} {oc_Bs kV_Bs dc_Bs pm_Bs ct_Bs : Value}
    {cd_Vc : Value}
    {f_Vc : Addr} {od_Vc an_Vc : Option Addr} {sl_Vc : Array (Option Value)} {oc_Vc kV_Vc dc_Vc pm_Vc ct_Vc : Value}
    {f_Sr : Addr} {od_Sr an_Sr : Option Addr} {sl_Sr : Array (Option Value)} {oc_Sr kV_Sr dc_Sr pm_Sr ct_Sr : Value}
    {f_Ref : Addr} {od_Ref an_Ref : Option Addr} {sl_Ref : Array (Option Value)} {oc_Ref kV_Ref dc_Ref pm_Ref ct_Ref : Value}
    {f_law : Addr} {od_law an_law : Option Addr} {sl_law : Array (Option Value)} {oc_law kV_law dc_law pm_law ct_law : Value}
    {C CF cSr TPS cRf TPR cLa TPL CH CR CD CN CO CV CC CB : Addr}
    {cd_VI : Value} {f_VI : Addr} {od_VI an_VI : Option Addr} {sl_VI : Array (Option Value)} {oc_VI kV_VI dc_VI pm_VI ct_VI : Value}
    {cd_Ro : Value} {f_Ro : Addr} {od_Ro an_Ro : Option Addr} {sl_Ro : Array (Option Value)} {oc_Ro kV_Ro dc_Ro pm_Ro ct_Ro : Value}
    {cd_Is : Value} {f_Is : Addr} {od_Is an_Is : Option Addr} {sl_Is : Array (Option Value)} {oc_Is kV_Is dc_Is pm_Is ct_Is : Value}
    {cd_Ne : Value} {f_Ne : Addr} {od_Ne an_Ne : Option Addr} {sl_Ne : Array (Option Value)} {oc_Ne kV_Ne dc_Ne pm_Ne ct_Ne : Value}
    {cd_Pl : Value} {f_Pl : Addr} {od_Pl an_Pl : Option Addr} {sl_Pl : Array (Option Value)} {oc_Pl kV_Pl dc_Pl pm_Pl ct_Pl : Value}
    {cd_Rd : Value} {f_Rd : Addr} {od_Rd an_Rd : Option Addr} {sl_Rd : Array (Option Value)} {oc_Rd kV_Rd dc_Rd pm_Rd ct_Rd : Value}
    {cd_iH : Value} {f_iH : Addr} {od_iH an_iH : Option Addr} {sl_iH : Array (Option Value)} {oc_iH kV_iH dc_iH pm_iH ct_iH : Value}
    {cd_iR : Value} {f_iR : Addr} {od_iR an_iR : Option Addr} {sl_iR : Array (Option Value)} {oc_iR kV_iR dc_iR pm_iR ct_iR : Value}
    {cd_iD : Value} {f_iD : Addr} {od_iD an_iD : Option Addr} {sl_iD : Array (Option Value)} {oc_iD kV_iD dc_iD pm_iD ct_iD : Value}
    {cd_iN : Value} {f_iN : Addr} {od_iN an_iN : Option Addr} {sl_iN : Array (Option Value)} {oc_iN kV_iN dc_iN pm_iN ct_iN : Value}
    {cd_iO : Value} {f_iO : Addr} {od_iO an_iO : Option Addr} {sl_iO : Array (Option Value)} {oc_iO kV_iO dc_iO pm_iO ct_iO : Value}
    {cd_iV : Value} {f_iV : Addr} {od_iV an_iV : Option Addr} {sl_iV : Array (Option Value)} {oc_iV kV_iV dc_iV pm_iV ct_iV : Value}
    {cd_iC : Value} {f_iC : Addr} {od_iC an_iC : Option Addr} {sl_iC : Array (Option Value)} {oc_iC kV_iC dc_iC pm_iC ct_iC : Value}
    {cd_iB : Value} {f_iB : Addr} {od_iB an_iB : Option Addr} {sl_iB : Array (Option Value)} {oc_iB kV_iB dc_iB pm_iB ct_iB : Value}
    {nmCH qCH : Str} {NCH : Addr} {bsCH bmCH : List Value} {snCH : List Str} {subCH : List Value} {abCH : Bool} {colCH : Option Bool} {ddCH : Option Addr} {m0CH m1CH m2CH m3CH m5CH : Option Value}
    {nmCR qCR : Str} {NCR : Addr} {bsCR bmCR : List Value} {snCR : List Str} {subCR : List Value} {abCR : Bool} {colCR : Option Bool} {ddCR : Option Addr} {m0CR m1CR m2CR m3CR m5CR : Option Value}
    {nmCD qCD : Str} {NCD : Addr} {bsCD bmCD : List Value} {snCD : List Str} {subCD : List Value} {abCD : Bool} {colCD : Option Bool} {ddCD : Option Addr} {m0CD m1CD m2CD m3CD m5CD : Option Value}
    {nmCN qCN : Str} {NCN : Addr} {bsCN bmCN : List Value} {snCN : List Str} {subCN : List Value} {abCN : Bool} {colCN : Option Bool} {ddCN : Option Addr} {m0CN m1CN m2CN m3CN m5CN : Option Value}
    {nmCO qCO : Str} {NCO : Addr} {bsCO bmCO : List Value} {snCO : List Str} {subCO : List Value} {abCO : Bool} {colCO : Option Bool} {ddCO : Option Addr} {m0CO m1CO m2CO m3CO m5CO : Option Value}
    {nmCV qCV : Str} {NCV : Addr} {bsCV bmCV : List Value} {snCV : List Str} {subCV : List Value} {abCV : Bool} {colCV : Option Bool} {ddCV : Option Addr} {m0CV m1CV m2CV m3CV m5CV : Option Value}
    {nmCC qCC : Str} {NCC : Addr} {bsCC bmCC : List Value} {snCC : List Str} {subCC : List Value} {abCC : Bool} {colCC : Option Bool} {ddCC : Option Addr} {m0CC m1CC m2CC m3CC m5CC : Option Value}
    {nmCB qCB : Str} {NCB : Addr} {bsCB bmCB : List Value} {snCB : List Str} {subCB : List Value} {abCB : Bool} {colCB : Option Bool} {ddCB : Option Addr} {m0CB m1CB m2CB m3CB m5CB : Option Value}
    {tL tF tN : Tok}
    (X : K.In h) (G : h.Ns mainGlobals mg) (hfa : mg "law" = some (.ref fa)) (hTS : h.get? TPS = some { cls := .none, data := .fields #[] }) (hTR : h.get? TPR = some { cls := .none, data := .fields #[] }) (hTL : h.get? TPL = some { cls := .none, data := .fields #[] })
    (a_isInt : PySem.W.nsIn K mainGlobals "is_integer" = some (some (.ref f_isInt)))
    (l_isInt : K.lookup f_isInt = some ⟨oc_isInt, od_isInt, .func (PySem.W.fnOf "is_integer" "is_integer" (defArgs sIsInt) (defBody sIsInt) (defScope sIsInt) .none kV_isInt dc_isInt pm_isInt an_isInt cd_isInt ct_isInt), sl_isInt⟩)
    (c_isInt : PySem.W.codeIn K cd_isInt "is_integer" = true)
    (k_isInt : PySem.W.keepIn K (.ref f_isInt) = true)
    (a_fromOne : PySem.W.nsIn K mainGlobals "is_from_one" = some (some (.ref f_fromOne)))
    (l_fromOne : K.lookup f_fromOne = some ⟨oc_fromOne, od_fromOne, .func (PySem.W.fnOf "is_from_one" "is_from_one" (defArgs sFromOne) (defBody sFromOne) (defScope sFromOne) .none kV_fromOne dc_fromOne pm_fromOne an_fromOne cd_fromOne ct_fromOne), sl_fromOne⟩)
    (c_fromOne : PySem.W.codeIn K cd_fromOne "is_from_one" = true)
    (k_fromOne : PySem.W.keepIn K (.ref f_fromOne) = true)
    (a_isList : PySem.W.nsIn K mainGlobals "is_list" = some (some (.ref f_isList)))
    (l_isList : K.lookup f_isList = some ⟨oc_isList, od_isList, .func (PySem.W.fnOf "is_list" "is_list" (defArgs sIsList) (defBody sIsList) (defScope sIsList) .none kV_isList dc_isList pm_isList an_isList cd_isList ct_isList), sl_isList⟩)
    (c_isList : PySem.W.codeIn K cd_isList "is_list" = true)
    (k_isList : PySem.W.keepIn K (.ref f_isList) = true)
    (a_isPair : PySem.W.nsIn K mainGlobals "is_pair" = some (some (.ref f_isPair)))
    (l_isPair : K.lookup f_isPair = some ⟨oc_isPair, od_isPair, .func (PySem.W.fnOf "is_pair" "is_pair" (defArgs sIsPair) (defBody sIsPair) (defScope sIsPair) .none kV_isPair dc_isPair pm_isPair an_isPair cd_isPair ct_isPair), sl_isPair⟩)
    (c_isPair : PySem.W.codeIn K cd_isPair "is_pair" = true)
    (k_isPair : PySem.W.keepIn K (.ref f_isPair) = true)
    (a_isName : PySem.W.nsIn K mainGlobals "is_name" = some (some (.ref f_isName)))
    (l_isName : K.lookup f_isName = some ⟨oc_isName, od_isName, .func (PySem.W.fnOf "is_name" "is_name" (defArgs sIsName) (defBody sIsName) (defScope sIsName) .none kV_isName dc_isName pm_isName an_isName cd_isName ct_isName), sl_isName⟩)
    (c_isName : PySem.W.codeIn K cd_isName "is_name" = true)
    (k_isName : PySem.W.keepIn K (.ref f_isName) = true)
    (a_draw : PySem.W.nsIn K mainGlobals "_law_draw" = some (some (.ref f_draw)))
    (l_draw : K.lookup f_draw = some ⟨oc_draw, od_draw, .func (PySem.W.fnOf "_law_draw" "_law_draw" (defArgs sDraw) (defBody sDraw) (defScope sDraw) .none kV_draw dc_draw pm_draw an_draw cd_draw ct_draw), sl_draw⟩)
    (c_draw : PySem.W.codeIn K cd_draw "_law_draw" = true)
    (k_draw : PySem.W.keepIn K (.ref f_draw) = true)
    (a_pick : PySem.W.nsIn K mainGlobals "_law_pick" = some (some (.ref f_pick)))
    (l_pick : K.lookup f_pick = some ⟨oc_pick, od_pick, .func (PySem.W.fnOf "_law_pick" "_law_pick" (defArgs sPick) (defBody sPick) (defScope sPick) .none kV_pick dc_pick pm_pick an_pick cd_pick ct_pick), sl_pick⟩)
    (c_pick : PySem.W.codeIn K cd_pick "_law_pick" = true)
    (k_pick : PySem.W.keepIn K (.ref f_pick) = true)
    (a_mixed : PySem.W.nsIn K mainGlobals "_law_mixed" = some (some (.ref f_mixed)))
    (l_mixed : K.lookup f_mixed = some ⟨oc_mixed, od_mixed, .func (PySem.W.fnOf "_law_mixed" "_law_mixed" (defArgs sMixed) (defBody sMixed) (defScope sMixed) .none kV_mixed dc_mixed pm_mixed an_mixed cd_mixed ct_mixed), sl_mixed⟩)
    (c_mixed : PySem.W.codeIn K cd_mixed "_law_mixed" = true)
    (k_mixed : PySem.W.keepIn K (.ref f_mixed) = true)
    (a_ND : PySem.W.nsIn K mainGlobals "_need_heads" = some (some (.ref f_ND)))
    (l_ND : K.lookup f_ND = some ⟨oc_ND, od_ND, .func (PySem.W.fnOf "_need_heads" "_need_heads" (defArgs sND) (defBody sND) (defScope sND) .none kV_ND dc_ND pm_ND an_ND cd_ND ct_ND), sl_ND⟩)
    (c_ND : PySem.W.codeIn K cd_ND "_need_heads" = true)
    (k_ND : PySem.W.keepIn K (.ref f_ND) = true)
    (a_NH : PySem.W.nsIn K mainGlobals "_need_houses" = some (some (.ref f_NH)))
    (l_NH : K.lookup f_NH = some ⟨oc_NH, od_NH, .func (PySem.W.fnOf "_need_houses" "_need_houses" (defArgs sNH) (defBody sNH) (defScope sNH) .none kV_NH dc_NH pm_NH an_NH cd_NH ct_NH), sl_NH⟩)
    (c_NH : PySem.W.codeIn K cd_NH "_need_houses" = true)
    (k_NH : PySem.W.keepIn K (.ref f_NH) = true)
    (a_NR : PySem.W.nsIn K mainGlobals "_need_roads" = some (some (.ref f_NR)))
    (l_NR : K.lookup f_NR = some ⟨oc_NR, od_NR, .func (PySem.W.fnOf "_need_roads" "_need_roads" (defArgs sNR) (defBody sNR) (defScope sNR) .none kV_NR dc_NR pm_NR an_NR cd_NR ct_NR), sl_NR⟩)
    (c_NR : PySem.W.codeIn K cd_NR "_need_roads" = true)
    (k_NR : PySem.W.keepIn K (.ref f_NR) = true)
    (a_keys : PySem.W.nsIn K mainGlobals "_are_keys" = some (some (.ref f_keys)))
    (l_keys : K.lookup f_keys = some ⟨oc_keys, od_keys, .func (PySem.W.fnOf "_are_keys" "_are_keys" (defArgs sKeys) (defBody sKeys) (defScope sKeys) .none kV_keys dc_keys pm_keys an_keys cd_keys ct_keys), sl_keys⟩)
    (c_keys : PySem.W.codeIn K cd_keys "_are_keys" = true)
    (k_keys : PySem.W.keepIn K (.ref f_keys) = true)
    (a_lead : PySem.W.nsIn K mainGlobals "_leader" = some (some (.ref f_lead)))
    (l_lead : K.lookup f_lead = some ⟨oc_lead, od_lead, .func (PySem.W.fnOf "_leader" "_leader" (defArgs sLead) (defBody sLead) (defScope sLead) .none kV_lead dc_lead pm_lead an_lead cd_lead ct_lead), sl_lead⟩)
    (c_lead : PySem.W.codeIn K cd_lead "_leader" = true)
    (k_lead : PySem.W.keepIn K (.ref f_lead) = true)
    (a_BW : PySem.W.nsIn K mainGlobals "_both_ways" = some (some (.ref f_BW)))
    (l_BW : K.lookup f_BW = some ⟨oc_BW, od_BW, .func (PySem.W.fnOf "_both_ways" "_both_ways" (defArgs sBW) (defBody sBW) (defScope sBW) .none kV_BW dc_BW pm_BW an_BW cd_BW ct_BW), sl_BW⟩)
    (c_BW : PySem.W.codeIn K cd_BW "_both_ways" = true)
    (k_BW : PySem.W.keepIn K (.ref f_BW) = true)
    (a_NB : PySem.W.nsIn K mainGlobals "_neighbours" = some (some (.ref f_NB)))
    (l_NB : K.lookup f_NB = some ⟨oc_NB, od_NB, .func (PySem.W.fnOf "_neighbours" "_neighbours" (defArgs sNB) (defBody sNB) (defScope sNB) .none kV_NB dc_NB pm_NB an_NB cd_NB ct_NB), sl_NB⟩)
    (c_NB : PySem.W.codeIn K cd_NB "_neighbours" = true)
    (k_NB : PySem.W.keepIn K (.ref f_NB) = true)
    (a_Nv : PySem.W.nsIn K mainGlobals "need_valley" = some (some (.ref f_Nv)))
    (l_Nv : K.lookup f_Nv = some ⟨oc_Nv, od_Nv, .func (PySem.W.fnOf "need_valley" "need_valley" (defArgs sNv) (defBody sNv) (defScope sNv) .none kV_Nv dc_Nv pm_Nv an_Nv cd_Nv ct_Nv), sl_Nv⟩)
    (c_Nv : PySem.W.codeIn K cd_Nv "need_valley" = true)
    (k_Nv : PySem.W.keepIn K (.ref f_Nv) = true)
    (a_Bg : PySem.W.nsIn K mainGlobals "begun_places" = some (some (.ref f_Bg)))
    (l_Bg : K.lookup f_Bg = some ⟨oc_Bg, od_Bg, .func (PySem.W.fnOf "begun_places" "begun_places" (defArgs sBg) (defBody sBg) (defScope sBg) .none kV_Bg dc_Bg pm_Bg an_Bg cd_Bg ct_Bg), sl_Bg⟩)
    (c_Bg : PySem.W.codeIn K cd_Bg "begun_places" = true)
    (k_Bg : PySem.W.keepIn K (.ref f_Bg) = true)
    (a_Ep : PySem.W.nsIn K mainGlobals "evening_places" = some (some (.ref f_Ep)))
    (l_Ep : K.lookup f_Ep = some ⟨oc_Ep, od_Ep, .func (PySem.W.fnOf "evening_places" "evening_places" (defArgs sEp) (defBody sEp) (defScope sEp) .none kV_Ep dc_Ep pm_Ep an_Ep cd_Ep ct_Ep), sl_Ep⟩)
    (c_Ep : PySem.W.codeIn K cd_Ep "evening_places" = true)
    (k_Ep : PySem.W.keepIn K (.ref f_Ep) = true)
    (a_Cg : PySem.W.nsIn K mainGlobals "need_evening" = some (some (.ref f_Cg)))
    (l_Cg : K.lookup f_Cg = some ⟨oc_Cg, od_Cg, .func (PySem.W.fnOf "need_evening" "need_evening" (defArgs sCg) (defBody sCg) (defScope sCg) .none kV_Cg dc_Cg pm_Cg an_Cg cd_Cg ct_Cg), sl_Cg⟩)
    (c_Cg : PySem.W.codeIn K cd_Cg "need_evening" = true)
    (k_Cg : PySem.W.keepIn K (.ref f_Cg) = true)
    (a_Sn : PySem.W.nsIn K mainGlobals "_is_span" = some (some (.ref f_Sn)))
    (l_Sn : K.lookup f_Sn = some ⟨oc_Sn, od_Sn, .func (PySem.W.fnOf "_is_span" "_is_span" (defArgs sSn) (defBody sSn) (defScope sSn) .none kV_Sn dc_Sn pm_Sn an_Sn cd_Sn ct_Sn), sl_Sn⟩)
    (c_Sn : PySem.W.codeIn K cd_Sn "_is_span" = true)
    (k_Sn : PySem.W.keepIn K (.ref f_Sn) = true)
    (a_Ns : PySem.W.nsIn K mainGlobals "need_spans" = some (some (.ref f_Ns)))
    (l_Ns : K.lookup f_Ns = some ⟨oc_Ns, od_Ns, .func (PySem.W.fnOf "need_spans" "need_spans" (defArgs sNs) (defBody sNs) (defScope sNs) .none kV_Ns dc_Ns pm_Ns an_Ns cd_Ns ct_Ns), sl_Ns⟩)
    (c_Ns : PySem.W.codeIn K cd_Ns "need_spans" = true)
    (k_Ns : PySem.W.keepIn K (.ref f_Ns) = true)
    (a_Ah : PySem.W.nsIn K mainGlobals "is_surely_ahead" = some (some (.ref f_Ah)))
    (l_Ah : K.lookup f_Ah = some ⟨oc_Ah, od_Ah, .func (PySem.W.fnOf "is_surely_ahead" "is_surely_ahead" (defArgs sAh) (defBody sAh) (defScope sAh) .none kV_Ah dc_Ah pm_Ah an_Ah cd_Ah ct_Ah), sl_Ah⟩)
    (c_Ah : PySem.W.codeIn K cd_Ah "is_surely_ahead" = true)
    (k_Ah : PySem.W.keepIn K (.ref f_Ah) = true)
    (a_Sa : PySem.W.nsIn K mainGlobals "surely_ahead" = some (some (.ref f_Sa)))
    (l_Sa : K.lookup f_Sa = some ⟨oc_Sa, od_Sa, .func (PySem.W.fnOf "surely_ahead" "surely_ahead" (defArgs sSa) (defBody sSa) (defScope sSa) .none kV_Sa dc_Sa pm_Sa an_Sa cd_Sa ct_Sa), sl_Sa⟩)
    (c_Sa : PySem.W.codeIn K cd_Sa "surely_ahead" = true)
    (k_Sa : PySem.W.keepIn K (.ref f_Sa) = true)
    (a_Cn : PySem.W.nsIn K mainGlobals "can_be" = some (some (.ref f_Cn)))
    (l_Cn : K.lookup f_Cn = some ⟨oc_Cn, od_Cn, .func (PySem.W.fnOf "can_be" "can_be" (defArgs sCn) (defBody sCn) (defScope sCn) .none kV_Cn dc_Cn pm_Cn an_Cn cd_Cn ct_Cn), sl_Cn⟩)
    (c_Cn : PySem.W.codeIn K cd_Cn "can_be" = true)
    (k_Cn : PySem.W.keepIn K (.ref f_Cn) = true)
    (a_Bo : PySem.W.nsIn K mainGlobals "bar_of" = some (some (.ref f_Bo)))
    (l_Bo : K.lookup f_Bo = some ⟨oc_Bo, od_Bo, .func (PySem.W.fnOf "bar_of" "bar_of" (defArgs sBo) (defBody sBo) (defScope sBo) .none kV_Bo dc_Bo pm_Bo an_Bo cd_Bo ct_Bo), sl_Bo⟩)
    (c_Bo : PySem.W.codeIn K cd_Bo "bar_of" = true)
    (k_Bo : PySem.W.keepIn K (.ref f_Bo) = true)
    (a_spring : PySem.W.nsIn K mainGlobals "_law_spring" = some (some (.ref f_spring)))
    (l_spring : K.lookup f_spring = some ⟨oc_spring, od_spring, .func (PySem.W.fnOf "_law_spring" "_law_spring" (defArgs sSpring) (defBody sSpring) (defScope sSpring) .none kV_spring dc_spring pm_spring an_spring cd_spring ct_spring), sl_spring⟩)
    (c_spring : PySem.W.codeIn K cd_spring "_law_spring" = true)
    (k_spring : PySem.W.keepIn K (.ref f_spring) = true)
    (a_VN : PySem.W.nsIn K mainGlobals "_law_v_names" = some (some (.ref f_VN)))
    (l_VN : K.lookup f_VN = some ⟨oc_VN, od_VN, .func (PySem.W.fnOf "_law_v_names" "_law_v_names" (defArgs sVN) (defBody sVN) (defScope sVN) .none kV_VN dc_VN pm_VN an_VN cd_VN ct_VN), sl_VN⟩)
    (c_VN : PySem.W.codeIn K cd_VN "_law_v_names" = true)
    (k_VN : PySem.W.keepIn K (.ref f_VN) = true)
    (a_VF : PySem.W.nsIn K mainGlobals "_law_v_form" = some (some (.ref f_VF)))
    (l_VF : K.lookup f_VF = some ⟨oc_VF, od_VF, .func (PySem.W.fnOf "_law_v_form" "_law_v_form" (defArgs sVF) (defBody sVF) (defScope sVF) .none kV_VF dc_VF pm_VF an_VF cd_VF ct_VF), sl_VF⟩)
    (c_VF : PySem.W.codeIn K cd_VF "_law_v_form" = true)
    (k_VF : PySem.W.keepIn K (.ref f_VF) = true)
    (a_lo : PySem.W.nsIn K mainGlobals "_law_loose" = some (some (.ref f_lo)))
    (l_lo : K.lookup f_lo = some ⟨oc_lo, od_lo, .func (PySem.W.fnOf "_law_loose" "_law_loose" (defArgs sLo) (defBody sLo) (defScope sLo) .none kV_lo dc_lo pm_lo an_lo cd_lo ct_lo), sl_lo⟩)
    (c_lo : PySem.W.codeIn K cd_lo "_law_loose" = true)
    (k_lo : PySem.W.keepIn K (.ref f_lo) = true)
    (a_VM : PySem.W.nsIn K mainGlobals "_law_v_made" = some (some (.ref f_VM)))
    (l_VM : K.lookup f_VM = some ⟨oc_VM, od_VM, .func (PySem.W.fnOf "_law_v_made" "_law_v_made" (defArgs sVM) (defBody sVM) (defScope sVM) .none kV_VM dc_VM pm_VM an_VM cd_VM ct_VM), sl_VM⟩)
    (c_VM : PySem.W.codeIn K cd_VM "_law_v_made" = true)
    (k_VM : PySem.W.keepIn K (.ref f_VM) = true)
    (a_sm : PySem.W.nsIn K mainGlobals "_law_same" = some (some (.ref f_sm)))
    (l_sm : K.lookup f_sm = some ⟨oc_sm, od_sm, .func (PySem.W.fnOf "_law_same" "_law_same" (defArgs sSm) (defBody sSm) (defScope sSm) .none kV_sm dc_sm pm_sm an_sm cd_sm ct_sm), sl_sm⟩)
    (c_sm : PySem.W.codeIn K cd_sm "_law_same" = true)
    (k_sm : PySem.W.keepIn K (.ref f_sm) = true)
    (a_met : PySem.W.nsIn K mainGlobals "_law_met" = some (some (.ref f_met)))
    (l_met : K.lookup f_met = some ⟨oc_met, od_met, .func (PySem.W.fnOf "_law_met" "_law_met" (defArgs sMt) (defBody sMt) (defScope sMt) .none kV_met dc_met pm_met an_met cd_met ct_met), sl_met⟩)
    (c_met : PySem.W.codeIn K cd_met "_law_met" = true)
    (k_met : PySem.W.keepIn K (.ref f_met) = true)
    (a_Hd : PySem.W.nsIn K mainGlobals "_law_v_handed" = some (some (.ref f_Hd)))
    (l_Hd : K.lookup f_Hd = some ⟨oc_Hd, od_Hd, .func (PySem.W.fnOf "_law_v_handed" "_law_v_handed" (defArgs sHd) (defBody sHd) (defScope sHd) .none kV_Hd dc_Hd pm_Hd an_Hd cd_Hd ct_Hd), sl_Hd⟩)
    (c_Hd : PySem.W.codeIn K cd_Hd "_law_v_handed" = true)
    (k_Hd : PySem.W.keepIn K (.ref f_Hd) = true)
    (a_Ee : PySem.W.nsIn K mainGlobals "_law_v_evening" = some (some (.ref f_Ee)))
    (l_Ee : K.lookup f_Ee = some ⟨oc_Ee, od_Ee, .func (PySem.W.fnOf "_law_v_evening" "_law_v_evening" (defArgs sEe) (defBody sEe) (defScope sEe) .none kV_Ee dc_Ee pm_Ee an_Ee cd_Ee ct_Ee), sl_Ee⟩)
    (c_Ee : PySem.W.codeIn K cd_Ee "_law_v_evening" = true)
    (k_Ee : PySem.W.keepIn K (.ref f_Ee) = true)
    (a_Be : PySem.W.nsIn K mainGlobals "_law_v_bad_evenings" = some (some (.ref f_Be)))
    (l_Be : K.lookup f_Be = some ⟨oc_Be, od_Be, .func (PySem.W.fnOf "_law_v_bad_evenings" "_law_v_bad_evenings" (defArgs sBe) (defBody sBe) (defScope sBe) .none kV_Be dc_Be pm_Be an_Be cd_Be ct_Be), sl_Be⟩)
    (c_Be : PySem.W.codeIn K cd_Be "_law_v_bad_evenings" = true)
    (k_Be : PySem.W.keepIn K (.ref f_Be) = true)
    (a_Ds : PySem.W.nsIn K mainGlobals "_law_d_spans" = some (some (.ref f_Ds)))
    (l_Ds : K.lookup f_Ds = some ⟨oc_Ds, od_Ds, .func (PySem.W.fnOf "_law_d_spans" "_law_d_spans" (defArgs sDs) (defBody sDs) (defScope sDs) .none kV_Ds dc_Ds pm_Ds an_Ds cd_Ds ct_Ds), sl_Ds⟩)
    (c_Ds : PySem.W.codeIn K cd_Ds "_law_d_spans" = true)
    (k_Ds : PySem.W.keepIn K (.ref f_Ds) = true)
    (a_Da : PySem.W.nsIn K mainGlobals "_law_d_ahead" = some (some (.ref f_Da)))
    (l_Da : K.lookup f_Da = some ⟨oc_Da, od_Da, .func (PySem.W.fnOf "_law_d_ahead" "_law_d_ahead" (defArgs sDa) (defBody sDa) (defScope sDa) .none kV_Da dc_Da pm_Da an_Da cd_Da ct_Da), sl_Da⟩)
    (c_Da : PySem.W.codeIn K cd_Da "_law_d_ahead" = true)
    (k_Da : PySem.W.keepIn K (.ref f_Da) = true)
    (a_Db : PySem.W.nsIn K mainGlobals "_law_d_bar" = some (some (.ref f_Db)))
    (l_Db : K.lookup f_Db = some ⟨oc_Db, od_Db, .func (PySem.W.fnOf "_law_d_bar" "_law_d_bar" (defArgs sDb) (defBody sDb) (defScope sDb) .none kV_Db dc_Db pm_Db an_Db cd_Db ct_Db), sl_Db⟩)
    (c_Db : PySem.W.codeIn K cd_Db "_law_d_bar" = true)
    (k_Db : PySem.W.keepIn K (.ref f_Db) = true)
    (a_Dg : PySem.W.nsIn K mainGlobals "_law_d_good" = some (some (.ref f_Dg)))
    (l_Dg : K.lookup f_Dg = some ⟨oc_Dg, od_Dg, .func (PySem.W.fnOf "_law_d_good" "_law_d_good" (defArgs sDg) (defBody sDg) (defScope sDg) .none kV_Dg dc_Dg pm_Dg an_Dg cd_Dg ct_Dg), sl_Dg⟩)
    (c_Dg : PySem.W.codeIn K cd_Dg "_law_d_good" = true)
    (k_Dg : PySem.W.keepIn K (.ref f_Dg) = true)
    (a_Bs : PySem.W.nsIn K mainGlobals "_law_d_bad_spans" = some (some (.ref f_Bs)))
    (l_Bs : K.lookup f_Bs = some ⟨oc_Bs, od_Bs, .func (PySem.W.fnOf "_law_d_bad_spans" "_law_d_bad_spans" (defArgs sBs) (defBody sBs) (defScope sBs) .none kV_Bs dc_Bs pm_Bs an_Bs cd_Bs ct_Bs), sl_Bs⟩)
    (c_Bs : PySem.W.codeIn K cd_Bs "_law_d_bad_spans" = true)
    (k_Bs : PySem.W.keepIn K (.ref f_Bs) = true)
    (a_Vc : PySem.W.nsIn K mainGlobals "_law_v_changed" = some (some (.ref f_Vc)))
    (l_Vc : K.lookup f_Vc = some ⟨oc_Vc, od_Vc, .func (PySem.W.fnOf "_law_v_changed" "_law_v_changed" (defArgs sVc) (defBody sVc) (defScope sVc) .none kV_Vc dc_Vc pm_Vc an_Vc cd_Vc ct_Vc), sl_Vc⟩)
    (c_Vc : PySem.W.codeIn K cd_Vc "_law_v_changed" = true)
    (k_Vc : PySem.W.keepIn K (.ref f_Vc) = true)
    (a_Sr : PySem.W.nsIn K mainGlobals "_law_spans_right" = some (some (.ref f_Sr)))
    (l_Sr : K.lookup f_Sr = some ⟨oc_Sr, od_Sr, .func (PySem.W.fnOf "_law_spans_right" "_law_spans_right" (defArgs sSr) (defBody sSr) (defScope sSr) .none kV_Sr dc_Sr pm_Sr an_Sr (.ref cSr) ct_Sr), sl_Sr⟩)
    (c_Sr : PySem.W.codeIn K (.ref cSr) "_law_spans_right" = true)
    (k_Sr : PySem.W.keepIn K (.ref f_Sr) = true)
    (a_Ref : PySem.W.nsIn K mainGlobals "_law_refused_right" = some (some (.ref f_Ref)))
    (l_Ref : K.lookup f_Ref = some ⟨oc_Ref, od_Ref, .func (PySem.W.fnOf "_law_refused_right" "_law_refused_right" (defArgs sRef) (defBody sRef) (defScope sRef) .none kV_Ref dc_Ref pm_Ref an_Ref (.ref cRf) ct_Ref), sl_Ref⟩)
    (c_Ref : PySem.W.codeIn K (.ref cRf) "_law_refused_right" = true)
    (k_Ref : PySem.W.keepIn K (.ref f_Ref) = true)
    (a_law : PySem.W.nsIn K mainGlobals "law" = some (some (.ref f_law)))
    (l_law : K.lookup f_law = some ⟨oc_law, od_law, .func (PySem.W.fnOf "law" "law" (defArgs sLaw) (defBody sLaw) (defScope sLaw) .none kV_law dc_law pm_law an_law (.ref cLa) ct_law), sl_law⟩)
    (c_law : PySem.W.codeIn K (.ref cLa) "law" = true)
    (k_law : PySem.W.keepIn K (.ref f_law) = true)
    (aC : PySem.W.nsIn K mainGlobals "Valley" = some (some (.ref C)))
    (aCF : PySem.W.nsIn K mainGlobals "FeastError" = some (some (.ref CF)))
    (aCH : PySem.W.nsIn K mainGlobals "BadHouses" = some (some (.ref CH)))
    (aCR : PySem.W.nsIn K mainGlobals "BadRoads" = some (some (.ref CR)))
    (aCD : PySem.W.nsIn K mainGlobals "BadHeads" = some (some (.ref CD)))
    (aCN : PySem.W.nsIn K mainGlobals "NoHouse" = some (some (.ref CN)))
    (aCO : PySem.W.nsIn K mainGlobals "NoRoad" = some (some (.ref CO)))
    (aCV : PySem.W.nsIn K mainGlobals "BadValley" = some (some (.ref CV)))
    (aCC : PySem.W.nsIn K mainGlobals "BadEvening" = some (some (.ref CC)))
    (aCB : PySem.W.nsIn K mainGlobals "BadSpans" = some (some (.ref CB)))
    (a_VI : PySem.W.findIn K (.ref C) "__init__" = some (some (.ref f_VI)))
    (i_VI : PySem.W.isFn K (.ref f_VI) = true)
    (l_VI : K.lookup f_VI = some ⟨oc_VI, od_VI, .func (PySem.W.fnOf "__init__" "Valley.__init__" (defArgs sVI) (defBody sVI) (defScope sVI) .none kV_VI dc_VI pm_VI an_VI cd_VI ct_VI), sl_VI⟩)
    (c_VI : PySem.W.codeIn K cd_VI "Valley.__init__" = true)
    (k_VI : PySem.W.keepIn K (.ref f_VI) = true)
    (a_Ro : PySem.W.findIn K (.ref C) "roads" = some (some (.ref f_Ro)))
    (i_Ro : PySem.W.isFn K (.ref f_Ro) = true)
    (l_Ro : K.lookup f_Ro = some ⟨oc_Ro, od_Ro, .func (PySem.W.fnOf "roads" "Valley.roads" (defArgs sVR) (defBody sVR) (defScope sVR) .none kV_Ro dc_Ro pm_Ro an_Ro cd_Ro ct_Ro), sl_Ro⟩)
    (c_Ro : PySem.W.codeIn K cd_Ro "Valley.roads" = true)
    (k_Ro : PySem.W.keepIn K (.ref f_Ro) = true)
    (a_Is : PySem.W.findIn K (.ref C) "is_house" = some (some (.ref f_Is)))
    (i_Is : PySem.W.isFn K (.ref f_Is) = true)
    (l_Is : K.lookup f_Is = some ⟨oc_Is, od_Is, .func (PySem.W.fnOf "is_house" "Valley.is_house" (defArgs sIs) (defBody sIs) (defScope sIs) .none kV_Is dc_Is pm_Is an_Is cd_Is ct_Is), sl_Is⟩)
    (c_Is : PySem.W.codeIn K cd_Is "Valley.is_house" = true)
    (k_Is : PySem.W.keepIn K (.ref f_Is) = true)
    (a_Ne : PySem.W.findIn K (.ref C) "need_house" = some (some (.ref f_Ne)))
    (i_Ne : PySem.W.isFn K (.ref f_Ne) = true)
    (l_Ne : K.lookup f_Ne = some ⟨oc_Ne, od_Ne, .func (PySem.W.fnOf "need_house" "Valley.need_house" (defArgs sNe) (defBody sNe) (defScope sNe) .none kV_Ne dc_Ne pm_Ne an_Ne cd_Ne ct_Ne), sl_Ne⟩)
    (c_Ne : PySem.W.codeIn K cd_Ne "Valley.need_house" = true)
    (k_Ne : PySem.W.keepIn K (.ref f_Ne) = true)
    (a_Pl : PySem.W.findIn K (.ref C) "place" = some (some (.ref f_Pl)))
    (i_Pl : PySem.W.isFn K (.ref f_Pl) = true)
    (l_Pl : K.lookup f_Pl = some ⟨oc_Pl, od_Pl, .func (PySem.W.fnOf "place" "Valley.place" (defArgs sPl) (defBody sPl) (defScope sPl) .none kV_Pl dc_Pl pm_Pl an_Pl cd_Pl ct_Pl), sl_Pl⟩)
    (c_Pl : PySem.W.codeIn K cd_Pl "Valley.place" = true)
    (k_Pl : PySem.W.keepIn K (.ref f_Pl) = true)
    (a_Rd : PySem.W.findIn K (.ref C) "is_road" = some (some (.ref f_Rd)))
    (i_Rd : PySem.W.isFn K (.ref f_Rd) = true)
    (l_Rd : K.lookup f_Rd = some ⟨oc_Rd, od_Rd, .func (PySem.W.fnOf "is_road" "Valley.is_road" (defArgs sRd) (defBody sRd) (defScope sRd) .none kV_Rd dc_Rd pm_Rd an_Rd cd_Rd ct_Rd), sl_Rd⟩)
    (c_Rd : PySem.W.codeIn K cd_Rd "Valley.is_road" = true)
    (k_Rd : PySem.W.keepIn K (.ref f_Rd) = true)
    (a_iH : PySem.W.findIn K (.ref CH) "__init__" = some (some (.ref f_iH)))
    (i_iH : PySem.W.isFn K (.ref f_iH) = true)
    (l_iH : K.lookup f_iH = some ⟨oc_iH, od_iH, .func (PySem.W.fnOf "__init__" "BadHouses.__init__" (defArgs sIH) (defBody sIH) (defScope sIH) .none kV_iH dc_iH pm_iH an_iH cd_iH ct_iH), sl_iH⟩)
    (c_iH : PySem.W.codeIn K cd_iH "BadHouses.__init__" = true)
    (k_iH : PySem.W.keepIn K (.ref f_iH) = true)
    (a_iR : PySem.W.findIn K (.ref CR) "__init__" = some (some (.ref f_iR)))
    (i_iR : PySem.W.isFn K (.ref f_iR) = true)
    (l_iR : K.lookup f_iR = some ⟨oc_iR, od_iR, .func (PySem.W.fnOf "__init__" "BadRoads.__init__" (defArgs sIR) (defBody sIR) (defScope sIR) .none kV_iR dc_iR pm_iR an_iR cd_iR ct_iR), sl_iR⟩)
    (c_iR : PySem.W.codeIn K cd_iR "BadRoads.__init__" = true)
    (k_iR : PySem.W.keepIn K (.ref f_iR) = true)
    (a_iD : PySem.W.findIn K (.ref CD) "__init__" = some (some (.ref f_iD)))
    (i_iD : PySem.W.isFn K (.ref f_iD) = true)
    (l_iD : K.lookup f_iD = some ⟨oc_iD, od_iD, .func (PySem.W.fnOf "__init__" "BadHeads.__init__" (defArgs sID) (defBody sID) (defScope sID) .none kV_iD dc_iD pm_iD an_iD cd_iD ct_iD), sl_iD⟩)
    (c_iD : PySem.W.codeIn K cd_iD "BadHeads.__init__" = true)
    (k_iD : PySem.W.keepIn K (.ref f_iD) = true)
    (a_iN : PySem.W.findIn K (.ref CN) "__init__" = some (some (.ref f_iN)))
    (i_iN : PySem.W.isFn K (.ref f_iN) = true)
    (l_iN : K.lookup f_iN = some ⟨oc_iN, od_iN, .func (PySem.W.fnOf "__init__" "NoHouse.__init__" (defArgs sIN) (defBody sIN) (defScope sIN) .none kV_iN dc_iN pm_iN an_iN cd_iN ct_iN), sl_iN⟩)
    (c_iN : PySem.W.codeIn K cd_iN "NoHouse.__init__" = true)
    (k_iN : PySem.W.keepIn K (.ref f_iN) = true)
    (a_iO : PySem.W.findIn K (.ref CO) "__init__" = some (some (.ref f_iO)))
    (i_iO : PySem.W.isFn K (.ref f_iO) = true)
    (l_iO : K.lookup f_iO = some ⟨oc_iO, od_iO, .func (PySem.W.fnOf "__init__" "NoRoad.__init__" (defArgs sIO) (defBody sIO) (defScope sIO) .none kV_iO dc_iO pm_iO an_iO cd_iO ct_iO), sl_iO⟩)
    (c_iO : PySem.W.codeIn K cd_iO "NoRoad.__init__" = true)
    (k_iO : PySem.W.keepIn K (.ref f_iO) = true)
    (a_iV : PySem.W.findIn K (.ref CV) "__init__" = some (some (.ref f_iV)))
    (i_iV : PySem.W.isFn K (.ref f_iV) = true)
    (l_iV : K.lookup f_iV = some ⟨oc_iV, od_iV, .func (PySem.W.fnOf "__init__" "BadValley.__init__" (defArgs sIV) (defBody sIV) (defScope sIV) .none kV_iV dc_iV pm_iV an_iV cd_iV ct_iV), sl_iV⟩)
    (c_iV : PySem.W.codeIn K cd_iV "BadValley.__init__" = true)
    (k_iV : PySem.W.keepIn K (.ref f_iV) = true)
    (a_iC : PySem.W.findIn K (.ref CC) "__init__" = some (some (.ref f_iC)))
    (i_iC : PySem.W.isFn K (.ref f_iC) = true)
    (l_iC : K.lookup f_iC = some ⟨oc_iC, od_iC, .func (PySem.W.fnOf "__init__" "BadEvening.__init__" (defArgs sCl) (defBody sCl) (defScope sCl) .none kV_iC dc_iC pm_iC an_iC cd_iC ct_iC), sl_iC⟩)
    (c_iC : PySem.W.codeIn K cd_iC "BadEvening.__init__" = true)
    (k_iC : PySem.W.keepIn K (.ref f_iC) = true)
    (a_iB : PySem.W.findIn K (.ref CB) "__init__" = some (some (.ref f_iB)))
    (i_iB : PySem.W.isFn K (.ref f_iB) = true)
    (l_iB : K.lookup f_iB = some ⟨oc_iB, od_iB, .func (PySem.W.fnOf "__init__" "BadSpans.__init__" (defArgs sIB) (defBody sIB) (defScope sIB) .none kV_iB dc_iB pm_iB an_iB cd_iB ct_iB), sl_iB⟩)
    (c_iB : PySem.W.codeIn K cd_iB "BadSpans.__init__" = true)
    (k_iB : PySem.W.keepIn K (.ref f_iB) = true)
    (pg : PySem.W.plainGet K C Str.empty = true)
    (hd : PySem.W.hasDictIn K C = true)
    (po : PySem.W.plainOver K C = true)
    (sa : PySem.W.findIn K (.ref C) "__setattr__" = some (some (.builtin "object.__setattr__")))
    (mk : PySem.W.makesIn K C = true)
    (kc : PySem.W.keepIn K (.ref C) = true)
    (n1 : PySem.W.findIn K (.ref C) "_houses" = some none)
    (n2 : PySem.W.findIn K (.ref C) "_roads" = some none)
    (n3 : PySem.W.findIn K (.ref C) "_heads" = some none)
    (n4 : PySem.W.findIn K (.ref C) "_people" = some none)
    (n5 : PySem.W.findIn K (.ref C) "_places" = some none)
    (n6 : PySem.W.findIn K (.ref C) "_beside" = some none)
    (ha : PySem.W.findIn K (.ref C) "__class__" = some (some (.builtin "object.__class__")))
    (hn : PySem.W.specialIn K (.builtin "object.__class__") "__get__" = some (some (.builtin "getset_descriptor.__get__")))
    (htk : PySem.W.takesIn K (.builtin "object.__class__") = some true)
    (hm : PySem.W.mroIn K C (.type "object") = some true)
    (own : PySem.W.kitOne K (.ref C) (.ref C) = some true)
    (kno : ((kinds ++ ["function"]).all fun t => PySem.W.kitOne K (.type t) (.ref C) == some false) = true)
    (fsp : PySem.W.specialIn K (.ref CF) "__getattribute__" = some (some (.builtin "type.__getattribute__")))
    (frd : PySem.W.readsIn K CF (.type "type") = true)
    (fin : PySem.W.findCls K (.ref CF) (.type "type") "__init__" = some (.val (.builtin "ValueError.__init__")))
    (xCH : K.lookup CH = some (excClassObj nmCH qCH CH NCH bsCH bmCH true snCH subCH abCH colCH ddCH m0CH m1CH m2CH m3CH m5CH "ValueError.__new__"))
    (rCH : PySem.HandSPX.refsVE bmCH = true)
    (saCH : PySem.W.findIn K (.ref CH) "__setattr__" = some (some (.builtin "object.__setattr__")))
    (exCH : PySem.W.subIn K (.ref CH) (.type "BaseException") = some true)
    (tyCH : PySem.W.typeIn K (.ref CH) = some (.type "type"))
    (kpCH : PySem.W.keepIn K (.ref CH) = true)
    (inCH_index : PySem.W.findIn K (.ref CH) "index" = some none)
    (ty_iH : PySem.W.typeIn K (.ref f_iH) = some (.type "function"))
    (xCR : K.lookup CR = some (excClassObj nmCR qCR CR NCR bsCR bmCR true snCR subCR abCR colCR ddCR m0CR m1CR m2CR m3CR m5CR "ValueError.__new__"))
    (rCR : PySem.HandSPX.refsVE bmCR = true)
    (saCR : PySem.W.findIn K (.ref CR) "__setattr__" = some (some (.builtin "object.__setattr__")))
    (exCR : PySem.W.subIn K (.ref CR) (.type "BaseException") = some true)
    (tyCR : PySem.W.typeIn K (.ref CR) = some (.type "type"))
    (kpCR : PySem.W.keepIn K (.ref CR) = true)
    (inCR_index : PySem.W.findIn K (.ref CR) "index" = some none)
    (ty_iR : PySem.W.typeIn K (.ref f_iR) = some (.type "function"))
    (xCD : K.lookup CD = some (excClassObj nmCD qCD CD NCD bsCD bmCD true snCD subCD abCD colCD ddCD m0CD m1CD m2CD m3CD m5CD "ValueError.__new__"))
    (rCD : PySem.HandSPX.refsVE bmCD = true)
    (saCD : PySem.W.findIn K (.ref CD) "__setattr__" = some (some (.builtin "object.__setattr__")))
    (exCD : PySem.W.subIn K (.ref CD) (.type "BaseException") = some true)
    (tyCD : PySem.W.typeIn K (.ref CD) = some (.type "type"))
    (kpCD : PySem.W.keepIn K (.ref CD) = true)
    (inCD_index : PySem.W.findIn K (.ref CD) "index" = some none)
    (ty_iD : PySem.W.typeIn K (.ref f_iD) = some (.type "function"))
    (xCN : K.lookup CN = some (excClassObj nmCN qCN CN NCN bsCN bmCN true snCN subCN abCN colCN ddCN m0CN m1CN m2CN m3CN m5CN "ValueError.__new__"))
    (rCN : PySem.HandSPX.refsVE bmCN = true)
    (saCN : PySem.W.findIn K (.ref CN) "__setattr__" = some (some (.builtin "object.__setattr__")))
    (exCN : PySem.W.subIn K (.ref CN) (.type "BaseException") = some true)
    (tyCN : PySem.W.typeIn K (.ref CN) = some (.type "type"))
    (kpCN : PySem.W.keepIn K (.ref CN) = true)
    (inCN_house : PySem.W.findIn K (.ref CN) "house" = some none)
    (ty_iN : PySem.W.typeIn K (.ref f_iN) = some (.type "function"))
    (xCO : K.lookup CO = some (excClassObj nmCO qCO CO NCO bsCO bmCO true snCO subCO abCO colCO ddCO m0CO m1CO m2CO m3CO m5CO "ValueError.__new__"))
    (rCO : PySem.HandSPX.refsVE bmCO = true)
    (saCO : PySem.W.findIn K (.ref CO) "__setattr__" = some (some (.builtin "object.__setattr__")))
    (exCO : PySem.W.subIn K (.ref CO) (.type "BaseException") = some true)
    (tyCO : PySem.W.typeIn K (.ref CO) = some (.type "type"))
    (kpCO : PySem.W.keepIn K (.ref CO) = true)
    (inCO_one : PySem.W.findIn K (.ref CO) "one" = some none)
    (inCO_other : PySem.W.findIn K (.ref CO) "other" = some none)
    (ty_iO : PySem.W.typeIn K (.ref f_iO) = some (.type "function"))
    (xCV : K.lookup CV = some (excClassObj nmCV qCV CV NCV bsCV bmCV true snCV subCV abCV colCV ddCV m0CV m1CV m2CV m3CV m5CV "ValueError.__new__"))
    (rCV : PySem.HandSPX.refsVE bmCV = true)
    (saCV : PySem.W.findIn K (.ref CV) "__setattr__" = some (some (.builtin "object.__setattr__")))
    (exCV : PySem.W.subIn K (.ref CV) (.type "BaseException") = some true)
    (tyCV : PySem.W.typeIn K (.ref CV) = some (.type "type"))
    (kpCV : PySem.W.keepIn K (.ref CV) = true)
    (inCV_thing : PySem.W.findIn K (.ref CV) "thing" = some none)
    (ty_iV : PySem.W.typeIn K (.ref f_iV) = some (.type "function"))
    (xCC : K.lookup CC = some (excClassObj nmCC qCC CC NCC bsCC bmCC true snCC subCC abCC colCC ddCC m0CC m1CC m2CC m3CC m5CC "ValueError.__new__"))
    (rCC : PySem.HandSPX.refsVE bmCC = true)
    (saCC : PySem.W.findIn K (.ref CC) "__setattr__" = some (some (.builtin "object.__setattr__")))
    (exCC : PySem.W.subIn K (.ref CC) (.type "BaseException") = some true)
    (tyCC : PySem.W.typeIn K (.ref CC) = some (.type "type"))
    (kpCC : PySem.W.keepIn K (.ref CC) = true)
    (inCC_evening : PySem.W.findIn K (.ref CC) "evening" = some none)
    (ty_iC : PySem.W.typeIn K (.ref f_iC) = some (.type "function"))
    (xCB : K.lookup CB = some (excClassObj nmCB qCB CB NCB bsCB bmCB true snCB subCB abCB colCB ddCB m0CB m1CB m2CB m3CB m5CB "ValueError.__new__"))
    (rCB : PySem.HandSPX.refsVE bmCB = true)
    (saCB : PySem.W.findIn K (.ref CB) "__setattr__" = some (some (.builtin "object.__setattr__")))
    (exCB : PySem.W.subIn K (.ref CB) (.type "BaseException") = some true)
    (tyCB : PySem.W.typeIn K (.ref CB) = some (.type "type"))
    (kpCB : PySem.W.keepIn K (.ref CB) = true)
    (inCB_index : PySem.W.findIn K (.ref CB) "index" = some none)
    (ty_iB : PySem.W.typeIn K (.ref f_iB) = some (.type "function"))
    (gaCB : PySem.W.findIn K (.ref CB) "__getattribute__" = some (some (.builtin "BaseException.__getattribute__")))
    (ggCB : PySem.W.findIn K (.ref CB) "__getattr__" = some none)
    (hdCB : PySem.W.hasDictIn K CB = true)
    (gaCC : PySem.W.findIn K (.ref CC) "__getattribute__" = some (some (.builtin "BaseException.__getattribute__")))
    (ggCC : PySem.W.findIn K (.ref CC) "__getattr__" = some none)
    (hdCC : PySem.W.hasDictIn K CC = true)
    (em_vv : PySem.W.exmOne K (.ref CB) (.ref CB) = some true)
    (em_cv : PySem.W.exmOne K (.ref CC) (.ref CB) = some false)
    (em_cc : PySem.W.exmOne K (.ref CC) (.ref CC) = some true)
    (sgL : PySem.W.nsIn K mainGlobals "LETTERS" = some (some (.str letters tL)))
    (sgF : PySem.W.nsIn K mainGlobals "FIGURES" = some (some (.str figures tF)))
    (sgN : PySem.W.nsIn K mainGlobals "LONGEST_NAME" = some (some (.int 8 tN)))
    (z_isinstance : PySem.W.nsIn K mainGlobals "isinstance" = some none)
    (z_int : PySem.W.nsIn K mainGlobals "int" = some none)
    (z_bool : PySem.W.nsIn K mainGlobals "bool" = some none)
    (z_str : PySem.W.nsIn K mainGlobals "str" = some none)
    (z_list : PySem.W.nsIn K mainGlobals "list" = some none)
    (z_tuple : PySem.W.nsIn K mainGlobals "tuple" = some none)
    (z_dict : PySem.W.nsIn K mainGlobals "dict" = some none)
    (z_len : PySem.W.nsIn K mainGlobals "len" = some none)
    (z_all : PySem.W.nsIn K mainGlobals "all" = some none)
    (z_range : PySem.W.nsIn K mainGlobals "range" = some none)
    (z_enumerate : PySem.W.nsIn K mainGlobals "enumerate" = some none)
    (z_set : PySem.W.nsIn K mainGlobals "set" = some none)
    (z_min : PySem.W.nsIn K mainGlobals "min" = some none)
    (z_zip : PySem.W.nsIn K mainGlobals "zip" = some none)
    (z_repr : PySem.W.nsIn K mainGlobals "repr" = some none)
    (z_any : PySem.W.nsIn K mainGlobals "any" = some none)
    (z_sorted : PySem.W.nsIn K mainGlobals "sorted" = some none)
    (tpNS : K.lookup TPS = none)
    (tpCS : PySem.W.codeHdIn K cSr TPS = true)
    (tpNR : K.lookup TPR = none)
    (tpCR : PySem.W.codeHdIn K cRf TPR = true)
    (tpNL : K.lookup TPL = none)
    (tpCL : PySem.W.codeHdIn K cLa TPL = true)
    (tpne : decide (TPR = TPL) = false)
    (tpne2 : decide (TPS = TPR) = false)
    (tpne3 : decide (TPS = TPL) = false) :
    Wr.LawGs l w K CX0 14 63 "script" mg fa h := by
  have e := hfa.symm.trans (PySem.W.mg_of X G a_law)
  cases e
  have m_isInt := PySem.W.mg_of X G a_isInt
  have F_isInt := fun_mk (st := sIsInt) l_isInt c_isInt k_isInt
  have b_isInt := F_isInt.binds (ps := ["thing"]) fun _ _ _ _ _ _ us hl => match us, hl with | [_], _ => rfl
  have m_fromOne := PySem.W.mg_of X G a_fromOne
  have F_fromOne := fun_mk (st := sFromOne) l_fromOne c_fromOne k_fromOne
  have b_fromOne := F_fromOne.binds (ps := ["thing"]) fun _ _ _ _ _ _ us hl => match us, hl with | [_], _ => rfl
  have m_isList := PySem.W.mg_of X G a_isList
  have F_isList := fun_mk (st := sIsList) l_isList c_isList k_isList
  have b_isList := F_isList.binds (ps := ["thing"]) fun _ _ _ _ _ _ us hl => match us, hl with | [_], _ => rfl
  have m_isPair := PySem.W.mg_of X G a_isPair
  have F_isPair := fun_mk (st := sIsPair) l_isPair c_isPair k_isPair
  have b_isPair := F_isPair.binds (ps := ["thing"]) fun _ _ _ _ _ _ us hl => match us, hl with | [_], _ => rfl
  have m_isName := PySem.W.mg_of X G a_isName
  have F_isName := fun_mk (st := sIsName) l_isName c_isName k_isName
  have b_isName := F_isName.binds (ps := ["thing"]) fun _ _ _ _ _ _ us hl => match us, hl with | [_], _ => rfl
  have m_draw := PySem.W.mg_of X G a_draw
  have F_draw := fun_mk (st := sDraw) l_draw c_draw k_draw
  have b_draw := F_draw.binds (ps := ["spring", "many"]) fun _ _ _ _ _ _ us hl => match us, hl with | [_, _], _ => rfl
  have m_pick := PySem.W.mg_of X G a_pick
  have F_pick := fun_mk (st := sPick) l_pick c_pick k_pick
  have b_pick := F_pick.binds (ps := ["spring", "some"]) fun _ _ _ _ _ _ us hl => match us, hl with | [_, _], _ => rfl
  have m_mixed := PySem.W.mg_of X G a_mixed
  have F_mixed := fun_mk (st := sMixed) l_mixed c_mixed k_mixed
  have b_mixed := F_mixed.binds (ps := ["spring", "some"]) fun _ _ _ _ _ _ us hl => match us, hl with | [_, _], _ => rfl
  have m_ND := PySem.W.mg_of X G a_ND
  have F_ND := fun_mk (st := sND) l_ND c_ND k_ND
  have b_ND := F_ND.binds (ps := ["houses", "heads"]) fun _ _ _ _ _ _ us hl => match us, hl with | [_, _], _ => rfl
  have m_NH := PySem.W.mg_of X G a_NH
  have F_NH := fun_mk (st := sNH) l_NH c_NH k_NH
  have b_NH := F_NH.binds (ps := ["houses"]) fun _ _ _ _ _ _ us hl => match us, hl with | [_], _ => rfl
  have m_NR := PySem.W.mg_of X G a_NR
  have F_NR := fun_mk (st := sNR) l_NR c_NR k_NR
  have b_NR := F_NR.binds (ps := ["houses", "roads"]) fun _ _ _ _ _ _ us hl => match us, hl with | [_, _], _ => rfl
  have m_keys := PySem.W.mg_of X G a_keys
  have F_keys := fun_mk (st := sKeys) l_keys c_keys k_keys
  have b_keys := F_keys.binds (ps := ["things", "table"]) fun _ _ _ _ _ _ us hl => match us, hl with | [_, _], _ => rfl
  have m_lead := PySem.W.mg_of X G a_lead
  have F_lead := fun_mk (st := sLead) l_lead c_lead k_lead
  have b_lead := F_lead.binds (ps := ["leads", "house"]) fun _ _ _ _ _ _ us hl => match us, hl with | [_, _], _ => rfl
  have m_BW := PySem.W.mg_of X G a_BW
  have F_BW := fun_mk (st := sBW) l_BW c_BW k_BW
  have b_BW := F_BW.binds (ps := ["roads"]) fun _ _ _ _ _ _ us hl => match us, hl with | [_], _ => rfl
  have m_NB := PySem.W.mg_of X G a_NB
  have F_NB := fun_mk (st := sNB) l_NB c_NB k_NB
  have b_NB := F_NB.binds (ps := ["houses", "roads"]) fun _ _ _ _ _ _ us hl => match us, hl with | [_, _], _ => rfl
  have m_Nv := PySem.W.mg_of X G a_Nv
  have F_Nv := fun_mk (st := sNv) l_Nv c_Nv k_Nv
  have b_Nv := F_Nv.binds (ps := ["valley"]) fun _ _ _ _ _ _ us hl => match us, hl with | [_], _ => rfl
  have m_Bg := PySem.W.mg_of X G a_Bg
  have F_Bg := fun_mk (st := sBg) l_Bg c_Bg k_Bg
  have b_Bg := F_Bg.binds (ps := ["valley", "thing"]) fun _ _ _ _ _ _ us hl => match us, hl with | [_, _], _ => rfl
  have m_Ep := PySem.W.mg_of X G a_Ep
  have F_Ep := fun_mk (st := sEp) l_Ep c_Ep k_Ep
  have b_Ep := F_Ep.binds (ps := ["valley", "thing"]) fun _ _ _ _ _ _ us hl => match us, hl with | [_, _], _ => rfl
  have m_Cg := PySem.W.mg_of X G a_Cg
  have F_Cg := fun_mk (st := sCg) l_Cg c_Cg k_Cg
  have b_Cg := F_Cg.binds (ps := ["valley", "evening"]) fun _ _ _ _ _ _ us hl => match us, hl with | [_, _], _ => rfl
  have m_Sn := PySem.W.mg_of X G a_Sn
  have F_Sn := fun_mk (st := sSn) l_Sn c_Sn k_Sn
  have b_Sn := F_Sn.binds (ps := ["thing"]) fun _ _ _ _ _ _ us hl => match us, hl with | [_], _ => rfl
  have m_Ns := PySem.W.mg_of X G a_Ns
  have F_Ns := fun_mk (st := sNs) l_Ns c_Ns k_Ns
  have b_Ns := F_Ns.binds (ps := ["valley", "spans"]) fun _ _ _ _ _ _ us hl => match us, hl with | [_, _], _ => rfl
  have m_Ah := PySem.W.mg_of X G a_Ah
  have F_Ah := fun_mk (st := sAh) l_Ah c_Ah k_Ah
  have b_Ah := F_Ah.binds (ps := ["spans", "place", "later"]) fun _ _ _ _ _ _ us hl => match us, hl with | [_, _, _], _ => rfl
  have m_Sa := PySem.W.mg_of X G a_Sa
  have F_Sa := fun_mk (st := sSa) l_Sa c_Sa k_Sa
  have b_Sa := F_Sa.binds (ps := ["valley", "spans"]) fun _ _ _ _ _ _ us hl => match us, hl with | [_, _], _ => rfl
  have m_Cn := PySem.W.mg_of X G a_Cn
  have F_Cn := fun_mk (st := sCn) l_Cn c_Cn k_Cn
  have b_Cn := F_Cn.binds (ps := ["valley", "spans", "evening"]) fun _ _ _ _ _ _ us hl => match us, hl with | [_, _, _], _ => rfl
  have m_Bo := PySem.W.mg_of X G a_Bo
  have F_Bo := fun_mk (st := sBo) l_Bo c_Bo k_Bo
  have b_Bo := F_Bo.binds (ps := ["valley", "spans", "evening"]) fun _ _ _ _ _ _ us hl => match us, hl with | [_, _, _], _ => rfl
  have m_spring := PySem.W.mg_of X G a_spring
  have F_spring := fun_mk (st := sSpring) l_spring c_spring k_spring
  have b_spring := F_spring.binds (ps := ["script", "turn"]) fun _ _ _ _ _ _ us hl => match us, hl with | [_, _], _ => rfl
  have m_VN := PySem.W.mg_of X G a_VN
  have F_VN := fun_mk (st := sVN) l_VN c_VN k_VN
  have b_VN := F_VN.binds (ps := ["spring", "many"]) fun _ _ _ _ _ _ us hl => match us, hl with | [_, _], _ => rfl
  have m_VF := PySem.W.mg_of X G a_VF
  have F_VF := fun_mk (st := sVF) l_VF c_VF k_VF
  have b_VF := F_VF.binds (ps := ["spring", "many", "wide"]) fun _ _ _ _ _ _ us hl => match us, hl with | [_, _, _], _ => rfl
  have m_lo := PySem.W.mg_of X G a_lo
  have F_lo := fun_mk (st := sLo) l_lo c_lo k_lo
  have b_lo := F_lo.binds (ps := ["spring", "thing"]) fun _ _ _ _ _ _ us hl => match us, hl with | [_, _], _ => rfl
  have m_VM := PySem.W.mg_of X G a_VM
  have F_VM := fun_mk (st := sVM) l_VM c_VM k_VM
  have b_VM := F_VM.binds (ps := ["spring", "form"]) fun _ _ _ _ _ _ us hl => match us, hl with | [_, _], _ => rfl
  have m_sm := PySem.W.mg_of X G a_sm
  have F_sm := fun_mk (st := sSm) l_sm c_sm k_sm
  have b_sm := F_sm.binds (ps := ["found", "due"]) fun _ _ _ _ _ _ us hl => match us, hl with | [_, _], _ => rfl
  have m_met := PySem.W.mg_of X G a_met
  have F_met := fun_mk (st := sMt) l_met c_met k_met
  have b_met := F_met.binds (ps := ["ask"]) fun _ _ _ _ _ _ us hl => match us, hl with | [_], _ => rfl
  have m_Hd := PySem.W.mg_of X G a_Hd
  have F_Hd := fun_mk (st := sHd) l_Hd c_Hd k_Hd
  have b_Hd := F_Hd.binds (ps := ["spring", "evening"]) fun _ _ _ _ _ _ us hl => match us, hl with | [_, _], _ => rfl
  have m_Ee := PySem.W.mg_of X G a_Ee
  have F_Ee := fun_mk (st := sEe) l_Ee c_Ee k_Ee
  have b_Ee := F_Ee.binds (ps := ["spring", "form"]) fun _ _ _ _ _ _ us hl => match us, hl with | [_, _], _ => rfl
  have m_Be := PySem.W.mg_of X G a_Be
  have F_Be := fun_mk (st := sBe) l_Be c_Be k_Be
  have b_Be := F_Be.binds (ps := ["spring", "form"]) fun _ _ _ _ _ _ us hl => match us, hl with | [_, _], _ => rfl
  have m_Ds := PySem.W.mg_of X G a_Ds
  have F_Ds := fun_mk (st := sDs) l_Ds c_Ds k_Ds
  have b_Ds := F_Ds.binds (ps := ["spring", "form"]) fun _ _ _ _ _ _ us hl => match us, hl with | [_, _], _ => rfl
  have m_Da := PySem.W.mg_of X G a_Da
  have F_Da := fun_mk (st := sDa) l_Da c_Da k_Da
  have b_Da := F_Da.binds (ps := ["known", "road", "later"]) fun _ _ _ _ _ _ us hl => match us, hl with | [_, _, _], _ => rfl
  have m_Db := PySem.W.mg_of X G a_Db
  have F_Db := fun_mk (st := sDb) l_Db c_Db k_Db
  have b_Db := F_Db.binds (ps := ["known", "evening"]) fun _ _ _ _ _ _ us hl => match us, hl with | [_, _], _ => rfl
  have m_Dg := PySem.W.mg_of X G a_Dg
  have F_Dg := fun_mk (st := sDg) l_Dg c_Dg k_Dg
  have b_Dg := F_Dg.binds (ps := ["spring", "form", "known"]) fun _ _ _ _ _ _ us hl => match us, hl with | [_, _, _], _ => rfl
  have m_Bs := PySem.W.mg_of X G a_Bs
  have F_Bs := fun_mk (st := sBs) l_Bs c_Bs k_Bs
  have b_Bs := F_Bs.binds (ps := ["spring", "spans"]) fun _ _ _ _ _ _ us hl => match us, hl with | [_, _], _ => rfl
  have m_Vc := PySem.W.mg_of X G a_Vc
  have F_Vc := fun_mk (st := sVc) l_Vc c_Vc k_Vc
  have b_Vc := F_Vc.binds (ps := ["ask", "mine", "theirs"]) fun _ _ _ _ _ _ us hl => match us, hl with | [_, _, _], _ => rfl
  have m_Sr := PySem.W.mg_of X G a_Sr
  have m_Ref := PySem.W.mg_of X G a_Ref
  have m_law := PySem.W.mg_of X G a_law
  have F_VI := fun_mk (st := sVI) l_VI c_VI k_VI
  have b_VI := F_VI.binds (ps := ["self", "houses", "roads", "heads"]) fun _ _ _ _ _ _ us hl => match us, hl with | [_, _, _, _], _ => rfl
  have F_Ro := fun_mk (st := sVR) l_Ro c_Ro k_Ro
  have b_Ro := F_Ro.binds (ps := ["self"]) fun _ _ _ _ _ _ us hl => match us, hl with | [_], _ => rfl
  have F_Is := fun_mk (st := sIs) l_Is c_Is k_Is
  have b_Is := F_Is.binds (ps := ["self", "thing"]) fun _ _ _ _ _ _ us hl => match us, hl with | [_, _], _ => rfl
  have F_Ne := fun_mk (st := sNe) l_Ne c_Ne k_Ne
  have b_Ne := F_Ne.binds (ps := ["self", "house"]) fun _ _ _ _ _ _ us hl => match us, hl with | [_, _], _ => rfl
  have F_Pl := fun_mk (st := sPl) l_Pl c_Pl k_Pl
  have b_Pl := F_Pl.binds (ps := ["self", "one", "other"]) fun _ _ _ _ _ _ us hl => match us, hl with | [_, _, _], _ => rfl
  have F_Rd := fun_mk (st := sRd) l_Rd c_Rd k_Rd
  have b_Rd := F_Rd.binds (ps := ["self", "thing"]) fun _ _ _ _ _ _ us hl => match us, hl with | [_, _], _ => rfl
  have F_iH := fun_mk (st := sIH) l_iH c_iH k_iH
  have b_iH := F_iH.binds (ps := ["self", "index"]) fun _ _ _ _ _ _ us hl => match us, hl with | [_, _], _ => rfl
  have F_iR := fun_mk (st := sIR) l_iR c_iR k_iR
  have b_iR := F_iR.binds (ps := ["self", "index"]) fun _ _ _ _ _ _ us hl => match us, hl with | [_, _], _ => rfl
  have F_iD := fun_mk (st := sID) l_iD c_iD k_iD
  have b_iD := F_iD.binds (ps := ["self", "index"]) fun _ _ _ _ _ _ us hl => match us, hl with | [_, _], _ => rfl
  have F_iN := fun_mk (st := sIN) l_iN c_iN k_iN
  have b_iN := F_iN.binds (ps := ["self", "house"]) fun _ _ _ _ _ _ us hl => match us, hl with | [_, _], _ => rfl
  have F_iO := fun_mk (st := sIO) l_iO c_iO k_iO
  have b_iO := F_iO.binds (ps := ["self", "one", "other"]) fun _ _ _ _ _ _ us hl => match us, hl with | [_, _, _], _ => rfl
  have F_iV := fun_mk (st := sIV) l_iV c_iV k_iV
  have b_iV := F_iV.binds (ps := ["self", "thing"]) fun _ _ _ _ _ _ us hl => match us, hl with | [_, _], _ => rfl
  have F_iC := fun_mk (st := sCl) l_iC c_iC k_iC
  have b_iC := F_iC.binds (ps := ["self", "evening"]) fun _ _ _ _ _ _ us hl => match us, hl with | [_, _], _ => rfl
  have F_iB := fun_mk (st := sIB) l_iB c_iB k_iB
  have b_iB := F_iB.binds (ps := ["self", "index"]) fun _ _ _ _ _ _ us hl => match us, hl with | [_, _], _ => rfl
  have mC := PySem.W.mg_of X G aC
  have mCF := PySem.W.mg_of X G aCF
  have mCH := PySem.W.mg_of X G aCH
  have mCR := PySem.W.mg_of X G aCR
  have mCD := PySem.W.mg_of X G aCD
  have mCN := PySem.W.mg_of X G aCN
  have mCO := PySem.W.mg_of X G aCO
  have mCV := PySem.W.mg_of X G aCV
  have mCC := PySem.W.mg_of X G aCC
  have mCB := PySem.W.mg_of X G aCB
  have y_isinstance := PySem.W.mg_none_of X G z_isinstance
  have y_int := PySem.W.mg_none_of X G z_int
  have y_bool := PySem.W.mg_none_of X G z_bool
  have y_str := PySem.W.mg_none_of X G z_str
  have y_list := PySem.W.mg_none_of X G z_list
  have y_tuple := PySem.W.mg_none_of X G z_tuple
  have y_dict := PySem.W.mg_none_of X G z_dict
  have y_len := PySem.W.mg_none_of X G z_len
  have y_all := PySem.W.mg_none_of X G z_all
  have y_range := PySem.W.mg_none_of X G z_range
  have y_enumerate := PySem.W.mg_none_of X G z_enumerate
  have y_set := PySem.W.mg_none_of X G z_set
  have y_min := PySem.W.mg_none_of X G z_min
  have y_zip := PySem.W.mg_none_of X G z_zip
  have y_repr := PySem.W.mg_none_of X G z_repr
  have y_any := PySem.W.mg_none_of X G z_any
  have y_sorted := PySem.W.mg_none_of X G z_sorted
  have B : Bl mg := ⟨y_isinstance, y_int, y_bool, y_str, y_list, y_tuple, y_dict, y_len, y_all⟩
  have S : Signs mg := ⟨⟨_, PySem.W.mg_of X G sgL⟩, ⟨_, PySem.W.mg_of X G sgF⟩, ⟨_, PySem.W.mg_of X G sgN⟩⟩
  have TF : FeC K mg CF := ⟨mCF, fsp, frd, fin⟩
  have OCH : OexC K CH := ⟨⟨_, _, _, _, _, _, _, _, _, _, _, _, _, _, _, xCH, rCH⟩, saCH, exCH, tyCH, kpCH⟩
  have ECH : ErC K mg "BadHouses" CH f_iH := ⟨mCH, OCH, inCH_index, a_iH, ty_iH⟩
  have OCR : OexC K CR := ⟨⟨_, _, _, _, _, _, _, _, _, _, _, _, _, _, _, xCR, rCR⟩, saCR, exCR, tyCR, kpCR⟩
  have ECR : ErC K mg "BadRoads" CR f_iR := ⟨mCR, OCR, inCR_index, a_iR, ty_iR⟩
  have OCD : OexC K CD := ⟨⟨_, _, _, _, _, _, _, _, _, _, _, _, _, _, _, xCD, rCD⟩, saCD, exCD, tyCD, kpCD⟩
  have ECD : ErC K mg "BadHeads" CD f_iD := ⟨mCD, OCD, inCD_index, a_iD, ty_iD⟩
  have OCN : OexC K CN := ⟨⟨_, _, _, _, _, _, _, _, _, _, _, _, _, _, _, xCN, rCN⟩, saCN, exCN, tyCN, kpCN⟩
  have ECN : ErF K mg "NoHouse" CN f_iN ["house"] := ⟨mCN, OCN, fun n hn => by rw [List.mem_singleton.mp hn]; exact inCN_house, a_iN, ty_iN⟩
  have OCO : OexC K CO := ⟨⟨_, _, _, _, _, _, _, _, _, _, _, _, _, _, _, xCO, rCO⟩, saCO, exCO, tyCO, kpCO⟩
  have OCV : OexC K CV := ⟨⟨_, _, _, _, _, _, _, _, _, _, _, _, _, _, _, xCV, rCV⟩, saCV, exCV, tyCV, kpCV⟩
  have ECV : ErF K mg "BadValley" CV f_iV ["thing"] := ⟨mCV, OCV, fun n hn => by rw [List.mem_singleton.mp hn]; exact inCV_thing, a_iV, ty_iV⟩
  have OCC : OexC K CC := ⟨⟨_, _, _, _, _, _, _, _, _, _, _, _, _, _, _, xCC, rCC⟩, saCC, exCC, tyCC, kpCC⟩
  have ECC : ErF K mg "BadEvening" CC f_iC ["evening"] := ⟨mCC, OCC, fun n hn => by rw [List.mem_singleton.mp hn]; exact inCC_evening, a_iC, ty_iC⟩
  have OCB : OexC K CB := ⟨⟨_, _, _, _, _, _, _, _, _, _, _, _, _, _, _, xCB, rCB⟩, saCB, exCB, tyCB, kpCB⟩
  have ECB : ErC K mg "BadSpans" CB f_iB := ⟨mCB, OCB, inCB_index, a_iB, ty_iB⟩
  have noO : ∀ n ∈ (["one", "other"] : List Str), PySem.W.findIn K (.ref CO) n = some none := fun n hn => by
    rcases List.mem_cons.mp hn with e | hn
    · rw [e]; exact inCO_one
    · rw [List.mem_singleton.mp hn]; exact inCO_other
  have ECO : ErF K mg "NoRoad" CO f_iO ["one", "other"] := ⟨mCO, OCO, noO, a_iO, ty_iO⟩
  have XfCB : XfC K CB := ⟨gaCB, ggCB, exCB, hdCB⟩
  have XfCC : XfC K CC := ⟨gaCC, ggCC, exCC, hdCC⟩
  have VT0 : VcT K C := ⟨⟨pg, hd, po, sa⟩, n1, n2, n3, n4, n5, n6⟩
  have VE0 : VcE K C := ⟨VT0, ha, hn, htk, hm, own, all_of_kit kno⟩
  have MH : MetW K mg CB CC := ⟨mCB, mCC, em_vv, em_cv, em_cc, XfCB, XfCC, inCB_index, inCC_evening⟩
  have MK : Mk K C f_VI := ⟨mk, a_VI, i_VI, kc⟩
  have ne : TPR ≠ TPL := of_decide_eq_false tpne
  have ne2 : TPS ≠ TPR := of_decide_eq_false tpne2
  have ne3 : TPS ≠ TPL := of_decide_eq_false tpne3
  refine ⟨PySem.W.fnOf "law" "law" (defArgs sLaw) (defBody sLaw) (defScope sLaw) .none kV_law dc_law pm_law an_law (.ref cLa) ct_law, [(cSr, TPS), (cRf, TPR), (cLa, TPL)], spLaw K (TT3 TPS TPR TPL), fun p hp => ?_, fun p hp => ?_, fun p hp => ?_, fun s v => .of_eq rfl, fun H a ns hl hH hS => ⟨a, ns, rfl, hS, by omega, fun p hp => ?_, fun _ => rfl⟩, fun base KB NB hTB => ?_⟩
  · rcases mem3 hp with z | z | z
    · rw [z]; exact hTS
    · rw [z]; exact hTR
    · rw [z]; exact hTL
  · rcases mem3 hp with z | z | z
    · rw [z]; exact tpNS
    · rw [z]; exact tpNR
    · rw [z]; exact tpNL
  · rcases mem3 hp with z | z | z
    · rw [z]; exact PySem.W.codeHd_of_K X tpCS
    · rw [z]; exact PySem.W.codeHd_of_K X tpCR
    · rw [z]; exact PySem.W.codeHd_of_K X tpCL
  · rcases mem3 hp with z | z | z
    · rw [z]; exact LamX.TabS.nil (hH (cSr, TPS) (List.mem_cons_self ..))
    · rw [z]; exact LamX.TabS.nil (hH (cRf, TPR) (List.mem_cons_of_mem _ (List.mem_cons_self ..)))
    · rw [z]; exact LamX.TabS.nil (hH (cLa, TPL) (List.mem_cons_of_mem _ (List.mem_cons_of_mem _ (List.mem_cons_self ..))))
  have TBS := hTB (cSr, TPS) (List.mem_cons_self ..)
  have TBR := hTB (cRf, TPR) (List.mem_cons_of_mem _ (List.mem_cons_self ..))
  have TBL := hTB (cLa, TPL) (List.mem_cons_of_mem _ (List.mem_cons_of_mem _ (List.mem_cons_self ..)))
  have uS : ∀ p ∈ TT3 TPS TPR TPL, p.1 = TPS → p.2 = qSr := fun p hp e => by
    rcases mem3 hp with z | z | z
    · rw [z]
    · rw [z] at e; exact absurd e.symm ne2
    · rw [z] at e; exact absurd e.symm ne3
  have uR : ∀ p ∈ TT3 TPS TPR TPL, p.1 = TPR → p.2 = qRef := fun p hp e => by
    rcases mem3 hp with z | z | z
    · rw [z] at e; exact absurd e ne2
    · rw [z]
    · rw [z] at e; exact absurd e.symm ne
  have uL : ∀ p ∈ TT3 TPS TPR TPL, p.1 = TPL → p.2 = qLaw := fun p hp e => by
    rcases mem3 hp with z | z | z
    · rw [z] at e; exact absurd e ne3
    · rw [z] at e; exact absurd e ne
    · rw [z]
  have g_draw : FnOk l.prog w K mg base CX0 1 f_draw _ ["spring", "many"] (spDraw) := ok_draw F_draw y_int
  have g_pick : FnOk l.prog w K mg base CX0 2 f_pick _ ["spring", "some"] (spPick) := ok_pick F_pick g_draw b_draw k_draw m_draw y_len
  have g_mixed : FnOk l.prog w K mg base CX0 2 f_mixed _ ["spring", "some"] (spMixed) := ok_mixed F_mixed g_draw b_draw k_draw m_draw y_len y_list y_range
  have g_VN : FnOk l.prog w K mg base CX0 3 f_VN _ ["spring", "many"] (spVN) := ok_VN F_VN B y_range g_mixed b_mixed k_mixed m_mixed
  have g_VF : FnOk l.prog w K mg base CX0 4 f_VF _ ["spring", "many", "wide"] (spVF) := ok_VF F_VF B y_range y_min g_draw b_draw k_draw m_draw g_mixed b_mixed k_mixed m_mixed g_VN b_VN k_VN m_VN
  have g_lo0 : FnOk l.prog w K mg base CX0 1 f_lo _ ["spring", "thing"] (spLo (Flat0 K) 0) := ok_lo0 F_lo B
  have g_lo1 : FnOk l.prog w K mg base CX0 2 f_lo _ ["spring", "thing"] (spLo (SeqR (Flat0 K)) 1) := ok_lo mon_flat0 F_lo B m_lo b_lo g_draw b_draw k_draw m_draw (Nat.le_refl 1) g_lo0
  have g_lo2 : FnOk l.prog w K mg base CX0 3 f_lo _ ["spring", "thing"] (spLo (SeqR (SeqR (Flat0 K))) 61) := ok_lo (mon_seq mon_flat0) F_lo B m_lo b_lo g_draw b_draw k_draw m_draw (by decide) g_lo1
  have g_sm1 : FnOk l.prog w K mg base CX0 1 f_sm _ ["found", "due"] (spSm (RF 1)) := ok_smF (RF.mon 0) F_sm B y_zip m_sm b_sm ok_sm_none
  have g_sm2 : FnOk l.prog w K mg base CX0 2 f_sm _ ["found", "due"] (spSm (RF 2)) := ok_smF (RF.mon 1) F_sm B y_zip m_sm b_sm g_sm1
  have g_sm3 : FnOk l.prog w K mg base CX0 3 f_sm _ ["found", "due"] (spSm (RF 3)) := ok_smF (RF.mon 2) F_sm B y_zip m_sm b_sm g_sm2
  have g_sm4 : FnOk l.prog w K mg base CX0 4 f_sm _ ["found", "due"] (spSm (RF 4)) := ok_smF (RF.mon 3) F_sm B y_zip m_sm b_sm g_sm3
  have g_sm5 : FnOk l.prog w K mg base CX0 5 f_sm _ ["found", "due"] (spSm (RF 5)) := ok_smF (RF.mon 4) F_sm B y_zip m_sm b_sm g_sm4
  have g_sm6 : FnOk l.prog w K mg base CX0 6 f_sm _ ["found", "due"] (spSm (RF 6)) := ok_smF (RF.mon 5) F_sm B y_zip m_sm b_sm g_sm5
  have g_sm7 : FnOk l.prog w K mg base CX0 7 f_sm _ ["found", "due"] (spSm (RF 7)) := ok_smF (RF.mon 6) F_sm B y_zip m_sm b_sm g_sm6
  have g_NH : FnOk l.prog w K mg base (L2.CX l.prog w) 4 f_NH _ ["houses"] (spNH K CH) := ok_NH F_NH B S y_enumerate y_set F_isList b_isList m_isList F_isName b_isName m_isName TF ECH F_iH b_iH
  have g_NR : FnOk l.prog w K mg base (L2.CX l.prog w) 4 f_NR _ ["houses", "roads"] (spNR K CR) := ok_NR F_NR B y_enumerate F_isList b_isList m_isList F_isPair b_isPair m_isPair F_keys b_keys m_keys F_lead b_lead m_lead TF ECR F_iR b_iR
  have g_ND : FnOk l.prog w K mg base (L2.CX l.prog w) 4 f_ND _ ["houses", "heads"] (spND K CD) := ok_ND F_ND B y_enumerate F_isList b_isList m_isList F_fromOne b_fromOne m_fromOne F_isInt b_isInt m_isInt TF ECD F_iD b_iD
  have g_VS : FnOk l.prog w K mg base (L2.CX l.prog w) 5 f_VI _ ["self", "houses", "roads", "heads"] (spVS K C) := ok_VS F_VI B y_enumerate VT0 g_NH k_NH b_NH m_NH g_NR k_NR b_NR m_NR g_ND k_ND b_ND m_ND F_BW b_BW m_BW F_NB b_NB m_NB
  have g_VM : FnOk l.prog w K mg base CX0 7 f_VM _ ["spring", "form"] (spMd C) := ok_Md F_VM mC MK g_VS b_VI g_lo1 g_lo2 b_lo k_lo m_lo
  have g_Is : FnOk l.prog w K mg base CX0 1 f_Is _ ["self", "thing"] (spIs K C) := ok_Is F_Is B VT0
  have g_Ne : FnOk l.prog w K mg base (L2.CX l.prog w) 3 f_Ne _ ["self", "house"] (spNe K C CN) := ok_Ne F_Ne B VT0 F_Is ⟨a_Is, i_Is, k_Is⟩ b_Is TF ECN F_iN b_iN
  have g_Pl : FnOk l.prog w K mg base (L2.CX l.prog w) 4 f_Pl _ ["self", "one", "other"] (spPl K C CN CO) := ok_Pl F_Pl B VT0 g_Ne ⟨a_Ne, i_Ne, k_Ne⟩ b_Ne TF ECO F_iO b_iO
  have g_Ro : FnOk l.prog w K mg base CX0 1 f_Ro _ ["self"] (spRo C) := ok_Ro F_Ro B VT0
  have g_Nv : FnOk l.prog w K mg base (L2.CX l.prog w) 3 f_Nv _ ["valley"] (spNv K C CV) := ok_Nv F_Nv B VE0 mC TF ECV F_iV b_iV
  have g_isList : FnOk l.prog w K mg base CX0 1 f_isList _ ["thing"] (spIsList K) := ok_isList F_isList B
  have g_isPair : FnOk l.prog w K mg base CX0 2 f_isPair _ ["thing"] (spIsPair K) := ok_isPair F_isPair F_isList b_isList m_isList B
  have g_Rd : FnOk l.prog w K mg base CX0 3 f_Rd _ ["self", "thing"] (spRd K C) := ok_Rd F_Rd B VT0 g_isPair b_isPair k_isPair m_isPair g_Is ⟨a_Is, i_Is, k_Is⟩ b_Is
  have g_Bg : FnOk l.prog w K mg base CX0 5 f_Bg _ ["valley", "thing"] (spBg K C) := ok_Bg F_Bg B VT0 y_set g_isList b_isList k_isList m_isList g_Rd ⟨a_Rd, i_Rd, k_Rd⟩ b_Rd g_Pl ⟨a_Pl, i_Pl, k_Pl⟩ b_Pl
  have g_Ep : FnOk l.prog w K mg base CX0 6 f_Ep _ ["valley", "thing"] (spEp K C) := ok_Ep F_Ep B VT0 g_Bg b_Bg k_Bg m_Bg g_Ro ⟨a_Ro, i_Ro, k_Ro⟩ b_Ro
  have g_Cg : FnOk l.prog w K mg base (L2.CX l.prog w) 7 f_Cg _ ["valley", "evening"] (spCg K C CC) := ok_Cg F_Cg g_Ep b_Ep k_Ep m_Ep TF ECC F_iC b_iC
  have g_isInt : FnOk l.prog w K mg base CX0 1 f_isInt _ ["thing"] (spIsInt K) := ok_isInt F_isInt B
  have g_Sn : FnOk l.prog w K mg base CX0 3 f_Sn _ ["thing"] (spSn K) := ok_Sn F_Sn g_isPair b_isPair k_isPair m_isPair g_isInt b_isInt k_isInt m_isInt
  have g_Ns : FnOk l.prog w K mg base (L2.CX l.prog w) 4 f_Ns _ ["valley", "spans"] (spNs K C CB) := ok_Ns F_Ns B VT0 y_enumerate y_set F_isList b_isList m_isList g_Sn b_Sn k_Sn m_Sn g_Ro ⟨a_Ro, i_Ro, k_Ro⟩ b_Ro TF ECB F_iB b_iB
  have g_Ah : FnOk l.prog w K mg base CX0 1 f_Ah _ ["spans", "place", "later"] (spAh) := ok_Ah F_Ah
  have g_Bo : FnOk l.prog w K mg base (L2.CX l.prog w) 8 f_Bo _ ["valley", "spans", "evening"] (spBo K C CV CC CB) := ok_Bo F_Bo VT0 y_enumerate g_Nv b_Nv k_Nv m_Nv g_Ns b_Ns k_Ns m_Ns g_Cg b_Cg k_Cg m_Cg g_Ro ⟨a_Ro, i_Ro, k_Ro⟩ b_Ro g_Ah b_Ah k_Ah m_Ah
  have g_Cn : FnOk l.prog w K mg base (L2.CX l.prog w) 9 f_Cn _ ["valley", "spans", "evening"] (spCn K C CV CC CB) := ok_Cn F_Cn g_Bo b_Bo k_Bo m_Bo
  have g_Sa : FnOk l.prog w K mg base (L2.CX l.prog w) 5 f_Sa _ ["valley", "spans"] (spSa K C CV CB) := ok_Sa F_Sa VT0 y_enumerate g_Nv b_Nv k_Nv m_Nv g_Ns b_Ns k_Ns m_Ns g_Ro ⟨a_Ro, i_Ro, k_Ro⟩ b_Ro g_Ah b_Ah k_Ah m_Ah
  have g_spring : FnOk l.prog w K mg base CX0 1 f_spring _ ["script", "turn"] (spSpring K) := ok_spring F_spring B y_enumerate
  have g_Hd : FnOk l.prog w K mg base CX0 4 f_Hd _ ["spring", "evening"] (spHd K) := ok_Hd F_Hd g_pick b_pick k_pick m_pick g_lo2 b_lo k_lo m_lo
  have g_Ee : FnOk l.prog w K mg base CX0 3 f_Ee _ ["spring", "form"] (spEe) := ok_Ee F_Ee g_mixed b_mixed k_mixed m_mixed
  have g_Be : FnOk l.prog w K mg base CX0 2 f_Be _ ["spring", "form"] (spBe K) := ok_Be F_Be B g_draw b_draw k_draw m_draw
  have g_Da : FnOk l.prog w K mg base CX0 1 f_Da _ ["known", "road", "later"] (spDa) := ok_Da F_Da
  have g_Db : FnOk l.prog w K mg base CX0 2 f_Db _ ["known", "evening"] (spDb) := ok_Db F_Db y_enumerate g_Da b_Da k_Da m_Da
  have g_Ds : FnOk l.prog w K mg base CX0 3 f_Ds _ ["spring", "form"] (spDs) := ok_Ds F_Ds B g_pick b_pick k_pick m_pick g_draw b_draw k_draw m_draw
  have g_Dg : FnOk l.prog w K mg base CX0 3 f_Dg _ ["spring", "form", "known"] (spDg) := ok_Dg F_Dg y_any g_mixed b_mixed k_mixed m_mixed g_pick b_pick k_pick m_pick g_Da b_Da k_Da m_Da
  have g_Bs : FnOk l.prog w K mg base CX0 2 f_Bs _ ["spring", "spans"] (spBs K) := ok_Bs F_Bs B g_draw b_draw k_draw m_draw
  have g_Sr : Wr.FnG l.prog w K mg base CX0 11 f_Sr _ ["spring", "form", "made", "spans"] (spSr C (TT3 TPS TPR TPL)) := ok_Sr B y_repr y_sorted y_zip l_Sr c_Sr TBS (List.mem_cons_self ..) uS g_Da b_Da k_Da m_Da g_Sa b_Sa (kb_Sa F_Sa) k_Sa m_Sa g_sm7 b_sm k_sm m_sm g_Ee b_Ee k_Ee m_Ee g_Dg b_Dg k_Dg m_Dg g_Db b_Db k_Db m_Db g_Cn b_Cn (kb_Cn F_Cn) k_Cn m_Cn g_Hd b_Hd k_Hd m_Hd g_lo2 b_lo k_lo m_lo
  have b_Sr : Binds K (PySem.W.fnOf "_law_spans_right" "_law_spans_right" (defArgs sSr) (defBody sSr) (defScope sSr) .none kV_Sr dc_Sr pm_Sr an_Sr (.ref cSr) ct_Sr) ["spring", "form", "made", "spans"] [] := Binds.all fun us hl => match us, hl with | [_, _, _, _], _ => rfl
  have g_Vc : LamP.FnA l.prog w K mg base CX0 11 f_Vc _ ["ask", "mine", "theirs"] ["made"] (spVc K (spAsk K C CV CB) (AskL l.prog w K mg base C CV CB)) := ok_Vc F_Vc B y_repr fun g L h => h g
  have g_Vc2 : LamP.FnA l.prog w K mg base CX0 11 f_Vc _ ["ask", "mine", "theirs"] ["made", "one"] (spVc K (spAsk2 K C CV CC CB) (AskL2 l.prog w K mg base C CV CC CB)) := ok_Vc F_Vc B y_repr fun g L h => h g
  have g_Ref : FnOk l.prog w K mg base CX0 13 f_Ref _ ["spring", "form", "made", "spans"] (spRef C (TT3 TPS TPR TPL)) := ok_ref B l_Ref c_Ref MH F_met b_met m_met TBR (List.mem_cons_of_mem _ (List.mem_cons_self ..)) uR g_Sa b_Sa k_Sa m_Sa g_sm7 b_sm k_sm m_sm g_Cn b_Cn k_Cn m_Cn g_Bs b_Bs k_Bs m_Bs g_Be b_Be k_Be m_Be
  have b_Ref : Binds K (PySem.W.fnOf "_law_refused_right" "_law_refused_right" (defArgs sRef) (defBody sRef) (defScope sRef) .none kV_Ref dc_Ref pm_Ref an_Ref (.ref cRf) ct_Ref) ["spring", "form", "made", "spans"] [] := Binds.all fun us hl => match us, hl with | [_, _, _, _], _ => rfl
  exact ok_law B l_law c_law y_range y_zip TBL (List.mem_cons_of_mem _ (List.mem_cons_of_mem _ (List.mem_cons_self ..))) uL ⟨_, _, g_spring, b_spring, k_spring, m_spring⟩ ⟨_, _, g_draw, b_draw, k_draw, m_draw⟩ ⟨_, _, g_VF, b_VF, k_VF, m_VF⟩ ⟨_, _, g_VM, b_VM, k_VM, m_VM⟩ ⟨_, _, g_Ds, b_Ds, k_Ds, m_Ds⟩ ⟨_, _, g_Ee, b_Ee, k_Ee, m_Ee⟩ ⟨_, _, g_Dg, b_Dg, k_Dg, m_Dg⟩ ⟨_, _, g_Ref, b_Ref, k_Ref, m_Ref⟩ ⟨_, _, g_Sa, b_Sa, k_Sa, m_Sa⟩ ⟨_, _, g_Cn, b_Cn, k_Cn, m_Cn⟩ g_Sr b_Sr k_Sr m_Sr g_Vc b_Vc k_Vc m_Vc g_Vc2 mC
end K1
end
-- XHead
open PySem PySem.W PyProof.Rows
set_option Elab.async false
set_option maxRecDepth 100000 in
set_option maxHeartbeats 0 in
theorem PySem.Challenge.cw_feasted_k61_whole_spans_of_dates_holds : PySem.Challenge.rw_feasted_k61_whole_spans_of_dates.Holds := by
  w_on; o_law; k_head; (case hw => w_witness2)
  k_fill
  refine Wr.walk_Gs (l := PySem.Challenge.rw_feasted_k61_whole_spans_of_dates) (n := 63) (k := 14) (x := "script") (CX := fun _ => C8.CX0) rfl (by decide) rfl ⟨rfl, by decide, by decide⟩ (fun w h Y => PySem.W.km_in_of Y) ?F (fun _ _ _ _ _ z => z)
  case F =>
    intro w mg fa h Y KX G hmg
    refine' K1.all_mk KX G hmg (PySem.W.km_tabs_of Y _ (List.mem_cons_of_mem _ (List.mem_cons_self ..))) (PySem.W.km_tabs_of Y _ (List.mem_cons_self ..)) (PySem.W.km_tabs_of Y _ (List.mem_cons_of_mem _ (List.mem_cons_of_mem _ (List.mem_cons_self ..)))) ?a_isInt ?l_isInt ?c_isInt ?k_isInt ?a_fromOne ?l_fromOne ?c_fromOne ?k_fromOne ?a_isList ?l_isList ?c_isList ?k_isList ?a_isPair ?l_isPair ?c_isPair ?k_isPair ?a_isName ?l_isName ?c_isName ?k_isName ?a_draw ?l_draw ?c_draw ?k_draw ?a_pick ?l_pick ?c_pick ?k_pick ?a_mixed ?l_mixed ?c_mixed ?k_mixed ?a_ND ?l_ND ?c_ND ?k_ND ?a_NH ?l_NH ?c_NH ?k_NH ?a_NR ?l_NR ?c_NR ?k_NR ?a_keys ?l_keys ?c_keys ?k_keys ?a_lead ?l_lead ?c_lead ?k_lead ?a_BW ?l_BW ?c_BW ?k_BW ?a_NB ?l_NB ?c_NB ?k_NB ?a_Nv ?l_Nv ?c_Nv ?k_Nv ?a_Bg ?l_Bg ?c_Bg ?k_Bg ?a_Ep ?l_Ep ?c_Ep ?k_Ep ?a_Cg ?l_Cg ?c_Cg ?k_Cg ?a_Sn ?l_Sn ?c_Sn ?k_Sn ?a_Ns ?l_Ns ?c_Ns ?k_Ns ?a_Ah ?l_Ah ?c_Ah ?k_Ah ?a_Sa ?l_Sa ?c_Sa ?k_Sa ?a_Cn ?l_Cn ?c_Cn ?k_Cn ?a_Bo ?l_Bo ?c_Bo ?k_Bo ?a_spring ?l_spring ?c_spring ?k_spring ?a_VN ?l_VN ?c_VN ?k_VN ?a_VF ?l_VF ?c_VF ?k_VF ?a_lo ?l_lo ?c_lo ?k_lo ?a_VM ?l_VM ?c_VM ?k_VM ?a_sm ?l_sm ?c_sm ?k_sm ?a_met ?l_met ?c_met ?k_met ?a_Hd ?l_Hd ?c_Hd ?k_Hd ?a_Ee ?l_Ee ?c_Ee ?k_Ee ?a_Be ?l_Be ?c_Be ?k_Be ?a_Ds ?l_Ds ?c_Ds ?k_Ds ?a_Da ?l_Da ?c_Da ?k_Da ?a_Db ?l_Db ?c_Db ?k_Db ?a_Dg ?l_Dg ?c_Dg ?k_Dg ?a_Bs ?l_Bs ?c_Bs ?k_Bs ?a_Vc ?l_Vc ?c_Vc ?k_Vc ?a_Sr ?l_Sr ?c_Sr ?k_Sr ?a_Ref ?l_Ref ?c_Ref ?k_Ref ?a_law ?l_law ?c_law ?k_law ?aC ?aCF ?aCH ?aCR ?aCD ?aCN ?aCO ?aCV ?aCC ?aCB ?a_VI ?i_VI ?l_VI ?c_VI ?k_VI ?a_Ro ?i_Ro ?l_Ro ?c_Ro ?k_Ro ?a_Is ?i_Is ?l_Is ?c_Is ?k_Is ?a_Ne ?i_Ne ?l_Ne ?c_Ne ?k_Ne ?a_Pl ?i_Pl ?l_Pl ?c_Pl ?k_Pl ?a_Rd ?i_Rd ?l_Rd ?c_Rd ?k_Rd ?a_iH ?i_iH ?l_iH ?c_iH ?k_iH ?a_iR ?i_iR ?l_iR ?c_iR ?k_iR ?a_iD ?i_iD ?l_iD ?c_iD ?k_iD ?a_iN ?i_iN ?l_iN ?c_iN ?k_iN ?a_iO ?i_iO ?l_iO ?c_iO ?k_iO ?a_iV ?i_iV ?l_iV ?c_iV ?k_iV ?a_iC ?i_iC ?l_iC ?c_iC ?k_iC ?a_iB ?i_iB ?l_iB ?c_iB ?k_iB ?pg ?hd ?po ?sa ?mk ?kc ?n1 ?n2 ?n3 ?n4 ?n5 ?n6 ?ha ?hn ?htk ?hm ?own ?kno ?fsp ?frd ?fin ?xCH ?rCH ?saCH ?exCH ?tyCH ?kpCH ?inCH_index ?ty_iH ?xCR ?rCR ?saCR ?exCR ?tyCR ?kpCR ?inCR_index ?ty_iR ?xCD ?rCD ?saCD ?exCD ?tyCD ?kpCD ?inCD_index ?ty_iD ?xCN ?rCN ?saCN ?exCN ?tyCN ?kpCN ?inCN_house ?ty_iN ?xCO ?rCO ?saCO ?exCO ?tyCO ?kpCO ?inCO_one ?inCO_other ?ty_iO ?xCV ?rCV ?saCV ?exCV ?tyCV ?kpCV ?inCV_thing ?ty_iV ?xCC ?rCC ?saCC ?exCC ?tyCC ?kpCC ?inCC_evening ?ty_iC ?xCB ?rCB ?saCB ?exCB ?tyCB ?kpCB ?inCB_index ?ty_iB ?gaCB ?ggCB ?hdCB ?gaCC ?ggCC ?hdCC ?em_vv ?em_cv ?em_cc ?sgL ?sgF ?sgN ?z_isinstance ?z_int ?z_bool ?z_str ?z_list ?z_tuple ?z_dict ?z_len ?z_all ?z_range ?z_enumerate ?z_set ?z_min ?z_zip ?z_repr ?z_any ?z_sorted ?tpNS ?tpCS ?tpNR ?tpCR ?tpNL ?tpCL ?tpne ?tpne2 ?tpne3
    (case a_isInt => (k_is))
    (case l_isInt => (k_is))
    (case c_isInt => (k_is))
    (case k_isInt => (k_is))
    (case a_fromOne => (k_is))
    (case l_fromOne => (k_is))
    (case c_fromOne => (k_is))
    (case k_fromOne => (k_is))
    (case a_isList => (k_is))
    (case l_isList => (k_is))
    (case c_isList => (k_is))
    (case k_isList => (k_is))
    (case a_isPair => (k_is))
    (case l_isPair => (k_is))
    (case c_isPair => (k_is))
    (case k_isPair => (k_is))
    (case a_isName => (k_is))
    (case l_isName => (k_is))
    (case c_isName => (k_is))
    (case k_isName => (k_is))
    (case a_draw => (k_is))
    (case l_draw => (k_is))
    (case c_draw => (k_is))
    (case k_draw => (k_is))
    (case a_pick => (k_is))
    (case l_pick => (k_is))
    (case c_pick => (k_is))
    (case k_pick => (k_is))
    (case a_mixed => (k_is))
    (case l_mixed => (k_is))
    (case c_mixed => (k_is))
    (case k_mixed => (k_is))
    (case a_ND => (k_is))
    (case l_ND => (k_is))
    (case c_ND => (k_is))
    (case k_ND => (k_is))
    (case a_NH => (k_is))
    (case l_NH => (k_is))
    (case c_NH => (k_is))
    (case k_NH => (k_is))
    (case a_NR => (k_is))
    (case l_NR => (k_is))
    (case c_NR => (k_is))
    (case k_NR => (k_is))
    (case a_keys => (k_is))
    (case l_keys => (k_is))
    (case c_keys => (k_is))
    (case k_keys => (k_is))
    (case a_lead => (k_is))
    (case l_lead => (k_is))
    (case c_lead => (k_is))
    (case k_lead => (k_is))
    (case a_BW => (k_is))
    (case l_BW => (k_is))
    (case c_BW => (k_is))
    (case k_BW => (k_is))
    (case a_NB => (k_is))
    (case l_NB => (k_is))
    (case c_NB => (k_is))
    (case k_NB => (k_is))
    (case a_Nv => (k_is))
    (case l_Nv => (k_is))
    (case c_Nv => (k_is))
    (case k_Nv => (k_is))
    (case a_Bg => (k_is))
    (case l_Bg => (k_is))
    (case c_Bg => (k_is))
    (case k_Bg => (k_is))
    (case a_Ep => (k_is))
    (case l_Ep => (k_is))
    (case c_Ep => (k_is))
    (case k_Ep => (k_is))
    (case a_Cg => (k_is))
    (case l_Cg => (k_is))
    (case c_Cg => (k_is))
    (case k_Cg => (k_is))
    (case a_Sn => (k_is))
    (case l_Sn => (k_is))
    (case c_Sn => (k_is))
    (case k_Sn => (k_is))
    (case a_Ns => (k_is))
    (case l_Ns => (k_is))
    (case c_Ns => (k_is))
    (case k_Ns => (k_is))
    (case a_Ah => (k_is))
    (case l_Ah => (k_is))
    (case c_Ah => (k_is))
    (case k_Ah => (k_is))
    (case a_Sa => (k_is))
    (case l_Sa => (k_is))
    (case c_Sa => (k_is))
    (case k_Sa => (k_is))
    (case a_Cn => (k_is))
    (case l_Cn => (k_is))
    (case c_Cn => (k_is))
    (case k_Cn => (k_is))
    (case a_Bo => (k_is))
    (case l_Bo => (k_is))
    (case c_Bo => (k_is))
    (case k_Bo => (k_is))
    (case a_spring => (k_is))
    (case l_spring => (k_is))
    (case c_spring => (k_is))
    (case k_spring => (k_is))
    (case a_VN => (k_is))
    (case l_VN => (k_is))
    (case c_VN => (k_is))
    (case k_VN => (k_is))
    (case a_VF => (k_is))
    (case l_VF => (k_is))
    (case c_VF => (k_is))
    (case k_VF => (k_is))
    (case a_lo => (k_is))
    (case l_lo => (k_is))
    (case c_lo => (k_is))
    (case k_lo => (k_is))
    (case a_VM => (k_is))
    (case l_VM => (k_is))
    (case c_VM => (k_is))
    (case k_VM => (k_is))
    (case a_sm => (k_is))
    (case l_sm => (k_is))
    (case c_sm => (k_is))
    (case k_sm => (k_is))
    (case a_met => (k_is))
    (case l_met => (k_is))
    (case c_met => (k_is))
    (case k_met => (k_is))
    (case a_Hd => (k_is))
    (case l_Hd => (k_is))
    (case c_Hd => (k_is))
    (case k_Hd => (k_is))
    (case a_Ee => (k_is))
    (case l_Ee => (k_is))
    (case c_Ee => (k_is))
    (case k_Ee => (k_is))
    (case a_Be => (k_is))
    (case l_Be => (k_is))
    (case c_Be => (k_is))
    (case k_Be => (k_is))
    (case a_Ds => (k_is))
    (case l_Ds => (k_is))
    (case c_Ds => (k_is))
    (case k_Ds => (k_is))
    (case a_Da => (k_is))
    (case l_Da => (k_is))
    (case c_Da => (k_is))
    (case k_Da => (k_is))
    (case a_Db => (k_is))
    (case l_Db => (k_is))
    (case c_Db => (k_is))
    (case k_Db => (k_is))
    (case a_Dg => (k_is))
    (case l_Dg => (k_is))
    (case c_Dg => (k_is))
    (case k_Dg => (k_is))
    (case a_Bs => (k_is))
    (case l_Bs => (k_is))
    (case c_Bs => (k_is))
    (case k_Bs => (k_is))
    (case a_Vc => (k_is))
    (case l_Vc => (k_is))
    (case c_Vc => (k_is))
    (case k_Vc => (k_is))
    (case a_Sr => (k_is))
    (case l_Sr => (k_is))
    (case c_Sr => (k_is))
    (case k_Sr => (k_is))
    (case a_Ref => (k_is))
    (case l_Ref => (k_is))
    (case c_Ref => (k_is))
    (case k_Ref => (k_is))
    (case a_law => (k_is))
    (case l_law => (k_is))
    (case c_law => (k_is))
    (case k_law => (k_is))
    (case aC => (k_is))
    (case aCF => (k_is))
    (case aCH => (k_is))
    (case aCR => (k_is))
    (case aCD => (k_is))
    (case aCN => (k_is))
    (case aCO => (k_is))
    (case aCV => (k_is))
    (case aCC => (k_is))
    (case aCB => (k_is))
    (case a_VI => (k_is))
    (case i_VI => (k_is))
    (case l_VI => (k_is))
    (case c_VI => (k_is))
    (case k_VI => (k_is))
    (case a_Ro => (k_is))
    (case i_Ro => (k_is))
    (case l_Ro => (k_is))
    (case c_Ro => (k_is))
    (case k_Ro => (k_is))
    (case a_Is => (k_is))
    (case i_Is => (k_is))
    (case l_Is => (k_is))
    (case c_Is => (k_is))
    (case k_Is => (k_is))
    (case a_Ne => (k_is))
    (case i_Ne => (k_is))
    (case l_Ne => (k_is))
    (case c_Ne => (k_is))
    (case k_Ne => (k_is))
    (case a_Pl => (k_is))
    (case i_Pl => (k_is))
    (case l_Pl => (k_is))
    (case c_Pl => (k_is))
    (case k_Pl => (k_is))
    (case a_Rd => (k_is))
    (case i_Rd => (k_is))
    (case l_Rd => (k_is))
    (case c_Rd => (k_is))
    (case k_Rd => (k_is))
    (case a_iH => (k_is))
    (case i_iH => (k_is))
    (case l_iH => (k_is))
    (case c_iH => (k_is))
    (case k_iH => (k_is))
    (case a_iR => (k_is))
    (case i_iR => (k_is))
    (case l_iR => (k_is))
    (case c_iR => (k_is))
    (case k_iR => (k_is))
    (case a_iD => (k_is))
    (case i_iD => (k_is))
    (case l_iD => (k_is))
    (case c_iD => (k_is))
    (case k_iD => (k_is))
    (case a_iN => (k_is))
    (case i_iN => (k_is))
    (case l_iN => (k_is))
    (case c_iN => (k_is))
    (case k_iN => (k_is))
    (case a_iO => (k_is))
    (case i_iO => (k_is))
    (case l_iO => (k_is))
    (case c_iO => (k_is))
    (case k_iO => (k_is))
    (case a_iV => (k_is))
    (case i_iV => (k_is))
    (case l_iV => (k_is))
    (case c_iV => (k_is))
    (case k_iV => (k_is))
    (case a_iC => (k_is))
    (case i_iC => (k_is))
    (case l_iC => (k_is))
    (case c_iC => (k_is))
    (case k_iC => (k_is))
    (case a_iB => (k_is))
    (case i_iB => (k_is))
    (case l_iB => (k_is))
    (case c_iB => (k_is))
    (case k_iB => (k_is))
    (case pg => (k_is))
    (case hd => (k_is))
    (case po => (k_is))
    (case sa => (k_is))
    (case mk => (k_is))
    (case kc => (k_is))
    (case n1 => (k_is))
    (case n2 => (k_is))
    (case n3 => (k_is))
    (case n4 => (k_is))
    (case n5 => (k_is))
    (case n6 => (k_is))
    (case ha => (k_is))
    (case hn => (k_is))
    (case htk => (k_is))
    (case hm => (k_is))
    (case own => (kernel_rfl))
    (case kno => (kernel_rfl))
    (case fsp => (k_is))
    (case frd => (k_is))
    (case fin => (k_is))
    (case xCH => (k_is))
    (case rCH => (first | kernel_rfl | decide +kernel))
    (case saCH => (k_is))
    (case exCH => (k_is))
    (case tyCH => (k_is))
    (case kpCH => (k_is))
    (case inCH_index => (k_is))
    (case ty_iH => (k_is))
    (case xCR => (k_is))
    (case rCR => (first | kernel_rfl | decide +kernel))
    (case saCR => (k_is))
    (case exCR => (k_is))
    (case tyCR => (k_is))
    (case kpCR => (k_is))
    (case inCR_index => (k_is))
    (case ty_iR => (k_is))
    (case xCD => (k_is))
    (case rCD => (first | kernel_rfl | decide +kernel))
    (case saCD => (k_is))
    (case exCD => (k_is))
    (case tyCD => (k_is))
    (case kpCD => (k_is))
    (case inCD_index => (k_is))
    (case ty_iD => (k_is))
    (case xCN => (k_is))
    (case rCN => (first | kernel_rfl | decide +kernel))
    (case saCN => (k_is))
    (case exCN => (k_is))
    (case tyCN => (k_is))
    (case kpCN => (k_is))
    (case inCN_house => (k_is))
    (case ty_iN => (k_is))
    (case xCO => (k_is))
    (case rCO => (first | kernel_rfl | decide +kernel))
    (case saCO => (k_is))
    (case exCO => (k_is))
    (case tyCO => (k_is))
    (case kpCO => (k_is))
    (case inCO_one => (k_is))
    (case inCO_other => (k_is))
    (case ty_iO => (k_is))
    (case xCV => (k_is))
    (case rCV => (first | kernel_rfl | decide +kernel))
    (case saCV => (k_is))
    (case exCV => (k_is))
    (case tyCV => (k_is))
    (case kpCV => (k_is))
    (case inCV_thing => (k_is))
    (case ty_iV => (k_is))
    (case xCC => (k_is))
    (case rCC => (first | kernel_rfl | decide +kernel))
    (case saCC => (k_is))
    (case exCC => (k_is))
    (case tyCC => (k_is))
    (case kpCC => (k_is))
    (case inCC_evening => (k_is))
    (case ty_iC => (k_is))
    (case xCB => (k_is))
    (case rCB => (first | kernel_rfl | decide +kernel))
    (case saCB => (k_is))
    (case exCB => (k_is))
    (case tyCB => (k_is))
    (case kpCB => (k_is))
    (case inCB_index => (k_is))
    (case ty_iB => (k_is))
    (case gaCB => (k_is))
    (case ggCB => (k_is))
    (case hdCB => (k_is))
    (case gaCC => (k_is))
    (case ggCC => (k_is))
    (case hdCC => (k_is))
    (case em_vv => (kernel_rfl))
    (case em_cv => (kernel_rfl))
    (case em_cc => (kernel_rfl))
    (case sgL => (k_is))
    (case sgF => (k_is))
    (case sgN => (k_is))
    (case z_isinstance => (k_is))
    (case z_int => (k_is))
    (case z_bool => (k_is))
    (case z_str => (k_is))
    (case z_list => (k_is))
    (case z_tuple => (k_is))
    (case z_dict => (k_is))
    (case z_len => (k_is))
    (case z_all => (k_is))
    (case z_range => (k_is))
    (case z_enumerate => (k_is))
    (case z_set => (k_is))
    (case z_min => (k_is))
    (case z_zip => (k_is))
    (case z_repr => (k_is))
    (case z_any => (k_is))
    (case z_sorted => (k_is))
    (case tpNS => (kernel_rfl))
    (case tpCS => (kernel_rfl))
    (case tpNR => (kernel_rfl))
    (case tpCR => (kernel_rfl))
    (case tpNL => (kernel_rfl))
    (case tpCL => (kernel_rfl))
    (case tpne => (kernel_rfl))
    (case tpne2 => (kernel_rfl))
    (case tpne3 => (kernel_rfl))
